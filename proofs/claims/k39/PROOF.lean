import PyProof.Rows.All
import Wide.All
import OpenK.AllK
import Wide.FinOn
import Lean
import PyProof.EqAt
import PyProof.EqKinds
import PyProof.TupleCall
import PySem.Challenge.RW_combstrip_k39_whole_refusals
set_option Elab.async false
set_option linter.all false
set_option maxRecDepth 100000
set_option maxHeartbeats 40000000
local macro_rules | `(tactic| omega) => `(tactic| first | lia | omega +splitDisjunctions)
namespace L2
open PySem PySem.Spec PyProof.Rows
noncomputable abbrev Key:=Sum Int Str
noncomputable def keyIs:Key->Value->Bool
 | .inl k,v=>Value.isInt k v
 | .inr x,v=>Value.isStrOf x v
noncomputable def keyH (w:World):Key->Int
 | .inl k=>hashInt k
 | .inr x=>hashStr w x
theorem zaA:∀ {k:Key} {v:Value},keyIs k v=true->(∃ i t,k=Sum.inl i/\v=Value.int i t)\/(∃ x t,k=Sum.inr x/\v=Value.str x t)
 | .inl i,v,h=>by
  obtain ⟨t,e⟩:=Value.isInt_shape (k:=i) (v:=v) h
  exact .inl ⟨i,t,rfl,e⟩
 | .inr x,v,h=>by
  obtain ⟨t,e⟩:=Value.isStrOf_shape (x:=x) (v:=v) h
  exact .inr ⟨x,t,rfl,e⟩
theorem keyIs_int (i:Int) (t:Tok):keyIs (.inl i) (.int i t)=true:=by simp [keyIs,Value.isInt]
theorem keyIs_str (x:Str) (t:Tok):keyIs (.inr x) (.str x t)=true:=by simp [keyIs,Value.isStrOf]
theorem key_ll (a b:Int):decide ((Sum.inl a:Key)=Sum.inl b)=(a == b):=by
 by_cases e:a=b
 ·subst e; simp
 ·have h:¬ (Sum.inl a:Key)=Sum.inl b:=fun q=>e (Sum.inl.inj q)
  rw [decide_eq_false h]
  exact (beq_eq_false_iff_ne.mpr e).symm
theorem key_rr (a b:Str):decide ((Sum.inr a:Key)=Sum.inr b)=decide (a=b):=by
 by_cases e:a=b
 ·subst e; simp
 ·have h:¬ (Sum.inr a:Key)=Sum.inr b:=fun q=>e (Sum.inr.inj q)
  rw [decide_eq_false h,decide_eq_false e]
theorem key_lr (a:Int) (b:Str):decide ((Sum.inl a:Key)=Sum.inr b)=false:=decide_eq_false (fun q=>nomatch q)
theorem key_rl (a:Str) (b:Int):decide ((Sum.inr a:Key)=Sum.inl b)=false:=decide_eq_false (fun q=>nomatch q)
noncomputable def mixKind (prog:Program) (w:World):PySem.KeyKind prog w Key where
 is:=keyIs
 hash:=keyH w
 inj:=fun v a b ha hb=>by
  rcases zaA ha with ⟨i,t,rfl,rfl⟩ | ⟨x,t,rfl,rfl⟩
  ·rcases zaA hb with ⟨j,u,rfl,e⟩ | ⟨y,u,rfl,e⟩
   ·injection e with e1 _; rw [e1]
   ·exact nomatch e
  ·rcases zaA hb with ⟨j,u,rfl,e⟩ | ⟨y,u,rfl,e⟩
   ·exact nomatch e
   ·injection e with e1 _; rw [e1]
 byValue:=fun k v h=>by
  rcases zaA h with ⟨i,t,rfl,rfl⟩ | ⟨x,t,rfl,rfl⟩ <;> rfl
 pyHash:=fun hv h=>by
  rcases zaA hv with ⟨i,t,rfl,rfl⟩ | ⟨x,t,rfl,rfl⟩
  ·exact wpAny_pyHash_int h
  ·exact wpAny_pyHash_str h
 eqBool:=fun hu hv h=>by
  rcases zaA hu with ⟨i,t,rfl,rfl⟩ | ⟨x,t,rfl,rfl⟩
  ·rcases zaA hv with ⟨j,u,rfl,rfl⟩ | ⟨y,u,rfl,rfl⟩
   ·rw [key_ll] at h; exact wpAny_eqBool_int h
   ·rw [key_lr] at h; exact SeqAt.EqAt.int_str i t y u _ _ _ _ h
  ·rcases zaA hv with ⟨j,u,rfl,rfl⟩ | ⟨y,u,rfl,rfl⟩
   ·rw [key_rl] at h; exact SeqAt.EqAt.str_int x t j u _ _ _ _ h
   ·rw [key_rr] at h; exact wpAny_eqBool_str h
 «strs» := fun k x t v h=>by
  rcases zaA h with ⟨i,u,rfl,e⟩ | ⟨y,u,rfl,e⟩
  ·exact nomatch e
  ·injection e with e1 _
   subst e1
   cases v <;> rfl
theorem mixKind_int (prog:Program) (w:World) (i:Int) (t:Tok):(mixKind prog w).is (.inl i) (.int i t)=true:=keyIs_int i t
theorem mixKind_str (prog:Program) (w:World) (x:Str) (t:Tok):(mixKind prog w).is (.inr x) (.str x t)=true:=keyIs_str x t
inductive V where
 | non | bl (b:Bool) | int (i:Int) | str (x:Str) | byt (b:Array UInt8) | flt (b:UInt64) | ref (a:Addr) | ty (n:String)
 deriving DecidableEq
noncomputable def RelV:V->Value->Prop
 | .non,u=>u=Value.none
 | .bl b,u=>u=Value.bool b
 | .int i,u=>∃ t,u=Value.int i t
 | .str x,u=>∃ t,u=Value.str x t
 | .byt b,u=>∃ t,u=Value.bytes b t
 | .flt b,u=>∃ t,u=Value.float b t
 | .ref a,u=>u=Value.ref a
 | .ty n,u=>u=Value.type n
noncomputable abbrev Vals:List V->List Value->Prop:=Paired RelV
theorem Vals.length {xs:List V} {us:List Value} (r:Vals xs us):xs.length=us.length:=Paired.length r
theorem Vals.get:∀ {xs:List V} {us:List Value} {i:Nat} {x:V},Vals xs us->xs[i]?=some x->∃ u,us[i]?=some u/\RelV x u
 | _,_,_,_,.nil,e=>by simp at e
 | _,_,0,_,.cons r _,e=>by simp at e; subst e; exact ⟨_,rfl,r⟩
 | _,_,i + 1,x,.cons _ t,e=>by
  obtain ⟨u,h1,h2⟩:=Vals.get (i:=i) (x:=x) t (by simpa using e)
  exact ⟨u,by simpa using h1,h2⟩
theorem Vals.append:∀ {xs ys:List V} {us ws:List Value},Vals xs us->Vals ys ws->Vals (xs ++ ys) (us ++ ws)
 | _,_,_,_,.nil,s=>s
 | _,_,_,_,.cons r t,s => .cons r (Vals.append t s)
theorem Vals.take:∀ {xs:List V} {us:List Value} (n:Nat),Vals xs us->Vals (xs.take n) (us.take n)
 | _,_,0,_ => .nil
 | _,_,_ + 1,.nil => .nil
 | _,_,n + 1,.cons r t => .cons r (Vals.take n t)
theorem Vals.drop:∀ {xs:List V} {us:List Value} (n:Nat),Vals xs us->Vals (xs.drop n) (us.drop n)
 | _,_,0,r=>r
 | _,_,_ + 1,.nil => .nil
 | _,_,n + 1,.cons _ t=>Vals.drop n t
noncomputable def RelO:Option V->Option Value->Prop
 | some v,some u=>RelV v u
 | none,none=>True
 | _,_=>False
noncomputable def KV {κ : Type}:List (κ × V)->List (κ × Value)->Prop:=Paired fun (p : κ × V) (q : κ × Value)=>p.1=q.1/\RelV p.2 q.2
noncomputable def kV:Key->V
 | .inl i => .int i
 | .inr x => .str x
inductive HO where
  | lst (xs:List V)
  | tup (xs:List V)
  | dK (kvs:List (Key×V)) | dT (kvs:List (List Key×V))
  | set (S:Int->Bool) (n:Nat)
  | ins (C dx:Addr) (fs:List (Str×V))
  | own (x:Addr)
  | xd (fs:List (Str×V))
  | met (f x:Addr)
  | rng (lo hi:Int)
  | frz (o:Obj) (u:HO)
  | tbl (ps:Array Value)
  | ext (φ : Heap->Prop)
noncomputable abbrev Hp:=Addr->Option HO
noncomputable def upd (H:Hp) (a:Addr) (o:HO):Hp:=fun b=>if b=a then some o else H b
theorem zaf {H:Hp} {a:Addr} {o:HO}:upd H a o a=some o:=by unfold upd; rw [if_pos rfl]
theorem zal {H:Hp} {a b:Addr} {o:HO} (h:b≠a):upd H a o b=H b:=by unfold upd; rw [if_neg h]
theorem upd_upd {H:Hp} {a:Addr} {o u:HO}:upd (upd H a o) a u=upd H a u:=by
 funext b; unfold upd; split <;> rfl
theorem zcG {H:Hp} {a b:Addr} {o u:HO} (h:H a=some o) (h':H b=some u) (d:o≠u):a≠b:=by
 intro e; subst e; rw [h] at h'; exact d (Option.some.inj h')
theorem zas {H:Hp} {a b:Addr} {o:HO} (h:H a=some o) (h':H b=none):a≠b:=by
 intro e; subst e; rw [h] at h'; cases h'
section
variable (P:Program) (w:World)
noncomputable def ObjOk (H:Hp) (h:Heap) (a:Addr):HO->Prop
 | .lst xs=>xs.length<=sizeLine/\∃ (its:List Value) (n:Nat),Vals xs its/\h.get? a=some { cls := .type "list",data := .seq its.toArray n }
 | .tup xs=>xs.length<=sizeLine/\∃ its:List Value,Vals xs its/\IsTup h a its.toArray
 | .dK kvs=>kvs.length<=sizeLine/\(a == sysModules)=false/\∃ vs,KV kvs vs/\h.DictOf (mixKind P w) a vs
 | .dT kvs=>kvs.length<=sizeLine/\(a == sysModules)=false/\∃ xs:List (List Key×Addr×Value),
   Paired (fun (p:List Key×V) (q:List Key×Addr×Value)=>p.1=q.1/\H q.2.1=some (.tup (p.1.map kV))/\RelV p.2 q.2.2) kvs xs /\
   ∃ o es ep,h.get? a=some o/\o.ExactDict/\o.data = .dict es ep/\es.toList=xs.map (entryOfKey (tupleKind (mixKind P w)))/\(xs.map (·.1)).Nodup
 | .set S n=>h.SetOf (intKind P w) a S n
 | .ins C dx fs=>H dx=some (.own a)/\fs.length<=1000/\dx≠a/\h.get? a=some (PySem.W.instObj C dx) /\
   ∃ mA,h.Ns1 dx mA/\(∀ f,RelO (fs.lookup f) (mA f))/\PySem.Within mA (fs.map (·.1))
 | .own _=>∃ o,h.get? a=some o
 | .xd fs=>∃ mA,h.Ns1 a mA/\∀ f,RelO (fs.lookup f) (mA f)
 | .rng lo hi=>∃ t u v,h.get? a=some { cls := .type "range",data := .fields #[.int lo t,.int hi u,.int 1 v] }
 | .frz o u=>h.get? a=some o/\ObjOk H h a u
 | .tbl ps=>h.get? a=some { cls := .none,data := .fields ps }
 | .met f x=>h.get? a=some (PySem.W.methodObj (.ref f) (.ref x))
 | .ext φ => φ h/\(∃ o,h.get? a=some o)/\∀ h1 h2:Heap,φ h1->(∀ o,h1.get? a=some o->h2.get? a=some o) -> φ h2
noncomputable def HOk (H:Hp) (h:Heap):Prop:=∀ a o,H a=some o->ObjOk P w H h a o
end
section
variable {P:Program} {w:World} {H H':Hp} {h h':Heap} {a:Addr} {o:HO}
theorem ObjOk.lt (x:ObjOk P w H h a o):a < h.objs.size:=by
 cases o with
 | lst xs=>obtain ⟨_,_,_,_,e⟩:=x; exact Heap.lt_size e
 | tup xs=>obtain ⟨_,_,_,p⟩:=x; exact p.lt
 | dK kvs=>obtain ⟨_,_,_,_,o,_,_,e,_⟩:=x; exact Heap.lt_size e
 | dT kvs=>obtain ⟨_,_,_,_,o,_,_,e,_⟩:=x; exact Heap.lt_size e
 | set S n=>obtain ⟨o,_,_,_,e,_⟩:=x; exact Heap.lt_size e
 | ins C dx fs=>obtain ⟨_,_,_,e,_⟩:=x; exact Heap.lt_size e
 | own y=>obtain ⟨_,e⟩:=x; exact Heap.lt_size e
 | xd fs=>obtain ⟨_,⟨_,_,_,e,_⟩,_⟩:=x; exact Heap.lt_size e
 | rng lo hi=>obtain ⟨_,_,_,e⟩:=x; exact Heap.lt_size e
 | frz ob u=>obtain ⟨e,_⟩:=x; exact Heap.lt_size e
 | tbl ps=>exact Heap.lt_size (show h.get? a=some _ from x)
 | met f y=>exact Heap.lt_size (show h.get? a=some _ from x)
 | ext φ => obtain ⟨_,⟨_,e⟩,_⟩:=x; exact Heap.lt_size e
theorem Paired.mapP {α β : Type} {F G : α -> β -> Prop}:∀ {l₁ : List α} {l₂ : List β},Paired F l₁ l₂ -> (∀ a b,F a b->G a b)->Paired G l₁ l₂
 | _,_,.nil,_ => .nil
 | _,_,.cons r t,f => .cons (f _ _ r) (Paired.mapP t f)
theorem ObjOk.stay (x:ObjOk P w H h a o) (k:∀ b u,(b=a\/H b=some (.own a))->h.get? b=some u->h'.get? b=some u)
  (ho:∀ b,H b=some (.own a)->H' b=some (.own a)) (ht:∀ b xs,H b=some (.tup xs)->H' b=some (.tup xs)):ObjOk P w H' h' a o:=by
 induction o with
 | lst xs=>obtain ⟨z,its,n,r,e⟩:=x; exact ⟨z,its,n,r,k _ _ (.inl rfl) e⟩
 | tup xs=>obtain ⟨z,its,r,ob,e,c⟩:=x; exact ⟨z,its,r,ob,k _ _ (.inl rfl) e,c⟩
 | dK kvs=>obtain ⟨z,y,vs,r,ob,es,ep,e,c⟩:=x; exact ⟨z,y,vs,r,ob,es,ep,k _ _ (.inl rfl) e,c⟩
 | dT kvs =>
  obtain ⟨z,y,xs,r,ob,es,ep,e,c⟩:=x
  exact ⟨z,y,xs,Paired.mapP r fun p q z=>⟨z.1,ht _ _ z.2.1,z.2.2⟩,ob,es,ep,k _ _ (.inl rfl) e,c⟩
 | set S n=>obtain ⟨ob,es,ep,t,e,c⟩:=x; exact ⟨ob,es,ep,t,k _ _ (.inl rfl) e,c⟩
 | ins C dx fs =>
  obtain ⟨d,z,ne,e,mA,⟨od,es,ep,e2,c⟩,r⟩:=x
  exact ⟨ho _ d,z,ne,k _ _ (.inl rfl) e,mA,⟨od,es,ep,k _ _ (.inr d) e2,c⟩,r⟩
 | own y=>obtain ⟨ob,e⟩:=x; exact ⟨ob,k _ _ (.inl rfl) e⟩
 | xd fs=>obtain ⟨mA,⟨od,es,ep,e,c⟩,r⟩:=x; exact ⟨mA,⟨od,es,ep,k _ _ (.inl rfl) e,c⟩,r⟩
 | rng lo hi=>obtain ⟨t,u,v,e⟩:=x; exact ⟨t,u,v,k _ _ (.inl rfl) e⟩
 | frz ob u ih=>obtain ⟨e,q⟩:=x; exact ⟨k _ _ (.inl rfl) e,ih q⟩
 | tbl ps =>
  have e:h.get? a=some { cls := .none,data := .fields ps }:=x
  show h'.get? a=some { cls := .none,data := .fields ps }
  exact k a _ (.inl rfl) e
 | met f y =>
  have e:h.get? a=some (PySem.W.methodObj (.ref f) (.ref y)):=x
  show h'.get? a=some (PySem.W.methodObj (.ref f) (.ref y))
  exact k a _ (.inl rfl) e
 | ext φ => obtain ⟨p,⟨o,e⟩,st⟩:=x; exact ⟨st _ _ p fun o q=>k _ _ (.inl rfl) q,⟨o,k _ _ (.inl rfl) e⟩,st⟩
theorem HOk.lt (x:HOk P w H h) (e:H a=some o):a < h.objs.size:=(x a o e).lt
theorem HOk.fresh (x:HOk P w H h) (e:h.objs.size<=a):H a=none:=by
 cases q:H a with
 | none=>rfl
 | some u=>exact absurd (Nat.lt_of_lt_of_le (x.lt q) e) (Nat.lt_irrefl _)
theorem HOk.kept (x:HOk P w H h) (k:∀ b u,h.get? b=some u->h'.get? b=some u):HOk P w H h':=fun a o e =>
 (x a o e).stay (fun b u _ q=>k b u q) (fun _ q=>q) fun _ _ q=>q
theorem HOk.laid (x:HOk P w H h) (k:∀ b u,h.get? b=some u->h'.get? b=some u) (hp:h.objs.size<=a) (new:ObjOk P w (upd H a o) h' a o):HOk P w (upd H a o) h':=fun b u e=>by
 have hn:=x.fresh hp
 by_cases hb:b=a
 ·subst hb; rw [zaf] at e; cases e; exact new
 ·rw [zal hb] at e
  exact (x b u e).stay (fun c v _ q=>k c v q) (fun c q=>by rw [zal (zas q hn)]; exact q) fun c xs q=>by rw [zal (zas q hn)]; exact q
end
noncomputable def Rd (H:Hp) (a:Addr) (u:HO):Prop:=H a=some u\/∃ o,H a=some (.frz o u)
theorem Rd.ok {P:Program} {w:World} {H:Hp} {h:Heap} {a:Addr} {u:HO} (r:Rd H a u) (x:HOk P w H h):ObjOk P w H h a u:=by
 rcases r with r | ⟨o,r⟩
 ·exact x a u r
 ·obtain ⟨_,q⟩:=x a _ r
  exact q
noncomputable def Mut:Option HO->Prop
 | some (.lst _)=>True
 | some (.dK _)=>True
 | some (.dT _)=>True
 | some (.set _ _)=>True
 | some (.ins _ _ _)=>True
 | some (.ext _)=>True
 | _=>False
section
variable {P:Program} {w:World} {H:Hp} {h h':Heap} {x e:Addr} {o':HO}
theorem HOk.write (ok:HOk P w H h) (mu:Mut (H x)) (he:e=x\/H e=some (.own x)) (k:∀ b u,b≠e->h.get? b=some u->h'.get? b=some u) (heo:∃ u,h'.get? e=some u)
  (new:ObjOk P w (upd H x o') h' x o'):HOk P w (upd H x o') h':=fun b u q=>by
 have nown:∀ c y,H c=some (.own y)->c≠x:=fun c y r z=>by subst z; rw [r] at mu; exact mu
 have ntup:∀ c xs,H c=some (.tup xs)->c≠x:=fun c xs r z=>by subst z; rw [r] at mu; exact mu
 by_cases hb:b=x
 ·subst hb; rw [zaf] at q; cases q; exact new
 ·rw [zal hb] at q
  by_cases hbe:b=e
  ·have q':H b=some (.own x):=by
    rcases he with z | z
    ·exact absurd (hbe.trans z) hb
    ·rw [hbe]; exact z
   rw [q] at q'; cases q'
   obtain ⟨v,hv⟩:=heo
   exact ⟨v,by rw [hbe]; exact hv⟩
  ·refine (ok b u q).stay (fun c v hc r=>k c v ?_ r) (fun c r=>by rw [zal (nown c b r)]; exact r) fun c xs r=>by rw [zal (ntup c xs r)]; exact r
   rcases hc with rfl | hc
   ·exact hbe
   ·rintro rfl
    rcases he with z | z
    ·exact nown c b hc z
    ·rw [hc] at z; cases z; exact hb rfl
end
structure Un (fs ex:List Addr) (H H':Hp) (h h':Heap):Prop where
 keep:∀ b o,h.get? b=some o->H b=none->b ∉ fs->b ∉ ex->h'.get? b=some o
 slot:∀ b o,h.get? b=some o->H b=none->b∈fs->b ∉ ex->∃ sl,h'.get? b=some { o with slots:=sl }
 free:∀ b o,h.get? b=some o->H b=none->b ∉ ex->H' b=none
 there:∀ b o,h.get? b=some o->b ∉ ex->∃ o',h'.get? b=some o'
 tups:∀ b xs,H b=some (.tup xs)->H' b=some (.tup xs)
 frzs:∀ b o u,H b=some (.frz o u)->H' b=some (.frz o u)
 tbls:∀ b ps,H b=some (.tbl ps)->∃ more,H' b=some (.tbl (ps ++ more))
section
variable {fs fs' ex ex':List Addr} {H H1 H2:Hp} {h h1 h2 h':Heap} {a x e:Addr} {o:HO}
theorem Un.any (u:Un fs ex H H1 h h1) {b:Addr} {ob:Obj} (q:h.get? b=some ob) (n:H b=none) (hx:b ∉ ex):∃ sl,h1.get? b=some { ob with slots:=sl }:=by
 by_cases hb:b∈fs
 ·exact u.slot b ob q n hb hx
 ·exact ⟨ob.slots,u.keep b ob q n hb hx⟩
theorem Un.trans (a:Un fs ex H H1 h h1) (b:Un fs ex H1 H2 h1 h2):Un fs ex H H2 h h2 where
 keep:=fun c ob q n hc hx=>b.keep c ob (a.keep c ob q n hc hx) (a.free c ob q n hx) hc hx
 slot:=fun c ob q n hc hx=>by
  obtain ⟨sl,e1⟩:=a.slot c ob q n hc hx
  obtain ⟨sl',e2⟩:=b.slot c _ e1 (a.free c ob q n hx) hc hx
  exact ⟨sl',e2⟩
 free:=fun c ob q n hx=>by
  obtain ⟨o',e1⟩:=a.there c ob q hx
  exact b.free c o' e1 (a.free c ob q n hx) hx
 there:=fun c ob q hx=>by
  obtain ⟨o',e1⟩:=a.there c ob q hx
  exact b.there c o' e1 hx
 tups:=fun c xs q=>b.tups c xs (a.tups c xs q)
 frzs:=fun c ob xs q=>b.frzs c ob xs (a.frzs c ob xs q)
 tbls:=fun c ps q=>by
  obtain ⟨m1,e1⟩:=a.tbls c ps q
  obtain ⟨m2,e2⟩:=b.tbls c _ e1
  exact ⟨m1 ++ m2,by rw [e2,Array.append_assoc]⟩
theorem Un.kept (k:∀ b u,h.get? b=some u->h'.get? b=some u):Un fs ex H H h h' :=
 ⟨fun b ob q _ _ _=>k b ob q,fun b ob q _ _ _=>⟨ob.slots,k b ob q⟩,fun _ _ _ n _=>n,fun b ob q _=>⟨ob,k b ob q⟩,fun _ _ q=>q,fun _ _ _ q=>q,fun _ ps q=>⟨#[],by rw [q]; simp⟩⟩
theorem Un.refl:Un fs ex H H h h:=Un.kept fun _ _ q=>q
theorem Un.laid (k:∀ b u,h.get? b=some u->h'.get? b=some u) (hp:h.objs.size<=a) (hn:H a=none):Un fs ex H (upd H a o) h h' where
 keep:=fun b u q _ _ _=>k b u q
 slot:=fun b u q _ _ _=>⟨u.slots,k b u q⟩
 free:=fun b u q n _=>by rw [zal (Nat.ne_of_lt (Nat.lt_of_lt_of_le (Heap.lt_size q) hp))]; exact n
 there:=fun b u q _=>⟨u,k b u q⟩
 tups:=fun b xs q=>by rw [zal (zas q hn)]; exact q
 frzs:=fun b u xs q=>by rw [zal (zas q hn)]; exact q
 tbls:=fun b ps q=>⟨#[],by rw [zal (zas q hn),q]; simp⟩
theorem Un.write (mu:Mut (H x)) (he:e=x\/H e=some (.own x)) (k:∀ b u,b≠e->h.get? b=some u->h'.get? b=some u) (heo:∃ u,h'.get? e=some u):Un fs ex H (upd H x o) h h':=by
 have hx:∀ b,H b=none->b≠x:=fun b n z=>by subst z; rw [n] at mu; exact mu
 have hb:∀ b,H b=none->b≠e:=fun b n z=>by
  subst z
  rcases he with r | r
  ·exact hx b n r
  ·rw [n] at r; cases r
 have hm:∀ b u,H b=some u->¬ Mut (some u)->b≠x:=fun b u q nm z=>by subst z; rw [q] at mu; exact nm mu
 refine ⟨fun b u q n _ _=>k b u (hb b n) q,fun b u q n _ _=>⟨u.slots,k b u (hb b n) q⟩,fun b u q n _=>by rw [zal (hx b n)]; exact n,fun b u q _ => ?_,
  fun b xs q=>by rw [zal (hm b _ q fun z=>z)]; exact q,fun b u xs q=>by rw [zal (hm b _ q fun z=>z)]; exact q,fun b ps q=>⟨#[],by rw [zal (hm b _ q fun z=>z),q]; simp⟩⟩
 by_cases hbe:b=e
 ·subst hbe; exact heo
 ·exact ⟨u,k b u hbe q⟩
end
noncomputable def trk (h:Heap) (H:Hp):List Addr:=(List.range h.objs.size).filter fun a=>(H a).isSome
noncomputable def hidT (h:Heap) (H:Hp):Heap:=PySem.W.hideAll h (trk h H)
theorem hidT_size (h:Heap) (H:Hp):(hidT h H).objs.size=h.objs.size:=PySem.W.hideAll_size _ _
theorem hidT_get {h:Heap} {H:Hp} {b:Addr} {o:Obj} (e:h.get? b=some o) (n:H b=none):(hidT h H).get? b=some o :=
 PySem.W.hideAll_get _ e fun hm=>by
  have q:(H b).isSome=true:=(List.mem_filter.mp hm).2
  rw [n] at q; simp at q
theorem of_hidT {h:Heap} {H:Hp} {b:Addr} {o:Obj} (e:(hidT h H).get? b=some o):h.get? b=some o/\H b=none:=by
 have e':h.get? b=some o:=PySem.W.of_hideAll (trk h H) e
 refine ⟨e',?_⟩
 cases q:H b with
 | none=>rfl
 | some x =>
  have hm:b∈trk h H:=List.mem_filter.mpr ⟨List.mem_range.mpr (Heap.lt_size e'),by simp [q]⟩
  have z:(hidT h H).get? b=none:=PySem.W.hideAll_none (trk h H) hm
  rw [z] at e; cases e
noncomputable def allNews (g h:Heap) (L:Addr):List (Addr×Obj):=(List.range h.objs.size).filterMap fun a=>if a=L\/(g.get? a).isSome=true then none else (h.get? a).map fun o=>(a,o)
noncomputable def rest (g h:Heap) (L d:Addr):List (Addr×Obj):=(allNews g h L).filter fun p=>decide (p.1≠d)
structure Mod (K:W.Frag) (mg:Str->Option Value) (base:Heap):Prop where
 kin:K.In base
 glob:base.Ns mainGlobals mg
 blt:∃ mb,base.Ns builtinsNs mb/\∀ x:Str,x ≠ "__name__" -> mb x=bootBuiltins x
 nolimit:base.NoLimit
structure Cx where
 prog:Program
 w:World
 K:W.Frag
 mg:Str->Option Value
 base:Heap
 A:Around
 N:List Str
 s₀ : Shared
 H₀ : Hp
 env:Env
 outer:List Env
 stack:List Env
 ex:List Addr
 fn:Str->Bool
 calm:Bool
 pn:List (Addr×Obj)
 xe:Value->Shared->Prop
noncomputable def frs (l:List Env):List Addr:=l.filterMap (·.frame)
noncomputable abbrev Cx.fs (X:Cx):List Addr:=frs X.outer
noncomputable def Vis (sc:Scope) (x:Str):Prop:=sc.names.lookup x=some .local\/sc.names.lookup x=some .cell\/sc.names.lookup x=some .free
noncomputable def Loc (sc:Scope) (x:Str):Prop:=sc.names.lookup x=some .local\/sc.names.lookup x=some .cell
noncomputable def Look (env:Env) (h:Heap) (m:Str->Option Value) (x:Str) (u:Value):Prop :=
 (env.kindOf x=some .local/\m x=some u)\/((env.kindOf x=some .cell\/env.kindOf x=some .free)/\∃ c,env.cells.lookup x=some c/\h.IsCell c (some u))
structure Cx.Ok (X:Cx):Prop where
 mod:Mod X.K X.mg X.base
 kind:X.env.scope.kind = .function
 glob:X.env.globals=mainGlobals
 blt:X.env.builtins=builtinsNs
 above:X.s₀.heap.objs.size<=X.env.locals
 inj:∀ x y c,X.env.cells.lookup x=some c->X.env.cells.lookup y=some c->x=y
 has:∀ x,(X.env.kindOf x=some .cell\/X.env.kindOf x=some .free)->∃ c,X.env.cells.lookup x=some c
 cab:∀ x c,X.fn x=true->X.env.cells.lookup x=some c->X.s₀.heap.objs.size<=c
 hd:X.calm=true->X.A.handled=none
 frames:X.A.frames=some X.stack
 stk:X.stack=X.outer\/(X.stack=X.env :: X.outer/\X.env.frame=some X.env.locals)
 exf:∀ b∈X.ex,b≠X.env.locals/\∀ x c,X.env.cells.lookup x=some c->c≠b
 bs:∀ b o,X.base.get? b=some o->X.s₀.heap.get? b=some o/\X.H₀ b=none
 bsz:X.base.objs.size<=X.s₀.heap.objs.size
 noex:∀ b o,X.base.get? b=some o->b ∉ X.ex
 exfs:∀ b∈X.ex,b ∉ X.fs
 funs:X.s₀.heap.FunFrames X.base X.outer
 frf:∀ b∈X.fs,X.H₀ b=none
structure Inv (X:Cx) (pins:List (Addr×Obj)) (σ : List (Option V)) (H:Hp) (s:Shared):Prop where
 ok:X.Ok
 os:s.os=X.s₀.os
 bare:AllBare s.gens
 base:Un X.fs X.ex X.H₀ H X.s₀.heap s.heap
 loc:∃ m,s.heap.Ns X.env.locals m/\∀ (i:Nat) (x:Str) (v:V),X.N[i]?=some x -> σ[i]?=some (some v)->Vis X.env.scope x->∃ u,RelV v u/\Look X.env s.heap m x u
 cell:∀ x c,X.env.cells.lookup x=some c->∃ v,s.heap.IsCell c v
 free:H X.env.locals=none
 freeC:∀ x c,X.env.cells.lookup x=some c->H c=none
 pin:∀ p∈X.pn ++ pins,s.heap.get? p.1=some p.2/\H p.1=none/\p.1≠X.env.locals/\p.1 ∉ X.fs/\∀ v,p.2.data ≠ .cell v
 hok:HOk X.prog X.w H s.heap
 len : σ.length=X.N.length
section
variable {X:Cx} {pins:List (Addr×Obj)} {σ : List (Option V)} {H H':Hp} {s:Shared} {h':Heap}
theorem Cx.Ok.nofr (ok:X.Ok) {b:Addr} {o:Obj} (e:X.base.get? b=some o):b ∉ X.fs:=fun hb=>by
 have:=(ok.funs.mem hb).1
 rw [e] at this; cases this
theorem Inv.bs (I:Inv X pins σ H s):∀ b o,X.base.get? b=some o->s.heap.get? b=some o/\H b=none:=fun b o e =>
 ⟨I.base.keep b o (I.ok.bs b o e).1 (I.ok.bs b o e).2 (I.ok.nofr e) (I.ok.noex b o e),I.base.free b o (I.ok.bs b o e).1 (I.ok.bs b o e).2 (I.ok.noex b o e)⟩
theorem Inv.bk (I:Inv X pins σ H s):∀ b o,X.base.get? b=some o->s.heap.get? b=some o:=fun b o e=>(I.bs b o e).1
theorem Inv.mod (I:Inv X pins σ H s):Mod X.K X.mg X.base:=I.ok.mod
theorem Inv.kIn (I:Inv X pins σ H s):X.K.In s.heap:=I.ok.mod.kin.keeps I.bk
theorem Inv.lt (I:Inv X pins σ H s):X.env.locals < s.heap.objs.size:=let ⟨_,hn,_⟩:=I.loc; hn.lt
theorem Inv.sz (I:Inv X pins σ H s):X.s₀.heap.objs.size<=s.heap.objs.size:=Nat.le_trans I.ok.above (Nat.le_of_lt I.lt)
theorem Inv.nofs (I:Inv X pins σ H s) {a:Addr} (h:s.heap.objs.size<=a):a ∉ X.fs:=fun hb=>by
 obtain ⟨_,o,ho,_⟩:=I.ok.funs.mem hb
 exact absurd (Nat.lt_of_lt_of_le (Heap.lt_size ho) (Nat.le_trans I.sz h)) (Nat.lt_irrefl _)
theorem Inv.cne (I:Inv X pins σ H s):∀ x c,X.env.cells.lookup x=some c->c≠X.env.locals:=fun x c e z=>by
 obtain ⟨v,o,ho,hd⟩:=I.cell x c e
 obtain ⟨m,⟨o',es,ep,ho',hd',_⟩,_⟩:=I.loc
 rw [z,ho'] at ho; cases ho; rw [hd'] at hd; cases hd
theorem Inv.funs (I:Inv X pins σ H s):s.heap.FunFrames X.base X.outer:=by
 have all:∀ (l:List Env),(∀ b∈frs l,b∈X.fs)->X.s₀.heap.FunFrames X.base l->s.heap.FunFrames X.base l:=by
  intro l
  induction l with
  | nil=>intro _ _; trivial
  | cons env r ih =>
   intro hs hl
   obtain ⟨hk,⟨L,o,hf,hn,ho,hd⟩,hr⟩:=hl
   have hL:L∈X.fs:=hs L (by unfold frs; rw [List.filterMap_cons,hf]; exact List.mem_cons_self)
   obtain ⟨sl,e⟩:=I.base.slot L o ho (I.ok.frf L hL) hL fun z=>I.ok.exfs L z hL
   exact ⟨hk,⟨L,_,hf,hn,e,hd⟩,ih (fun b hb=>hs b (by unfold frs; rw [List.filterMap_cons,hf]; exact List.mem_cons_of_mem _ hb)) hr⟩
 exact all X.outer (fun _ hb=>hb) I.ok.funs
theorem Inv.stack (I:Inv X pins σ H s):s.heap.FunFrames X.base X.stack:=by
 rcases I.ok.stk with e | ⟨e,hf⟩
 ·rw [e]; exact I.funs
 ·rw [e]
  obtain ⟨m,hn,_⟩:=I.loc
  refine .cons (by rw [I.ok.kind]; decide) hf hn ?_ I.funs
  exact Heap.get?_none_of_le (Nat.le_trans I.ok.bsz I.ok.above)
theorem Inv.stkSub (I:Inv X pins σ H s):∀ b∈frs X.stack,b∈X.env.locals :: X.fs:=fun b hb=>by
 rcases I.ok.stk with e | ⟨e,hf⟩
 ·rw [e] at hb; exact List.mem_cons_of_mem _ hb
 ·rw [e] at hb
  unfold frs at hb
  rw [List.filterMap_cons,hf] at hb
  exact hb
theorem Inv.stkFree (I:Inv X pins σ H s):∀ b∈frs X.stack,H b=none:=fun b hb=>by
 rcases List.mem_cons.mp (I.stkSub b hb) with e | hb
 ·rw [e]; exact I.free
 ·obtain ⟨_,o,ho,_⟩:=I.ok.funs.mem hb
  exact I.base.free b o ho (I.ok.frf b hb) fun z=>I.ok.exfs b z hb
theorem Inv.step {g':Array GenState} {t':Nat} {d':Drawn} {ch:List Addr} (I:Inv X pins σ H s)
  (hch:∀ b∈ch,(b∈X.ex\/X.s₀.heap.objs.size<=b)/\b≠X.env.locals/\(∀ x c,X.env.cells.lookup x=some c->c≠b)/\∀ p∈X.pn ++ pins,p.1≠b)
  (keep:∀ b o,b≠X.env.locals->b ∉ X.fs->b ∉ ch->s.heap.get? b=some o->H b=none->h'.get? b=some o)
  (slot:∀ b o,b≠X.env.locals->b∈X.fs->b ∉ ch->s.heap.get? b=some o->H b=none->∃ sl,h'.get? b=some { o with slots:=sl }) (free:∀ b o,b ∉ ch->s.heap.get? b=some o->H b=none->H' b=none)
  (there:∀ b o,b ∉ ch->s.heap.get? b=some o->∃ o',h'.get? b=some o')
  (tups:∀ b xs,H b=some (.tup xs)->H' b=some (.tup xs)) (frzs:∀ b o u,H b=some (.frz o u)->H' b=some (.frz o u)) (tbls:∀ b ps,H b=some (.tbl ps)->∃ more,H' b=some (.tbl (ps ++ more)))
  (ns:∀ m,s.heap.Ns X.env.locals m->h'.Ns X.env.locals m) (hok:HOk X.prog X.w H' h') (hg:AllBare g') :
  Inv X pins σ H' { s with heap:=h',gens:=g',drawn:=d',toks:=t' }:=by
 have neL:∀ b o,X.s₀.heap.get? b=some o->b≠X.env.locals:=fun b o e=>Nat.ne_of_lt (Nat.lt_of_lt_of_le (Heap.lt_size e) I.ok.above)
 have neC:∀ b o,X.s₀.heap.get? b=some o->b ∉ X.ex->b ∉ ch:=fun b o e hx hb=>by
  rcases (hch b hb).1 with z | z
  ·exact hx z
  ·exact absurd (Nat.lt_of_lt_of_le (Heap.lt_size e) z) (Nat.lt_irrefl _)
 have cellK:∀ x c,X.env.cells.lookup x=some c->∀ v,s.heap.IsCell c v->h'.IsCell c v:=fun x c e v ⟨o,ho,hd⟩=>by
  have nch:c ∉ ch:=fun z=>(hch c z).2.2.1 x c e rfl
  by_cases hc:c∈X.fs
  ·obtain ⟨sl,q⟩:=slot c o (I.cne x c e) hc nch ho (I.freeC x c e)
   exact ⟨_,q,hd⟩
  ·exact ⟨o,keep c o (I.cne x c e) hc nch ho (I.freeC x c e),hd⟩
 refine ⟨I.ok,I.os,hg,⟨fun b o e n hb hx => ?_,fun b o e n hb hx => ?_,fun b o e n hx => ?_,fun b o e hx => ?_,fun b xs e=>tups b xs (I.base.tups b xs e),fun b o xs e=>frzs b o xs (I.base.frzs b o xs e),fun b ps e => ?_⟩,?_,fun x c e => ?_,?_,fun x c e => ?_,fun p hp => ?_,hok,I.len⟩
 ·exact keep b o (neL b o e) hb (neC b o e hx) (I.base.keep b o e n hb hx) (I.base.free b o e n hx)
 ·obtain ⟨sl,e1⟩:=I.base.slot b o e n hb hx
  obtain ⟨sl',e2⟩:=slot b _ (neL b o e) hb (neC b o e hx) e1 (I.base.free b o e n hx)
  exact ⟨sl',e2⟩
 ·obtain ⟨o',e1⟩:=I.base.there b o e hx
  exact free b o' (neC b o e hx) e1 (I.base.free b o e n hx)
 ·obtain ⟨o',e1⟩:=I.base.there b o e hx
  exact there b o' (neC b o e hx) e1
 ·obtain ⟨m1,e1⟩:=I.base.tbls b ps e
  obtain ⟨m2,e2⟩:=tbls b _ e1
  exact ⟨m1 ++ m2,by rw [e2,Array.append_assoc]⟩
 ·obtain ⟨m,hn,hl⟩:=I.loc
  refine ⟨m,ns m hn,fun i x v e1 e2 e3 => ?_⟩
  obtain ⟨u,r,l⟩:=hl i x v e1 e2 e3
  refine ⟨u,r,?_⟩
  rcases l with l | ⟨k,c,e,z⟩
  ·exact .inl l
  ·exact .inr ⟨k,c,e,cellK x c e _ z⟩
 ·obtain ⟨v,z⟩:=I.cell x c e
  exact ⟨v,cellK x c e v z⟩
 ·obtain ⟨m,⟨o,_,_,ho,_⟩,_⟩:=I.loc
  exact free _ o (fun z=>(hch _ z).2.1 rfl) ho I.free
 ·obtain ⟨v,o,ho,hd⟩:=I.cell x c e
  exact free c o (fun z=>(hch c z).2.2.1 x c e rfl) ho (I.freeC x c e)
 ·obtain ⟨e,n,ne,nf,d⟩:=I.pin p hp
  have nch:p.1 ∉ ch:=fun z=>(hch p.1 z).2.2.2 p hp rfl
  exact ⟨keep p.1 p.2 ne nf nch e n,free p.1 p.2 nch e n,ne,nf,d⟩
theorem Inv.un {t':Nat} (I:Inv X pins σ H s) (u:Un X.fs [] H H' s.heap h') (hok:HOk X.prog X.w H' h'):Inv X pins σ H' { s with heap:=h',toks:=t' }:=by
 obtain ⟨m,⟨o,es,ep,ho,r⟩,_⟩:=id I.loc
 obtain ⟨sl,hL⟩:=u.any ho I.free (by simp)
 exact I.step (g':=s.gens) (d':=s.drawn) (ch := []) (fun _ z=>nomatch z) (fun b o _ hb _ e n=>u.keep b o e n hb (by simp)) (fun b o _ hb _ e n=>u.slot b o e n hb (by simp)) (fun b o _ e n=>u.free b o e n (by simp)) (fun b o _ e=>u.there b o e (by simp)) u.tups u.frzs u.tbls (fun m' hm=>by
  obtain ⟨o',es',ep',ho',r'⟩:=hm
  rw [ho] at ho'; cases ho'
  exact ⟨_,es',ep',hL,r'⟩) hok I.bare
theorem Inv.call {g':Array GenState} {t':Nat} {d':Drawn} {ch:List Addr} (I:Inv X pins σ H s) (u:Un (frs X.stack) ch H H' s.heap h') (hok:HOk X.prog X.w H' h') (hg:AllBare g')
  (hch:∀ b∈ch,(b∈X.ex\/X.s₀.heap.objs.size<=b)/\b≠X.env.locals/\(∀ x c,X.env.cells.lookup x=some c->c≠b)/\∀ p∈X.pn ++ pins,p.1≠b) :
  Inv X pins σ H' { s with heap:=h',gens:=g',drawn:=d',toks:=t' }:=by
 obtain ⟨m,⟨o,es,ep,ho,r⟩,_⟩:=id I.loc
 obtain ⟨sl,hL⟩:=u.any ho I.free fun z=>(hch _ z).2.1 rfl
 exact I.step (ch:=ch) hch (fun b o hL hb hc e n=>u.keep b o e n (fun z=>(List.mem_cons.mp (I.stkSub b z)).elim hL hb) hc) (fun b o _ _ hc e n=>u.any e n hc) (fun b o hc e n=>u.free b o e n hc) (fun b o hc e=>u.there b o e hc) u.tups u.frzs u.tbls (fun m' hm=>by
  obtain ⟨o',es',ep',ho',r'⟩:=hm
  rw [ho] at ho'; cases ho'
  exact ⟨_,es',ep',hL,r'⟩) hok hg
theorem Inv.turned {t':Nat} {it:Addr} (I:Inv X pins σ H s) (k:∀ b o,b≠it->s.heap.get? b=some o->h'.get? b=some o) (hn:H it=none) (hL:it≠X.env.locals)
  (h1:it∈X.ex\/X.s₀.heap.objs.size<=it) (h2:∀ x c,X.env.cells.lookup x=some c->c≠it) (h3:∀ p∈X.pn ++ pins,p.1≠it):Inv X pins σ H { s with heap:=h',toks:=t' }:=by
 have nit:∀ b u,H b=some u->b≠it:=fun b u e z=>by rw [z,hn] at e; cases e
 refine I.step (g':=s.gens) (d':=s.drawn) (ch := [it]) (fun b hb => ?_) (fun b o _ _ hc e _=>k b o (fun z=>hc (by simp [z])) e) (fun b o _ _ hc e _=>⟨o.slots,k b o (fun z=>hc (by simp [z])) e⟩) (fun _ _ _ _ n=>n)
  (fun b o hc e=>⟨o,k b o (fun z=>hc (by simp [z])) e⟩) (fun _ _ e=>e) (fun _ _ _ e=>e) (fun b ps e=>⟨#[],by rw [e]; simp⟩) (fun m hm => ?_) (fun b u e => ?_) I.bare
 ·have e:b=it:=by simpa using hb
  subst e
  exact ⟨h1,hL,h2,h3⟩
 ·obtain ⟨o,es,ep,ho,r⟩:=hm
  exact ⟨o,es,ep,k _ o (Ne.symm hL) ho,r⟩
 ·refine (I.hok b u e).stay (fun c v hc q=>k c v ?_ q) (fun _ q=>q) fun _ _ q=>q
  rcases hc with z | z
  ·rw [z]; exact nit b u e
  ·exact nit c _ z
theorem Inv.tok (I:Inv X pins σ H s) (t:Nat):Inv X pins σ H { s with toks:=t }:=I.un (h':=s.heap) (t':=t) Un.refl I.hok
theorem Inv.kept {t':Nat} (I:Inv X pins σ H s) (k:∀ b u,s.heap.get? b=some u->h'.get? b=some u):Inv X pins σ H { s with heap:=h',toks:=t' }:=I.un (Un.kept k) (I.hok.kept k)
theorem Inv.laid {a:Addr} {o:HO} {t':Nat} (I:Inv X pins σ H s) (k:∀ b u,s.heap.get? b=some u->h'.get? b=some u) (hp:s.heap.objs.size<=a) (new:ObjOk X.prog X.w (upd H a o) h' a o) :
  Inv X pins σ (upd H a o) { s with heap:=h',toks:=t' }:=I.un (Un.laid k hp (I.hok.fresh hp)) (I.hok.laid k hp new)
theorem Inv.write {x e:Addr} {o:HO} {t':Nat} (I:Inv X pins σ H s) (mu:Mut (H x)) (he:e=x\/H e=some (.own x)) (k:∀ b u,b≠e->s.heap.get? b=some u->h'.get? b=some u) (heo:∃ u,h'.get? e=some u)
  (new:ObjOk X.prog X.w (upd H x o) h' x o):Inv X pins σ (upd H x o) { s with heap:=h',toks:=t' }:=I.un (Un.write mu he k heo) (I.hok.write mu he k heo new)
theorem Inv.weak {σ':List (Option V)} (I:Inv X pins σ H s) (hl : σ'.length = σ.length) (w:∀ (i:Nat) v,σ'[i]?=some (some v) -> σ[i]?=some (some v)):Inv X pins σ' H s :=
 ⟨I.ok,I.os,I.bare,I.base,let ⟨m,hn,hl'⟩:=I.loc; ⟨m,hn,fun i x v e1 e2 e3=>hl' i x v e1 (w i v e2) e3⟩,I.cell,I.free,I.freeC,I.pin,I.hok,hl.trans I.len⟩
theorem Inv.pins_of {pins':List (Addr×Obj)} (I:Inv X pins σ H s) (h:∀ p∈pins',s.heap.get? p.1=some p.2/\H p.1=none/\p.1≠X.env.locals/\p.1 ∉ X.fs/\∀ v,p.2.data ≠ .cell v):Inv X pins' σ H s :=
 ⟨I.ok,I.os,I.bare,I.base,I.loc,I.cell,I.free,I.freeC,fun p hp=>(List.mem_append.mp hp).elim (fun z=>I.pin p (List.mem_append_left _ z)) (h p),I.hok,I.len⟩
theorem zd2 {N:List Str} (hN:N.Nodup) {i j:Nat} {x:Str} (a:N[i]?=some x) (b:N[j]?=some x):i=j:=by
 obtain ⟨h1,e1⟩:=List.getElem?_eq_some_iff.mp a
 obtain ⟨h2,e2⟩:=List.getElem?_eq_some_iff.mp b
 exact (List.getElem_inj hN).mp (e1.trans e2.symm)
theorem zc9 {M:Model} {A:Around} {E:Value->Shared->Prop} {i:Nat} {x:Str} {v:V} {u:Value} {Q:Unit->Shared->Prop} (I:Inv X pins σ H s) (hN:X.N.Nodup) (hi:X.N[i]?=some x) (hx:Loc X.env.scope x) (r:RelV v u)
  (h:∀ s',Inv X pins (σ.set i (some v)) H s'->(∃ a,Heap.SameBut a s.heap s'.heap/\(a=X.env.locals\/X.env.cells.lookup x=some a))->Q () s') (hf:X.fn x=true\/X.env.scope.names.lookup x=some .local:=by first | exact .inl rfl | exact .inr rfl | assumption):wpAny M A (storeName X.env x u) Q E s:=by
 obtain ⟨m,hn,hl⟩:=id I.loc
 have hcls:(X.env.scope.kind == .class || (X.env.scope.kind == .module && X.env.locals != X.env.globals))=false:=by rw [I.ok.kind]; rfl
 have hiσ : i < σ.length:=by rw [I.len]; exact (List.getElem?_eq_some_iff.mp hi).1
 have cne:=I.cne
 have tracked:∀ {a:Addr} {h':Heap},(∃ o,s.heap.get? a=some o/\H a=none)->Heap.SameBut a s.heap h'->HOk X.prog X.w H h':=fun {a h'} ha hs b ob e=>by
  obtain ⟨_,_,hfree⟩:=ha
  refine (I.hok b ob e).stay (fun c w' hc q=>(hs.2 c ?_).trans q) (fun _ q=>q) fun _ _ q=>q
  rintro rfl
  rcases hc with rfl | hc
  ·rw [hfree] at e; cases e
  ·rw [hfree] at hc; cases hc
 rcases hx with hk | hk
 ·refine wpAny_storeName_local hk hn (fun h' hn' hs => ?_) hcls
  obtain ⟨oL,_,_,hoL,_⟩:=id hn
  refine h _ ⟨I.ok,I.os,I.bare,⟨fun b o e n hb hx => ?_,fun b o e n hb hx => ?_,I.base.free,fun b o e hx => ?_,I.base.tups,I.base.frzs,I.base.tbls⟩,⟨_,hn',fun j y v' e1 e2 e3 => ?_⟩,fun y c e => ?_,I.free,I.freeC,fun p hp => ?_,tracked ⟨oL,hoL,I.free⟩ hs,by simpa using I.len⟩ ⟨_,hs,.inl rfl⟩
  ·exact (hs.2 b (Nat.ne_of_lt (Nat.lt_of_lt_of_le (Heap.lt_size e) I.ok.above))).trans (I.base.keep b o e n hb hx)
  ·obtain ⟨sl,e1⟩:=I.base.slot b o e n hb hx
   exact ⟨sl,(hs.2 b (Nat.ne_of_lt (Nat.lt_of_lt_of_le (Heap.lt_size e) I.ok.above))).trans e1⟩
  ·obtain ⟨o',e1⟩:=I.base.there b o e hx
   exact ⟨o',(hs.2 b (Nat.ne_of_lt (Nat.lt_of_lt_of_le (Heap.lt_size e) I.ok.above))).trans e1⟩
  ·by_cases hj:j=i
   ·subst hj
    rw [hi] at e1; cases e1
    rw [List.getElem?_set_self hiσ] at e2
    cases e2
    exact ⟨u,r,.inl ⟨hk,by simp⟩⟩
   ·rw [List.getElem?_set_ne (Ne.symm hj)] at e2
    obtain ⟨u',r',q⟩:=hl j y v' e1 e2 e3
    refine ⟨u',r',?_⟩
    rcases q with ⟨k,e⟩ | ⟨k,c,e,z⟩
    ·refine .inl ⟨k,?_⟩
     have:y≠x:=fun e=>hj (zd2 hN e1 (e ▸ hi))
     simp [this,e]
    ·exact .inr ⟨k,c,e,z.sameBut hs (cne y c e)⟩
  ·obtain ⟨w',z⟩:=I.cell y c e
   exact ⟨w',z.sameBut hs (cne y c e)⟩
  ·obtain ⟨e,n,ne,nf,d⟩:=I.pin p hp
   exact ⟨(hs.2 p.1 ne).trans e,n,ne,nf,d⟩
 ·have hfn:X.fn x=true:=by
   rcases hf with z | z
   ·exact z
   ·rw [z] at hk; cases hk
  obtain ⟨c,hc⟩:=I.ok.has x (.inl hk)
  obtain ⟨w',z⟩:=I.cell x c hc
  refine wpAny_storeName_cell I.ok.kind hk hc z (fun h' hc' hs => ?_)
  obtain ⟨oc,hoc,hocd⟩:=id z
  refine h { s with heap:=h' } ⟨I.ok,I.os,I.bare,⟨fun b o e n hb hx => ?_,fun b o e n hb hx => ?_,I.base.free,fun b o e hx => ?_,I.base.tups,I.base.frzs,I.base.tbls⟩,⟨m,hn.sameBut hs (Ne.symm (cne x c hc)),fun j y v' e1 e2 e3 => ?_⟩,fun y c' e => ?_,I.free,I.freeC,fun p hp => ?_,tracked ⟨oc,hoc,I.freeC x c hc⟩ hs,by simpa using I.len⟩ ⟨c,hs,.inr hc⟩
  ·exact (hs.2 b (Nat.ne_of_lt (Nat.lt_of_lt_of_le (Heap.lt_size e) (I.ok.cab x c hfn hc)))).trans (I.base.keep b o e n hb hx)
  ·obtain ⟨sl,e1⟩:=I.base.slot b o e n hb hx
   exact ⟨sl,(hs.2 b (Nat.ne_of_lt (Nat.lt_of_lt_of_le (Heap.lt_size e) (I.ok.cab x c hfn hc)))).trans e1⟩
  ·obtain ⟨o',e1⟩:=I.base.there b o e hx
   exact ⟨o',(hs.2 b (Nat.ne_of_lt (Nat.lt_of_lt_of_le (Heap.lt_size e) (I.ok.cab x c hfn hc)))).trans e1⟩
  ·by_cases hj:j=i
   ·subst hj
    rw [hi] at e1; cases e1
    rw [List.getElem?_set_self hiσ] at e2
    cases e2
    exact ⟨u,r,.inr ⟨.inl hk,c,hc,hc'⟩⟩
   ·rw [List.getElem?_set_ne (Ne.symm hj)] at e2
    obtain ⟨u',r',q⟩:=hl j y v' e1 e2 e3
    refine ⟨u',r',?_⟩
    rcases q with q | ⟨k,c',e,z'⟩
    ·exact .inl q
    ·refine .inr ⟨k,c',e,z'.sameBut hs ?_⟩
     rintro rfl
     exact hj (zd2 hN e1 (I.ok.inj _ _ _ e hc ▸ hi))
  ·by_cases hcc:c'=c
   ·subst hcc; exact ⟨_,hc'⟩
   ·obtain ⟨w2,z2⟩:=I.cell y c' e
    exact ⟨w2,z2.sameBut hs hcc⟩
  ·obtain ⟨e,n,ne,nf,d⟩:=I.pin p hp
   refine ⟨(hs.2 p.1 ?_).trans e,n,ne,nf,d⟩
   intro q
   rw [q,hoc] at e
   have q':oc=p.2:=Option.some.inj e
   exact d w' (by rw [<- q']; exact hocd)
theorem zcZ {M:Model} {A:Around} {E:Value->Shared->Prop} {i:Nat} {x:Str} {v:V} {u:Value} {Q:Unit->Shared->Prop} (I:Inv X pins σ H s) (hN:X.N.Nodup) (hi:X.N[i]?=some x) (hx:Loc X.env.scope x) (r:RelV v u)
  (h:∀ s',Inv X pins (σ.set i (some v)) H s'->Q () s') (hf:X.fn x=true\/X.env.scope.names.lookup x=some .local:=by first | exact .inl rfl | exact .inr rfl | assumption):wpAny M A (storeName X.env x u) Q E s :=
 zc9 I hN hi hx r (fun s' I' _=>h s' I') hf
theorem Inv.call' {s':Shared} {ch:List Addr} (I:Inv X pins σ H s) (ho:s'.os=s.os) (u:Un (frs X.stack) ch H H' s.heap s'.heap) (hok:HOk X.prog X.w H' s'.heap) (hg:AllBare s'.gens)
  (hch:∀ b∈ch,(b∈X.ex\/X.s₀.heap.objs.size<=b)/\b≠X.env.locals/\(∀ x c,X.env.cells.lookup x=some c->c≠b)/\∀ p∈X.pn ++ pins,p.1≠b):Inv X pins σ H' s':=by
 obtain ⟨h',g',d',t',o'⟩:=s'
 have e:o'=s.os:=ho
 subst e
 exact I.call (g':=g') (t':=t') (d':=d') u hok hg hch
end
noncomputable abbrev XK:=Value->Option Addr->Hp->Prop
noncomputable abbrev St:=List (Option V)
noncomputable abbrev VK:=V->Hp->Prop
noncomputable abbrev TE:=St->Hp->VK->Prop
noncomputable abbrev TT:=St->Hp->(Bool->Hp->Prop)->Prop
noncomputable abbrev TA:=St->Hp->(List V->Hp->Prop)->Prop
structure Ends where
 nx:St->Hp->Prop
 rt:VK
 bk:St->Hp->Prop:=fun _ _=>False
 ct:St->Hp->Prop:=fun _ _=>False
noncomputable abbrev TS:=Ends->St->Hp->Prop
noncomputable def EP (X:Cx) (pins:List (Addr×Obj)) (σ : St) (Q:VK) (u:Value) (s':Shared):Prop:=∃ v H',Inv X pins σ H' s'/\RelV v u/\Q v H'
noncomputable def TP (X:Cx) (pins:List (Addr×Obj)) (σ : St) (Q:Bool->Hp->Prop) (b:Bool) (s':Shared):Prop:=∃ H',Inv X pins σ H' s'/\Q b H'
noncomputable def AP (X:Cx) (pins:List (Addr×Obj)) (σ : St) (Q:List V->Hp->Prop) (us:List Value) (s':Shared):Prop:=∃ vs H',Inv X pins σ H' s'/\Vals vs us/\Q vs H'
noncomputable def SP (X:Cx) (pins:List (Addr×Obj)) (D:Ends) (f:Flow) (s':Shared):Prop :=
 match f with
 | .next=>∃ σ' H',Inv X pins σ' H' s'/\D.nx σ' H'
 | .brk=>∃ σ' H',Inv X pins σ' H' s'/\D.bk σ' H'
 | .cont=>∃ σ' H',Inv X pins σ' H' s'/\D.ct σ' H'
 | .ret u=>∃ v σ' H',Inv X pins σ' H' s'/\RelV v u/\D.rt v H'
noncomputable def PE (X:Cx) (e:Expr) (t:TE):Prop :=
 ∀ (pins:List (Addr×Obj)) (s:Shared) (σ : St) (H:Hp) (Q:VK),Inv X pins σ H s->t σ H Q->wpAny (model X.prog X.w) X.A (eval e X.env) (EP X pins σ Q) X.xe s
noncomputable def PT (X:Cx) (e:Expr) (t:TT):Prop :=
 ∀ (pins:List (Addr×Obj)) (s:Shared) (σ : St) (H:Hp) (Q:Bool->Hp->Prop),Inv X pins σ H s->t σ H Q->wpAny (model X.prog X.w) X.A (isTrue e X.env (eval e X.env)) (TP X pins σ Q) X.xe s
noncomputable def PW (X:Cx) (e:Expr) (t:TT):Prop :=
 ∀ (whole:Sem Value) (pins:List (Addr×Obj)) (s:Shared) (σ : St) (H:Hp) (Q:Bool->Hp->Prop),Inv X pins σ H s->t σ H Q->wpAny (model X.prog X.w) X.A (isTrue e X.env whole) (TP X pins σ Q) X.xe s
theorem PW.pt {X:Cx} {e:Expr} {t:TT} (h:PW X e t):PT X e t:=h _
noncomputable def PA (X:Cx) (es:List Expr) (t:TA):Prop :=
 ∀ (pos:Pos) (pins:List (Addr×Obj)) (s:Shared) (σ : St) (H:Hp) (Q:List V->Hp->Prop),Inv X pins σ H s->t σ H Q->wpAny (model X.prog X.w) X.A (spliced (backTo pos (starEach es X.env))) (AP X pins σ Q) X.xe s
noncomputable def PS (X:Cx) (st:Stmt) (t:TS):Prop :=
 ∀ (pins:List (Addr×Obj)) (s:Shared) (σ : St) (H:Hp) (D:Ends),Inv X pins σ H s->t D σ H->wpAny (model X.prog X.w) X.A (exec st X.env) (SP X pins D) X.xe s
noncomputable def PSs (X:Cx) (st:List Stmt) (t:TS):Prop :=
 ∀ (pins:List (Addr×Obj)) (s:Shared) (σ : St) (H:Hp) (D:Ends),Inv X pins σ H s->t D σ H->wpAny (model X.prog X.w) X.A (execs st X.env) (SP X pins D) X.xe s
theorem thn {α : Type} {t:Sem α} {Q Q' : α -> Shared->Prop} {M:Model} {A:Around} {E:Value->Shared->Prop} {s:Shared} (h:wpAny M A t Q E s) (hQ:∀ a s,Q a s->Q' a s):wpAny M A t Q' E s:=wpAny_mono h hQ fun _ _ x=>x
theorem thnE {α β : Type} {Rl : β -> α -> Prop} {X:Cx} {pins:List (Addr×Obj)} {σ : St} {R : β -> Hp->Prop} {t:Sem α} {Q' : α -> Shared->Prop} {M:Model} {A:Around} {E:Value->Shared->Prop} {s:Shared} (h:wpAny M A t (fun u s'=>∃ v H',Inv X pins σ H' s'/\Rl v u/\R v H') E s) (k:∀ u s' v H',Inv X pins σ H' s'->Rl v u->R v H'->Q' u s'):wpAny M A t Q' E s:=wpAny_mono h (fun u s' z=>by
 obtain ⟨v,H',I,r,q⟩:=z
 exact k u s' v H' I r q) fun _ _ x=>x
section
variable {X:Cx}
noncomputable def tVar (i:Nat):TE:=fun σ H Q=>∃ v,σ[i]?=some (some v)/\Q v H
noncomputable def tC (v:V):TE:=fun _ H Q=>Q v H
theorem pe_var {i:Nat} {x:Str} {pos:Pos} (hN:X.N[i]?=some x) (hv:Vis X.env.scope x) (hd:(x == ("__debug__" : Str))=false:=by decide) (hcd:(x == ("__classdict__" : Str))=false:=by decide):PE X (.Name x pos) (tVar i):=by
 intro pins s σ H Q I h
 obtain ⟨v,e,h⟩:=h
 obtain ⟨m,hn,hl⟩:=I.loc
 obtain ⟨u,r,l⟩:=hl i x v hN e hv
 have fin:EP X pins σ Q u s:=⟨v,H,I,r,h⟩
 rcases l with ⟨hk,hm⟩ | ⟨hk,c,hc,hcell⟩
 ·exact wpAny_Name (wpAny_loadName_local I.ok.kind hk hn hm fin) hd
 ·rcases hk with hk | hk
  ·exact wpAny_Name (wpAny_loadName_cell I.ok.kind hk hc hcell fin) hd
  ·exact wpAny_Name (wpAny_loadName_free I.ok.kind hk hc hcell fin hcd) hd
theorem zac {i j pos}:PE X (.Constant (.int i) j pos) (tC (.int i)):=fun _ _ _ H _ I h=>wpAny_Constant_int ⟨.int i,H,I.tok _,⟨_,rfl⟩,h⟩
theorem zbi {b j pos}:PE X (.Constant (.bool b) j pos) (tC (.bl b)):=fun _ _ _ H _ I h=>Constant_bool ⟨.bl b,H,I,rfl,h⟩
theorem zah {x j pos}:PE X (.Constant (.str x) j pos) (tC (.str x)):=fun _ _ _ H _ I h=>Calls.Constant_str ⟨.str x,H,I.tok _,⟨_,rfl⟩,h⟩
noncomputable def Gl (X:Cx) (x:Str):Prop:=X.env.kindOf x=some .globalImplicit
theorem zb6 {E:Value->Shared->Prop} {pins:List (Addr×Obj)} {s:Shared} {σ : St} {H:Hp} {x:Str} {u:Value} {pos:Pos} {Q:Value->Shared->Prop} (I:Inv X pins σ H s) (hg:Gl X x) (hm:X.mg x=some u) (h:Q u s)
  (hd:(x == ("__debug__" : Str))=false:=by decide):wpAny (model X.prog X.w) X.A (eval (.Name x pos) X.env) Q E s :=
 Calls.Name_function_global I.ok.kind hg (Calls.loadGlobal_global (by rw [I.ok.glob]; exact I.mod.glob.keeps I.bk) hm h) hd
theorem zcT {E:Value->Shared->Prop} {pins:List (Addr×Obj)} {s:Shared} {σ : St} {H:Hp} {x:Str} {u:Value} {pos:Pos} {Q:Value->Shared->Prop} (I:Inv X pins σ H s) (hg:Gl X x) (hm:X.mg x=none) (hv:bootBuiltins x=some u) (h:Q u s)
  (hn:x ≠ "__name__" := by decide) (hd:(x == ("__debug__" : Str))=false:=by decide):wpAny (model X.prog X.w) X.A (eval (.Name x pos) X.env) Q E s:=by
 obtain ⟨mb,h1,h2⟩:=I.mod.blt
 exact Calls.Name_function_global I.ok.kind hg (Calls.loadGlobal_builtin (by rw [I.ok.glob]; exact I.mod.glob.keeps I.bk) hm (by rw [I.ok.blt]; exact h1.keeps I.bk) ((h2 x hn).trans hv) h) hd
theorem zev {x:Str} {v:V} {u:Value} {pos:Pos} (hg:Gl X x) (hm:X.mg x=some u) (r:RelV v u) (hd:(x == ("__debug__" : Str))=false:=by decide):PE X (.Name x pos) (tC v) :=
 fun _ _ _ H _ I h=>zb6 I hg hm ⟨v,H,I,r,h⟩ hd
theorem zbP {x:Str} {v:V} {u:Value} {pos:Pos} (hg:Gl X x) (hm:X.mg x=none) (hv:bootBuiltins x=some u) (r:RelV v u) (hn:x ≠ "__name__" := by decide) (hd:(x == ("__debug__" : Str))=false:=by decide):PE X (.Name x pos) (tC v) :=
 fun _ _ _ H _ I h=>zcT I hg hm hv ⟨v,H,I,r,h⟩ hn hd
variable {a b:Expr} {ta tb:TE} {pos:Pos}
noncomputable def PC (X:Cx) (op:CmpOp) (a b:Expr) (t:TE):Prop :=
 ∀ (pins:List (Addr×Obj)) (s:Shared) (σ : St) (H:Hp) (Q:VK),Inv X pins σ H s->t σ H Q ->
  wpAny (model X.prog X.w) X.A (eval a X.env) (fun v s₁ => wpAny (model X.prog X.w) X.A (eval b X.env) (fun u s₂ => wpAny (model X.prog X.w) X.A (compareOp op v u) (EP X pins σ Q) X.xe s₂) X.xe s₁) X.xe s
noncomputable def tB (t:TE):TT:=fun σ H Q=>t σ H fun x H1=>∃ c,x = .bl c/\Q c H1
theorem zdS {op:CmpOp} {t:TE} (h:PC X op a b t) (h1:behindInMarks op b=false:=by first | exact nobehind _ (by decide) (by decide) | rfl):PT X (.Compare a [op] [b] pos) (tB t):=by
 intro pins s σ H Q I hw
 refine wpAny_isTrue_Compare1 (thn (h pins s σ H _ I hw) fun v s1 h1=>thn h1 fun u s2 h2=>thn h2 fun c s3 ⟨x,H1,I1,r1,q1⟩ => ?_) h1
 obtain ⟨d,rfl,q⟩:=q1
 cases r1
 exact wpAny_truthy_bool ⟨H1,I1,q⟩
theorem zaX {e:Expr} {t:TE} (h:PE X e t) (he:∀ whole,isTrue e X.env whole=(do let v <- whole; standAt e.pos; holding [v] (truthy v)):=by intro _; rfl):PT X e (tB t):=by
 intro pins s σ H Q I hw
 refine isTrue_plain (thnE (h pins s σ H _ I hw) fun v s1 x H1 I1 r1 q1 => ?_) (he _)
 obtain ⟨d,rfl,q⟩:=q1
 cases r1
 exact wpAny_truthy_bool ⟨H1,I1,q⟩
variable {tA tB':TT} {rest:List Expr}
noncomputable def tAnd (t u:TT):TT:=fun σ H Q=>t σ H fun c H1=>if c=true then u σ H1 Q else Q false H1
noncomputable def tOr (t u:TT):TT:=fun σ H Q=>t σ H fun c H1=>if c=true then Q true H1 else u σ H1 Q
noncomputable def tNot (t:TT):TT:=fun σ H Q=>t σ H fun c H1=>Q (!c) H1
theorem za5 (ha:PT X a tA):PW X (.BoolOp .And [a] pos) tA:=by
 intro wh pins s σ H Q I h
 refine isTrue_and (thn (ha pins s σ H Q I h) fun c s1 e => ?_)
 cases c with
 | true=>exact isTrue_and_nil e
 | false=>exact e
theorem zcs (ha:PT X a tA):PW X (.BoolOp .Or [a] pos) tA:=by
 intro wh pins s σ H Q I h
 refine isTrue_or (thn (ha pins s σ H Q I h) fun c s1 e => ?_)
 cases c with
 | false=>exact isTrue_or_nil e
 | true=>exact e
theorem zbA (ha:PT X a tA) (hb:PW X (.BoolOp .And (b :: rest) pos) tB'):PW X (.BoolOp .And (a :: b :: rest) pos) (tAnd tA tB'):=by
 intro wh pins s σ H Q I h
 refine isTrue_and (thn (ha pins s σ H _ I h) fun c s1 ⟨H1,I1,q1⟩ => ?_)
 cases c with
 | true=>exact hb wh pins s1 σ H1 Q I1 q1
 | false=>exact ⟨H1,I1,q1⟩
theorem zde (ha:PT X a tA) (hb:PW X (.BoolOp .Or (b :: rest) pos) tB'):PW X (.BoolOp .Or (a :: b :: rest) pos) (tOr tA tB'):=by
 intro wh pins s σ H Q I h
 refine isTrue_or (thn (ha pins s σ H _ I h) fun c s1 ⟨H1,I1,q1⟩ => ?_)
 cases c with
 | true=>exact ⟨H1,I1,q1⟩
 | false=>exact hb wh pins s1 σ H1 Q I1 q1
theorem zaJ (ha:PT X a tA):PT X (.UnaryOp .Not a pos) (tNot tA):=by
 intro pins s σ H Q I h
 exact isTrue_not (ha pins s σ H (fun c H1=>Q (!c) H1) I h)
noncomputable def tAndV (ta tb:TE):TE:=fun σ H Q=>ta σ H fun x H1=>∃ c,x = .bl c/\if c=true then tb σ H1 Q else Q (.bl false) H1
noncomputable def tNotV (ta:TE):TE:=fun σ H Q=>ta σ H fun x H1=>∃ c,x = .bl c/\Q (.bl (!c)) H1
theorem zdV {op} {t:TE} (h:PE X a t):PE X (.BoolOp op [a] pos) t:=fun pins s σ H Q I hw=>BoolOp_one (h pins s σ H Q I hw)
theorem zdf (ha:PE X a ta) (hb:PE X (.BoolOp .And (b :: rest) pos) tb):PE X (.BoolOp .And (a :: b :: rest) pos) (tAndV ta tb):=by
 intro pins s σ H Q I h
 refine BoolOp_and (thnE (ha pins s σ H _ I h) fun v s1 x H1 I1 r1 q1 => ?_)
 obtain ⟨c,rfl,q1⟩:=q1
 cases r1
 refine wpAny_truthy_bool ?_
 cases c with
 | true=>exact hb pins s1 σ H1 Q I1 q1
 | false=>exact ⟨.bl false,H1,I1,rfl,q1⟩
theorem pe_not (ha:PE X a ta):PE X (.UnaryOp .Not a pos) (tNotV ta):=by
 intro pins s σ H Q I h
 refine UnaryOp_ (thnE (ha pins s σ H _ I h) fun v s1 x H1 I1 r1 q1 => ?_)
 obtain ⟨c,rfl,q1⟩:=q1
 cases r1
 exact not_of (wpAny_truthy_bool ⟨.bl (!c),H1,I1,rfl,q1⟩)
end
noncomputable def SqL (K:W.Frag) (H:Hp) (a:Addr) (xs:List V):Prop :=
 Rd H a (.lst xs) \/
  ∃ (o:Obj) (its:Array Value) (n:Nat),K.lookup a=some o/\o.cls = .type "list" /\ o.dict=none/\o.data = .seq its n/\its.size<=sizeLine/\Vals xs its.toList
noncomputable def SqT (K:W.Frag) (H:Hp) (a:Addr) (xs:List V):Prop :=
 Rd H a (.tup xs) \/
  ∃ (o:Obj) (its:Array Value) (n:Nat),K.lookup a=some o/\o.cls = .type "tuple" /\ o.data = .seq its n/\its.size<=sizeLine/\Vals xs its.toList
noncomputable def absV:Value->Option V
 | .none=>some .non
 | .bool b=>some (.bl b)
 | .int i _=>some (.int i)
 | .str x _=>some (.str x)
 | .bytes b _=>some (.byt b)
 | .float b _=>some (.flt b)
 | .ref a=>some (.ref a)
 | .type n=>some (.ty n)
 | _=>none
theorem RelV.abs {x:V} {u:Value} (r:RelV x u):absV u=some x:=by
 cases x with
 | non=>cases r; rfl
 | bl _=>cases r; rfl
 | int _=>obtain ⟨t,rfl⟩:=r; rfl
 | str _=>obtain ⟨t,rfl⟩:=r; rfl
 | byt _=>obtain ⟨t,rfl⟩:=r; rfl
 | flt _=>obtain ⟨t,rfl⟩:=r; rfl
 | ref _=>cases r; rfl
 | ty _=>cases r; rfl
theorem RelV.inj {x y:V} {u:Value} (r:RelV x u) (q:RelV y u):x=y:=Option.some.inj (r.abs.symm.trans q.abs)
theorem Vals.inj:∀ {xs ys:List V} {us:List Value},Vals xs us->Vals ys us->xs=ys
 | _,_,_,.nil,.nil=>rfl
 | _,_,_,.cons r t,.cons r' t'=>by rw [r.inj r',Vals.inj t t']
section
variable {X:Cx} {pins:List (Addr×Obj)} {σ : St} {H:Hp} {s:Shared} {a:Addr} {xs ys:List V}
theorem SqL.of {K:W.Frag} (h:H a=some (.lst xs)):SqL K H a xs := .inl (.inl h)
theorem SqT.of {K:W.Frag} (h:H a=some (.tup xs)):SqT K H a xs := .inl (.inl h)
theorem Inv.list (I:Inv X pins σ H s) (h:SqL X.K H a xs):∃ its:List Value,Vals xs its/\PlainL s.heap a its.toArray/\xs.length<=sizeLine:=by
 rcases h with h | ⟨o,its,n,hk,hc,hd,hs,hz,r⟩
 ·obtain ⟨z,its,n,r,e⟩:=h.ok I.hok
  exact ⟨its,r,⟨_,n,e,rfl,rfl,rfl⟩,z⟩
 ·refine ⟨its.toList,r,⟨o,n,I.kIn a o hk,hc,hd,by simpa using hs⟩,?_⟩
  have e:=r.length
  simp only [Array.length_toList] at e
  omega
theorem Inv.tuple (I:Inv X pins σ H s) (h:SqT X.K H a xs):∃ its:List Value,Vals xs its/\IsTup s.heap a its.toArray/\xs.length<=sizeLine:=by
 rcases h with h | ⟨o,its,n,hk,hc,hs,hz,r⟩
 ·obtain ⟨z,its,r,p⟩:=h.ok I.hok
  exact ⟨its,r,p,z⟩
 ·refine ⟨its.toList,r,⟨o,I.kIn a o hk,hc,n,by simpa using hs⟩,?_⟩
  have e:=r.length
  simp only [Array.length_toList] at e
  omega
theorem Inv.list_inj (I:Inv X pins σ H s) (h:SqL X.K H a xs) (h':SqL X.K H a ys):xs=ys:=by
 obtain ⟨its,r,⟨o,n,e,_,_,d⟩,_⟩:=I.list h
 obtain ⟨its',r',⟨o',n',e',_,_,d'⟩,_⟩:=I.list h'
 rw [e] at e'; cases e'
 rw [d] at d'
 injection d' with d1 _
 have:its=its':=by simpa using congrArg Array.toList d1
 subst this
 exact r.inj r'
end
noncomputable abbrev Cx.wish (X:Cx) (E:Value->Shared->Prop):Cx:={ X with xe:=E }
noncomputable abbrev Cx.nox (X:Cx):Cx:=X.wish fun _ _=>False
theorem Cx.Ok.wish {X:Cx} (ok:X.Ok) (E:Value->Shared->Prop):(X.wish E).Ok :=
 ⟨ok.mod,ok.kind,ok.glob,ok.blt,ok.above,ok.inj,ok.has,ok.cab,ok.hd,ok.frames,ok.stk,ok.exf,ok.bs,ok.bsz,ok.noex,ok.exfs,ok.funs,ok.frf⟩
theorem Cx.Ok.unwish {X:Cx} {E:Value->Shared->Prop} (ok:(X.wish E).Ok):X.Ok :=
 ⟨ok.mod,ok.kind,ok.glob,ok.blt,ok.above,ok.inj,ok.has,ok.cab,ok.hd,ok.frames,ok.stk,ok.exf,ok.bs,ok.bsz,ok.noex,ok.exfs,ok.funs,ok.frf⟩
section
variable {X:Cx} {pins:List (Addr×Obj)} {σ : St} {H:Hp} {s:Shared} {E:Value->Shared->Prop}
theorem Inv.wish (I:Inv X pins σ H s) (E:Value->Shared->Prop):Inv (X.wish E) pins σ H s:=⟨I.ok.wish E,I.os,I.bare,I.base,I.loc,I.cell,I.free,I.freeC,I.pin,I.hok,I.len⟩
theorem Inv.unwish (I:Inv (X.wish E) pins σ H s):Inv X pins σ H s:=⟨I.ok.unwish,I.os,I.bare,I.base,I.loc,I.cell,I.free,I.freeC,I.pin,I.hok,I.len⟩
theorem SP.unwish {D:Ends} {f:Flow} {s':Shared} (h:SP (X.wish E) pins D f s'):SP X pins D f s':=by
 cases f with
 | next=>obtain ⟨σ',H',I,q⟩:=h; exact ⟨σ',H',I.unwish,q⟩
 | brk=>obtain ⟨σ',H',I,q⟩:=h; exact ⟨σ',H',I.unwish,q⟩
 | cont=>obtain ⟨σ',H',I,q⟩:=h; exact ⟨σ',H',I.unwish,q⟩
 | ret u=>obtain ⟨v,σ',H',I,r,q⟩:=h; exact ⟨v,σ',H',I.unwish,r,q⟩
theorem PSs.nox {st:List Stmt} {t:TS} (h:PSs X.nox st t):PSs X st t:=fun pins s σ H D I hw =>
 wpAny_mono (h pins s σ H D (I.wish _) hw) (fun _ _ q=>q.unwish) fun _ _ z=>False.elim z
end
section
variable {X:Cx} {st:Stmt} {rest:List Stmt} {t u:TS} {e:Expr} {te:TE} {pos:Pos}
noncomputable def tNext:TS:=fun D σ H=>D.nx σ H
noncomputable def tSeq (t u:TS):TS:=fun D σ H=>t { D with nx:=u D } σ H
theorem zaj:PSs X [] tNext:=fun _ _ σ H _ I h=>wpAny_execs_nil ⟨σ,H,I,h⟩
theorem zag (h1:PS X st t) (h2:PSs X rest u):PSs X (st :: rest) (tSeq t u):=by
 intro pins s σ H D I h
 refine wpAny_execs_cons (thn (h1 pins s σ H { D with nx:=u D } I h) fun f s1 q => ?_)
 cases f with
 | next =>
  obtain ⟨σ',H',I',q⟩:=q
  exact h2 pins s1 σ' H' D I' q
 | ret v=>exact q
 | brk=>exact q
 | cont=>exact q
theorem zad (h1:PS X st t):PSs X [st] t:=by
 intro pins s σ H D I h
 refine wpAny_execs_cons (thn (h1 pins s σ H D I h) fun f s1 q => ?_)
 cases f with
 | next=>exact wpAny_execs_nil q
 | ret v=>exact q
 | brk=>exact q
 | cont=>exact q
theorem Inv.quiet {pins:List (Addr×Obj)} {σ : St} {H:Hp} {s:Shared} (I:Inv X pins σ H s):interactive X.env=false:=by simp [interactive,I.ok.kind]
noncomputable def tDrop (te:TE):TS:=fun D σ H=>te σ H fun _ H1=>D.nx σ H1
theorem zav (he:PE X e te) (hs:swapsWith e none pos.line X.env=pure false:=by rfl):PS X (.Expr e pos) (tDrop te):=by
 intro pins s σ H D I h
 exact wpAny_Expr_any (thnE (he pins s σ H _ I h) fun v s1 x H1 I1 r1 q1=>⟨σ,H1,I1,q1⟩) I.quiet hs
noncomputable def tRet (te:TE):TS:=fun D σ H=>te σ H D.rt
theorem zaq (he:PE X e te):PS X (.Return (some e) pos) (tRet te):=by
 intro pins s σ H D I h
 exact wpAny_Return_some (thnE (he pins s σ H _ I h) fun v s1 x H1 I1 r1 q1=>⟨x,σ,H1,I1,r1,q1⟩)
noncomputable def tIfS (c:TT) (t u:TS):TS:=fun D σ H=>c σ H fun b H1=>if b=true then t D σ H1 else u D σ H1
theorem zat {c:Expr} {a b:List Stmt} {tc:TT} (hc:PT X c tc) (ha:PSs X a t) (hb:PSs X b u):PS X (.If c a b pos) (tIfS tc t u):=by
 intro pins s σ H D I h
 refine wpAny_If (thn (hc pins s σ H _ I h) fun d s1 ⟨H1,I1,q1⟩ => ?_)
 cases d with
 | true=>exact ha pins s1 σ H1 D I1 q1
 | false=>exact hb pins s1 σ H1 D I1 q1
noncomputable def tNever:TS:=fun _ _ _=>False
theorem zaS {sts:List Stmt}:PSs X sts tNever:=fun _ _ _ _ _ _ h=>h.elim
end
noncomputable abbrev TG:=V->St->Hp->(St->Hp->Prop)->Prop
noncomputable abbrev TGs:=List V->St->Hp->(St->Hp->Prop)->Prop
noncomputable def PG (X:Cx) (target:Expr) (t:TG):Prop :=
 ∀ (pins:List (Addr×Obj)) (s:Shared) (σ : St) (H:Hp) (v:V) (u:Value) (Q:St->Hp->Prop),Inv X pins σ H s->RelV v u->t v σ H Q ->
  wpAny (model X.prog X.w) X.A (assign target X.env u) (fun _ s'=>∃ σ' H',Inv X pins σ' H' s'/\Q σ' H') X.xe s
noncomputable def PGs (X:Cx) (ts:List Expr) (t:TGs):Prop :=
 ∀ (pins:List (Addr×Obj)) (s:Shared) (σ : St) (H:Hp) (vs:List V) (us:List Value) (Q:St->Hp->Prop),Inv X pins σ H s->Vals vs us->t vs σ H Q ->
  wpAny (model X.prog X.w) X.A (assignInOrder ((assignEach ts X.env).map (·.2)) us) (fun _ s'=>∃ σ' H',Inv X pins σ' H' s'/\Q σ' H') X.xe s
section
variable {X:Cx} {pos:Pos}
noncomputable def gName (i:Nat):TG:=fun v σ H Q=>Q (σ.set i (some v)) H
theorem zaC {i:Nat} {x:Str} (hN:X.N.Nodup) (hi:X.N[i]?=some x) (hx:Loc X.env.scope x) (hf:X.fn x=true\/X.env.scope.names.lookup x=some .local:=by first | exact .inl rfl | exact .inr rfl | assumption):PG X (.Name x pos) (gName i):=by
 intro pins s σ H v u Q I r h
 exact wpAny_assign_Name (zcZ I hN hi hx r (fun s' I'=>⟨_,H,I',h⟩) hf)
noncomputable def gNil:TGs:=fun vs σ H Q=>vs = []/\Q σ H
noncomputable def gCons (t:TG) (u:TGs):TGs:=fun vs σ H Q=>∃ v r,vs=v :: r/\t v σ H fun σ' H'=>u r σ' H' Q
theorem zes:PGs X [] gNil:=by
 intro pins s σ H vs us Q I r h
 obtain ⟨e,h⟩:=h
 subst e
 cases r
 exact assignInOrder_nil ⟨σ,H,I,h⟩
theorem zbp {e:Expr} {es:List Expr} {t:TG} {u:TGs} (h1:PG X e t) (h2:PGs X es u)
  (hs:(assignEach (e :: es) X.env).map (·.2)=assign e X.env :: (assignEach es X.env).map (·.2):=by rfl):PGs X (e :: es) (gCons t u):=by
 intro pins s σ H vs us Q I r h
 obtain ⟨v,vr,e1,h⟩:=h
 subst e1
 cases r with
 | cons r rr =>
  rw [hs]
  refine assignInOrder_cons (thn (h1 pins s σ H _ _ _ I r h) fun _ s1 ⟨σ1,H1,I1,q1⟩ => ?_)
  exact h2 pins s1 σ1 H1 _ _ Q I1 rr q1
noncomputable def gTup (K:W.Frag) (n:Nat) (t:TGs):TG:=fun v σ H Q=>∃ a xs,v = .ref a/\SqT K H a xs/\xs.length=n/\t xs σ H Q
theorem zeU {es:List Expr} {k:Nat} {t:TGs} {n:Nat} (hc:X.calm=true) (h:PGs X es t)
  (hn:(assignEach es X.env).length=n:=by rfl) (hst:(assignEach es X.env).findIdx? (·.1)=none:=by rfl):PG X (.Tuple es k pos) (gTup X.K n t):=by
 intro pins s σ H v u Q I r hw
 obtain ⟨a,xs,e1,hq,hl,hw⟩:=hw
 subst e1
 cases r
 obtain ⟨its,rv,ht,hz⟩:=I.tuple hq
 refine assign_Tuple_tuple (I.ok.hd hc) ht (by simp [hn,<- hl,rv.length]) hst fun h' hx => ?_
 have I1:Inv X pins σ H { s with heap:=h' }:=I.kept (t':=s.toks) fun b o e=>hx b o (Nat.ne_of_lt (Heap.lt_size e)) e
 exact h pins _ σ H xs _ Q I1 (by simpa using rv) hw
noncomputable def tAsg (te:TE) (g:TG):TS:=fun D σ H=>te σ H fun x H1=>g x σ H1 D.nx
theorem ps_asg {tg e:Expr} {te:TE} {g:TG} (he:PE X e te) (hg:PG X tg g) (hs:swapsWithSole [tg] e pos.line X.env=pure false:=by rfl) (hw:swappedStores [tg] e X.env=pure none:=by rfl)
  (h1:(assignEach [tg] X.env).map (·.2) = [assign tg X.env]:=by rfl):PS X (.Assign [tg] e pos) (tAsg te g):=by
 intro pins s σ H D I h
 refine wpAny_Assign_stores (thnE (he pins s σ H _ I h) fun v s1 x H1 I1 r1 q1 => ?_) hs hw
 rw [h1]
 exact thn (hg pins s1 σ H1 x v _ I1 r1 q1) fun _ s2 q=>q
theorem za0 {i:Nat} {x:Str} {e:Expr} {te:TE} {pos':Pos} (hN:X.N.Nodup) (hi:X.N[i]?=some x) (hx:Loc X.env.scope x) (he:PE X e te) (hs:swapsWith e (some (.Name x pos')) pos.line X.env=pure false:=by rfl) (hf:X.fn x=true\/X.env.scope.names.lookup x=some .local:=by first | exact .inl rfl | exact .inr rfl | assumption) :
  PS X (.Assign [.Name x pos'] e pos) (tAsg te (gName i)):=by
 intro pins s σ H D I h
 refine wpAny_Assign_Name (thnE (he pins s σ H _ I h) fun v s1 y H1 I1 r1 q1 => ?_) hs
 exact zcZ I1 hN hi hx r1 (fun s2 I2=>⟨_,H1,I2,q1⟩) hf
end
section
variable {X:Cx} {pos:Pos}
end
structure It where
 go:Nat->Hp->Prop
 yld:Nat->Hp->V->Hp->Prop
 stop:Nat->Hp->Prop
noncomputable def FpOk (X:Cx) (pins:List (Addr×Obj)) (H:Hp) (b:Addr):Prop :=
 H b=none/\b≠X.env.locals/\b ∉ X.fs/\(b∈X.ex\/X.s₀.heap.objs.size<=b)/\(∀ x c,X.env.cells.lookup x=some c->c≠b)/\∀ p∈X.pn ++ pins,p.1≠b
theorem Inv.fpOk {X:Cx} {pins:List (Addr×Obj)} {σ : St} {H H':Hp} {s:Shared} {b:Addr} (I:Inv X pins σ H s) (hb:s.heap.objs.size<=b) (hn:H' b=none):FpOk X pins H' b:=by
 refine ⟨hn,Nat.ne_of_gt (Nat.lt_of_lt_of_le I.lt hb),I.nofs hb,.inr (Nat.le_trans I.sz hb),fun x c e z => ?_,fun p hp z => ?_⟩
 ·obtain ⟨v,q⟩:=I.cell x c e
  exact absurd (Nat.lt_of_lt_of_le q.lt (by rw [z]; exact hb)) (Nat.lt_irrefl _)
 ·exact absurd (Nat.lt_of_lt_of_le (Heap.lt_size (I.pin p hp).1) (by rw [z]; exact hb)) (Nat.lt_irrefl _)
structure Turn (P:Program) (w:World) (K:W.Frag) (tg:Expr) (J:It) (fp:List Addr) (it:Addr) (tn:Nat->Heap->Prop):Prop where
 mem:it∈fp
 obj:∀ i h,tn i h->∀ b∈fp,∃ o,h.get? b=some o/\∀ v,o.data ≠ .cell v
 keep:∀ i h h',tn i h->(∀ b∈fp,∀ o,h.get? b=some o->h'.get? b=some o)->tn i h'
 item:∀ (X:Cx),X.prog=P->X.w=w->X.K=K->X.calm=true->∀ (i:Nat) (pins:List (Addr×Obj)) (s:Shared) (σ : St) (H:Hp) (E:Value->Shared->Prop),Inv X pins σ H s->(∀ b∈fp,FpOk X pins H b)->tn i s.heap->J.go i H ->
  wpAny (model P w) X.A (pyNext (.ref it)) (fun r s1=>∃ u,r=some u /\
   wpAny (model P w) X.A (letOwnedTupleGo tg (.ref it) u) (fun _ s2=>∃ x H',Inv X pins σ H' s2/\RelV x u/\J.yld i H x H'/\tn (i + 1) s2.heap/\∀ b∈fp,H' b=none) E s1) E s
 done:∀ (X:Cx),X.prog=P->X.w=w->X.K=K->X.calm=true->∀ (i:Nat) (pins:List (Addr×Obj)) (s:Shared) (σ : St) (H:Hp) (E:Value->Shared->Prop),Inv X pins σ H s->(∀ b∈fp,FpOk X pins H b)->tn i s.heap->J.stop i H ->
  wpAny (model P w) X.A (pyNext (.ref it)) (fun r s1=>r=none/\Inv X pins σ H s1) E s
 self:∀ (A:Around) (i:Nat) (s:Shared) (Q:Value->Shared->Prop) (E:Value->Shared->Prop),tn i s.heap->Q (.ref it) s->wpAny (model P w) A (pyIter (.ref it)) Q E s
noncomputable abbrev TI:=St->Hp->(It->Hp->Prop)->Prop
noncomputable def PIE (X:Cx) (pins:List (Addr×Obj)) (σ : St) (tg:Expr) (R:It->Hp->Prop) (itv:Value) (s2:Shared):Prop :=
 ∃ (it:Addr) (fp:List Addr) (tn:Nat->Heap->Prop) (J:It) (H':Hp),itv = .ref it/\Inv X pins σ H' s2/\Turn X.prog X.w X.K tg J fp it tn/\tn 0 s2.heap/\(∀ b∈fp,FpOk X pins H' b)/\R J H'
noncomputable def PI (X:Cx) (tg iter:Expr) (wi:TI):Prop :=
 ∀ (pins:List (Addr×Obj)) (s:Shared) (σ : St) (H:Hp) (R:It->Hp->Prop),Inv X pins σ H s->wi σ H R ->
  wpAny (model X.prog X.w) X.A (eval iter X.env) (fun v s1=>wpAny (model X.prog X.w) X.A (pyIter v) (PIE X pins σ tg R) X.xe s1) X.xe s
theorem zee {M:Model} {A:Around} {E:Value->Shared->Prop} {s:Shared} {tg:Expr} {it:Addr} {u:Value} {o:Obj} {n:String} {vs:Array Value} {Q:Unit->Shared->Prop} (ho:s.heap.get? it=some o) (hc:o.cls = .type n) (hd:o.data = .fields vs)
  (hn : ["enumerate","zip","dict_itemiterator","dict_reverseitemiterator","odict_iterator","itertools.zip_longest","itertools.pairwise"].contains n=false) (hQ:Q () s):wpAny M A (letOwnedTupleGo tg (.ref it) u) Q E s:=by
 unfold letOwnedTupleGo
 cases tg <;> first
  | exact wpAny_pure hQ
  | (cases u <;> first
    | exact wpAny_pure hQ
    | (refine wpAny_bind (wpAny_load ho ?_)
       rw [hc,hd]
       show wpAny M A (if (["enumerate","zip","dict_itemiterator","dict_reverseitemiterator","odict_iterator","itertools.zip_longest","itertools.pairwise"].contains n && vs[0]? == some (rawInt _))=true then _ else _) Q E s
       rw [if_neg (by intro h; rw [hn,Bool.false_and] at h; cases h)]
       exact wpAny_pure hQ))
noncomputable def Itl (K:W.Frag) (a:Addr):It :=
 ⟨fun i H=>∃ xs x,SqL K H a xs/\xs[i]?=some x,fun i H x H'=>H'=H/\∀ xs,SqL K H a xs->xs[i]?=some x,fun i H=>∃ xs,SqL K H a xs/\xs.length<=i⟩
noncomputable def Itr (lo:Int) (n:Nat):It:=⟨fun i _=>i < n,fun i H x H'=>H'=H/\x = .int (lo + i),fun i _=>n<=i⟩
theorem turn_list {P:Program} {w:World} {K:W.Frag} {tg:Expr} (a it:Addr):Turn P w K tg (Itl K a) [it] it (fun i h=>h.IsListIter it a i) where
 mem:=by simp
 obj:=fun i h st b hb=>by
  have e:b=it:=by simpa using hb
  subst e
  obtain ⟨o,e,c,d⟩:=st
  exact ⟨o,e,fun v z=>by rw [d] at z; cases z⟩
 keep:=fun i h h' st k=>st.at fun o e=>k it (by simp) o e
 item:=by
  intro X hP hw hK hc i pins s σ H E I hf st hg
  subst hP hw hK
  obtain ⟨xs,x,hq,hx⟩:=hg
  obtain ⟨its,rv,p,hz⟩:=I.list hq
  obtain ⟨u,hu,ru⟩:=rv.get hx
  obtain ⟨f0,f1,f2,f3,f4,f5⟩:=hf it (by simp)
  refine wpAny_pyNext_list_item st p.isList (x:=u) (by simpa using hu) fun h' st' sb => ?_
  have I1:Inv X pins σ H { s with heap:=h' }:=I.turned (t':=s.toks) (fun b o hb e=>(sb.2 b hb).trans e) f0 f1 f3 f4 f5
  obtain ⟨o,e,c,d⟩:=id st'
  exact ⟨u,rfl,zee (s:={ s with heap:=h' }) e c d (by decide) ⟨x,H,I1,ru,⟨rfl,fun ys hy=>by rw [I.list_inj hy hq]; exact hx⟩,st',fun b hb=>(hf b hb).1⟩⟩
 done:=by
  intro X hP hw hK hc i pins s σ H E I hf st hg
  subst hP hw hK
  obtain ⟨xs,hq,hx⟩:=hg
  obtain ⟨its,rv,p,hz⟩:=I.list hq
  obtain ⟨f0,f1,f2,f3,f4,f5⟩:=hf it (by simp)
  have hl:=rv.length
  exact wpAny_pyNext_list_end (I.ok.hd hc) st p.isList (by simp; omega) fun h' eb=>⟨rfl,I.turned (t':=s.toks) (fun b o hb e=>eb b o hb e) f0 f1 f3 f4 f5⟩
 self:=fun _ _ _ _ _ st h=>wpAny_pyIter_listiter st h
theorem turn_range {P:Program} {w:World} {K:W.Frag} {tg:Expr} (it:Addr) (lo:Int) (n:Nat):Turn P w K tg (Itr lo n) [it] it (fun i h=>IsRangeIter h it (lo + (i:Nat) * 1) ((n:Int) - (i:Nat)) 1) where
 mem:=by simp
 obj:=fun i h st b hb=>by
  have e:b=it:=by simpa using hb
  subst e
  exact ⟨_,st,fun v z=>by
   have z':Data.fields _=Data.cell v:=z
   cases z'⟩
 keep:=fun i h h' st k=>k it (by simp) _ st
 item:=by
  intro X hP hw hK hc i pins s σ H E I hf st hg
  subst hP hw hK
  obtain ⟨f0,f1,f2,f3,f4,f5⟩:=hf it (by simp)
  have W:=Walks.range (prog:=X.prog) (w:=X.w) (I.ok.hd hc) it lo 1 n
  refine W.item i s _ _ hg st fun v h' tk hv st' kk => ?_
  obtain ⟨t,rfl⟩:=hv
  have I1:Inv X pins σ H { s with heap:=h',toks:=tk }:=I.turned (fun b o hb e=>kk b o (by simpa using hb) e) f0 f1 f3 f4 f5
  refine ⟨_,rfl,zee (s:={ s with heap:=h',toks:=tk }) (n := "range_iterator") st' rfl rfl (by decide) ⟨.int (lo + i),H,I1,⟨t,?_⟩,⟨rfl,rfl⟩,st',fun b hb=>(hf b hb).1⟩⟩
  rw [Int.mul_one]
 done:=by
  intro X hP hw hK hc i pins s σ H E I hf st hg
  subst hP hw hK
  obtain ⟨f0,f1,f2,f3,f4,f5⟩:=hf it (by simp)
  exact wpAny_pyNext_range_end (I.ok.hd hc) st (by have:n<=i:=hg; omega) fun h' eb=>⟨rfl,I.turned (t':=s.toks) (fun b o hb e=>eb b o hb e) f0 f1 f3 f4 f5⟩
 self:=fun _ _ _ _ _ st h=>wpAny_pyIter_rangeiter st h
section
variable {X:Cx} {tg:Expr}
noncomputable def iList (K:W.Frag) (tl:TE):TI:=fun σ H R=>tl σ H fun x H1=>∃ a,x = .ref a/\(∃ xs,SqL K H1 a xs)/\R (Itl K a) H1
theorem zb4 {l:Expr} {tl:TE} (hl:PE X l tl):PI X tg l (iList X.K tl):=by
 intro pins s σ H R I h
 refine thnE (hl pins s σ H _ I h) fun v s1 x H1 I1 r1 q1 => ?_
 obtain ⟨a,e,⟨xs,hq⟩,q⟩:=q1
 subst e
 cases r1
 obtain ⟨its,rv,p,hz⟩:=I1.list hq
 refine wpAny_pyIter_list p.isList ?_
 refine ⟨s1.heap.objs.size,[s1.heap.objs.size],_,_,H1,rfl,I1.kept (t':=s1.toks) fun b o e=>Heap.get?_push_of_some _ e,turn_list a _,⟨_,Heap.get?_push_size _ rfl,rfl,rfl⟩,fun b hb => ?_,q⟩
 have e:b=s1.heap.objs.size:=by simpa using hb
 subst e
 exact I1.fpOk (Nat.le_refl _) (I1.hok.fresh (Nat.le_refl _))
theorem range_it {pins:List (Addr×Obj)} {σ : St} {H:Hp} {s:Shared} {R:It->Hp->Prop} {E:Value->Shared->Prop} {lo hi:Int} {t u v:Tok} {tk:Nat} (I:Inv X pins σ H s) (h1 : -(2 ^ 62)<=lo) (h2:lo < 2 ^ 62) (h3 : -(2 ^ 62)<=hi) (h4:hi < 2 ^ 62)
  (q:R (Itr lo (hi - lo).toNat) H):wpAny (model X.prog X.w) X.A (pyIter (.ref s.heap.objs.size)) (PIE X pins σ tg R) E { s with heap:=s.heap.push { cls := .type "range",data := .fields #[.int lo t,.int hi u,.int 1 v] },toks:=tk }:=by
 refine wpAny_pyIter_range (IsRange.new ..) (small_one h1 h2 h3 h4) ?_
 have I1:Inv X pins σ H { s with heap:=s.heap.push { cls := .type "range",data := .fields #[.int lo t,.int hi u,.int 1 v] },toks:=tk }:=I.kept fun b o e=>Heap.get?_push_of_some _ e
 refine ⟨(s.heap.push { cls := .type "range",data := .fields #[.int lo t,.int hi u,.int 1 v] }).objs.size,[(s.heap.push { cls := .type "range",data := .fields #[.int lo t,.int hi u,.int 1 v] }).objs.size],_,_,H,rfl,
  I1.kept (t':=tk) fun b o e=>Heap.get?_push_of_some _ e,turn_range _ lo (hi - lo).toNat,?_,fun b hb => ?_,q⟩
 ·have e1:lo + ((0:Nat):Int) * 1=lo:=by simp
  have e2:(((hi - lo).toNat:Nat):Int) - ((0:Nat):Int)=Builtin.Range.rangeSize lo hi 1:=by rw [rangeSize_one]; split <;> omega
  show IsRangeIter _ _ (lo + ((0:Nat):Int) * 1) ((((hi - lo).toNat:Nat):Int) - ((0:Nat):Int)) 1
  rw [e1,e2]
  exact Heap.get?_push_size _ rfl
 ·have e:b=(s.heap.push { cls := .type "range",data := .fields #[.int lo t,.int hi u,.int 1 v] }).objs.size:=by simpa using hb
  subst e
  exact I1.fpOk (Nat.le_refl _) (I1.hok.fresh (Nat.le_refl _))
noncomputable def iRng1 (ta:TA):TI:=fun σ H R=>ta σ H fun vs H1=>∃ j:Int,vs = [.int j] /\ -(2 ^ 62)<=j/\j < 2 ^ 62/\R (Itr 0 j.toNat) H1
theorem zbB {a:Expr} {ta:TA} {p pos:Pos} (hg:Gl X "range") (hm:X.mg "range" = none) (ha:PA X [a] ta) (hs:starEach [a] X.env = [(false,eval a X.env)]:=by rfl):PI X tg (.Call (.Name "range" p) [a] [] pos) (iRng1 ta):=by
 intro pins s σ H R I h
 refine Call_ (zcT I hg hm boot_range (PyProof.Rows.callWith_type1 (thnE (ha pos pins s σ H _ I h) fun us s1 vs H1 I1 r1 q1 => ?_) hs rfl))
 obtain ⟨j,e,q1,q2,q⟩:=q1
 subst e
 cases r1 with
 | cons r rr =>
  cases rr
  obtain ⟨t,rfl⟩:=r
  exact call_range_1 (range_it I1 (by omega) (by omega) q1 q2 (by simpa using q))
noncomputable def tFor (wi:TI) (g:TG) (tb:TS):TS:=fun D σ H=>wi σ H fun J H1=>∃ W:Nat->Nat->St->Hp->Prop,(∃ m,W 0 m σ H1)/\∀ i m σ H,W i m σ H ->
 (J.stop i H/\D.nx σ H)\/(J.go i H/\∃ N:St->Hp->Prop,(∀ σ' H',N σ' H'->∃ m',m' < m/\W (i + 1) m' σ' H')/\∀ x H',J.yld i H x H'->g x σ H' fun σ2 H2=>tb { D with nx:=N,ct:=N,bk:=D.nx } σ2 H2)
noncomputable def pinsAt (fp:List Addr) (h:Heap):List (Addr×Obj):=fp.filterMap fun b=>(h.get? b).map fun o=>(b,o)
theorem zbI {fp:List Addr} {h:Heap} {b:Addr} {o:Obj} (hb:b∈fp) (e:h.get? b=some o):(b,o)∈pinsAt fp h:=List.mem_filterMap.mpr ⟨b,hb,by rw [e]; rfl⟩
theorem of_pinsAt {fp:List Addr} {h:Heap} {p:Addr×Obj} (hp:p∈pinsAt fp h):p.1∈fp/\h.get? p.1=some p.2:=by
 obtain ⟨b,hb,e⟩:=List.mem_filterMap.mp hp
 cases q:h.get? b with
 | none=>rw [q] at e; cases e
 | some o =>
  rw [q] at e
  have e':(b,o)=p:=Option.some.inj e
  subst e'
  exact ⟨hb,q⟩
theorem Inv.pinned {pins:List (Addr×Obj)} {σ : St} {H:Hp} {s:Shared} {fp:List Addr} (I:Inv X pins σ H s) (hf:∀ b∈fp,FpOk X pins H b) (ho:∀ b∈fp,∃ o,s.heap.get? b=some o/\∀ v,o.data ≠ .cell v):Inv X (pins ++ pinsAt fp s.heap) σ H s :=
 I.pins_of fun p hp=>(List.mem_append.mp hp).elim (fun z=>I.pin p (List.mem_append_right _ z)) fun z=>by
  obtain ⟨hb,e⟩:=of_pinsAt z
  obtain ⟨f0,f1,f2,_⟩:=hf p.1 hb
  obtain ⟨o,e',d⟩:=ho p.1 hb
  rw [e] at e'; cases e'
  exact ⟨e,f0,f1,f2,d⟩
theorem Inv.unpinned {pins pl:List (Addr×Obj)} {σ : St} {H:Hp} {s:Shared} (I:Inv X (pins ++ pl) σ H s):Inv X pins σ H s:=I.pins_of fun p hp=>I.pin p (List.mem_append_right _ (List.mem_append_left _ hp))
theorem zct {iter:Expr} {body:List Stmt} {wi:TI} {g:TG} {tb:TS} {pos:Pos} (hp:PassesOwn (model X.prog X.w) X.A X.env X.xe) (hc:X.calm=true) (hi:PI X tg iter wi) (hg:PG X tg g) (hb:PSs X body tb)
  (hs:∀ x,foldedSetIterable iter X.env x=pure x:=by intro _; rfl):PS X (.For tg iter body [] pos) (tFor wi g tb):=by
 intro pins s σ H D I h
 refine wpAny_For (thn (hi pins s σ H _ I h) fun v s1 h1=>thn h1 fun itv s2 h2 => ?_) hs
 obtain ⟨it,fp,tn,J,H2,e,I2,T,st2,f2,W,⟨m0,w0⟩,turn⟩:=h2
 subst e
 have stat:∀ {H':Hp},(∀ b∈fp,H' b=none)->∀ b∈fp,FpOk X pins H' b:=fun hn b hb=>⟨hn b hb,(f2 b hb).2⟩
 refine codeAny_forLoop_any (fun n s'=>∃ i σ' H',Inv X pins σ' H' s'/\tn i s'.heap/\(∀ b∈fp,H' b=none)/\W i n σ' H') ?_ m0 ⟨0,σ,H2,I2,st2,fun b hb=>(f2 b hb).1,w0⟩
 rintro n s3 ⟨i,σ3,H3,I3,st3,fr3,w3⟩
 rcases turn i n σ3 H3 w3 with ⟨stop,qn⟩ | ⟨go,N,hN,step⟩
 ·refine wpAny_passesOwn hp (thn (T.done X rfl rfl rfl hc i pins s3 σ3 H3 X.xe I3 (stat fr3) st3 stop) fun r s4 ⟨hr,I4⟩ => ?_)
  subst hr
  exact wpAny_execs_nil ⟨σ3,H3,I4,qn⟩
 ·refine wpAny_passesOwn hp (thn (T.item X rfl rfl rfl hc i pins s3 σ3 H3 X.xe I3 (stat fr3) st3 go) fun r s4 ⟨u,hr,h4⟩ => ?_)
  subst hr
  refine wpAny_passesOwn hp (thn h4 fun _ s5 ⟨x,H5,I5,r5,y5,st5,fr5⟩ => ?_)
  have I5':=I5.pinned (stat fr5) (T.obj _ _ st5)
  refine wpAny_passesOwn hp (thn (hg _ s5 σ3 H5 x u _ I5' r5 (step x H5 y5)) fun _ s6 ⟨σ6,H6,I6,q6⟩ => ?_)
  refine wpAny_passesOwn hp (thn (hb _ s6 σ6 H6 _ I6 q6) fun f s7 q7 => ?_)
  have again:∀ {σ7:St} {H7:Hp},Inv X (pins ++ pinsAt fp s5.heap) σ7 H7 s7->N σ7 H7->∃ m,m < n/\∃ i σ' H',Inv X pins σ' H' s7/\tn i s7.heap/\(∀ b∈fp,H' b=none)/\W i m σ' H':=fun {σ7 H7} I7 n7=>by
   obtain ⟨m',hm,w7⟩:=hN σ7 H7 n7
   refine ⟨m',hm,i + 1,σ7,H7,I7.unpinned,T.keep _ _ _ st5 fun b hb o e=>(I7.pin (b,o) (List.mem_append_right _ (List.mem_append_right _ (zbI hb e)))).1,fun b hb => ?_,w7⟩
   obtain ⟨o,e,d⟩:=T.obj _ _ st5 b hb
   exact (I7.pin (b,o) (List.mem_append_right _ (List.mem_append_right _ (zbI hb e)))).2.1
  cases f with
  | next=>obtain ⟨σ7,H7,I7,n7⟩:=q7; exact again I7 n7
  | cont=>obtain ⟨σ7,H7,I7,n7⟩:=q7; exact again I7 n7
  | brk=>obtain ⟨σ7,H7,I7,q7⟩:=q7; exact ⟨σ7,H7,I7.unpinned,q7⟩
  | ret v=>obtain ⟨x7,σ7,H7,I7,r7,q7⟩:=q7; exact ⟨x7,σ7,H7,I7.unpinned,r7,q7⟩
end
noncomputable abbrev R2:=V->V->Hp->VK->Prop
noncomputable def OpR (X:Cx) (f:Value->Value->Sem Value) (r:R2):Prop :=
 ∀ (pins:List (Addr×Obj)) (s:Shared) (σ : St) (H:Hp) (x y:V) (v u:Value) (Q:VK),Inv X pins σ H s->RelV x v->RelV y u->r x y H Q ->
  wpAny (model X.prog X.w) X.A (f v u) (EP X pins σ Q) X.xe s
noncomputable def UnR (X:Cx) (f:Value->Sem Value) (r:V->Hp->VK->Prop):Prop :=
 ∀ (pins:List (Addr×Obj)) (s:Shared) (σ : St) (H:Hp) (x:V) (v:Value) (Q:VK),Inv X pins σ H s->RelV x v->r x H Q ->
  wpAny (model X.prog X.w) X.A (f v) (EP X pins σ Q) X.xe s
noncomputable def CallR (X:Cx) (f:Value) (r:List V->Hp->VK->Prop):Prop :=
 ∀ (pins:List (Addr×Obj)) (s:Shared) (σ : St) (H:Hp) (xs:List V) (us:List Value) (Q:VK),Inv X pins σ H s->Vals xs us->r xs H Q ->
  wpAny (model X.prog X.w) X.A (call f us) (EP X pins σ Q) X.xe s
noncomputable def tOp (r:R2) (ta tb:TE):TE:=fun σ H Q=>ta σ H fun x H1=>tb σ H1 fun y H2=>r x y H2 Q
noncomputable def tUn (r:V->Hp->VK->Prop) (ta:TE):TE:=fun σ H Q=>ta σ H fun x H1=>r x H1 Q
noncomputable def rI (C:Int->Int->Prop) (g:Int->Int->V):R2:=fun x y H Q=>∃ i j,x = .int i/\y = .int j/\C i j/\Q (g i j) H
noncomputable def rI0 (g:Int->Int->V):R2:=fun x y H Q=>∃ i j,x = .int i/\y = .int j/\Q (g i j) H
noncomputable def rU (g:Int->V):V->Hp->VK->Prop:=fun x H Q=>∃ i,x = .int i/\Q (g i) H
section
variable {X:Cx} {a b c:Expr} {ta tb tc:TE} {pos:Pos}
theorem binT (ha:PE X a ta) (hb:PE X b tb) {pins:List (Addr×Obj)} {s:Shared} {σ : St} {H:Hp} {R:V->V->Hp->Prop} (I:Inv X pins σ H s)
  (h:ta σ H fun x H1=>tb σ H1 fun y H2=>R x y H2) {Q:Value->Shared->Prop} {f:Value->Value->Sem Value}
  (hf:∀ v u s2 x y H2,Inv X pins σ H2 s2->RelV x v->RelV y u->R x y H2->wpAny (model X.prog X.w) X.A (f v u) Q X.xe s2) :
  wpAny (model X.prog X.w) X.A (eval a X.env) (fun v s₁ => wpAny (model X.prog X.w) X.A (eval b X.env) (fun u s₂ => wpAny (model X.prog X.w) X.A (f v u) Q X.xe s₂) X.xe s₁) X.xe s:=by
 refine thnE (ha pins s σ H _ I h) fun v s1 x H1 I1 r1 q1 => ?_
 refine thnE (hb pins s1 σ H1 _ I1 q1) fun u s2 y H2 I2 r2 q2 => ?_
 exact hf v u s2 x y H2 I2 r1 r2 q2
theorem zaw {op:Operator} {r:R2} (ho:OpR X (binaryOp op) r) (ha:PE X a ta) (hb:PE X b tb):PE X (.BinOp a op b pos) (tOp r ta tb):=by
 intro pins s σ H Q I h
 exact wpAny_BinOp (binT ha hb I h fun v u s2 x y H2 I2 rx ry q=>ho pins s2 σ H2 x y v u Q I2 rx ry q)
theorem zbO {op:UnaryOp} {r:V->Hp->VK->Prop} (ho:UnR X (unaryOp op) r) (ha:PE X a ta):PE X (.UnaryOp op a pos) (tUn r ta):=by
 intro pins s σ H Q I h
 exact UnaryOp_ (thnE (ha pins s σ H _ I h) fun v s1 x H1 I1 r1 q1=>ho pins s1 σ H1 x v Q I1 r1 q1)
theorem opI {f:Value->Value->Sem Value} {C:Int->Int->Prop} {g:Int->Int->Int}
  (rule:∀ (i j:Int) (t u:Tok) (s:Shared) (Q:Value->Shared->Prop) (E:Value->Shared->Prop),C i j->Q (.int (g i j) s.toks) { s with toks:=s.toks + 1 }->wpAny (model X.prog X.w) X.A (f (.int i t) (.int j u)) Q E s) :
  OpR X f (rI C fun i j => .int (g i j)):=by
 intro pins s σ H x y v u Q I rx ry h
 obtain ⟨i,j,rfl,rfl,hc,q⟩:=h
 obtain ⟨t,rfl⟩:=rx
 obtain ⟨t',rfl⟩:=ry
 exact rule i j t t' s _ _ hc ⟨.int (g i j),H,I.tok _,⟨_,rfl⟩,q⟩
theorem opI0 {f:Value->Value->Sem Value} {g:Int->Int->Int}
  (rule:∀ (i j:Int) (t u:Tok) (s:Shared) (Q:Value->Shared->Prop) (E:Value->Shared->Prop),Q (.int (g i j) s.toks) { s with toks:=s.toks + 1 }->wpAny (model X.prog X.w) X.A (f (.int i t) (.int j u)) Q E s) :
  OpR X f (rI0 fun i j => .int (g i j)):=by
 intro pins s σ H x y v u Q I rx ry h
 obtain ⟨i,j,rfl,rfl,q⟩:=h
 obtain ⟨t,rfl⟩:=rx
 obtain ⟨t',rfl⟩:=ry
 exact rule i j t t' s _ _ ⟨.int (g i j),H,I.tok _,⟨_,rfl⟩,q⟩
theorem opB0 {f:Value->Value->Sem Value} {g:Int->Int->Bool}
  (rule:∀ (i j:Int) (t u:Tok) (s:Shared) (Q:Value->Shared->Prop) (E:Value->Shared->Prop),Q (.bool (g i j)) s->wpAny (model X.prog X.w) X.A (f (.int i t) (.int j u)) Q E s) :
  OpR X f (rI0 fun i j => .bl (g i j)):=by
 intro pins s σ H x y v u Q I rx ry h
 obtain ⟨i,j,rfl,rfl,q⟩:=h
 obtain ⟨t,rfl⟩:=rx
 obtain ⟨t',rfl⟩:=ry
 exact rule i j t t' s _ _ ⟨.bl (g i j),H,I,rfl,q⟩
noncomputable def CDiv (i j:Int):Prop:=0 < j/\j < 1073741824
noncomputable def CPow (i j:Int):Prop:=0<=j/\j<=1000000/\i.natAbs < 2 ^ 64
noncomputable def CMul (i j:Int):Prop:=(-(2 ^ 64) < i/\i < 2 ^ 64)\/(-(2 ^ 64) < j/\j < 2 ^ 64)
theorem CMul.ok {i j:Int} (h:CMul i j):IntMulOk i j:=by
 rcases h with ⟨h1,h2⟩ | ⟨h1,h2⟩
 ·exact .of_left (intBits_le_64 h1 h2)
 ·exact .of_right (intBits_le_64 h1 h2)
theorem two_pow_nn (k:Nat):(0:Int)<=2 ^ k:=by
 rw [two_pow_cast]
 exact Int.natCast_nonneg _
theorem zbw:OpR X (binaryOp .Add) (rI0 fun i j => .int (i + j)):=opI0 fun _ _ _ _ _ _ _ q=>add_int q
theorem zd0:OpR X (binaryOp .Sub) (rI0 fun i j => .int (i - j)):=opI0 fun _ _ _ _ _ _ _ q=>sub_int q
theorem zdi:OpR X (binaryOp .Mult) (rI CMul fun i j => .int (i * j)):=opI fun _ _ _ _ _ _ _ hc q=>mul_int q hc.ok
theorem zbQ:OpR X (binaryOp .FloorDiv) (rI CDiv fun i j => .int (i / j)):=opI fun i j _ _ _ _ _ hc q=>by
 have h1:(0:Int) < j:=hc.1
 have h2:j < 1073741824:=hc.2
 exact floordiv_int (by omega) (by rw [Int.fdiv_eq_ediv_of_nonneg i (by omega)]; exact q) (.inl (PyProof.noPylong_small (by omega)))
theorem za8:OpR X (binaryOp .Mod) (rI (fun _ j=>0 < j) fun i j => .int (i % j)):=opI fun i j _ _ _ _ _ hc q=>by
 have h1:(0:Int) < j:=hc
 exact mod_int' (by omega) (by rw [Int.fmod_eq_emod_of_nonneg i (by omega)]; exact q)
theorem zdh:OpR X (binaryOp .Pow) (rI CPow fun i j => .int (i ^ j.toNat)):=opI fun _ _ _ _ _ _ _ hc q=>pow_int_small hc.1 hc.2.1 hc.2.2 q
theorem op_shr:OpR X (binaryOp .RShift) (rI (fun _ j=>0<=j) fun i j => .int (i / 2 ^ j.toNat)):=opI fun i j _ _ _ _ _ hc q =>
 rshift_int hc (by rw [Int.fdiv_eq_ediv_of_nonneg i (two_pow_nn _)]; exact q)
theorem op_and:OpR X (binaryOp .BitAnd) (rI0 fun i j => .int (Builtin.bitAnd i j)):=opI0 fun _ _ _ _ _ _ _ q=>and_int q
theorem unI {f:Value->Sem Value} {g:Int->Int}
  (rule:∀ (i:Int) (t:Tok) (s:Shared) (Q:Value->Shared->Prop) (E:Value->Shared->Prop),Q (.int (g i) s.toks) { s with toks:=s.toks + 1 }->wpAny (model X.prog X.w) X.A (f (.int i t)) Q E s) :
  UnR X f (rU fun i => .int (g i)):=by
 intro pins s σ H x v Q I rx h
 obtain ⟨i,rfl,q⟩:=h
 obtain ⟨t,rfl⟩:=rx
 exact rule i t s _ _ ⟨.int (g i),H,I.tok _,⟨_,rfl⟩,q⟩
theorem za4:UnR X (unaryOp .USub) (rU fun i => .int (-i)):=unI fun _ _ _ _ _ q=>neg_int q
end
noncomputable def scal:V->V->Bool
 | .non,.non=>true | .non,.int _=>true | .int _,.non=>true | .non,.bl _=>true | .bl _,.non=>true | .non,.str _=>true | .str _,.non=>true
 | .int _,.int _=>true | .bl _,.bl _=>true | .str _,.str _=>true | .byt _,.byt _=>true
 | .int _,.str _=>true | .str _,.int _=>true | .bl _,.str _=>true | .str _,.bl _=>true
 | _,_=>false
noncomputable def rEq:R2:=fun x y H Q=>scal x y=true/\Q (.bl (decide (x=y))) H
noncomputable def rNe:R2:=fun x y H Q=>scal x y=true/\Q (.bl (!decide (x=y))) H
theorem zeI {i j:Int}:decide (V.int i=V.int j)=(i == j):=by
 rw [Bool.eq_iff_iff]
 simp
theorem ze6 {i j:Bool}:decide (V.bl i=V.bl j)=(i == j):=by
 rw [Bool.eq_iff_iff]
 simp
theorem zeH {i j:Str}:decide (V.str i=V.str j)=(i == j):=by
 rw [Bool.eq_iff_iff]
 simp
theorem zeJ {i j:Array UInt8}:decide (V.byt i=V.byt j)=(i.toList == j.toList):=by
 rw [Bool.eq_iff_iff]
 cases i
 cases j
 simp
section
variable {X:Cx} {a b c:Expr} {ta tb tc:TE} {pos:Pos}
theorem zay {pins:List (Addr×Obj)} {σ : St} {H:Hp} {s:Shared} {Q:VK} {k k':Bool} (I:Inv X pins σ H s) (q:Q (.bl k) H) (e:k=k'):EP X pins σ Q (.bool k') s:=by
 subst e
 exact ⟨.bl k,H,I,rfl,q⟩
theorem zaF:OpR X (compareOp .Eq) rEq:=by
 intro pins s σ H x y v u Q I rx ry h
 obtain ⟨hs,q⟩:=h
 cases x with
 | non =>
  cases rx
  cases y with
  | non=>cases ry; exact PySem.EqNone.eq_none_none (zay I q (by simp))
  | bl j=>cases ry; exact PySem.EqNone.eq_none_bool (zay I q (by simp))
  | int j=>obtain ⟨t',rfl⟩:=ry; exact PySem.EqNone.eq_none_int (zay I q (by simp))
  | str j=>obtain ⟨t',rfl⟩:=ry; exact PySem.EqNone.eq_none_str (zay I q (by simp))
  | _=>exact absurd (show false=true from hs) Bool.false_ne_true
 | bl i =>
  cases rx
  cases y with
  | non=>cases ry; exact PySem.EqNone.eq_bool_none (zay I q (by simp))
  | bl j=>cases ry; exact eq_bool (zay I q ze6)
  | str j=>obtain ⟨t',rfl⟩:=ry; exact PySem.EqMixed.eq_bool_str (zay I q (by simp))
  | _=>exact absurd (show false=true from hs) Bool.false_ne_true
 | int i =>
  obtain ⟨t,rfl⟩:=rx
  cases y with
  | non=>cases ry; exact PySem.EqNone.eq_int_none (zay I q (by simp))
  | int j=>obtain ⟨t',rfl⟩:=ry; exact eq_int (zay I q zeI)
  | str j=>obtain ⟨t',rfl⟩:=ry; exact PySem.EqMixed.eq_int_str (zay I q (by simp))
  | _=>exact absurd (show false=true from hs) Bool.false_ne_true
 | str i =>
  obtain ⟨t,rfl⟩:=rx
  cases y with
  | non=>cases ry; exact PySem.EqNone.eq_str_none (zay I q (by simp))
  | bl j=>cases ry; exact PySem.EqMixed.eq_str_bool (zay I q (by simp))
  | int j=>obtain ⟨t',rfl⟩:=ry; exact PySem.EqMixed.eq_str_int (zay I q (by simp))
  | str j=>obtain ⟨t',rfl⟩:=ry; exact eq_str (zay I q zeH)
  | _=>exact absurd (show false=true from hs) Bool.false_ne_true
 | byt i =>
  obtain ⟨t,rfl⟩:=rx
  cases y with
  | byt j=>obtain ⟨t',rfl⟩:=ry; exact PySem.W.eq_bytes (zay I q zeJ)
  | _=>exact absurd (show false=true from hs) Bool.false_ne_true
 | _=>cases y <;> exact absurd (show false=true from hs) Bool.false_ne_true
theorem zcF:OpR X (compareOp .NotEq) rNe:=by
 intro pins s σ H x y v u Q I rx ry h
 obtain ⟨hs,q⟩:=h
 cases x with
 | non =>
  cases rx
  cases y with
  | non=>cases ry; exact PySem.EqNone.ne_none_none (zay I q (by simp))
  | bl j=>cases ry; exact PySem.EqNone.ne_none_bool (zay I q (by simp))
  | int j=>obtain ⟨t',rfl⟩:=ry; exact PySem.EqNone.ne_none_int (zay I q (by simp))
  | str j=>obtain ⟨t',rfl⟩:=ry; exact PySem.EqNone.ne_none_str (zay I q (by simp))
  | _=>exact absurd (show false=true from hs) Bool.false_ne_true
 | bl i =>
  cases rx
  cases y with
  | non=>cases ry; exact PySem.EqNone.ne_bool_none (zay I q (by simp))
  | bl j=>cases ry; exact ne_bool (zay I q (congrArg not ze6))
  | str j=>obtain ⟨t',rfl⟩:=ry; exact PySem.EqMixed.ne_bool_str (zay I q (by simp))
  | _=>exact absurd (show false=true from hs) Bool.false_ne_true
 | int i =>
  obtain ⟨t,rfl⟩:=rx
  cases y with
  | non=>cases ry; exact PySem.EqNone.ne_int_none (zay I q (by simp))
  | int j=>obtain ⟨t',rfl⟩:=ry; exact ne_int (zay I q (congrArg not zeI))
  | str j=>obtain ⟨t',rfl⟩:=ry; exact PySem.EqMixed.ne_int_str (zay I q (by simp))
  | _=>exact absurd (show false=true from hs) Bool.false_ne_true
 | str i =>
  obtain ⟨t,rfl⟩:=rx
  cases y with
  | non=>cases ry; exact PySem.EqNone.ne_str_none (zay I q (by simp))
  | bl j=>cases ry; exact PySem.EqMixed.ne_str_bool (zay I q (by simp))
  | int j=>obtain ⟨t',rfl⟩:=ry; exact PySem.EqMixed.ne_str_int (zay I q (by simp))
  | str j=>obtain ⟨t',rfl⟩:=ry; exact ne_str (zay I q (congrArg not zeH))
  | _=>exact absurd (show false=true from hs) Bool.false_ne_true
 | byt i =>
  obtain ⟨t,rfl⟩:=rx
  cases y with
  | byt j=>obtain ⟨t',rfl⟩:=ry; exact PySem.W.ne_bytes (zay I q (congrArg not zeJ))
  | _=>exact absurd (show false=true from hs) Bool.false_ne_true
 | _=>cases y <;> exact absurd (show false=true from hs) Bool.false_ne_true
theorem zex:OpR X (compareOp .Lt) (rI0 fun i j => .bl (decide (i < j))):=opB0 fun _ _ _ _ _ _ _ q=>lt_int q
theorem zbo:OpR X (compareOp .LtE) (rI0 fun i j => .bl (decide (i<=j))):=opB0 fun _ _ _ _ _ _ _ q=>le_int q
theorem ze7:OpR X (compareOp .Gt) (rI0 fun i j => .bl (decide (j < i))):=opB0 fun _ _ _ _ _ _ _ q=>gt_int q
theorem zfd:OpR X (compareOp .GtE) (rI0 fun i j => .bl (decide (j<=i))):=opB0 fun _ _ _ _ _ _ _ q=>ge_int q
theorem op_in_str:OpR X (compareOp .In) (fun x y H Q=>∃ i j,x = .str i/\y = .str j/\Q (.bl (!(Builtin.Str.occurrences j i 0 j.length 1).isEmpty)) H):=by
 intro pins s σ H x y v u Q I rx ry h
 obtain ⟨i,j,rfl,rfl,q⟩:=h
 obtain ⟨t,rfl⟩:=rx
 obtain ⟨t',rfl⟩:=ry
 exact in_str (zay I q rfl)
theorem zan (b:Expr) {op:CmpOp} (h:op ≠ .In:=by decide) (h2:op ≠ .NotIn:=by decide):behindInMarks op b=false:=by
 have e1:(op == CmpOp.In)=false:=by cases op <;> first | rfl | exact absurd rfl h
 have e2:(op == CmpOp.NotIn)=false:=by cases op <;> first | rfl | exact absurd rfl h2
 cases b <;> simp [behindInMarks,e1,e2]
theorem zbE {op:CmpOp} {r:R2} (ho:OpR X (compareOp op) r) (ha:PE X a ta) (hb:PE X b tb) (hm:behindInMarks op b=false):PE X (.Compare a [op] [b] pos) (tOp r ta tb):=by
 intro pins s σ H Q I h
 exact wpAny_Compare1 (binT ha hb I h fun v u s2 x y H2 I2 rx ry q=>ho pins s2 σ H2 x y v u Q I2 rx ry q) hm
noncomputable def tTest (t:TE):TT:=fun σ H Q=>t σ H fun x H'=>∃ k,x = .bl k/\Q k H'
theorem zak {op:CmpOp} {r:R2} (ho:OpR X (compareOp op) r) (ha:PE X a ta) (hb:PE X b tb) (hm:behindInMarks op b=false):PT X (.Compare a [op] [b] pos) (tTest (tOp r ta tb)):=by
 intro pins s σ H Q I h
 refine wpAny_isTrue_Compare1 (thnE (ha pins s σ H _ I h) fun v s1 x H1 I1 r1 q1=>thnE (hb pins s1 σ H1 _ I1 q1) fun u s2 y H2 I2 r2 q2 =>
  thnE (ho pins s2 σ H2 x y v u _ I2 r1 r2 q2) fun c s3 z H3 I3 r3 ⟨k,e,q3⟩ => ?_) hm
 subst e
 cases r3
 exact wpAny_truthy_bool ⟨H3,I3,q3⟩
noncomputable def tChain (r r':R2) (ta tb tc:TE):TE:=fun σ H Q=>ta σ H fun x H1=>tb σ H1 fun y H2=>r x y H2 fun z H3=>∃ k,z = .bl k /\
 (if k=true then tc σ H3 fun w' H4=>r' y w' H4 Q else Q (.bl false) H3)
theorem zdZ {op op':CmpOp} {r r':R2} (ho:OpR X (compareOp op) r) (ho':OpR X (compareOp op') r') (ha:PE X a ta) (hb:PE X b tb) (hc:PE X c tc)
  (hm:lastMarks [op,op'] [b,c]=false:=by with_unfolding_all rfl):PE X (.Compare a [op,op'] [b,c] pos) (tChain r r' ta tb tc):=by
 intro pins s σ H Q I h
 refine Compare_chain (thnE (ha pins s σ H _ I h) fun v s1 x H1 I1 r1 q1=>chain_link (thnE (hb pins s1 σ H1 _ I1 q1) fun u s2 y H2 I2 r2 q2 =>
  thnE (ho pins s2 σ H2 x y v u _ I2 r1 r2 q2) fun d s3 z H3 I3 r3 ⟨k,e,q3⟩ => ?_)) hm
 subst e
 cases r3
 refine wpAny_truthy_bool ?_
 cases k with
 | false=>exact ite_ff ⟨.bl false,H3,I3,rfl,q3⟩
 | true=>exact ite_tt (chain_last (thnE (hc pins s3 σ H3 _ I3 q3) fun w' s4 z' H4 I4 r4 q4=>ho' pins s4 σ H4 y z' u w' Q I4 r2 r4 q4))
theorem zbf {op op':CmpOp} {r r':R2} (ho:OpR X (compareOp op) r) (ho':OpR X (compareOp op') r') (ha:PE X a ta) (hb:PE X b tb) (hc:PE X c tc)
  (hm:lastMarks [op,op'] [b,c]=false:=by with_unfolding_all rfl):PT X (.Compare a [op,op'] [b,c] pos) (tTest (tChain r r' ta tb tc)):=by
 intro pins s σ H Q I h
 refine isTrue_chain (thnE (ha pins s σ H _ I h) fun v s1 x H1 I1 r1 q1=>test_link (thnE (hb pins s1 σ H1 _ I1 q1) fun u s2 y H2 I2 r2 q2 =>
  thnE (ho pins s2 σ H2 x y v u _ I2 r1 r2 q2) fun d s3 z H3 I3 r3 ⟨k,e,q3⟩ => ?_)) hm
 subst e
 cases r3
 refine wpAny_truthy_bool ?_
 cases k with
 | false =>
  obtain ⟨k',e',q'⟩:=q3
  cases e'
  exact ite_ff ⟨H3,I3,q'⟩
 | true =>
  refine ite_tt (test_last (thnE (hc pins s3 σ H3 _ I3 q3) fun w' s4 z' H4 I4 r4 q4=>thnE (ho' pins s4 σ H4 y z' u w' _ I4 r2 r4 q4) fun d' s5 z2 H5 I5 r5 ⟨k2,e2,q5⟩ => ?_))
  subst e2
  cases r5
  exact wpAny_truthy_bool ⟨H5,I5,q5⟩
theorem zd5:(sizeLine:Nat) < 2 ^ 63:=by rw [sizeLine_eq]; decide
theorem zce {x:V} {us:List Value} (r:Vals [x] us):∃ u,us = [u]/\RelV x u:=by
 cases r with
 | cons r1 r2=>cases r2; exact ⟨_,rfl,r1⟩
theorem zeN {x y:V} {us:List Value} (r:Vals [x,y] us):∃ u w',us = [u,w']/\RelV x u/\RelV y w':=by
 cases r with
 | cons r1 r2 =>
  cases r2 with
  | cons r3 r4=>cases r4; exact ⟨_,_,rfl,r1,r3⟩
theorem call_min2 (hc:X.calm=true):CallR X (.builtin "min") (fun xs H Q=>∃ i j,xs = [.int i,.int j]/\Q (.int (if j < i then j else i)) H):=by
 intro pins s σ H xs us Q I r h
 obtain ⟨i,j,rfl,q⟩:=h
 obtain ⟨u,w',rfl,⟨t,rfl⟩,⟨t',rfl⟩⟩:=zeN r
 refine min_two_ints (I.ok.hd hc) fun h' tk k=>⟨_,H,I.kept k,?_,q⟩
 by_cases hj:j < i
 ·rw [if_pos hj,if_pos hj]; exact ⟨_,rfl⟩
 ·rw [if_neg hj,if_neg hj]; exact ⟨_,rfl⟩
theorem zb1:CallR X (.type "int") (fun xs H Q=>(∃ i,xs = [.int i]/\Q (.int i) H)\/∃ k,xs = [.bl k]/\Q (.int (if k then 1 else 0)) H):=by
 intro pins s σ H xs us Q I r h
 rcases h with ⟨i,rfl,q⟩ | ⟨k,rfl,q⟩
 ·obtain ⟨u,rfl,t,rfl⟩:=zce r
  exact call_int_int ⟨.int i,H,I,⟨_,rfl⟩,q⟩
 ·obtain ⟨u,rfl,r1⟩:=zce r
  cases r1
  exact call_int_bool ⟨.int (if k then 1 else 0),H,I.tok _,⟨_,rfl⟩,q⟩
end
structure ObjM (h:Heap) (x dx C:Addr) (mA:Str->Option Value):Prop where
 obj:h.get? x=some (PySem.W.instObj C dx)
 ns:h.Ns1 dx mA
 ne:dx≠x
theorem lookIn_ns {h:Heap} {dx:Addr} {mA:Str->Option Value} (n:h.Ns1 dx mA):∃ od,h.get? dx=some od/\∀ name,PySem.W.lookIn name od=some (mA name):=by
 obtain ⟨o,es,ep,ho,hd,hk,_,hm⟩:=n
 refine ⟨o,ho,fun name => ?_⟩
 have e:=hm name
 unfold nsFind findBy at e
 rw [<- Array.find?_toList] at e
 unfold PySem.W.lookIn
 rw [hd]
 dsimp only
 split
 ·rename_i y q
  rw [q] at e
  exact congrArg some e
 ·rename_i q
  rw [q] at e
  have a:es.toList.any (·.refKey)=false:=by
   rw [List.any_eq_false]
   intro y hy
   obtain ⟨z,t,hkey⟩:=hk y (Array.mem_toList_iff.mp hy)
   simp [DictEntry.refKey,hkey]
  have a':¬ es.toList.any (·.refKey)=true:=by rw [a]; exact Bool.false_ne_true
  rw [if_neg a']
  exact congrArg some e
theorem ObjM.look {h:Heap} {x dx C:Addr} {mA:Str->Option Value} (I:ObjM h x dx C mA):∃ od,PySem.W.InstAt h x (PySem.W.instObj C dx) C (some od)/\∀ name,PySem.W.lookIn name od=some (mA name) :=
 let ⟨od,ho,hl⟩:=lookIn_ns I.ns
 ⟨od,⟨I.obj,rfl,rfl,ho⟩,hl⟩
section
variable {prog:Program} {w:World} {A:Around} {E:Value->Shared->Prop} {s:Shared} {K:W.Frag} {x dx C f:Addr} {mA:Str->Option Value} {name:Str} {v:Value}
theorem get_map {expr:Bool} {Q:Value->Shared->Prop} (X:K.In s.heap) (I:ObjM s.heap x dx C mA) (hg:PySem.W.plainGet K C name=true) (hh:PySem.W.hasDictIn K C=true)
  (ha:PySem.W.findIn K (.ref C) name=some none) (hv:mA name=some v) (hv':PySem.W.handedIn v=true) (h:Q v { s with toks:=s.toks + 1 }) :
  wpAny (model prog w) A (getAttr (.ref x) name expr) Q E s:=by
 obtain ⟨od,J,hl⟩:=I.look
 exact PySem.W.get_value X J (PySem.W.plainGet_of hg).1 (PySem.W.findObj_own hh ha rfl (by rw [hl,hv])) hv' h
theorem get_meth {pl:Sem Bool} {Q:Value×List Value->Shared->Prop} (X:K.In s.heap) (I:ObjM s.heap x dx C mA) (hg:PySem.W.plainGet K C name=true)
  (hf:PySem.W.findIn K (.ref C) name=some (some (.ref f))) (ht:PySem.W.isFn K (.ref f)=true) (hv:mA name=none) (h:Q (.ref f,[.ref x]) s) :
  wpAny (model prog w) A (getMethod (.ref x) name pl) Q E s:=by
 obtain ⟨od,J,hl⟩:=I.look
 exact PySem.W.method_fn X J (PySem.W.plainGet_of hg).1 (PySem.W.plainGet_of hg).2 hf (beq_iff_eq.mp ht) (by show (PySem.W.lookIn name od).map (·.isSome)=some false; rw [hl,hv]; rfl) h
theorem set_map {ns:List Str} {Q:Unit->Shared->Prop} (X:K.In s.heap) (I:ObjM s.heap x dx C mA)
  (hs:PySem.W.findIn K (.ref C) "__setattr__" = some (some (.builtin "object.__setattr__"))) (hp:PySem.W.plainOver K C=true) (ht:PySem.W.takerIn K C name=some none) (hh:PySem.W.hasDictIn K C=true)
  (hw:PySem.Within mA ns) (hsz:ns.length<=sizeLine)
  (h:∀ h',ObjM h' x dx C (fun y=>if y=name then some v else mA y)->Heap.SameBut dx s.heap h'->Q () { s with heap:=h',toks:=s.toks + 2 }) :
  wpAny (model prog w) A (setAttr (.ref x) name v) Q E s:=by
 obtain ⟨od,J,hl⟩:=I.look
 refine PySem.W.set_plain X J hs (PySem.W.osa_open (s:={ s with toks:=s.toks + 1 }) (r:=none) X J hp ht fun b => ?_)
 obtain ⟨cd,hc,hd'⟩:=PySem.W.any_some hh
 have hx:s.heap.get? x=some ⟨.ref C,some dx,.plain,#[]⟩:=I.obj
 refine wpAny_bind (wpAny_pure (wpAny_bind (wpAny_bind (wpAny_loadPart hx (wpAny_bind (PySem.W.Looks.here (s:={ s with toks:=s.toks + 1 }) (PySem.W.looks_clsIn X hc) ?_))))))
 rw [hd']
 refine wpAny_pure (a:=some dx) (wpAny_bind (wpAny_pure (wpAny_bind ?_)))
 refine wpAny_nsSet1 (s:={ s with toks:=s.toks + 1 }) I.ns fun h' hn2 hs2 => ?_
 obtain ⟨oD,esD,epD,hoD,hdD,hcD⟩:=hn2.count (PySem.Within.cons name v hw)
 refine wpAny_bind (wpAny_lookBehind hoD (by rw [hdD]; exact pastItsLine_dict (Nat.le_trans hcD (by rw [List.length_cons]; omega))) ?_)
 exact wpAny_pure (h _ ⟨(hs2.2 _ (Ne.symm I.ne)).trans I.obj,hn2,I.ne⟩ hs2)
theorem make_map {R:Result->Shared->Prop} {vs:List Value} {kw:List (Str×Value)} (X:K.In s.heap) (hm:PySem.W.makesIn K C=true)
  (hi:PySem.W.findIn K (.ref C) "__init__" = some (some (.ref f))) (hf:PySem.W.typeIn K (.ref f)=some (.type "function"))
  (h:codeAny (model prog w) (A.under (.builtin "type.__call__" ⟨.ref C :: vs,kw⟩)) (.call (.ref f) ⟨.ref (s.heap.objs.size + 1) :: vs,kw⟩) (PySem.W.InitBack (s.heap.objs.size + 1) R)
   { s with heap:=(s.heap.push PySem.W.emptyDict).push (PySem.W.instObj C s.heap.objs.size) }) :
  codeAny (model prog w) A (.call (.ref C) ⟨vs,kw⟩) R s:=by
 obtain ⟨hh,g,d,t,os⟩:=s
 exact PySem.W.make_core (PySem.W.makes_of X hm) (PySem.W.looks_findIn X hi) (fun self=>PySem.W.bind_fn X self hf) (.inl rfl) h
end
noncomputable def putF (f:Str) (v:V):List (Str×V)->List (Str×V)
 | [] => [(f,v)]
 | (g,x) :: r=>if g=f then (g,v) :: r else (g,x) :: putF f v r
theorem zcw (f g:Str) (v:V):∀ fs:List (Str×V),(putF f v fs).lookup g=if g=f then some v else fs.lookup g
 | []=>by
  show List.lookup g [(f,v)]=_
  by_cases h:g=f
  ·have hb:(g == f)=true:=beq_iff_eq.mpr h
   simp only [List.lookup,hb,if_pos h]
  ·have hb:(g == f)=false:=beq_eq_false_iff_ne.mpr h
   simp only [List.lookup,hb,if_neg h]
 | (k,x) :: r=>by
  have ih:=zcw f g v r
  rw [show putF f v ((k,x) :: r)=(if k=f then (k,v) :: r else (k,x) :: putF f v r) from rfl]
  by_cases hk:k=f
  ·rw [if_pos hk]
   by_cases h:g=k
   ·have hb:(g == k)=true:=beq_iff_eq.mpr h
    simp only [List.lookup,hb,if_pos (h.trans hk)]
   ·have hb:(g == k)=false:=beq_eq_false_iff_ne.mpr h
    simp only [List.lookup,hb,if_neg (fun e:g=f=>h (e.trans hk.symm))]
  ·rw [if_neg hk]
   by_cases h:g=k
   ·have hb:(g == k)=true:=beq_iff_eq.mpr h
    simp only [List.lookup,hb,if_neg (fun e:g=f=>hk (h.symm.trans e))]
   ·have hb:(g == k)=false:=beq_eq_false_iff_ne.mpr h
    simp only [List.lookup,hb]
    exact ih
theorem zcA (f:Str) (v:V):∀ fs:List (Str×V),f∈(putF f v fs).map (·.1)/\∀ g,g∈fs.map (·.1)->g∈(putF f v fs).map (·.1)
 | []=>⟨by simp [putF],fun g h=>by simp at h⟩
 | (k,x) :: r=>by
  obtain ⟨i1,i2⟩:=zcA f v r
  rw [show putF f v ((k,x) :: r)=(if k=f then (k,v) :: r else (k,x) :: putF f v r) from rfl]
  by_cases hk:k=f
  ·rw [if_pos hk]
   subst hk
   exact ⟨by simp,fun g h=>by simpa using h⟩
  ·rw [if_neg hk]
   refine ⟨?_,fun g h => ?_⟩
   ·rw [List.map_cons]
    exact List.mem_cons_of_mem _ i1
   ·rw [List.map_cons] at h ⊢
    rcases List.mem_cons.mp h with e | e
    ·exact List.mem_cons.mpr (.inl e)
    ·exact List.mem_cons_of_mem _ (i2 g e)
theorem zcz (f:Str) (v:V):∀ fs:List (Str×V),(putF f v fs).length<=fs.length + 1
 | []=>by simp [putF]
 | (k,x) :: r=>by
  have ih:=zcz f v r
  rw [show putF f v ((k,x) :: r)=(if k=f then (k,v) :: r else (k,x) :: putF f v r) from rfl]
  by_cases hk:k=f
  ·rw [if_pos hk,List.length_cons,List.length_cons]; omega
  ·rw [if_neg hk,List.length_cons,List.length_cons]; omega
theorem RelO.some_of {v:V} {o:Option Value} (r:RelO (some v) o):∃ u,o=some u/\RelV v u:=by
 cases o with
 | none=>exact (show False from r).elim
 | some u=>exact ⟨u,rfl,r⟩
theorem RelO.none_of {o:Option Value} (r:RelO none o):o=none:=by
 cases o with
 | none=>rfl
 | some u=>exact (show False from r).elim
theorem handed_of {v:V} {u:Value} (r:RelV v u):PySem.W.handedIn u=true:=by
 cases v with
 | non=>cases (show u=Value.none from r); rfl
 | bl b=>cases (show u=Value.bool b from r); rfl
 | int i=>obtain ⟨t,e⟩:=(show ∃ t,u=Value.int i t from r); cases e; rfl
 | str x=>obtain ⟨t,e⟩:=(show ∃ t,u=Value.str x t from r); cases e; rfl
 | byt b=>obtain ⟨t,e⟩:=(show ∃ t,u=Value.bytes b t from r); cases e; rfl
 | flt b=>obtain ⟨t,e⟩:=(show ∃ t,u=Value.float b t from r); cases e; rfl
 | ref a=>cases (show u=Value.ref a from r); rfl
 | ty n=>cases (show u=Value.type n from r); rfl
section
variable {P:Program} {w:World} {H H':Hp} {h h':Heap} {a C dx:Addr} {fs fs':List (Str×V)}
theorem zc2 (hok:HOk P w H h) (e:H a=some (.ins C dx fs)):∃ mA,ObjM h a dx C mA/\(∀ f,RelO (fs.lookup f) (mA f))/\PySem.Within mA (fs.map (·.1))/\fs.length<=1000/\H dx=some (.own a):=by
 obtain ⟨d,z,ne,ob,mA,n,r,q⟩:=(show ObjOk P w H h a (.ins C dx fs) from hok a _ e)
 exact ⟨mA,⟨ob,n,ne⟩,r,q,z,d⟩
end
structure Cls (K:W.Frag) (C:Addr):Prop where
 pg:PySem.W.plainGet K C Str.empty=true
 hd:PySem.W.hasDictIn K C=true
 po:PySem.W.plainOver K C=true
 sa:PySem.W.findIn K (.ref C) "__setattr__" = some (some (.builtin "object.__setattr__"))
theorem Cls.get {K:W.Frag} {C:Addr} (c:Cls K C) (f:Str):PySem.W.plainGet K C f=true:=c.pg
noncomputable def NoAttr (K:W.Frag) (C:Addr) (f:Str):Prop:=PySem.W.findIn K (.ref C) f=some none
theorem NoAttr.taker {K:W.Frag} {C:Addr} {f:Str} (n:NoAttr K C f):PySem.W.takerIn K C f=some none:=by
 unfold PySem.W.takerIn
 rw [show PySem.W.findIn K (.ref C) f=some none from n]
 rfl
structure Meth (K:W.Frag) (C:Addr) (m:Str) (f:Addr):Prop where
 at_:PySem.W.findIn K (.ref C) m=some (some (.ref f))
 fn:PySem.W.isFn K (.ref f)=true
 kp:PySem.W.keepIn K (.ref f)=true
section
variable {X:Cx} {pins:List (Addr×Obj)} {σ : St} {H:Hp} {s:Shared} {a C dx:Addr} {fs:List (Str×V)} {f:Str} {v:V} {A:Around} {E:Value->Shared->Prop}
theorem getattr_ok {b:Bool} {Q:Value->Shared->Prop} (I:Inv X pins σ H s) (e:H a=some (.ins C dx fs)) (c:Cls X.K C) (n:NoAttr X.K C f) (l:fs.lookup f=some v)
  (h:∀ u s',Inv X pins σ H s'->RelV v u->Q u s'):wpAny (model X.prog X.w) A (getAttr (.ref a) f b) Q E s:=by
 obtain ⟨mA,O,r,_,_,_⟩:=zc2 I.hok e
 obtain ⟨u,hu,ru⟩:=RelO.some_of (v:=v) (o:=mA f) (by rw [<- l]; exact r f)
 exact get_map I.kIn O (c.get f) c.hd n hu (handed_of ru) (h u _ (I.tok _) ru)
theorem zcV {m:Str} {g:Addr} {pl:Sem Bool} {Q:Value×List Value->Shared->Prop} (I:Inv X pins σ H s) (e:H a=some (.ins C dx fs)) (c:Cls X.K C) (k:Meth X.K C m g) (l:fs.lookup m=none)
  (h:Q (.ref g,[.ref a]) s):wpAny (model X.prog X.w) A (getMethod (.ref a) m pl) Q E s:=by
 obtain ⟨mA,O,r,_,_,_⟩:=zc2 I.hok e
 have hn:mA m=none:=RelO.none_of (by rw [<- l]; exact r m)
 exact get_meth I.kIn O (c.get m) k.at_ k.fn hn h
theorem setattr_ok {y:V} {u:Value} {Q:Unit->Shared->Prop} (I:Inv X pins σ H s) (e:H a=some (.ins C dx fs)) (c:Cls X.K C) (n:NoAttr X.K C f) (hl:fs.length < 1000) (ry:RelV y u)
  (h:∀ s',Inv X pins σ (upd H a (.ins C dx (putF f y fs))) s'->Q () s'):wpAny (model X.prog X.w) A (setAttr (.ref a) f u) Q E s:=by
 obtain ⟨mA,O,r,wi,_,ho⟩:=zc2 I.hok e
 have hz:(fs.map (·.1)).length<=sizeLine:=by rw [List.length_map,sizeLine_eq]; omega
 refine set_map I.kIn O c.sa c.po n.taker c.hd wi hz fun h' O' sb=>h _ ?_
 have hd:∃ o,h'.get? dx=some o:=let ⟨o,_,_,e',_⟩:=O'.ns; ⟨o,e'⟩
 refine I.write (x:=a) (e:=dx) (by rw [e]; exact True.intro) (.inr ho) (fun b q hb z=>(sb.2 b hb).trans z) hd ?_
 refine ⟨by rw [zal O.ne]; exact ho,?_,O.ne,O'.obj,_,O'.ns,fun g => ?_,fun g hg => ?_⟩
 ·have:=zcz f y fs; omega
 ·show RelO ((putF f y fs).lookup g) (if g=f then some u else mA g)
  rw [zcw]
  by_cases q:g=f
  ·rw [if_pos q,if_pos q]; exact ry
  ·rw [if_neg q,if_neg q]; exact r g
 ·by_cases q:g=f
  ·rw [q]; exact (zcA f y fs).1
  ·refine (zcA f y fs).2 g (wi g fun z=>hg ?_)
   show (if g=f then some u else mA g)=none
   rw [if_neg q]; exact z
theorem Inv.made (I:Inv X pins σ H s):Inv X pins σ (upd (upd H s.heap.objs.size (.own (s.heap.objs.size + 1))) (s.heap.objs.size + 1) (.ins C s.heap.objs.size []))
  { s with heap:=(s.heap.push PySem.W.emptyDict).push (PySem.W.instObj C s.heap.objs.size) }:=by
 have e1:(s.heap.push PySem.W.emptyDict).get? s.heap.objs.size=some PySem.W.emptyDict:=Heap.get?_push_size s.heap rfl
 have e2:((s.heap.push PySem.W.emptyDict).push (PySem.W.instObj C s.heap.objs.size)).get? (s.heap.objs.size + 1)=some (PySem.W.instObj C s.heap.objs.size):=by
  have:=Heap.get?_push_size (s.heap.push PySem.W.emptyDict) (o:=PySem.W.instObj C s.heap.objs.size) rfl
  rwa [Heap.size_push] at this
 have e3:(s.heap.push PySem.W.emptyDict).Ns s.heap.objs.size (fun _=>none):=⟨PySem.W.emptyDict,#[],_,e1,rfl,(fun e he=>absurd he (by simp)),fun _=>rfl⟩
 have I1:=I.laid (a:=s.heap.objs.size) (o := .own (s.heap.objs.size + 1)) (h':=s.heap.push PySem.W.emptyDict) (t':=s.toks) (fun b u q=>Heap.get?_push_of_some _ q) (Nat.le_refl _) ⟨_,e1⟩
 refine I1.laid (a:=s.heap.objs.size + 1) (o := .ins C s.heap.objs.size []) (t':=s.toks) (fun b u q=>Heap.get?_push_of_some _ q) (Nat.le_of_eq (Heap.size_push _ _)) ?_
 have ne:s.heap.objs.size≠s.heap.objs.size + 1:=Nat.ne_of_lt (Nat.lt_succ_self _)
 refine ⟨by rw [zal ne,zaf],Nat.zero_le _,ne,e2,fun _=>none,(Heap.Ns1.of_empty e3).at fun o q=>Heap.get?_push_of_some _ q,fun _=>True.intro,fun y hy=>absurd rfl hy⟩
theorem attr_of {prog:Program} {w:World} {env:Env} {e:Expr} {f:Str} {pos:Pos} {s:Shared} {Q:Value->Shared->Prop} (hb:attributeBase e f env (eval e env)=eval e env)
  (h:wpAny (model prog w) A (eval e env) (fun o s₁ => wpAny (model prog w) A (getAttr o f true) Q E s₁) E s):wpAny (model prog w) A (eval (.Attribute e f pos) env) Q E s :=
 Attribute_any_ h (by rw [arm_eval_Attribute,hb])
end
noncomputable def tFld (K:W.Frag) (ta:TE) (f:Str):TE:=fun σ H Q=>ta σ H fun x H1=>∃ a C dx fs v,x = .ref a/\H1 a=some (.ins C dx fs)/\Cls K C/\NoAttr K C f/\fs.lookup f=some v/\Q v H1
noncomputable def sFld (K:W.Frag) (ta tv:TE) (f:Str):TS:=fun D σ H=>tv σ H fun y H1=>ta σ H1 fun x H2=>∃ a C dx fs,x = .ref a/\H2 a=some (.ins C dx fs)/\Cls K C/\NoAttr K C f/\fs.length < 1000 /\
 D.nx σ (upd H2 a (.ins C dx (putF f y fs)))
section
variable {X:Cx} {o e value:Expr} {f:Str} {pos pos' tpos:Pos} {ta tv:TE}
theorem zaU (he:PE X e ta) (hb:attributeBase e f X.env (eval e X.env)=eval e X.env):PE X (.Attribute e f pos) (tFld X.K ta f):=by
 intro pins s σ H Q I h
 refine attr_of hb (thnE (he pins s σ H _ I h) fun u s1 x H1 I1 rx ⟨a,C,dx,fs,v,ex,ea,c,n,l,q⟩ => ?_)
 subst ex
 obtain rfl:u=Value.ref a:=rx
 exact getattr_ok I1 ea c n l fun u' s2 I2 ru=>⟨v,H1,I2,ru,q⟩
theorem zdT (ha:PE X o ta) (hv:PE X value tv) (hs:swapsWith value (some (.Attribute o f pos')) pos.line X.env=pure false):PS X (.Assign [.Attribute o f pos'] value pos) (sFld X.K ta tv f):=by
 intro pins s σ H D I h
 refine plainObj_wpAny_Assign_Attribute (thnE (hv pins s σ H _ I h) fun u s1 y H1 I1 ry q=>thnE (ha pins s1 σ H1 _ I1 q) fun ov s2 x H2 I2 rx ⟨a,C,dx,fs,ex,ea,c,n,l,q2⟩ => ?_) hs
 subst ex
 obtain rfl:ov=Value.ref a:=rx
 exact setattr_ok I2 ea c n l ry fun s3 I3=>⟨σ,_,I3,q2⟩
end
section
variable {X:Cx} {pins:List (Addr×Obj)} {σ : St} {H:Hp} {s:Shared} {A:Around} {E:Value->Shared->Prop} {Q:Value->Shared->Prop} {c:Value} {b:Bool}
inductive TyOf (K:W.Frag) (H:Hp):V->Value->Prop where
 | non:TyOf K H .non (.type "NoneType")
 | bl (x:Bool):TyOf K H (.bl x) (.type "bool")
 | int (i:Int):TyOf K H (.int i) (.type "int")
 | str (x:Str):TyOf K H (.str x) (.type "str")
 | flt (x:UInt64):TyOf K H (.flt x) (.type "float")
 | lst {a:Addr} {xs:List V} (e:H a=some (.lst xs)):TyOf K H (.ref a) (.type "list")
 | frz {a:Addr} {o:Obj} {xs:List V} (e:H a=some (.frz o (.lst xs))):TyOf K H (.ref a) (.type "list")
 | tup {a:Addr} {xs:List V} (e:H a=some (.tup xs)):TyOf K H (.ref a) (.type "tuple")
 | dK {a:Addr} {kvs:List (Key×V)} (e:H a=some (.dK kvs)):TyOf K H (.ref a) (.type "dict")
 | dT {a:Addr} {kvs:List (List Key×V)} (e:H a=some (.dT kvs)):TyOf K H (.ref a) (.type "dict")
 | ins {a C dx:Addr} {fs:List (Str×V)} (e:H a=some (.ins C dx fs)) (cl:Cls K C) (ha:PySem.W.findIn K (.ref C) "__class__" = some (some (.builtin "object.__class__")))
   (hn:PySem.W.specialIn K (.builtin "object.__class__") "__get__" = some (some (.builtin "getset_descriptor.__get__"))) (htk:PySem.W.takesIn K (.builtin "object.__class__")=some true)
   (hm:PySem.W.mroIn K C (.type "object")=some true):TyOf K H (.ref a) (.ref C)
theorem isinst_ok {x:V} {u t:Value} (I:Inv X pins σ H s) (rx:RelV x u) (ty:TyOf X.K H x t) (e:PySem.W.kitOne X.K t c=some b) (h:∀ tk,Q (.bool b) { s with toks:=tk }) :
  wpAny (model X.prog X.w) A (call (.builtin "isinstance") [u,c]) Q E s:=by
 cases ty with
 | non=>cases (show u=Value.none from rx); exact PySem.W.kia_one PySem.W.kitx_none I.kIn True.intro e (fun z=>nomatch z) h
 | bl y=>cases (show u=Value.bool y from rx); exact PySem.W.kia_one PySem.W.kitx_bool I.kIn True.intro e (fun z=>nomatch z) h
 | int i=>obtain ⟨t,q⟩:=(show ∃ t,u=Value.int i t from rx); cases q; exact PySem.W.kia_one PySem.W.kitx_int I.kIn True.intro e (fun z=>nomatch z) h
 | str y=>obtain ⟨t,q⟩:=(show ∃ t,u=Value.str y t from rx); cases q; exact PySem.W.kia_one PySem.W.kitx_str I.kIn True.intro e (fun z=>nomatch z) h
 | flt y=>obtain ⟨t,q⟩:=(show ∃ t,u=Value.float y t from rx); cases q; exact PySem.W.kia_one PySem.W.kitx_float I.kIn True.intro e (fun z=>nomatch z) h
 | @lst a xs ea =>
  cases (show u=Value.ref a from rx)
  obtain ⟨_,_,n,_,h1⟩:=(show ObjOk X.prog X.w H s.heap a (.lst xs) from I.hok a _ ea)
  exact PySem.W.kia_one PySem.W.kitx_list I.kIn ⟨_,h1,rfl⟩ e (fun z=>nomatch z) h
 | @frz a ob xs ea =>
  cases (show u=Value.ref a from rx)
  obtain ⟨_,_,_,n,_,h1⟩:=(show ObjOk X.prog X.w H s.heap a (.frz ob (.lst xs)) from I.hok a _ ea)
  exact PySem.W.kia_one PySem.W.kitx_list I.kIn ⟨_,h1,rfl⟩ e (fun z=>nomatch z) h
 | @tup a xs ea =>
  cases (show u=Value.ref a from rx)
  obtain ⟨_,_,_,p⟩:=(show ObjOk X.prog X.w H s.heap a (.tup xs) from I.hok a _ ea)
  obtain ⟨o,h1,h2,_⟩:=p
  exact PySem.W.kia_one PySem.W.kitx_tuple I.kIn ⟨o,h1,h2⟩ e (fun z=>nomatch z) h
 | @dK a kvs ea =>
  cases (show u=Value.ref a from rx)
  obtain ⟨_,_,vs,_,p⟩:=(show ObjOk X.prog X.w H s.heap a (.dK kvs) from I.hok a _ ea)
  obtain ⟨o,es,ep,h1,h2,_⟩:=p
  exact PySem.W.kia_one PySem.W.kitx_dict I.kIn ⟨o,h1,h2.1⟩ e (fun z=>nomatch z) h
 | @dT a kvs ea =>
  cases (show u=Value.ref a from rx)
  obtain ⟨_,_,xs,_,o,es,ep,h1,h2,_⟩:=(show ObjOk X.prog X.w H s.heap a (.dT kvs) from I.hok a _ ea)
  exact PySem.W.kia_one PySem.W.kitx_dict I.kIn ⟨o,h1,h2.1⟩ e (fun z=>nomatch z) h
 | @ins a C dx fs ea cl ha hn htk hm =>
  cases (show u=Value.ref a from rx)
  obtain ⟨mA,O,_⟩:=zc2 I.hok ea
  obtain ⟨od,J,_⟩:=O.look
  exact PySem.W.kia_one (PySem.W.kitx_own (cl.get _) cl.hd ha hn htk hm) I.kIn J e (fun z=>nomatch z) h
end
structure Room (k:Nat) (A:Around):Prop where
 hd:A.handled=none
 dp:A.depth + 3 * k + 5 < recursionLimit
 un:A.units + 16 * k + 200 < cLine
theorem Room.mono {j k:Nat} {A:Around} (r:Room k A) (h:j<=k):Room j A:=⟨r.hd,by have:=r.dp; omega,by have:=r.un; omega⟩
theorem Room.deeper {k:Nat} {A:Around} (r:Room (k + 1) A) (env:Env):Room k (A.deeper env) :=
 ⟨r.hd,by have:=r.dp; show A.depth + 1 + 3 * k + 5 < _; omega,by have:=r.un; show A.units + 3 + 16 * k + 200 < _; omega⟩
theorem make_depth {A:Around} {C:Addr} {us:List Value} {kw:List (Str×Value)}:(A.under (.builtin "type.__call__" ⟨.ref C :: us,kw⟩)).depth=A.depth + 1:=by
 first | rfl | simp [Around.under,Code.weight,Code.isCreation,Code.isGuard,Code.isCaller,Code.frames,Code.isFrame,guardIds]
theorem make_units {A:Around} {C:Addr} {us:List Value} {kw:List (Str×Value)}:(A.under (.builtin "type.__call__" ⟨.ref C :: us,kw⟩)).units=A.units + 1:=by
 first | rfl | simp [Around.under,Code.cUnits,Code.frames,Code.isFrame]
theorem Room.make {k:Nat} {A:Around} (r:Room (k + 1) A) (C:Addr) (us:List Value) (kw:List (Str×Value)):Room k (A.under (.builtin "type.__call__" ⟨.ref C :: us,kw⟩)) :=
 ⟨r.hd,by have:=r.dp; rw [make_depth]; omega,by have:=r.un; rw [make_units]; omega⟩
theorem Room.depth {k:Nat} {A:Around} (r:Room k A):A.depth < recursionLimit:=by have:=r.dp; omega
theorem Room.units {k:Nat} {A:Around} (r:Room k A):A.units + 64 < cLine:=by have:=r.un; omega
noncomputable def tNil:TA:=fun _ H Q=>Q [] H
noncomputable def tCons (ta:TE) (tr:TA):TA:=fun σ H Q=>ta σ H fun x H1=>tr σ H1 fun xs H2=>Q (x :: xs) H2
section
variable {X:Cx} {e:Expr} {es:List Expr} {te:TE} {t:TA} {pos:Pos}
theorem zab:PA X [] tNil:=fun _ _ _ _ H Q I h=>Calls.spliced_nil ⟨[],H,I,.nil,h⟩
theorem zaa (ha:PE X e te) (hr:PA X es t) (hs:starEach (e :: es) X.env=(false,eval e X.env) :: starEach es X.env:=by rfl):PA X (e :: es) (tCons te t):=by
 intro pos pins s σ H Q I h
 rw [hs]
 show wpAny _ _ (spliced ((false,eval e X.env) :: backTo pos (starEach es X.env))) _ _ s
 refine Calls.spliced_cons (thnE (ha pins s σ H _ I h) fun u s1 x H1 I1 r1 q1 => ?_)
 exact thnE (hr pos pins s1 σ H1 _ I1 q1) fun us s2 xs H2 I2 r2 q2=>⟨x :: xs,H2,I2,.cons r1 r2,q2⟩
noncomputable def tTup (t:TA):TE:=fun σ H Q=>t σ H fun xs H1=>xs.length<=sizeLine/\∀ p,H1 p=none->Q (.ref p) (upd H1 p (.tup xs))
noncomputable def tLst (t:TA):TE:=fun σ H Q=>t σ H fun xs H1=>xs.length<=sizeLine/\∀ p,H1 p=none->Q (.ref p) (upd H1 p (.lst xs))
theorem zaI {x1} (h:PA X es t):PE X (.Tuple es x1 pos) (tTup t):=by
 intro pins s σ H Q I hq
 refine wpAny_Tuple_spliced (thnE (h pos pins s σ H _ I hq) fun us s1 xs H1 I1 r ⟨z,q⟩=>⟨by rw [<- r.length]; exact z,?_⟩)
 have hf:H1 s1.heap.objs.size=none:=I1.hok.fresh (Nat.le_refl _)
 refine ⟨.ref s1.heap.objs.size,upd H1 s1.heap.objs.size (.tup xs),I1.laid (t':=s1.toks) (fun b u e=>Heap.get?_push_of_some _ e) (Nat.le_refl _) ?_,rfl,q _ hf⟩
 exact ⟨z,us,r,⟨_,Heap.get?_push_size _ rfl,rfl,_,rfl⟩⟩
theorem zaT (h:PA X es t):PE X (.List es pos) (tLst t):=by
 intro pins s σ H Q I hq
 refine wpAny_List_spliced (thnE (h pos pins s σ H _ I hq) fun us s1 xs H1 I1 r ⟨z,q⟩=>⟨by rw [<- r.length]; exact z,?_⟩)
 have hf:H1 s1.heap.objs.size=none:=I1.hok.fresh (Nat.le_refl _)
 refine ⟨.ref s1.heap.objs.size,upd H1 s1.heap.objs.size (.lst xs),I1.laid (t':=s1.toks) (fun b u e=>Heap.get?_push_of_some _ e) (Nat.le_refl _) ?_,rfl,q _ hf⟩
 exact ⟨z,us,0,r,Heap.get?_push_size _ rfl⟩
end
noncomputable abbrev Sp:=List V->Hp->VK->XK->Prop
noncomputable abbrev CXT:=List Env->Hp->Shared->XK->Value->Shared->Prop
structure Env0 (P:Program) (w:World) (K:W.Frag) (mg:Str->Option Value) (base:Heap) (A:Around) (outer:List Env) (s:Shared) (H:Hp):Prop where
 frames:A.frames=some outer
 mod:Mod K mg base
 bs:∀ b o,base.get? b=some o->s.heap.get? b=some o/\H b=none
 bsz:base.objs.size<=s.heap.objs.size
 funs:s.heap.FunFrames base outer
 frf:∀ b∈frs outer,H b=none
 hok:HOk P w H s.heap
 bare:AllBare s.gens
noncomputable def CE (outer:List Env) (P:Program) (w:World) (H:Hp) (s:Shared) (Q:VK) (u:Value) (s':Shared):Prop :=
 ∃ v H',s'.os=s.os/\AllBare s'.gens/\Un (frs outer) [] H H' s.heap s'.heap/\HOk P w H' s'.heap/\RelV v u/\Q v H'
noncomputable def CR (CX:CXT) (outer:List Env) (P:Program) (w:World) (H:Hp) (s:Shared) (Q:VK) (E:XK) (r:Result) (s':Shared):Prop :=
 match r with
 | .ok (.ret u)=>CE outer P w H s Q u s'
 | .ok _=>False
 | .error e=>CX outer H s E e s'
structure FnOk (P:Program) (w:World) (K:W.Frag) (mg:Str->Option Value) (base:Heap) (CX:CXT) (k:Nat) (f:Addr) (fd:FuncData) (ps:List Str) (sp:Sp):Prop where
 len:∀ vs H Q E,sp vs H Q E->vs.length=ps.length
 run:∀ (A:Around) (outer:List Env) (s:Shared) (H:Hp) (args:Args) (us:List Value) (vs:List V) (Q:VK) (E:XK),Room k A->Env0 P w K mg base A outer s H->BindsTo s fd args (ps.zip us)->Vals vs us->sp vs H Q E ->
  codeAny (model P w) A (.call (.ref f) args) (CR CX outer P w H s Q E) s
theorem Env0.make {P:Program} {w:World} {K:W.Frag} {mg:Str->Option Value} {base:Heap} {A:Around} {outer:List Env} {s:Shared} {H:Hp} (e:Env0 P w K mg base A outer s H) (C:Addr) (us:List Value) (kw:List (Str×Value)) :
  Env0 P w K mg base (A.under (.builtin "type.__call__" ⟨.ref C :: us,kw⟩)) outer s H:=⟨by first | exact e.frames | (simpa [Around.under,Code.envs,Code.isFrame,pushEnvs] using e.frames),e.mod,e.bs,e.bsz,e.funs,e.frf,e.hok,e.bare⟩
section
variable {X:Cx} {pins:List (Addr×Obj)} {σ : St} {H:Hp} {s s':Shared}
theorem Inv.env0 (I:Inv X pins σ H s):Env0 X.prog X.w X.K X.mg X.base X.A X.stack s H :=
 ⟨I.ok.frames,I.ok.mod,I.bs,Nat.le_trans I.ok.bsz I.sz,I.stack,I.stkFree,I.hok,I.bare⟩
theorem Inv.after {Q:VK} {u:Value} (I:Inv X pins σ H s) (h:CE X.stack X.prog X.w H s Q u s'):EP X pins σ Q u s':=by
 obtain ⟨v,H',os,bare,un,hok,r,q⟩:=h
 obtain ⟨hh,g,d,t,os'⟩:=s'
 obtain rfl:os'=s.os:=os
 exact ⟨v,H',I.call (h':=hh) (g':=g) (d':=d) (t':=t) (ch := []) un hok bare (fun b z=>absurd z (by simp)),r,q⟩
end
noncomputable def tCall (sp:Sp) (dvs:List V) (E:XK) (t:TA):TE:=fun σ H Q=>t σ H fun vs H1=>sp (vs ++ dvs) H1 Q E
noncomputable def tMeth (C:Addr) (m:Str) (sp:Sp) (dvs:List V) (E:XK) (ta:TE) (t:TA):TE:=fun σ H Q=>ta σ H fun x H1=>∃ a dx fs,x = .ref a/\H1 a=some (.ins C dx fs)/\fs.lookup m=none /\
 t σ H1 fun vs H2=>sp (x :: (vs ++ dvs)) H2 Q E
noncomputable def tMake (C:Addr) (sp:Sp) (dvs:List V) (E:XK) (t:TA):TE:=fun σ H Q=>t σ H fun vs H1=>∀ x dx,H1 x=none->H1 dx=none->dx≠x ->
 sp (.ref x :: (vs ++ dvs)) (upd (upd H1 dx (.own x)) x (.ins C dx [])) (fun v H2=>v = .non/\Q (.ref x) H2) E
noncomputable def Binds (K:W.Frag) (fd:FuncData) (ps:List Str) (ds:List Value):Prop :=
 ∀ (s:Shared) (us:List Value),K.In s.heap->(us ++ ds).length=ps.length->BindsTo s fd ⟨us,[]⟩ (ps.zip (us ++ ds))
theorem Binds.all {K:W.Frag} {fd:FuncData} {ps:List Str} (h:∀ us:List Value,us.length=ps.length->bindArgs fd ⟨us,[]⟩=pure (ps.zip us)):Binds K fd ps []:=fun s us _ hl=>by
 rw [List.append_nil] at hl ⊢
 exact .of_eq (h us hl)
noncomputable def Passes (CX:CXT) (X:Cx) (E:XK):Prop:=∀ (pins:List (Addr×Obj)) (σ : St) (H:Hp) (s:Shared) (e:Value) (s':Shared),Inv X pins σ H s->CX X.stack H s E e s'->X.xe e s'
section
variable {X:Cx} {CX:CXT} {k:Nat} {f C:Addr} {fd:FuncData} {ps:List Str} {sp:Sp} {dvs:List V} {ds:List Value} {E:XK} {x m:Str} {p pos apos:Pos} {e o:Expr} {es:List Expr} {ta:TE} {t:TA}
theorem zem {pins:List (Addr×Obj)} {σ : St} {H:Hp} {s:Shared} {Q:VK} {us:List Value} {vs:List V} (F:FnOk X.prog X.w X.K X.mg X.base CX k f fd ps sp) (hr:Room k X.A) (hb:Binds X.K fd ps ds) (hd:Vals dvs ds) (hx:Passes CX X E)
  (I:Inv X pins σ H s) (r:Vals vs us) (h:sp (vs ++ dvs) H Q E):wpAny (model X.prog X.w) X.A (call (.ref f) us) (EP X pins σ Q) X.xe s:=by
 have r2:Vals (vs ++ dvs) (us ++ ds):=r.append hd
 have hl:(us ++ ds).length=ps.length:=by rw [<- r2.length]; exact F.len _ _ _ _ h
 refine wpAny_call (codeAny_mono (F.run X.A X.stack s H ⟨us,[]⟩ (us ++ ds) (vs ++ dvs) Q E hr I.env0 (hb s us I.kIn hl) r2 h) fun r s' hq => ?_)
 cases r with
 | error e=>exact hx pins σ H s e s' I hq
 | ok fl =>
  cases fl with
  | ret u=>exact I.after hq
  | next=>exact False.elim hq
  | brk=>exact False.elim hq
  | cont=>exact False.elim hq
theorem zew (F:FnOk X.prog X.w X.K X.mg X.base CX k f fd ps sp) (hr:Room k X.A) (hg:Gl X x) (hm:X.mg x=some (.ref f)) (hk:PySem.W.keepIn X.K (.ref f)=true) (hb:Binds X.K fd ps ds) (hd:Vals dvs ds) (hx:Passes CX X E)
  (ha:PA X (e :: es) t) (hdb:(x == ("__debug__" : Str))=false:=by decide) (he:starEach (e :: es) X.env=(false,eval e X.env) :: starEach es X.env:=by rfl) (hpl:(backTo pos (starEach es X.env)).any (·.1)=false:=by rfl) :
  PE X (.Call (.Name x p) (e :: es) [] pos) (tCall sp dvs E t):=by
 intro pins s σ H Q I h
 refine wpAny_Call_Name_kw (zb6 I hg hm ?_ hdb)
 refine PySem.W.callWith_K (h₀ := X.base) I.ok.mod.kin hk (thnE (ha pos pins s σ H _ I h) fun us s1 vs H1 I1 r q=>⟨I1.kIn,?_⟩) he hpl
 exact zem F hr hb hd hx I1 r q
theorem pe_meth {pl:Sem Bool} (he:PE X o ta) (c:Cls X.K C) (hm:Meth X.K C m f) (F:FnOk X.prog X.w X.K X.mg X.base CX k f fd ps sp) (hr:Room k X.A) (hb:Binds X.K fd ps ds) (hd:Vals dvs ds) (hx:Passes CX X E) (ha:PA X (e :: es) t)
  (hst:starEach (e :: es) X.env=(false,eval e X.env) :: starEach es X.env:=by rfl) (hpl:(backTo pos (starEach es X.env)).any (·.1)=false:=by rfl)
  (ht:eval (.Call (.Attribute o m apos) (e :: es) [] pos) X.env=(do
   let ov <- eval o X.env
   standAt apos.atName
   let (f,first) <- holding [ov] (getMethod ov m pl)
   callWith pos f first (backTo pos (starEach (e :: es) X.env)) (backToKw pos (keywordEach [] X.env))):=by rfl) :
  PE X (.Call (.Attribute o m apos) (e :: es) [] pos) (tMeth C m sp dvs E ta t):=by
 intro pins s σ H Q I h
 refine PySem.W.methodCall_KW (pl:=pl) (thnE (he pins s σ H _ I h) fun u s1 x H1 I1 rx ⟨a,dx,fs,ex,ea,l,q⟩ => ?_) ht
 subst ex
 obtain rfl:u=Value.ref a:=rx
 refine zcV I1 ea c hm l ?_
 refine PySem.W.callWith_K (first := [.ref a]) (h₀ := X.base) I.ok.mod.kin hm.kp (thnE (ha pos pins s1 σ H1 _ I1 q) fun us s2 vs H2 I2 r q2=>⟨I2.kIn,?_⟩) hst hpl
 exact zem (us := .ref a :: us) (vs := .ref a :: vs) F hr hb hd hx I2 (.cons rfl r) q2
theorem pe_meth0 {pl:Sem Bool} (he:PE X o ta) (c:Cls X.K C) (hm:Meth X.K C m f) (F:FnOk X.prog X.w X.K X.mg X.base CX k f fd ps sp) (hr:Room k X.A) (hb:Binds X.K fd ps ds) (hd:Vals dvs ds) (hx:Passes CX X E)
  (ht:eval (.Call (.Attribute o m apos) [] [] pos) X.env=(do
   let ov <- eval o X.env
   standAt apos.atName
   let (f,first) <- holding [ov] (getMethod ov m pl)
   callWith pos f first (backTo pos (starEach [] X.env)) (backToKw pos (keywordEach [] X.env))):=by rfl) :
  PE X (.Call (.Attribute o m apos) [] [] pos) (tMeth C m sp dvs E ta tNil):=by
 intro pins s σ H Q I h
 refine PySem.W.methodCall_KW (pl:=pl) (thnE (he pins s σ H _ I h) fun u s1 x H1 I1 rx ⟨a,dx,fs,ex,ea,l,q⟩ => ?_) ht
 subst ex
 obtain rfl:u=Value.ref a:=rx
 refine zcV I1 ea c hm l ?_
 exact PySem.W.callWith_K0 (first := [.ref a]) I1.kIn hm.kp (zem (us := [.ref a]) (vs := [.ref a]) F hr hb hd hx I1 (.cons rfl .nil) q)
structure Mk (K:W.Frag) (C f:Addr):Prop where
 makes:PySem.W.makesIn K C=true
 init:PySem.W.findIn K (.ref C) "__init__" = some (some (.ref f))
 fn:PySem.W.isFn K (.ref f)=true
 kp:PySem.W.keepIn K (.ref C)=true
theorem run_make {pins:List (Addr×Obj)} {σ : St} {H:Hp} {s:Shared} {Q:VK} {us:List Value} {vs:List V} (M:Mk X.K C f) (F:FnOk X.prog X.w X.K X.mg X.base CX k f fd ps sp) (hr:Room (k + 1) X.A) (hb:Binds X.K fd ps ds) (hd:Vals dvs ds)
  (hx:Passes CX X E) (I:Inv X pins σ H s) (r:Vals vs us)
  (h:∀ x dx,H x=none->H dx=none->dx≠x->sp (.ref x :: (vs ++ dvs)) (upd (upd H dx (.own x)) x (.ins C dx [])) (fun v H2=>v = .non/\Q (.ref x) H2) E) :
  wpAny (model X.prog X.w) X.A (call (.ref C) us) (EP X pins σ Q) X.xe s:=by
 have hq:=h (s.heap.objs.size + 1) s.heap.objs.size (I.hok.fresh (Nat.le_succ _)) (I.hok.fresh (Nat.le_refl _)) (Nat.ne_of_lt (Nat.lt_succ_self _))
 have I2:=Inv.made (C:=C) I
 have r2:Vals (V.ref (s.heap.objs.size + 1) :: (vs ++ dvs)) (Value.ref (s.heap.objs.size + 1) :: (us ++ ds)) := .cons rfl (r.append hd)
 have hl:(Value.ref (s.heap.objs.size + 1) :: us ++ ds).length=ps.length:=by
  have e:=r2.length
  rw [F.len _ _ _ _ hq] at e
  exact e.symm
 refine wpAny_call (make_map (f:=f) I.kIn M.makes M.init (beq_iff_eq.mp M.fn) (codeAny_mono (F.run _ X.stack _ _ ⟨Value.ref (s.heap.objs.size + 1) :: us,[]⟩ (Value.ref (s.heap.objs.size + 1) :: (us ++ ds)) _ _ E (hr.make C us [])
  (I2.env0.make C us []) (hb _ (Value.ref (s.heap.objs.size + 1) :: us) I2.kIn hl) r2 hq) fun r s' hq' => ?_))
 cases r with
 | error e=>exact hx pins σ _ _ e s' I2 hq'
 | ok fl =>
  cases fl with
  | ret u =>
   obtain ⟨v,H',I3,rv,ev,q3⟩:=I2.after hq'
   subst ev
   exact ⟨rv,⟨V.ref (s.heap.objs.size + 1),H',I3,rfl,q3⟩⟩
  | next=>exact False.elim hq'
  | brk=>exact False.elim hq'
  | cont=>exact False.elim hq'
theorem pe_make0 (M:Mk X.K C f) (F:FnOk X.prog X.w X.K X.mg X.base CX k f fd ps sp) (hr:Room (k + 1) X.A) (hg:Gl X x) (hm:X.mg x=some (.ref C)) (hb:Binds X.K fd ps ds) (hd:Vals dvs ds) (hx:Passes CX X E)
  (hdb:(x == ("__debug__" : Str))=false:=by decide):PE X (.Call (.Name x p) [] [] pos) (tMake C sp dvs E tNil):=by
 intro pins s σ H Q I h
 refine wpAny_Call_Name_kw (zb6 I hg hm ?_ hdb)
 exact PySem.W.callWith_K0 I.kIn M.kp (run_make (us := []) M F hr hb hd hx I .nil h)
end
section
variable {X:Cx} {CX:CXT} {k:Nat} {f C:Addr} {fd:FuncData} {ps ks:List Str} {sp:Sp} {E:XK} {x m:Str} {p pos apos kpos:Pos} {e o:Expr} {es:List Expr} {kws:List Keyword} {te ta:TE} {t tk:TA} {nm:Option Str}
variable {g:List Value->List Value->List Value} {gV:List V->List V->List V}
end
structure FnScope (N P:List Str) (sc:Scope):Prop where
 kind:sc.kind = .function
 co:sc.isCoroutine=false
 gen:sc.isGenerator=false
 nd:N.Nodup
 pre:N.take P.length=P
 par:∀ x∈P,sc.names.lookup x=some .local\/sc.names.lookup x=some .cell
 nofree:∀ y∈sc.names,y.2 ≠ .free
theorem zdu {kindOf:Str->Option NameKind} {x:Str}:∀ {binds:List (Str×Value)} {m:Str->Option Value},(∀ v,(x,v) ∉ binds)->bindL kindOf binds m x=m x
 | [],_,_=>rfl
 | (n,v) :: r,m,h=>by
  unfold bindL
  rw [zdu fun w hw=>h w (List.mem_cons_of_mem _ hw)]
  split
  ·have:x≠n:=by rintro rfl; exact h v List.mem_cons_self
   simp [this]
  ·rfl
theorem zdw {kindOf:Str->Option NameKind} {x:Str}:∀ {binds:List (Str×Value)} {m:Str->Option Value},(∀ v,(x,v) ∉ binds)->bindC kindOf binds m x=m x
 | [],_,_=>rfl
 | (n,v) :: r,m,h=>by
  unfold bindC
  rw [zdw fun w hw=>h w (List.mem_cons_of_mem _ hw)]
  split
  ·rfl
  ·have:x≠n:=by rintro rfl; exact h v List.mem_cons_self
   simp [this]
theorem zdv {kindOf:Str->Option NameKind} {x:Str} {v:Value}:∀ {P:List Str} {vs:List Value} {i:Nat} {m:Str->Option Value},P.Nodup->P[i]?=some x->vs[i]?=some v->kindOf x=some .local ->
  bindL kindOf (P.zip vs) m x=some v
 | [],_,_,_,_,h,_,_=>by simp at h
 | _ :: _,[],_,_,_,_,h,_=>by simp at h
 | p :: P,w :: vs,0,m,nd,h1,h2,hk=>by
  simp at h1 h2; subst h1; subst h2
  show bindL kindOf ((p,w) :: P.zip vs) m p=_
  unfold bindL
  rw [zdu fun v hv=>(List.nodup_cons.mp nd).1 (List.of_mem_zip hv).1,if_pos hk]
  simp
 | p :: P,w :: vs,i + 1,m,nd,h1,h2,hk=>by
  show bindL kindOf ((p,w) :: P.zip vs) m x=_
  unfold bindL
  exact zdv (i:=i) (List.nodup_cons.mp nd).2 (by simpa using h1) (by simpa using h2) hk
theorem zdx {kindOf:Str->Option NameKind} {x:Str} {v:Value}:∀ {P:List Str} {vs:List Value} {i:Nat} {m:Str->Option Value},P.Nodup->P[i]?=some x->vs[i]?=some v->kindOf x≠some .local ->
  bindC kindOf (P.zip vs) m x=some v
 | [],_,_,_,_,h,_,_=>by simp at h
 | _ :: _,[],_,_,_,_,h,_=>by simp at h
 | p :: P,w :: vs,0,m,nd,h1,h2,hk=>by
  simp at h1 h2; subst h1; subst h2
  show bindC kindOf ((p,w) :: P.zip vs) m p=_
  unfold bindC
  rw [zdw fun v hv=>(List.nodup_cons.mp nd).1 (List.of_mem_zip hv).1,if_neg hk]
  simp
 | p :: P,w :: vs,i + 1,m,nd,h1,h2,hk=>by
  show bindC kindOf ((p,w) :: P.zip vs) m x=_
  unfold bindC
  exact zdx (i:=i) (List.nodup_cons.mp nd).2 (by simpa using h1) (by simpa using h2) hk
noncomputable def start (N:List Str) (vs:List V):St:=vs.map some ++ List.replicate (N.length - vs.length) none
noncomputable def cxOf (CX:CXT) (P:Program) (w:World) (K:W.Frag) (mg:Str->Option Value) (base:Heap) (N:List Str) (qual:Str) (scope:Scope) (f:Addr) (cd:Value) (A:Around) (outer:List Env) (s:Shared) (H:Hp) (E:XK):Cx where
 prog:=P
 w:=w
 K:=K
 mg:=mg
 base:=base
 A:=A.deeper (envOfC qual scope s.heap.objs.size f cd)
 N:=N
 s₀ := s
 H₀ := H
 env:=envOfC qual scope s.heap.objs.size f cd
 outer:=outer
 stack:=envOfC qual scope s.heap.objs.size f cd :: outer
 ex := []
 calm:=true
 fn:=fun _=>true
 pn := []
 xe:=fun e s'=>wpAny (model P w) (A.deeper (envOfC qual scope s.heap.objs.size f cd)) (leaving (envOfC qual scope s.heap.objs.size f cd) e) (fun _ s''=>CX outer H s E e s'') (fun e' s''=>CX outer H s E e' s'') s'
theorem zeb {sc:Scope} {n:Nat} {x:Str} (h:sc.names.lookup x=some .cell):∃ c,(cellsFrom n sc.names []).lookup x=some c:=by
 have q:=PySem.W.cellsFrom_some sc.names n [] (.inl h)
 exact Option.isSome_iff_exists.mp q
theorem zdn {CX:CXT} {P:Program} {w:World} {K:W.Frag} {mg:Str->Option Value} {base:Heap} {N ps:List Str} {qual:Str} {scope:Scope} {f:Addr} {cd:Value} {A:Around} {outer:List Env} {s s1:Shared} {H:Hp} {E:XK} {us:List Value} {vs:List V}
  (S:FnScope N ps scope) (hd:A.handled=none) (e0:Env0 P w K mg base A outer s H) (hl:vs.length=ps.length) (r:Vals vs us)
  (x:InCallC s s.heap.objs.size (bindL (envOfC qual scope s.heap.objs.size f cd).kindOf (ps.zip us) fun _=>none) (cellsFrom (s.heap.objs.size + 1) scope.names []) (bindC (envOfC qual scope s.heap.objs.size f cd).kindOf (ps.zip us) fun _=>none) s1) :
  Inv (cxOf CX P w K mg base N qual scope f cd A outer s H E) [] (start N vs) H s1:=by
 have hpl:ps.length<=N.length:=by have:=congrArg List.length S.pre; rw [List.length_take] at this; omega
 obtain ⟨h1,tk,rfl,hk⟩:=x.done
 have noA:∀ b:Addr,b ∉ (cxOf CX P w K mg base N qual scope f cd A outer s H E).ex:=fun b z=>absurd (show b∈([]:List Addr) from z) (by simp)
 refine ⟨⟨e0.mod,S.kind,rfl,rfl,Nat.le_refl _,fun y z c h1 h2 => ?_,fun y hy => ?_,fun y c _ h => ?_,fun _=>hd,Around.frames_deeper e0.frames,.inr ⟨rfl,rfl⟩,fun b z=>absurd z (noA b),e0.bs,e0.bsz,fun b _ _=>noA b,fun b z=>absurd z (noA b),e0.funs,e0.frf⟩,
  rfl,e0.bare,Un.kept hk,⟨_,x.toInCall.ns,fun i y v h1 h2 h3 => ?_⟩,fun y c h=>⟨_,x.cell y c h⟩,e0.hok.fresh (Nat.le_refl _),fun y c h => ?_,fun p hp=>absurd (show p∈([]:List (Addr×Obj)) from hp) (by simp),e0.hok.kept hk,?_⟩
 ·exact name_of_addr x.apart (PySem.mem_of_lookup h1) (PySem.mem_of_lookup h2)
 ·have hy:scope.names.lookup y=some .cell\/scope.names.lookup y=some .free:=hy
  rcases hy with hy | hy
  ·exact zeb hy
  ·exact absurd rfl (S.nofree _ (PySem.mem_of_lookup hy))
 ·exact Nat.le_of_lt (x.above y c (PySem.mem_of_lookup h))
 ·have hi:i < vs.length:=by
   unfold start at h2
   by_cases hi:i < vs.length
   ·exact hi
   ·rw [List.getElem?_append_right (by simpa using hi)] at h2
    rw [List.getElem?_replicate] at h2
    split at h2 <;> cases h2
  have ha:vs[i]?=some v:=by
   unfold start at h2
   rw [List.getElem?_append_left (by simpa using hi),List.getElem?_map] at h2
   cases e:vs[i]? with
   | none=>rw [e] at h2; cases h2
   | some a=>rw [e] at h2; cases h2; rfl
  obtain ⟨u,hu,rv⟩:=r.get ha
  have hp:ps[i]?=some y:=by
   rw [<- S.pre,List.getElem?_take_of_lt (by omega)]; exact h1
  have ndP:ps.Nodup:=by rw [<- S.pre]; exact S.nd.sublist (List.take_sublist _ _)
  refine ⟨u,rv,?_⟩
  rcases S.par y (List.mem_of_getElem? hp) with k | k
  ·exact .inl ⟨k,zdv ndP hp hu k⟩
  ·obtain ⟨c,e⟩:=zeb (n:=s.heap.objs.size + 1) k
   refine .inr ⟨.inl k,c,e,?_⟩
   have q:=x.cell y c e
   rw [zdx ndP hp hu (by show scope.names.lookup y≠_; rw [k]; decide)] at q
   exact q
 ·exact e0.hok.fresh (Nat.le_of_lt (x.above y c (PySem.mem_of_lookup h)))
 ·unfold start
  show _=N.length
  rw [List.length_append,List.length_map,List.length_replicate]
  omega
theorem zfe {CX:CXT} {P:Program} {w:World} {K:W.Frag} {mg:Str->Option Value} {base:Heap} {k:Nat} {f:Addr} {name qual:Str} {params:Arguments} {body:List Stmt} {scope:Scope} {dV kV doc pm cdv ct oc:Value} {an od:Option Addr}
  {osl:Array (Option Value)} {N ps:List Str} {sp:Sp} (lk:K.lookup f=some ⟨oc,od,.func (PySem.W.fnOf name qual params body scope dV kV doc pm an cdv ct),osl⟩) (hcd:PySem.W.codeIn K cdv qual=true) (S:FnScope N ps scope)
  (len:∀ vs H Q E,sp vs H Q E->vs.length=ps.length)
  (hbody:∀ (A:Around) (outer:List Env) (s:Shared) (H:Hp) (vs:List V) (Q:VK) (E:XK),Room k (A.deeper (envOfC qual scope s.heap.objs.size f cdv))->sp vs H Q E ->
   ∃ t,PSs (cxOf CX P w K mg base N qual scope f cdv A outer s H E) body t/\t { nx:=fun _ H'=>Q .non H',rt:=Q } (start N vs) H) :
  FnOk P w K mg base CX (k + 1) f (PySem.W.fnOf name qual params body scope dV kV doc pm an cdv ct) ps sp:=by
 refine ⟨len,fun A outer s H args us vs Q E hr e0 hb r hsp => ?_⟩
 have hl:=len _ _ _ _ hsp
 have KX:K.In s.heap:=e0.mod.kin.keeps fun b o e=>(e0.bs b o e).1
 have lim:s.heap.NoLimit:=e0.mod.nolimit.keeps fun b o e=>(e0.bs b o e).1
 have hkind:∀ y∈ps.zip us,scope.names.lookup y.1=some .local\/(scope.names.lookup y.1=some .cell/\((cellsFrom (s.heap.objs.size + 1) scope.names []).lookup y.1).isSome=true):=fun ⟨n,v⟩ hy=>by
  rcases S.par n (List.of_mem_zip hy).1 with q | q
  ·exact .inl q
  ·exact .inr ⟨q,PySem.W.cellsFrom_some _ _ _ (.inl q)⟩
 refine codeAny_call_function hr.depth (KX _ _ lk) rfl S.co S.gen rfl (PySem.W.codeRec_of KX hcd) (hb _ _ _ _ ?_)
 refine wpAny_newFunctionEnv_cells S.kind hkind fun env he s1 x => ?_
 subst he
 refine ⟨lim.keeps x.toInCall.keep,codeAny_func ?_⟩
 obtain ⟨t,ht,hq⟩:=hbody A outer s H vs Q E (hr.deeper _) hsp
 have I:Inv (cxOf CX P w K mg base N qual scope f cdv A outer s H E) [] (start N vs) H s1:=zdn S hr.hd e0 hl r x
 refine wpAny_mono (ht [] s1 (start N vs) H _ I hq) (fun fl s' hs => ?_) fun e s' hs=>hs
 have fin:∀ {σ':St} {H':Hp} {v:V} {u:Value},Inv (cxOf CX P w K mg base N qual scope f cdv A outer s H E) [] σ' H' s'->RelV v u->Q v H'->CE outer P w H s Q u s' :=
  fun {σ' H' v u} J rv q=>⟨v,H',J.os,J.bare,J.base,J.hok,rv,q⟩
 cases fl with
 | ret u =>
  obtain ⟨v,σ',H',J,rv,q⟩:=hs
  exact fin J rv q
 | next =>
  obtain ⟨σ',H',J,q⟩:=hs
  exact fin (v:=V.non) (u:=Value.none) J rfl q
 | brk =>
  obtain ⟨_,_,_,q⟩:=hs
  exact False.elim q
 | cont =>
  obtain ⟨_,_,_,q⟩:=hs
  exact False.elim q
section
variable {X:Cx} {x:Str} {p pos:Pos} {e:Expr} {es:List Expr} {t:TA} {id T:String} {r:List V->Hp->VK->Prop}
noncomputable def tCB (r:List V->Hp->VK->Prop) (t:TA):TE:=fun σ H Q=>t σ H fun vs H1=>r vs H1 Q
theorem zai (hc:CallR X (.builtin id) r) (hg:Gl X x) (hm:X.mg x=none) (hv:bootBuiltins x=some (.builtin id)) (ha:PA X (e :: es) t) (hn:x ≠ "__name__" := by decide) (hdb:(x == ("__debug__" : Str))=false:=by decide)
  (he:starEach (e :: es) X.env=(false,eval e X.env) :: starEach es X.env:=by rfl) (hpl:(backTo pos (starEach es X.env)).any (·.1)=false:=by rfl):PE X (.Call (.Name x p) (e :: es) [] pos) (tCB r t):=by
 intro pins s σ H Q I h
 refine wpAny_Call_Name_kw (zcT I hg hm hv ?_ hn hdb)
 exact PyProof.Rows.callWith_builtin1 (thnE (ha pos pins s σ H _ I h) fun us s1 vs H1 I1 r1 q1=>hc pins s1 σ H1 vs us Q I1 r1 q1) he hpl
theorem zaP (hc:CallR X (.type T) r) (hg:Gl X x) (hm:X.mg x=none) (hv:bootBuiltins x=some (.type T)) (ha:PA X (e :: es) t) (hn:x ≠ "__name__" := by decide) (hdb:(x == ("__debug__" : Str))=false:=by decide)
  (he:starEach (e :: es) X.env=(false,eval e X.env) :: starEach es X.env:=by rfl) (hpl:(backTo pos (starEach es X.env)).any (·.1)=false:=by rfl):PE X (.Call (.Name x p) (e :: es) [] pos) (tCB r t):=by
 intro pins s σ H Q I h
 refine wpAny_Call_Name_kw (zcT I hg hm hv ?_ hn hdb)
 exact PyProof.Rows.callWith_type1 (thnE (ha pos pins s σ H _ I h) fun us s1 vs H1 I1 r1 q1=>hc pins s1 σ H1 vs us Q I1 r1 q1) he hpl
end
end L2
namespace HT
open PySem PyProof.Rows
section
open PySem.SeqAt
open PySem.AutoSeq1 (wpAny_loadPart')
open PySem.MeetsSeq PySem.MeetsSeq2 PySem.MeetsSeq3
end
section
variable {prog:Program} {w:World} {A:Around} {E:Value->Shared->Prop} {s:Shared}
noncomputable def sIx (n d:Nat):Option Int->Nat
 | none=>d
 | some v=>if v < 0 then (v + (n:Int)).toNat else min v.toNat n
end
end HT
namespace L2
open PySem PySem.Spec PyProof.Rows
noncomputable abbrev TO:=St->Hp->(Option Int->Hp->Prop)->Prop
noncomputable def PO (X:Cx) (e:Option Expr) (t:TO):Prop :=
 ∀ (pins:List (Addr×Obj)) (s:Shared) (σ : St) (H:Hp) (Q:Option Int->Hp->Prop),Inv X pins σ H s->t σ H Q ->
  wpAny (model X.prog X.w) X.A (evalPart e X.env) (fun u s'=>∃ o H',Inv X pins σ H' s'/\IsPart u o/\Q o H') X.xe s
noncomputable def tNoPart:TO:=fun _ H Q=>Q none H
noncomputable def tPart (t:TE):TO:=fun σ H Q=>t σ H fun x H1=>∃ i,x = .int i/\Q (some i) H1
section
variable {X:Cx} {e:Expr} {te:TE} {lo hi:Option Expr} {tl th:TO} {pos p2:Pos}
theorem zer:PO X none tNoPart:=by
 intro pins s σ H Q I h
 rw [evalPart_none]
 exact wpAny_pure ⟨none,H,I,.none,h⟩
theorem zeq (h:PE X e te):PO X (some e) (tPart te):=by
 intro pins s σ H Q I hw
 rw [evalPart_some]
 refine thnE (h pins s σ H _ I hw) fun u s1 x H1 I1 r1 q1 => ?_
 obtain ⟨i,rfl,q⟩:=q1
 obtain ⟨t,rfl⟩:=r1
 exact ⟨some i,H1,I1,.int i t,q⟩
noncomputable def SlR (X:Cx) (r:V->Option Int->Option Int->Hp->VK->Prop):Prop :=
 ∀ (pins:List (Addr×Obj)) (s:Shared) (σ : St) (H:Hp) (x:V) (v vl vu:Value) (lo hi:Option Int) (sl:Addr) (Q:VK),Inv X pins σ H s->RelV x v->s.heap.IsSliceOf sl vl vu .none->IsPart vl lo->IsPart vu hi->r x lo hi H Q ->
  ∃ T id,typeLookup (.type T) "__getitem__" = pure (some (.builtin id))/\s.TypeIs v T/\wpAny (model X.prog X.w) X.A (getItem v (.ref sl)) (EP X pins σ Q) X.xe s
noncomputable def tSl (r:V->Option Int->Option Int->Hp->VK->Prop) (te:TE) (tl th:TO):TE:=fun σ H Q=>te σ H fun x H1=>tl σ H1 fun l H2=>th σ H2 fun u H3=>r x l u H3 Q
theorem zdU {r:V->Option Int->Option Int->Hp->VK->Prop} (hr:SlR X r) (he:PE X e te) (hl:PO X lo tl) (hu:PO X hi th):PE X (.Subscript e (.Slice lo hi none p2) pos) (tSl r te tl th):=by
 intro pins s σ H Q I h
 refine Subscript_ (thnE (he pins s σ H _ I h) fun v s1 x H1 I1 r1 q1 => ?_)
 refine wpAny_Slice (thn (hl pins s1 σ H1 _ I1 q1) fun vl s2 ⟨l,H2,I2,pl,q2⟩=>thn (hu pins s2 σ H2 _ I2 q2) fun vu s3 ⟨u,H3,I3,pu,q3⟩ => ?_)
 rw [evalPart_none]
 refine wpAny_pure ?_
 have I4:Inv X pins σ H3 { s3 with heap:=s3.heap.push { cls := .type "slice",data := .fields #[vl,vu,.none] } }:=I3.kept (t':=s3.toks) fun b ob q=>Heap.get?_push_of_some _ q
 obtain ⟨T,id,hT,ht,hg⟩:=hr pins { s3 with heap:=s3.heap.push { cls := .type "slice",data := .fields #[vl,vu,.none] } } σ H3 x v vl vu l u s3.heap.objs.size Q I4 r1 (Heap.IsSliceOf.new ..) pl pu q3
 show wpAny (model X.prog X.w) X.A (subscriptTail e (.Slice lo hi none p2) v (.ref s3.heap.objs.size)) (EP X pins σ Q) X.xe { s3 with heap:=s3.heap.push { cls := .type "slice",data := .fields #[vl,vu,.none] } }
 exact tail_any (ops := [.ref s3.heap.objs.size,v]) ht hT hg (by with_unfolding_all rfl)
noncomputable def cutV (xs:List V) (lo hi:Option Int):List V:=(xs.drop (HT.sIx xs.length 0 lo)).take (HT.sIx xs.length xs.length hi - HT.sIx xs.length 0 lo)
theorem zcC (xs:List V) (lo hi:Option Int):(cutV xs lo hi).length<=xs.length:=by
 unfold cutV
 rw [List.length_take,List.length_drop]
 omega
end
noncomputable def ixN (n:Nat) (i:Int):Option Nat:=if 0<=i then (if i < n then some i.toNat else none) else if -(n:Int)<=i then some (i + n).toNat else none
noncomputable def atI {α : Type} (xs:List α) (i:Int):Option α := (ixN xs.length i).bind fun j=>xs[j]?
theorem ixN_seq {n:Nat} {i:Int} {j:Nat} (h:ixN n i=some j):seqIndex? i n=some j/\j < n /\ -(n:Int)<=i/\i < n:=by
 unfold ixN at h
 by_cases h0:0<=i
 ·rw [if_pos h0] at h
  by_cases h1:i < n
  ·rw [if_pos h1] at h
   have e:i.toNat=j:=Option.some.inj h
   exact ⟨by rw [seqIndex_of h0 h1,e],by omega,by omega,h1⟩
  ·rw [if_neg h1] at h; cases h
 ·rw [if_neg h0] at h
  by_cases h1 : -(n:Int)<=i
  ·rw [if_pos h1] at h
   have e:(i + n).toNat=j:=Option.some.inj h
   exact ⟨by rw [seqIndex_neg (by omega) h1,e],by omega,h1,by omega⟩
  ·rw [if_neg h1] at h; cases h
theorem zeL {α : Type} {xs:List α} {i:Int} {v : α} (h:atI xs i=some v):∃ j,seqIndex? i xs.length=some j/\xs[j]?=some v/\j < xs.length /\ -(xs.length:Int)<=i/\i < xs.length:=by
 unfold atI at h
 cases e:ixN xs.length i with
 | none=>rw [e] at h; cases h
 | some j =>
  rw [e] at h
  obtain ⟨h1,h2,h3,h4⟩:=ixN_seq e
  exact ⟨j,h1,h,h2,h3,h4⟩
theorem zaB {α : Type} {xs:List α} {j:Nat} {v : α} (h:xs[j]?=some v):atI xs (j:Int)=some v:=by
 have hj:j < xs.length:=(List.getElem?_eq_some_iff.mp h).1
 have e:ixN xs.length (j:Int)=some j:=by
  unfold ixN
  rw [if_pos (by omega),if_pos (by omega)]; simp
 unfold atI; rw [e]; exact h
noncomputable def PlainIx (b:Expr):Prop:=∀ o i,subscripted b false o i=operate [o,i] (getItem o i)
noncomputable def IxR (X:Cx) (r:R2):Prop :=
 ∀ (value slice:Expr) (pins:List (Addr×Obj)) (s:Shared) (σ : St) (H:Hp) (x y:V) (v u:Value) (Q:VK),Inv X pins σ H s->RelV x v->RelV y u->r x y H Q ->
  subscripted slice false v u=operate [v,u] (getItem v u)->wpAny (model X.prog X.w) X.A (subscriptTail value slice v u) (EP X pins σ Q) X.xe s
noncomputable def MtR (X:Cx) (id:String) (r:V->List V->Hp->VK->Prop):Prop :=
 ∀ (pins:List (Addr×Obj)) (s:Shared) (σ : St) (H:Hp) (x:V) (xs:List V) (v:Value) (us:List Value) (Q:VK),Inv X pins σ H s->RelV x v->Vals xs us->r x xs H Q ->
  wpAny (model X.prog X.w) X.A (call (.builtin id) (v :: us)) (EP X pins σ Q) X.xe s
section
variable {X:Cx} {a b:Expr} {ta tb:TE} {pos:Pos}
theorem zaO {r:R2} (hr:IxR X r) (ha:PE X a ta) (hb:PE X b tb) (hs:PlainIx b):PE X (.Subscript a b pos) (tOp r ta tb):=by
 intro pins s σ H Q I h
 exact Subscript_ (binT ha hb I h fun v u s2 x y H2 I2 rx ry q=>hr a b pins s2 σ H2 x y v u Q I2 rx ry q (hs _ _))
noncomputable def rIxL (K:W.Frag):R2:=fun x y H Q=>∃ p xs i v,x = .ref p/\y = .int i/\SqL K H p xs/\atI xs i=some v/\Q v H
noncomputable def rIxT (K:W.Frag):R2:=fun x y H Q=>∃ p xs i v,x = .ref p/\y = .int i/\SqT K H p xs/\atI xs i=some v/\Q v H
theorem zax:IxR X (rIxL X.K):=by
 intro value slice pins s σ H x y v u Q I rx ry h hs
 obtain ⟨p,xs,i,z,rfl,rfl,hq,he,q⟩:=h
 cases rx
 obtain ⟨t,rfl⟩:=ry
 obtain ⟨its,r,pl,hz⟩:=I.list hq
 obtain ⟨j,h1,h2,h3,h4,h5⟩:=zeL he
 obtain ⟨w,ew,rw'⟩:=r.get h2
 have hl:=r.length
 have hn:=zd5
 have fin:EP X pins σ Q w s:=⟨z,H,I,rw',q⟩
 by_cases h0:0<=i
 ·have hj:i.toNat=j:=by
   rw [seqIndex_of h0 h5] at h1
   exact Option.some.inj h1
  exact item_listR pl.isList h0 (by omega) (by rw [hj]; simpa using ew) fin hs
 ·have hj:(i + (its.toArray.size:Int)).toNat=j:=by
   rw [seqIndex_neg (by omega) h4] at h1
   rw [List.size_toArray,<- hl]
   exact Option.some.inj h1
  exact subscriptTail_builtinR (x:=w) pl.isList.typeIs slot_list_getitem.lookup
   (wpAny_getItem_list_neg (Q:=fun r s'=>r=w/\EP X pins σ Q r s') pl.isList (by omega) (by rw [List.size_toArray] <;> omega) (by omega) (by rw [hj]; simpa using ew) ⟨rfl,fin⟩) hs
theorem zez:IxR X (rIxT X.K):=by
 intro value slice pins s σ H x y v u Q I rx ry h hs
 obtain ⟨p,xs,i,z,rfl,rfl,hq,he,q⟩:=h
 cases rx
 obtain ⟨t,rfl⟩:=ry
 obtain ⟨its,r,pl,hz⟩:=I.tuple hq
 obtain ⟨j,h1,h2,h3,h4,h5⟩:=zeL he
 obtain ⟨w,ew,rw'⟩:=r.get h2
 have hl:=r.length
 have hn:=zd5
 have fin:EP X pins σ Q w s:=⟨z,H,I,rw',q⟩
 exact subscriptTail_builtinR (x:=w) pl.typeIs slot_tuple_getitem.lookup
  (getItem_tuple (j:=j) (Q:=fun r s'=>r=w/\EP X pins σ Q r s') pl (by omega) (by omega) (by rw [List.size_toArray,<- hl]; exact h1) (by simpa using ew) ⟨rfl,fin⟩) hs
theorem slice_bounds (lo hi:Option Int) (n:Nat):(sliceBounds lo hi none n).1=((HT.sIx n 0 lo:Nat):Int)/\(sliceBounds lo hi none n).2.1=((HT.sIx n n hi:Nat):Int)/\(sliceBounds lo hi none n).2.2=1:=by
 refine ⟨?_,?_,rfl⟩
 ·cases lo with
  | none=>simp [sliceBounds,HT.sIx]
  | some i =>
   simp only [sliceBounds,HT.sIx,Option.getD_none,show (1:Int) > 0 by decide,if_true]
   by_cases h:i < 0
   ·simp only [h,if_true] <;> omega
   ·simp only [h,if_false] <;> omega
 ·cases hi with
  | none=>simp [sliceBounds,HT.sIx]
  | some i =>
   simp only [sliceBounds,HT.sIx,Option.getD_none,show (1:Int) > 0 by decide,if_true]
   by_cases h:i < 0
   ·simp only [h,if_true] <;> omega
   ·simp only [h,if_false] <;> omega
theorem slicePick_cut (its:List Value) (lo hi:Option Int):slicePick its.toArray lo hi none=((its.drop (HT.sIx its.length 0 lo)).take (HT.sIx its.length its.length hi - HT.sIx its.length 0 lo)).toArray:=by
 obtain ⟨h1,h2,h3⟩:=slice_bounds lo hi its.toArray.size
 unfold slicePick
 rw [h1,h2,h3]
 simp only [sliceRange_one,pick_run,List.size_toArray] <;> rfl
noncomputable def rSlL (K:W.Frag):V->Option Int->Option Int->Hp->VK->Prop:=fun x lo hi H Q=>∃ a xs,x = .ref a/\SqL K H a xs/\∀ p,H p=none->Q (.ref p) (upd H p (.lst (cutV xs lo hi)))
theorem zeg:SlR X (rSlL X.K):=by
 intro pins s σ H x v vl vu lo hi sl Q I rx hs pl pu h
 obtain ⟨a,xs,rfl,hx,q⟩:=h
 cases rx
 obtain ⟨its,r,ht,hz⟩:=I.list hx
 have hlen:=r.length
 refine ⟨"list",_,slot_list_getitem.lookup,ht.isList.typeIs,?_⟩
 refine wpAny_getItem_list_slice ht.isList hs pl pu .none (by simp) ?_ (by rw [List.size_toArray] <;> omega)
 rw [slicePick_cut,<- hlen]
 refine ⟨.ref s.heap.objs.size,_,I.laid (t':=s.toks) (o := .lst (cutV xs lo hi)) (fun b ob q=>Heap.get?_push_of_some _ q) (Nat.le_refl _) ?_,rfl,q _ (I.hok.fresh (Nat.le_refl _))⟩
 exact ⟨Nat.le_trans (zcC xs lo hi) hz,_,0,(r.drop (HT.sIx xs.length 0 lo)).take (HT.sIx xs.length xs.length hi - HT.sIx xs.length 0 lo),Heap.get?_push_size _ rfl⟩
noncomputable def flatV:V->Bool
 | .non=>true
 | .bl _=>true
 | .int _=>true
 | .str _=>true
 | _=>false
noncomputable def eqV:V->V->Bool
 | .non,.non=>true
 | .bl a,.bl b=>a == b
 | .bl a,.int b=>(if a then 1 else 0) == b
 | .int a,.bl b=>a == (if b then 1 else 0)
 | .int a,.int b=>a == b
 | .str a,.str b=>a == b
 | _,_=>false
theorem eqAt_V {A:Around} {s:Shared} {y x:V} {u v:Value} (ry:RelV y u) (rx:RelV x v) (fy:flatV y=true) (fx:flatV x=true):SeqAt.EqAt A s u v (eqV y x):=by
 cases y with
 | non =>
  cases ry
  cases x with
  | non=>cases rx; exact SeqAt.EqAt.same _
  | bl b=>cases rx; exact SeqAt.EqAt.none_bool b
  | int b=>obtain ⟨t,rfl⟩:=rx; exact SeqAt.EqAt.none_int b t
  | str b=>obtain ⟨t,rfl⟩:=rx; exact SeqAt.EqAt.none_str b t
  | _=>exact absurd (show false=true from fx) Bool.false_ne_true
 | bl a =>
  cases ry
  cases x with
  | non=>cases rx; exact SeqAt.EqAt.bool_none a
  | bl b=>cases rx; exact SeqAt.EqAt.bool_bool a b
  | int b=>obtain ⟨t,rfl⟩:=rx; exact SeqAt.EqAt.bool_int a b t
  | str b=>obtain ⟨t,rfl⟩:=rx; exact SeqAt.EqAt.bool_str a b t
  | _=>exact absurd (show false=true from fx) Bool.false_ne_true
 | int a =>
  obtain ⟨t',rfl⟩:=ry
  cases x with
  | non=>cases rx; exact SeqAt.EqAt.int_none a t'
  | bl b=>cases rx; exact SeqAt.EqAt.int_bool a t' b
  | int b=>obtain ⟨t,rfl⟩:=rx; exact SeqAt.EqAt.int_int a t' b t
  | str b=>obtain ⟨t,rfl⟩:=rx; exact SeqAt.EqAt.int_str a t' b t
  | _=>exact absurd (show false=true from fx) Bool.false_ne_true
 | str a =>
  obtain ⟨t',rfl⟩:=ry
  cases x with
  | non=>cases rx; exact SeqAt.EqAt.str_none a t'
  | bl b=>cases rx; exact SeqAt.EqAt.str_bool a t' b
  | int b=>obtain ⟨t,rfl⟩:=rx; exact SeqAt.EqAt.str_int a t' b t
  | str b=>obtain ⟨t,rfl⟩:=rx; exact SeqAt.EqAt.str_str a t' b t
  | _=>exact absurd (show false=true from fx) Bool.false_ne_true
 | _=>exact absurd (show false=true from fy) Bool.false_ne_true
noncomputable def eqU (x:V) (u:Value):Bool:=match u with
 | .none=>eqV .non x
 | .bool b=>eqV (.bl b) x
 | .int i _=>eqV (.int i) x
 | .str z _=>eqV (.str z) x
 | _=>false
theorem ze4 {x y:V} {u:Value} (r:RelV y u) (f:flatV y=true):eqU x u=eqV y x:=by
 cases y with
 | non=>cases r; rfl
 | bl b=>cases r; rfl
 | int i=>obtain ⟨t,rfl⟩:=r; rfl
 | str z=>obtain ⟨t,rfl⟩:=r; rfl
 | _=>exact absurd (show false=true from f) Bool.false_ne_true
theorem zcE {x:V}:∀ {xs:List V} {us:List Value},Vals xs us->xs.all flatV=true->us.any (eqU x)=xs.any fun y=>eqV y x
 | _,_,.nil,_=>rfl
 | y :: xs,u :: us,.cons r t,f=>by
  rw [List.all_cons,Bool.and_eq_true] at f
  rw [List.any_cons,List.any_cons,ze4 r f.1,zcE t f.2]
theorem zbZ {A:Around} {s:Shared} {x:V} {v:Value} (rx:RelV x v) (fx:flatV x=true):∀ {xs:List V} {us:List Value},Vals xs us->xs.all flatV=true->∀ u∈us,SeqAt.EqAt A s u v (eqU x u)
 | _,_,.nil,_=>fun u hu=>by cases hu
 | y :: xs,u :: us,.cons r t,f=>fun u' hu=>by
  rw [List.all_cons,Bool.and_eq_true] at f
  rcases List.mem_cons.mp hu with rfl | hu
  ·rw [ze4 r f.1]; exact eqAt_V r rx f.1 fx
  ·exact zbZ rx fx t f.2 u' hu
noncomputable def inV (x:V) (xs:List V):Bool:=xs.any fun y=>eqV y x
noncomputable def rIn (K:W.Frag) (neg:Bool):R2:=fun x y H Q=>∃ p xs,y = .ref p/\(SqL K H p xs\/SqT K H p xs)/\flatV x=true/\xs.all flatV=true/\Q (.bl (if neg then !inV x xs else inV x xs)) H
theorem zbY:OpR X (compareOp .In) (rIn X.K false):=by
 intro pins s σ H x y v u Q I rx ry h
 obtain ⟨p,xs,rfl,hq,fx,fs,q⟩:=h
 cases ry
 rcases hq with hq | hq
 ·obtain ⟨its,r,pl,hz⟩:=I.list hq
  refine SeqAt.in_listAt (eqU x) pl.isList (fun w hw=>zbZ rx fx r fs w (by simpa using hw)) ⟨.bl _,H,I,rfl,?_⟩
  rw [show its.toArray.any (eqU x)=its.any (eqU x) by simp,zcE r fs]
  exact q
 ·obtain ⟨its,r,pl,hz⟩:=I.tuple hq
  refine SeqAt.in_tupleAt (eqU x) pl (fun w hw=>zbZ rx fx r fs w (by simpa using hw)) ⟨.bl _,H,I,rfl,?_⟩
  rw [show its.toArray.any (eqU x)=its.any (eqU x) by simp,zcE r fs]
  exact q
theorem zbF:OpR X (compareOp .NotIn) (rIn X.K true):=by
 intro pins s σ H x y v u Q I rx ry h
 obtain ⟨p,xs,rfl,hq,fx,fs,q⟩:=h
 cases ry
 rcases hq with hq | hq
 ·obtain ⟨its,r,pl,hz⟩:=I.list hq
  refine SeqAt.notIn_listAt (eqU x) pl.isList (fun w hw=>zbZ rx fx r fs w (by simpa using hw)) ⟨.bl _,H,I,rfl,?_⟩
  rw [show its.toArray.any (eqU x)=its.any (eqU x) by simp,zcE r fs]
  exact q
 ·obtain ⟨its,r,pl,hz⟩:=I.tuple hq
  refine SeqAt.notIn_tupleAt (eqU x) pl (fun w hw=>zbZ rx fx r fs w (by simpa using hw)) ⟨.bl _,H,I,rfl,?_⟩
  rw [show its.toArray.any (eqU x)=its.any (eqU x) by simp,zcE r fs]
  exact q
theorem zao:CallR X (.builtin "len") (fun xs H Q=>∃ p ys,xs = [.ref p]/\(SqL X.K H p ys\/SqT X.K H p ys)/\Q (.int ys.length) H):=by
 intro pins s σ H xs us Q I r h
 obtain ⟨p,ys,rfl,hq,q⟩:=h
 obtain ⟨u,rfl,rx⟩:=zce r
 cases rx
 have hn:=zd5
 rcases hq with hq | hq
 ·obtain ⟨its,r',pl,hz⟩:=I.list hq
  have hlen:=r'.length
  exact Calls.call_len_list pl.isList (by simp only [List.size_toArray] <;> omega) ⟨.int ys.length,H,I.tok _,⟨s.toks + 1,by rw [List.size_toArray,hlen]⟩,q⟩
 ·obtain ⟨its,r',pl,hz⟩:=I.tuple hq
  have hlen:=r'.length
  exact len_tuple pl (by simp only [List.size_toArray] <;> omega) ⟨.int ys.length,H,I.tok _,⟨s.toks + 1,by rw [List.size_toArray,hlen]⟩,q⟩
theorem zbh:CallR X (.builtin "len") (fun xs H Q=>∃ z,xs = [.str z]/\z.length<=sizeLine/\Q (.int z.length) H):=by
 intro pins s σ H xs us Q I r h
 obtain ⟨z,rfl,hz,q⟩:=h
 obtain ⟨u,rfl,t,rfl⟩:=zce r
 have hn:=zd5
 exact len_str (by omega) ⟨.int z.length,H,I.tok _,⟨_,rfl⟩,q⟩
theorem zcd:CallR X (.type "list") (fun xs H Q=>∃ p ys,xs = [.ref p]/\(SqL X.K H p ys\/SqT X.K H p ys)/\∀ l,H l=none->Q (.ref l) (upd H l (.lst ys))):=by
 intro pins s σ H xs us Q I r h
 obtain ⟨p,ys,rfl,hq,q⟩:=h
 obtain ⟨u,rfl,rx⟩:=zce r
 cases rx
 have fin:∀ (its:List Value),Vals ys its->ys.length<=sizeLine->∀ (h':Heap) (c':Nat),(∀ b o',s.heap.get? b=some o'->h'.get? b=some o') ->
   h'.get? s.heap.objs.size=some { cls := .type "list",dict:=none,data := .seq its.toArray c',slots := #[] }->EP X pins σ Q (.ref s.heap.objs.size) { s with heap:=h' }:=fun its r' hz h' c' kp e =>
  ⟨.ref s.heap.objs.size,_,I.laid (t':=s.toks) kp (Nat.le_refl _) (show ObjOk X.prog X.w _ h' _ (.lst ys) from ⟨hz,its,c',r',e⟩),rfl,q _ (I.hok.fresh (Nat.le_refl _))⟩
 rcases hq with hq | hq
 ·obtain ⟨its,r',pl,hz⟩:=I.list hq
  have hlen:=r'.length
  obtain ⟨o,ho,hc,n,hd⟩:=pl.isList
  exact call_list_seq p (.inl rfl) ho hc hd (fun h' c' kp e=>fin its r' hz h' c' kp e) (by simp only [List.size_toArray] <;> omega)
 ·obtain ⟨its,r',pl,hz⟩:=I.tuple hq
  have hlen:=r'.length
  obtain ⟨o,ho,hc,n,hd⟩:=pl
  exact call_list_seq p (.inr rfl) ho hc hd (fun h' c' kp e=>fin its r' hz h' c' kp e) (by simp only [List.size_toArray] <;> omega)
noncomputable def tyV (K:W.Frag) (T:String) (x:V) (H:Hp):Prop:=match x with
 | .str _=>T = "str"
 | .int _=>T = "int"
 | .ref p=>(T = "list" /\ ∃ xs,SqL K H p xs)\/(T = "tuple" /\ ∃ o,K.lookup p=some o/\o.cls = .type "tuple" /\ o.dict=none) \/
   (T = "dict" /\ ((∃ kvs,H p=some (.dK kvs))\/∃ kvs,H p=some (.dT kvs)))\/(T = "set" /\ ∃ S n,H p=some (.set S n))
 | _=>False
theorem zeP {pins:List (Addr×Obj)} {σ : St} {H:Hp} {s:Shared} {T:String} {x:V} {v:Value} (I:Inv X pins σ H s) (r:RelV x v) (ty:tyV X.K T x H) :
  s.TypeIs v T/\∀ a,v = .ref a->∃ ob,s.heap.get? a=some ob/\ob.dict=none:=by
 cases x with
 | str z =>
  obtain ⟨t,rfl⟩:=r
  cases (show T = "str" from ty)
  exact ⟨typeIs_str s z t,fun _ e=>nomatch e⟩
 | int i =>
  obtain ⟨t,rfl⟩:=r
  cases (show T = "int" from ty)
  exact ⟨typeIs_int s i t,fun _ e=>nomatch e⟩
 | ref p =>
  cases r
  rcases ty with ⟨rfl,xs,hq⟩ | ⟨rfl,o,hk,hc,hd⟩ | ⟨rfl,hk⟩ | ⟨rfl,S,n,hk⟩
  ·obtain ⟨its,_,pl,_⟩:=I.list hq
   refine ⟨pl.isList.typeIs,fun a e => ?_⟩
   cases e
   obtain ⟨o,n,e,c,hd,_⟩:=pl
   exact ⟨o,e,hd⟩
  ·refine ⟨⟨o,I.kIn p o hk,hc⟩,fun a e => ?_⟩
   cases e
   exact ⟨o,I.kIn _ o hk,hd⟩
  ·have z:∃ o,s.heap.get? p=some o/\o.ExactDict:=by
    rcases hk with ⟨kvs,hk⟩ | ⟨kvs,hk⟩
    ·obtain ⟨_,_,_,_,o,_,_,e,ex,_⟩:=I.hok p _ hk
     exact ⟨o,e,ex⟩
    ·obtain ⟨_,_,_,_,o,_,_,e,ex,_⟩:=I.hok p _ hk
     exact ⟨o,e,ex⟩
   obtain ⟨o,e,ex⟩:=z
   refine ⟨⟨o,e,ex.1⟩,fun a e2 => ?_⟩
   cases e2
   exact ⟨o,e,ex.2.1⟩
  ·obtain ⟨o,_,_,_,e,ex,_⟩:=I.hok p _ hk
   refine ⟨⟨o,e,ex.1⟩,fun a e2 => ?_⟩
   cases e2
   exact ⟨o,e,ex.2.1⟩
 | _=>exact False.elim ty
noncomputable def tBM0 (K:W.Frag) (T:String) (r:V->List V->Hp->VK->Prop) (to:TE):TE:=fun σ H Q=>to σ H fun x H1=>tyV K T x H1/\r x [] H1 Q
noncomputable def tBM (K:W.Frag) (T:String) (r:V->List V->Hp->VK->Prop) (to:TE) (t:TA):TE:=fun σ H Q=>to σ H fun x H1=>tyV K T x H1/\t σ H1 fun xs H2=>r x xs H2 Q
variable {o e:Expr} {es:List Expr} {to:TE} {t:TA} {name:Str} {apos cpos:Pos} {T id:String} {r:V->List V->Hp->VK->Prop}
theorem zeV (pa:PlainAttrs T) (slot:Slot T name id) (hty:typeOf (.builtin id)=pure (.type "method_descriptor")) (hm:MtR X id r) (ho:PE X o to)
  (hbase:attributeBase o name X.env (eval o X.env)=eval o X.env:=by rfl) (hline:(apos.endLine == cpos.line)=true:=by rfl):PE X (.Call (.Attribute o name apos) [] [] cpos) (tBM0 X.K T r to):=by
 intro pins s σ H Q I h
 refine wpAny_Call_method0_late hbase hline (thnE (ho pins s σ H _ I h) fun v s1 x H1 I1 r1 ⟨ty,q1⟩ => ?_)
 obtain ⟨h1,h2⟩:=zeP I1 r1 ty
 exact ⟨T,id,pa,slot,hty,h1,h2,Calls.callWith_builtin rfl (PySem.evalArgs_none (hm pins s1 σ H1 x [] v [] Q I1 r1 .nil q1))⟩
theorem zbK (pa:PlainAttrs T) (slot:Slot T name id) (hty:typeOf (.builtin id)=pure (.type "method_descriptor")) (hm:MtR X id r) (ho:PE X o to) (ha:PA X (e :: es) t)
  (hbase:attributeBase o name X.env (eval o X.env)=eval o X.env:=by rfl)
  (hfew:((backTo cpos (starEach (e :: es) X.env)).all (fun x => !x.1) && (backToKw cpos (keywordEach [] X.env)).all (fun x=>x.1.isSome)
   && decide ((e :: es).length + ([]:List Keyword).length + (if ([]:List Keyword).isEmpty then 0 else 1) < 30))=true:=by rfl)
  (hline:(apos.endLine == cpos.line)=true:=by rfl) (hs:starEach (e :: es) X.env=(false,eval e X.env) :: starEach es X.env:=by rfl) (hplain:(backTo cpos (starEach es X.env)).any (·.1)=false:=by rfl) :
  PE X (.Call (.Attribute o name apos) (e :: es) [] cpos) (tBM X.K T r to t):=by
 intro pins s σ H Q I h
 refine wpAny_Call_method_late hbase hfew hline rfl (thnE (ho pins s σ H _ I h) fun v s1 x H1 I1 r1 ⟨ty,q1⟩ => ?_)
 obtain ⟨h1,h2⟩:=zeP I1 r1 ty
 refine ⟨T,id,pa,slot,hty,h1,h2,?_⟩
 have hA:=ha cpos pins s1 σ H1 _ I1 q1
 rw [hs] at hA ⊢
 refine Calls.callWith_builtin (by show (false || (backTo cpos (starEach es X.env)).any (·.1))=false; rw [hplain] <;> rfl) (Calls.evalArgs_plain ?_)
 exact thn hA fun us s2 ⟨vs,H2,I2,r2,q2⟩=>hm pins s2 σ H2 x vs v us Q I2 r1 r2 q2
end
noncomputable def MtM (X:Cx) (id:String) (r:V->List V->Hp->VK->Prop):Prop :=
 ∀ (pins:List (Addr×Obj)) (s:Shared) (σ : St) (H:Hp) (x:V) (xs:List V) (v:Value) (us:List Value) (Q:VK),Inv X pins σ H s->RelV x v->Vals xs us->r x xs H Q ->
  wpAny (model X.prog X.w) X.A (call (.builtin id) (v :: us)) (EP X pins σ Q) X.xe s
theorem Vals.one:∀ {x:V} {us:List Value},Vals [x] us->∃ u,us = [u]/\RelV x u
 | _,_,.cons r .nil=>⟨_,rfl,r⟩
theorem Vals.zero:∀ {us:List Value},Vals [] us->us = []
 | _,.nil=>rfl
theorem Vals.dropLast {xs:List V} {us:List Value} (h:Vals xs us):Vals xs.dropLast us.dropLast:=by
 induction h with
 | nil=>exact .nil
 | cons r t ih =>
  cases t with
  | nil=>exact .nil
  | cons q t'=>exact .cons r ih
theorem Vals.rep {xs:List V} {us:List Value} (h:Vals xs us):∀ k:Nat,Vals (List.replicate k xs).flatten (List.replicate k us).flatten
 | 0 => .nil
 | k + 1=>by
  rw [List.replicate_succ,List.replicate_succ,List.flatten_cons,List.flatten_cons]
  exact Vals.append h (Vals.rep h k)
theorem erase_last {α : Type} (l:List α):l.eraseIdx (l.length - 1)=l.dropLast:=by
 induction l with
 | nil=>rfl
 | cons a r ih =>
  cases r with
  | nil=>rfl
  | cons b r =>
   have e:(a :: b :: r).length - 1=((b :: r).length - 1) + 1:=by
    have h1:(a :: b :: r).length=r.length + 2:=rfl
    have h2:(b :: r).length=r.length + 1:=rfl
    omega
   rw [e,List.eraseIdx_cons_succ,ih]
   all_goals rfl
theorem zdq (its:List Value):∀ (k:Nat) (acc:List Value),
  List.foldl (fun x1 x2=>x1 ++ x2) acc.toArray (List.replicate k its.toArray)=(acc ++ (List.replicate k its).flatten).toArray
 | 0,acc=>by simp
 | k + 1,acc=>by
  have e:acc.toArray ++ its.toArray=(acc ++ its).toArray:=by simp
  have e2:(acc ++ its) ++ (List.replicate k its).flatten=acc ++ (List.replicate (k + 1) its).flatten:=by
   rw [List.replicate_succ,List.flatten_cons,List.append_assoc]
  rw [<- e2,<- zdq its k (acc ++ its),<- e,List.replicate_succ,List.foldl_cons]
section
variable {X:Cx} {pins:List (Addr×Obj)} {σ : St} {H:Hp} {s:Shared} {l b:Addr} {xs ys zs:List V}
theorem Inv.lset {its its':List Value} {n:Nat} {f:Array Value->Array Value} {t':Nat} (I:Inv X pins σ H s) (hH:H l=some (.lst xs))
  (e:s.heap.get? l=some { cls := .type "list",data := .seq its.toArray n }) (hf:f its.toArray=its'.toArray) (hv:Vals ys its') (hz:ys.length<=sizeLine) :
  Inv X pins σ (upd H l (.lst ys)) { s with heap:=s.heap.update l (Obj.mapSeq f),toks:=t' }:=by
 have q:=PySem.IsL.update e f
 rw [hf] at q
 refine I.write (x:=l) (e:=l) (by rw [hH]; exact trivial) (.inl rfl) (fun b' u hb hu=>(Heap.get?_update_other s.heap (Obj.mapSeq f) (Ne.symm hb)).trans hu) ⟨_,q⟩ ?_
 exact ⟨hz,its',_,hv,q⟩
theorem Inv.lnew {its:List Value} {t':Nat} (I:Inv X pins σ H s) (hv:Vals ys its) (hz:ys.length<=sizeLine) :
  Inv X pins σ (upd H s.heap.objs.size (.lst ys)) { s with heap:=s.heap.push { cls := .type "list",data := .seq its.toArray },toks:=t' } :=
 I.laid (fun _ _ q=>Heap.get?_push_of_some _ q) (Nat.le_refl _) ⟨hz,its,0,hv,Heap.get?_push_size _ rfl⟩
theorem Inv.fresh (I:Inv X pins σ H s):H s.heap.objs.size=none:=I.hok.fresh (Nat.le_refl _)
theorem Inv.lstM (I:Inv X pins σ H s) (hH:H l=some (.lst xs)):xs.length<=sizeLine/\∃ (its:List Value) (n:Nat),Vals xs its/\xs.length=its.length/\s.heap.get? l=some { cls := .type "list",data := .seq its.toArray n }:=by
 obtain ⟨z,its,n,r,e⟩:=I.hok l _ hH
 exact ⟨z,its,n,r,r.length,e⟩
theorem notLongL {n:Nat} (h:n<=sizeLine):Builtin.List.listTooLong n=false:=by
 unfold Builtin.List.listTooLong
 exact decide_eq_false (by omega)
end
section
variable {X:Cx}
noncomputable def rAppend:V->List V->Hp->VK->Prop:=fun x vs H Q=>∃ l xs y,x = .ref l/\vs = [y]/\H l=some (.lst xs)/\xs.length < sizeLine/\Q .non (upd H l (.lst (xs ++ [y])))
theorem zaz:MtM X "list.append" rAppend:=by
 intro pins s σ H x vs v us Q I rx rv h
 obtain ⟨l,xs,y,rfl,rfl,hH,hz,q⟩:=h
 cases rx
 obtain ⟨u,rfl,ru⟩:=rv.one
 obtain ⟨z,its,n,r,hl,e⟩:=I.lstM hH
 refine call_meets F.slot_list_append ⟨_,e,rfl⟩ F.entry_list_append (F.args_list_append_2 _ _) (PySem.list_append l its.toArray n u (by rw [List.size_toArray]; omega)) ⟨e,?_⟩
 refine ⟨.non,_,I.lset (its':=its ++ [u]) hH e (by simp) (r.append (.cons ru .nil)) ?_,rfl,q⟩
 rw [List.length_append,List.length_singleton]
 omega
noncomputable def rPop:V->List V->Hp->VK->Prop:=fun x vs H Q=>∃ l xs y,x = .ref l/\vs = []/\H l=some (.lst xs)/\xs[xs.length - 1]?=some y/\Q y (upd H l (.lst xs.dropLast))
theorem zeX:MtM X "list.pop" rPop:=by
 intro pins s σ H x vs v us Q I rx rv h
 obtain ⟨l,xs,y,rfl,rfl,hH,hy,q⟩:=h
 cases rx
 have hus:=rv.zero
 subst hus
 obtain ⟨z,its,n,r,hl,e⟩:=I.lstM hH
 obtain ⟨u,hu,ru⟩:=r.get hy
 have hy':its.toArray[its.toArray.size - 1]?=some u:=by
  show its.toArray[its.length - 1]?=some u
  rw [<- Array.getElem?_toList,<- hl]
  exact hu
 refine call_meets F.slot_list_pop ⟨_,e,rfl⟩ F.entry_list_pop (F.args_list_pop_1 _) (MeetsSeq.list_pop_last l its.toArray n u hy' (by rw [List.size_toArray]; omega)) ⟨e,?_⟩
 refine ⟨y,_,I.lset (its':=its.dropLast) hH e ?_ r.dropLast ?_,ru,q⟩
 ·show its.toArray.eraseIdxIfInBounds (its.toArray.size - 1)=its.dropLast.toArray
  rw [List.size_toArray,List.eraseIdxIfInBounds_toArray,erase_last]
 ·rw [List.length_dropLast]
  omega
noncomputable def rCat:R2:=fun x y H Q=>∃ l b xs zs,x = .ref l/\y = .ref b/\H l=some (.lst xs)/\H b=some (.lst zs)/\xs.length + zs.length<=sizeLine/\∀ p,H p=none->Q (.ref p) (upd H p (.lst (xs ++ zs)))
theorem zbg:OpR X (binaryOp .Add) rCat:=by
 intro pins s σ H x y v u Q I rx ry h
 obtain ⟨l,b,xs,zs,rfl,rfl,hH,hB,hz,q⟩:=h
 cases rx
 cases ry
 obtain ⟨z,its,n,r,hl,e⟩:=I.lstM hH
 obtain ⟨z2,its2,n2,r2,hl2,e2⟩:=I.lstM hB
 refine PySem.P.add_list e e2 ?_ (by rw [List.size_toArray,List.size_toArray]; omega)
 have ea:its.toArray ++ its2.toArray=(its ++ its2).toArray:=by simp
 rw [ea]
 exact ⟨.ref _,_,I.lnew (t':=s.toks) (r.append r2) (by rw [List.length_append]; omega),rfl,q _ I.fresh⟩
noncomputable def rRep:R2:=fun x y H Q=>∃ l k xs,x = .ref l/\y = .int k/\H l=some (.lst xs) /\ -(2 ^ 63)<=k/\k < 2 ^ 63/\xs.length * k.toNat<=sizeLine /\
 ∀ p,H p=none->Q (.ref p) (upd H p (.lst (List.replicate k.toNat xs).flatten))
theorem len_rep {α : Type} (xs:List α) (k:Nat):(List.replicate k xs).flatten.length=k * xs.length:=by
 induction k with
 | zero=>simp
 | succ k ih=>rw [List.replicate_succ,List.flatten_cons,List.length_append,ih,Nat.succ_mul,Nat.add_comm]
theorem op_rep:OpR X (binaryOp .Mult) rRep:=by
 intro pins s σ H x y v u Q I rx ry h
 obtain ⟨l,k,xs,rfl,rfl,hH,h1,h2,hz,q⟩:=h
 cases rx
 obtain ⟨t,rfl⟩:=ry
 obtain ⟨z,its,n,r,hl,e⟩:=I.lstM hH
 have hlen:its.toArray.size * k.toNat<=sizeLine:=by rw [List.size_toArray,<- hl]; exact hz
 have hcap:¬ its.toArray.size * k.toNat > (2 ^ 63 - 1) / 8:=by
  have:(sizeLine:Nat)<=(2 ^ 63 - 1) / 8:=by decide
  omega
 have hfit:¬ (!Builtin.List.listFitsIndex k)=true:=by
  rw [fitsIndex_both h1 h2]
  exact Bool.false_ne_true
 have hlong:¬ Builtin.List.listTooLong (its.toArray.size * k.toNat)=true:=by
  rw [notLongL hlen]
  exact Bool.false_ne_true
 have hnew:List.foldl (fun x1 x2=>x1 ++ x2) #[] (List.replicate (if its.toArray.isEmpty=true then 0 else k.toNat) its.toArray)=(List.replicate k.toNat its).flatten.toArray:=by
  have f0:∀ m:Nat,List.foldl (fun x1 x2=>x1 ++ x2) #[] (List.replicate m its.toArray)=(List.replicate m its).flatten.toArray:=fun m=>by
   have:=zdq its m []
   rw [List.nil_append] at this
   exact this
  rw [f0]
  cases its with
  | nil=>simp
  | cons a r'=>rw [if_neg (by simp)]
 refine wpAny_binaryOp_repeat_ref (T := "list") (U := "int") (by decide) ⟨_,e,rfl⟩ (fun s'=>typeIs_int s' k t) noFill_list_mul F.fills_int_mul F.slot_int_rmul repeat_list F.slot_int_index.lookup
  (call_meets F.slot_int_rmul (typeIs_int s k t) F.entry_int_rmul (F.args_int_rmul_2 _ _) (int___rmul___int_list k t l its.toArray n)
   ⟨e,rfl,⟨_,e,rfl⟩,call_meets F.slot_list_mul ⟨_,e,rfl⟩ F.entry_list_mul (F.args_list_mul_2 _ _) (AutoListH.list___mul___list_int_3 l its.toArray n k t hfit hcap hlong) ⟨e,?_⟩⟩)
 rw [hnew]
 exact ⟨.ref _,_,I.lnew (t':=s.toks) (r.rep k.toNat) (by rw [len_rep,Nat.mul_comm]; exact hz),rfl,q _ I.fresh⟩
end
section
variable {prog:Program} {w:World} {A:Around} {E:Value->Shared->Prop} {s:Shared}
end
section
variable {X:Cx}
end
section
variable {κ : Type} [DecidableEq κ]
noncomputable def valV (kvs:List (κ × V)) (k : κ):Option V:=(kvs.find? fun kv=>decide (kv.1=k)).map (·.2)
noncomputable def putK (kvs:List (κ × V)) (k : κ) (v:V):List (κ × V) :=
 if (kvs.any fun kv=>decide (kv.1=k))=true then kvs.map (fun kv=>if kv.1=k then (kv.1,v) else kv) else kvs ++ [(k,v)]
noncomputable def dropK (kvs:List (κ × V)) (k : κ):List (κ × V):=kvs.filter fun kv=>decide (kv.1≠k)
theorem zcg {p : κ × V} {r:List (κ × V)} {k : κ} (e:p.1=k):valV (p :: r) k=some p.2:=by simp [valV,List.find?_cons,e]
theorem zbS {p : κ × V} {r:List (κ × V)} {k : κ} (e:¬ p.1=k):valV (p :: r) k=valV r k:=by simp [valV,List.find?_cons,e]
theorem zcY (k : κ):∀ kvs:List (κ × V),(kvs.any fun kv=>decide (kv.1=k))=(valV kvs k).isSome
 | []=>rfl
 | p :: r=>by
  rw [List.any_cons]
  by_cases e:p.1=k
  ·simp only [zcg e,decide_eq_true e,Bool.true_or,Option.isSome_some]
  ·rw [zbS e,decide_eq_false e,Bool.false_or]; exact zcY k r
theorem zcy (kvs:List (κ × V)) (k : κ) (v:V):(putK kvs k v).length<=kvs.length + 1:=by
 unfold putK
 split
 ·rw [List.length_map]; omega
 ·rw [List.length_append,List.length_cons,List.length_nil]; omega
theorem RelO.isSome_eq {o:Option V} {u:Option Value} (r:RelO o u):o.isSome=u.isSome:=by
 cases o with
 | none=>cases u with
  | none=>rfl
  | some _=>exact (show False from r).elim
 | some _=>cases u with
  | none=>exact (show False from r).elim
  | some _=>rfl
theorem RelO.getD {o:Option V} {u:Option Value} {d:V} {d':Value} (r:RelO o u) (rd:RelV d d'):RelV (o.getD d) (u.getD d'):=by
 cases o with
 | none=>cases u with
  | none=>exact rd
  | some _=>exact (show False from r).elim
 | some _=>cases u with
  | none=>exact (show False from r).elim
  | some _=>exact r
theorem KV.val {kvs:List (κ × V)} {vs:List (κ × Value)} (r:KV kvs vs) (k : κ):RelO (valV kvs k) (valueAt vs k):=by
 unfold KV at r
 induction r with
 | nil=>exact True.intro
 | @cons p q ps qs h t ih =>
  obtain ⟨h1,h2⟩:=h
  by_cases e:p.1=k
  ·have e':q.1=k:=h1.symm.trans e
   have b:valueAt (q :: qs) k=some q.2:=by simp [valueAt,List.find?_cons,e']
   rw [zcg e,b]; exact h2
  ·have e':¬ q.1=k:=fun z=>e (h1.trans z)
   have b:valueAt (q :: qs) k=valueAt qs k:=by simp [valueAt,List.find?_cons,e']
   rw [zbS e,b]; exact ih
theorem KV.any {kvs:List (κ × V)} {vs:List (κ × Value)} (r:KV kvs vs) (k : κ):(kvs.any fun kv=>decide (kv.1=k))=vs.any fun kv=>decide (kv.1=k):=by
 unfold KV at r
 induction r with
 | nil=>rfl
 | cons h t ih=>rw [List.any_cons,List.any_cons,ih,h.1]
theorem KV.repl {kvs:List (κ × V)} {vs:List (κ × Value)} (r:KV kvs vs) (k : κ) {y:V} {u:Value} (ry:RelV y u) :
  KV (kvs.map fun kv=>if kv.1=k then (kv.1,y) else kv) (vs.map fun kv=>if kv.1=k then (kv.1,u) else kv):=by
 unfold KV at r ⊢
 induction r with
 | nil=>exact .nil
 | @cons p q ps qs h t ih =>
  rw [List.map_cons,List.map_cons]
  refine .cons ?_ ih
  obtain ⟨h1,h2⟩:=h
  by_cases e:p.1=k
  ·rw [if_pos e,if_pos (h1.symm.trans e)]; exact ⟨h1,ry⟩
  ·rw [if_neg e,if_neg (fun z=>e (h1.trans z))]; exact ⟨h1,h2⟩
theorem KV.put {kvs:List (κ × V)} {vs:List (κ × Value)} (r:KV kvs vs) (k : κ) {y:V} {u:Value} (ry:RelV y u):KV (putK kvs k y) (stored vs k u):=by
 unfold putK stored
 rw [r.any k]
 by_cases e:(vs.any fun kv=>decide (kv.1=k))=true
 ·rw [if_pos e,if_pos e]; exact r.repl k ry
 ·rw [if_neg e,if_neg e]; exact Paired.snoc r ⟨rfl,ry⟩
theorem KV.drop {kvs:List (κ × V)} {vs:List (κ × Value)} (r:KV kvs vs) (k : κ):KV (dropK kvs k) (without vs k):=by
 unfold KV at r ⊢
 unfold dropK without
 induction r with
 | nil=>exact .nil
 | @cons p q ps qs h t ih =>
  obtain ⟨h1,h2⟩:=h
  rw [List.filter_cons,List.filter_cons]
  by_cases e:p.1=k
  ·have a:¬ decide (p.1≠k)=true:=by simp [e]
   have b:¬ decide (q.1≠k)=true:=by simp [h1.symm.trans e]
   rw [if_neg a,if_neg b]; exact ih
  ·have e':¬ q.1=k:=fun z=>e (h1.trans z)
   have a:decide (p.1≠k)=true:=by simp [e]
   have b:decide (q.1≠k)=true:=by simp [e']
   rw [if_pos a,if_pos b]; exact .cons ⟨h1,h2⟩ ih
theorem KV.length {kvs:List (κ × V)} {vs:List (κ × Value)} (r:KV kvs vs):kvs.length=vs.length:=Paired.length r
theorem dropK_le (kvs:List (κ × V)) (k : κ):(dropK kvs k).length<=kvs.length:=List.length_filter_le _ _
end
theorem zdD {P:Program} {w:World} {k:Key} {u:Value} (r:RelV (kV k) u):(mixKind P w).is k u=true:=by
 cases k with
 | inl i=>obtain ⟨t,e⟩:=(show ∃ t,u=Value.int i t from r); subst e; exact mixKind_int P w i t
 | inr x=>obtain ⟨t,e⟩:=(show ∃ t,u=Value.str x t from r); subst e; exact mixKind_str P w x t
theorem zdm {P:Program} {w:World}:∀ {ks:List Key} {us:List Value},Vals (ks.map kV) us->ItemsAre (mixKind P w) ks us
 | [],_,r=>by rw [List.map_nil] at r; cases r; exact .nil
 | k :: ks,_,r=>by
  rw [List.map_cons] at r
  cases r with
  | cons h t=>exact .cons (zdD h) (zdm t)
noncomputable abbrev KT (H:Hp):List (List Key×V)->List (List Key×Addr×Value)->Prop:=Paired fun p q=>p.1=q.1/\H q.2.1=some (.tup (p.1.map kV))/\RelV p.2 q.2.2
theorem KT.val {H:Hp} {kvs:List (List Key×V)} {xs:List (List Key×Addr×Value)} (r:KT H kvs xs) (k:List Key):RelO (valV kvs k) ((atKey xs k).map (·.2)):=by
 induction r with
 | nil=>exact True.intro
 | @cons p q ps qs h t ih =>
  obtain ⟨h1,_,h2⟩:=h
  by_cases e:p.1=k
  ·have e':q.1=k:=h1.symm.trans e
   have b:atKey (q :: qs) k=some q.2:=by simp [atKey,List.find?_cons,e']
   rw [zcg e,b]; exact h2
  ·have e':¬ q.1=k:=fun z=>e (h1.trans z)
   have b:atKey (q :: qs) k=atKey qs k:=by simp [atKey,List.find?_cons,e']
   rw [zbS e,b]; exact ih
theorem KT.repl {H:Hp} {kvs:List (List Key×V)} {xs:List (List Key×Addr×Value)} (r:KT H kvs xs) (k:List Key) {y:V} {u:Value} (ry:RelV y u) :
  KT H (kvs.map fun kv=>if kv.1=k then (kv.1,y) else kv) (xs.map (putAt k u)):=by
 induction r with
 | nil=>exact .nil
 | @cons p q ps qs h t ih =>
  rw [List.map_cons,List.map_cons]
  refine .cons ?_ ih
  obtain ⟨h1,h2,h3⟩:=h
  unfold putAt
  by_cases e:p.1=k
  ·rw [if_pos e,if_pos (h1.symm.trans e)]; exact ⟨h1,h2,ry⟩
  ·rw [if_neg e,if_neg (fun z=>e (h1.trans z))]; exact ⟨h1,h2,h3⟩
theorem KT.put {H:Hp} {kvs:List (List Key×V)} {xs:List (List Key×Addr×Value)} (r:KT H kvs xs) (k:List Key) {b:Addr} {y:V} {u:Value} (hb:H b=some (.tup (k.map kV))) (ry:RelV y u) :
  KT H (putK kvs k y) (storedH xs k b u):=by
 have e:(kvs.any fun kv=>decide (kv.1=k))=(atKey xs k).isSome:=by
  rw [zcY,(r.val k).isSome_eq,Option.isSome_map]
 unfold putK storedH
 rw [e]
 by_cases q:(atKey xs k).isSome=true
 ·rw [if_pos q,if_pos q]; exact r.repl k ry
 ·rw [if_neg q,if_neg q]; exact Paired.snoc r ⟨rfl,hb,ry⟩
theorem KT.keeps {H H':Hp} {kvs:List (List Key×V)} {xs:List (List Key×Addr×Value)} (r:KT H kvs xs) (ht:∀ b ys,H b=some (.tup ys)->H' b=some (.tup ys)):KT H' kvs xs :=
 Paired.mapP r fun _ _ z=>⟨z.1,ht _ _ z.2.1,z.2.2⟩
section
variable {P:Program} {w:World} {H:Hp} {h:Heap} {a:Addr}
theorem zfc {u:HO} (ok:HOk P w H h) (e:Rd H a u):ObjOk P w H h a u:=e.ok ok
theorem zc5 {kvs:List (Key×V)} (ok:HOk P w H h) (e:Rd H a (.dK kvs)):kvs.length<=sizeLine/\(a == sysModules)=false/\∃ vs,KV kvs vs/\h.DictOf (mixKind P w) a vs :=
 show ObjOk P w H h a (.dK kvs) from zfc ok e
theorem zff {kvs:List (Key×V)} (ok:HOk P w H h) (e:H a=some (.dK kvs)):kvs.length<=sizeLine/\(a == sysModules)=false/\∃ vs,KV kvs vs/\h.DictOf (mixKind P w) a vs:=zc5 ok (.inl e)
theorem zcU {ks:List Key} (ok:HOk P w H h) (e:H a=some (.tup (ks.map kV))):(tupleKind (mixKind P w)).is h ks a:=by
 obtain ⟨_,its,r,o,h1,h2,n,h3⟩:=(show ObjOk P w H h a (.tup (ks.map kV)) from ok a _ e)
 exact ⟨o,its.toArray,n,h1,h2,h3,by simpa using zdm r⟩
theorem zdI {kvs:List (List Key×V)} (ok:HOk P w H h) (e:Rd H a (.dT kvs)):kvs.length<=sizeLine/\(a == sysModules)=false /\
  ∃ xs,KT H kvs xs/\h.DictOfH (tupleKind (mixKind P w)) a xs:=by
 obtain ⟨z,y,xs,r,o,es,ep,h1,h2,h3,h4,h5⟩:=(show ObjOk P w H h a (.dT kvs) from zfc ok e)
 refine ⟨z,y,xs,r,o,es,ep,h1,h2,h3,h4,fun x hx => ?_,h5⟩
 have all:∀ {l:List (List Key×V)} {m:List (List Key×Addr×Value)},KT H l m->∀ x∈m,(tupleKind (mixKind P w)).is h x.1 x.2.1:=by
  intro l m q
  induction q with
  | nil=>intro x hx; exact nomatch hx
  | @cons p q ps qs hq t ih =>
   intro x hx
   rcases List.mem_cons.mp hx with e | hx
   ·subst e
    exact zcU ok (by rw [<- hq.1]; exact hq.2.1)
   ·exact ih x hx
 exact all r x hx
theorem dt_of {kvs:List (List Key×V)} (ok:HOk P w H h) (e:H a=some (.dT kvs)):kvs.length<=sizeLine/\(a == sysModules)=false /\
  ∃ xs,KT H kvs xs/\h.DictOfH (tupleKind (mixKind P w)) a xs:=zdI ok (.inl e)
end
noncomputable def DGet (H:Hp) (a:Addr) (y:V) (r:Option V):Prop :=
 (∃ kvs k,Rd H a (.dK kvs)/\y=kV k/\r=valV kvs k)\/∃ kvs k b,Rd H a (.dT kvs)/\y = .ref b/\H b=some (.tup (k.map kV))/\r=valV kvs k
noncomputable def DPut (H:Hp) (a:Addr) (y v:V) (H':Hp):Prop :=
 (∃ kvs k,H a=some (.dK kvs)/\y=kV k/\kvs.length < sizeLine/\H'=upd H a (.dK (putK kvs k v))) \/
 ∃ kvs k b,H a=some (.dT kvs)/\y = .ref b/\H b=some (.tup (k.map kV))/\kvs.length < sizeLine/\H'=upd H a (.dT (putK kvs k v))
theorem DGet.k {H:Hp} {a:Addr} {kvs:List (Key×V)} {k:Key} (e:H a=some (.dK kvs)):DGet H a (kV k) (valV kvs k) := .inl ⟨kvs,k,.inl e,rfl,rfl⟩
theorem DPut.k {H:Hp} {a:Addr} {kvs:List (Key×V)} {k:Key} {v:V} (e:H a=some (.dK kvs)) (hl:kvs.length < sizeLine):DPut H a (kV k) v (upd H a (.dK (putK kvs k v))) := .inl ⟨kvs,k,e,rfl,hl,rfl⟩
section
variable {X:Cx} {pins:List (Addr×Obj)} {σ : St} {H:Hp} {s:Shared} {a:Addr} {y v:V} {u r:Value} {o:Option V} {A:Around} {E:Value->Shared->Prop}
theorem Inv.big (I:Inv X pins σ H s):sysModules < s.heap.objs.size:=by
 have h:mainGlobals < s.heap.objs.size:=(I.mod.glob.keeps I.bk).lt
 exact Nat.lt_trans (by decide) h
theorem d_getItem {Q:Value->Shared->Prop} (hu:A.units + 1 < cLine) (I:Inv X pins σ H s) (g:DGet H a y (some v)) (ry:RelV y u) (h:∀ w' s',Inv X pins σ H s'->RelV v w'->Q w' s') :
  wpAny (model X.prog X.w) A (getItem (.ref a) u) Q E s:=by
 rcases g with ⟨kvs,k,e,ey,l⟩ | ⟨kvs,k,b,e,ey,eb,l⟩
 ·subst ey
  obtain ⟨z,hd,vs,rel,dd⟩:=zc5 I.hok e
  obtain ⟨w',hw,rw'⟩:=RelO.some_of (v:=v) (o:=valueAt vs k) (by rw [l]; exact rel.val k)
  exact wpAny_getItem_of (zdD ry) dd.mapOf hw (h w' _ (I.tok _) rw')
 ·subst ey
  cases (show u=Value.ref b from ry)
  obtain ⟨z,hd,xs,rel,dd⟩:=zdI I.hok e
  obtain ⟨w',hw,rw'⟩:=RelO.some_of (v:=v) (o:=(atKey xs k).map (·.2)) (by rw [l]; exact rel.val k)
  obtain ⟨p,hp,hp2⟩:=Option.map_eq_some_iff.mp hw
  refine wpAny_getItem_heap (tupleKind_room_in1 hu) (zcU I.hok eb) dd hp ?_
  rw [hp2]
  exact h w' _ (I.tok _) rw'
theorem d_in {Q:Value->Shared->Prop} (hu:A.units + 1 < cLine) (I:Inv X pins σ H s) (g:DGet H a y o) (ry:RelV y u) (h:∀ s',Inv X pins σ H s'->Q (.bool o.isSome) s') :
  wpAny (model X.prog X.w) A (compareOp .In u (.ref a)) Q E s:=by
 rcases g with ⟨kvs,k,e,ey,l⟩ | ⟨kvs,k,b,e,ey,eb,l⟩
 ·subst ey
  obtain ⟨z,hd,vs,rel,dd⟩:=zc5 I.hok e
  refine wpAny_in_of (zdD ry) hd dd.mapOf ?_
  rw [<- (rel.val k).isSome_eq,<- l]
  exact h _ (I.tok _)
 ·subst ey
  cases (show u=Value.ref b from ry)
  obtain ⟨z,hd,xs,rel,dd⟩:=zdI I.hok e
  refine wpAny_in_heap (tupleKind_room_in1 hu) (zcU I.hok eb) hd dd ?_
  have q:=(rel.val k).isSome_eq
  rw [Option.isSome_map] at q
  rw [<- q,<- l]
  exact h _ (I.tok _)
theorem d_notIn {Q:Value->Shared->Prop} (hu:A.units + 1 < cLine) (I:Inv X pins σ H s) (g:DGet H a y o) (ry:RelV y u) (h:∀ s',Inv X pins σ H s'->Q (.bool (!o.isSome)) s') :
  wpAny (model X.prog X.w) A (compareOp .NotIn u (.ref a)) Q E s:=by
 rcases g with ⟨kvs,k,e,ey,l⟩ | ⟨kvs,k,b,e,ey,eb,l⟩
 ·subst ey
  obtain ⟨z,hd,vs,rel,dd⟩:=zc5 I.hok e
  refine wpAny_notIn_of (zdD ry) hd dd.mapOf ?_
  rw [<- (rel.val k).isSome_eq,<- l]
  exact h _ (I.tok _)
 ·subst ey
  cases (show u=Value.ref b from ry)
  obtain ⟨z,hd,xs,rel,dd⟩:=zdI I.hok e
  refine wpAny_notIn_heap (tupleKind_room_in1 hu) (zcU I.hok eb) hd dd ?_
  have q:=(rel.val k).isSome_eq
  rw [Option.isSome_map] at q
  rw [<- q,<- l]
  exact h _ (I.tok _)
theorem zdJ {h':Heap} {t':Nat} {ob:HO} (I:Inv X pins σ H s) (mu:Mut (H a)) (hs:Heap.SameBut a s.heap h') (he:∃ q,h'.get? a=some q) (new:ObjOk X.prog X.w (upd H a ob) h' a ob) :
  Inv X pins σ (upd H a ob) { s with heap:=h',toks:=t' } :=
 I.write (x:=a) (e:=a) mu (.inl rfl) (fun b q hb z=>(hs.2 b hb).trans z) he new
theorem zeG {P:Program} {w:World} {H':Hp} {h':Heap} {kvs:List (Key×V)} {vs:List (Key×Value)} (z:kvs.length<=sizeLine) (hd:(a == sysModules)=false) (rel:KV kvs vs) (dd:h'.DictOf (mixKind P w) a vs) :
  ObjOk P w H' h' a (.dK kvs):=⟨z,hd,vs,rel,dd⟩
theorem d_setItem {H':Hp} {Q:Unit->Shared->Prop} (hu:A.units + 1 < cLine) (I:Inv X pins σ H s) (g:DPut H a y v H') (ry:RelV y u) (rv:RelV v r) (h:∀ s',Inv X pins σ H' s'->Q () s') :
  wpAny (model X.prog X.w) A (setItem (.ref a) u r) Q E s:=by
 rcases g with ⟨kvs,k,e,ey,l,eH⟩ | ⟨kvs,k,b,e,ey,eb,l,eH⟩
 ·subst ey eH
  obtain ⟨z,hd,vs,rel,dd⟩:=zff I.hok e
  have hz:vs.length<=sizeLine:=by rw [<- rel.length]; exact z
  have hl:(putK kvs k v).length<=sizeLine:=by have:=zcy kvs k v; omega
  refine wpAny_setItem_pairs (hsz:=hz) (zdD ry) dd fun h' dd' hs=>h _ ?_
  have he:∃ q,h'.get? a=some q:=let ⟨q,_,_,hq,_⟩:=dd'; ⟨q,hq⟩
  exact zdJ I (by rw [e]; exact True.intro) hs he (zeG hl hd (rel.put k rv) dd')
 ·subst ey eH
  cases (show u=Value.ref b from ry)
  obtain ⟨z,hd,xs,rel,dd⟩:=dt_of I.hok e
  have hz:xs.length<=sizeLine:=by rw [<- Paired.length rel]; exact z
  have hl:(putK kvs k v).length<=sizeLine:=by have:=zcy kvs k v; omega
  refine wpAny_setItem_heap (hsz:=hz) (tupleKind_room_in1 hu) (zcU I.hok eb) dd fun h' dd' hs=>h _ ?_
  obtain ⟨q,es,ep,hq,h2,h3,h4,_,h5⟩:=dd'
  refine zdJ I (by rw [e]; exact True.intro) hs ⟨q,hq⟩ ⟨hl,hd,_,(rel.put k eb rv).keeps fun c ys ec => ?_,q,es,ep,hq,h2,h3,h4,h5⟩
  rw [zal (zcG ec e (fun z=>nomatch z))]
  exact ec
end
section
variable {X:Cx} {pins:List (Addr×Obj)} {σ : St} {H:Hp} {s:Shared} {a:Addr} {kvs:List (Key×V)} {k:Key} {u:Value} {A:Around} {E:Value->Shared->Prop}
theorem d_pop {v:V} {more:List Value} {Q:Value->Shared->Prop} (I:Inv X pins σ H s) (e:H a=some (.dK kvs)) (ry:RelV (kV k) u) (l:valV kvs k=some v) (hm:more = []\/∃ x,more = [x])
  (h:∀ w' s',Inv X pins σ (upd H a (.dK (dropK kvs k))) s'->RelV v w'->Q w' s'):wpAny (model X.prog X.w) A (call (.builtin "dict.pop") (.ref a :: u :: more)) Q E s:=by
 obtain ⟨z,hd,vs,rel,dd⟩:=zff I.hok e
 obtain ⟨w',hw,rw'⟩:=RelO.some_of (v:=v) (o:=valueAt vs k) (by rw [<- l]; exact rel.val k)
 have hp:(keyPart u).isSome=true:=by
  cases k with
  | inl i=>obtain ⟨t,q⟩:=(show ∃ t,u=Value.int i t from ry); subst q; rfl
  | inr x=>obtain ⟨t,q⟩:=(show ∃ t,u=Value.str x t from ry); subst q; rfl
 have ha:argsOk "dict.pop" ⟨.ref a :: u :: more,[]⟩:=by
  rcases hm with q | ⟨x,q⟩
  ·subst q; exact PySem.F.args_dict_pop_2 _ _
  ·subst q; exact PySem.F.args_dict_pop_3 _ _ _
 refine call_meetsIn PySem.F.slot_dict_pop dd.typeIs PySem.F.entry_dict_pop ha (meets_dict_pop_there (mixKind X.prog X.w) a (zdD ry) more hm hp)
  ⟨vs,w',dd,by rw [<- rel.length]; exact z,hw,fun h' dd' hs=>h w' _ ?_ rw'⟩
 have he:∃ q,h'.get? a=some q:=let ⟨q,_,_,hq,_⟩:=dd'; ⟨q,hq⟩
 exact zdJ I (by rw [e]; exact True.intro) hs he (zeG (Nat.le_trans (dropK_le kvs k) z) hd (rel.drop k) dd')
theorem d_len {Q:Value->Shared->Prop} (I:Inv X pins σ H s) (e:Rd H a (.dK kvs)) (h:∀ t s',Inv X pins σ H s'->Q (.int kvs.length t) s'):wpAny (model X.prog X.w) A (call (.builtin "len") [.ref a]) Q E s:=by
 obtain ⟨z,hd,vs,rel,dd⟩:=zc5 I.hok e
 refine call_len_dict hd dd (by rw [<- rel.length]; rw [sizeLine_eq] at z; omega) ?_
 rw [<- rel.length]
 exact h _ _ (I.tok _)
end
noncomputable def NoSl (i:Expr):Prop:=∀ ov iv,subscripted i false ov iv=operate [ov,iv] (getItem ov iv)
theorem subD_of {prog:Program} {w:World} {A:Around} {E:Value->Shared->Prop} {s:Shared} {env:Env} {value slice:Expr} {pos:Pos} {T id:String} {Q:Value->Shared->Prop}
  (hl:typeLookup (.type T) "__getitem__" = pure (some (.builtin id))) (hs:NoSl slice)
  (h:wpAny (model prog w) A (eval value env) (fun o s₁ => wpAny (model prog w) A (eval slice env) (fun i s₂ => s₂.TypeIs o T/\wpAny (model prog w) A (getItem o i) Q E s₂) E s₁) E s) :
  wpAny (model prog w) A (eval (.Subscript value slice pos) env) Q E s:=by
 refine Subscript_ (wpAny_mono h (fun o s₁ h₁ => wpAny_mono h₁ (fun i s₂ h₂ => ?_) fun _ _ x=>x) fun _ _ x=>x)
 obtain ⟨hT,h₂⟩:=h₂
 unfold subscriptTail
 refine wpAny_bind ?_
 rw [getitemInPython_of_ne hT.not_modules]
 refine wpAny_bind (wpAny_specialOf hT hl ?_)
 have fin:wpAny (model prog w) A (subscripted slice false o i) (fun r s₃ => wpAny (model prog w) A (letTemporaryGo value o r >>= fun _=>pure r) Q E s₃) E s₂ := by
  rw [hs o i]
  exact wpAny_operating (wpAny_mono h₂ (fun r s₃ h₃ => wpAny_bind (wpAny_letTemporaryGo (wpAny_pure h₃))) fun _ _ x=>x)
 first
  | exact wpAny_pure (wpAny_bind fin)
  | exact wpAny_bind (wpAny_pure (wpAny_bind fin))
  | exact wpAny_bind fin
theorem dict_typeIs {X:Cx} {pins:List (Addr×Obj)} {σ : St} {H:Hp} {s:Shared} {a:Addr} {y:V} {o:Option V} (I:Inv X pins σ H s) (g:DGet H a y o):s.TypeIs (.ref a) "dict" := by
 rcases g with ⟨kvs,k,e,_,_⟩ | ⟨kvs,k,b,e,_,_,_⟩
 ·obtain ⟨_,_,vs,_,dd⟩:=zc5 I.hok e
  exact dd.typeIs
 ·obtain ⟨_,_,xs,_,dd⟩:=zdI I.hok e
  exact dd.typeIs
noncomputable def tDGet (td ty:TE):TE:=fun σ H Q=>td σ H fun x H1=>ty σ H1 fun y H2=>∃ a v,x = .ref a/\DGet H2 a y (some v)/\Q v H2
noncomputable def tDIn (ty td:TE):TE:=fun σ H Q=>ty σ H fun y H1=>td σ H1 fun x H2=>∃ a o,x = .ref a/\DGet H2 a y o/\Q (.bl o.isSome) H2
noncomputable def tDNotIn (ty td:TE):TE:=fun σ H Q=>ty σ H fun y H1=>td σ H1 fun x H2=>∃ a o,x = .ref a/\DGet H2 a y o/\Q (.bl (!o.isSome)) H2
noncomputable def sDPut (td ty tv:TE):TS:=fun D σ H=>tv σ H fun v H1=>td σ H1 fun x H2=>ty σ H2 fun y H3=>∃ a H4,x = .ref a/\DPut H3 a y v H4/\D.nx σ H4
section
variable {X:Cx} {o i e value:Expr} {pos pos' tpos:Pos} {td ty tv:TE}
theorem zbD (hu:X.A.units + 1 < cLine) (ho:PE X o td) (hi:PE X i ty) (hs:NoSl i):PE X (.Subscript o i pos) (tDGet td ty):=by
 intro pins s σ H Q I h
 refine subD_of PySem.F.slot_dict_getitem.lookup hs (thnE (ho pins s σ H _ I h) fun u s1 x H1 I1 rx q1=>thnE (hi pins s1 σ H1 _ I1 q1) fun iv s2 y H2 I2 ry ⟨a,v,ex,g,q2⟩ => ?_)
 subst ex
 obtain rfl:u=Value.ref a:=rx
 exact ⟨dict_typeIs I2 g,d_getItem hu I2 g ry fun w' s3 I3 rw'=>⟨v,H2,I3,rw',q2⟩⟩
theorem zeW (hu:X.A.units + 1 < cLine) (hi:PE X i ty) (ho:PE X o td):PC X .In i o (tDIn ty td):=by
 intro pins s σ H Q I h
 refine thnE (hi pins s σ H _ I h) fun iv s1 y H1 I1 ry q1=>thnE (ho pins s1 σ H1 _ I1 q1) fun u s2 x H2 I2 rx ⟨a,ov,ex,g,q2⟩ => ?_
 subst ex
 obtain rfl:u=Value.ref a:=rx
 exact d_in hu I2 g ry fun s3 I3=>⟨.bl ov.isSome,H2,I3,rfl,q2⟩
theorem zdg (hu:X.A.units + 1 < cLine) (hi:PE X i ty) (ho:PE X o td):PC X .NotIn i o (tDNotIn ty td):=by
 intro pins s σ H Q I h
 refine thnE (hi pins s σ H _ I h) fun iv s1 y H1 I1 ry q1=>thnE (ho pins s1 σ H1 _ I1 q1) fun u s2 x H2 I2 rx ⟨a,ov,ex,g,q2⟩ => ?_
 subst ex
 obtain rfl:u=Value.ref a:=rx
 exact d_notIn hu I2 g ry fun s3 I3=>⟨.bl (!ov.isSome),H2,I3,rfl,q2⟩
theorem zc1 (hu:X.A.units + 1 < cLine) (ho:PE X o td) (hi:PE X i ty) (hv:PE X value tv) (hs:swapsWith value (some (.Subscript o i pos')) pos.line X.env=pure false) :
  PS X (.Assign [.Subscript o i pos'] value pos) (sDPut td ty tv):=by
 intro pins s σ H D I h
 refine wpAny_Assign_Subscript (thnE (hv pins s σ H _ I h) fun r s1 v H1 I1 rv q1=>thnE (ho pins s1 σ H1 _ I1 q1) fun u s2 x H2 I2 rx q2=>thnE (hi pins s2 σ H2 _ I2 q2) fun iv s3 y H3 I3 ry ⟨a,H4,ex,g,q3⟩ => ?_) hs
 subst ex
 obtain rfl:u=Value.ref a:=rx
 exact d_setItem hu I3 g ry rv fun s4 I4=>⟨σ,H4,I4,q3⟩
end
theorem dk_empty {P:Program} {w:World} {H:Hp} (h:Heap) (hb:sysModules < h.objs.size):ObjOk P w H (h.push { cls := .type "dict",data := .dict #[] }) h.objs.size (.dK []) :=
 ⟨Nat.zero_le _,beq_eq_false_iff_ne.mpr (Ne.symm (Nat.ne_of_lt hb)),[],.nil,Heap.DictOf.new h⟩
noncomputable def tDNewK:TE:=fun _ H Q=>∀ p,H p=none->Q (.ref p) (upd H p (.dK []))
section
variable {X:Cx} {pos:Pos}
theorem zdX:PE X (.Dict [] [] pos) tDNewK:=fun pins s σ H Q I h =>
 wpAny_Dict_empty ⟨.ref s.heap.objs.size,_,I.laid (a:=s.heap.objs.size) (o := .dK []) (t':=s.toks) (fun _ _ q=>Heap.get?_push_of_some _ q) (Nat.le_refl _) (dk_empty s.heap I.big),rfl,h _ (I.hok.fresh (Nat.le_refl _))⟩
end
structure M1 (X:Cx) (o:Expr) (m:Str) (apos:Pos) (e:Expr) (cpos:Pos):Prop where
 base:attributeBase o m X.env (eval o X.env)=eval o X.env
 few:((backTo cpos (starEach [e] X.env)).all (fun x => !x.1) && (backToKw cpos (keywordEach [] X.env)).all (fun x=>x.1.isSome)
  && decide (([e]:List Expr).length + ([]:List Keyword).length + (if ([]:List Keyword).isEmpty then 0 else 1) < 30))=true
 line:(apos.endLine == cpos.line)=true
 trees:backTo cpos (starEach [e] X.env) = [(false,eval e X.env)]
structure M2 (X:Cx) (o:Expr) (m:Str) (apos:Pos) (e f:Expr) (cpos:Pos):Prop where
 base:attributeBase o m X.env (eval o X.env)=eval o X.env
 few:((backTo cpos (starEach [e,f] X.env)).all (fun x => !x.1) && (backToKw cpos (keywordEach [] X.env)).all (fun x=>x.1.isSome)
  && decide (([e,f]:List Expr).length + ([]:List Keyword).length + (if ([]:List Keyword).isEmpty then 0 else 1) < 30))=true
 line:(apos.endLine == cpos.line)=true
 trees:backTo cpos (starEach [e,f] X.env) = [(false,eval e X.env),(false,eval f X.env)]
noncomputable def IsD (H:Hp) (a:Addr):Prop:=(∃ kvs,Rd H a (.dK kvs))\/∃ kvs,Rd H a (.dT kvs)
theorem ze0 {X:Cx} {pins:List (Addr×Obj)} {σ : St} {H:Hp} {s:Shared} {a:Addr} (I:Inv X pins σ H s) (d:IsD H a) :
  s.TypeIs (.ref a) "dict" /\ (∀ b,Value.ref a = .ref b->∃ ob,s.heap.get? b=some ob/\ob.dict=none)/\(a == sysModules)=false:=by
 rcases d with ⟨kvs,e⟩ | ⟨kvs,e⟩
 ·obtain ⟨_,hd,vs,_,dd⟩:=zc5 I.hok e
  refine ⟨dd.typeIs,fun b q => ?_,hd⟩
  cases q
  obtain ⟨ob,_,_,h1,h2,_⟩:=dd
  exact ⟨ob,h1,h2.2.1⟩
 ·obtain ⟨_,hd,xs,_,dd⟩:=zdI I.hok e
  refine ⟨dd.typeIs,fun b q => ?_,hd⟩
  cases q
  obtain ⟨ob,_,_,h1,h2,_⟩:=dd
  exact ⟨ob,h1,h2.2.1⟩
section
variable {X:Cx} {pins:List (Addr×Obj)} {σ : St} {H:Hp} {s:Shared} {a:Addr} {y d:V} {u r:Value} {o:Option V} {A:Around} {E:Value->Shared->Prop}
theorem d_get2 {Q:Value->Shared->Prop} (hu:A.units + 1 < cLine) (I:Inv X pins σ H s) (g:DGet H a y o) (ry:RelV y u) (rd:RelV d r) (h:∀ w' s',Inv X pins σ H s'->RelV (o.getD d) w'->Q w' s') :
  wpAny (model X.prog X.w) A (call (.builtin "dict.get") [.ref a,u,r]) Q E s:=by
 rcases g with ⟨kvs,k,e,ey,l⟩ | ⟨kvs,k,b,e,ey,eb,l⟩
 ·subst ey
  obtain ⟨z,hd,vs,rel,dd⟩:=zc5 I.hok e
  refine call_meetsIn PySem.F.slot_dict_get dd.typeIs PySem.F.entry_dict_get (PySem.F.args_dict_get_3 _ _ _) (meets_dict_get_default (mixKind X.prog X.w) a (zdD ry) hd r) ⟨_,dd.mapOf,h _ _ (I.tok _) ?_⟩
  rw [l]
  exact (rel.val k).getD rd
 ·subst ey
  cases (show u=Value.ref b from ry)
  obtain ⟨z,hd,xs,rel,dd⟩:=zdI I.hok e
  refine call_meetsIn PySem.F.slot_dict_get dd.typeIs PySem.F.entry_dict_get (PySem.F.args_dict_get_3 _ _ _) (meetsH_dict_get_default (tupleKind (mixKind X.prog X.w)) a b hd r) ⟨tupleKind_room_in1 hu,k,xs,zcU I.hok eb,dd,h _ _ (I.tok _) ?_⟩
  rw [l]
  exact (rel.val k).getD rd
end
noncomputable def tDGet2 (td ty tx:TE):TE:=fun σ H Q=>td σ H fun x H1=>∃ a,x = .ref a/\IsD H1 a/\ty σ H1 fun y H2=>tx σ H2 fun z H3=>∃ o,DGet H3 a y o/\Q (o.getD z) H3
noncomputable def tDPop1 (td ty:TE):TE:=fun σ H Q=>td σ H fun x H1=>∃ a,x = .ref a/\IsD H1 a/\ty σ H1 fun y H2=>∃ kvs k v,H2 a=some (.dK kvs)/\y=kV k/\valV kvs k=some v/\Q v (upd H2 a (.dK (dropK kvs k)))
section
variable {X:Cx} {o e f:Expr} {apos cpos:Pos} {td ty tx:TE}
theorem zdY (hu:X.A.units + 1 < cLine) (ho:PE X o td) (he:PE X e ty) (hf:PE X f tx) (m:M2 X o "get" apos e f cpos):PE X (.Call (.Attribute o "get" apos) [e,f] [] cpos) (tDGet2 td ty tx):=by
 intro pins s σ H Q I h
 refine wpAny_Call_method m.base m.few m.line PySem.F.plainAttrs_dict PySem.F.slot_dict_get PySem.F.type_dict_get (thnE (ho pins s σ H _ I h) fun u s1 x H1 I1 rx ⟨a,ex,d,q1⟩ => ?_)
 subst ex
 obtain rfl:u=Value.ref a:=rx
 obtain ⟨t1,t2,_⟩:=ze0 I1 d
 refine ⟨t1,t2,?_⟩
 rw [m.trees]
 refine Calls.callWith_builtin rfl (Calls.evalArgs_plain (Calls.spliced_cons (thnE (he pins s1 σ H1 _ I1 q1) fun iv s2 y H2 I2 ry q2 =>
  Calls.spliced_cons (thnE (hf pins s2 σ H2 _ I2 q2) fun fv s3 z H3 I3 rz ⟨ov,g,q3⟩=>Calls.spliced_nil ?_))))
 exact d_get2 hu I3 g ry rz fun w' s4 I4 rw'=>⟨_,H3,I4,rw',q3⟩
theorem zdW (ho:PE X o td) (he:PE X e ty) (m:M1 X o "pop" apos e cpos):PE X (.Call (.Attribute o "pop" apos) [e] [] cpos) (tDPop1 td ty):=by
 intro pins s σ H Q I h
 refine wpAny_Call_method m.base m.few m.line PySem.F.plainAttrs_dict PySem.F.slot_dict_pop PySem.F.type_dict_pop (thnE (ho pins s σ H _ I h) fun u s1 x H1 I1 rx ⟨a,ex,d,q1⟩ => ?_)
 subst ex
 obtain rfl:u=Value.ref a:=rx
 obtain ⟨t1,t2,_⟩:=ze0 I1 d
 refine ⟨t1,t2,?_⟩
 rw [m.trees]
 refine Calls.callWith_builtin rfl (Calls.evalArgs_plain (Calls.spliced_cons (thnE (he pins s1 σ H1 _ I1 q1) fun iv s2 y H2 I2 ry ⟨kvs,k,v,ea,ey,l,q2⟩=>Calls.spliced_nil ?_)))
 subst ey
 exact d_pop I2 ea ry l (.inl rfl) fun w' s3 I3 rw'=>⟨v,_,I3,rw',q2⟩
end
section
variable {X:Cx} {pins:List (Addr×Obj)} {σ : St} {H:Hp} {s:Shared} {a:Addr} {kvs:List (Key×V)} {A:Around} {E:Value->Shared->Prop}
theorem d_copyOf {Q:Value->Shared->Prop} (I:Inv X pins σ H s) (e:Rd H a (.dK kvs)) (h:∀ p s',H p=none->Inv X pins σ (upd H p (.dK kvs)) s'->Q (.ref p) s'):wpAny (model X.prog X.w) A (call (.type "dict") [.ref a]) Q E s:=by
 obtain ⟨z,hd,vs,rel,dd⟩:=zc5 I.hok e
 refine kt_call_dict hd dd (by rw [<- rel.length]; exact z) fun h' dd' hs => ?_
 refine h _ _ (I.hok.fresh (Nat.le_refl _)) (I.laid (a:=s.heap.objs.size) (o := .dK kvs) (t':=s.toks) (fun b q hq => ?_) (Nat.le_refl _) (zeG z (beq_eq_false_iff_ne.mpr (Ne.symm (Nat.ne_of_lt I.big))) rel dd'))
 exact (hs.2 b (Nat.ne_of_lt (Heap.lt_size hq))).trans (Heap.get?_push_of_some _ hq)
end
section
variable {X:Cx} {pins:List (Addr×Obj)} {σ : St} {H:Hp} {s:Shared} {a:Addr} {y:V} {u:Value} {A:Around} {E:Value->Shared->Prop}
end
end L2
namespace Att
open PySem PySem.W PySem.Calls PyProof.Rows
theorem ints_of_wellAll {P:Params} {h:Heap}:∀ (ns:List Int) (vs:List Value),WellAll P h vs (ns.map WData.int)->IntsAre vs ns:=by
 intro ns
 induction ns with
 | nil =>
  intro vs w
  rw [List.map_nil] at w
  cases w
  exact .nil
 | cons n ns ih =>
  intro vs w
  rw [List.map_cons] at w
  cases w with
  | cons a b =>
   cases a
   exact .cons _ _ (ih _ b)
theorem script_of {l:OpenLaw} {n:Nat} (hn:l.most=some n) {P:Params} {h:Heap} {args:List WData} {vals:List Value}
  (hpre:l.row.toRowW.claim.pre args=true) (hwl:WellAll P h vals args) :
  ∃ a vs ns,vals = [Value.ref a]/\args = [WData.list (ns.map WData.int)]/\h.get? a=some { cls := .type "list",data := .seq vs.toArray }/\IntsAre vs ns/\ns.length<=n:=by
 have hsh:WShape.hasAll [] args [.list .int]=true:=(pre_splitW hpre).1
 have hc:l.pre.holds [] { args:=args }=true:=(pre_splitW hpre).2
 obtain ⟨d,r,rfl,h1,h2⟩:=hasAllW_cons hsh
 obtain rfl:=hasAllW_nil h2
 obtain ⟨xs,rfl,h3⟩:=hasW_list h1
 obtain ⟨ns,rfl⟩:=items_int h3
 have hlen:ns.length<=n:=by
  unfold OpenLaw.pre at hc
  have h4:(WTm.not (.lt (.lit (.int (n:Int))) (.len (.arg 0)))).holds [] { args := [.list (ns.map .int)] }=true:=by
   have h4:=(holds_andW hc).1
   rw [hn] at h4
   exact h4
  have h5:=condW_of h4 (w_not (w_lt w_lit (w_len_list (w_arg rfl))))
  rw [List.length_map] at h5
  refine Nat.le_of_not_lt fun q => ?_
  have q':(n:Int) < ((ns.length:Nat):Int):=by omega
  first
   | (rw [decide_eq_true q'] at h5; exact absurd h5 (by decide))
   | (simp at h5; omega)
 cases hwl with
 | cons w1 w2 =>
  cases w2
  cases w1 with
  | list ho hall=>exact ⟨_,_,ns,rfl,rfl,ho,ints_of_wellAll ns _ hall,hlen⟩
theorem post_true (l:OpenLaw) (args:List WData):l.row.toRowW.claim.post args (.bool true) args=true :=
 postW_of (r:=l.row.toRowW) (X:=(true == true))
  (show WShape.has [] (.bool true) .bool=true by first | rfl | decide | simp [WShape.has,WShape.arms,WShape.armsAll])
  (show (WTm.eq .res (.lit (.bool true))).value [] { args:=args,res:=some (.bool true),after:=args }=some (.bool (true == true)) from w_eq_bool (w_res rfl) w_lit) rfl
theorem attach_call {l:OpenLaw} {n:Nat} {q:Program} {loose:List Str} {XP:(Str->Option Value)->Heap->Prop} {YP:World->Heap->Prop} {d:DefRec}
  (hn:l.most=some n) (hdf:d.params.defaults = [])
  (call:∀ (w:World) (s₀ s₁ : Shared) (mg mb:Str->Option Value) (fa:Addr) (o:Obj) (pm cd doc:Value) (a:Addr) (vs:List Value) (ns:List Int),
   Ground q loose [] XP w s₀ mg mb s₁.heap->YP w s₁.heap ->
   s₁.heap.get? fa=some o->o.data = .func (docDef d.name d.params d.body d.scope pm cd doc)->s₁.heap.CodeRec cd d.name->mg d.name=some (.ref fa) ->
   s₁.heap.get? a=some { cls := .type "list",data := .seq vs.toArray }->IntsAre vs ns->ns.length<=n->s₁.gens = #[] ->
   codeAny (model l.prog w) callerA (.call (.ref fa) ⟨[.ref a],[]⟩) (fun r s'=>r = .ok (.ret (.bool true))/\OldK s₁.heap s'.heap/\s'.os=s₁.os/\AllBare s'.gens) s₁) :
  WalkO q loose XP YP l.row.toRowW d [] (fun f vs=>PySem.call f vs):=by
 intro w s₀ s₁ mg mb G Y fa o pm cd doc dV kV ho hd hcd hD hmg hg args vals as hpre hlay hrd hwl hlo
 obtain rfl:dV = .none:=Dflts.none hD hdf
 obtain rfl:kV = .none:=Dflts.noKw hD
 obtain ⟨a,vs,ns,rfl,rfl,hobj,hints,hlen⟩:=script_of hn hpre hwl
 refine enter_call (codeAny_mono (call w s₀ s₁ mg mb fa o pm cd doc a vs ns G Y ho (fd_plain hd) hcd hmg hobj hints hlen hg) fun r s' hq => ?_)
 obtain ⟨rfl,h2,h3,h4⟩:=hq
 exact ⟨.inl ⟨.bool true,.bool true,[],rfl,fun _=>rfl,.bool true,post_true l _,fun _=>⟨List.Pairwise.nil,fun _ hm=>(nomatch hm)⟩⟩,h2,h3,h4⟩
section
variable {prog:Program} {w:World} {A:Around} {E:Value->Shared->Prop} {s:Shared} {K:Frag}
noncomputable def ledger (h:Heap) (L d:Addr):List (Addr×Obj):=(List.range h.objs.size).filterMap fun a=>if a=L\/a=d then none else (h.get? a).map fun o=>(a,o)
end
end Att
namespace L2
open PySem PySem.Spec PyProof.Rows
theorem zco:∀ {vs:List Value} {ns:List Int},IntsAre vs ns->Vals (ns.map V.int) vs
 | _,_,.nil => .nil
 | _,_,.cons n t h => .cons ⟨t,rfl⟩ (zco h)
noncomputable def Only (H:Hp):Prop:=∀ b,H b=none\/∃ o xs,H b=some (.frz o (.lst xs))
theorem law_call {P:Program} {w:World} {K:W.Frag} {mg mb:Str->Option Value} {CX:CXT} {k:Nat} {fa a:Addr} {fd:FuncData} {x:Str} {sp:Sp} {s₁ : Shared} {vs:List Value} {ns:List Int}
  (KX:K.In s₁.heap) (hns:s₁.heap.Ns mainGlobals mg) (hb:s₁.heap.Ns builtinsNs mb) (hbb:∀ x:Str,x ≠ "__name__" -> mb x=bootBuiltins x) (hlim:s₁.heap.NoLimit) (hg:s₁.gens = #[])
  (ha:s₁.heap.get? a=some { cls := .type "list",data := .seq vs.toArray }) (hi:IntsAre vs ns) (hl:ns.length<=sizeLine) (hr:Room k callerA)
  (F:∀ base:Heap,K.In base->base.Ns mainGlobals mg->FnOk P w K mg base CX k fa fd [x] sp) (hbind:∀ (s:Shared) (u:Value),BindsTo s fd ⟨[u],[]⟩ [(x,u)])
  (hsp:∀ H:Hp,Only H->SqL K H a (ns.map V.int)->sp [.ref a] H (fun v _=>v = .bl true) fun _ _ _=>False)
  (hCX:∀ H e s',CX [] H s₁ (fun _ _ _=>False) e s'->False) :
  codeAny (model P w) callerA (.call (.ref fa) ⟨[.ref a],[]⟩) (fun r s'=>r = .ok (.ret (.bool true))/\OldK s₁.heap s'.heap/\s'.os=s₁.os/\AllBare s'.gens) s₁ := by
 have rv:=zco hi
 have lenV:=hi.length
 have core:∀ H:Hp,Only H->SqL K H a (ns.map V.int)->HOk P w H s₁.heap->(∀ b,H b≠none->b=a)->(H a≠none->K.lookup a=none) ->
   codeAny (model P w) callerA (.call (.ref fa) ⟨[.ref a],[]⟩) (fun r s'=>r = .ok (.ret (.bool true))/\OldK s₁.heap s'.heap/\s'.os=s₁.os/\AllBare s'.gens) s₁ := by
  intro H hO hS hok hA hK
  have base_of:∀ {b:Addr} {o:Obj},s₁.heap.get? b=some o->H b=none->(hidT s₁.heap H).get? b=some o:=fun e n=>hidT_get e n
  have noA:∀ {b:Addr} {o:Obj} {es:Array DictEntry} {ep:Nat},s₁.heap.get? b=some o->o.data = .dict es ep->H b=none:=fun {b o es ep} e d=>by
   cases q:H b with
   | none=>rfl
   | some u =>
    have e':b=a:=hA b (by rw [q]; simp)
    subst e'
    rw [ha] at e; cases e
    have d':Data.seq vs.toArray _=Data.dict es ep:=d
    cases d'
  have nsK:∀ {b:Addr} {m:Str->Option Value},s₁.heap.Ns b m->(hidT s₁.heap H).Ns b m:=fun {b m} ⟨o,es,ep,e,d,r⟩=>⟨o,es,ep,base_of e (noA e d),d,r⟩
  have hKb:K.In (hidT s₁.heap H):=fun b o e=>base_of (KX b o e) (by
   cases q:H b with
   | none=>rfl
   | some u =>
    have e':b=a:=hA b (by rw [q]; simp)
    subst e'
    rw [hK (by rw [q]; simp)] at e; cases e)
  have hM:Mod K mg (hidT s₁.heap H):=⟨hKb,nsK hns,⟨mb,nsK hb,hbb⟩,let ⟨mc,h1,h2⟩:=hlim; ⟨mc,nsK h1,h2⟩⟩
  have e0:Env0 P w K mg (hidT s₁.heap H) callerA [] s₁ H:=⟨rfl,hM,fun b o e=>of_hidT e,Nat.le_of_eq (hidT_size _ _),trivial,fun b hb=>absurd (show b∈([]:List Addr) from hb) (by simp),hok,.of_eq hg⟩
  refine codeAny_mono ((F _ hKb (nsK hns)).run callerA [] s₁ H ⟨[.ref a],[]⟩ [.ref a] [.ref a] _ _ hr e0 (hbind s₁ (.ref a)) (.cons rfl .nil) (hsp H hO hS)) fun r s' h => ?_
  cases r with
  | error e=>exact (hCX H e s' h).elim
  | ok fl =>
   cases fl with
   | next=>exact False.elim h
   | brk=>exact False.elim h
   | cont=>exact False.elim h
   | ret u =>
    obtain ⟨v,H',os,bare,un,hok',r',q⟩:=h
    have q':v = .bl true:=q
    subst q'
    obtain rfl:u=Value.bool true:=r'
    refine ⟨rfl,OldK.of_keep fun b o e => ?_,os,bare⟩
    cases q:H b with
    | none=>exact un.keep b o e q (by intro z; exact absurd (show b∈([]:List Addr) from z) (by simp)) (by simp)
    | some u =>
     rcases hO b with z | ⟨ob,xs,z⟩
     ·rw [q] at z; cases z
     ·have z2:=un.frzs b ob _ z
      obtain ⟨e1,_⟩:=hok b _ z
      obtain ⟨e2,_⟩:=hok' b _ z2
      rw [e] at e1; cases e1
      exact e2
 cases hk:K.lookup a with
 | some o =>
  have e:=KX a o hk
  rw [ha] at e
  cases e
  refine core (fun _=>none) (fun _ => .inl rfl) (.inr ⟨_,vs.toArray,_,hk,rfl,rfl,rfl,by rw [List.size_toArray,lenV]; exact hl,by simpa using rv⟩) (fun b u z=>by have z':(none:Option HO)=some u:=z; cases z') (fun b z=>absurd rfl z) fun z=>absurd rfl z
 | none =>
  refine core (fun b=>if b=a then some (.frz { cls := .type "list",data := .seq vs.toArray } (.lst (ns.map V.int))) else none) (fun b => ?_) (.inl (.inr ⟨{ cls := .type "list",data := .seq vs.toArray },if_pos rfl⟩)) (fun b u z => ?_) (fun b z => ?_) fun _=>hk
  ·by_cases hb:b=a
   ·exact .inr ⟨_,_,if_pos hb⟩
   ·exact .inl (if_neg hb)
  ·by_cases hb:b=a
   ·have z':=(if_pos hb).symm.trans z
    cases z'
    subst hb
    exact ⟨ha,by rw [List.length_map]; exact hl,vs,_,rv,ha⟩
   ·have z':=(if_neg hb).symm.trans z
    cases z'
  ·by_cases hb:b=a
   ·exact hb
   ·exact absurd (if_neg hb) z
theorem walk_of {l:PySem.W.OpenLaw} {n k:Nat} {q:Program} {loose:List Str} {XP:(Str->Option Value)->Heap->Prop} {YP:World->Heap->Prop} {d:DefRec} {K:Params->W.Frag} {CX:World->CXT} {sp:World->Sp} {x:Str}
  (hn:l.most=some n) (hn2:n<=sizeLine) (hdf:d.params.defaults = []) (hr:Room k callerA)
  (hY:∀ (w:World) (h:Heap),YP w h->(K w.params).In h)
  (F:∀ (w:World) (mg:Str->Option Value) (fa:Addr) (h:Heap),(K w.params).In h->h.Ns mainGlobals mg->mg d.name=some (.ref fa) ->
   ∃ fd:FuncData,(∀ (s:Shared) (u:Value),BindsTo s fd ⟨[u],[]⟩ [(x,u)]) /\
    ∀ base:Heap,(K w.params).In base->base.Ns mainGlobals mg->FnOk l.prog w (K w.params) mg base (CX w) k fa fd [x] (sp w))
  (hsp:∀ (w:World) (H:Hp) (a:Addr) (ns:List Int),ns.length<=n->Only H->SqL (K w.params) H a (ns.map V.int)->sp w [.ref a] H (fun v _=>v = .bl true) fun _ _ _=>False)
  (hCX:∀ (w:World) (H:Hp) (s:Shared) (e:Value) (s':Shared),CX w [] H s (fun _ _ _=>False) e s'->False) :
  PySem.W.WalkO q loose XP YP l.row.toRowW d [] (fun f vs=>PySem.call f vs):=by
 refine Att.attach_call hn hdf fun w s₀ s₁ mg mb fa o pm cd doc a vs ns G Y ho hd hcd hmg hobj hints hlen hg => ?_
 have KX:=hY w _ Y
 obtain ⟨fd,hb,hF⟩:=F w mg fa _ KX G.T.g hmg
 exact law_call KX G.T.g G.T.b G.T.builtins G.T.nolimit hg hobj hints (Nat.le_trans hlen hn2) hr hF hb (fun H hO hS=>hsp w H a ns hlen hO hS) fun H e s'=>hCX w H s₁ e s'
noncomputable def inClass (s:Stmt) (j:Nat):Stmt:=match s with
 | .ClassDef _ _ _ body _ _ _ _ _ _ _=>body.getD j (.Pass ⟨0,0,0,0⟩)
 | _ => .Pass ⟨0,0,0,0⟩
noncomputable def defArgs (s:Stmt):Arguments:=match s with
 | .FunctionDef _ a _ _ _ _ _ _ _ _=>a
 | _=>{ posonlyargs := [],args := [],vararg:=none,kwonlyargs := [],kw_defaults := [],kwarg:=none,defaults := [] }
noncomputable def defBody (s:Stmt):List Stmt:=match s with
 | .FunctionDef _ _ b _ _ _ _ _ _ _=>b
 | _ => []
noncomputable def defScope (s:Stmt):Scope:=match s with
 | .FunctionDef _ _ _ _ _ _ sc _ _ _=>sc
 | _=>{ kind := .function,names := [],isGenerator:=false,isCoroutine:=false }
noncomputable abbrev CX0:CXT:=fun _ _ _ _ _ _=>False
noncomputable abbrev E0:XK:=fun _ _ _=>False
theorem zba {X:Cx}:Passes CX0 X E0:=fun _ _ _ _ _ _ _ h=>h.elim
structure Fun (K:W.Frag) (x qual:Str) (st:Stmt) (f:Addr) (fd:FuncData):Prop where
 ex:∃ (oc:Value) (od:Option Addr) (kV doc pm:Value) (an:Option Addr) (cdv ct:Value) (osl:Array (Option Value)),
  fd=PySem.W.fnOf x qual (defArgs st) (defBody st) (defScope st) .none kV doc pm an cdv ct/\K.lookup f=some ⟨oc,od,.func fd,osl⟩/\PySem.W.codeIn K cdv qual=true
 kp:PySem.W.keepIn K (.ref f)=true
section
variable {P:Program} {w:World} {K:W.Frag} {mg:Str->Option Value} {base:Heap}
theorem Fun.ok {x qual:Str} {st:Stmt} {f:Addr} {fd:FuncData} {N ps:List Str} {k:Nat} {sp:Sp} (F:Fun K x qual st f fd) (S:FnScope N ps (defScope st)) (len:∀ vs H Q E,sp vs H Q E->vs.length=ps.length)
  (hbody:∀ (cdv:Value) (A:Around) (outer:List Env) (s:Shared) (H:Hp) (vs:List V) (Q:VK) (E:XK),Room k (A.deeper (envOfC qual (defScope st) s.heap.objs.size f cdv))->sp vs H Q E ->
   ∃ t,PSs (cxOf CX0 P w K mg base N qual (defScope st) f cdv A outer s H E).nox (defBody st) t/\t { nx:=fun _ H'=>Q .non H',rt:=Q } (start N vs) H):FnOk P w K mg base CX0 (k + 1) f fd ps sp:=by
 obtain ⟨oc,od,kV,doc,pm,an,cdv,ct,osl,rfl,lk,hcd⟩:=F.ex
 refine zfe lk hcd S len fun A outer s H vs Q E hr hsp => ?_
 obtain ⟨t,h,q⟩:=hbody cdv A outer s H vs Q E hr hsp
 exact ⟨t,h.nox,q⟩
theorem Fun.binds {x qual:Str} {st:Stmt} {f:Addr} {fd:FuncData} {ps:List Str} (F:Fun K x qual st f fd)
  (h:∀ (kV doc pm:Value) (an:Option Addr) (cdv ct:Value) (us:List Value),us.length=ps.length->bindArgs (PySem.W.fnOf x qual (defArgs st) (defBody st) (defScope st) .none kV doc pm an cdv ct) ⟨us,[]⟩=pure (ps.zip us)):Binds K fd ps []:=by
 obtain ⟨oc,od,kV,doc,pm,an,cdv,ct,osl,rfl,lk,hcd⟩:=F.ex
 exact .all (h kV doc pm an cdv ct)
theorem zeC {x qual:Str} {st:Stmt} {f:Addr} {oc:Value} {od an:Option Addr} {osl:Array (Option Value)} {kV doc pm cdv ct:Value} (l:K.lookup f=some ⟨oc,od,.func (PySem.W.fnOf x qual (defArgs st) (defBody st) (defScope st) .none kV doc pm an cdv ct),osl⟩)
  (c:PySem.W.codeIn K cdv qual=true) (k:PySem.W.keepIn K (.ref f)=true):Fun K x qual st f (PySem.W.fnOf x qual (defArgs st) (defBody st) (defScope st) .none kV doc pm an cdv ct):=⟨⟨oc,od,kV,doc,pm,an,cdv,ct,osl,rfl,l,c⟩,k⟩
end
theorem zb7 {A:Around} {k:Nat} (hr:Room k A):A.units + 1 < cLine:=Nat.lt_of_le_of_lt (Nat.add_le_add_left (by decide:1<=64) _) hr.units
section
variable {X:Cx}
theorem pv (i:Nat) {x:Str} {pos:Pos} (hN:X.N[i]?=some x:=by rfl) (hv:Vis X.env.scope x:=by first | exact Or.inl rfl | exact Or.inr (Or.inl rfl) | exact Or.inr (Or.inr rfl)) (hd:(x == ("__debug__" : Str))=false:=by decide)
  (hcd:(x == ("__classdict__" : Str))=false:=by decide):PE X (.Name x pos) (tVar i):=pe_var hN hv hd hcd
theorem zdt:CallR X (.builtin "len") (fun xs H Q=>∃ a kvs,xs = [V.ref a]/\H a=some (.dK kvs)/\Q (.int kvs.length) H):=by
 intro pins s σ H xs us Q I r h
 obtain ⟨a,kvs,rfl,ha,q⟩:=h
 obtain ⟨u,rfl,ru⟩:=zce r
 cases ru
 exact d_len I (.inl ha) fun t s' I'=>⟨.int kvs.length,H,I',⟨t,rfl⟩,q⟩
end
theorem iteF {A B:Prop} (h:B):if false=true then A else B:=by
 rw [if_neg Bool.false_ne_true]
 exact h
theorem iteT {A B:Prop} (h:A):if true=true then A else B:=by
 rw [if_pos rfl]
 exact h
theorem ite2 {c A B:Prop} [Decidable c] (h1:c->A) (h2:¬ c->B):if c then A else B:=by
 by_cases h:c
 ·rw [if_pos h]
  exact h1 h
 ·rw [if_neg h]
  exact h2 h
noncomputable def Same (H H':Hp):Prop:=∀ b o,H b=some o->H' b=some o
theorem Same.refl (H:Hp):Same H H:=fun _ _ h=>h
theorem Same.trans {H H1 H2:Hp} (a:Same H H1) (b:Same H1 H2):Same H H2:=fun c o h=>b c o (a c o h)
theorem Same.free {H H':Hp} (e:Same H H') {l:Addr} (h:H' l=Option.none):H l=Option.none:=by
 cases q:H l with
 | none=>rfl
 | some o =>
  rw [e l o q] at h
  cases h
theorem Same.seq {K:W.Frag} {H H':Hp} {a:Addr} {xs:List V} (e:Same H H') (h:SqL K H a xs):SqL K H' a xs:=by
 rcases h with (h | ⟨o,h⟩) | h
 ·exact .inl (.inl (e _ _ h))
 ·exact .inl (.inr ⟨o,e _ _ h⟩)
 ·exact .inr h
section
variable {κ : Type} [DecidableEq κ]
theorem zdC:∀ {l:List κ} {k : κ},l.Nodup->¬ k∈l->(l ++ [k]).Nodup
 | [],k,_,_=>by simp
 | a :: r,k,h,hk=>by
  obtain ⟨h1,h2⟩:=List.nodup_cons.mp h
  show (a :: (r ++ [k])).Nodup
  refine List.nodup_cons.mpr ⟨fun m => ?_,zdC h2 fun m=>hk (List.mem_cons.mpr (Or.inr m))⟩
  rcases List.mem_append.mp m with q | q
  ·exact h1 q
  ·exact hk (List.mem_cons.mpr (Or.inl (List.mem_singleton.mp q).symm))
theorem dropK_pos {p : κ × V} {r:List (κ × V)} {k : κ} (e:p.1=k):dropK (p :: r) k=dropK r k:=by
 unfold dropK
 rw [List.filter_cons,if_neg (by simp [e])]
theorem dropK_neg {p : κ × V} {r:List (κ × V)} {k : κ} (e:¬ p.1=k):dropK (p :: r) k=p :: dropK r k:=by
 unfold dropK
 rw [List.filter_cons,if_pos (by simp [e])]
end
theorem zcv {κ β : Type} [BEq κ] [LawfulBEq κ] {k : κ} {v : β}:∀ {l:List (κ × β)},l.lookup k=some v->(k,v)∈l
 | [],h=>by simp at h
 | (a,b) :: r,h=>by
  rw [List.lookup_cons] at h
  cases e:k == a with
  | true =>
   rw [e] at h
   simp at h
   rw [eq_of_beq e,h]
   exact List.mem_cons_self
  | false =>
   rw [e] at h
   exact List.mem_cons_of_mem _ (zcv h)
theorem zdk {κ β : Type} [BEq κ] [LawfulBEq κ] {k : κ} {v : β}:∀ {l:List (κ × β)},(k,v)∈l->∃ w,l.lookup k=some w
 | [],h=>by simp at h
 | (a,b) :: r,h=>by
  rw [List.lookup_cons]
  cases e:k == a with
  | true=>exact ⟨b,rfl⟩
  | false =>
   rcases List.mem_cons.mp h with h | h
   ·injection h with h1 h2
    rw [h1] at e
    simp at e
   ·exact zdk h
theorem closure_ok {env:Env} {scope:Scope} (h:∀ x∈scope.names,x.2 = .free->∃ c,env.cells.lookup x.1=some c) :
  ∃ cl,closureFor scope env=pure cl/\(∀ x c,(x,c)∈cl->(x,NameKind.free)∈scope.names/\env.cells.lookup x=some c)/\∀ x,(x,NameKind.free)∈scope.names->∃ c,(x,c)∈cl:=by
 have all:∀ (names:List (Str×NameKind)) (acc:List (Str×Addr)),(∀ x∈names,x.2 = .free->∃ c,env.cells.lookup x.1=some c) ->
   ∃ cl:List (Str×Addr),(forIn names acc fun (x:Str×NameKind) (r:List (Str×Addr))=>(if (x.2 == NameKind.free)=true then do let c <- cellOf env x.1; pure (ForInStep.yield ((x.1,c) :: r)) else pure (ForInStep.yield r):Sem (ForInStep (List (Str×Addr)))))=pure cl /\
    (∀ x c,(x,c)∈cl->(x,c)∈acc\/((x,NameKind.free)∈names/\env.cells.lookup x=some c))/\(∀ p∈acc,p∈cl)/\∀ x,(x,NameKind.free)∈names->∃ c,(x,c)∈cl:=by
  intro names
  induction names with
  | nil=>intro acc _; exact ⟨acc,rfl,fun x c h => .inl h,fun p h=>h,fun x h=>by simp at h⟩
  | cons y r ih =>
   intro acc hy
   obtain ⟨n,k⟩:=y
   by_cases hk:k = .free
   ·subst hk
    obtain ⟨c,hc⟩:=hy (n,.free) List.mem_cons_self rfl
    obtain ⟨cl,e,h1,h2,h3⟩:=ih ((n,c) :: acc) fun x hx=>hy x (List.mem_cons_of_mem _ hx)
    refine ⟨cl,?_,fun x d hd => ?_,fun p hp=>h2 p (List.mem_cons_of_mem _ hp),fun x hx => ?_⟩
    ·rw [List.forIn_cons]
     have hcell:cellOf env n=pure c:=by unfold cellOf; rw [hc]
     simp only [beq_self_eq_true,if_true,hcell,pure_bind]
     exact e
    ·rcases h1 x d hd with q | ⟨q1,q2⟩
     ·rcases List.mem_cons.mp q with q | q
      ·injection q with q1 q2
       subst q1 q2
       exact .inr ⟨List.mem_cons_self,hc⟩
      ·exact .inl q
     ·exact .inr ⟨List.mem_cons_of_mem _ q1,q2⟩
    ·rcases List.mem_cons.mp hx with q | q
     ·injection q with q1 _
      subst q1
      exact ⟨c,h2 _ List.mem_cons_self⟩
     ·exact h3 x q
   ·obtain ⟨cl,e,h1,h2,h3⟩:=ih acc fun x hx=>hy x (List.mem_cons_of_mem _ hx)
    refine ⟨cl,?_,fun x d hd=>(h1 x d hd).imp id fun q=>⟨List.mem_cons_of_mem _ q.1,q.2⟩,h2,fun x hx => ?_⟩
    ·rw [List.forIn_cons]
     have hb:(k == NameKind.free)=false:=by simpa using hk
     simp only [hb,Bool.false_eq_true,if_false,pure_bind]
     exact e
    ·rcases List.mem_cons.mp hx with q | q
     ·injection q with _ q2
      exact absurd q2.symm hk
     ·exact h3 x q
 obtain ⟨cl,e,h1,_,h3⟩:=all scope.names [] h
 refine ⟨cl,?_,fun x c q=>(h1 x c q).resolve_left (by simp),h3⟩
 show ((forIn scope.names ([]:List (Str×Addr)) fun (x:Str×NameKind) (r:List (Str×Addr))=>(if (x.2 == NameKind.free)=true then do let c <- cellOf env x.1; pure (ForInStep.yield ((x.1,c) :: r)) else pure (ForInStep.yield r):Sem (ForInStep (List (Str×Addr))))) >>= fun r=>pure r)=pure cl
 rw [e]
 rfl
theorem za9 {env:Env}:∀ {names:List (Str×NameKind)} {x:Str},names.lookup x=some .free ->
  (names.map fun (n,k)=>if (k == NameKind.free && env.scope.kind == .function && env.kindOf n == some .cell) then (n,NameKind.cell) else (n,k)).lookup x=some .cell \/
  (names.map fun (n,k)=>if (k == NameKind.free && env.scope.kind == .function && env.kindOf n == some .cell) then (n,NameKind.cell) else (n,k)).lookup x=some .free
 | [],_,h=>by simp at h
 | (n,k) :: r,x,h=>by
  have ih := @za9 env r x
  show List.lookup x ((if (k == NameKind.free && env.scope.kind == .function && env.kindOf n == some .cell)=true then (n,NameKind.cell) else (n,k)) :: _)=_\/List.lookup x ((if (k == NameKind.free && env.scope.kind == .function && env.kindOf n == some .cell)=true then (n,NameKind.cell) else (n,k)) :: _)=_
  cases hx:x == n with
  | true =>
   simp only [List.lookup_cons,hx] at h
   cases h
   by_cases hc:(NameKind.free == NameKind.free && env.scope.kind == .function && env.kindOf n == some .cell)=true
   ·rw [if_pos hc]; simp only [List.lookup_cons,hx]; exact .inl trivial
   ·rw [if_neg hc]; simp only [List.lookup_cons,hx]; exact .inr trivial
  | false =>
   simp only [List.lookup_cons,hx] at h
   by_cases hc:(k == NameKind.free && env.scope.kind == .function && env.kindOf n == some .cell)=true
   ·rw [if_pos hc]; simp only [List.lookup_cons,hx]; exact ih h
   ·rw [if_neg hc]; simp only [List.lookup_cons,hx]; exact ih h
noncomputable def cxComp (X:Cx) (scope:Scope) (N:List Str) (cl:List (Str×Addr)) (C:Addr) (s:Shared) (H:Hp) (fp:List Addr) (pn:List (Addr×Obj)):Cx :=
 { X with N:=N,s₀ := s,H₀ := H,env:=compEnvC scope cl C X.env,outer:=X.stack,stack:=X.stack,ex:=fp,fn:=fun _=>false,pn:=pn,xe:=fun _ _=>False }
noncomputable def CapsOk (X:Cx) (scope:Scope):List (Nat×Str)->Prop
 | []=>True
 | p :: r=>(X.N[p.1]?=some p.2/\scope.names.lookup p.2=some .free/\(X.env.scope.names.lookup p.2=some .cell\/X.env.scope.names.lookup p.2=some .free))/\CapsOk X scope r
theorem CapsOk.get {X:Cx} {scope:Scope}:∀ {caps:List (Nat×Str)} {j:Nat} {p:Nat×Str},CapsOk X scope caps->caps[j]?=some p ->
  X.N[p.1]?=some p.2/\scope.names.lookup p.2=some .free/\(X.env.scope.names.lookup p.2=some .cell\/X.env.scope.names.lookup p.2=some .free)
 | [],_,_,_,h=>by simp at h
 | q :: r,0,p,h,e=>by simp at e; subst e; exact h.1
 | q :: r,j + 1,p,h,e=>CapsOk.get h.2 (by simpa using e)
noncomputable def capSt (own:List Str) (caps:List (Nat×Str)) (σ : St):St:=own.map (fun _=>none) ++ caps.map fun p=>(σ[p.1]?).join
noncomputable def CompW (J:It) (D:Addr) (σ0:St) (H1:Hp) (g:TG) (tf:TT) (te:TE) (Q:VK):Prop:=∃ W:Nat->Nat->St->Hp->Prop,
 (∃ m,W 0 m σ0 (upd H1 D (.lst [])))/\∀ i m σ' H',W i m σ' H' ->
  (J.stop i H'/\Q (.ref D) H')\/(J.go i H'/\∀ x H2,J.yld i H' x H2->g x σ' H2 fun σ2 H3=>tf σ2 H3 fun b H4 =>
   if b=true then te σ2 H4 fun v H5=>∃ ys,H5 D=some (.lst ys)/\ys.length < sizeLine/\∃ m',m' < m/\W (i + 1) m' σ2 (upd H5 D (.lst (ys ++ [v])))
   else ∃ m',m' < m/\W (i + 1) m' σ2 H4)
noncomputable def tComp (wi:TI) (own:List Str) (caps:List (Nat×Str)) (g:TG) (tf:TT) (te:TE):TE:=fun σ H Q=>wi σ H fun J H1=>∀ D,H1 D=none->CompW J D (capSt own caps σ) H1 g tf te Q
noncomputable def PTs (X:Cx) (ifs:List Expr) (t:TT):Prop :=
 ∀ (pins:List (Addr×Obj)) (s:Shared) (σ : St) (H:Hp) (Q:Bool->Hp->Prop),Inv X pins σ H s->t σ H Q->wpAny (model X.prog X.w) X.A (forIn ifs true fun c r=>if r=true then do let ok <- isTrue c X.env (eval c X.env); pure (ForInStep.yield ok) else pure (ForInStep.yield r)) (TP X pins σ Q) X.xe s
noncomputable def tTrue:TT:=fun _ H Q=>Q true H
theorem zdB {X:Cx}:PTs X [] tTrue:=fun _ _ _ H _ I h=>wpAny_tests_nil ⟨H,I,h⟩
theorem zb3 {X:Cx} {c:Expr} {t:TT} (h:PT X c t):PTs X [c] t:=fun pins s σ H Q I hw=>wpAny_tests_one (h pins s σ H Q I hw)
theorem comp_loop {prog:Program} {w:World} {A:Around} {R:Result->Shared->Prop} {s:Shared} {elt target iter:Expr} {ifs:List Expr} {scope:Scope} {pos:Pos} {it acc:Value} {env:Env} (I:Nat->Shared->Prop)
  (turn:∀ n s,I n s->wpAny (model prog w) A (pyNext it) (fun r s₁ => match r with
   | none=>R (.ok .next) s₁
   | some v=>wpAny (model prog w) A (letOwnedTupleGo target it v) (fun _ s₁'=>wpAny (model prog w) A (assign target env v) (fun _ s₂ =>
     wpAny (model prog w) A (forIn ifs true fun c r=>if r=true then do let ok <- isTrue c env (eval c env); pure (ForInStep.yield ok) else pure (ForInStep.yield r)) (fun ok s₃ =>
      if ok=true then wpAny (model prog w) A (eval elt env) (fun x s₄ =>
       wpAny (model prog w) A (call (.builtin "list.append") [acc,x]) (fun _ s₅ => ∃ m,m < n/\I m s₅) (fun _ _=>False) s₄) (fun _ _=>False) s₃
      else ∃ m,m < n/\I m s₃) (fun _ _=>False) s₂) (fun _ _=>False) s₁') (fun _ _=>False) s₁) (fun _ _=>False) s)
  (n:Nat) (h:I n s) :
  codeAny (model prog w) A (.compLoop (.ListComp elt [⟨target,iter,ifs,0⟩] scope pos) 0 it acc env) R s:=by
 refine codeAny_loop rfl I (fun n s hI => ?_) n h
 show wpAny _ A ((compTurn (.ListComp elt [⟨target,iter,ifs,0⟩] scope pos) 0 it acc env).onRaise (fun x=>do noteFrame x env; theTreesLotGoes x)) _ _ s
 refine wpAny_noted ?_
 rw [compTurn_list]
 refine wpAny_bind (wpAny_standAt (wpAny_bind (wpAny_mono (turn n s hI) (fun r s₁ h₁ => ?_) fun _ _ h'=>h'.elim)))
 cases r with
 | none=>exact wpAny_pure h₁
 | some v =>
  refine wpAny_bind (wpAny_mono h₁ (fun _ s₁' h₁' => ?_) fun _ _ h'=>h'.elim)
  refine wpAny_bind (wpAny_mono h₁' (fun _ s₂ h₂ => wpAny_bind (wpAny_mono h₂ (fun ok s₃ h₃ => ?_) fun _ _ h'=>h'.elim)) fun _ _ h'=>h'.elim)
  cases ok with
  | false=>exact wpAny_pure ⟨rfl,h₃⟩
  | true =>
   exact wpAny_bind (wpAny_bind (wpAny_mono h₃ (fun x s₄ h₄ => wpAny_bind (wpAny_mono h₄ (fun _ s₅ h₅ => wpAny_pure (wpAny_pure ⟨rfl,h₅⟩)) fun _ _ h'=>h'.elim)) fun _ _ h'=>h'.elim))
section
variable {X:Cx} {pins:List (Addr×Obj)} {σ : St}
theorem comp_ok {H2:Hp} {s2:Shared} {fp:List Addr} {scope:Scope} {N:List Str} {cl:List (Str×Addr)} {C:Addr} (I2:Inv X pins σ H2 s2) (f2:∀ b∈fp,FpOk X pins H2 b) (hC:s2.heap.objs.size < C)
  (hfs:∀ b∈fp,b < s2.heap.objs.size) (hkind:scope.kind = .function) (hcl:∀ x c,cl.lookup x=some c->X.env.cells.lookup x=some c)
  (hhas:∀ x,((relabel scope X.env).names.lookup x=some .cell\/(relabel scope X.env).names.lookup x=some .free)->∃ c,cl.lookup x=some c) :
  (cxComp X scope N cl C s2 H2 fp (X.pn ++ pins)).Ok where
 mod:=I2.ok.mod
 kind:=hkind
 glob:=I2.ok.glob
 blt:=I2.ok.blt
 above:=Nat.le_of_lt hC
 inj:=fun x y c h1 h2=>I2.ok.inj x y c (hcl x c h1) (hcl y c h2)
 has:=hhas
 cab:=fun _ _ h _=>by cases h
 hd:=I2.ok.hd
 frames:=I2.ok.frames
 stk := .inl rfl
 exf:=fun b hb=>⟨Nat.ne_of_lt (Nat.lt_trans (hfs b hb) hC),fun x c e=>(f2 b hb).2.2.2.2.1 x c (hcl x c e)⟩
 bs:=I2.bs
 bsz:=Nat.le_trans I2.ok.bsz I2.sz
 noex:=fun b o e hb=>by
  rcases (f2 b hb).2.2.2.1 with z | z
  ·exact I2.ok.noex b o e z
  ·exact absurd (Nat.lt_of_lt_of_le (Heap.lt_size e) (Nat.le_trans I2.ok.bsz z)) (Nat.lt_irrefl _)
 exfs:=fun b hb z=>(List.mem_cons.mp (I2.stkSub b z)).elim (f2 b hb).2.1 (f2 b hb).2.2.1
 funs:=I2.stack
 frf:=I2.stkFree
theorem comp_start {H2:Hp} {s2:Shared} {fp:List Addr} {scope:Scope} {own:List Str} {caps:List (Nat×Str)} {cl:List (Str×Addr)} {D C:Addr} {h1:Heap} {tk:Nat} {m:Str->Option Value}
  (I2:Inv X pins σ H2 s2) (f2:∀ b∈fp,FpOk X pins H2 b) (hC : @Eq Nat C (s2.heap.objs.size + 1)) (hD : @Eq Nat D s2.heap.objs.size)
  (hfs:∀ b∈fp,b < s2.heap.objs.size) (hkind:scope.kind = .function) (hcl:∀ x c,cl.lookup x=some c->X.env.cells.lookup x=some c)
  (hhas:∀ x,((relabel scope X.env).names.lookup x=some .cell\/(relabel scope X.env).names.lookup x=some .free)->∃ c,cl.lookup x=some c)
  (hcap:CapsOk X scope caps) (hns:h1.Ns C m) (old:∀ b o,s2.heap.get? b=some o->h1.get? b=some o) (hlst:∃ n,h1.get? D=some { cls := .type "list",data := .seq #[] n }) :
  Inv (cxComp X scope (own ++ caps.map (·.2)) cl C s2 H2 fp (X.pn ++ pins)) [] (capSt own caps σ) (upd H2 D (.lst [])) { s2 with heap:=h1,toks:=tk }:=by
 have hCs:s2.heap.objs.size < C:=by omega
 have hDn:H2 D=none:=I2.hok.fresh (by omega)
 have hCn:H2 C=none:=I2.hok.fresh (by omega)
 have hCD:C≠D:=by show ¬ @Eq Nat C D; omega
 have hDs:s2.heap.objs.size<=D:=by show @LE.le Nat _ s2.heap.objs.size D; omega
 have new:ObjOk X.prog X.w (upd H2 D (.lst [])) h1 D (.lst []):=let ⟨n,e⟩:=hlst; ⟨Nat.zero_le _,[],n,.nil,e⟩
 refine ⟨comp_ok I2 f2 hCs hfs hkind hcl hhas,rfl,I2.bare,Un.laid old hDs hDn,⟨m,hns,fun i x v e1 e2 e3 => ?_⟩,fun x c e => ?_,?_,fun x c e => ?_,fun p hp => ?_,I2.hok.laid old hDs new,?_⟩
 ·-- a captured name
  have e2':(capSt own caps σ)[i]?=some (some v):=e2
  unfold capSt at e2'
  by_cases hi:i < own.length
  ·rw [List.getElem?_append_left (by simpa using hi),List.getElem?_map] at e2'
   cases q:own[i]? with
   | none=>rw [q] at e2'; cases e2'
   | some y=>rw [q] at e2'; cases e2'
  ·have hle:own.length<=i:=Nat.le_of_not_lt hi
   rw [List.getElem?_append_right (by simpa using hle),List.getElem?_map,List.length_map] at e2'
   have e1':(own ++ caps.map (·.2))[i]?=some x:=e1
   rw [List.getElem?_append_right hle,List.getElem?_map] at e1'
   cases q:caps[i - own.length]? with
   | none=>rw [q] at e2'; cases e2'
   | some p =>
    rw [q] at e2' e1'
    have ex:p.2=x:=Option.some.inj e1'
    have ev:(σ[p.1]?).join=some v:=Option.some.inj e2'
    obtain ⟨hN,hf,hv⟩:=hcap.get q
    have hσ : σ[p.1]?=some (some v):=by
     cases r : σ[p.1]? with
     | none=>rw [r] at ev; cases ev
     | some y=>rw [r] at ev; rw [show y=some v from ev]
    obtain ⟨mX,_,hl⟩:=I2.loc
    obtain ⟨u,ru,lk⟩:=hl p.1 p.2 v hN hσ (.inr hv)
    subst ex
    refine ⟨u,ru,.inr ⟨za9 hf,?_⟩⟩
    rcases lk with ⟨k,_⟩ | ⟨_,c,e,z⟩
    ·have k':X.env.scope.names.lookup p.2=some .local:=k
     rw [k'] at hv
     rcases hv with z | z <;> cases z
    ·obtain ⟨c',e'⟩:=hhas p.2 (za9 hf)
     have e2:=hcl p.2 c' e'
     rw [e] at e2
     cases e2
     obtain ⟨o,ho,hd⟩:=z
     exact ⟨c,e',o,old c o ho,hd⟩
 ·obtain ⟨v,o,ho,hd⟩:=I2.cell x c (hcl x c e)
  exact ⟨v,o,old c o ho,hd⟩
 ·show upd H2 D (.lst []) C=none
  rw [zal hCD]; exact hCn
 ·obtain ⟨v,q⟩:=I2.cell x c (hcl x c e)
  rw [zal (Nat.ne_of_lt (Nat.lt_of_lt_of_le q.lt hDs))]
  exact I2.freeC x c (hcl x c e)
 ·have hp':p∈X.pn ++ pins:=by
   have hp2:p∈(X.pn ++ pins) ++ []:=hp
   rwa [List.append_nil] at hp2
  obtain ⟨e,n,ne,nf,d⟩:=I2.pin p hp'
  have lt:=Heap.lt_size e
  refine ⟨old p.1 p.2 e,by rw [zal (Nat.ne_of_lt (Nat.lt_of_lt_of_le lt hDs))]; exact n,?_,fun z=>(List.mem_cons.mp (I2.stkSub p.1 z)).elim ne nf,d⟩
  exact Nat.ne_of_lt (Nat.lt_trans lt hCs)
 ·show (capSt own caps σ).length=(own ++ caps.map (·.2)).length
  unfold capSt
  simp
theorem comp_back {H2 H':Hp} {s2 s':Shared} {fp:List Addr} {scope:Scope} {N:List Str} {cl:List (Str×Addr)} {C:Addr} {σ':St} {pn:List (Addr×Obj)} (I2:Inv X pins σ H2 s2) (f2:∀ b∈fp,FpOk X pins H2 b)
  (J:Inv (cxComp X scope N cl C s2 H2 fp pn) [] σ' H' s'):Inv X pins σ H' s' :=
 I2.call' (s':=s') (ch:=fp) J.os J.base J.hok J.bare fun b hb=>⟨(f2 b hb).2.2.2.1,(f2 b hb).2.1,(f2 b hb).2.2.2.2.1,(f2 b hb).2.2.2.2.2⟩
theorem Inv.gone {H:Hp} {s:Shared} {C:Addr} {h':Heap} (I:Inv X pins σ H s) (hs:Heap.SameBut C s.heap h') (hn:H C=none) (h0:X.s₀.heap.objs.size<=C) (hL:C≠X.env.locals) (h2:∀ x c,X.env.cells.lookup x=some c->c≠C) (h3:∀ p∈X.pn ++ pins,p.1≠C) :
  Inv X pins σ H { s with heap:=h' }:=I.turned (t':=s.toks) (fun b o hb e=>(hs.2 b hb).trans e) hn hL (.inr h0) h2 h3
end
theorem free_of_relabel {env:Env} {scope:Scope} {x:Str} (hcell:∀ y∈scope.names,y.2 ≠ .cell) (h:(relabel scope env).names.lookup x=some .cell\/(relabel scope env).names.lookup x=some .free):(x,NameKind.free)∈scope.names:=by
 have all:∀ k,(relabel scope env).names.lookup x=some k->(k = .cell\/k = .free)->(x,NameKind.free)∈scope.names:=by
  intro k e hk
  have m:=zcv e
  obtain ⟨⟨n,j⟩,hm,q⟩:=List.mem_map.mp (show (x,k)∈scope.names.map _ from m)
  dsimp only at q
  by_cases c:(j == NameKind.free && env.scope.kind == .function && env.kindOf n == some .cell)=true
  ·rw [if_pos c] at q
   injection q with q1 q2
   subst q1
   have jf:j = .free:=by
    simp only [Bool.and_eq_true] at c
    exact eq_of_beq c.1.1
   rw [<- jf]; exact hm
  ·rw [if_neg c] at q
   injection q with q1 q2
   subst q1 q2
   rcases hk with z | z
   ·exact absurd z (hcell _ hm)
   ·rw [z] at hm; exact hm
 rcases h with h | h
 ·exact all _ h (.inl rfl)
 ·exact all _ h (.inr rfl)
structure Steps (Y:Cx) (tg:Expr) (J:It) (fp:List Addr) (it:Addr) (tn:Nat->Heap->Prop):Prop where
 item:∀ (i:Nat) (pins:List (Addr×Obj)) (s:Shared) (σ : St) (H:Hp) (E:Value->Shared->Prop),Inv Y pins σ H s->(∀ b∈fp,FpOk Y pins H b)->tn i s.heap->J.go i H ->
  wpAny (model Y.prog Y.w) Y.A (pyNext (.ref it)) (fun r s1=>∃ u,r=some u /\
   wpAny (model Y.prog Y.w) Y.A (letOwnedTupleGo tg (.ref it) u) (fun _ s2=>∃ x H',Inv Y pins σ H' s2/\RelV x u/\J.yld i H x H'/\tn (i + 1) s2.heap/\∀ b∈fp,H' b=none) E s1) E s
 done:∀ (i:Nat) (pins:List (Addr×Obj)) (s:Shared) (σ : St) (H:Hp) (E:Value->Shared->Prop),Inv Y pins σ H s->(∀ b∈fp,FpOk Y pins H b)->tn i s.heap->J.stop i H ->
  wpAny (model Y.prog Y.w) Y.A (pyNext (.ref it)) (fun r s1=>r=none/\Inv Y pins σ H s1) E s
structure Trn (P:Program) (w:World) (K:W.Frag) (Z:Cx->Prop) (tg:Expr) (J:It) (fp:List Addr) (it:Addr) (tn:Nat->Heap->Prop):Prop where
 obj:∀ i h,tn i h->∀ b∈fp,∃ o,h.get? b=some o/\∀ v,o.data ≠ .cell v
 keep:∀ i h h',tn i h->(∀ b∈fp,∀ o,h.get? b=some o->h'.get? b=some o)->tn i h'
 steps:∀ Y:Cx,Y.prog=P->Y.w=w->Y.K=K->Z Y->Steps Y tg J fp it tn
 self:∀ (A:Around) (i:Nat) (s:Shared) (Q:Value->Shared->Prop) (E:Value->Shared->Prop),tn i s.heap->Q (.ref it) s->wpAny (model P w) A (pyIter (.ref it)) Q E s
noncomputable def PIEq (Z:Cx->Prop) (X:Cx) (pins:List (Addr×Obj)) (σ : St) (tg:Expr) (R:It->Hp->Prop) (itv:Value) (s2:Shared):Prop :=
 ∃ (it:Addr) (fp:List Addr) (tn:Nat->Heap->Prop) (J:It) (H':Hp),itv = .ref it/\Inv X pins σ H' s2/\Trn X.prog X.w X.K Z tg J fp it tn/\tn 0 s2.heap/\(∀ b∈fp,FpOk X pins H' b)/\R J H'
noncomputable def PIq (Z:Cx->Prop) (X:Cx) (tg iter:Expr) (wi:TI):Prop :=
 ∀ (pins:List (Addr×Obj)) (s:Shared) (σ : St) (H:Hp) (R:It->Hp->Prop),Inv X pins σ H s->wi σ H R ->
  wpAny (model X.prog X.w) X.A (eval iter X.env) (fun v s1=>wpAny (model X.prog X.w) X.A (pyIter v) (PIEq Z X pins σ tg R) X.xe s1) X.xe s
theorem PI.q {X:Cx} {tg iter:Expr} {wi:TI} (h:PI X tg iter wi):PIq (fun Y=>Y.calm=true) X tg iter wi:=fun pins s σ H R I q =>
 thn (h pins s σ H R I q) fun v s1 h1=>thn h1 fun itv s2 h2=>by
  obtain ⟨it,fp,tn,J,H',e,I',T,t0,f,r⟩:=h2
  exact ⟨it,fp,tn,J,H',e,I',⟨T.obj,T.keep,fun Y hP hw hK hz=>⟨fun i pins s σ H E=>hP ▸ hw ▸ T.item Y hP hw hK hz i pins s σ H E,fun i pins s σ H E=>hP ▸ hw ▸ T.done Y hP hw hK hz i pins s σ H E⟩,T.self⟩,t0,f,r⟩
section
variable {X:Cx} {elt target iter:Expr} {ifs:List Expr} {scope:Scope} {pos:Pos} {own:List Str} {caps:List (Nat×Str)} {wi:TI} {g:TG} {tf:TT} {te:TE}
structure CompScope (X:Cx) (scope:Scope) (caps:List (Nat×Str)):Prop where
 kind:scope.kind = .function
 cell:(scope.names.all fun y => !(y.2 == .cell))=true
 names:(scope.names.all fun y => !(y.2 == .local) || scope.names.lookup y.1 == some .local)=true
 free:(scope.names.all fun y => !(y.2 == .free) || (X.env.scope.names.lookup y.1 == some .cell || X.env.scope.names.lookup y.1 == some .free))=true
 caps:CapsOk X scope caps
theorem zcD {use:Option (Value->Sem Unit)} {R:Value->Shared->Prop} {pins:List (Addr×Obj)} {σ : St} {s:Shared} {H:Hp} {Q:VK} (Z:Cx->Prop) (hc:∀ cl C s H fp pins,Z (cxComp X scope (own ++ caps.map (·.2)) cl C s H fp (X.pn ++ pins))) (S:CompScope X scope caps) (hi:PIq Z X target iter wi)
  (hg:∀ cl C s H fp pn,PG (cxComp X scope (own ++ caps.map (·.2)) cl C s H fp pn) target g)
  (ht:∀ cl C s H fp pn,PTs (cxComp X scope (own ++ caps.map (·.2)) cl C s H fp pn) ifs tf)
  (he:∀ cl C s H fp pn,PE (cxComp X scope (own ++ caps.map (·.2)) cl C s H fp pn) elt te)
  (I:Inv X pins σ H s) (h:tComp wi own caps g tf te σ H Q)
  (fin:∀ D C H' s' m,Inv X pins σ H' s'->s'.heap.Ns C m->H' C=none->X.s₀.heap.objs.size<=C->C≠X.env.locals->(∀ x c,X.env.cells.lookup x=some c->c≠C)->(∀ p∈X.pn ++ pins,p.1≠C)->Q (.ref D) H' ->
   compPost (model X.prog X.w) X.A X.xe use R (.ref D) C (.ok .next) s')
  (hs:∀ x,foldedSetIterable iter X.env x=pure x) :
  wpAny (model X.prog X.w) X.A (comprehension (.ListComp elt [⟨target,iter,ifs,0⟩] scope pos) scope X.env (firstIterPos [⟨target,iter,ifs,0⟩] pos) (newList []) false (eval iter X.env) use) R X.xe s:=by
 have hcell:∀ y∈scope.names,y.2 ≠ .cell:=fun y hy z=>by
  have:=List.all_eq_true.mp S.cell y hy
  rw [z] at this; cases this
 have hnames:∀ y∈scope.names,y.2 = .local->scope.names.lookup y.1=some .local:=fun y hy z=>by
  have:=List.all_eq_true.mp S.names y hy
  rw [z] at this
  simpa using this
 have hfree:∀ y∈scope.names,y.2 = .free->X.env.scope.names.lookup y.1=some .cell\/X.env.scope.names.lookup y.1=some .free:=fun y hy z=>by
  have:=List.all_eq_true.mp S.free y hy
  rw [z] at this
  simpa using this
 obtain ⟨cl,hclos,hcl0,hcl1⟩:=closure_ok (env:=X.env) (scope:=scope) fun y hy z=>I.ok.has y.1 (hfree y hy z)
 have hcl:∀ x c,cl.lookup x=some c->X.env.cells.lookup x=some c:=fun x c e=>(hcl0 x c (zcv e)).2
 have hhas:∀ x,((relabel scope X.env).names.lookup x=some .cell\/(relabel scope X.env).names.lookup x=some .free)->∃ c,cl.lookup x=some c:=fun x hx=>by
  obtain ⟨c,hm⟩:=hcl1 x (free_of_relabel hcell hx)
  exact zdk hm
 refine wpAny_comprehension_free (g:=⟨target,iter,ifs,0⟩) (gs := []) rfl hs hclos S.kind hnames (thn (hi pins s σ H _ I h) fun v s1 h1=>thn h1 fun itv s2 h2 => ?_)
 obtain ⟨it,fp,tn,J,H2,e,I2,T,st2,f2,cont⟩:=h2
 subst e
 obtain ⟨W,⟨m0,w0⟩,turn⟩:=cont s2.heap.objs.size (I2.hok.fresh (Nat.le_refl _))
 refine wpAny_newObj_type (wpAny_newFunctionEnv hcell (by intro y hy; simp at hy) (fun h₁ hns₁ hsb₁ => ?_) S.kind)
 dsimp only at hns₁ hsb₁ ⊢
 generalize hH2:s2.heap.push { cls := .type "list",dict:=none,data := .seq ([]:List Value).toArray }=HL at hns₁ hsb₁ ⊢
 have hC:HL.objs.size=s2.heap.objs.size + 1:=by rw [<- hH2,Heap.size_push]
 have hfs:∀ b∈fp,b < s2.heap.objs.size:=fun b hb=>let ⟨_,e,_⟩:=T.obj 0 _ st2 b hb; Heap.lt_size e
 have old:∀ b o,s2.heap.get? b=some o->h₁.get? b=some o:=fun b o e =>
  hsb₁.extBut b o (by rw [hC]; exact Nat.ne_of_lt (Nat.lt_succ_of_lt (Heap.lt_size e))) (Heap.get?_push_of_some _ (hH2 ▸ Heap.get?_push_of_some _ e))
 have hlst:∃ n,h₁.get? s2.heap.objs.size=some { cls := .type "list",data := .seq #[] n }:=⟨_,hsb₁.extBut _ _ (by rw [hC]; exact Nat.ne_of_lt (Nat.lt_succ_self _)) (Heap.get?_push_of_some _ (hH2 ▸ Heap.get?_push_size _ rfl))⟩
 have I4:Inv (cxComp X scope (own ++ caps.map (·.2)) cl HL.objs.size s2 H2 fp (X.pn ++ pins)) [] (capSt own caps σ) (upd H2 s2.heap.objs.size (.lst [])) { s2 with heap:=h₁,toks:=s2.toks + ([]:List (Str×Value)).length } :=
  comp_start I2 f2 hC rfl hfs S.kind hcl hhas S.caps hns₁ old hlst
 have st4:tn 0 h₁ := T.keep 0 _ _ st2 fun b hb o e=>old b o e
 have fr4:∀ b∈fp,upd H2 s2.heap.objs.size (.lst []) b=none:=fun b hb=>by
  rw [zal (Nat.ne_of_lt (hfs b hb))]; exact (f2 b hb).1
 have hCs:s2.heap.objs.size < HL.objs.size:=by rw [hC]; exact Nat.lt_succ_self _
 have loop:codeAny (model X.prog X.w) X.A (.compLoop (.ListComp elt [⟨target,iter,ifs,0⟩] scope pos) 0 (.ref it) (.ref s2.heap.objs.size) (compEnvC scope cl HL.objs.size X.env))
   (compPost (model X.prog X.w) X.A X.xe use R (.ref s2.heap.objs.size) HL.objs.size) { s2 with heap:=h₁,toks:=s2.toks + ([]:List (Str×Value)).length }:=by
  refine comp_loop (fun n s'=>∃ i σ' H',Inv (cxComp X scope (own ++ caps.map (·.2)) cl HL.objs.size s2 H2 fp (X.pn ++ pins)) [] σ' H' s'/\tn i s'.heap/\(∀ b∈fp,H' b=none)/\W i n σ' H') ?_ m0 ⟨0,_,_,I4,st4,fr4,w0⟩
  have U:=T.steps (cxComp X scope (own ++ caps.map (·.2)) cl HL.objs.size s2 H2 fp (X.pn ++ pins)) rfl rfl rfl (hc _ _ _ _ _ _)
  rintro n s3 ⟨i,σ3,H3,I3,st3,fr3,w3⟩
  have stat:∀ {H':Hp},(∀ b∈fp,H' b=none)->∀ b∈fp,FpOk (cxComp X scope (own ++ caps.map (·.2)) cl HL.objs.size s2 H2 fp (X.pn ++ pins)) [] H' b:=fun {H'} hn b hb=>by
   refine ⟨hn b hb,(I3.ok.exf b hb).1,I3.ok.exfs b hb,.inl hb,(I3.ok.exf b hb).2,fun p hp => ?_⟩
   have hp':p∈X.pn ++ pins:=by
    have hp2:p∈(X.pn ++ pins) ++ []:=hp
    rwa [List.append_nil] at hp2
   exact (f2 b hb).2.2.2.2.2 p hp'
  rcases turn i n σ3 H3 w3 with ⟨stop,qn⟩ | ⟨go,step⟩
  ·refine thn (U.done i [] s3 σ3 H3 _ I3 (stat fr3) st3 stop) fun r s4 ⟨hr,I4⟩ => ?_
   subst hr
   obtain ⟨m,hm,_⟩:=I4.loc
   refine fin s2.heap.objs.size HL.objs.size H3 s4 m (comp_back I2 f2 I4) hm I4.free (Nat.le_trans I2.sz (Nat.le_of_lt hCs)) (Nat.ne_of_gt (Nat.lt_trans I2.lt hCs)) (fun x c e z => ?_) (fun p hp z => ?_) qn
   ·obtain ⟨v,q⟩:=I2.cell x c e
    exact absurd (Nat.lt_trans q.lt hCs) (by rw [z]; exact Nat.lt_irrefl _)
   ·exact absurd (Nat.lt_trans (Heap.lt_size (I2.pin p hp).1) hCs) (by rw [z]; exact Nat.lt_irrefl _)
  ·refine thn (U.item i [] s3 σ3 H3 _ I3 (stat fr3) st3 go) fun r s4 ⟨u,hr,h4⟩ => ?_
   subst hr
   refine thn h4 fun _ s5 ⟨x,H5,I5,r5,y5,st5,fr5⟩ => ?_
   have I5':=I5.pinned (stat fr5) (T.obj _ _ st5)
   refine thn (hg cl HL.objs.size s2 H2 fp (X.pn ++ pins) _ s5 σ3 H5 x u _ I5' r5 (step x H5 y5)) fun _ s6 ⟨σ6,H6,I6,q6⟩ => ?_
   refine thn (ht cl HL.objs.size s2 H2 fp (X.pn ++ pins) _ s6 σ6 H6 _ I6 q6) fun b s7 ⟨H7,I7,q7⟩ => ?_
   have again:∀ {σ8:St} {H8:Hp} {s8:Shared} {m':Nat},Inv (cxComp X scope (own ++ caps.map (·.2)) cl HL.objs.size s2 H2 fp (X.pn ++ pins)) ([] ++ pinsAt fp s5.heap) σ8 H8 s8->m' < n->W (i + 1) m' σ8 H8 ->
     ∃ m,m < n/\∃ i σ' H',Inv (cxComp X scope (own ++ caps.map (·.2)) cl HL.objs.size s2 H2 fp (X.pn ++ pins)) [] σ' H' s8/\tn i s8.heap/\(∀ b∈fp,H' b=none)/\W i m σ' H':=fun {σ8 H8 s8 m'} I8 hm w8=>by
    refine ⟨m',hm,i + 1,σ8,H8,I8.unpinned,T.keep _ _ _ st5 fun b hb o e=>(I8.pin (b,o) (List.mem_append_right _ (List.mem_append_right _ (zbI hb e)))).1,fun b hb => ?_,w8⟩
    obtain ⟨o,e,d⟩:=T.obj _ _ st5 b hb
    exact (I8.pin (b,o) (List.mem_append_right _ (List.mem_append_right _ (zbI hb e)))).2.1
   cases b with
   | false =>
    rw [if_neg Bool.false_ne_true] at q7 ⊢
    obtain ⟨m',hm,w7⟩:=q7
    exact again I7 hm w7
   | true =>
    rw [if_pos rfl] at q7 ⊢
    refine thnE (he cl HL.objs.size s2 H2 fp (X.pn ++ pins) _ s7 σ6 H7 _ I7 q7) fun y s8 v H8 I8 r8 ⟨ys,hy,hz,m',hm,w8⟩ => ?_
    refine thn (zaz _ s8 σ6 H8 (.ref s2.heap.objs.size) [v] (.ref s2.heap.objs.size) [y] (fun _ H9=>H9=upd H8 s2.heap.objs.size (.lst (ys ++ [v]))) I8 rfl (.cons r8 .nil) ⟨_,ys,v,rfl,rfl,hy,hz,rfl⟩) fun z s9 ⟨_,H9,I9,_,e9⟩ => ?_
    subst e9
    exact again I9 hm w8
 exact codeAny_compStart_list loop (T.self _ 0 _ _ _ st4 loop)
theorem zb5 (hc:X.calm=true) (S:CompScope X scope caps) (hi:PI X target iter wi)
  (hg:∀ cl C s H fp pn,PG (cxComp X scope (own ++ caps.map (·.2)) cl C s H fp pn) target g)
  (ht:∀ cl C s H fp pn,PTs (cxComp X scope (own ++ caps.map (·.2)) cl C s H fp pn) ifs tf)
  (he:∀ cl C s H fp pn,PE (cxComp X scope (own ++ caps.map (·.2)) cl C s H fp pn) elt te)
  (hs:∀ x,foldedSetIterable iter X.env x=pure x:=by intro _; rfl):PE X (.ListComp elt [⟨target,iter,ifs,0⟩] scope pos) (tComp wi own caps g tf te):=by
 intro pins s σ H Q I h
 rw [eval_ListComp]
 refine zcD (Q:=Q) (fun Y=>Y.calm=true) (fun _ _ _ _ _ _=>hc) S hi.q hg ht he I h (fun D C H' s' m I' hm hn h0 hL h2 h3 q => ?_) hs
 exact ⟨m,hm,fun h' hs'=>⟨.ref D,H',I'.gone hs' hn h0 hL h2 h3,rfl,q⟩⟩
theorem pe_compq (Z:Cx->Prop) (hc:∀ cl C s H fp pins,Z (cxComp X scope (own ++ caps.map (·.2)) cl C s H fp (X.pn ++ pins))) (S:CompScope X scope caps) (hi:PIq Z X target iter wi)
  (hg:∀ cl C s H fp pn,PG (cxComp X scope (own ++ caps.map (·.2)) cl C s H fp pn) target g)
  (ht:∀ cl C s H fp pn,PTs (cxComp X scope (own ++ caps.map (·.2)) cl C s H fp pn) ifs tf)
  (he:∀ cl C s H fp pn,PE (cxComp X scope (own ++ caps.map (·.2)) cl C s H fp pn) elt te)
  (hs:∀ x,foldedSetIterable iter X.env x=pure x:=by intro _; rfl):PE X (.ListComp elt [⟨target,iter,ifs,0⟩] scope pos) (tComp wi own caps g tf te):=by
 intro pins s σ H Q I h
 rw [eval_ListComp]
 refine zcD (Q:=Q) Z hc S hi hg ht he I h (fun D C H' s' m I' hm hn h0 hL h2 h3 q => ?_) hs
 exact ⟨m,hm,fun h' hs'=>⟨.ref D,H',I'.gone hs' hn h0 hL h2 h3,rfl,q⟩⟩
theorem zep {i:Nat} {x:Str} {pos' spos:Pos} (hN:X.N.Nodup) (hn:X.N[i]?=some x) (hx:Loc X.env.scope x) (hc:X.calm=true) (S:CompScope X scope caps) (hi:PI X target iter wi)
  (hg:∀ cl C s H fp pn,PG (cxComp X scope (own ++ caps.map (·.2)) cl C s H fp pn) target g)
  (ht:∀ cl C s H fp pn,PTs (cxComp X scope (own ++ caps.map (·.2)) cl C s H fp pn) ifs tf)
  (he:∀ cl C s H fp pn,PE (cxComp X scope (own ++ caps.map (·.2)) cl C s H fp pn) elt te)
  (hsw:swapsWith (.ListComp elt [⟨target,iter,ifs,0⟩] scope pos) (some (.Name x pos')) spos.line X.env=pure true:=by rfl)
  (hf:X.fn x=true\/X.env.scope.names.lookup x=some .local:=by first | exact .inl rfl | exact .inr rfl | assumption)
  (hs:∀ x,foldedSetIterable iter X.env x=pure x:=by intro _; rfl):PS X (.Assign [.Name x pos'] (.ListComp elt [⟨target,iter,ifs,0⟩] scope pos) spos) (tAsg (tComp wi own caps g tf te) (gName i)):=by
 intro pins s σ H D I h
 rw [exec_Assign_Name_used _ _ _ _ hsw]
 refine wpAny_bind (wpAny_standAt (wpAny_bind ?_))
 show wpAny _ _ (do let _ <- comprehension (.ListComp elt [⟨target,iter,ifs,0⟩] scope pos) scope X.env _ (newList []) false (eval iter X.env) (some (assign (.Name x pos') X.env))) _ _ s
 refine wpAny_bind (wpAny_mono (zcD (use:=some (assign (.Name x pos') X.env)) (R:=fun _ s'=>SP X pins D .next s') (Q:=fun v H1=>gName i v σ H1 D.nx) (fun Y=>Y.calm=true) (fun _ _ _ _ _ _=>hc) S hi.q hg ht he I h (fun Dl C H' s' m I' hm hnC h0 hL h2 h3 q => ?_) hs)
  (fun _ s' hq=>wpAny_pure (wpAny_pure hq)) fun _ _ e=>e)
 show wpAny _ _ (assign (.Name x pos') X.env (.ref Dl)) _ _ s'
 refine wpAny_assign_Name (zc9 I' hN hn hx (show RelV (.ref Dl) (.ref Dl) from rfl) (fun s'' I'' sb => ?_) hf)
 obtain ⟨a,hsb,ha⟩:=sb
 have hCa:C≠a:=by
  rcases ha with z | z
  ·rw [z]; exact hL
  ·exact Ne.symm (h2 x a z)
 exact ⟨m,hm.sameBut hsb hCa,fun h' hs'=>⟨_,H',I''.gone hs' hnC h0 hL h2 h3,q⟩⟩
end
noncomputable def sgn (c:Nat):V := .str ⟨#[c]⟩
noncomputable def Its (x:Str):It:=⟨fun i _=>i < x.cps.size,fun i H v H'=>H'=H/\∃ c,x.cps[i]?=some c/\v=sgn c,fun i _=>i=x.cps.size⟩
theorem zdL {P:Program} {w:World} {K:W.Frag} {tg:Expr} (it:Addr) (x:Str) (t:Tok) (ty:String)
  (hty : ["enumerate","zip","dict_itemiterator","dict_reverseitemiterator","odict_iterator","itertools.zip_longest","itertools.pairwise"].contains ty=false)
  (W:∀ A:Around,A.handled=none->Walks P w A it [it] [it] x.cps.size (SignAt x) (fun i h=>h.IsStrIter it ty x t i))
  (sf:∀ (A:Around) (i:Nat) (s:Shared) (Q:Value->Shared->Prop) (E:Value->Shared->Prop),s.heap.IsStrIter it ty x t i->Q (.ref it) s->wpAny (model P w) A (pyIter (.ref it)) Q E s) :
  Turn P w K tg (Its x) [it] it (fun i h=>h.IsStrIter it ty x t i) where
 mem:=by simp
 obj:=fun i h st b hb=>by
  have e:b=it:=by simpa using hb
  subst e
  obtain ⟨o,e,c,d⟩:=st
  exact ⟨o,e,fun v z=>by rw [d] at z; cases z⟩
 keep:=fun i h h' st k=>by
  obtain ⟨o,e,r⟩:=st
  exact ⟨o,k it (by simp) o e,r⟩
 item:=by
  intro X hP hw hK hc i pins s σ H E I hf st hg
  subst hP hw hK
  obtain ⟨f0,f1,f2,f3,f4,f5⟩:=hf it (by simp)
  refine (W X.A (I.ok.hd hc)).item i s _ _ hg st fun v h' tk hv st' kk => ?_
  obtain ⟨c,u,hc',rfl⟩:=hv
  have I1:Inv X pins σ H { s with heap:=h',toks:=tk }:=I.turned (fun b o hb e=>kk b o (by simpa using hb) e) f0 f1 f3 f4 f5
  obtain ⟨o,e,cc,d⟩:=id st'
  exact ⟨_,rfl,zee (s:={ s with heap:=h',toks:=tk }) e cc d hty ⟨sgn c,H,I1,⟨u,rfl⟩,⟨rfl,c,hc',rfl⟩,st',fun b hb=>(hf b hb).1⟩⟩
 done:=by
  intro X hP hw hK hc i pins s σ H E I hf st hg
  subst hP hw hK
  obtain ⟨f0,f1,f2,f3,f4,f5⟩:=hf it (by simp)
  have hi:i=x.cps.size:=hg
  subst hi
  exact (W X.A (I.ok.hd hc)).done s _ _ st fun h' tk kk=>⟨rfl,I.turned (fun b o hb e=>kk b o (by simpa using hb) e) f0 f1 f3 f4 f5⟩
 self:=fun A i s Q E st h=>sf A i s Q E st h
section
variable {X:Cx} {tg:Expr}
noncomputable def iStr (tl:TE):TI:=fun σ H R=>tl σ H fun v H1=>∃ x,v = .str x/\R (Its x) H1
theorem zeT {l:Expr} {tl:TE} (hl:PE X l tl):PI X tg l (iStr tl):=by
 intro pins s σ H R I h
 refine thnE (hl pins s σ H _ I h) fun v s1 y H1 I1 r1 q1 => ?_
 obtain ⟨x,e,q⟩:=q1
 subst e
 obtain ⟨t,rfl⟩:=r1
 have hf:∀ o:Obj,∀ b ∈ [s1.heap.objs.size],FpOk X pins H1 b:=fun o b hb=>by
  have e:b=s1.heap.objs.size:=by simpa using hb
  subst e
  exact I1.fpOk (Nat.le_refl _) (I1.hok.fresh (Nat.le_refl _))
 cases ha:x.cps.all (· < 128)
 ·exact wpAny_pyIter_wide ha ⟨s1.heap.objs.size,[s1.heap.objs.size],_,_,H1,rfl,I1.kept (t':=s1.toks) fun b o e=>Heap.get?_push_of_some _ e,
   zdL _ x t "str_iterator" (by decide) (fun A hA=>Walks.strWide hA _ x t) (fun A i s Q E st h=>wpAny_pyIter_striter_wide st h),⟨_,Heap.get?_push_size _ rfl,rfl,rfl⟩,hf default,q⟩
 ·exact wpAny_pyIter_ascii ha ⟨s1.heap.objs.size,[s1.heap.objs.size],_,_,H1,rfl,I1.kept (t':=s1.toks) fun b o e=>Heap.get?_push_of_some _ e,
   zdL _ x t "str_ascii_iterator" (by decide) (fun A hA=>Walks.strAscii hA _ x t) (fun A i s Q E st h=>wpAny_pyIter_striter_ascii st h),⟨_,Heap.get?_push_size _ rfl,rfl,rfl⟩,hf default,q⟩
end
structure Gives (J:It) (Ok:Hp->Prop) (L:List V):Prop where
 go:∀ i H,Ok H->i < L.length->J.go i H
 yld:∀ i H x H',Ok H->J.yld i H x H'->i < L.length->H'=H/\L[i]?=some x
 stop:∀ H,Ok H->J.stop L.length H
theorem zaY (lo:Int) (n:Nat):Gives (Itr lo n) (fun _=>True) ((List.range n).map fun i=>V.int (lo + (i:Nat))) where
 go:=fun i H _ h=>by
  have:i < n:=by simpa using h
  exact this
 yld:=fun i H x H' _ y h=>by
  obtain ⟨e,rfl⟩:=y
  have:i < n:=by simpa using h
  exact ⟨e,by simp [this]⟩
 stop:=fun H _=>by
  show n<=_
  simp
theorem zdp (x:Str):Gives (Its x) (fun _=>True) (x.cps.toList.map sgn) where
 go:=fun i H _ h=>by
  have:i < x.cps.size:=by simpa using h
  exact this
 yld:=fun i H v H' _ y h=>by
  obtain ⟨e,c,hc,rfl⟩:=y
  refine ⟨e,?_⟩
  rw [List.getElem?_map]
  simp [hc]
 stop:=fun H _=>by
  show _=x.cps.size
  simp
theorem za3 (K:W.Frag) (a:Addr) (xs:List V):Gives (Itl K a) (fun H=>SqL K H a xs) xs where
 go:=fun i H q h=>⟨xs,xs[i],q,by simp [h]⟩
 yld:=fun i H v H' q y h=>⟨y.1,y.2 xs q⟩
 stop:=fun H q=>⟨xs,q,Nat.le_refl _⟩
theorem zdF {J:It} {Ok:Hp->Prop} {L:List V} {g:TG} {tb:TS} {D:Ends} {σ : St} {H:Hp} (G:Gives J Ok L) (Pv:Nat->St->Hp->Prop) (h0:Pv 0 σ H) (hk:∀ i σ H,i<=L.length->Pv i σ H->Ok H)
  (hs:∀ i x σ H,L[i]?=some x->Pv i σ H->g x σ H fun σ2 H2=>tb { D with nx:=Pv (i + 1),ct:=Pv (i + 1),bk:=D.nx } σ2 H2) (hd:∀ σ H,Pv L.length σ H->D.nx σ H) :
  ∃ W:Nat->Nat->St->Hp->Prop,(∃ m,W 0 m σ H)/\∀ i m σ H,W i m σ H ->
   (J.stop i H/\D.nx σ H)\/(J.go i H/\∃ N:St->Hp->Prop,(∀ σ' H',N σ' H'->∃ m',m' < m/\W (i + 1) m' σ' H')/\∀ x H',J.yld i H x H'->g x σ H' fun σ2 H2=>tb { D with nx:=N,ct:=N,bk:=D.nx } σ2 H2):=by
 refine ⟨fun i m σ H=>m=L.length - i/\i<=L.length/\Pv i σ H,⟨L.length,by simp,Nat.zero_le _,h0⟩,?_⟩
 rintro i m σ H ⟨rfl,hi,p⟩
 have q:=hk i σ H hi p
 by_cases hlt:i < L.length
 ·refine .inr ⟨G.go i H q hlt,Pv (i + 1),fun σ' H' p'=>⟨L.length - (i + 1),by omega,rfl,hlt,p'⟩,fun x H' y => ?_⟩
  obtain ⟨e,yy⟩:=G.yld i H x H' q y hlt
  subst e
  exact hs i x σ _ yy p
 ·have e:i=L.length:=by omega
  subst e
  exact .inl ⟨G.stop H q,hd σ H p⟩
noncomputable def CNext (D:Addr) (L:List V) (Pv:Nat->List V->St->Hp->Prop) (i:Nat) (σ2:St) (v:V) (H5:Hp):Prop :=
 ∃ ys,H5 D=some (.lst ys)/\ys.length < sizeLine/\∃ m',m' < L.length - i/\(m'=L.length - (i + 1)/\i + 1<=L.length/\∃ xs,Pv (i + 1) xs σ2 (upd H5 D (.lst (ys ++ [v]))))
noncomputable def CSkip (L:List V) (Pv:Nat->List V->St->Hp->Prop) (i:Nat) (σ2:St) (H4:Hp):Prop :=
 ∃ m',m' < L.length - i/\(m'=L.length - (i + 1)/\i + 1<=L.length/\∃ xs,Pv (i + 1) xs σ2 H4)
theorem CNext.of {D:Addr} {L:List V} {Pv:Nat->List V->St->Hp->Prop} {i:Nat} {σ2:St} {v:V} {H5:Hp} {xs:List V} (hi:i < L.length) (hL:L.length<=sizeLine) (h5:H5 D=some (.lst xs)) (hx:xs.length<=i) (p:Pv (i + 1) (xs ++ [v]) σ2 (upd H5 D (.lst (xs ++ [v])))):CNext D L Pv i σ2 v H5 :=
 ⟨xs,h5,by omega,L.length - (i + 1),by omega,rfl,hi,_,p⟩
theorem CSkip.of {L:List V} {Pv:Nat->List V->St->Hp->Prop} {i:Nat} {σ2:St} {H4:Hp} {xs:List V} (hi:i < L.length) (p:Pv (i + 1) xs σ2 H4):CSkip L Pv i σ2 H4:=⟨L.length - (i + 1),by omega,rfl,hi,_,p⟩
theorem comp_g {J:It} {Ok:Hp->Prop} {L:List V} {g:TG} {tf:TT} {te:TE} {D:Addr} {σ0:St} {H1:Hp} {Q:VK} (G:Gives J Ok L) (Pv:Nat->List V->St->Hp->Prop) (h0:Pv 0 [] σ0 (upd H1 D (.lst [])))
  (hk:∀ i xs σ H,i<=L.length->Pv i xs σ H->Ok H)
  (hs:∀ i x xs σ H,i < L.length->L[i]?=some x->Pv i xs σ H->g x σ H fun σ2 H3=>tf σ2 H3 fun b H4=>if b=true then te σ2 H4 fun v H5=>CNext D L Pv i σ2 v H5 else CSkip L Pv i σ2 H4)
  (hd:∀ xs σ H,Pv L.length xs σ H->Q (.ref D) H) :
  CompW J D σ0 H1 g tf te Q:=by
 refine ⟨fun i m σ H=>m=L.length - i/\i<=L.length/\∃ xs,Pv i xs σ H,⟨L.length,by simp,Nat.zero_le _,[],h0⟩,?_⟩
 rintro i m σ H ⟨rfl,hi,xs,p⟩
 have q:=hk i xs σ H hi p
 by_cases hlt:i < L.length
 ·refine .inr ⟨G.go i H q hlt,fun x H' y => ?_⟩
  obtain ⟨e,yy⟩:=G.yld i H x H' q y hlt
  subst e
  exact hs i x xs σ _ hlt yy p
 ·have e:i=L.length:=by omega
  subst e
  exact .inl ⟨G.stop H q,hd xs σ H p⟩
theorem Same.put {H0 H:Hp} {p:Addr} {o:HO} (s:Same H0 H) (n:H0 p=none):Same H0 (upd H p o):=fun b u e=>by
 rw [zal (zas e n)]
 exact s b u e
theorem Same.new {H:Hp} {p:Addr} {o:HO} (n:H p=none):Same H (upd H p o):=(Same.refl H).put n
theorem zbk {α : Type} {l:List α} {i:Nat} {x : α} (h:l[i]?=some x):l.take (i + 1)=l.take i ++ [x]:=by
 rw [List.take_add_one,h]
 rfl
theorem zb0 {J:It} {Ok:Hp->Prop} {L:List V} {tf:TT} {te:TE} {D:Addr} {σ0 capv:St} {H1:Hp} {Q:VK} (hσ : σ0=none :: capv) (G:Gives J Ok L) (hL:L.length<=sizeLine) (hD:H1 D=none) (hOk:∀ H,Same H1 H->Ok H) (p:V->Bool) (F:V->V)
  (ht:∀ x∈L,∀ H R,Same H1 H->(∀ H',Same H H'->R (p x) H')->tf (some x :: capv) H R)
  (he:∀ x∈L,p x=true->∀ H R,Same H1 H->(∀ H',Same H H'->R (F x) H')->te (some x :: capv) H R)
  (hd:∀ H,Same H1 H->H D=some (.lst ((L.filter p).map F))->Q (.ref D) H) :
  CompW J D σ0 H1 (gName 0) tf te Q:=by
 subst hσ
 refine comp_g G (fun i xs σ H=>(∃ o,σ = o :: capv)/\Same H1 H/\H D=some (.lst xs)/\xs=((L.take i).filter p).map F) ⟨⟨none,rfl⟩,Same.new hD,zaf,by simp⟩ (fun i xs σ H _ h=>hOk H h.2.1) ?_ ?_
 ·rintro i x xs σ H hi hx ⟨⟨o,rfl⟩,s,e,exs⟩
  have hm:x∈L:=List.mem_of_getElem? hx
  have hxl:xs.length<=i:=by
   rw [exs,List.length_map]
   exact Nat.le_trans (List.length_filter_le _ _) (by rw [List.length_take]; omega)
  show tf (some x :: capv) H _
  refine ht x hm H _ s fun H' s' => ?_
  cases hp:p x with
  | true =>
   rw [if_pos rfl]
   refine he x hm hp H' _ (s.trans s') fun H'' s'' => ?_
   have e'':H'' D=some (.lst xs):=s'' _ _ (s' _ _ e)
   refine CNext.of hi hL e'' hxl ⟨⟨some x,rfl⟩,((s.trans s').trans s'').put hD,zaf,?_⟩
   rw [zbk hx,List.filter_append,List.map_append,exs]
   simp [hp]
  | false =>
   rw [if_neg Bool.false_ne_true]
   refine CSkip.of hi ⟨⟨some x,rfl⟩,s.trans s',s' _ _ e,?_⟩
   rw [zbk hx,List.filter_append,List.map_append,exs]
   simp [hp]
 ·rintro xs σ H ⟨_,s,e,exs⟩
  refine hd H s ?_
  rw [e,exs,List.take_length]
theorem walk_list {P:Program} {w:World} {A:Around} {E:Value->Shared->Prop} {s:Shared} {a:Addr} {its:List Value} {Q:Value->Shared->Prop} (hh:A.handled=none) (hl:s.heap.IsList a its.toArray)
  (h:∀ (I:Addr) (s2:Shared),s2={ s with heap:=s.heap.push { cls := .type "list_iterator",data := .fields #[.ref a,.int 0 0] } }->I=s.heap.objs.size ->
   Walks P w A I [I,a] [I] its.length (fun i v=>its[i]?=some v) (fun i h=>h.IsListIter I a i/\h.IsList a its.toArray)->(s2.heap.IsListIter I a 0/\s2.heap.IsList a its.toArray)->(∀ b ∈ [I,a],b < s2.heap.objs.size) ->
   (∀ h':Heap,(∀ b o,b ∉ [I]->s2.heap.get? b=some o->h'.get? b=some o)->∀ b o,s.heap.get? b=some o->h'.get? b=some o)->Q (.ref I) s2) :
  wpAny (model P w) A (pyIter (.ref a)) Q E s:=by
 have hlt:a < s.heap.objs.size:=by obtain ⟨_,e,_⟩:=hl; exact Heap.lt_size e
 refine wpAny_pyIter_list hl (h _ _ rfl rfl ?_ ⟨⟨_,Heap.get?_push_size _ rfl,rfl,rfl⟩,hl.push _⟩ (fun b hb => ?_) (fun h' k b o e=>k b o ?_ (Heap.get?_push_of_some _ e)))
 ·have W:=Walks.list (prog:=P) (w:=w) (A:=A) hh s.heap.objs.size a (Nat.ne_of_lt hlt) its.toArray
  simpa using W
 ·show b < (s.heap.push _).objs.size
  rw [Heap.size_push]
  rcases List.mem_cons.mp hb with rfl | hb
  ·exact Nat.lt_succ_self _
  ·have e:b=a:=by simpa using hb
   subst e
   exact Nat.lt_succ_of_lt hlt
 ·intro z
  have e2:b=s.heap.objs.size:=by simpa using z
  subst e2
  exact absurd (Heap.lt_size e) (Nat.lt_irrefl _)
theorem vals_get {xs:List V} {us:List Value} (r:Vals xs us) {i:Nat} {u:Value} (h:us[i]?=some u):∃ x,xs[i]?=some x/\RelV x u:=by
 have hi:i < xs.length:=by rw [r.length]; exact (List.getElem?_eq_some_iff.mp h).1
 obtain ⟨u',hu,ru⟩:=r.get (x:=xs[i]) (i:=i) (by simp [hi])
 rw [h] at hu
 cases hu
 exact ⟨_,by simp [hi],ru⟩
theorem range_all_map (bs:List Bool):(List.range bs.length).all (fun i=>bs.getD i false)=bs.all id:=by
 rw [Bool.eq_iff_iff,List.all_eq_true,List.all_eq_true]
 constructor
 ·intro h x hx
  obtain ⟨i,hi,e⟩:=List.mem_iff_getElem.mp hx
  have:=h i (List.mem_range.mpr hi)
  simp only [List.getD_eq_getElem?_getD,hi,getElem?_pos,Option.getD_some,e] at this
  exact this
 ·intro h i hi
  have hi':=List.mem_range.mp hi
  simp only [List.getD_eq_getElem?_getD,hi',getElem?_pos,Option.getD_some]
  exact h _ (List.getElem_mem hi')
section
variable {X:Cx}
theorem truth_bl {P:Program} {w:World} {A:Around} {bs:List Bool} {its:List Value} (r:Vals (bs.map V.bl) its):TruthOf P w A (fun i v=>its[i]?=some v) (fun i=>bs.getD i false):=by
 intro i v s Q E hv q
 obtain ⟨x,hx,rx⟩:=vals_get r hv
 rw [List.getElem?_map] at hx
 cases e:bs[i]? with
 | none=>rw [e] at hx; cases hx
 | some b =>
  rw [e] at hx
  cases hx
  cases (show v=Value.bool b from rx)
  refine wpAny_truthy_bool ?_
  have eb:bs.getD i false=b:=by rw [List.getD_eq_getElem?_getD,e]; rfl
  rw [<- eb]
  exact q
theorem zc6 (hc:X.calm=true):CallR X (.builtin "all") (fun xs H Q=>∃ (a:Addr) (bs:List Bool),xs = [V.ref a]/\SqL X.K H a (bs.map V.bl)/\Q (.bl (bs.all id)) H):=by
 intro pins s σ H xs us Q I r h
 obtain ⟨a,bs,rfl,hq,q⟩:=h
 obtain ⟨u,rfl,ru⟩:=zce r
 cases ru
 obtain ⟨its,rv,p,hz⟩:=I.list hq
 refine call_all_walk (walk_list (A:=X.A.in1) (I.ok.hd hc) p.isList fun It s2 e2 eI W st hf old => ?_)
 have hl:bs.length=its.length:=by have:=rv.length; rwa [List.length_map] at this
 refine ⟨It,_,_,its.length,_,_,_,rfl,W,st,truth_bl rv,fun h' tk k => ?_⟩
 subst e2
 rw [<- hl,range_all_map]
 exact ⟨.bl _,H,I.kept (t':=tk) (old h' k),rfl,q⟩
theorem zci:∀ {ns:List Int} {its:List Value},Vals (ns.map V.int) its->IntsAre its ns
 | [],_,r=>by rw [List.map_nil] at r; cases r; exact .nil
 | n :: ns,_,r=>by
  rw [List.map_cons] at r
  cases r with
  | cons h t =>
   obtain ⟨tk,e⟩:=(show ∃ t,_=Value.int n t from h)
   subst e
   exact .cons n tk (zci t)
noncomputable def many (ns:List Int):Nat:=(firstMet (fun i=>ns.getD i 0) ns.length).length
theorem call_set1 (hc:X.calm=true):CallR X (.type "set") (fun xs H Q=>∃ (a:Addr) (ns:List Int),xs = [V.ref a]/\SqL X.K H a (ns.map V.int)/\ns.length + 1 < scanBound/\∀ p,H p=none->Q (.ref p) (upd H p (.set (fun k=>(firstMet (fun i=>ns.getD i 0) ns.length).any (· == k)) (many ns)))):=by
 intro pins s σ H xs us Q I r h
 obtain ⟨a,ns,rfl,hq,hb,q⟩:=h
 obtain ⟨u,rfl,ru⟩:=zce r
 cases ru
 obtain ⟨its,rv,p,hz⟩:=I.list hq
 have hl:ns.length=its.length:=by have:=rv.length; rwa [List.length_map] at this
 have hsz:its.toArray.size=ns.length:=by rw [List.size_toArray,hl]
 refine call_set_list (items:=its.toArray) (ns:=ns) (I.ok.hd hc) p.isList (by simpa using zci rv) (by rw [hsz]; exact hb) fun h' tk hS k => ?_
 rw [hsz] at hS
 have I':Inv X pins σ (upd H s.heap.objs.size (.set (fun k=>(firstMet (fun i=>ns.getD i 0) ns.length).any (· == k)) (many ns))) { s with heap:=h',toks:=tk } :=
  I.laid (fun b o e=>k b o (Heap.lt_size e) e) (Nat.le_refl _) hS
 exact ⟨.ref _,_,I',rfl,q _ (I.hok.fresh (Nat.le_refl _))⟩
theorem call_lenS:CallR X (.builtin "len") (fun xs H Q=>∃ a S n,xs = [V.ref a]/\H a=some (.set S n)/\Q (.int n) H):=by
 intro pins s σ H xs us Q I r h
 obtain ⟨a,S,n,rfl,hq,q⟩:=h
 obtain ⟨u,rfl,ru⟩:=zce r
 cases ru
 obtain ⟨o,es,ep,t,h1,h2,h3,h4,h5,h6,h7,h8⟩:=(show s.heap.SetOf (intKind X.prog X.w) a S n from I.hok a _ hq)
 have hfit:(es.size:Int) < 2 ^ 63:=by
  have:(es.size:Int) < 4096:=by unfold scanBound at h6; omega
  exact Int.lt_of_lt_of_le this (by decide)
 exact call_len_set h1 h2 h3 h7 hfit ⟨.int n,H,I.tok _,⟨_,by rw [h8]⟩,q⟩
theorem zdj:OpR X (compareOp .LtE) (fun x y H Q=>∃ i j,x = .str i/\y = .str j/\Q (.bl (!decide (j.cps.toList < i.cps.toList))) H):=by
 intro pins s σ H x y v u Q I rx ry h
 obtain ⟨i,j,rfl,rfl,q⟩:=h
 obtain ⟨t,rfl⟩:=rx
 obtain ⟨t',rfl⟩:=ry
 exact PySem.P.le_str (zay I q rfl)
theorem call_isi {c:Value} {cv:V} (hcv:RelV cv c) (huniq:∀ u,RelV cv u->u=c):CallR X (.builtin "isinstance") (fun xs H Q=>∃ x t b,xs = [x,cv]/\TyOf X.K H x t/\PySem.W.kitOne X.K t c=some b/\Q (.bl b) H):=by
 intro pins s σ H xs us Q I r h
 obtain ⟨x,t,b,rfl,ty,e,q⟩:=h
 obtain ⟨u,u',rfl,ru,ru'⟩:=zeN r
 have:=huniq u' ru'
 subst this
 exact isinst_ok I ru ty e fun tk=>⟨.bl b,H,I.tok _,rfl,q⟩
theorem zbJ (T:String):CallR X (.builtin "isinstance") (fun xs H Q=>∃ x t b,xs = [x,.ty T]/\TyOf X.K H x t/\PySem.W.kitOne X.K t (.type T)=some b/\Q (.bl b) H):=call_isi (c := .type T) (cv := .ty T) rfl fun _ h=>h
end
section
variable {X:Cx}
noncomputable def tCut (t u:TS):TS:=fun D σ H=>∃ M:St->Hp->Prop,t { D with nx:=M } σ H/\∀ σ' H',M σ' H'->u D σ' H'
theorem zaM {st:Stmt} {rest:List Stmt} {t u:TS} (h1:PS X st t) (h2:PSs X rest u):PSs X (st :: rest) (tCut t u):=by
 intro pins s σ H D I h
 obtain ⟨M,h,hM⟩:=h
 refine wpAny_execs_cons (thn (h1 pins s σ H { D with nx:=M } I h) fun f s1 q => ?_)
 cases f with
 | next =>
  obtain ⟨σ',H',I',q⟩:=q
  exact h2 pins s1 σ' H' D I' (hM σ' H' q)
 | ret v=>exact q
 | brk=>exact q
 | cont=>exact q
theorem zbq {scope:Scope} {N:List Str} {cl:List (Str×Addr)} {C:Addr} {s:Shared} {H:Hp} {fp:List Addr} {pn:List (Addr×Obj)} (h:N.Nodup):(cxComp X scope N cl C s H fp pn).N.Nodup:=h
theorem za2 {x:Str} {i:Int} {pos:Pos} (hg:Gl X x) (hm:∃ t,X.mg x=some (.int i t)) (hd:(x == ("__debug__" : Str))=false:=by decide):PE X (.Name x pos) (tC (.int i)):=by
 obtain ⟨t,hm⟩:=hm
 exact zev hg hm ⟨t,rfl⟩ hd
end
theorem ln1 {P:List Value->Prop} {p:Str} (h:∀ a,P [a]):∀ us:List Value,us.length = [p].length->P us
 | [a],_=>h a
theorem ln2 {P:List Value->Prop} {p q:Str} (h:∀ a b,P [a,b]):∀ us:List Value,us.length = [p,q].length->P us
 | [a,b],_=>h a b
theorem ln3 {P:List Value->Prop} {p q r:Str} (h:∀ a b c,P [a,b,c]):∀ us:List Value,us.length = [p,q,r].length->P us
 | [a,b,c],_=>h a b c
theorem ln4 {P:List Value->Prop} {p q r s:Str} (h:∀ a b c d,P [a,b,c,d]):∀ us:List Value,us.length = [p,q,r,s].length->P us
 | [a,b,c,d],_=>h a b c d
theorem ln5 {P:List Value->Prop} {p q r s t:Str} (h:∀ a b c d e,P [a,b,c,d,e]):∀ us:List Value,us.length = [p,q,r,s,t].length->P us
 | [a,b,c,d,e],_=>h a b c d e
structure Callee (P:Program) (w:World) (K:W.Frag) (mg:Str->Option Value) (base:Heap) (x:Str) (k:Nat) (ps:List Str) (sp:Sp):Prop where
 ex:∃ f fd,FnOk P w K mg base CX0 k f fd ps sp/\mg x=some (.ref f)/\PySem.W.keepIn K (.ref f)=true/\Binds K fd ps []/\∃ o,K.lookup f=some o/\o.data = .func fd
structure DefAt (K:W.Frag) (mg:Str->Option Value) (x:Str) (st:Stmt):Prop where
 ex:∃ f fd,Fun K x x st f fd/\mg x=some (.ref f)
theorem def_mk {K:W.Frag} {mg:Str->Option Value} {h:Heap} {x:Str} {st:Stmt} {f:Addr} {oc:Value} {od an:Option Addr} {osl:Array (Option Value)} {kV doc pm cdv ct:Value} (X:K.In h) (G:h.Ns mainGlobals mg)
  (a:PySem.W.nsIn K mainGlobals x=some (some (.ref f)))
  (l:K.lookup f=some ⟨oc,od,.func (PySem.W.fnOf x x (defArgs st) (defBody st) (defScope st) .none kV doc pm an cdv ct),osl⟩)
  (c:PySem.W.codeIn K cdv x=true) (k:PySem.W.keepIn K (.ref f)=true):DefAt K mg x st:=⟨f,_,zeC l c k,PySem.W.mg_of X G a⟩
theorem int_mk {K:W.Frag} {mg:Str->Option Value} {h:Heap} {x:Str} {i:Int} {t:Tok} (X:K.In h) (G:h.Ns mainGlobals mg) (a:PySem.W.nsIn K mainGlobals x=some (some (.int i t))):∃ t,mg x=some (.int i t):=⟨t,PySem.W.mg_of X G a⟩
section
variable {P:Program} {w:World} {K:W.Frag} {mg:Str->Option Value} {base:Heap}
theorem DefAt.callee {x:Str} {st:Stmt} {N ps:List Str} {k:Nat} {sp:Sp} (D:DefAt K mg x st) (S:FnScope N ps (defScope st))
  (hb:∀ (kV doc pm:Value) (an:Option Addr) (cdv ct:Value) (us:List Value),us.length=ps.length->bindArgs (PySem.W.fnOf x x (defArgs st) (defBody st) (defScope st) .none kV doc pm an cdv ct) ⟨us,[]⟩=pure (ps.zip us))
  (len:∀ vs H Q E,sp vs H Q E->vs.length=ps.length)
  (hbody:∀ (f:Addr) (cdv:Value) (A:Around) (outer:List Env) (s:Shared) (H:Hp) (vs:List V) (Q:VK) (E:XK),Room k (A.deeper (envOfC x (defScope st) s.heap.objs.size f cdv))->sp vs H Q E ->
   ∃ t,PSs (cxOf CX0 P w K mg base N x (defScope st) f cdv A outer s H E).nox (defBody st) t/\t { nx:=fun _ H'=>Q .non H',rt:=Q } (start N vs) H):Callee P w K mg base x (k + 1) ps sp:=by
 obtain ⟨f,fd,F,m⟩:=D.ex
 obtain ⟨oc,od,kV,doc,pm,an,cdv,ct,osl,e,lk,hcd⟩:=id F.ex
 exact ⟨f,fd,F.ok S len (fun cdv A outer s H vs Q E hr h=>hbody f cdv A outer s H vs Q E hr h),m,F.kp,F.binds hb,_,lk,rfl⟩
end
section
variable {X:Cx} {x:Str} {k:Nat} {ps:List Str} {sp:Sp} {p pos:Pos} {e:Expr} {es:List Expr} {t:TA}
theorem za1 (C:Callee X.prog X.w X.K X.mg X.base x k ps sp) (hr:Room k X.A) (hg:Gl X x) (ha:PA X (e :: es) t) (hdb:(x == ("__debug__" : Str))=false:=by decide)
  (he:starEach (e :: es) X.env=(false,eval e X.env) :: starEach es X.env:=by rfl) (hpl:(backTo pos (starEach es X.env)).any (·.1)=false:=by rfl):PE X (.Call (.Name x p) (e :: es) [] pos) (tCall sp [] E0 t):=by
 obtain ⟨f,fd,F,hm,hk,hb,_⟩:=C.ex
 exact zew F hr hg hm hk hb .nil zba ha hdb he hpl
end
structure Bn (mg:Str->Option Value):Prop where
 n_len:mg "len" = none
 n_all:mg "all" = none
 n_any:mg "any" = none
 n_max:mg "max" = none
 n_min:mg "min" = none
 n_sum:mg "sum" = none
 n_sorted:mg "sorted" = none
 n_isinstance:mg "isinstance" = none
 n_int:mg "int" = none
 n_bool:mg "bool" = none
 n_str:mg "str" = none
 n_list:mg "list" = none
 n_tuple:mg "tuple" = none
 n_dict:mg "dict" = none
 n_set:mg "set" = none
 n_range:mg "range" = none
 n_reversed:mg "reversed" = none
 n_repr:mg "repr" = none
 n_abs:mg "abs" = none
 n_enumerate:mg "enumerate" = none
 n_zip:mg "zip" = none
theorem bn_mk {K:W.Frag} {mg:Str->Option Value} {h:Heap} (X:K.In h) (G:h.Ns mainGlobals mg)
  (a_len:PySem.W.nsIn K mainGlobals "len" = some none)
  (a_all:PySem.W.nsIn K mainGlobals "all" = some none)
  (a_any:PySem.W.nsIn K mainGlobals "any" = some none)
  (a_max:PySem.W.nsIn K mainGlobals "max" = some none)
  (a_min:PySem.W.nsIn K mainGlobals "min" = some none)
  (a_sum:PySem.W.nsIn K mainGlobals "sum" = some none)
  (a_sorted:PySem.W.nsIn K mainGlobals "sorted" = some none)
  (a_isinstance:PySem.W.nsIn K mainGlobals "isinstance" = some none)
  (a_int:PySem.W.nsIn K mainGlobals "int" = some none)
  (a_bool:PySem.W.nsIn K mainGlobals "bool" = some none)
  (a_str:PySem.W.nsIn K mainGlobals "str" = some none)
  (a_list:PySem.W.nsIn K mainGlobals "list" = some none)
  (a_tuple:PySem.W.nsIn K mainGlobals "tuple" = some none)
  (a_dict:PySem.W.nsIn K mainGlobals "dict" = some none)
  (a_set:PySem.W.nsIn K mainGlobals "set" = some none)
  (a_range:PySem.W.nsIn K mainGlobals "range" = some none)
  (a_reversed:PySem.W.nsIn K mainGlobals "reversed" = some none)
  (a_repr:PySem.W.nsIn K mainGlobals "repr" = some none)
  (a_abs:PySem.W.nsIn K mainGlobals "abs" = some none)
  (a_enumerate:PySem.W.nsIn K mainGlobals "enumerate" = some none)
  (a_zip:PySem.W.nsIn K mainGlobals "zip" = some none)
  : Bn mg:=⟨PySem.W.mg_none_of X G a_len,PySem.W.mg_none_of X G a_all,PySem.W.mg_none_of X G a_any,PySem.W.mg_none_of X G a_max,PySem.W.mg_none_of X G a_min,PySem.W.mg_none_of X G a_sum,PySem.W.mg_none_of X G a_sorted,PySem.W.mg_none_of X G a_isinstance,PySem.W.mg_none_of X G a_int,PySem.W.mg_none_of X G a_bool,PySem.W.mg_none_of X G a_str,PySem.W.mg_none_of X G a_list,PySem.W.mg_none_of X G a_tuple,PySem.W.mg_none_of X G a_dict,PySem.W.mg_none_of X G a_set,PySem.W.mg_none_of X G a_range,PySem.W.mg_none_of X G a_reversed,PySem.W.mg_none_of X G a_repr,PySem.W.mg_none_of X G a_abs,PySem.W.mg_none_of X G a_enumerate,PySem.W.mg_none_of X G a_zip⟩
theorem DefAt.entry {P:Program} {w:World} {K:W.Frag} {mg:Str->Option Value} {x p:Str} {st:Stmt} {k:Nat} {sp:Sp} {fa:Addr} (D:DefAt K mg x st) (hfa:mg x=some (.ref fa))
  (hb:∀ (kV doc pm:Value) (an:Option Addr) (cdv ct v:Value),bindArgs (PySem.W.fnOf x x (defArgs st) (defBody st) (defScope st) .none kV doc pm an cdv ct) ⟨[v],[]⟩=pure [(p,v)])
  (C:∀ base:Heap,Callee P w K mg base x k [p] sp) :
  ∃ fd:FuncData,(∀ (s:Shared) (v:Value),BindsTo s fd ⟨[v],[]⟩ [(p,v)])/\∀ base:Heap,K.In base->base.Ns mainGlobals mg->FnOk P w K mg base CX0 k fa fd [p] sp:=by
 obtain ⟨f,fd,F,m⟩:=D.ex
 rw [m] at hfa
 cases hfa
 obtain ⟨oc,od,kV,doc,pm,an,cdv,ct,osl,rfl,lk,hcd⟩:=F.ex
 refine ⟨_,fun s v => .of_eq (hb kV doc pm an cdv ct v),fun base _ _ => ?_⟩
 obtain ⟨f',fd',G,m',_,_,o,lo,ed⟩:=(C base).ex
 rw [m] at m'
 cases m'
 rw [lk] at lo
 cases lo
 cases ed
 exact G
structure Fly (B:Heap) (l:List Env) (x:Addr) (c fl:Value) (h:Heap):Prop where
 stay:B.StaysIn h
 new:B.get? x=none
 frs:h.FunFrames B l
 obj:∃ (oe:Obj) (vs:Array Value) (T:Addr) (oT:Obj) (ts:Array Value),h.get? x=some oe/\(oe.cls=c/\oe.dict=none)/\oe.data = .fields vs/\vs[1]?=some (.ref T)/\vs[2]?=some .none/\B.get? T=none/\T≠x/\h.get? T=some oT/\oT.data = .fields ts/\ts[3]?=some fl
structure Fresh (B:Heap) (l:List Env) (x:Addr) (c:Value) (h:Heap):Prop where
 stay:B.StaysIn h
 new:B.get? x=none
 frs:h.FunFrames B l
 obj:∃ (oe:Obj) (vs:Array Value),h.get? x=some oe/\(oe.cls=c/\oe.dict=none)/\oe.data = .fields vs/\vs[1]?=some .none/\vs[2]?=some .none
section
variable {M:Model} {A:Around} {E:Value->Shared->Prop} {s:Shared} {B:Heap} {l outer:List Env} {env:Env} {x L:Addr} {c:Value}
theorem dict_mapFields (o:Obj) (f:Array Value->Array Value):(o.mapFields f).dict=o.dict:=by
 unfold Obj.mapFields
 split <;> rfl
theorem zaD {h:Heap} {a b:Addr} {o:Obj} {vs:Array Value} {f:Array Value->Array Value} (ha:h.get? a=some o) (hd:o.data = .fields vs) :
  (h.update a (Obj.mapFields f)).get? a=some (o.mapFields f)/\(b≠a->(h.update a (Obj.mapFields f)).get? b=h.get? b) :=
 ⟨Heap.get?_update_self _ ha (Obj.isFreed_of_fields (Obj.data_mapFields hd f)),fun hb=>Heap.get?_update_other _ _ (Ne.symm hb)⟩
theorem zdr {oe:Obj} {vs:Array Value} {head:Value} {hadNext:Bool} {Q:Unit->Shared->Prop} (hfr:A.frames=some (env :: outer)) (hl:s.heap.FunFrames B (env :: outer)) (hf:env.frame=some L)
  (st:B.StaysIn s.heap) (nx:B.get? x=none) (hx:s.heap.get? x=some oe) (hc:oe.cls=c/\oe.dict=none) (hd:oe.data = .fields vs) (h2:vs[2]?=some .none)
  (k:∀ h',Fly B (env :: outer) x c (rawInt L) h'->s.heap.UpToSlots h'->Q () { s with heap:=h' }) :
  wpAny M A (do let a <- frameOf env; let pl <- entryPlaceOf L hadNext; let b <- EntryCells.newEntry head a .none (rawInt L) .none pl; setField (.ref x) 1 b) Q E s:=by
 have hsz:2 < vs.size:=(Array.getElem?_eq_some_iff.mp h2).1
 have xnf:x ∉ (env :: outer).filterMap (·.frame):=fun hm=>by
  obtain ⟨_,o,ho,hno⟩:=hl.mem hm
  rw [hx] at ho
  cases ho
  exact hno vs hd
 refine wpAny_bind (wpAny_frameOf_fun hfr hl hf fun g1 so=>wpAny_bind (wpAny_entryPlaceOf fun pl hpl => ?_))
 unfold EntryCells.newEntry newFields
 refine wpAny_bind (wpAny_newObj_type ?_ (hpl.sizeOk5 _ _ _ _ _))
 have hx1:g1.get? x=some oe:=(so.2.1 x xnf).trans hx
 have st1:B.StaysIn g1:=fun b o hb=>by
  refine (so.2.1 b fun hm => ?_).trans (st b o hb)
  have:=(hl.mem hm).1
  rw [hb] at this
  cases this
 have big:x < g1.objs.size:=Heap.lt_size hx1
 generalize hnew:({ cls := .type "traceback",dict:=none,data := .fields ([head,.ref L,.none,rawInt L,.none] ++ (if pl.isEmpty then List.replicate 6 Value.none else pl)).toArray }:Obj)=tb
 have hx2:(g1.push tb).get? x=some oe:=Heap.get?_push_of_some tb hx1
 refine wpAny_setField hx2 hd (by omega) (k _ ?_ ?_)
 ·have tx:g1.objs.size≠x:=Nat.ne_of_gt big
  obtain ⟨e1,e2⟩:=zaD (b:=g1.objs.size) (f:=fun a=>a.setIfInBounds 1 (Value.ref g1.objs.size)) hx2 hd
  have hT:(g1.push tb).get? g1.objs.size=some tb:=Heap.get?_push_size g1 (by rw [<- hnew]; rfl)
  refine ⟨fun b o hb => ?_,nx,hl.of_keeps fun b o hb hno => ?_,_,_,g1.objs.size,tb,_,e1,⟨(Obj.cls_mapFields _ _).trans hc.1,(dict_mapFields _ _).trans hc.2⟩,Obj.data_mapFields hd _,(by show (vs.setIfInBounds 1 (Value.ref g1.objs.size))[1]?=_; simp [show 1 < vs.size by omega]),?_,st1.fresh,tx,(e2 tx).trans hT,by rw [<- hnew],?_⟩
  ·obtain ⟨_,e3⟩:=zaD (b:=b) (f:=fun a=>a.setIfInBounds 1 (Value.ref g1.objs.size)) hx2 hd
   refine (e3 fun z => ?_).trans (Heap.get?_push_of_some tb (st1 b o hb))
   rw [z,nx] at hb
   cases hb
  ·have bx:b≠x:=fun z=>by
    rw [z,hx] at hb
    cases hb
    exact hno vs hd
   obtain ⟨sl,hs⟩:=so.2.2 b o hb
   obtain ⟨_,e3⟩:=zaD (b:=b) (f:=fun a=>a.setIfInBounds 1 (Value.ref g1.objs.size)) hx2 hd
   exact ⟨_,(e3 bx).trans (Heap.get?_push_of_some tb hs),rfl⟩
  ·rw [Array.getElem?_setIfInBounds_ne (by decide)]
   exact h2
  ·rcases hpl with rfl | ⟨_,_,_,_,_,_,_,rfl⟩ <;> rfl
 ·intro b o hb hno
  have bx:b≠x:=fun z=>by
   rw [z,hx] at hb
   cases hb
   exact hno vs hd
  obtain ⟨sl,hs⟩:=so.2.2 b o hb
  obtain ⟨_,e3⟩:=zaD (b:=b) (f:=fun a=>a.setIfInBounds 1 (Value.ref g1.objs.size)) hx2 hd
  exact ⟨sl,(e3 bx).trans (Heap.get?_push_of_some tb hs)⟩
theorem zcl {fl:Value} {Q:Unit->Shared->Prop} (F:Fly B l x c fl s.heap) (k:∀ h',Fly B l x c .none h'->s.heap.UpToSlots h'->Q () { s with heap:=h' }):wpAny M A (setFlight (.ref x) none) Q E s:=by
 obtain ⟨oe,vs,T,oT,ts,hx,hc,hd,h1,h2,nT,tx,hT,dT,h3⟩:=F.obj
 have hsz:3 < ts.size:=(Array.getElem?_eq_some_iff.mp h3).1
 unfold setFlight
 refine wpAny_bind (wpAny_field hx hd h1 ?_)
 rw [if_pos (by simp)]
 refine wpAny_setField hT dT hsz (k _ ?_ ?_)
 ·have e:∀ b,b≠T->(s.heap.update T (Obj.mapFields (·.setIfInBounds 3 ((none:Option Addr).elim Value.none fun f=>rawInt f)))).get? b=s.heap.get? b:=fun b hb=>(zaD hT dT).2 hb
  refine ⟨fun b o hb=>(e b fun z => ?_).trans (F.stay b o hb),F.new,F.frs.of_keeps fun b o hb hno=>⟨o,(e b fun z => ?_).trans hb,rfl⟩,oe,vs,T,_,_,(e x (Ne.symm tx)).trans hx,hc,hd,h1,h2,nT,tx,(zaD (b:=T) hT dT).1,Obj.data_mapFields dT _,by simp [hsz]⟩
  ·rw [z,nT] at hb; cases hb
  ·rw [z,hT] at hb; cases hb; exact hno ts dT
 ·intro b o hb hno
  refine ⟨o.slots,((zaD hT dT).2 fun z => ?_).trans hb⟩
  rw [z,hT] at hb; cases hb; exact hno ts dT
theorem zd9 {Q:Unit->Shared->Prop} (hfr:A.frames=some (env :: outer)) (hf:env.frame=some L) (F:Fly B (env :: outer) x c .none s.heap)
  (k:∀ h',Fly B (env :: outer) x c (rawInt L) h'->s.heap.UpToSlots h'->Q () { s with heap:=h' }):wpAny M A (noteFrame (.ref x) env) Q E s:=by
 obtain ⟨oe,vs,T,oT,ts,hx,hc,hd,h1,h2,nT,tx,hT,dT,h3⟩:=F.obj
 have hsz:3 < ts.size:=(Array.getElem?_eq_some_iff.mp h3).1
 unfold noteFrame
 simp only [hf]
 refine wpAny_bind (wpAny_field hx hd h1 ?_)
 rw [if_pos (by simp)]
 refine wpAny_bind (wpAny_field hT dT h3 ?_)
 rw [if_neg (by simp [rawInt])]
 refine wpAny_bind (wpAny_setField hT dT hsz ?_)
 have e:∀ b,b≠T->(s.heap.update T (Obj.mapFields (·.setIfInBounds 3 Value.none))).get? b=s.heap.get? b:=fun b hb=>(zaD hT dT).2 hb
 have nf:∀ b o,s.heap.get? b=some o->(∀ vs,o.data ≠ .fields vs)->b≠T:=fun b o hb hno z=>by
  rw [z,hT] at hb; cases hb; exact hno ts dT
 refine zdr hfr (F.frs.of_keeps fun b o hb hno=>⟨o,(e b (nf b o hb hno)).trans hb,rfl⟩) hf (fun b o hb=>(e b fun z => ?_).trans (F.stay b o hb)) F.new ((e x (Ne.symm tx)).trans hx) hc hd h2 fun h' F' u=>k h' F' fun b o hb hno => ?_
 ·rw [z,nT] at hb; cases hb
 ·exact u b o ((e b (nf b o hb hno)).trans hb) hno
theorem fresh_note {Q:Unit->Shared->Prop} (hfr:A.frames=some (env :: outer)) (hf:env.frame=some L) (F:Fresh B (env :: outer) x c s.heap)
  (k:∀ h',Fly B (env :: outer) x c (rawInt L) h'->s.heap.UpToSlots h'->Q () { s with heap:=h' }):wpAny M A (noteFrame (.ref x) env) Q E s:=by
 obtain ⟨oe,vs,hx,hc,hd,h1,h2⟩:=F.obj
 unfold noteFrame
 simp only [hf]
 refine wpAny_bind (wpAny_field hx hd h1 ?_)
 rw [if_neg (by decide)]
 exact zdr hfr F.frs hf F.stay F.new hx hc hd h2 k
theorem Fly.tail {fl:Value} {h:Heap} (F:Fly B (env :: outer) x c fl h):Fly B outer x c fl h:=⟨F.stay,F.new,F.frs.2.2,F.obj⟩
theorem fly_leave {Q:Unit->Shared->Prop} (hfr:A.frames=some (env :: outer)) (hf:env.frame=some L) (F:Fly B (env :: outer) x c .none s.heap)
  (k:∀ h',Fly B outer x c .none h'->s.heap.UpToSlots h'->Q () { s with heap:=h' }):wpAny M A (leaving env (.ref x)) Q E s:=by
 unfold leaving
 exact wpAny_bind (zd9 hfr hf F fun h1 F1 u1=>zcl (s:={ s with heap:=h1 }) F1 fun h2 F2 u2=>k h2 F2.tail (u1.trans u2))
theorem fresh_leave {Q:Unit->Shared->Prop} (hfr:A.frames=some (env :: outer)) (hf:env.frame=some L) (F:Fresh B (env :: outer) x c s.heap)
  (k:∀ h',Fly B outer x c .none h'->s.heap.UpToSlots h'->Q () { s with heap:=h' }):wpAny M A (leaving env (.ref x)) Q E s:=by
 unfold leaving
 exact wpAny_bind (fresh_note hfr hf F fun h1 F1 u1=>zcl (s:={ s with heap:=h1 }) F1 fun h2 F2 u2=>k h2 F2.tail (u1.trans u2))
end
section
variable {P:Program} {w:World}
theorem ObjOk.there {H:Hp} {h:Heap} {a:Addr} {o:HO} (x:ObjOk P w H h a o):∃ ob,h.get? a=some ob:=by
 cases o with
 | lst xs=>obtain ⟨_,_,_,_,e⟩:=x; exact ⟨_,e⟩
 | tup xs=>obtain ⟨_,_,_,o,e,_⟩:=x; exact ⟨o,e⟩
 | dK kvs=>obtain ⟨_,_,_,_,o,_,_,e,_⟩:=x; exact ⟨o,e⟩
 | dT kvs=>obtain ⟨_,_,_,_,o,_,_,e,_⟩:=x; exact ⟨o,e⟩
 | set S n=>obtain ⟨o,_,_,_,e,_⟩:=x; exact ⟨o,e⟩
 | ins C dx fs=>obtain ⟨_,_,_,e,_⟩:=x; exact ⟨_,e⟩
 | own y=>exact x
 | xd fs=>obtain ⟨_,⟨o,_,_,e,_⟩,_⟩:=x; exact ⟨o,e⟩
 | rng lo hi=>obtain ⟨_,_,_,e⟩:=x; exact ⟨_,e⟩
 | frz ob u=>obtain ⟨e,_⟩:=x; exact ⟨_,e⟩
 | tbl ps=>exact ⟨_,(show h.get? a=some _ from x)⟩
 | met f y=>exact ⟨_,(show h.get? a=some _ from x)⟩
 | ext φ => obtain ⟨_,e,_⟩:=x; exact e
noncomputable def CX1 (P:Program) (w:World):CXT:=fun outer H s E e s'=>∃ (x:Addr) (c:Value) (B:Heap) (H':Hp),e = .ref x/\Fly B outer x c .none s'.heap/\s'.os=s.os/\AllBare s'.gens/\Un (frs outer) [] H H' s.heap s'.heap/\HOk P w H' s'.heap/\H' x=none /\
 (∀ b o,H' b=some o->∃ ob,B.get? b=some ob)/\(∀ b o,s.heap.get? b=some o->b ∉ frs outer->∃ ob,B.get? b=some ob)/\E c none H'
theorem zdG {B h h':Heap} {H:Hp} (ok:HOk P w H h) (st:B.StaysIn h) (st':B.StaysIn h') (inB:∀ b o,H b=some o->∃ ob,B.get? b=some ob):HOk P w H h':=fun a o e=>by
 refine (ok a o e).stay (fun b u hb q => ?_) (fun _ q=>q) fun _ _ q=>q
 have ⟨ob,hB⟩:∃ ob,B.get? b=some ob:=by
  rcases hb with z | z
  ·rw [z]; exact inB a o e
  ·exact inB b _ z
 have:=st b ob hB
 rw [q] at this
 cases this
 exact st' b _ hB
theorem zeE {B h0 h h':Heap} {fs:List Addr} {H H':Hp} (u:Un fs [] H H' h0 h) (st:B.StaysIn h) (st':B.StaysIn h') (up:h.UpToSlots h') (inB:∀ b o,h0.get? b=some o->b ∉ fs->∃ ob,B.get? b=some ob)
  (hfs:∀ b∈fs,∀ o,h.get? b=some o->∀ vs,o.data ≠ .fields vs):Un fs [] H H' h0 h' where
 keep:=fun b o e n hb hx=>by
  obtain ⟨ob,hB⟩:=inB b o e hb
  have q:=u.keep b o e n hb hx
  have:=st b ob hB
  rw [q] at this
  cases this
  exact st' b _ hB
 slot:=fun b o e n hb hx=>by
  obtain ⟨sl,q⟩:=u.slot b o e n hb hx
  obtain ⟨sl',q'⟩:=up b _ q (hfs b hb _ q)
  exact ⟨sl',q'⟩
 free:=u.free
 there:=fun b o e hx=>by
  by_cases hb:b∈fs
  ·obtain ⟨o',q⟩:=u.there b o e hx
   obtain ⟨sl,q'⟩:=up b o' q (hfs b hb o' q)
   exact ⟨_,q'⟩
  ·obtain ⟨ob,hB⟩:=inB b o e hb
   exact ⟨ob,st' b ob hB⟩
 tups:=u.tups
 frzs:=u.frzs
 tbls:=u.tbls
theorem zcm {B h:Heap} {l:List Env} (f:h.FunFrames B l):∀ b∈frs l,∀ o,h.get? b=some o->∀ vs,o.data ≠ .fields vs:=fun b hb o e vs=>by
 obtain ⟨_,o',e',hno⟩:=f.mem hb
 rw [e] at e'
 cases e'
 exact hno vs
theorem zcH {X:Cx} {pins:List (Addr×Obj)} {σ : St} {H H':Hp} {s:Shared} {h':Heap} (I:Inv X pins σ H s) (hex:X.ex = []) (u:Un (frs X.stack) [] H H' s.heap h'):Un X.fs [] X.H₀ H' X.s₀.heap h':=by
 have nl:∀ b o,X.s₀.heap.get? b=some o->b≠X.env.locals:=fun b o e=>Nat.ne_of_lt (Nat.lt_of_lt_of_le (Heap.lt_size e) I.ok.above)
 have nst:∀ b o,X.s₀.heap.get? b=some o->b ∉ X.fs->b ∉ frs X.stack:=fun b o e hb z=>(List.mem_cons.mp (I.stkSub b z)).elim (nl b o e) hb
 have B:=I.base
 rw [hex] at B
 refine ⟨fun b o e n hb hx=>u.keep b o (B.keep b o e n hb hx) (B.free b o e n hx) (nst b o e hb) hx,fun b o e n hb hx => ?_,fun b o e n hx => ?_,fun b o e hx => ?_,fun b xs e=>u.tups b xs (B.tups b xs e),fun b o v e=>u.frzs b o v (B.frzs b o v e),fun b ps e => ?_⟩
 ·obtain ⟨sl,e1⟩:=B.slot b o e n hb hx
  obtain ⟨sl',e2⟩:=u.any e1 (B.free b o e n hx) hx
  exact ⟨sl',e2⟩
 ·obtain ⟨o',e1⟩:=B.there b o e hx
  exact u.free b o' e1 (B.free b o e n hx) hx
 ·obtain ⟨o',e1⟩:=B.there b o e hx
  exact u.there b o' e1 hx
 ·obtain ⟨m1,e1⟩:=B.tbls b ps e
  obtain ⟨m2,e2⟩:=u.tbls b _ e1
  exact ⟨m1 ++ m2,by rw [e2,Array.append_assoc]⟩
theorem zaK {K:W.Frag} {mg:Str->Option Value} {base:Heap} {N:List Str} {qual:Str} {scope:Scope} {f:Addr} {cd:Value} {A:Around} {outer:List Env} {s₀ : Shared} {H₀ : Hp} {E:XK} :
  Passes (CX1 P w) (cxOf (CX1 P w) P w K mg base N qual scope f cd A outer s₀ H₀ E) E:=by
 intro pins σ H s e s' I h
 obtain ⟨x,c,B,H',rfl,F,ho,hg,u,ok,nx,inB,old,q⟩:=h
 have hfr:(A.deeper (envOfC qual scope s₀.heap.objs.size f cd)).frames=some (envOfC qual scope s₀.heap.objs.size f cd :: outer):=I.ok.frames
 have ut:Un (frs outer) [] H₀ H' s₀.heap s'.heap:=zcH I rfl u
 have old':∀ b o,s₀.heap.get? b=some o->b ∉ frs outer->∃ ob,B.get? b=some ob:=fun b o e hb=>by
  obtain ⟨o',e1⟩:=I.base.there b o e (by show b ∉ ([]:List Addr); simp)
  refine old b o' e1 fun z => ?_
  rcases List.mem_cons.mp (I.stkSub b z) with z | z
  ·exact absurd (Nat.lt_of_lt_of_le (Heap.lt_size e) I.ok.above) (by rw [z]; exact Nat.lt_irrefl _)
  ·exact hb z
 show wpAny (model P w) _ (leaving _ (.ref x)) _ _ s'
 refine fly_leave hfr rfl F fun h' F' up=>⟨x,c,B,H',rfl,F',(show s'.os=s₀.os from ho.trans I.os),hg,zeE ut F.stay F'.stay up old' (zcm F.tail.frs),zdG ok F.stay F'.stay inB,nx,inB,old',q⟩
theorem pass_no {X:Cx} {E:XK} (hE:∀ c d H,¬ E c d H):Passes (CX1 P w) X E:=fun _ _ _ _ _ _ _ h=>by
 obtain ⟨_,_,_,_,_,_,_,_,_,_,_,_,_,q⟩:=h
 exact (hE _ _ _ q).elim
theorem zar {X:Cx}:Passes (CX1 P w) X E0:=pass_no fun _ _ _ h=>h
theorem raise_out {K:W.Frag} {mg:Str->Option Value} {base:Heap} {N:List Str} {qual:Str} {scope:Scope} {f:Addr} {cd:Value} {A:Around} {outer:List Env} {s₀ : Shared} {H₀ : Hp} {E:XK} {pins:List (Addr×Obj)} {σ : St} {H:Hp} {s s':Shared} {x:Addr} {c:Value} {args:List Value}
  (I:Inv (cxOf (CX1 P w) P w K mg base N qual scope f cd A outer s₀ H₀ E) pins σ H s) (hx:Heap.MadeExcOf s.heap s'.heap x c args) (ho:s'.os=s.os) (hg:AllBare s'.gens) (q:E c none H) :
  (cxOf (CX1 P w) P w K mg base N qual scope f cd A outer s₀ H₀ E).xe (.ref x) s':=by
 have hfr:(A.deeper (envOfC qual scope s₀.heap.objs.size f cd)).frames=some (envOfC qual scope s₀.heap.objs.size f cd :: outer):=I.ok.frames
 have hin:∀ env∈envOfC qual scope s₀.heap.objs.size f cd :: outer,∀ a,env.frame=some a->a∈frs (envOfC qual scope s₀.heap.objs.size f cd :: outer):=fun env he a ha=>List.mem_filterMap.mpr ⟨env,he,ha⟩
 have st:(PySem.W.hideAll s.heap (frs (envOfC qual scope s₀.heap.objs.size f cd :: outer))).StaysIn s'.heap:=fun b o e=>hx.keeps b o (PySem.W.of_hideAll _ e)
 have nx:(PySem.W.hideAll s.heap (frs (envOfC qual scope s₀.heap.objs.size f cd :: outer))).get? x=none:=by
  cases e:(PySem.W.hideAll s.heap (frs (envOfC qual scope s₀.heap.objs.size f cd :: outer))).get? x with
  | none=>rfl
  | some o =>
   have:=PySem.W.of_hideAll _ e
   rw [hx.new] at this
   cases this
 have fr0:s.heap.FunFrames (PySem.W.hideAll s.heap (frs (envOfC qual scope s₀.heap.objs.size f cd :: outer))) (envOfC qual scope s₀.heap.objs.size f cd :: outer):=PySem.W.funFrames_hide I.stack hin
 obtain ⟨t,hobj,_,_⟩:=hx.there
 have F:Fresh (PySem.W.hideAll s.heap (frs (envOfC qual scope s₀.heap.objs.size f cd :: outer))) (envOfC qual scope s₀.heap.objs.size f cd :: outer) x c s'.heap :=
  ⟨st,nx,fr0.of_keeps fun b o hb _=>⟨o,hx.keeps b o hb,rfl⟩,_,_,hobj,⟨rfl,rfl⟩,rfl,rfl,rfl⟩
 have inB:∀ b o,s.heap.get? b=some o->b ∉ frs (envOfC qual scope s₀.heap.objs.size f cd :: outer)->∃ ob,(PySem.W.hideAll s.heap (frs (envOfC qual scope s₀.heap.objs.size f cd :: outer))).get? b=some ob:=fun b o e hb=>⟨o,PySem.W.hideAll_get _ e hb⟩
 have trk:∀ b o,H b=some o->∃ ob,(PySem.W.hideAll s.heap (frs (envOfC qual scope s₀.heap.objs.size f cd :: outer))).get? b=some ob:=fun b o e=>by
  have lt:=I.hok.lt e
  cases e2:s.heap.get? b with
  | none =>
   exfalso
   have ok:=I.hok b o e
   obtain ⟨ob,hob⟩:=ok.there
   rw [e2] at hob
   cases hob
  | some ob =>
   refine inB b ob e2 fun z => ?_
   have:=I.stkFree b z
   rw [e] at this
   cases this
 have old:∀ b o,s₀.heap.get? b=some o->b ∉ frs outer->∃ ob,(PySem.W.hideAll s.heap (frs (envOfC qual scope s₀.heap.objs.size f cd :: outer))).get? b=some ob:=fun b o e hb=>by
  obtain ⟨o',e1⟩:=I.base.there b o e (by show b ∉ ([]:List Addr); simp)
  refine inB b o' e1 fun z => ?_
  rcases List.mem_cons.mp (I.stkSub b z) with z | z
  ·exact absurd (Nat.lt_of_lt_of_le (Heap.lt_size e) I.ok.above) (by rw [z]; exact Nat.lt_irrefl _)
  ·exact hb z
 have u0:Un (frs outer) [] H₀ H s₀.heap s.heap:=zcH I rfl Un.refl
 have u1:Un (frs outer) [] H₀ H s₀.heap s'.heap:=u0.trans (Un.kept hx.keeps)
 have ok1:HOk P w H s'.heap:=I.hok.kept hx.keeps
 have nxH:H x=none:=by
  cases e:H x with
  | none=>rfl
  | some o =>
   obtain ⟨ob,hob⟩:=(I.hok x o e).there
   rw [hx.new] at hob
   cases hob
 show wpAny (model P w) _ (leaving _ (.ref x)) _ _ s'
 exact fresh_leave hfr rfl F fun h' F' up=>⟨x,c,_,H,rfl,F',(show s'.os=s₀.os from ho.trans I.os),hg,zeE u1 F.stay F'.stay up old (zcm F.frs.2.2),zdG ok1 F.stay F'.stay trk,nxH,trk,old,q⟩
end
theorem entry_unchain:entryFor table "proto.unchain" = some Builtin.«proto.unchain» := entryFor_of_tree (by kernel_rfl)
section
variable {prog:Program} {w:World} {A:Around} {E:Value->Shared->Prop} {s:Shared}
theorem raiseNew_h {α : Type} {x e:Addr} {ox oe:Obj} {vs xs:Array Value} {Q : α -> Shared->Prop} (hh:A.handled=some (.ref e)) (hx:s.heap.get? x=some ox) (dx:ox.data = .fields xs) (hs:2 < xs.size) (ne:e≠x)
  (he:s.heap.get? e=some oe) (de:oe.data = .fields vs) (h2:vs[2]?=some .none)
  (h:E (.ref x) { s with heap:=s.heap.update x (Obj.mapFields (·.setIfInBounds 2 (.ref e))) }):wpAny (model prog w) A (raiseNew (.ref x):Sem α) Q E s:=by
 unfold raiseNew
 refine wpAny_bind (wpAny_handled ?_)
 rw [hh]
 dsimp only
 rw [if_pos (by simpa using ne)]
 refine wpAny_bind (wpAny_holding (wpAny_runValue (codeAny_builtin entry_unchain ?_)))
 unfold Builtin.«proto.unchain»
 dsimp only
 refine wpAny_bind (wpAny_field he de h2 ?_)
 rw [if_pos (by decide)]
 refine wpAny_pure ?_
 dsimp only
 refine wpAny_bind ?_
 unfold updateField
 refine wpAny_bind (wpAny_load hx ?_)
 rw [dx]
 dsimp only
 rw [if_pos hs]
 refine wpAny_update hx ?_
 exact wpAny_throw h
theorem range_end_h {it e:Addr} {oe:Obj} {vs:Array Value} {x left step:Int} {Q:Option Value->Shared->Prop} (hh:A.handled=some (.ref e)) (he:s.heap.get? e=some oe) (de:oe.data = .fields vs) (h2:vs[2]?=some .none)
  (hit:IsRangeIter s.heap it x left step) (hleft:left<=0)
  (hQ:∀ h',Heap.ExtBut it s.heap h'->Q none { s with heap:=h' }):wpAny (model prog w) A (pyNext (.ref it)) Q E s:=by
 have ty:s.TypeIs (.ref it) "range_iterator" := ⟨_,hit,rfl⟩
 unfold pyNext
 refine wpAny_bind (wpAny_attempt (wpAny_callSpecial?_slot (name:=Str.ofString "__next__") ty F.slot_range_iterator_next (wpAny_call_entry F.slot_range_iterator_next ty F.entry_range_iterator_next (?_:wpAny _ _ (field (.ref it) 0 >>= _) _ _ s) (F.args_range_iterator_next_1 _))))
 refine wpAny_bind (wpAny_field hit rfl (x:=rawInt x) rfl (?_:wpAny _ _ (field (.ref it) 1 >>= _) _ _ s))
 refine wpAny_bind (wpAny_field hit rfl (x:=rawInt left) rfl (?_:wpAny _ _ (field (.ref it) 2 >>= _) _ _ s))
 refine wpAny_bind (wpAny_field hit rfl (x:=rawInt step) rfl (?_:wpAny _ _ (if left<=0 then _ else _) _ _ s))
 rw [if_pos hleft]
 refine wpAny_bind (wpAny_rule (wpAny_bind (?_:wpAny _ _ (newExc (.type "StopIteration") [] >>= _) _ _ _)))
 refine wpAny_bind (?_:wpAny _ _ (newTuple [] >>= _) _ _ _)
 simp only [newTuple]
 refine wpAny_bind (wpAny_newObj_type (wpAny_bind (m:=firstArgMember _ _) (wpAny_of_eq (a:=Value.none) (by first | rfl | (simp only [firstArgMember]; rfl)) (wpAny_newObj_type ?_ (by size_fits)))) (by size_fits))
 refine raiseNew_h (A:=A.in1) (e:=e) (oe:=oe) (vs:=vs) (show A.in1.handled=some (.ref e) from hh) (Heap.get?_push_size _ rfl) rfl (by rw [Array.size_append]; exact Nat.lt_of_lt_of_le (show 2 < 6 by decide) (Nat.le_add_right _ _)) ?_ (Heap.get?_push_of_some _ (Heap.get?_push_of_some _ he)) de h2 ?_
 ·rw [Heap.size_push]
  exact Nat.ne_of_lt (Nat.lt_succ_of_lt (Heap.lt_size he))
 ·refine wpAny_bind (wpAny_isInstance (T := "StopIteration") (b:=true) ⟨_,Heap.get?_update_self _ (Heap.get?_push_size _ rfl) rfl,rfl⟩ isSubtype_stop ?_)
  refine wpAny_pure (hQ _ fun b o hb hbo => ?_)
  rw [Heap.get?_update_other _ _ ?_]
  ·exact Heap.get?_push_of_some _ (Heap.get?_push_of_some _ hbo)
  ·rw [Heap.size_push]
   exact Nat.ne_of_gt (Nat.lt_succ_of_lt (Heap.lt_size hbo))
end
noncomputable def QH (e:Addr) (oe:Obj) (Y:Cx):Prop:=Y.A.handled=some (.ref e)/\(e,oe)∈Y.pn/\∃ vs,oe.data = .fields vs/\vs[2]?=some .none
section
variable {X:Cx} {tg:Expr} {e:Addr} {oe:Obj}
theorem QH.comp {scope:Scope} {N:List Str} {cl:List (Str×Addr)} {C:Addr} {s:Shared} {H:Hp} {fp:List Addr} {pins:List (Addr×Obj)} (q:QH e oe X):QH e oe (cxComp X scope N cl C s H fp (X.pn ++ pins)) :=
 ⟨q.1,List.mem_append_left _ q.2.1,q.2.2⟩
theorem range_item_q {it:Addr} {lo:Int} {n i:Nat} {pins:List (Addr×Obj)} {s:Shared} {σ : St} {H:Hp} {E:Value->Shared->Prop} (I:Inv X pins σ H s) (hf:∀ b ∈ [it],FpOk X pins H b)
  (st:IsRangeIter s.heap it (lo + (i:Nat) * 1) ((n:Int) - (i:Nat)) 1) (hg:i < n) :
  wpAny (model X.prog X.w) X.A (pyNext (.ref it)) (fun r s1=>∃ u,r=some u /\
   wpAny (model X.prog X.w) X.A (letOwnedTupleGo tg (.ref it) u) (fun _ s2=>∃ x H',Inv X pins σ H' s2/\RelV x u/\(Itr lo n).yld i H x H'/\IsRangeIter s2.heap it (lo + ((i + 1:Nat):Int) * 1) ((n:Int) - ((i + 1:Nat):Int)) 1/\∀ b ∈ [it],H' b=none) E s1) E s:=by
 obtain ⟨f0,f1,f2,f3,f4,f5⟩:=hf it (by simp)
 refine wpAny_pyNext_range_item st (by omega) fun h' st' sb => ?_
 have I1:Inv X pins σ H { s with heap:=h',toks:=s.toks + 1 }:=I.turned (fun b o hb e=>(sb.2 b hb).trans e) f0 f1 f3 f4 f5
 have st2:IsRangeIter h' it (lo + ((i + 1:Nat):Int) * 1) ((n:Int) - ((i + 1:Nat):Int)) 1:=by
  have e1:lo + ((i + 1:Nat):Int) * 1=lo + (i:Nat) * 1 + 1:=by omega
  have e2:(n:Int) - ((i + 1:Nat):Int)=(n:Int) - (i:Nat) - 1:=by omega
  rw [e1,e2]; exact st'
 refine ⟨_,rfl,zee (s:={ s with heap:=h',toks:=s.toks + 1 }) (n := "range_iterator") st2 rfl rfl (by decide) ⟨.int (lo + i),H,I1,⟨s.toks,?_⟩,⟨rfl,rfl⟩,st2,fun b hb=>(hf b hb).1⟩⟩
 rw [Int.mul_one]
theorem trn_range {P:Program} {w:World} {K:W.Frag} (it:Addr) (lo:Int) (n:Nat):Trn P w K (QH e oe) tg (Itr lo n) [it] it (fun i h=>IsRangeIter h it (lo + (i:Nat) * 1) ((n:Int) - (i:Nat)) 1) where
 obj:=fun i h st b hb=>by
  have e:b=it:=by simpa using hb
  subst e
  exact ⟨_,st,fun v z=>by
   have z':Data.fields _=Data.cell v:=z
   cases z'⟩
 keep:=fun i h h' st k=>k it (by simp) _ st
 steps:=fun Y hP hw hK hz=>⟨fun i pins s σ H E I hf st hg=>range_item_q I hf st hg,fun i pins s σ H E I hf st hg=>by
  obtain ⟨hh,hm,vs,de,h2⟩:=hz
  obtain ⟨f0,f1,f2,f3,f4,f5⟩:=hf it (by simp)
  exact range_end_h hh (I.pin (e,oe) (List.mem_append_left _ hm)).1 de h2 st (by have:n<=i:=hg; omega) fun h' eb=>⟨rfl,I.turned (t':=s.toks) (fun b o hb e=>eb b o hb e) f0 f1 f3 f4 f5⟩⟩
 self:=fun _ _ _ _ _ st h=>wpAny_pyIter_rangeiter st h
theorem range_itq {pins:List (Addr×Obj)} {σ : St} {H:Hp} {s:Shared} {R:It->Hp->Prop} {E:Value->Shared->Prop} {lo hi:Int} {t u v:Tok} {tk:Nat} (I:Inv X pins σ H s) (h1 : -(2 ^ 62)<=lo) (h2:lo < 2 ^ 62) (h3 : -(2 ^ 62)<=hi) (h4:hi < 2 ^ 62)
  (q:R (Itr lo (hi - lo).toNat) H):wpAny (model X.prog X.w) X.A (pyIter (.ref s.heap.objs.size)) (PIEq (QH e oe) X pins σ tg R) E { s with heap:=s.heap.push { cls := .type "range",data := .fields #[.int lo t,.int hi u,.int 1 v] },toks:=tk }:=by
 refine wpAny_pyIter_range (IsRange.new ..) (small_one h1 h2 h3 h4) ?_
 have I1:Inv X pins σ H { s with heap:=s.heap.push { cls := .type "range",data := .fields #[.int lo t,.int hi u,.int 1 v] },toks:=tk }:=I.kept fun b o e=>Heap.get?_push_of_some _ e
 refine ⟨(s.heap.push { cls := .type "range",data := .fields #[.int lo t,.int hi u,.int 1 v] }).objs.size,[(s.heap.push { cls := .type "range",data := .fields #[.int lo t,.int hi u,.int 1 v] }).objs.size],_,_,H,rfl,
  I1.kept (t':=tk) fun b o e=>Heap.get?_push_of_some _ e,trn_range _ lo (hi - lo).toNat,?_,fun b hb => ?_,q⟩
 ·have e1:lo + ((0:Nat):Int) * 1=lo:=by simp
  have e2:(((hi - lo).toNat:Nat):Int) - ((0:Nat):Int)=Builtin.Range.rangeSize lo hi 1:=by rw [rangeSize_one]; split <;> omega
  show IsRangeIter _ _ (lo + ((0:Nat):Int) * 1) ((((hi - lo).toNat:Nat):Int) - ((0:Nat):Int)) 1
  rw [e1,e2]
  exact Heap.get?_push_size _ rfl
 ·have e:b=(s.heap.push { cls := .type "range",data := .fields #[.int lo t,.int hi u,.int 1 v] }).objs.size:=by simpa using hb
  subst e
  exact I1.fpOk (Nat.le_refl _) (I1.hok.fresh (Nat.le_refl _))
theorem pi_range1q {a:Expr} {ta:TA} {p pos:Pos} (hg:Gl X "range") (hm:X.mg "range" = none) (ha:PA X [a] ta) (hs:starEach [a] X.env = [(false,eval a X.env)]:=by rfl):PIq (QH e oe) X tg (.Call (.Name "range" p) [a] [] pos) (iRng1 ta):=by
 intro pins s σ H R I h
 refine Call_ (zcT I hg hm boot_range (PyProof.Rows.callWith_type1 (thnE (ha pos pins s σ H _ I h) fun us s1 vs H1 I1 r1 q1 => ?_) hs rfl))
 obtain ⟨j,e,q1,q2,q⟩:=q1
 subst e
 cases r1 with
 | cons r rr =>
  cases rr
  obtain ⟨t,rfl⟩:=r
  exact call_range_1 (range_itq I1 (by omega) (by omega) q1 q2 (by simpa using q))
end
structure RoomH (k:Nat) (A:Around) (e:Addr):Prop where
 hd:A.handled=some (.ref e)
 dp:A.depth + 3 * k + 5 < recursionLimit
 un:A.units + 16 * k + 200 < cLine
theorem Room.mark {k:Nat} {A:Around} {e:Addr} (r:Room k A):RoomH k (A.mark (some (.ref e))) e:=⟨rfl,r.dp,r.un⟩
theorem RoomH.depth {k:Nat} {A:Around} {e:Addr} (r:RoomH k A e):A.depth < recursionLimit:=by have:=r.dp; omega
structure FnOkH (P:Program) (w:World) (K:W.Frag) (mg:Str->Option Value) (base:Heap) (e:Addr) (oe:Obj) (k:Nat) (f:Addr) (fd:FuncData) (ps:List Str) (sp:Sp):Prop where
 len:∀ vs H Q E,sp vs H Q E->vs.length=ps.length
 run:∀ (A:Around) (outer:List Env) (s:Shared) (H:Hp) (args:Args) (us:List Value) (vs:List V) (Q:VK),RoomH k A e->Env0 P w K mg base A outer s H->s.heap.get? e=some oe->H e=none->e ∉ frs outer->(∀ v,oe.data ≠ .cell v) ->
  BindsTo s fd args (ps.zip us)->Vals vs us->sp vs H Q E0->codeAny (model P w) A (.call (.ref f) args) (CR CX0 outer P w H s Q E0) s
noncomputable def cxH (P:Program) (w:World) (K:W.Frag) (mg:Str->Option Value) (base:Heap) (N:List Str) (qual:Str) (scope:Scope) (f:Addr) (cd:Value) (A:Around) (outer:List Env) (s:Shared) (H:Hp) (e:Addr) (oe:Obj):Cx :=
 { cxOf CX0 P w K mg base N qual scope f cd A outer s H E0 with calm:=false,pn := [(e,oe)],xe:=fun _ _=>False }
theorem cxH_q {P:Program} {w:World} {K:W.Frag} {mg:Str->Option Value} {base:Heap} {N:List Str} {qual:Str} {scope:Scope} {f:Addr} {cd:Value} {A:Around} {outer:List Env} {s:Shared} {H:Hp} {e:Addr} {oe:Obj} {vs:Array Value}
  (hh:A.handled=some (.ref e)) (de:oe.data = .fields vs) (h2:vs[2]?=some .none):QH e oe (cxH P w K mg base N qual scope f cd A outer s H e oe):=⟨hh,List.mem_singleton.mpr rfl,vs,de,h2⟩
theorem fn_ofH {P:Program} {w:World} {K:W.Frag} {mg:Str->Option Value} {base:Heap} {e:Addr} {oe:Obj} {k:Nat} {f:Addr} {name qual:Str} {params:Arguments} {body:List Stmt} {scope:Scope} {dV kV doc pm cdv ct oc:Value} {an od:Option Addr}
  {osl:Array (Option Value)} {N ps:List Str} {sp:Sp} (lk:K.lookup f=some ⟨oc,od,.func (PySem.W.fnOf name qual params body scope dV kV doc pm an cdv ct),osl⟩) (hcd:PySem.W.codeIn K cdv qual=true) (S:FnScope N ps scope)
  (len:∀ vs H Q E,sp vs H Q E->vs.length=ps.length)
  (hbody:∀ (A:Around) (outer:List Env) (s:Shared) (H:Hp) (vs:List V) (Q:VK),A.handled=some (.ref e)->sp vs H Q E0 ->
   ∃ t,PSs (cxH P w K mg base N qual scope f cdv A outer s H e oe) body t/\t { nx:=fun _ H'=>Q .non H',rt:=Q } (start N vs) H) :
  FnOkH P w K mg base e oe (k + 1) f (PySem.W.fnOf name qual params body scope dV kV doc pm an cdv ct) ps sp:=by
 refine ⟨len,fun A outer s H args us vs Q hr e0 he hn hne hnc hb r hsp => ?_⟩
 have hl:=len _ _ _ _ hsp
 have KX:K.In s.heap:=e0.mod.kin.keeps fun b o e=>(e0.bs b o e).1
 have lim:s.heap.NoLimit:=e0.mod.nolimit.keeps fun b o e=>(e0.bs b o e).1
 have hkind:∀ y∈ps.zip us,scope.names.lookup y.1=some .local\/(scope.names.lookup y.1=some .cell/\((cellsFrom (s.heap.objs.size + 1) scope.names []).lookup y.1).isSome=true):=fun ⟨n,v⟩ hy=>by
  rcases S.par n (List.of_mem_zip hy).1 with q | q
  ·exact .inl q
  ·exact .inr ⟨q,PySem.W.cellsFrom_some _ _ _ (.inl q)⟩
 refine codeAny_call_function hr.depth (KX _ _ lk) rfl S.co S.gen rfl (PySem.W.codeRec_of KX hcd) (hb _ _ _ _ ?_)
 refine wpAny_newFunctionEnv_cells S.kind hkind fun env hen s1 x => ?_
 subst hen
 refine ⟨lim.keeps x.toInCall.keep,codeAny_func ?_⟩
 obtain ⟨t,ht,hq⟩:=hbody A outer s H vs Q hr.hd hsp
 have I0:Inv (cxOf CX0 P w K mg base N qual scope f cdv { A with handled:=none } outer s H E0) [] (start N vs) H s1 :=
  zdn S rfl ⟨e0.frames,e0.mod,e0.bs,e0.bsz,e0.funs,e0.frf,e0.hok,e0.bare⟩ hl r x
 have I:Inv (cxH P w K mg base N qual scope f cdv A outer s H e oe) [] (start N vs) H s1:=by
  refine ⟨⟨I0.ok.mod,I0.ok.kind,I0.ok.glob,I0.ok.blt,I0.ok.above,I0.ok.inj,I0.ok.has,I0.ok.cab,(fun z=>absurd z Bool.false_ne_true),Around.frames_deeper e0.frames,I0.ok.stk,I0.ok.exf,I0.ok.bs,I0.ok.bsz,I0.ok.noex,I0.ok.exfs,I0.ok.funs,I0.ok.frf⟩,
   I0.os,I0.bare,I0.base,I0.loc,I0.cell,I0.free,I0.freeC,fun p hp => ?_,I0.hok,I0.len⟩
  have e1:p=(e,oe):=by
   rcases List.mem_append.mp hp with z | z
   ·exact List.mem_singleton.mp z
   ·cases z
  subst e1
  exact ⟨x.toInCall.keep _ _ he,hn,Nat.ne_of_lt (Heap.lt_size he),hne,hnc⟩
 refine wpAny_mono (ht [] s1 (start N vs) H _ I hq) (fun fl s' hs => ?_) fun e s' hs=>False.elim hs
 have fin:∀ {σ':St} {H':Hp} {v:V} {u:Value},Inv (cxH P w K mg base N qual scope f cdv A outer s H e oe) [] σ' H' s'->RelV v u->Q v H'->CE outer P w H s Q u s' :=
  fun {σ' H' v u} J rv q=>⟨v,H',J.os,J.bare,J.base,J.hok,rv,q⟩
 cases fl with
 | ret u =>
  obtain ⟨v,σ',H',J,rv,q⟩:=hs
  exact fin J rv q
 | next =>
  obtain ⟨σ',H',J,q⟩:=hs
  exact fin (v:=V.non) (u:=Value.none) J rfl q
 | brk =>
  obtain ⟨_,_,_,q⟩:=hs
  exact False.elim q
 | cont =>
  obtain ⟨_,_,_,q⟩:=hs
  exact False.elim q
section
variable {X:Cx} {k:Nat} {f:Addr} {fd:FuncData} {ps:List Str} {sp:Sp} {x:Str} {p pos:Pos} {ex:Expr} {es:List Expr} {t:TA} {e:Addr} {oe:Obj}
theorem pe_callH (F:FnOkH X.prog X.w X.K X.mg X.base e oe k f fd ps sp) (hr:RoomH k X.A e) (hp:(e,oe)∈X.pn) (hgd:e ∉ frs X.stack) (hg:Gl X x) (hm:X.mg x=some (.ref f)) (hk:PySem.W.keepIn X.K (.ref f)=true) (hb:Binds X.K fd ps [])
  (ha:PA X (ex :: es) t) (hdb:(x == ("__debug__" : Str))=false:=by decide) (he:starEach (ex :: es) X.env=(false,eval ex X.env) :: starEach es X.env:=by rfl) (hpl:(backTo pos (starEach es X.env)).any (·.1)=false:=by rfl) :
  PE X (.Call (.Name x p) (ex :: es) [] pos) (tCall sp [] E0 t):=by
 intro pins s σ H Q I h
 refine wpAny_Call_Name_kw (zb6 I hg hm ?_ hdb)
 refine PySem.W.callWith_K (h₀ := X.base) I.ok.mod.kin hk (thnE (ha pos pins s σ H _ I h) fun us s1 vs H1 I1 r q=>⟨I1.kIn,?_⟩) he hpl
 have q':sp vs H1 Q E0:=by simpa using q
 have hl:us.length=ps.length:=by rw [<- r.length]; exact F.len _ _ _ _ q'
 obtain ⟨e1,e2,e3,e4,e5⟩:=I1.pin (e,oe) (List.mem_append_left _ hp)
 have hb':=hb s1 us I1.kIn (by simpa using hl)
 rw [List.append_nil] at hb'
 refine wpAny_call (codeAny_mono (F.run X.A X.stack s1 H1 ⟨us,[]⟩ us vs Q hr I1.env0 e1 e2 hgd e5 hb' r q') fun r s' hq => ?_)
 cases r with
 | error e=>exact False.elim hq
 | ok fl =>
  cases fl with
  | ret u=>exact I1.after hq
  | next=>exact False.elim hq
  | brk=>exact False.elim hq
  | cont=>exact False.elim hq
end
structure Air (P:Program) (w:World) (outer:List Env) (H:Hp) (s:Shared) (E:XK) (B:Heap) (x:Addr) (c:Value) (H':Hp) (fl:Value) (s':Shared):Prop where
 fly:Fly B outer x c fl s'.heap
 os:s'.os=s.os
 bare:AllBare s'.gens
 un:Un (frs outer) [] H H' s.heap s'.heap
 hok:HOk P w H' s'.heap
 nx:H' x=none
 trk:∀ b o,H' b=some o->∃ ob,B.get? b=some ob
 old:∀ b o,s.heap.get? b=some o->b ∉ frs outer->∃ ob,B.get? b=some ob
 e:E c none H'
theorem Air.move {P:Program} {w:World} {outer:List Env} {H:Hp} {s:Shared} {E:XK} {B:Heap} {x:Addr} {c:Value} {H':Hp} {fl fl':Value} {s':Shared} {h':Heap} (a:Air P w outer H s E B x c H' fl s') (F:Fly B outer x c fl' h') (up:s'.heap.UpToSlots h') :
  Air P w outer H s E B x c H' fl' { s' with heap:=h' } :=
 ⟨F,a.os,a.bare,zeE a.un a.fly.stay F.stay up a.old (zcm a.fly.frs),zdG a.hok a.fly.stay F.stay a.trk,a.nx,a.trk,a.old,a.e⟩
noncomputable def cxTry (X:Cx) (E:XK) (pn:List (Addr×Obj)):Cx :=
 { X with pn:=pn,xe:=fun e s'=>∃ pins σ H s,Inv { X with pn:=pn,xe:=fun _ _=>False } pins σ H s/\CX1 X.prog X.w X.stack H s E e s' }
noncomputable def cxHand (X:Cx) (x:Addr) (ox:Obj) (pn:List (Addr×Obj)):Cx :=
 { X with A:=X.A.mark (some (.ref x)),calm:=false,pn:=(x,ox) :: pn,xe:=fun _ _=>False }
section
variable {X:Cx} {pins:List (Addr×Obj)} {σ : St} {H:Hp} {s:Shared}
theorem zap {E:XK} {pn:List (Addr×Obj)}:Passes (CX1 X.prog X.w) (cxTry X E pn) E:=fun pins σ H s e s' I h =>
 ⟨pins,σ,H,s,⟨⟨I.ok.mod,I.ok.kind,I.ok.glob,I.ok.blt,I.ok.above,I.ok.inj,I.ok.has,I.ok.cab,I.ok.hd,I.ok.frames,I.ok.stk,I.ok.exf,I.ok.bs,I.ok.bsz,I.ok.noex,I.ok.exfs,I.ok.funs,I.ok.frf⟩,I.os,I.bare,I.base,I.loc,I.cell,I.free,I.freeC,I.pin,I.hok,I.len⟩,h⟩
theorem Inv.other {A:Around} {cm:Bool} {pn:List (Addr×Obj)} {xe:Value->Shared->Prop} {pins':List (Addr×Obj)} (I:Inv X pins σ H s) (hf:A.frames=X.A.frames) (hd:cm=true->A.handled=none)
  (hp:∀ p∈pn ++ pins',s.heap.get? p.1=some p.2/\H p.1=none/\p.1≠X.env.locals/\p.1 ∉ X.fs/\∀ v,p.2.data ≠ .cell v):Inv { X with A:=A,calm:=cm,pn:=pn,xe:=xe } pins' σ H s :=
 ⟨⟨I.ok.mod,I.ok.kind,I.ok.glob,I.ok.blt,I.ok.above,I.ok.inj,I.ok.has,I.ok.cab,hd,hf.trans I.ok.frames,I.ok.stk,I.ok.exf,I.ok.bs,I.ok.bsz,I.ok.noex,I.ok.exfs,I.ok.funs,I.ok.frf⟩,I.os,I.bare,I.base,I.loc,I.cell,I.free,I.freeC,hp,I.hok,I.len⟩
theorem Inv.lost {h':Heap} {m':Str->Option Value} {t':Nat} (I:Inv X pins σ H s) (hn':h'.Ns X.env.locals m') (hs:Heap.SameBut X.env.locals s.heap h'):Inv X pins (List.replicate X.N.length none) H { s with heap:=h',toks:=t' }:=by
 obtain ⟨m,hn,hl⟩:=id I.loc
 obtain ⟨oL,_,_,hoL,_⟩:=id hn
 refine ⟨I.ok,I.os,I.bare,⟨fun b o e n hb hx => ?_,fun b o e n hb hx => ?_,I.base.free,fun b o e hx => ?_,I.base.tups,I.base.frzs,I.base.tbls⟩,⟨m',hn',fun j y v' e1 e2 e3 => ?_⟩,fun y c e => ?_,I.free,I.freeC,fun p hp => ?_,fun b ob e => ?_,by simp⟩
 ·exact (hs.2 b (Nat.ne_of_lt (Nat.lt_of_lt_of_le (Heap.lt_size e) I.ok.above))).trans (I.base.keep b o e n hb hx)
 ·obtain ⟨sl,e1⟩:=I.base.slot b o e n hb hx
  exact ⟨sl,(hs.2 b (Nat.ne_of_lt (Nat.lt_of_lt_of_le (Heap.lt_size e) I.ok.above))).trans e1⟩
 ·obtain ⟨o',e1⟩:=I.base.there b o e hx
  exact ⟨o',(hs.2 b (Nat.ne_of_lt (Nat.lt_of_lt_of_le (Heap.lt_size e) I.ok.above))).trans e1⟩
 ·rw [List.getElem?_replicate] at e2
  split at e2 <;> cases e2
 ·obtain ⟨w',z⟩:=I.cell y c e
  exact ⟨w',z.sameBut hs (I.cne y c e)⟩
 ·obtain ⟨e,n,ne,nf,d⟩:=I.pin p hp
  exact ⟨(hs.2 p.1 ne).trans e,n,ne,nf,d⟩
 ·refine (I.hok b ob e).stay (fun c w' hc q=>(hs.2 c ?_).trans q) (fun _ q=>q) fun _ _ q=>q
  intro hcl
  rw [hcl] at hc
  rcases hc with z | z
  ·rw [<- z,I.free] at e; cases e
  ·rw [I.free] at z; cases z
noncomputable def tTry (X:Cx) (CE:Value) (i:Nat) (tb:XK->TS) (th:Addr->Value->TS):TS:=fun D σ H=>∃ E:XK,tb E D σ H /\
 ∀ c H' x,E c none H'->H' x=none->PySem.W.exmOne X.K c CE=some true/\th x c { nx:=fun _ _=>False,rt:=D.rt,bk:=fun _ _=>False,ct:=fun _ _=>False } ((List.replicate X.N.length none).set i (some (.ref x))) H'
theorem zeS {body:List Stmt} {cn n:Str} {np hpos pos:Pos} {b₀ : Stmt} {suite:List Stmt} {i:Nat} {CE:Value} {tb:XK->TS} {th:Addr->Value->TS} (hst:X.stack=X.env :: X.outer) (hfr:X.env.frame=some X.env.locals) (hN:X.N.Nodup) (hi:X.N[i]?=some n)
  (hl:X.env.scope.names.lookup n=some .local) (hg:Gl X cn) (hm:X.mg cn=some CE)
  (hb:∀ E pn,PSs (cxTry X E pn) body (tb E))
  (hh:∀ x c ox pn vs,ox.cls=c/\ox.dict=none->ox.data = .fields vs->vs[2]?=some .none->x ∉ frs X.stack->PSs (cxHand X x ox pn) (b₀ :: suite) (th x c))
  (hd:(cn == ("__debug__" : Str))=false:=by decide) :
  PS X (.Try body [.ExceptHandler (some (.Name cn np)) (some n) (b₀ :: suite) hpos] [] [] pos) (tTry X CE i tb th):=by
 intro pins s σ H D I h
 obtain ⟨E,hbd,hex⟩:=h
 have I1:Inv (cxTry X E (X.pn ++ pins)) [] σ H s:=I.other rfl I.ok.hd (by rw [List.append_nil]; exact I.pin)
 have back:∀ {σ' H' s'},Inv (cxTry X E (X.pn ++ pins)) [] σ' H' s'->Inv X pins σ' H' s':=fun {σ' H' s'} J =>
  Inv.other (X:=cxTry X E (X.pn ++ pins)) (A:=X.A) (cm:=X.calm) (pn:=X.pn) (xe:=X.xe) J rfl I.ok.hd fun p hp=>J.pin p (List.mem_append_left _ hp)
 refine wpAny_Try_except (wpAny_mono (hb E (X.pn ++ pins) [] s σ H D I1 hbd) (fun f s1 q => ?_) fun e s1 q => ?_)
 ·cases f with
  | next=>obtain ⟨σ',H',J,q⟩:=q; exact wpAny_execs_nil ⟨σ',H',back J,q⟩
  | ret u=>obtain ⟨v,σ',H',J,r,q⟩:=q; exact ⟨v,σ',H',back J,r,q⟩
  | brk=>obtain ⟨σ',H',J,q⟩:=q; exact ⟨σ',H',back J,q⟩
  | cont=>obtain ⟨σ',H',J,q⟩:=q; exact ⟨σ',H',back J,q⟩
 ·obtain ⟨pins',σ',H1,s0,J,x,c,B,H2,rfl,F,ho,hgn,u,ok,nx,inB,old,q⟩:=q
  have a0:Air X.prog X.w (X.env :: X.outer) H1 s0 E B x c H2 .none s1:=hst ▸ ⟨F,ho,hgn,u,ok,nx,inB,old,q⟩
  have hfrm:X.A.frames=some (X.env :: X.outer):=hst ▸ I.ok.frames
  refine zd9 hfrm hfr a0.fly fun h1 F1 u1 => ?_
  have a1:=a0.move F1 u1
  refine zcl a1.fly fun h2 F2 u2 => ?_
  have a2:=a1.move F2 u2
  obtain ⟨hE,hth⟩:=hex c H2 x q nx
  have inv2:∀ {fl s'},Air X.prog X.w (X.env :: X.outer) H1 s0 E B x c H2 fl s'->Inv { X with pn:=X.pn ++ pins,xe:=fun _ _=>False } pins' σ' H2 s':=fun {fl s'} a =>
   J.call' a.os (show Un (frs X.stack) [] H1 H2 s0.heap s'.heap by rw [hst]; exact a.un) a.hok a.bare fun b z=>absurd z (by simp)
  have J2:=inv2 a2
  have xo:x ∉ frs X.stack:=fun z=>by
   rw [hst] at z
   obtain ⟨oe,vs,_,_,_,h1,_,h2,_⟩:=a2.fly.obj
   exact zcm a2.fly.frs x z oe h1 vs h2
  have xl:x≠X.env.locals:=fun z=>xo (by rw [hst]; exact List.mem_filterMap.mpr ⟨X.env,List.mem_cons_self,by rw [z]; exact hfr⟩)
  have xf:x ∉ X.fs:=fun z=>xo (by
   rw [hst]
   obtain ⟨y,hy,e⟩:=List.mem_filterMap.mp z
   exact List.mem_filterMap.mpr ⟨y,List.mem_cons_of_mem _ hy,e⟩)
  have J2m:Inv { X with A:=X.A.mark (some (.ref x)),calm:=false,pn := [],xe:=fun _ _=>False } [] σ' H2 { s1 with heap:=h2 }:=J2.other rfl (fun z=>absurd z Bool.false_ne_true) fun p hp=>absurd hp (by simp)
  refine wpAny_handleBy_cons (codeAny_handlers_test (zb6 (X:={ X with A:=X.A.mark (some (.ref x)),calm:=false,pn := [],xe:=fun _ _=>False }) J2m hg hm ?_ hd)) (by intro q; cases q)
  have LT:PySem.W.Looks (model X.prog X.w) h2 (typeOf (.ref x)) c:=by
   obtain ⟨oe,vs,_,_,_,h1,hc,_⟩:=a2.fly.obj
   rw [<- hc.1]
   exact (PySem.W.Looks.ld h1).andThen .now
  refine (PySem.W.exm_one (M:=model X.prog X.w) J2.kIn LT hE).here ?_
  dsimp only
  rw [if_pos rfl]
  refine codeAny_handlers_suite_as ?_
  refine zcl a2.fly fun h3 F3 u3 => ?_
  have a3:=a2.move F3 u3
  have J3:=inv2 a3
  obtain ⟨ox,vs,T,oT,ts,hx,hc,hdx,h1x,h2x,nT,tx,hT,dT,h3x⟩:=a3.fly.obj
  have K3:Inv (cxHand X x ox (X.pn ++ pins)) [] σ' H2 { s1 with heap:=h3 }:=J3.other (A:=X.A.mark (some (.ref x))) (cm:=false) (pn:=(x,ox) :: (X.pn ++ pins)) (xe:=fun _ _=>False) rfl (fun z=>absurd z Bool.false_ne_true) fun p hp=>by
   rw [List.append_nil] at hp
   rcases List.mem_cons.mp hp with z | z
   ·subst z; exact ⟨hx,nx,xl,xf,fun v z=>by rw [hdx] at z; cases z⟩
   ·exact J3.pin p (List.mem_append_left _ z)
  have K3w:=K3.weak (σ':=List.replicate X.N.length none) (by rw [List.length_replicate]; exact K3.len.symm) fun i v e=>by
   rw [List.getElem?_replicate] at e
   split at e <;> cases e
  refine zcZ (X:=cxHand X x ox (X.pn ++ pins)) (v:=V.ref x) K3w hN hi (.inl hl) rfl (fun s4 K4 => ?_) (.inr hl)
  refine wpAny_mono (hh x c ox (X.pn ++ pins) vs hc hdx h2x xo [] s4 _ H2 _ K4 hth) (fun f s5 q5 => ?_) fun _ _ z=>False.elim z
  cases f with
  | next=>obtain ⟨_,_,_,z⟩:=q5; exact False.elim z
  | brk=>obtain ⟨_,_,_,z⟩:=q5; exact False.elim z
  | cont=>obtain ⟨_,_,_,z⟩:=q5; exact False.elim z
  | ret u5 =>
   obtain ⟨v,σ5,H5,K5,r5,q5⟩:=q5
   obtain ⟨m5,hn5,_⟩:=id K5.loc
   refine wpAny_nameGoes (env:=X.env) (show X.env.kindOf n=some .local from hl) hn5 (by rw [I.ok.kind]; rfl) fun h6 m6 hn6 sb6 => ?_
   have K6:=K5.lost (t':=s5.toks + 1) hn6 sb6
   refine ⟨v,List.replicate X.N.length none,H5,?_,r5,q5⟩
   exact Inv.other (X:=cxHand X x ox (X.pn ++ pins)) (A:=X.A) (cm:=X.calm) (pn:=X.pn) (xe:=X.xe) K6 rfl I.ok.hd fun p hp=>K6.pin p (List.mem_append_left _ (List.mem_cons_of_mem _ hp))
end
structure ErrCls (K:W.Frag) (D:Addr):Prop where
 ga:PySem.W.findIn K (.ref D) "__getattribute__" = some (some (.builtin "BaseException.__getattribute__"))
 gh:PySem.W.findIn K (.ref D) "__getattr__" = some none
 hc:(PySem.W.clsIn K D).isSome=true
 ha:PySem.W.findIn K (.ref D) "__class__" = some (some (.builtin "object.__class__"))
 hn:PySem.W.specialIn K (.builtin "object.__class__") "__get__" = some (some (.builtin "getset_descriptor.__get__"))
 ht:PySem.W.takesIn K (.builtin "object.__class__")=some true
 hm:PySem.W.mroIn K D (.type "object")=some true
 hb:PySem.W.mroIn K D (.type "BaseException")=some true
theorem find_cls {K:W.Frag} {D:Addr} (E:ErrCls K D) (od:Option Obj):PySem.W.findObj K D od "__class__" = some (.bind (.builtin "getset_descriptor.__get__") (.builtin "object.__class__")):=by
 obtain ⟨cd,hc⟩:=Option.isSome_iff_exists.mp E.hc
 unfold PySem.W.findObj
 rw [hc]
 simp [E.ha,E.hn,E.ht]
section
variable {prog:Program} {w:World} {A:Around} {E:Value->Shared->Prop} {s:Shared} {K:W.Frag} {x D:Addr} {ox:Obj}
theorem exc_check {M:Model} {nameV:Value} {Q:Unit->Shared->Prop} (Er:ErrCls K D) (X:K.In s.heap) (I:PySem.W.InstAt s.heap x ox D none) (hq:Q () s) :
  wpAny M A (checkBuiltinCall "BaseException.__getattribute__" ⟨[.ref x,nameV],[]⟩) Q E s:=by
 have hk:builtinKind "BaseException.__getattribute__" = some .slot:=by decide +kernel
 have hsplit:splitId "BaseException.__getattribute__" = some ("BaseException","__getattribute__"):=by decide +kernel
 have ha:=F.args_bexc_ga (.ref x) nameV
 have L0:=I.type (M:=M)
 have L1:=PySem.W.looks_mroIn (M:=M) X Er.hb
 have LI:PySem.W.Looks M s.heap (isInstance (.ref x) (.type "BaseException")) true:=L0.andThen L1
 obtain ⟨h,g,d,t,os⟩:=s
 simp only [checkBuiltinCall,hk,hsplit]
 refine wpAny_bind (LI.at ?_)
 repeat (any_goals (first | assumption | wp_step))
theorem exc_entry {tk:Tok} {Q:Fin->Shared->Prop} (Er:ErrCls K D) (X:K.In s.heap) (I:PySem.W.InstAt s.heap x ox D none) (hq:Q (.done (.ret (.ref D))) s) :
  wpAny (model prog w) A (Builtin.«object.__getattribute__» ⟨[.ref x,.str "__class__" tk],[]⟩) Q E s:=by
 obtain ⟨h,g,d,t,os⟩:=s
 have L0:=I.type (M:=model prog w)
 have L1:=PySem.W.looks_find (M:=model prog w) X I (find_cls Er none)
 unfold Builtin.«object.__getattribute__»
 refine wpAny_bind (wpAny_of_eq (a:=(.ref x,[.str "__class__" tk])) (by rfl) ?_)
 dsimp only
 refine wpAny_bind (wpAny_pure (wpAny_bind (L0.at (wpAny_bind (L1.at ?_)))))
 show wpAny _ _ (Builtin.ObjectAttr.bindTo (.builtin "getset_descriptor.__get__") (.builtin "object.__class__") (.ref x) (.ref D)) _ _ _
 unfold Builtin.ObjectAttr.bindTo
 dsimp only
 refine wpAny_bind (wpAny_holding (wpAny_call (PySem.W.class_get (s:=⟨h,g,d,t,os⟩) (ox:=ox) (od:=none) X I Er.hm ?_)))
 exact wpAny_pure hq
theorem exc_call {tk:Tok} {R:Result->Shared->Prop} (Er:ErrCls K D) (X:K.In s.heap) (I:PySem.W.InstAt s.heap x ox D none) (hq:R (.ok (.ret (.ref D))) s) :
  codeAny (model prog w) A (.call (.builtin "BaseException.__getattribute__") ⟨[.ref x,.str "__class__" tk],[]⟩) R s :=
 codeAny_call_builtin F.excAttr_ValueError.ga.plain F.entry_bexc_ga (exc_check Er X I (exc_entry Er X I hq))
theorem exc_class {Q:Option Value->Shared->Prop} (Er:ErrCls K D) (X:K.In s.heap) (I:PySem.W.InstAt s.heap x ox D none) (hq:Q (some (.ref D)) { s with toks:=s.toks + 1 }):wpAny (model prog w) A (getAttr? (.ref x) "__class__") Q E s:=by
 obtain ⟨h,g,d,t,os⟩:=s
 have L0:=I.type (M:=model prog w)
 have L1:=PySem.W.looks_findIn (M:=model prog w) X Er.ga
 have L2:=PySem.W.looks_findIn (M:=model prog w) X Er.gh
 have f3:=F.excAttr_ValueError.ga.bind (.ref x)
 unfold getAttr? getAttrBy? getAttrBy
 refine wpAny_bind (wpAny_mkText (wpAny_bind (wpAny_attempt (wpAny_holding (wpAny_bind (L0.at (wpAny_bind (L1.at ?_))))))))
 have hx2:(onTheHeap (Value.ref D) && Value.builtin "BaseException.__getattribute__" == Value.builtin "object.__getattribute__")=false:=by
  have hx1:(Value.builtin "BaseException.__getattribute__" == Value.builtin "object.__getattribute__")=false:=by decide +kernel
  rw [hx1,Bool.and_false]
 dsimp only
 rw [hx2,if_neg Bool.false_ne_true]
 unfold getAttrByItsOwn hookBefore
 refine wpAny_bind ?_
 rw [if_pos (by rfl)]
 refine L2.at ?_
 refine wpAny_bind (wpAny_attempt (wpAny_holding ?_))
 unfold callGetattribute
 rw [if_neg (by decide)]
 unfold boundAndCalled
 refine wpAny_bind ?_
 rw [f3]
 refine wpAny_pure ?_
 refine wpAny_call (exc_call (s:=⟨h,g,d,t + 1,os⟩) Er X I ?_)
 exact PySem.W.handed_on rfl (wpAny_pure hq)
end
theorem isType_cls {K:W.Frag} {D:Addr} {M:Model} {h:Heap} (X:K.In h) (hc:(PySem.W.clsIn K D).isSome=true):PySem.W.Looks M h (isType (.ref D)) true:=by
 obtain ⟨cd,hc⟩:=Option.isSome_iff_exists.mp hc
 unfold PySem.W.clsIn at hc
 split at hc
 ·next ho =>
  intro A Q E s k q
  unfold isType loadHead
  exact wpAny_bind (wpAny_loadPart (k _ _ (X _ _ ho)) (wpAny_pure q))
 ·cases hc
theorem zd6 {K:W.Frag} {x D:Addr} {ox:Obj} (Er:ErrCls K D):PySem.W.KitX K (.ref x) (.ref D) (fun h=>PySem.W.InstAt h x ox D none) where
 ty:=fun _ _ _ I=>I.type
 it:=fun _ _ X _=>isType_cls X Er.hc
 ne:=fun h tp dd its n sl X htp=>by
  obtain ⟨cd,hc⟩:=Option.isSome_iff_exists.mp Er.hc
  refine Bool.eq_false_iff.mpr fun q => ?_
  have e:D=tp:=Value.ref.inj (beq_iff_eq.mp q)
  subst e
  unfold PySem.W.clsIn at hc
  split at hc
  ·next ho =>
   have z:=(X _ _ ho).symm.trans htp
   cases z
  ·cases hc
 ca:=fun X I k=>exc_class Er X I k
section
variable {X:Cx}
theorem zaH:CallR X (.builtin "isinstance") (fun xs H Q=>∃ (e C D:Addr) (oe:Obj) (b:Bool),xs = [.ref e,.ref C]/\((e,oe)∈X.pn/\(oe.cls = .ref D/\oe.dict=none)/\∃ vs,oe.data = .fields vs)/\ErrCls X.K D/\PySem.W.kitOne X.K (.ref D) (.ref C)=some b/\Q (.bl b) H):=by
 intro pins s σ H xs us Q I r h
 obtain ⟨e,C,D,oe,b,rfl,⟨hp,⟨hc,hd⟩,vs,hv⟩,Er,hk,q⟩:=h
 obtain ⟨u,u',rfl,ru,ru'⟩:=zeN r
 cases (show u=Value.ref e from ru)
 cases (show u'=Value.ref C from ru')
 have ia:PySem.W.InstAt s.heap e oe D none:=⟨(I.pin (e,oe) (List.mem_append_left _ hp)).1,hc,by unfold PySem.W.notCls; rw [hv],by rw [hd]; trivial⟩
 exact PySem.W.kia_one (zd6 (ox:=oe) Er) I.kIn ia hk (fun z=>nomatch z) fun tk=>⟨.bl b,H,I.tok _,rfl,q⟩
end
structure Err (K:W.Frag) (mg:Str->Option Value) (x:Str) (C:Addr):Prop where
 bound:mg x=some (.ref C)
 exc:PySem.W.excIn K C [.type "ValueError",.type "Exception",.type "BaseException",.type "object"] "ValueError.__new__" = true
theorem err_obj {K:W.Frag} {h:Heap} {C:Addr} {bmB:List Value} {newId:String} (X:K.In h) (q:PySem.W.excIn K C bmB newId=true) :
  ∃ bm N nm q bs hdct sn sub ab col dd k0 k1 k2 k3 k5 mN,h.get? C=some (excClassObj nm q C N bs bm hdct sn sub ab col dd k0 k1 k2 k3 k5 newId)/\h.Ns N mN/\mN "__init__" = none/\OwnTail h bmB bm:=by
 unfold PySem.W.excIn at q
 split at q
 ·next dd cd sl ho =>
  split at q
  ·next C' bm k0 k1 k2 k3 n k5 hm hs =>
   simp only [Bool.and_eq_true,beq_iff_eq,Bool.not_eq_true'] at q
   obtain ⟨⟨⟨⟨⟨r1,r2⟩,hdel⟩,ht⟩,hok⟩,hni⟩:=q
   subst r1 r2
   cases cd with
   | mk nm bs mro ns qn hd sn sub ab col del =>
    dsimp only at hm hdel hok hni
    subst hm hdel
    cases sl with
    | mk l =>
     simp only at hs
     subst hs
     exact ⟨bm,ns,nm,qn,bs,hd,sn,sub,ab,col,dd,k0,k1,k2,k3,k5,_,X _ _ ho,.of_isNs (PySem.W.isNs_of_in X hok),PySem.W.nsMap_none_of_in X hok hni,PySem.W.tail_of_in X ht⟩
  ·cases q
 ·cases q
noncomputable def tRaise (E:XK) (C:Addr) (ta:TA):TS:=fun _ σ H=>ta σ H fun vs H1=>vs.length<=sizeLine/\E (.ref C) none H1
section
variable {P:Program} {w:World} {K:W.Frag} {mg:Str->Option Value} {base:Heap} {N:List Str} {qual:Str} {scope:Scope} {f:Addr} {cd:Value} {A:Around} {outer:List Env} {s₀ : Shared} {H₀ : Hp} {E:XK}
theorem zaE {x:Str} {C:Addr} {np cpos pos:Pos} {e:Expr} {es:List Expr} {t:TA} (O:Err K mg x C) (hg:Gl (cxOf (CX1 P w) P w K mg base N qual scope f cd A outer s₀ H₀ E) x)
  (ha:PA (cxOf (CX1 P w) P w K mg base N qual scope f cd A outer s₀ H₀ E) (e :: es) t) (hd:(x == ("__debug__" : Str))=false:=by decide)
  (he:starEach (e :: es) (envOfC qual scope s₀.heap.objs.size f cd)=(false,eval e (envOfC qual scope s₀.heap.objs.size f cd)) :: starEach es (envOfC qual scope s₀.heap.objs.size f cd):=by rfl)
  (hpl:(backTo cpos (starEach es (envOfC qual scope s₀.heap.objs.size f cd))).any (·.1)=false:=by rfl) :
  PS (cxOf (CX1 P w) P w K mg base N qual scope f cd A outer s₀ H₀ E) (.Raise (some (.Call (.Name x np) (e :: es) [] cpos)) none pos) (tRaise E C t):=by
 intro pins s σ H D I h
 obtain ⟨bm,Nn,nm,q,bs,hdct,sn,sub,ab,col,dd,k0,k1,k2,k3,k5,mN,hC,hN,hni,T⟩:=err_obj I.ok.mod.kin O.exc
 refine wpAny_Raise_call_subT (C:=C) (nm:=nm) (q:=q) (N:=Nn) (bs:=bs) (bm:=bm) (hdct:=hdct) (sn:=sn) (sub:=sub) (ab:=ab) (col:=col) (dd:=dd) (k0:=k0) (k1:=k1) (k2:=k2) (k3:=k3) (k5:=k5) (env:=envOfC qual scope s₀.heap.objs.size f cd)
  F.excBase_ValueError (mN:=mN) (T.hasType F.excBase_ValueError.hasBase) (I.ok.hd rfl) ?_ hni (zb6 I hg O.bound ⟨rfl,?_⟩ hd)
 ·rw [he]
  show (false || (backTo cpos (starEach es (envOfC qual scope s₀.heap.objs.size f cd))).any (·.1))=false
  rw [hpl]; rfl
 ·have g:=ha cpos pins s σ H _ I h
  change wpAny _ _ (spliced (backTo cpos (starEach (e :: es) (envOfC qual scope s₀.heap.objs.size f cd)))) _ _ s at g
  rw [he] at g ⊢
  refine Calls.evalArgs_plain (thn g fun us s2 ⟨vs,H1,I1,r,hl,q⟩ => ?_)
  exact ⟨rfl,by rw [<- r.length]; exact hl,I1.bk _ _ hC,hN.keeps I1.bk,T.keeps I1.bk,fun h' x hx=>raise_out I1 hx rfl I1.bare q⟩
end
structure Callee1 (P:Program) (w:World) (K:W.Frag) (mg:Str->Option Value) (base:Heap) (x:Str) (k:Nat) (ps:List Str) (sp:Sp):Prop where
 ex:∃ f fd,FnOk P w K mg base (CX1 P w) k f fd ps sp/\mg x=some (.ref f)/\PySem.W.keepIn K (.ref f)=true/\Binds K fd ps []
structure MethAt (K:W.Frag) (C:Addr) (cn m:Str) (st:Stmt):Prop where
 ex:∃ f fd,Fun K m (cn ++ Str.ofString "." ++ m) st f fd/\Meth K C m f
structure Method (P:Program) (w:World) (K:W.Frag) (mg:Str->Option Value) (base:Heap) (C:Addr) (m:Str) (CX:CXT) (k:Nat) (ps:List Str) (sp:Sp):Prop where
 ex:∃ f fd,FnOk P w K mg base CX k f fd ps sp/\Meth K C m f/\Binds K fd ps []
section
variable {P:Program} {w:World} {K:W.Frag} {mg:Str->Option Value} {base:Heap}
theorem Fun.ok1 {x qual:Str} {st:Stmt} {f:Addr} {fd:FuncData} {N ps:List Str} {k:Nat} {sp:Sp} (F:Fun K x qual st f fd) (S:FnScope N ps (defScope st)) (len:∀ vs H Q E,sp vs H Q E->vs.length=ps.length)
  (hbody:∀ (cdv:Value) (A:Around) (outer:List Env) (s:Shared) (H:Hp) (vs:List V) (Q:VK) (E:XK),Room k (A.deeper (envOfC qual (defScope st) s.heap.objs.size f cdv))->sp vs H Q E ->
   ∃ t,PSs (cxOf (CX1 P w) P w K mg base N qual (defScope st) f cdv A outer s H E) (defBody st) t/\t { nx:=fun _ H'=>Q .non H',rt:=Q } (start N vs) H):FnOk P w K mg base (CX1 P w) (k + 1) f fd ps sp:=by
 obtain ⟨oc,od,kV,doc,pm,an,cdv,ct,osl,rfl,lk,hcd⟩:=F.ex
 exact zfe lk hcd S len fun A outer s H vs Q E hr hsp=>hbody cdv A outer s H vs Q E hr hsp
theorem DefAt.callee1 {x:Str} {st:Stmt} {N ps:List Str} {k:Nat} {sp:Sp} (D:DefAt K mg x st) (S:FnScope N ps (defScope st))
  (hb:∀ (kV doc pm:Value) (an:Option Addr) (cdv ct:Value) (us:List Value),us.length=ps.length->bindArgs (PySem.W.fnOf x x (defArgs st) (defBody st) (defScope st) .none kV doc pm an cdv ct) ⟨us,[]⟩=pure (ps.zip us))
  (len:∀ vs H Q E,sp vs H Q E->vs.length=ps.length)
  (hbody:∀ (f:Addr) (cdv:Value) (A:Around) (outer:List Env) (s:Shared) (H:Hp) (vs:List V) (Q:VK) (E:XK),Room k (A.deeper (envOfC x (defScope st) s.heap.objs.size f cdv))->sp vs H Q E ->
   ∃ t,PSs (cxOf (CX1 P w) P w K mg base N x (defScope st) f cdv A outer s H E) (defBody st) t/\t { nx:=fun _ H'=>Q .non H',rt:=Q } (start N vs) H):Callee1 P w K mg base x (k + 1) ps sp:=by
 obtain ⟨f,fd,F,m⟩:=D.ex
 exact ⟨f,fd,F.ok1 S len (fun cdv A outer s H vs Q E hr h=>hbody f cdv A outer s H vs Q E hr h),m,F.kp,F.binds hb⟩
theorem MethAt.meth1 {cn m:Str} {C:Addr} {st:Stmt} {N ps:List Str} {k:Nat} {sp:Sp} (D:MethAt K C cn m st) (S:FnScope N ps (defScope st))
  (hb:∀ (kV doc pm:Value) (an:Option Addr) (cdv ct:Value) (us:List Value),us.length=ps.length->bindArgs (PySem.W.fnOf m (cn ++ Str.ofString "." ++ m) (defArgs st) (defBody st) (defScope st) .none kV doc pm an cdv ct) ⟨us,[]⟩=pure (ps.zip us))
  (len:∀ vs H Q E,sp vs H Q E->vs.length=ps.length)
  (hbody:∀ (f:Addr) (cdv:Value) (A:Around) (outer:List Env) (s:Shared) (H:Hp) (vs:List V) (Q:VK) (E:XK),Room k (A.deeper (envOfC (cn ++ Str.ofString "." ++ m) (defScope st) s.heap.objs.size f cdv))->sp vs H Q E ->
   ∃ t,PSs (cxOf (CX1 P w) P w K mg base N (cn ++ Str.ofString "." ++ m) (defScope st) f cdv A outer s H E) (defBody st) t/\t { nx:=fun _ H'=>Q .non H',rt:=Q } (start N vs) H):Method P w K mg base C m (CX1 P w) (k + 1) ps sp:=by
 obtain ⟨f,fd,F,m⟩:=D.ex
 exact ⟨f,fd,F.ok1 S len (fun cdv A outer s H vs Q E hr h=>hbody f cdv A outer s H vs Q E hr h),m,F.binds hb⟩
theorem MethAt.meth0 {cn m:Str} {C:Addr} {st:Stmt} {N ps:List Str} {k:Nat} {sp:Sp} (D:MethAt K C cn m st) (S:FnScope N ps (defScope st))
  (hb:∀ (kV doc pm:Value) (an:Option Addr) (cdv ct:Value) (us:List Value),us.length=ps.length->bindArgs (PySem.W.fnOf m (cn ++ Str.ofString "." ++ m) (defArgs st) (defBody st) (defScope st) .none kV doc pm an cdv ct) ⟨us,[]⟩=pure (ps.zip us))
  (len:∀ vs H Q E,sp vs H Q E->vs.length=ps.length)
  (hbody:∀ (f:Addr) (cdv:Value) (A:Around) (outer:List Env) (s:Shared) (H:Hp) (vs:List V) (Q:VK) (E:XK),Room k (A.deeper (envOfC (cn ++ Str.ofString "." ++ m) (defScope st) s.heap.objs.size f cdv))->sp vs H Q E ->
   ∃ t,PSs (cxOf CX0 P w K mg base N (cn ++ Str.ofString "." ++ m) (defScope st) f cdv A outer s H E).nox (defBody st) t/\t { nx:=fun _ H'=>Q .non H',rt:=Q } (start N vs) H):Method P w K mg base C m CX0 (k + 1) ps sp:=by
 obtain ⟨f,fd,F,m⟩:=D.ex
 exact ⟨f,fd,F.ok S len (fun cdv A outer s H vs Q E hr h=>hbody f cdv A outer s H vs Q E hr h),m,F.binds hb⟩
end
section
variable {X:Cx} {x m:Str} {k:Nat} {ps:List Str} {sp:Sp} {p pos apos:Pos} {o e:Expr} {es:List Expr} {ta:TE} {t:TA} {E:XK} {C:Addr} {CX:CXT}
theorem za6 (F:Callee1 X.prog X.w X.K X.mg X.base x k ps sp) (hr:Room k X.A) (hx:Passes (CX1 X.prog X.w) X E) (hg:Gl X x) (ha:PA X (e :: es) t) (hdb:(x == ("__debug__" : Str))=false:=by decide)
  (he:starEach (e :: es) X.env=(false,eval e X.env) :: starEach es X.env:=by rfl) (hpl:(backTo pos (starEach es X.env)).any (·.1)=false:=by rfl):PE X (.Call (.Name x p) (e :: es) [] pos) (tCall sp [] E t):=by
 obtain ⟨f,fd,F,hm,hk,hb⟩:=F.ex
 exact zew F hr hg hm hk hb .nil hx ha hdb he hpl
theorem zbC {pl:Sem Bool} (he:PE X o ta) (c:Cls X.K C) (F:Method X.prog X.w X.K X.mg X.base C m CX k ps sp) (hr:Room k X.A) (hx:Passes CX X E) (ha:PA X (e :: es) t)
  (hst:starEach (e :: es) X.env=(false,eval e X.env) :: starEach es X.env:=by rfl) (hpl:(backTo pos (starEach es X.env)).any (·.1)=false:=by rfl)
  (ht:eval (.Call (.Attribute o m apos) (e :: es) [] pos) X.env=(do
   let ov <- eval o X.env
   standAt apos.atName
   let (f,first) <- holding [ov] (getMethod ov m pl)
   callWith pos f first (backTo pos (starEach (e :: es) X.env)) (backToKw pos (keywordEach [] X.env))):=by rfl) :
  PE X (.Call (.Attribute o m apos) (e :: es) [] pos) (tMeth C m sp [] E ta t):=by
 obtain ⟨f,fd,F,hm,hb⟩:=F.ex
 exact pe_meth he c hm F hr hb .nil hx ha hst hpl ht
theorem zet {pl:Sem Bool} (he:PE X o ta) (c:Cls X.K C) (F:Method X.prog X.w X.K X.mg X.base C m CX k ps sp) (hr:Room k X.A) (hx:Passes CX X E)
  (ht:eval (.Call (.Attribute o m apos) [] [] pos) X.env=(do
   let ov <- eval o X.env
   standAt apos.atName
   let (f,first) <- holding [ov] (getMethod ov m pl)
   callWith pos f first (backTo pos (starEach [] X.env)) (backToKw pos (keywordEach [] X.env))):=by rfl) :
  PE X (.Call (.Attribute o m apos) [] [] pos) (tMeth C m sp [] E ta tNil):=by
 obtain ⟨f,fd,F,hm,hb⟩:=F.ex
 exact pe_meth0 he c hm F hr hb .nil hx ht
end
section
variable {X:Cx}
end
mutual
inductive VD (K:W.Frag) (H:Hp):V->PyData->Prop
 | non:VD K H .non .none
 | bl (b:Bool):VD K H (.bl b) (.bool b)
 | int (i:Int):VD K H (.int i) (.int i)
 | str (x:Str):VD K H (.str x) (.str x)
 | lst {a:Addr} {xs:List V} {ds:List PyData}:SqL K H a xs->VDs K H xs ds->VD K H (.ref a) (.list ds)
 | tup {a:Addr} {xs:List V} {ds:List PyData}:SqT K H a xs->VDs K H xs ds->VD K H (.ref a) (.tuple ds)
inductive VDs (K:W.Frag) (H:Hp):List V->List PyData->Prop
 | nil:VDs K H [] []
 | cons {x:V} {d:PyData} {xs:List V} {ds:List PyData}:VD K H x d->VDs K H xs ds->VDs K H (x :: xs) (d :: ds)
end
section
variable {X:Cx} {pins:List (Addr×Obj)} {σ : St} {H:Hp} {s:Shared}
mutual
theorem VD.reads (I:Inv X pins σ H s):∀ {v:V} {d:PyData} {u:Value},VD X.K H v d->RelV v u->∃ as,Reads s.heap u d as
 | _,_,_,.non,r=>by cases r; exact ⟨_,.none⟩
 | _,_,_,.bl b,r=>by cases r; exact ⟨_,.bool b⟩
 | _,_,_,.int i,r=>by obtain ⟨t,rfl⟩:=r; exact ⟨_,.int i t⟩
 | _,_,_,.str x,r=>by obtain ⟨t,rfl⟩:=r; exact ⟨_,.str x t⟩
 | _,_,_,.lst hq hs,r=>by
  cases r
  obtain ⟨its,rv,⟨o,n,e,c,_,d⟩,_⟩:=I.list hq
  obtain ⟨as,ra⟩:=VDs.reads I hs rv
  exact ⟨_,.list e c d (by simpa using ra)⟩
 | _,_,_,.tup hq hs,r=>by
  cases r
  obtain ⟨its,rv,⟨o,e,c,n,d⟩,_⟩:=I.tuple hq
  obtain ⟨as,ra⟩:=VDs.reads I hs rv
  exact ⟨_,.tuple e c d (by simpa using ra)⟩
theorem VDs.reads (I:Inv X pins σ H s):∀ {vs:List V} {ds:List PyData} {us:List Value},VDs X.K H vs ds->Vals vs us->∃ as,ReadsAll s.heap us ds as
 | _,_,_,.nil,r=>by cases r; exact ⟨_,.nil⟩
 | _,_,_,.cons h hs,r=>by
  cases r with
  | cons r rr =>
   obtain ⟨a1,r1⟩:=VD.reads I h r
   obtain ⟨a2,r2⟩:=VDs.reads I hs rr
   exact ⟨_,.cons r1 r2⟩
end
end
section
variable {X:Cx}
noncomputable def rEqD (K:W.Frag) (neg:Bool):R2:=fun x y H Q=>∃ d e,VD K H x d/\VD K H y e/\SeqAt.shaped d=true/\SeqAt.shaped e=true/\Q (.bl (if neg then !PyData.eqv d e else PyData.eqv d e)) H
theorem op_eqD (hu:X.A.units + 64 < cLine):OpR X (compareOp .Eq) (rEqD X.K false):=by
 intro pins s σ H x y v u Q I rx ry h
 obtain ⟨d,e,hd,he,s1,s2,q⟩:=h
 obtain ⟨a1,r1⟩:=hd.reads I rx
 obtain ⟨a2,r2⟩:=he.reads I ry
 exact eq_dataH r1 r2 s1 s2 hu ⟨.bl _,H,I,rfl,q⟩
theorem zc7:∀ {xs:List Str} {us:List Value},StrsAre us xs->Vals (xs.map V.str) us
 | _,_,.nil => .nil
 | _,_,.cons _ t r => .cons ⟨t,rfl⟩ (zc7 r)
theorem sorted_fin {pins:List (Addr×Obj)} {σ : St} {H:Hp} {s:Shared} {Q:VK} {vs:List Value} {out:Array Value} {ys:List V} (I:Inv X pins σ H s) (hl:ys.length<=sizeLine) (r:Vals ys out.toList)
  (q:Q (.ref (s.heap.objs.size + 1)) (upd H (s.heap.objs.size + 1) (.lst ys))):EP X pins σ Q (.ref (s.heap.objs.size + 1)) { s with heap:=sortedAll s.heap vs out }:=by
 obtain ⟨e,he⟩:=sortedAll_at s.heap vs out
 exact ⟨.ref (s.heap.objs.size + 1),_,I.laid (t':=s.toks) (fun b o=>sortedAll_old) (Nat.le_succ _) (show ObjOk X.prog X.w _ _ _ (.lst ys) from ⟨hl,out.toList,e,r,by simpa using he⟩),rfl,q⟩
theorem zbG:CallR X (.builtin "sorted") (fun xs H Q=>∃ (a:Addr) (ns:List Int),xs = [V.ref a]/\SqL X.K H a (ns.map V.int)/\ns.length < 64/\∀ p (ns':List Int),H p=none->ns'.Perm ns->ns'.Pairwise (· <= ·)->Q (.ref p) (upd H p (.lst (ns'.map V.int)))):=by
 intro pins s σ H xs us Q I r h
 obtain ⟨a,ns,rfl,hq,hb,q⟩:=h
 obtain ⟨u,rfl,ru⟩:=zce r
 cases ru
 obtain ⟨its,rv,p,hz⟩:=I.list hq
 have hl:ns.length=its.length:=by have:=rv.length; rwa [List.length_map] at this
 refine sorted_ints p.isList (zci rv) (by omega) fun out ns' a1 a2 a3 => ?_
 exact sorted_fin I (by rw [List.length_map,a2.length_eq]; exact Nat.le_trans (Nat.le_of_lt hb) (by decide)) (zco a1) (q _ ns' (I.hok.fresh (Nat.le_succ _)) a2 a3)
end
theorem zcJ:∀ {l:List Value} {ss:List Str},l.length=ss.length->(∀ (j:Nat) (v:Value) (x:Str),l[j]?=some v->ss[j]?=some x->∃ t,v = .str x t)->StrsAre l ss
 | [],[],_,_ => .nil
 | v :: l,x :: ss,hl,h=>by
  obtain ⟨t,rfl⟩:=h 0 v x rfl rfl
  exact .cons _ _ (zcJ (by simpa using hl) fun j u y e1 e2=>h (j + 1) u y (by simpa using e1) (by simpa using e2))
theorem KV.get {κ : Type}:∀ {a:List (κ × V)} {b:List (κ × Value)} {i:Nat} {k : κ} {x:Value},KV a b->b[i]?=some (k,x)->∃ v,a[i]?=some (k,v)/\RelV v x
 | [],_,_,_,_,h,e=>by cases h; simp at e
 | (k',v') :: a,_,i,k,x,h,e=>by
  cases h with
  | cons r rr =>
   cases i with
   | zero =>
    simp at e
    obtain ⟨r1,r2⟩:=r
    simp only at r1
    rw [e] at r1 r2
    exact ⟨v',by rw [r1]; rfl,r2⟩
   | succ i=>exact KV.get (i:=i) rr (by simpa using e)
section
variable {X:Cx}
theorem zbH (hc:X.calm=true):CallR X (.builtin "sorted") (fun xs H Q=>∃ (a:Addr) (kvs:List (Key×V)) (ss:List Str),xs = [V.ref a]/\Rd H a (.dK kvs)/\kvs.map (·.1)=ss.map Sum.inr/\ss.length < 64 /\
  ∀ p (ss':List Str),H p=none->ss'.Perm ss->sortedS ss'=true->Q (.ref p) (upd H p (.lst (ss'.map V.str)))):=by
 intro pins s σ H xs us Q I r h
 obtain ⟨a,kvs,ss,rfl,hq,hk,h64,q⟩:=h
 obtain ⟨u,rfl,ru⟩:=zce r
 cases ru
 obtain ⟨hz,lo,vs,kv,hD⟩:=(show ObjOk X.prog X.w H s.heap a (.dK kvs) from hq.ok I.hok)
 obtain ⟨ep,hat⟩:=hD.dictAt
 have hlen:vs.length=ss.length:=by
  have e1:=kv.length
  have e2:=congrArg List.length hk
  rw [List.length_map,List.length_map] at e2
  omega
 have big64:(64:Nat)<=sizeLine:=by decide
 refine Calls.call_function_entry kind_sorted plain_sorted entry_sorted (args_sorted1 _) ?_
 unfold Builtin.«sorted»
 refine wpAny_bind (m:=checkCount "sorted" 1 1 _) (wpAny_pure ?_)
 refine wpAny_bind (PySem.W.kdu_collect (A:=X.A.in1) (PySem.W.kdl_dict (knd:=mixKind X.prog X.w) (kvs:=vs) (ep:=ep) lo) (I.ok.hd hc) hat (by omega) fun h' tk acc hkeep hacc => ?_)
 have hl:acc.toList.length=vs.length:=by rw [Array.length_toList]; exact hacc.1
 have hS:StrsAre acc.toList ss:=by
  refine zcJ (by omega) fun j v x e1 e2 => ?_
  obtain ⟨k,y,e3,hk2⟩:=hacc.2 j v (by rw [<- Array.getElem?_toList]; exact e1)
  obtain ⟨v',e4,_⟩:=kv.get e3
  have e5:(kvs.map (·.1))[j]?=some k:=by rw [List.getElem?_map,e4]; rfl
  rw [hk,List.getElem?_map,e2] at e5
  have e6:Sum.inr x=k:=Option.some.inj e5
  subst e6
  rcases zaA (show keyIs (Sum.inr x) v=true from hk2) with ⟨i,t,e,_⟩ | ⟨y,t,e,e7⟩
  ·cases e
  ·cases e; exact ⟨t,e7⟩
 refine wpAny_bind (wpAny_newList ?_ (by rw [hl]; omega))
 have hoL:(h'.push (seqObj "list" acc.toList.toArray 0)).get? h'.objs.size=some (seqObj "list" acc.toList.toArray 0):=Heap.get?_push_size _ rfl
 refine wpAny_bind (wpAny_holding (wpAny_call_entry slot_list_sort ⟨_,hoL,rfl⟩ entry_list_sort (list_sort_treeK strKind_oneLt hoL hS.keysOf (fun v₁ v₂ rest e=>keyKind_strs (by rw [<- e]; exact hS)) (by omega) fun st' hp hs=>⟨_,rfl,?_⟩) (args_list_sort _)))
 obtain ⟨ss',a1,a2,a3⟩:=sorted_out_str hS hp hs
 refine wpAny_pure ⟨_,rfl,?_⟩
 obtain ⟨e,he⟩:=sortedHeap_at (out:=(arrOf st').map (·.2)) hoL
 have I1:Inv X pins σ H { s with heap:=h',toks:=tk }:=I.kept hkeep
 have I2:=Inv.laid (o := .lst (ss'.map V.str)) (a:=h'.objs.size) (h':=sortedHeap (h'.push (seqObj "list" acc.toList.toArray 0)) h'.objs.size acc.toList ((arrOf st').map (·.2))) (t':=tk) I1 (fun b o hb=>by
  have lt:=Heap.lt_size hb
  rw [sortedHeap_old (Nat.ne_of_lt lt) (by rw [Heap.size_push]; exact Nat.lt_succ_of_lt lt)]
  exact Heap.get?_push_of_some _ hb) (Nat.le_refl _) (show ObjOk X.prog X.w _ _ _ (.lst (ss'.map V.str)) from ⟨by rw [List.length_map,a2.length_eq]; omega,_,e,zc7 a1,by rw [Array.toArray_toList]; exact he⟩)
 exact ⟨.ref h'.objs.size,_,I2,rfl,q _ ss' (I1.hok.fresh (Nat.le_refl _)) a2 a3⟩
end
section
variable {X:Cx} {pins:List (Addr×Obj)} {σ : St} {H:Hp} {s:Shared} {a:Addr} {kvs:List (Key×V)}
theorem Inv.freeze (I:Inv X pins σ H s) (h:H a=some (.dK kvs)):∃ o,s.heap.get? a=some o/\Inv X pins σ (upd H a (.frz o (.dK kvs))) s:=by
 have ok:=(show ObjOk X.prog X.w H s.heap a (.dK kvs) from I.hok a _ h)
 obtain ⟨o,ho⟩:=ok.there
 refine ⟨o,ho,?_⟩
 have:=Inv.write (x:=a) (e:=a) (o := .frz o (.dK kvs)) (h':=s.heap) (t':=s.toks) I (by rw [h]; trivial) (.inl rfl) (fun _ _ _ q=>q) ⟨o,ho⟩ ⟨ho,ok.stay (fun _ _ _ q=>q) (fun b q=>by rw [zal (fun z=>by rw [z,h] at q; cases q)]; exact q) fun b xs q=>by rw [zal (fun z=>by rw [z,h] at q; cases q)]; exact q⟩
 exact this
theorem Inv.unfreeze {o:Obj} (I:Inv X pins σ H s) (h:H a=some (.frz o (.dK kvs))) (h0:∀ o u,X.H₀ a≠some (.frz o u)):Inv X pins σ (upd H a (.dK kvs)) s:=by
 have nn:∀ b,H b=none->b≠a:=fun b q z=>by rw [z,h] at q; cases q
 obtain ⟨ho,ok⟩:=(show ObjOk X.prog X.w H s.heap a (.frz o (.dK kvs)) from I.hok a _ h)
 have own:∀ b y,H b=some (.own y)->upd H a (.dK kvs) b=some (.own y):=fun b y q=>by rw [zal (fun z=>by rw [z,h] at q; cases q)]; exact q
 have tups:∀ b xs,H b=some (.tup xs)->upd H a (.dK kvs) b=some (.tup xs):=fun b y q=>by rw [zal (fun z=>by rw [z,h] at q; cases q)]; exact q
 refine ⟨I.ok,I.os,I.bare,⟨I.base.keep,I.base.slot,fun b u q n hx => ?_,I.base.there,fun b xs q=>tups b xs (I.base.tups b xs q),fun b u v q => ?_,fun b ps q => ?_⟩,I.loc,I.cell,?_,fun y c e => ?_,fun p hp => ?_,fun b u q => ?_,I.len⟩
 ·have:=I.base.free b u q n hx
  rw [zal (nn b this)]; exact this
 ·have q':=I.base.frzs b u v q
  rw [zal (fun z=>h0 _ _ (z ▸ q))]; exact q'
 ·obtain ⟨m,e⟩:=I.base.tbls b ps q
  exact ⟨m,by rw [zal (fun z=>by rw [z,h] at e; cases e)]; exact e⟩
 ·rw [zal (nn _ I.free)]; exact I.free
 ·rw [zal (nn _ (I.freeC y c e))]; exact I.freeC y c e
 ·obtain ⟨e1,e2,e3,e4,e5⟩:=I.pin p hp
  exact ⟨e1,by rw [zal (nn _ e2)]; exact e2,e3,e4,e5⟩
 ·by_cases hb:b=a
  ·subst hb
   rw [zaf] at q
   cases q
   exact ok.stay (fun _ _ _ q=>q) (fun c q=>own c _ q) tups
  ·rw [zal hb] at q
   exact (I.hok b u q).stay (fun _ _ _ q=>q) (fun c q=>own c _ q) tups
end
noncomputable def Itd (a:Addr) (o:Obj) (kvs:List (Key×V)):It:=⟨fun i H=>H a=some (.frz o (.dK kvs))/\i < kvs.length,fun i H v H'=>H'=H/\∃ k y,kvs[i]?=some (k,y)/\v=kV k,fun i H=>H a=some (.frz o (.dK kvs))/\kvs.length<=i⟩
theorem kV_rel {k:Key} {v:Value} (h:keyIs k v=true):RelV (kV k) v:=by
 rcases zaA h with ⟨i,t,rfl,rfl⟩ | ⟨x,t,rfl,rfl⟩
 ·exact ⟨t,rfl⟩
 ·exact ⟨t,rfl⟩
theorem zeD {X:Cx} {pins:List (Addr×Obj)} {σ : St} {H:Hp} {s:Shared} {a:Addr} {o:Obj} {kvs:List (Key×V)} {es:Array DictEntry} {ep:Nat} (I:Inv X pins σ H s) (h:H a=some (.frz o (.dK kvs))) (hd:o.data = .dict es ep) :
  (a == sysModules)=false/\∃ vs,KV kvs vs/\s.heap.DictAt (mixKind X.prog X.w) a vs ep:=by
 obtain ⟨ho,hz,lo,vs,kv,o',es',ep',ho',c,d,r⟩:=(show ObjOk X.prog X.w H s.heap a (.frz o (.dK kvs)) from I.hok a _ h)
 rw [ho] at ho'
 cases ho'
 rw [hd] at d
 cases d
 exact ⟨lo,vs,kv,o,es,ho,c,hd,r⟩
theorem turn_dict {P:Program} {w:World} {K:W.Frag} {tg:Expr} (a it:Addr) (o:Obj) (kvs:List (Key×V)) (es:Array DictEntry) (ep:Nat) (hd:o.data = .dict es ep) :
  Turn P w K tg (Itd a o kvs) [it] it (fun i h=>h.IsKeyIter it a i kvs.length ep) where
 mem:=by simp
 obj:=fun i h st b hb=>by
  have e:b=it:=by simpa using hb
  subst e
  obtain ⟨o,e,c,d⟩:=st
  exact ⟨o,e,fun v z=>by rw [d] at z; cases z⟩
 keep:=fun i h h' st k=>by
  obtain ⟨o,e,r⟩:=st
  exact ⟨o,k it (by simp) o e,r⟩
 item:=by
  intro X hP hw hK hc i pins s σ H E I hf st hg
  subst hP hw hK
  obtain ⟨hz,hi⟩:=hg
  obtain ⟨lo,vs,kv,hat⟩:=zeD I hz hd
  obtain ⟨f0,f1,f2,f3,f4,f5⟩:=hf it (by simp)
  have hl:=kv.length
  have hx:vs[i]?=some (vs[i]'(by omega)):=List.getElem?_eq_getElem _
  refine wpAny_pyNext_dict_item (knd:=mixKind X.prog X.w) (k:=(vs[i]'(by omega)).1) (v:=(vs[i]'(by omega)).2) (by rw [<- hl]; exact st) hat hx fun key h' hk st' sb => ?_
  have I1:Inv X pins σ H { s with heap:=h' }:=I.turned (t':=s.toks) (fun b o hb e=>(sb.2 b hb).trans e) f0 f1 f3 f4 f5
  obtain ⟨o',e,c,d⟩:=id st'
  obtain ⟨y,e2,_⟩:=kv.get (k:=(vs[i]'(by omega)).1) (x:=(vs[i]'(by omega)).2) hx
  exact ⟨key,rfl,zee (s:={ s with heap:=h' }) e c d (by decide) ⟨kV (vs[i]'(by omega)).1,H,I1,kV_rel hk,⟨rfl,_,y,e2,rfl⟩,by rw [hl]; exact st',fun b hb=>(hf b hb).1⟩⟩
 done:=by
  intro X hP hw hK hc i pins s σ H E I hf st hg
  subst hP hw hK
  obtain ⟨hz,hi⟩:=hg
  obtain ⟨lo,vs,kv,hat⟩:=zeD I hz hd
  obtain ⟨f0,f1,f2,f3,f4,f5⟩:=hf it (by simp)
  have hl:=kv.length
  exact wpAny_pyNext_dict_end (knd:=mixKind X.prog X.w) (I.ok.hd hc) (by rw [<- hl]; exact st) hat (List.getElem?_eq_none (by omega)) fun h' eb=>⟨rfl,I.turned (t':=s.toks) (fun b o hb e=>eb b o hb e) f0 f1 f3 f4 f5⟩
 self:=fun A i s Q E st h=>by
  obtain ⟨o,e,c,d⟩:=st
  exact wpAny_pyIter_keyiter ⟨o,e,c,d⟩ h
theorem gives_dict (a:Addr) (o:Obj) (kvs:List (Key×V)):Gives (Itd a o kvs) (fun H=>H a=some (.frz o (.dK kvs))) (kvs.map fun p=>kV p.1) where
 go:=fun i H q h=>⟨q,by simpa using h⟩
 yld:=fun i H v H' q y h=>by
  obtain ⟨e,k,w,hk,rfl⟩:=y
  exact ⟨e,by rw [List.getElem?_map,hk]; rfl⟩
 stop:=fun H q=>⟨q,by simp⟩
section
variable {X:Cx} {tg:Expr}
noncomputable def iDic (i:Nat):TI:=fun σ H R=>∃ a o kvs,σ[i]?=some (some (.ref a))/\H a=some (.frz o (.dK kvs))/\R (Itd a o kvs) H
theorem pi_dic {i:Nat} {x:Str} {np:Pos} (hx:PE X (.Name x np) (tVar i)):PI X tg (.Name x np) (iDic i):=by
 intro pins s σ H R I h
 obtain ⟨a,o,kvs,hσ,ha,q⟩:=h
 refine thnE (hx pins s σ H (fun v H1=>v = .ref a/\H1=H) I ⟨_,hσ,rfl,rfl⟩) fun v s1 y H1 I1 r1 ⟨e1,e2⟩ => ?_
 subst e1 e2
 cases r1
 obtain ⟨ho,_,_,_,_,o',es,ep,ho',_,d,_⟩:=(show ObjOk X.prog X.w H1 s1.heap a (.frz o (.dK kvs)) from I1.hok a _ ha)
 rw [ho] at ho'
 cases ho'
 obtain ⟨lo,vs,kv,hat⟩:=zeD I1 ha d
 refine wpAny_pyIter_dict (knd:=mixKind X.prog X.w) lo hat ?_
 refine ⟨s1.heap.objs.size,[s1.heap.objs.size],_,_,H1,rfl,I1.kept (t':=s1.toks) fun b o e=>Heap.get?_push_of_some _ e,turn_dict a _ o kvs es ep d,?_,fun b hb => ?_,q⟩
 ·rw [kv.length]
  exact ⟨_,Heap.get?_push_size _ rfl,rfl,rfl⟩
 ·have e:b=s1.heap.objs.size:=by simpa using hb
  subst e
  exact I1.fpOk (Nat.le_refl _) (I1.hok.fresh (Nat.le_refl _))
noncomputable def Dfrz (a:Addr) (o:Obj) (kvs:List (Key×V)) (D:Ends):Ends:={ nx:=fun σ H=>H a=some (.frz o (.dK kvs))/\D.nx σ (upd H a (.dK kvs)),rt:=fun v H=>H a=some (.frz o (.dK kvs))/\D.rt v (upd H a (.dK kvs)),bk:=fun σ H=>H a=some (.frz o (.dK kvs))/\D.bk σ (upd H a (.dK kvs)),ct:=fun σ H=>H a=some (.frz o (.dK kvs))/\D.ct σ (upd H a (.dK kvs)) }
noncomputable def tForD (i:Nat) (g:TG) (tb:TS):TS:=fun D σ H=>∃ a kvs,σ[i]?=some (some (.ref a))/\H a=some (.dK kvs)/\∀ o,∃ W:Nat->Nat->St->Hp->Prop,(∃ m,W 0 m σ (upd H a (.frz o (.dK kvs))))/\∀ j m σ H,W j m σ H ->
 ((Itd a o kvs).stop j H/\(Dfrz a o kvs D).nx σ H)\/((Itd a o kvs).go j H/\∃ N:St->Hp->Prop,(∀ σ' H',N σ' H'->∃ m',m' < m/\W (j + 1) m' σ' H') /\
  ∀ x H',(Itd a o kvs).yld j H x H'->g x σ H' fun σ2 H2=>tb { Dfrz a o kvs D with nx:=N,ct:=N,bk:=(Dfrz a o kvs D).nx } σ2 H2)
theorem ps_forD {i:Nat} {x:Str} {body:List Stmt} {g:TG} {tb:TS} {np pos:Pos} (hp:PassesOwn (model X.prog X.w) X.A X.env X.xe) (hc:X.calm=true) (hx:PE X (.Name x np) (tVar i)) (hg:PG X tg g) (hb:PSs X body tb)
  (hs:∀ y,foldedSetIterable (.Name x np) X.env y=pure y:=by intro _; rfl):PS X (.For tg (.Name x np) body [] pos) (tForD i g tb):=by
 intro pins s σ H D I h
 obtain ⟨a,kvs,hσ,ha,h⟩:=h
 obtain ⟨o,ho,I1⟩:=I.freeze ha
 have h0:∀ o u,X.H₀ a≠some (.frz o u):=fun o' u z=>by
  have:=I.base.frzs a o' u z
  rw [ha] at this
  cases this
 refine wpAny_mono (zct hp hc (pi_dic hx) hg hb hs pins s σ (upd H a (.frz o (.dK kvs))) (Dfrz a o kvs D) I1 ⟨a,o,kvs,hσ,zaf,h o⟩) (fun f s' q => ?_) fun _ _ z=>z
 cases f with
 | next=>obtain ⟨σ',H',J,e,q⟩:=q; exact ⟨σ',_,J.unfreeze e h0,q⟩
 | brk=>obtain ⟨σ',H',J,e,q⟩:=q; exact ⟨σ',_,J.unfreeze e h0,q⟩
 | cont=>obtain ⟨σ',H',J,e,q⟩:=q; exact ⟨σ',_,J.unfreeze e h0,q⟩
 | ret u=>obtain ⟨v,σ',H',J,r,e,q⟩:=q; exact ⟨v,σ',_,J.unfreeze e h0,r,q⟩
end
structure HCallee (P:Program) (w:World) (K:W.Frag) (mg:Str->Option Value) (base:Heap) (x:Str) (k:Nat) (ps:List Str) (spf:Addr->Value->Sp):Prop where
 ex:∃ f fd,(∀ (e:Addr) (oe:Obj) (c:Value) (vs:Array Value),oe.cls=c/\oe.dict=none->oe.data = .fields vs->vs[2]?=some .none->FnOkH P w K mg base e oe k f fd ps (spf e c)) /\
  mg x=some (.ref f)/\PySem.W.keepIn K (.ref f)=true/\Binds K fd ps []
theorem DefAt.hcallee {P:Program} {w:World} {K:W.Frag} {mg:Str->Option Value} {base:Heap} {x:Str} {st:Stmt} {N ps:List Str} {k:Nat} {spf:Addr->Value->Sp} (D:DefAt K mg x st) (S:FnScope N ps (defScope st))
  (hb:∀ (kV doc pm:Value) (an:Option Addr) (cdv ct:Value) (us:List Value),us.length=ps.length->bindArgs (PySem.W.fnOf x x (defArgs st) (defBody st) (defScope st) .none kV doc pm an cdv ct) ⟨us,[]⟩=pure (ps.zip us))
  (len:∀ e c vs H Q E,spf e c vs H Q E->vs.length=ps.length)
  (hbody:∀ (f:Addr) (cdv:Value) (A:Around) (outer:List Env) (s:Shared) (H:Hp) (vs:List V) (Q:VK) (e:Addr) (oe:Obj) (c:Value) (ws:Array Value),oe.cls=c/\oe.dict=none->oe.data = .fields ws->QH e oe (cxH P w K mg base N x (defScope st) f cdv A outer s H e oe)->spf e c vs H Q E0 ->
   ∃ t,PSs (cxH P w K mg base N x (defScope st) f cdv A outer s H e oe) (defBody st) t/\t { nx:=fun _ H'=>Q .non H',rt:=Q } (start N vs) H):HCallee P w K mg base x (k + 1) ps spf:=by
 obtain ⟨f,fd,F,m⟩:=D.ex
 have hbi:=F.binds hb
 obtain ⟨oc,od,kV,doc,pm,an,cdv,ct,osl,rfl,lk,hcd⟩:=id F.ex
 exact ⟨f,_,fun e oe c ws hc hd h2=>fn_ofH lk hcd S (len e c) fun A outer s H vs Q hh h=>hbody f cdv A outer s H vs Q e oe c ws hc hd (cxH_q hh hd h2) h,m,F.kp,hbi⟩
section
variable {X:Cx} {f:Str} {k k':Nat} {ps:List Str} {spf:Addr->Value->Sp} {p pos:Pos} {e:Expr} {es:List Expr} {t:TA} {x:Addr} {c:Value} {ox:Obj} {pn:List (Addr×Obj)} {vs:Array Value}
theorem zeu (C:HCallee X.prog X.w X.K X.mg X.base f k ps spf) (hr:Room k' X.A) (hx:x ∉ frs X.stack) (hc:ox.cls=c/\ox.dict=none) (hd:ox.data = .fields vs) (h2:vs[2]?=some .none) (hk:k<=k') (hg:Gl X f)
  (ha:PA (cxHand X x ox pn) (e :: es) t) (hdb:(f == ("__debug__" : Str))=false:=by decide)
  (he:starEach (e :: es) X.env=(false,eval e X.env) :: starEach es X.env:=by rfl) (hpl:(backTo pos (starEach es X.env)).any (·.1)=false:=by rfl):PE (cxHand X x ox pn) (.Call (.Name f p) (e :: es) [] pos) (tCall (spf x c) [] E0 t):=by
 obtain ⟨fa,fd,F,m,kp,hb⟩:=C.ex
 exact pe_callH (X:=cxHand X x ox pn) (F x ox c vs hc hd h2) (Room.mark (hr.mono hk)) List.mem_cons_self hx hg m kp hb ha hdb he hpl
end
structure Maker (P:Program) (w:World) (K:W.Frag) (mg:Str->Option Value) (base:Heap) (x:Str) (C:Addr) (CX:CXT) (k:Nat) (ps:List Str) (sp:Sp):Prop where
 ex:∃ f fd,Mk K C f/\FnOk P w K mg base CX k f fd ps sp/\mg x=some (.ref C)/\Binds K fd ps []
theorem pe_mk0 {X:Cx} {x:Str} {C:Addr} {CX:CXT} {k:Nat} {ps:List Str} {sp:Sp} {E:XK} {p pos:Pos} (M:Maker X.prog X.w X.K X.mg X.base x C CX k ps sp) (hr:Room (k + 1) X.A) (hx:Passes CX X E) (hg:Gl X x) (hdb:(x == ("__debug__" : Str))=false:=by decide) :
  PE X (.Call (.Name x p) [] [] pos) (tMake C sp [] E tNil):=by
 obtain ⟨f,fd,M,F,m,b⟩:=M.ex
 exact pe_make0 M F hr hg m b .nil hx hdb
section
variable {Y:Cx}
theorem zaV (K:W.Frag) (h:Y.K=K):IxR Y (rIxL K):=by subst h; exact zax
end
noncomputable def isStar:Expr->Bool
 | .Starred _ _=>true
 | _=>false
theorem star_cons {e:Expr} (es:List Expr) (env:Env) (h:isStar e=false):starEach (e :: es) env=(false,eval e env) :: starEach es env:=by
 cases e <;> first | rfl | cases h
structure QA (X:Cx) (es:List Expr) (t:TA):Prop where h:PA X es t
structure QE (X:Cx) (e:Expr) (t:TE):Prop where h:PE X e t
section
variable {X:Cx} {e:Expr} {es:List Expr} {te:TE} {t:TA} {pos:Pos}
theorem qe (h:PE X e te):QE X e te:=⟨h⟩
theorem zaG:QA X [] tNil:=⟨zab⟩
theorem zae (ha:QE X e te) (hr:QA X es t) (h:isStar e=false:=by rfl):QA X (e :: es) (tCons te t):=⟨zaa ha.h hr.h (star_cons es X.env h)⟩
theorem zdQ {k} (h:QA X es t):QE X (.Tuple es k pos) (tTup t):=⟨zaI h.h⟩
theorem zaL (h:QA X es t):QE X (.List es pos) (tLst t):=⟨zaT h.h⟩
end
structure QS (X:Cx) (st:Stmt) (t:TS):Prop where h:PS X st t
structure QSs (X:Cx) (st:List Stmt) (t:TS):Prop where h:PSs X st t
section
variable {X:Cx} {st:Stmt} {rest:List Stmt} {t u:TS} {a b e:Expr} {ta tb te:TE} {pos:Pos}
theorem qs (h:PS X st t):QS X st t:=⟨h⟩
theorem zcq (h:QS X st t):QSs X [st] t:=⟨zad h.h⟩
theorem zed {r:R2} (hr:IxR X r) (ha:QE X a ta) (hb:QE X b tb) (hs:PlainIx b):QE X (.Subscript a b pos) (tOp r ta tb):=⟨zaO hr ha.h hb.h hs⟩
theorem zdd {op:Operator} {r:R2} (ho:OpR X (binaryOp op) r) (ha:QE X a ta) (hb:QE X b tb):QE X (.BinOp a op b pos) (tOp r ta tb):=⟨zaw ho ha.h hb.h⟩
theorem zau (h:QS X st t) (hr:QSs X rest u):QSs X (st :: rest) (tSeq t u):=⟨zag h.h hr.h⟩
theorem zcr (h:QS X st t) (hr:QSs X rest u):QSs X (st :: rest) (tCut t u):=⟨zaM h.h hr.h⟩
theorem zdc (h:QE X e te):QS X (.Return (some e) pos) (tRet te):=⟨zaq h.h⟩
theorem zaN {i:Nat} {x:Str} {pos':Pos} (hN:X.N.Nodup) (hi:X.N[i]?=some x) (hx:Loc X.env.scope x) (he:QE X e te) (hs:swapsWith e (some (.Name x pos')) pos.line X.env=pure false:=by rfl) (hf:X.fn x=true\/X.env.scope.names.lookup x=some .local:=by first | exact .inl rfl | exact .inr rfl | assumption) :
  QS X (.Assign [.Name x pos'] e pos) (tAsg te (gName i)):=⟨za0 hN hi hx he.h hs hf⟩
end
theorem DefAt.calleeQ {P:Program} {w:World} {K:W.Frag} {mg:Str->Option Value} {base:Heap} {x:Str} {st:Stmt} {N ps:List Str} {k:Nat} {sp:Sp} (D:DefAt K mg x st) (S:FnScope N ps (defScope st))
  (hb:∀ (kV doc pm:Value) (an:Option Addr) (cdv ct:Value) (us:List Value),us.length=ps.length->bindArgs (PySem.W.fnOf x x (defArgs st) (defBody st) (defScope st) .none kV doc pm an cdv ct) ⟨us,[]⟩=pure (ps.zip us))
  (len:∀ vs H Q E,sp vs H Q E->vs.length=ps.length)
  (hbody:∀ (f:Addr) (cdv:Value) (A:Around) (outer:List Env) (s:Shared) (H:Hp) (vs:List V) (Q:VK) (E:XK),Room k (A.deeper (envOfC x (defScope st) s.heap.objs.size f cdv))->sp vs H Q E ->
   ∃ t,QSs (cxOf CX0 P w K mg base N x (defScope st) f cdv A outer s H E).nox (defBody st) t/\t { nx:=fun _ H'=>Q .non H',rt:=Q } (start N vs) H):Callee P w K mg base x (k + 1) ps sp :=
 D.callee S hb len fun f cdv A outer s H vs Q E hr h=>let ⟨t,q,r⟩:=hbody f cdv A outer s H vs Q E hr h; ⟨t,q.h,r⟩
theorem DefAt.hcalleeQ {P:Program} {w:World} {K:W.Frag} {mg:Str->Option Value} {base:Heap} {x:Str} {st:Stmt} {N ps:List Str} {k:Nat} {spf:Addr->Value->Sp} (D:DefAt K mg x st) (S:FnScope N ps (defScope st))
  (hb:∀ (kV doc pm:Value) (an:Option Addr) (cdv ct:Value) (us:List Value),us.length=ps.length->bindArgs (PySem.W.fnOf x x (defArgs st) (defBody st) (defScope st) .none kV doc pm an cdv ct) ⟨us,[]⟩=pure (ps.zip us))
  (len:∀ e c vs H Q E,spf e c vs H Q E->vs.length=ps.length)
  (hbody:∀ (f:Addr) (cdv:Value) (A:Around) (outer:List Env) (s:Shared) (H:Hp) (vs:List V) (Q:VK) (e:Addr) (oe:Obj) (c:Value) (ws:Array Value),oe.cls=c/\oe.dict=none->oe.data = .fields ws->QH e oe (cxH P w K mg base N x (defScope st) f cdv A outer s H e oe)->spf e c vs H Q E0 ->
   ∃ t,QSs (cxH P w K mg base N x (defScope st) f cdv A outer s H e oe) (defBody st) t/\t { nx:=fun _ H'=>Q .non H',rt:=Q } (start N vs) H):HCallee P w K mg base x (k + 1) ps spf :=
 D.hcallee S hb len fun f cdv A outer s H vs Q e oe c ws hc hd hq h=>let ⟨t,q,r⟩:=hbody f cdv A outer s H vs Q e oe c ws hc hd hq h; ⟨t,q.h,r⟩
theorem za7 {X:Cx} {x:Str} {C:Addr} {pos:Pos} (hg:Gl X x) (hm:X.mg x=some (.ref C)) (hd:(x == ("__debug__" : Str))=false:=by decide):PE X (.Name x pos) (tC (.ref C)):=zev (v := .ref C) hg hm rfl hd
section
variable {K:W.Frag} {C D CE:Addr} {oc:Value} {od:Option Addr} {cd:ClassData} {sl:Array (Option Value)} {b:Bool}
end
theorem zcf {H:Hp} {p l:Addr} {ys:List V} {o:HO} (h:H l=some (.lst ys)) (n:H p=none):upd H p o l=some (.lst ys):=by rw [zal (zas h n)]; exact h
theorem Same.lstE {H0 H:Hp} (m:Same H0 H) {o:HO} {p:Addr} (n:H p=none):Same H0 (upd H p o)/\upd H p o p=some o:=⟨m.put (m.free n),zaf⟩
theorem at_get {ns:List Int} {k:Int} (h0:0<=k) (h:k < (ns.length:Int)):atI (ns.map V.int) k=some (V.int (ns.getD k.toNat 0)):=by
 have hk:k.toNat < ns.length:=by omega
 have e:((k.toNat:Nat):Int)=k:=by omega
 rw [<- e]
 refine zaB ?_
 rw [List.getElem?_map,List.getD_eq_getElem?_getD,Int.toNat_natCast,List.getElem?_eq_getElem hk]
 rfl
theorem getD_big {ns:List Int} {k:Int} (h:¬ k < (ns.length:Int)):ns.getD k.toNat 0=0:=by
 rw [List.getD_eq_getElem?_getD,List.getElem?_eq_none (by omega)]
 rfl
theorem zdz {x:Str}:x.cps.toList.length=x.length:=by simp [Str.length]
theorem zbx:1000<=sizeLine:=by decide
theorem big {n:Nat} (h:n<=1000):n<=sizeLine:=Nat.le_trans h zbx
theorem bigr {n:Nat} (h:Nat.ble n 1000=true):n<=sizeLine:=big (Nat.le_of_ble_eq_true h)
theorem zeA:∀ {l:List V},(∀ v∈l,∃ t,v=V.int t)->∃ ts:List Int,l=ts.map V.int
 | [],_=>⟨[],rfl⟩
 | v :: l,h=>by
  obtain ⟨t,e⟩:=h v List.mem_cons_self
  obtain ⟨ts,e2⟩:=zeA fun u hu=>h u (List.mem_cons_of_mem _ hu)
  exact ⟨t :: ts,by rw [e,e2]; rfl⟩
theorem cut_ints (ts:List Int) (lo hi:Option Int):∃ us:List Int,cutV (ts.map V.int) lo hi=us.map V.int/\us.length<=ts.length:=by
 obtain ⟨us,e⟩:=zeA (l:=cutV (ts.map V.int) lo hi) fun v hv=>by
  have hv':v∈ts.map V.int:=by
   unfold cutV at hv
   exact List.mem_of_mem_drop (List.mem_of_mem_take hv)
  obtain ⟨t,_,e⟩:=List.mem_map.mp hv'
  exact ⟨t,e.symm⟩
 refine ⟨us,e,?_⟩
 have:=congrArg List.length e
 have h2:=zcC (ts.map V.int) lo hi
 rw [List.length_map] at this h2
 omega
theorem zaR {a b:Int}:decide (V.int a=V.int b)=decide (a=b):=by
 rw [decide_eq_decide]
 exact ⟨fun h=>by injection h,fun h=>by rw [h]⟩
theorem zdb {i n:Nat} {lo:Int} {x:V} (h:((List.range n).map fun i=>V.int (lo + ((i:Nat):Int)))[i]?=some x):i < n/\x=V.int (lo + ((i:Nat):Int)):=by
 have hi:i < n:=by
  have:=(List.getElem?_eq_some_iff.mp h).1
  simpa using this
 rw [List.getElem?_map,List.getElem?_range hi] at h
 cases h
 exact ⟨hi,rfl⟩
noncomputable def small (c:Nat):Bool:=decide (97<=c) && decide (c<=122)
noncomputable def isName (x:Str):Bool:=(decide (1<=x.length) && decide (x.length<=6)) && x.cps.toList.all small
noncomputable def abc:Str:=Str.ofString "abcdefghijklmnopqrstuvwxyz"
theorem name_len {x:Str} (h:isName x=true):1<=x.length/\x.length<=6:=by
 unfold isName at h
 simp only [Bool.and_eq_true,decide_eq_true_eq] at h
 exact h.1
theorem zd1 {α : Type} [DecidableEq α]:∀ {l m:List α},l.Nodup->(∀ x∈l,x∈m)->l.length<=m.length
 | [],_,_,_=>Nat.zero_le _
 | x :: l,m,hn,h=>by
  have hx:=h x List.mem_cons_self
  have hn:=List.nodup_cons.mp hn
  have ih:=zd1 (m:=m.erase x) hn.2 fun y hy=>(List.mem_erase_of_ne (fun z:y=x=>hn.1 (by rw [<- z]; exact hy))).mpr (h y (List.mem_cons_of_mem _ hy))
  have e:=List.length_erase_of_mem hx
  have:=List.length_pos_of_mem hx
  rw [List.length_cons]
  omega
theorem zcB:∀ (ns acc:List Int),(ns.foldl step_dedup acc).length<=acc.length + ns.length/\(acc.Nodup->((ns.foldl step_dedup acc).length=acc.length + ns.length ↔ (acc ++ ns).Nodup))
 | [],acc=>⟨by simp,fun h=>by simp [h]⟩
 | n :: ns,acc=>by
  rw [List.foldl_cons]
  by_cases hm:n∈acc
  ·have e:step_dedup acc n=acc:=by
    unfold step_dedup
    rw [if_pos (List.any_eq_true.mpr ⟨n,hm,by simp⟩)]
   rw [e]
   have ih:=zcB ns acc
   refine ⟨by have:=ih.1; rw [List.length_cons]; omega,fun _=>⟨fun z => ?_,fun z => ?_⟩⟩
   ·have:=ih.1
    rw [List.length_cons] at z
    omega
   ·exact absurd rfl ((List.nodup_append.mp z).2.2 n hm n List.mem_cons_self)
  ·have e:step_dedup acc n=acc ++ [n]:=by
    unfold step_dedup
    rw [if_neg]
    intro z
    obtain ⟨x,hx,ex⟩:=List.any_eq_true.mp z
    have:x=n:=by simpa using ex
    subst this
    exact hm hx
   rw [e]
   have ih:=zcB ns (acc ++ [n])
   rw [List.length_append,List.length_singleton,List.append_assoc] at ih
   refine ⟨by have:=ih.1; rw [List.length_cons]; omega,fun h => ?_⟩
   have hn:(acc ++ [n]).Nodup:=by
    refine List.nodup_append.mpr ⟨h,by simp,fun a ha b hb => ?_⟩
    have:b=n:=by simpa using hb
    subst this
    intro z
    subst z
    exact hm ha
   have:=ih.2 hn
   rw [List.length_cons]
   rw [show acc.length + (ns.length + 1)=acc.length + 1 + ns.length by omega]
   exact this
theorem many_eq (ns:List Int):many ns=(ns.foldl step_dedup []).length:=by
 unfold many firstMet
 congr 2
 apply List.ext_getElem?
 intro i
 rw [List.getElem?_map]
 by_cases h:i < ns.length
 ·rw [List.getElem?_range h]
  simp [List.getD_eq_getElem?_getD,h]
 ·rw [List.getElem?_eq_none (by simpa using h),List.getElem?_eq_none (by simpa using h)]
  rfl
theorem many_nodup (ns:List Int):many ns=ns.length ↔ ns.Nodup:=by
 rw [many_eq]
 have:=(zcB ns []).2 List.nodup_nil
 simpa using this
noncomputable def inR (t:Int):Bool:=decide (0<=t) && decide (t<=7)
noncomputable def areTeeth (ts:List Int):Bool:=decide (0∈ts) && (decide (many ts=ts.length) && ts.all inR)
theorem in_zero (ts:List Int):inV (V.int 0) (ts.map V.int)=decide (0∈ts):=by
 unfold inV
 rw [List.any_map,Bool.eq_iff_iff,List.any_eq_true,decide_eq_true_eq]
 constructor
 ·rintro ⟨x,hx,e⟩
  have:x=0:=by
   have e':(x == 0)=true:=e
   exact eq_of_beq e'
  rw [<- this]; exact hx
 ·intro h
  exact ⟨0,h,rfl⟩
theorem zdH (ts:List Int):(ts.map V.int).all flatV=true:=by
 rw [List.all_map,List.all_eq_true]
 intro x _
 rfl
noncomputable def KindsL (G:Addr->Prop) (H:Hp):List V->List (Str×List Int)->Prop
 | [],[]=>True
 | v :: vs,k :: ks=>(∃ q t,v = .ref q/\H q=some (.lst [.str k.1,.ref t])/\H t=some (.lst (k.2.map V.int))/\G q/\G t)/\KindsL G H vs ks
 | _,_=>False
noncomputable def GT (ts:List Int):Prop:=∃ f:Nat->Bool,ts=((List.range 8).filter f).map (fun i=>((i:Nat):Int))/\f 0=true
structure Drawn (G:Addr->Prop) (H:Hp) (vs:List V) (ks:List (Str×List Int)):Prop where
 rows:KindsL G H vs ks
 nd:(ks.map (·.1)).Nodup
 good:∀ k∈ks,isName k.1=true/\GT k.2
noncomputable abbrev Combs:=List (Str×List Int)
noncomputable def cGet (cs:Combs) (x:Str):Option (List Int):=(cs.find? fun c=>decide (c.1=x)).map (·.2)
noncomputable def cPut (cs:Combs) (x:Str) (ts:List Int):Combs:=if (cs.any fun c=>decide (c.1=x))=true then cs.map (fun c=>if c.1=x then (c.1,ts) else c) else cs ++ [(x,ts)]
noncomputable def cDrop (cs:Combs) (x:Str):Combs:=cs.filter fun c=>decide (c.1≠x)
noncomputable def canon (ts:List Int):List Int:=((List.range 8).filter fun i=>decide (((i:Nat):Int)∈ts)).map fun i=>((i:Nat):Int)
theorem zeY (f:Nat->Bool):(((List.range 8).filter f).map fun i=>((i:Nat):Int)).Pairwise (· < ·):=by
 rw [List.pairwise_map]
 refine List.Pairwise.sublist List.filter_sublist ?_
 refine List.Pairwise.imp ?_ (List.pairwise_lt_range (n:=8))
 intro a b h
 omega
theorem zec (ts:List Int):(canon ts).Pairwise (· < ·):=zeY _
theorem mem_canon {ts:List Int} {t:Int}:t∈canon ts ↔ t∈ts/\0<=t/\t<=7:=by
 unfold canon
 simp only [List.mem_map,List.mem_filter,List.mem_range,decide_eq_true_eq]
 constructor
 ·rintro ⟨i,⟨hi,hm⟩,rfl⟩
  exact ⟨hm,by omega,by omega⟩
 ·rintro ⟨hm,h0,h7⟩
  refine ⟨t.toNat,⟨by omega,?_⟩,by omega⟩
  rwa [show ((t.toNat:Nat):Int)=t by omega]
theorem zch {l:List Int} (h:l.Pairwise (· < ·)):l.Nodup:=h.imp fun h=>by omega
theorem canon_nodup (ts:List Int):(canon ts).Nodup:=zch (zec ts)
theorem same_sorted {a b:List Int} (hp:a.Perm b) (ha:a.Pairwise (· <= ·)) (hb:b.Pairwise (· <= ·)):a=b :=
 hp.eq_of_pairwise (fun x y _ _ h1 h2=>Int.le_antisymm h1 h2) ha hb
theorem zcn {ns ts:List Int} (hp:ns.Perm ts) (hs:ns.Pairwise (· <= ·)) (hn:ts.Nodup) (hr:∀ t∈ts,0<=t/\t<=7):ns=canon ts:=by
 refine same_sorted (hp.trans ?_) hs ((zec ts).imp fun h=>by omega)
 rw [List.perm_ext_iff_of_nodup hn (canon_nodup ts)]
 intro t
 rw [mem_canon]
 exact ⟨fun h=>⟨h,hr t h⟩,fun h=>h.1⟩
theorem zeO {ts:List Int} (h:GT ts):ts.Pairwise (· < ·):=by
 obtain ⟨f,rfl,_⟩:=h
 exact zeY f
theorem ze8 {ts:List Int} (h:GT ts):∀ t∈ts,0<=t/\t<=7:=by
 obtain ⟨f,rfl,_⟩:=h
 intro t ht
 obtain ⟨i,hi,rfl⟩:=List.mem_map.mp ht
 have:=List.mem_range.mp (List.mem_filter.mp hi).1
 omega
theorem zdE {ts:List Int} (h:GT ts):(0:Int)∈ts:=by
 obtain ⟨f,rfl,h0⟩:=h
 exact List.mem_map.mpr ⟨0,List.mem_filter.mpr ⟨by decide,h0⟩,rfl⟩
theorem gt_canon {ts:List Int} (h0:(0:Int)∈ts):GT (canon ts):=⟨_,rfl,decide_eq_true h0⟩
theorem gt_eq {ts:List Int} (h:GT ts):canon ts=ts:=by
 symm
 refine zcn (List.Perm.refl _) ((zeO h).imp fun h=>by omega) (zch (zeO h)) (ze8 h)
theorem zdo {ts:List Int} (h:GT ts):ts.length<=8:=by
 obtain ⟨f,rfl,_⟩:=h
 rw [List.length_map]
 exact Nat.le_trans (List.length_filter_le _ _) (by simp)
theorem canon_len (ts:List Int):(canon ts).length<=8:=by
 unfold canon
 rw [List.length_map]
 exact Nat.le_trans (List.length_filter_le _ _) (by simp)
theorem inR_iff {t:Int}:inR t=true ↔ 0<=t/\t<=7:=by unfold inR; simp
theorem teeth_iff {ts:List Int}:areTeeth ts=true ↔ (0:Int)∈ts/\ts.Nodup/\∀ t∈ts,0<=t/\t<=7:=by
 unfold areTeeth
 simp only [Bool.and_eq_true,decide_eq_true_eq,many_nodup,List.all_eq_true,inR_iff]
theorem zc8 {ts:List Int} (hn:ts.Nodup) (hr:∀ t∈ts,0<=t/\t<=7):ts.length<=8:=by
 have:ts.length<=(canon ts).length:=zd1 hn fun x hx=>mem_canon.mpr ⟨hx,hr x hx⟩
 have:=canon_len ts
 omega
theorem gt_teeth {ts:List Int} (h:GT ts):areTeeth ts=true:=teeth_iff.mpr ⟨zdE h,zch (zeO h),ze8 h⟩
structure Good (cs:Combs):Prop where
 len:cs.length<=8
 nd:(cs.map (·.1)).Nodup
 ok:∀ c∈cs,isName c.1=true/\GT c.2
theorem good_nil:Good []:=⟨by decide,List.nodup_nil,by simp⟩
theorem zbj {cs:Combs} {x:Str} {ts:List Int} (h:cGet cs x=some ts):(x,ts)∈cs:=by
 unfold cGet at h
 obtain ⟨c,hc,rfl⟩:=Option.map_eq_some_iff.mp h
 have h1:=List.mem_of_find?_eq_some hc
 have h2:c.1=x:=by simpa using List.find?_some hc
 rw [<- h2]
 exact h1
theorem get_none {cs:Combs} {x:Str}:cGet cs x=none ↔ x ∉ cs.map (·.1):=by
 unfold cGet
 rw [Option.map_eq_none_iff,List.find?_eq_none]
 simp only [decide_eq_true_eq,List.mem_map,not_exists,not_and]
theorem zdK {cs:Combs} {x:Str}:(cs.any fun c=>decide (c.1=x))=(cGet cs x).isSome:=by
 rw [Bool.eq_iff_iff,List.any_eq_true,Option.isSome_iff_ne_none,ne_eq,get_none,Classical.not_not,List.mem_map]
 simp
theorem zcj {c:Str×List Int} {cs:Combs} {x:Str}:cGet (c :: cs) x=if c.1=x then some c.2 else cGet cs x:=by
 unfold cGet
 rw [List.find?_cons]
 by_cases h:c.1=x
 ·simp [h]
 ·simp [h]
theorem zeo {cs:Combs} {x:Str} {ts:List Int} (h:cGet cs x=none):cPut cs x ts=cs ++ [(x,ts)]:=by
 unfold cPut
 rw [zdK,h]
 rfl
theorem zdA {cs:Combs} {x:Str} {ts us:List Int} (h:cGet cs x=some us):cPut cs x ts=cs.map (fun c=>if c.1=x then (c.1,ts) else c):=by
 unfold cPut
 rw [zdK,h]
 rfl
theorem zdR {cs:Combs} {x:Str} {ts us:List Int} (h:cGet cs x=some us):(cPut cs x ts).map (·.1)=cs.map (·.1):=by
 rw [zdA h,List.map_map]
 apply List.map_congr_left
 intro c _
 show (if c.1=x then (c.1,ts) else c).1=c.1
 split <;> rfl
theorem Good.put {cs:Combs} {x:Str} {ts:List Int} (g:Good cs) (hx:isName x=true) (ht:GT ts) (hl:cs.length < 8\/(cGet cs x).isSome=true):Good (cPut cs x ts):=by
 cases e:cGet cs x with
 | none =>
  rw [zeo e]
  refine ⟨?_,?_,?_⟩
  ·rw [e] at hl
   rw [List.length_append,List.length_singleton]
   rcases hl with h | h
   ·omega
   ·cases h
  ·rw [List.map_append]
   exact zdC g.nd (get_none.mp e)
  ·intro c hc
   rcases List.mem_append.mp hc with h | h
   ·exact g.ok c h
   ·rw [List.mem_singleton.mp h]; exact ⟨hx,ht⟩
 | some us =>
  refine ⟨?_,by rw [zdR e]; exact g.nd,?_⟩
  ·rw [zdA e,List.length_map]; exact g.len
  ·rw [zdA e]
   intro c hc
   obtain ⟨c0,h0,rfl⟩:=List.mem_map.mp hc
   split
   ·exact ⟨(g.ok c0 h0).1,ht⟩
   ·exact g.ok c0 h0
theorem Good.drop {cs:Combs} {x:Str} (g:Good cs):Good (cDrop cs x):=by
 refine ⟨Nat.le_trans (List.length_filter_le _ _) g.len,?_,fun c hc=>g.ok c (List.mem_filter.mp hc).1⟩
 exact List.Nodup.sublist (List.Sublist.map _ List.filter_sublist) g.nd
noncomputable def KvR (G:Addr->Prop) (H:Hp):List (Key×V)->Combs->Prop:=Paired fun kv c=>∃ t,kv=(Sum.inr c.1,V.ref t)/\H t=some (.lst (c.2.map V.int))/\G t
noncomputable def DictR (G:Addr->Prop) (H:Hp) (d:Addr) (cs:Combs):Prop:=G d/\∃ kvs,H d=some (.dK kvs)/\KvR G H kvs cs
theorem KvR.mono {G G':Addr->Prop} {H H':Hp} {kvs:List (Key×V)} {cs:Combs} (s:∀ a o,G a->H a=some o->H' a=some o) (g:∀ a,G a->G' a) (h:KvR G H kvs cs):KvR G' H' kvs cs :=
 Paired.mono (fun _ _ ⟨t,e,h1,g1⟩=>⟨t,e,s _ _ g1 h1,g _ g1⟩) h
theorem DictR.mono {G G':Addr->Prop} {H H':Hp} {d:Addr} {cs:Combs} (s:∀ a o,G a->H a=some o->H' a=some o) (g:∀ a,G a->G' a) (h:DictR G H d cs):DictR G' H' d cs :=
 let ⟨g0,kvs,e,r⟩:=h
 ⟨g _ g0,kvs,s _ _ g0 e,r.mono s g⟩
theorem KvR.keys {G:Addr->Prop} {H:Hp}:∀ {kvs:List (Key×V)} {cs:Combs},KvR G H kvs cs->kvs.map (·.1)=(cs.map (·.1)).map Sum.inr
 | _,_,.nil=>rfl
 | _,_,.cons ⟨t,e,_⟩ r=>by
  subst e
  show _ :: _=_ :: _
  rw [show List.map _ _=_ from KvR.keys r]
theorem KvR.val {G:Addr->Prop} {H:Hp} {x:Str}:∀ {kvs:List (Key×V)} {cs:Combs},KvR G H kvs cs ->
  (cGet cs x=none/\valV kvs (Sum.inr x)=none)\/∃ ts t,cGet cs x=some ts/\valV kvs (Sum.inr x)=some (.ref t)/\H t=some (.lst (ts.map V.int))/\G t
 | _,_,.nil => .inl ⟨rfl,rfl⟩
 | _,_,.cons (b:=c) ⟨t,e,h1,g1⟩ r=>by
  subst e
  by_cases h:c.1=x
  ·refine .inr ⟨c.2,t,by rw [zcj,if_pos h],zcg (by rw [h]),h1,g1⟩
  ·have hn:¬ ((Sum.inr c.1:Key)=Sum.inr x):=fun z=>h (Sum.inr.inj z)
   rcases KvR.val (x:=x) r with ⟨e1,e2⟩ | ⟨ts,t',e1,e2,e3⟩
   ·exact .inl ⟨by rw [zcj,if_neg h]; exact e1,by rw [zbS hn]; exact e2⟩
   ·exact .inr ⟨ts,t',by rw [zcj,if_neg h]; exact e1,by rw [zbS hn]; exact e2,e3⟩
theorem KvR.some {G:Addr->Prop} {H:Hp} {kvs:List (Key×V)} {cs:Combs} {x:Str} (r:KvR G H kvs cs):(valV kvs (Sum.inr x)).isSome=(cGet cs x).isSome:=by
 rcases r.val (x:=x) with ⟨e1,e2⟩ | ⟨ts,t',e1,e2,e3⟩
 ·rw [e1,e2]; rfl
 ·rw [e1,e2]; rfl
theorem KvR.map {G:Addr->Prop} {H:Hp} {x:Str} {t:Addr} {ts:List Int} (h1:H t = .some (.lst (ts.map V.int))) (g1:G t):∀ {kvs:List (Key×V)} {cs:Combs},KvR G H kvs cs ->
  KvR G H (kvs.map fun kv=>if kv.1=Sum.inr x then (kv.1,V.ref t) else kv) (cs.map fun c=>if c.1=x then (c.1,ts) else c)
 | _,_,.nil => .nil
 | _,_,.cons (b:=c) ⟨t',e,h2,g2⟩ r=>by
  subst e
  refine .cons ?_ (KvR.map h1 g1 r)
  dsimp only
  by_cases hx:c.1=x
  ·rw [if_pos hx,if_pos (by rw [hx])]
   exact ⟨t,rfl,h1,g1⟩
  ·rw [if_neg hx,if_neg (fun z=>hx (Sum.inr.inj z))]
   exact ⟨t',rfl,h2,g2⟩
theorem KvR.put {G:Addr->Prop} {H:Hp} {kvs:List (Key×V)} {cs:Combs} {x:Str} {t:Addr} {ts:List Int} (r:KvR G H kvs cs) (h1:H t = .some (.lst (ts.map V.int))) (g1:G t):KvR G H (putK kvs (Sum.inr x) (.ref t)) (cPut cs x ts):=by
 unfold putK cPut
 rw [zcY,zdK,r.some]
 split
 ·exact r.map h1 g1
 ·exact Paired.snoc r ⟨t,rfl,h1,g1⟩
theorem drop_pos {c:Str×List Int} {cs:Combs} {x:Str} (h:c.1=x):cDrop (c :: cs) x=cDrop cs x:=by unfold cDrop; rw [List.filter_cons,if_neg (by simp [h])]
theorem drop_neg {c:Str×List Int} {cs:Combs} {x:Str} (h:¬ c.1=x):cDrop (c :: cs) x=c :: cDrop cs x:=by unfold cDrop; rw [List.filter_cons,if_pos (by simp [h])]
theorem KvR.drop {G:Addr->Prop} {H:Hp} {x:Str}:∀ {kvs:List (Key×V)} {cs:Combs},KvR G H kvs cs->KvR G H (dropK kvs (Sum.inr x)) (cDrop cs x)
 | _,_,.nil => .nil
 | _,_,.cons (b:=c) ⟨t,e,h1,g1⟩ r=>by
  subst e
  by_cases h:c.1=x
  ·rw [dropK_pos (by rw [h]),drop_pos h]
   exact KvR.drop r
  ·rw [dropK_neg (fun z=>h (Sum.inr.inj z)),drop_neg h]
   exact .cons ⟨t,rfl,h1,g1⟩ (KvR.drop r)
noncomputable abbrev PastR (G:Addr->Prop) (H:Hp):List V->List Combs->Prop:=Paired fun v cs=>∃ d,v = .ref d/\DictR G H d cs
structure Bk (C:Addr) (G:Addr->Prop) (H:Hp) (b l:Addr) (cs:Combs) (past:List Combs):Prop where
 live:∀ x,G x->H x≠none
 nb:¬ G b
 nl:¬ G l
 ins:∃ dx d,H b=some (.ins C dx [("combs",.ref d),("past",.ref l)])/\DictR G H d cs
 lst:∃ vs,H l=some (.lst vs)/\PastR G H vs past
 good:Good cs
 goods:∀ p∈past,Good p
 few:past.length<=300
theorem Bk.move {C:Addr} {G:Addr->Prop} {H H':Hp} {b l:Addr} {cs:Combs} {past:List Combs} (B:Bk C G H b l cs past) (s:∀ a o,G a\/a=b\/a=l->H a=some o->H' a=some o):Bk C G H' b l cs past:=by
 have s':∀ a o,G a->H a=some o->H' a=some o:=fun a o g e=>s a o (.inl g) e
 obtain ⟨dx,d,e1,r1⟩:=B.ins
 obtain ⟨vs,e2,r2⟩:=B.lst
 refine ⟨fun x g => ?_,B.nb,B.nl,⟨dx,d,s _ _ (.inr (.inl rfl)) e1,r1.mono s' fun _ g=>g⟩,⟨vs,s _ _ (.inr (.inr rfl)) e2,?_⟩,B.good,B.goods,B.few⟩
 ·have:=B.live x g
  cases e:H x with
  | none=>exact absurd e this
  | some o=>rw [s' x o g e]; simp
 ·exact Paired.mono (fun _ _ ⟨d,e,r⟩=>⟨d,e,r.mono s' fun _ g=>g⟩) r2
theorem Bk.same {C:Addr} {G:Addr->Prop} {H H':Hp} {b l:Addr} {cs:Combs} {past:List Combs} (B:Bk C G H b l cs past) (s:Same H H'):Bk C G H' b l cs past:=B.move fun a o _ e=>s a o e
theorem Bk.upd {C:Addr} {G:Addr->Prop} {H:Hp} {b l z:Addr} {o:HO} {cs:Combs} {past:List Combs} (B:Bk C G H b l cs past) (n1:¬ G z) (n2:z≠b) (n3:z≠l):Bk C G (upd H z o) b l cs past :=
 B.move fun a o' g e=>by
  rw [zal]
  ·exact e
  ·intro q
   subst q
   rcases g with g | g | g
   ·exact n1 g
   ·exact n2 g
   ·exact n3 g
theorem Bk.liveB {C:Addr} {G:Addr->Prop} {H:Hp} {b l:Addr} {cs:Combs} {past:List Combs} (B:Bk C G H b l cs past):H b≠none/\H l≠none:=by
 obtain ⟨dx,d,e1,r1⟩:=B.ins
 obtain ⟨vs,e2,r2⟩:=B.lst
 exact ⟨by rw [e1]; simp,by rw [e2]; simp⟩
structure Mv (b l:Addr) (G G':Addr->Prop) (H H':Hp):Prop where
 keep:∀ a o,H a=some o->a≠b->a≠l->H' a=some o
 on:∀ a,H a≠none->H' a≠none
 new:∀ a,G' a->G a\/H a=none
theorem zcx {H H':Hp} (s:Same H H'):∀ a,H a≠none->H' a≠none:=fun a h=>by
 cases e:H a with
 | none=>exact absurd e h
 | some o=>rw [s a o e]; simp
theorem Mv.ofSame {b l:Addr} {G:Addr->Prop} {H H':Hp} (s:Same H H'):Mv b l G G H H':=⟨fun a o e _ _=>s a o e,zcx s,fun _ g => .inl g⟩
theorem Mv.trans {b l:Addr} {G G1 G2:Addr->Prop} {H H1 H2:Hp} (m:Mv b l G G1 H H1) (m':Mv b l G1 G2 H1 H2):Mv b l G G2 H H2:=by
 refine ⟨fun a o e n1 n2=>m'.keep a o (m.keep a o e n1 n2) n1 n2,fun a h=>m'.on a (m.on a h),fun a g => ?_⟩
 rcases m'.new a g with g1 | e
 ·exact m.new a g1
 ·refine .inr ?_
  cases q:H a with
  | none=>rfl
  | some o=>exact absurd e (m.on a (by rw [q]; simp))
noncomputable def Deed (ea:Nat->Addr) (C:Addr) (G:Addr->Prop) (H:Hp) (b l:Addr) (cs:Combs) (past:List Combs) (Q:VK) (E:XK):Except Nat Combs->Prop
 | .error j=>∀ H',Same H H'->E (.ref (ea j)) none H'
 | .ok cs'=>∀ H' G',Mv b l G G' H H'->Bk C G' H' b l cs' (past ++ [cs])->Q (.int ((past.length:Int) + 1)) H'
theorem Deed.from {ea:Nat->Addr} {C:Addr} {G:Addr->Prop} {H H1:Hp} {b l:Addr} {cs:Combs} {past:List Combs} {Q:VK} {E:XK} {r:Except Nat Combs} (d:Deed ea C G H b l cs past Q E r) (s:Same H H1):Deed ea C G H1 b l cs past Q E r:=by
 cases r with
 | error j=>exact fun H' s'=>d H' (s.trans s')
 | ok cs'=>exact fun H' G' m B=>d H' G' ((Mv.ofSame s).trans m) B
noncomputable def full (past:List Combs) (cs':Combs):Except Nat Combs:=if 300<=past.length then .error 9 else .ok cs'
noncomputable def putD (cs:Combs) (past:List Combs) (x:Str) (ts:List Int):Except Nat Combs :=
 if isName x=false then .error 0 else if areTeeth ts=false then .error 1 else if (cGet cs x).isSome=true then .error 2 else if 8<=cs.length then .error 3 else full past (cPut cs x (canon ts))
noncomputable def dropD (cs:Combs) (past:List Combs) (x:Str):Except Nat Combs:=if (cGet cs x).isSome=false then .error 4 else full past (cDrop cs x)
noncomputable def addD (cs:Combs) (past:List Combs) (x:Str) (t:Int):Except Nat Combs:=match cGet cs x with
 | none => .error 4
 | some ts=>if inR t=false then .error 5 else if t∈ts then .error 6 else full past (cPut cs x (canon (ts ++ [t])))
noncomputable def offD (cs:Combs) (past:List Combs) (x:Str) (t:Int):Except Nat Combs:=match cGet cs x with
 | none => .error 4
 | some ts=>if inR t=false then .error 5 else if t=0 then .error 7 else if t ∉ ts then .error 8 else full past (cPut cs x (ts.filter fun u=>decide (u≠t)))
theorem zb8 {X:Cx}:CallR X (.type "dict") (fun xs H Q=>∃ a kvs,xs = [V.ref a]/\Rd H a (.dK kvs)/\∀ p,H p=none->Q (.ref p) (upd H p (.dK kvs))):=by
 intro pins s σ H xs us Q I r h
 obtain ⟨a,kvs,rfl,ha,q⟩:=h
 obtain ⟨u,rfl,ru⟩:=zce r
 cases ru
 exact d_copyOf I ha fun p s' np I'=>⟨.ref p,_,I',rfl,q p np⟩
noncomputable def sle (a b:Str):Prop:=a.cps.toList<=b.cps.toList
theorem sle_iff {a b:Str}:sle a b ↔ ltCps b.cps.toList a.cps.toList=false:=by
 unfold sle
 rw [ltCps_eq,decide_eq_false_iff_not,List.not_lt]
theorem sle_trans {a b c:Str} (h1:sle a b) (h2:sle b c):sle a c:=List.le_trans h1 h2
theorem sle_antisymm {a b:Str} (h1:sle a b) (h2:sle b a):a=b:=by
 have:=List.le_antisymm h1 h2
 cases a; cases b
 simp only at this
 rw [Str.mk.injEq,<- Array.toList_inj]
 exact this
theorem zcR:∀ {l:List Str} {p:Str},risingS p l=true->(p :: l).Pairwise sle
 | [],p,_=>by simp
 | x :: r,p,h=>by
  simp only [risingS,Bool.and_eq_true,Bool.not_eq_true'] at h
  have ih:=zcR h.2
  have hpx:sle p x:=sle_iff.mpr h.1
  refine List.pairwise_cons.mpr ⟨fun y hy => ?_,ih⟩
  rcases List.mem_cons.mp hy with rfl | hm
  ·exact hpx
  ·exact sle_trans hpx ((List.pairwise_cons.mp ih).1 y hm)
theorem zcK {l:List Str} (h:sortedS l=true):l.Pairwise sle:=by
 cases l with
 | nil=>exact List.Pairwise.nil
 | cons x r=>exact zcR h
theorem strs_same {a b:List Str} (hp:a.Perm b) (ha:sortedS a=true) (hb:sortedS b=true):a=b :=
 hp.eq_of_pairwise (fun _ _ _ _ h1 h2=>sle_antisymm h1 h2) (zcK ha) (zcK hb)
theorem zeK {α : Type} {xs:List α} {k:Int} {v : α} (h0:0<=k) (h:xs[k.toNat]?=some v):atI xs k=some v:=by
 have e:((k.toNat:Nat):Int)=k:=by omega
 rw [<- e]
 exact zaB h
noncomputable def Kept (L:Addr->Prop) (H:Hp) (a:Addr) (cs:Combs):Prop:=∃ kvs,H a=some (.dK kvs)/\KvR L H kvs cs
theorem Kept.same {L:Addr->Prop} {H H':Hp} {a:Addr} {cs:Combs} (k:Kept L H a cs) (s:Same H H'):Kept L H' a cs :=
 let ⟨kvs,e,r⟩:=k
 ⟨kvs,s _ _ e,r.mono (fun a o _ e=>s a o e) fun _ g=>g⟩
theorem Kept.any {L:Addr->Prop} {H:Hp} {a:Addr} {cs:Combs} (k:Kept L H a cs):Kept (fun _=>True) H a cs :=
 let ⟨kvs,e,r⟩:=k
 ⟨kvs,e,r.mono (fun a o _ e=>e) fun _ _=>trivial⟩
theorem KvR.lists {G:Addr->Prop} {H:Hp} {kvs:List (Key×V)} {cs:Combs} (r:KvR G H kvs cs):KvR (fun t=>G t/\∃ xs,H t=Option.some (.lst xs)) H kvs cs :=
 Paired.mono (fun _ _ ⟨t,e,h1,g1⟩=>⟨t,e,h1,g1,_,h1⟩) r
theorem KvR.updD {G:Addr->Prop} {H:Hp} {a:Addr} {kvs0 kvs:List (Key×V)} {o:HO} {cs:Combs} (r:KvR G H kvs cs) (ha:H a=Option.some (.dK kvs0)):KvR G (upd H a o) kvs cs :=
 Paired.mono (fun _ _ ⟨t,e,h1,g1⟩=>⟨t,e,by rw [zal (zcG h1 ha (by intro z; cases z))]; exact h1,g1⟩) r
theorem Kept.put {L:Addr->Prop} {H:Hp} {a t:Addr} {cs:Combs} {x:Str} {ts:List Int} (k:Kept L H a cs) (ht:H t=some (.lst (ts.map V.int))) (hL:L t):∃ kvs,H a=some (.dK kvs)/\kvs.length=cs.length/\Kept L (upd H a (.dK (putK kvs (Sum.inr x) (.ref t)))) a (cPut cs x ts):=by
 obtain ⟨kvs,e,r⟩:=k
 exact ⟨kvs,e,r.length,_,zaf,(r.put ht hL).updD e⟩
theorem Kept.drop {L:Addr->Prop} {H:Hp} {a:Addr} {cs:Combs} {x:Str} (k:Kept L H a cs):∃ kvs,H a=some (.dK kvs)/\Kept L (upd H a (.dK (dropK kvs (Sum.inr x)))) a (cDrop cs x):=by
 obtain ⟨kvs,e,r⟩:=k
 exact ⟨kvs,e,_,zaf,r.drop.updD e⟩
theorem Bk.ne {C b l a:Addr} {G:Addr->Prop} {H:Hp} {cs:Combs} {past:List Combs} {kvs:List (Key×V)} (B:Bk C G H b l cs past) (e:H a=some (.dK kvs)):a≠b/\a≠l:=by
 obtain ⟨dx,d,hb,_⟩:=B.ins
 obtain ⟨vs,hl,_⟩:=B.lst
 exact ⟨zcG e hb (by intro z; cases z),zcG e hl (by intro z; cases z)⟩
theorem Mv.not {b l a:Addr} {G G':Addr->Prop} {H H':Hp} {o:HO} (m:Mv b l G G' H H') (e:H a=some o) (n:¬ G a):¬ G' a:=fun g=>by
 rcases m.new a g with g | g
 ·exact n g
 ·rw [e] at g; cases g
theorem zcW:∀ {cs:Combs} {c:Str×List Int},(cs.map (·.1)).Nodup->c∈cs->cGet cs c.1=some c.2
 | d :: cs,c,hn,hc=>by
  have hn:(d.1 :: cs.map (·.1)).Nodup:=hn
  obtain ⟨h1,h2⟩:=List.nodup_cons.mp hn
  rw [zcj]
  rcases List.mem_cons.mp hc with z | z
  ·rw [<- z,if_pos rfl]
  ·rw [if_neg (fun e:d.1=c.1=>h1 (by rw [e]; exact List.mem_map.mpr ⟨c,z,rfl⟩))]
   exact zcW h2 z
theorem zd8 {cs:Combs} {c:Str×List Int} (g:Good cs) (hc:c∈cs):cGet cs c.1=some c.2:=zcW g.nd hc
noncomputable def errNames:List Str := [Str.ofString "BadName",Str.ofString "BadTeeth",Str.ofString "NameTaken",Str.ofString "BookFull",Str.ofString "NoComb",Str.ofString "BadTooth",Str.ofString "ToothThere",Str.ofString "FirstTooth",Str.ofString "ToothMissing",Str.ofString "DeedsFull",Str.ofString "NothingDone",Str.ofString "BadShape",Str.ofString "BadPlace",Str.ofString "BadLength",Str.ofString "NoFilling"]
noncomputable def errName (j:Nat):Str:=errNames.getD j (Str.ofString "")
noncomputable def valErr:List Value := [.type "ValueError",.type "Exception",.type "BaseException",.type "object"]
noncomputable def clsChk (K:W.Frag) (C:Addr):Bool:=(PySem.W.clsIn K C).isSome && PySem.W.typeIn K (.ref C) == some (.type "type")
noncomputable def errChk1 (K:W.Frag) (l:List Addr) (ce:Addr) (D:Addr) (j:Nat):Bool :=
 (List.range 15).all (fun i=>PySem.W.mroIn K D (.ref (l.getD i 0)) == some (i == j)) && (PySem.W.mroIn K D (.ref ce) == some true &&
 (PySem.W.findIn K (.ref D) "__getattribute__" == some (some (.builtin "BaseException.__getattribute__")) && (PySem.W.findIn K (.ref D) "__getattr__" == some none &&
 (PySem.W.findIn K (.ref D) "__class__" == some (some (.builtin "object.__class__")) && (PySem.W.mroIn K D (.type "object") == some true && (PySem.W.mroIn K D (.type "BaseException") == some true && PySem.W.excIn K D valErr "ValueError.__new__"))))))
noncomputable def errChk (K:W.Frag) (l:List Addr) (ce:Addr) (js:List Nat):Bool :=
 (List.range 15).all (fun i=>clsChk K (l.getD i 0)) && (clsChk K ce && (PySem.W.mroIn K ce (.type "BaseException") == some true &&
 (PySem.W.specialIn K (.builtin "object.__class__") "__get__" == some (some (.builtin "getset_descriptor.__get__")) && (PySem.W.takesIn K (.builtin "object.__class__") == some true && js.all fun j=>errChk1 K l ce (l.getD j 0) j))))
structure KindF (K:W.Frag) (ea:Nat->Addr) (D:Addr) (j:Nat):Prop where
 lt:j < 15
 cls:ErrCls K D
 kit:∀ i,i < 15->PySem.W.kitOne K (.ref D) (.ref (ea i))=some (decide (i=j))
structure EJ (K:W.Frag) (ea:Nat->Addr) (ce:Value) (j:Nat):Prop where
 kf:KindF K ea (ea j) j
 ex:PySem.W.exmOne K (.ref (ea j)) ce=some true
 exc:PySem.W.excIn K (ea j) valErr "ValueError.__new__" = true
theorem zdl {K:W.Frag} {D C:Addr} {b:Bool} (h:clsChk K C=true) (m:PySem.W.mroIn K D (.ref C)=some b):PySem.W.kitCls K (.ref D) (.ref C)=some b:=by
 unfold clsChk at h
 simp only [Bool.and_eq_true,beq_iff_eq] at h
 unfold PySem.W.kitCls
 simp only [h.1,h.2]
 rw [if_pos (by decide)]
 exact m
theorem ej_of {K:W.Frag} {l:List Addr} {ce:Addr} {js:List Nat} {j:Nat} (h:errChk K l ce js=true) (hj:j∈js) (hlt:j < 15):EJ K (fun i=>l.getD i 0) (.ref ce) j:=by
 unfold errChk at h
 simp only [Bool.and_eq_true,beq_iff_eq,List.all_eq_true,List.mem_range] at h
 obtain ⟨h1,h2,h3,h4,h5,h6⟩:=h
 have h7:=h6 j hj
 unfold errChk1 at h7
 simp only [Bool.and_eq_true,beq_iff_eq,List.all_eq_true,List.mem_range] at h7
 obtain ⟨g1,g2,g3,g4,g5,g6,g7,g8⟩:=h7
 have hc:(PySem.W.clsIn K (l.getD j 0)).isSome=true:=by
  have:=h1 j hlt
  unfold clsChk at this
  simp only [Bool.and_eq_true] at this
  exact this.1
 refine ⟨⟨hlt,⟨g3,g4,hc,g5,h4,h5,g6,g7⟩,fun i hi => ?_⟩,?_,g8⟩
 ·have m:=g1 i hi
  unfold PySem.W.kitOne
  by_cases e:i=j
  ·subst e
   rw [if_pos (beq_self_eq_true _),decide_eq_true rfl]
  ·have ne:l.getD j 0≠l.getD i 0:=fun z=>by
    have m2:=g1 j hlt
    rw [<- z] at m
    rw [m] at m2
    simp [e] at m2
   rw [if_neg (fun z=>ne (Value.ref.inj (beq_iff_eq.mp z))),decide_eq_false e]
   have e2:(i == j)=false:=beq_eq_false_iff_ne.mpr e
   rw [e2] at m
   exact zdl (h1 i hi) m
 ·unfold PySem.W.exmOne
  rw [if_pos (by rw [show PySem.W.subIn K (.ref ce) (.type "BaseException")=some true from h3]; rfl)]
  exact zdl h2 g2
theorem EJ.err {K:W.Frag} {mg:Str->Option Value} {ea:Nat->Addr} {ce:Value} {j:Nat} {x:Str} (e:EJ K ea ce j) (hm:mg x=some (.ref (ea j))):Err K mg x (ea j):=⟨hm,e.exc⟩
structure BookAt (K:W.Frag) (C:Addr):Prop where
 cls:Cls K C
 nc:NoAttr K C "combs"
 np:NoAttr K C "past"
noncomputable def bookChk (K:W.Frag) (C:Addr):Bool:=PySem.W.plainGet K C Str.empty && (PySem.W.hasDictIn K C && (PySem.W.plainOver K C && (PySem.W.findIn K (.ref C) "__setattr__" == some (some (.builtin "object.__setattr__")) && (PySem.W.findIn K (.ref C) "combs" == some none && PySem.W.findIn K (.ref C) "past" == some none))))
theorem book_of {K:W.Frag} {C:Addr} (h:bookChk K C=true):BookAt K C:=by
 unfold bookChk at h
 simp only [Bool.and_eq_true,beq_iff_eq] at h
 obtain ⟨h1,h2,h3,h4,h5,h6⟩:=h
 exact ⟨⟨h1,h2,h3,h4⟩,h5,h6⟩
theorem meth_mk {K:W.Frag} {C:Addr} {cn m:Str} {st:Stmt} {f:Addr} {oc:Value} {od an:Option Addr} {osl:Array (Option Value)} {kV doc pm cdv ct:Value} (a:PySem.W.findIn K (.ref C) m=some (some (.ref f)))
  (l:K.lookup f=some ⟨oc,od,.func (PySem.W.fnOf m (cn ++ Str.ofString "." ++ m) (defArgs st) (defBody st) (defScope st) .none kV doc pm an cdv ct),osl⟩) (c:PySem.W.codeIn K cdv (cn ++ Str.ofString "." ++ m)=true) (k:PySem.W.keepIn K (.ref f)=true) (i:PySem.W.isFn K (.ref f)=true):MethAt K C cn m st :=
 ⟨f,_,zeC l c k,a,i,k⟩
structure InitAt (K:W.Frag) (mg:Str->Option Value) (C:Addr) (x qual:Str) (st:Stmt):Prop where
 ex:∃ f fd,Mk K C f/\Fun K "__init__" qual st f fd
 m:mg x=some (.ref C)
theorem init_mk {K:W.Frag} {mg:Str->Option Value} {C:Addr} {x qual:Str} {st:Stmt} {f:Addr} {oc:Value} {od an:Option Addr} {osl:Array (Option Value)} {kV doc pm cdv ct:Value} (hm:mg x=some (.ref C)) (a:PySem.W.findIn K (.ref C) "__init__" = some (some (.ref f)))
  (l:K.lookup f=some ⟨oc,od,.func (PySem.W.fnOf "__init__" qual (defArgs st) (defBody st) (defScope st) .none kV doc pm an cdv ct),osl⟩) (c:PySem.W.codeIn K cdv qual=true) (k:PySem.W.keepIn K (.ref f)=true) (i:PySem.W.isFn K (.ref f)=true) (k2:PySem.W.keepIn K (.ref C)=true) (mk:PySem.W.makesIn K C=true):InitAt K mg C x qual st :=
 ⟨⟨f,_,⟨mk,a,i,k2⟩,zeC l c k⟩,hm⟩
theorem ref_mk {K:W.Frag} {mg:Str->Option Value} {h:Heap} {x:Str} {f:Addr} (X:K.In h) (G:h.Ns mainGlobals mg) (a:PySem.W.nsIn K mainGlobals x=some (some (.ref f))):mg x=some (.ref f):=PySem.W.mg_of X G a
theorem Kept.mvL {C b l a:Addr} {L G G':Addr->Prop} {H H':Hp} {cs cs':Combs} {past:List Combs} (hL:∀ t,L t->t≠l) (k:Kept L H a cs) (B:Bk C G H b l cs' past) (m:Mv b l G G' H H'):Kept L H' a cs:=by
 obtain ⟨kvs,e,r⟩:=k
 obtain ⟨dx,d,hb,_⟩:=B.ins
 obtain ⟨vs,hl,_⟩:=B.lst
 refine ⟨kvs,m.keep _ _ e (zcG e hb (by intro z; cases z)) (zcG e hl (by intro z; cases z)),?_⟩
 exact r.lists.mono (fun t o ⟨g,xs,hx⟩ e'=>m.keep _ _ e' (zcG hx hb (by intro z; cases z)) (hL t g)) fun _ g=>g.1
theorem Kept.updL {L:Addr->Prop} {H:Hp} {a p:Addr} {cs:Combs} {xs:List V} {o:HO} (k:Kept L H a cs) (hL:∀ t,L t->t≠p) (hp:H p=some (.lst xs)):Kept L (upd H p o) a cs:=by
 obtain ⟨kvs,e,r⟩:=k
 refine ⟨kvs,by rw [zal (zcG e hp (by intro z; cases z))]; exact e,?_⟩
 exact r.mono (fun t o' g e'=>by rw [zal (hL t g)]; exact e') fun _ g=>g
noncomputable def Trail (L G:Addr->Prop) (H:Hp):List V->List Combs->Prop:=Paired fun v cs=>∃ z,v=V.ref z/\Kept L H z cs/\¬ G z
theorem Trail.same {L G:Addr->Prop} {H H':Hp} {vs:List V} {css:List Combs} (t:Trail L G H vs css) (s:Same H H'):Trail L G H' vs css:=Paired.mono (fun _ _ ⟨z,e,k,n⟩=>⟨z,e,k.same s,n⟩) t
theorem Trail.mv {C b l:Addr} {L G G':Addr->Prop} {H H':Hp} {cs':Combs} {past:List Combs} {vs:List V} {css:List Combs} (t:Trail L G H vs css) (hL:∀ t,L t->t≠l) (B:Bk C G H b l cs' past) (m:Mv b l G G' H H'):Trail L G' H' vs css :=
 Paired.mono (fun _ _ ⟨z,e,k,n⟩=>⟨z,e,k.mvL hL B m,let ⟨_,hz,_⟩:=k; m.not hz n⟩) t
theorem Trail.updL {L G:Addr->Prop} {H:Hp} {p:Addr} {xs:List V} {o:HO} {vs:List V} {css:List Combs} (t:Trail L G H vs css) (hL:∀ t,L t->t≠p) (hp:H p=some (.lst xs)):Trail L G (upd H p o) vs css :=
 Paired.mono (fun _ _ ⟨z,e,k,n⟩=>⟨z,e,k.updL hL hp,n⟩) t
theorem zb2 {α β : Type} {R : α -> β -> Prop}:∀ {l:List α} {ps:List β} {p : β},Paired R l (ps ++ [p])->∃ l' a,l=l' ++ [a]/\Paired R l' ps/\R a p
 | _,[],p,.cons h .nil=>⟨[],_,rfl,.nil,h⟩
 | _,q :: ps,p,.cons h r=>by
  obtain ⟨l',a,e,r',ha⟩:=zb2 (ps:=ps) r
  exact ⟨_ :: l',a,by rw [e]; rfl,.cons h r',ha⟩
theorem at_last {α : Type} (l:List α) (a : α):atI (l ++ [a]) (-1)=some a:=by
 unfold atI ixN
 rw [if_neg (by decide),if_pos (by rw [List.length_append,List.length_singleton]; omega)]
 have e:((-1:Int) + (((l ++ [a]).length:Nat):Int)).toNat=l.length:=by rw [List.length_append,List.length_singleton]; omega
 rw [e]
 simp
theorem put_names {cs:Combs} {x:Str} {ts:List Int}:∀ c∈cPut cs x ts,c.1=x\/c.1∈cs.map (·.1):=by
 intro c hc
 cases e:cGet cs x with
 | none =>
  rw [zeo e] at hc
  rcases List.mem_append.mp hc with z | z
  ·exact .inr (List.mem_map.mpr ⟨c,z,rfl⟩)
  ·rw [List.mem_singleton.mp z]; exact .inl rfl
 | some us =>
  have:c.1∈(cPut cs x ts).map (·.1):=List.mem_map.mpr ⟨c,hc,rfl⟩
  rw [zdR e] at this
  exact .inr this
section
variable {X:Cx}
noncomputable def rCount (K:W.Frag):V->List V->Hp->VK->Prop:=fun x vs H Q=>∃ (l:Addr) (ns:List Int) (k:Int),x = .ref l/\vs = [.int k]/\SqL K H l (ns.map V.int)/\Q (.int ((ns.count k:Nat):Int)) H
theorem zd4:MtM X "list.count" (rCount X.K):=by
 intro pins s σ H x vs v us Q I rx rv h
 obtain ⟨l,ns,k,rfl,rfl,hq,q⟩:=h
 cases rx
 obtain ⟨u,rfl,ru⟩:=rv.one
 obtain ⟨t,rfl⟩:=ru
 obtain ⟨its,r,p,hz⟩:=I.list hq
 exact count_list_ints p.isList (zci r) ⟨.int _,H,I.tok _,⟨_,rfl⟩,q⟩
theorem mt_count' (K:W.Frag) (h:X.K=K):MtM X "list.count" (rCount K):=by subst h; exact zd4
end
section
variable {X:Cx} {T id:String} {name:Str} {r:V->List V->Hp->VK->Prop} {o e:Expr} {es:List Expr} {to:TE} {t:TA} {apos cpos:Pos}
theorem pe_bm' (K:W.Frag) (hK:X.K=K) (pa:PlainAttrs T) (slot:Slot T name id) (hty:typeOf (.builtin id)=pure (.type "method_descriptor")) (hm:MtR X id r) (ho:PE X o to) (ha:PA X (e :: es) t)
  (hbase:attributeBase o name X.env (eval o X.env)=eval o X.env:=by rfl)
  (hfew:((backTo cpos (starEach (e :: es) X.env)).all (fun x => !x.1) && (backToKw cpos (keywordEach [] X.env)).all (fun x=>x.1.isSome)
   && decide ((e :: es).length + ([]:List Keyword).length + (if ([]:List Keyword).isEmpty then 0 else 1) < 30))=true:=by rfl)
  (hline:(apos.endLine == cpos.line)=true:=by rfl) (hs:starEach (e :: es) X.env=(false,eval e X.env) :: starEach es X.env:=by rfl) (hplain:(backTo cpos (starEach es X.env)).any (·.1)=false:=by rfl) :
  PE X (.Call (.Attribute o name apos) (e :: es) [] cpos) (tBM K T r to t):=by
 subst hK
 exact zbK pa slot hty hm ho ha hbase hfew hline hs hplain
end
theorem zbN (ts:List Int):(!decide (0 < ((ts.filter fun t => !inR t).length:Int)) && (decide (((ts.count 0:Nat):Int)=1) && (List.range 8).all fun t=>decide (((ts.count ((t:Nat):Int):Nat):Int)<=1)))=areTeeth ts:=by
 rw [Bool.eq_iff_iff,teeth_iff]
 simp only [Bool.and_eq_true,Bool.not_eq_true',decide_eq_false_iff_not,decide_eq_true_eq,List.all_eq_true,List.mem_range]
 constructor
 ·rintro ⟨h1,h2,h3⟩
  have hr:∀ t∈ts,0<=t/\t<=7:=fun t ht=>by
   apply Classical.byContradiction
   intro hn
   apply h1
   have:t∈ts.filter fun t => !inR t:=List.mem_filter.mpr ⟨ht,by
    have:inR t=false:=by rw [Bool.eq_false_iff]; exact fun z=>hn (inR_iff.mp z)
    rw [this]; rfl⟩
   have:=List.length_pos_of_mem this
   omega
  refine ⟨List.count_pos_iff.mp (by omega),List.nodup_iff_count.mpr fun t => ?_,hr⟩
  by_cases ht:t∈ts
  ·obtain ⟨h0,h7⟩:=hr t ht
   have:=h3 t.toNat (by omega)
   rw [show ((t.toNat:Nat):Int)=t by omega] at this
   omega
  ·rw [List.count_eq_zero.mpr ht]; omega
 ·rintro ⟨h0,hn,hr⟩
  have hc:=List.nodup_iff_count.mp hn
  refine ⟨?_,?_,fun t _=>by have:=hc ((t:Nat):Int); omega⟩
  ·have:ts.filter (fun t => !inR t) = []:=List.filter_eq_nil_iff.mpr fun t ht=>by rw [inR_iff.mpr (hr t ht)]; simp
   rw [this]; simp
  ·have:=List.count_pos_iff.mpr h0
   have:=hc 0
   omega
theorem name_filter (x:Str):(decide ((1:Int)<=(x.length:Int)) && (decide ((x.length:Int)<=6) && decide (((x.cps.toList.filter small).length:Int)=(x.length:Int))))=isName x:=by
 have e:decide (((x.cps.toList.filter small).length:Int)=(x.length:Int))=x.cps.toList.all small:=by
  rw [Bool.eq_iff_iff,decide_eq_true_eq,List.all_eq_true,<- zdz]
  constructor
  ·intro h
   have h':(x.cps.toList.filter small).length=x.cps.toList.length:=by omega
   exact List.length_filter_eq_length_iff.mp h'
  ·intro h
   rw [List.filter_eq_self.mpr h]
 unfold isName
 rw [e,<- Bool.and_assoc]
 congr 2 <;> (rw [decide_eq_decide]; omega)
noncomputable def pw (t:Int):Int:=2 ^ t.toNat
noncomputable def worth (ts:List Int):Int:=(ts.map pw).sum
noncomputable def meets (ah ts:List Int):Bool:=ts.any fun t=>decide (t∈ah)
noncomputable def stepsOf (cs:Combs) (n:Int):List (Str×Int):=if n % 2=1 then [("",n / 2)] else (cs.filter fun c=>decide (Builtin.bitAnd n (worth c.2)=0)).map fun c=>(c.1,(n + worth c.2) / 2)
theorem zeB (t:Int) (ts:List Int):inV (V.int t) (ts.map V.int)=decide (t∈ts):=by
 unfold inV
 rw [List.any_map,Bool.eq_iff_iff,List.any_eq_true,decide_eq_true_eq]
 constructor
 ·rintro ⟨x,hx,e⟩
  have:x=t:=by
   have e':(x == t)=true:=e
   exact eq_of_beq e'
  rw [<- this]; exact hx
 ·intro h
  exact ⟨t,h,beq_self_eq_true t⟩
end L2
namespace L2
open PySem PySem.Spec PyProof.Rows PySem.W
structure LtOk (n:Nat) (lt:Nat->Nat->Bool):Prop where
 tr:∀ {a b c},lt a b=true->lt b c=true->lt a c=true
 tot:∀ {a b},a < n->b < n->a≠b->lt a b=false->lt b a=true
 irr:∀ a,lt a a=false
noncomputable abbrev gd (p:Array Nat) (i:Nat):Nat:=p.getD i 0
section
variable {n:Nat} {lt:Nat->Nat->Bool} {cmp:Nat->Nat->(Bool->Shared->Prop)->Shared->Prop} {s:Shared}
variable (L:LtOk n lt) (hc:∀ i j C,i < n->j < n->i≠j->C (lt i j) s->cmp i j C s)
include L hc
omit hc L in
omit hc L in
omit hc L in
end
end L2
namespace L2
open PySem PySem.Spec PyProof.Rows PySem.W
open AutoSeq1 (wpAny_loadPart')
open MeetsSeq MeetsSeq2 MeetsSeq3
section
variable {prog:Program} {w:World} {A:Around} {E:Value->Shared->Prop} {s:Shared}
end
noncomputable def kd (ks:List (Str×List Int)) (i:Nat):Str×List Int:=ks.getD i (Str.ofString "",[])
section
variable {X:Cx}
end
end L2
namespace L2
open PySem PySem.Spec PyProof.Rows
noncomputable def stp (C:Combs) (s:Nat):List (Str×Int):=stepsOf C (s:Int)
noncomputable abbrev tr (r:List Bool) (s:Nat):Bool:=r.getD s false
section
variable {X:Cx}
end
noncomputable def nx (C:Combs) (row:List Bool) (s:Nat):Option (Str×Int):=(stp C s).find? fun p=>tr row p.2.toNat
section
variable {prog:Program} {w:World} {A:Around} {E:Value->Shared->Prop} {s:Shared} {d it:Addr} {o:Obj} {es:Array DictEntry} {ep i:Nat}
end
section
variable {X:Cx} {pins:List (Addr×Obj)} {σ : St} {H:Hp} {s:Shared} {a:Addr} {kvs:List (List Key×V)}
end
section
variable {X:Cx} {tg:Expr}
end
section
variable {prog:Program} {w:World} {A:Around} {E:Value->Shared->Prop} {s:Shared} {d:Addr} {o:Obj} {es:Array DictEntry} {ep:Nat}
end
section
variable {X:Cx}
end
noncomputable def ind (b:Bool):Nat:=if b=true then 1 else 0
structure Tile (sp:Nat) (al ta:Nat->Nat->Bool):Prop where
 pos:1<=sp
 pa:∀ k d,al (k + sp) d=al k d
 pt:∀ k d,ta (k + sp) d=ta k d
 la:∀ k d,7<=d->al k d=false
 lt:∀ k d,8<=d->ta k d=false
 one:∀ k,ind (al k 0) + ind (ta k 0)=1
 step:∀ k d,ind (al (k + 1) d)=ind (al k (d + 1)) + ind (ta k (d + 1))
namespace Tile
variable {sp:Nat} {al ta:Nat->Nat->Bool}
end Tile
noncomputable def tkOf (C:Combs) (x:Str):List Int:=(cGet C x).getD []
noncomputable def laid (nm:Nat->Str) (sp:Nat):List Nat:=(List.range sp).filter fun j=>decide (nm j≠Str.ofString "")
section
variable {prog:Program} {w:World} {A:Around} {E:Value->Shared->Prop} {s:Shared} {kd:SortKind} {S:Keyed->Prop} {rk:Keyed->Int}
end
section
variable {rk:Keyed->Int} {la lb out:List Keyed} {ia ib:Nat}
end
section
variable {prog:Program} {w:World} {A:Around} {E:Value->Shared->Prop} {s:Shared} {kd:SortKind} {S:Keyed->Prop} {rk:Keyed->Int}
end
section
variable {rk:Keyed->Int} {la lb out:List Keyed} {na nb:Nat}
end
section
variable {prog:Program} {w:World} {A:Around} {E:Value->Shared->Prop} {s:Shared} {kd:SortKind} {S:Keyed->Prop} {rk:Keyed->Int}
end
section
variable {prog:Program} {w:World} {A:Around} {E:Value->Shared->Prop} {s:Shared} {kd:SortKind} {S:Keyed->Prop} {rk:Keyed->Int}
end
section
variable {prog:Program} {w:World} {A:Around} {E:Value->Shared->Prop} {s:Shared} {kd:SortKind} {S:Keyed->Prop} {rk:Keyed->Int}
end
section
variable {rk:Keyed->Int} {arr arr':Array Keyed}
end
section
variable {prog:Program} {w:World} {A:Around} {E:Value->Shared->Prop} {s:Shared} {kd:SortKind} {S:Keyed->Prop} {rk:Keyed->Int}
end
end L2
namespace L2
open PySem PySem.Spec PyProof.Rows PySem.W
section
variable {prog:Program} {w:World} {A:Around} {E:Value->Shared->Prop} {s:Shared}
end
section
variable {X:Cx}
end
end L2
namespace L2
open PySem PySem.Spec PyProof.Rows
noncomputable def ov (al:Nat->Nat->Bool) (i p:Nat):Nat:=if p < i then 1 else ind (al i (p - i))
section
variable {al ta:Nat->Nat->Bool}
noncomputable def cn (nm:Nat->Str) (i:Nat):Nat:=(laid nm i).length
end
end L2
namespace L2
open PySem PySem.Spec PyProof.Rows PySem.W
section
variable {prog:Program} {w:World} {A:Around} {E:Value->Shared->Prop} {s:Shared}
end
section
variable {prog:Program} {w:World} {A:Around} {E:Value->Shared->Prop} {s:Shared}
end
section
variable {prog:Program} {w:World} {A:Around} {E:Value->Shared->Prop} {s:Shared} {d:Addr} {o:Obj} {es:Array DictEntry} {ep:Nat}
end
section
variable {X:Cx}
end
section
variable {X:Cx}
end
end L2
set_option maxHeartbeats 4000000
namespace L2
open PySem PySem.Spec PyProof.Rows PySem.W
section
variable {prog:Program} {w:World} {A:Around} {E:Value->Shared->Prop} {s:Shared}
end
section
variable {prog:Program} {w:World} {A:Around} {E:Value->Shared->Prop} {s:Shared}
end
section
variable {prog:Program} {w:World} {A:Around} {E:Value->Shared->Prop} {s:Shared}
end
section
variable {X:Cx}
end
end L2
namespace L2
open PySem PySem.Spec PyProof.Rows
section
variable {X:Cx} {pins:List (Addr×Obj)} {σ : St} {H:Hp} {s:Shared} {h':Heap}
end
end L2
namespace Att
open PySem PySem.W PySem.Calls PyProof.Rows
end Att
namespace L2
open PySem PySem.Spec PyProof.Rows
section
variable {X:Cx}
end
noncomputable def hit (C:Combs) (x:Nat×Str) (q:Nat):Bool:=decide (x.1<=q) && decide (((q - x.1:Nat):Int)∈tkOf C x.2)
section
variable {P:Program} {w:World} {A:Around} {E:Value->Shared->Prop} {s:Shared}
end
noncomputable abbrev NX:=List (List Key)×Addr×V
section
variable {P:Program} {w:World} {H:Hp} {h:Heap} {a b:Addr} {xs:List NX} {ks:List (List Key)}
end
section
variable {X:Cx} {pins:List (Addr×Obj)} {σ : St} {H:Hp} {s:Shared} {a b:Addr} {xs:List NX} {ks:List (List Key)} {A:Around} {E:Value->Shared->Prop}
end
section
variable {X:Cx} {o i e value:Expr} {pos pos' tpos:Pos} {td ty tv:TE}
end
section
variable {X:Cx} {o i e value:Expr} {pos pos' tpos:Pos} {td ty tv:TE}
end
noncomputable def st1 (C:Combs) (s t:Nat):Prop:=∃ p∈stp C s,p.2.toNat=t
namespace Tab
noncomputable def adv (mask:Nat) (p:SetTable.Probe):SetTable.Probe :=
 if p.more > 0 then { p with j:=p.j + 1,more:=p.more - 1 } else
 let q:=SetTable.leap mask p.i p.perturb
 { p with j:=q.1,more:=SetTable.runEnd mask q.1 - q.1,i:=q.1,perturb:=q.2 }
noncomputable def start (mask:Nat) (h:Int):SetTable.Probe:={ j:=SetTable.bits h % (mask + 1),more:=SetTable.runEnd mask (SetTable.bits h % (mask + 1)) - SetTable.bits h % (mask + 1),i:=SetTable.bits h % (mask + 1),perturb:=SetTable.bits h,dummy:=none }
noncomputable def nth (mask:Nat) (h:Int):Nat->SetTable.Probe
 | 0=>start mask h
 | n + 1=>adv mask (nth mask h n)
noncomputable def Reach (mask:Nat) (occ:Nat->Prop) (h:Int) (j:Nat):Prop:=∃ m,(nth mask h m).j=j/\∀ m' < m,occ (nth mask h m').j
noncomputable def five (N:Nat):Nat->Nat->Nat
 | 0,i=>i
 | k + 1,i=>(five N k i * 5 + 1) % N
noncomputable def orb (N:Nat):Nat->Nat->List Nat
 | 0,_ => []
 | n + 1,i=>i :: orb N n ((i * 5 + 1) % N)
noncomputable def bm:List Nat->Nat
 | []=>0
 | x :: l=>bm l ||| 2 ^ x
noncomputable def full (N:Nat):Bool:=Nat.beq (bm (orb N N 0)) (2 ^ N - 1) && Nat.beq (five N N 0) 0
noncomputable def Mask (mask:Nat):Prop:=mask=7\/mask=31\/mask=127\/mask=511
structure Ok (t:SetTable) (hs:List Int):Prop where
 size:t.place.size=hs.length
 dum:t.dummies = #[]
 mask:Mask t.mask
 up:t.place.toList.Pairwise (· < ·)
 le:∀ j∈t.place.toList,j<=t.mask
 room:t.place.size * 5 < t.mask * 3
 reach:∀ (i j:Nat) (h:Int),t.place[i]?=some j->hs[i]?=some h->Reach t.mask (· ∈ t.place.toList) h j
section
variable {t:SetTable} {hs:List Int} {hashAt:Nat->Int} {h:Int}
end
noncomputable def taken (o:Array (Option Nat)) (j:Nat):Prop:=∃ k,o[j]?=some (some k)
end Tab
section
variable {P:Program} {w:World} {A:Around} {E:Value->Shared->Prop} {s:Shared}
end
section
variable {X:Cx}
end
noncomputable def ItrD (hi:Int) (n:Nat):It:=⟨fun i _=>i < n,fun i H x H'=>H'=H/\x = .int (hi - i),fun i _=>n<=i⟩
theorem turn_down {P:Program} {w:World} {K:W.Frag} {tg:Expr} (it:Addr) (hi:Int) (n:Nat):Turn P w K tg (ItrD hi n) [it] it (fun i h=>IsRangeIter h it (hi + (i:Nat) * (-1)) ((n:Int) - (i:Nat)) (-1)) where
 mem:=by simp
 obj:=fun i h st b hb=>by
  obtain rfl:b=it:=by simpa using hb
  exact ⟨_,st,fun v z=>nomatch (show Data.fields _=Data.cell v from z)⟩
 keep:=fun i h h' st k=>k it (by simp) _ st
 item:=by
  intro X hP hw hK hc i pins s σ H E I hf st hg
  subst hP hw hK
  obtain ⟨f0,f1,f2,f3,f4,f5⟩:=hf it (by simp)
  refine (Walks.range (prog:=X.prog) (w:=X.w) (I.ok.hd hc) it hi (-1) n).item i s _ _ hg st fun v h' tk hv st' kk => ?_
  obtain ⟨t,rfl⟩:=hv
  have I1:Inv X pins σ H { s with heap:=h',toks:=tk }:=I.turned (fun b o hb e=>kk b o (by simpa using hb) e) f0 f1 f3 f4 f5
  refine ⟨_,rfl,zee (s:={ s with heap:=h',toks:=tk }) (n := "range_iterator") st' rfl rfl (by decide) ⟨.int (hi - i),H,I1,⟨t,?_⟩,⟨rfl,rfl⟩,st',fun b hb=>(hf b hb).1⟩⟩
  rw [show hi + (i:Nat) * (-1:Int)=hi - (i:Nat) by omega]
 done:=by
  intro X hP hw hK hc i pins s σ H E I hf st hg
  subst hP hw hK
  obtain ⟨f0,f1,f2,f3,f4,f5⟩:=hf it (by simp)
  exact wpAny_pyNext_range_end (I.ok.hd hc) st (by have:n<=i:=hg; omega) fun h' eb=>⟨rfl,I.turned (t':=s.toks) (fun b o hb e=>eb b o hb e) f0 f1 f3 f4 f5⟩
 self:=fun _ _ _ _ _ st h=>wpAny_pyIter_rangeiter st h
theorem gives_down (hi:Int) (n:Nat):Gives (ItrD hi n) (fun _=>True) ((List.range n).map fun i=>V.int (hi - (i:Nat))) where
 go:=fun i H _ h=>by
  have:i < n:=by simpa using h
  exact this
 yld:=fun i H x H' _ y h=>by
  obtain ⟨e,rfl⟩:=y
  have:i < n:=by simpa using h
  exact ⟨e,by simp [this]⟩
 stop:=fun H _=>by
  show n<=_
  simp
section
variable {X:Cx} {tg:Expr}
noncomputable def iRngD (ta:TA):TI:=fun σ H R=>ta σ H fun vs H1=>vs = [.int 7,.int (-1),.int (-1)]/\R (ItrD 7 8) H1
theorem pi_range3 {a b c:Expr} {ta:TA} {p pos:Pos} (hg:Gl X "range") (hm:X.mg "range" = none) (ha:PA X [a,b,c] ta) (hs:starEach [a,b,c] X.env = [(false,eval a X.env),(false,eval b X.env),(false,eval c X.env)]:=by rfl) (hs2:starEach [b,c] X.env = [(false,eval b X.env),(false,eval c X.env)]:=by rfl) :
  PI X tg (.Call (.Name "range" p) [a,b,c] [] pos) (iRngD ta):=by
 intro pins s σ H R I h
 refine Call_ (zcT I hg hm boot_range (PyProof.Rows.callWith_type1 (thnE (ha pos pins s σ H _ I h) fun us s1 vs H1 I1 r1 q1 => ?_) (by rw [hs,hs2]) (by rw [hs2]; rfl)))
 obtain ⟨e,q⟩:=q1
 subst e
 cases r1 with
 | cons r rr =>
  cases rr with
  | cons r' rr =>
   cases rr with
   | cons r'' rr =>
    cases rr
    obtain ⟨t,rfl⟩:=r
    obtain ⟨t',rfl⟩:=r'
    obtain ⟨t'',rfl⟩:=r''
    refine call_range_3 (by decide) ?_
    refine wpAny_pyIter_range (IsRange.new ..) (by decide) ?_
    have I2:Inv X pins σ H1 { s1 with heap:=s1.heap.push { cls := .type "range",data := .fields #[.int 7 t,.int (-1) t',.int (-1) t''] },toks:=s1.toks }:=I1.kept fun b o e=>Heap.get?_push_of_some _ e
    refine ⟨(s1.heap.push { cls := .type "range",data := .fields #[.int 7 t,.int (-1) t',.int (-1) t''] }).objs.size,[(s1.heap.push { cls := .type "range",data := .fields #[.int 7 t,.int (-1) t',.int (-1) t''] }).objs.size],_,_,H1,rfl,
     I2.kept (t':=s1.toks) fun b o e=>Heap.get?_push_of_some _ e,turn_down _ 7 8,?_,fun b hb => ?_,q⟩
    ·show IsRangeIter _ _ (7 + ((0:Nat):Int) * (-1)) (((8:Nat):Int) - ((0:Nat):Int)) (-1)
     exact Heap.get?_push_size _ rfl
    ·have e:b=(s1.heap.push { cls := .type "range",data := .fields #[.int 7 t,.int (-1) t',.int (-1) t''] }).objs.size:=by simpa using hb
     subst e
     exact I2.fpOk (Nat.le_refl _) (I2.hok.fresh (Nat.le_refl _))
end
end L2
set_option maxHeartbeats 4000000
namespace K39
open PySem L2 PyProof.Rows
noncomputable def top (i:Nat):Stmt:=PySem.Challenge.pw_combstrip_k39_whole_refusals.main.body.getD i (.Pass ⟨0,0,0,0⟩)
noncomputable abbrev s_shape_steps:Stmt:=top 28
noncomputable abbrev s_teeth_worth:Stmt:=top 29
noncomputable abbrev s_shapes_at:Stmt:=top 30
noncomputable abbrev s_step_table:Stmt:=top 31
noncomputable abbrev s_shapes_behind:Stmt:=top 32
noncomputable abbrev s_first_filling:Stmt:=top 34
noncomputable abbrev s_count_fillings:Stmt:=top 35
noncomputable abbrev s_first_filling_with:Stmt:=top 36
noncomputable abbrev s_count_fillings_with:Stmt:=top 37
noncomputable abbrev s_check_length:Stmt:=top 38
noncomputable abbrev s_ways_to_close:Stmt:=top 39
noncomputable abbrev s_ways_to_lay:Stmt:=top 40
noncomputable abbrev s_ways_from:Stmt:=top 41
noncomputable abbrev s_ways_behind:Stmt:=top 42
noncomputable abbrev s_lay_first:Stmt:=top 43
noncomputable abbrev s_first_open_step:Stmt:=top 44
noncomputable abbrev s_is_name:Stmt:=top 46
noncomputable abbrev s_is_small_letter:Stmt:=top 47
noncomputable abbrev s_are_teeth:Stmt:=top 48
noncomputable abbrev s_Book___init__:Stmt:=inClass (top 50) 0
noncomputable abbrev s_Book_put:Stmt:=inClass (top 50) 1
noncomputable abbrev s_Book_drop:Stmt:=inClass (top 50) 2
noncomputable abbrev s_Book_add_tooth:Stmt:=inClass (top 50) 3
noncomputable abbrev s_Book_take_off:Stmt:=inClass (top 50) 4
noncomputable abbrev s_Book_undo:Stmt:=inClass (top 50) 5
noncomputable abbrev s_Book_deeds:Stmt:=inClass (top 50) 6
noncomputable abbrev s_Book_names:Stmt:=inClass (top 50) 7
noncomputable abbrev s_Book_teeth:Stmt:=inClass (top 50) 8
noncomputable abbrev s_Book_check_comb:Stmt:=inClass (top 50) 9
noncomputable abbrev s_Book_set_comb:Stmt:=inClass (top 50) 10
noncomputable abbrev s_Book_do_deed:Stmt:=inClass (top 50) 11
noncomputable abbrev s_check_tooth:Stmt:=top 51
noncomputable abbrev s_rows_going_on:Stmt:=top 53
noncomputable abbrev s_narrow_row:Stmt:=top 54
noncomputable abbrev s_leads_on:Stmt:=top 55
noncomputable abbrev s_walk_round:Stmt:=top 56
noncomputable abbrev s_first_lasting_step:Stmt:=top 57
noncomputable abbrev s_fill_line:Stmt:=top 59
noncomputable abbrev s_filled_line:Stmt:=top 60
noncomputable abbrev s_places_from:Stmt:=top 61
noncomputable abbrev s_fill_strip:Stmt:=top 63
noncomputable abbrev s_filled_strip:Stmt:=top 64
noncomputable abbrev s_rows_to_the_end:Stmt:=top 65
noncomputable abbrev s_comb_over_strip:Stmt:=top 67
noncomputable abbrev s_comb_over_line:Stmt:=top 68
noncomputable abbrev s_check_filled:Stmt:=top 69
noncomputable abbrev s_reaching_places:Stmt:=top 70
noncomputable abbrev s_strip_home:Stmt:=top 71
noncomputable abbrev s_laying_over:Stmt:=top 72
noncomputable abbrev s_fits_flush:Stmt:=top 74
noncomputable abbrev s_shortest_length:Stmt:=top 75
noncomputable abbrev s_least_lengths:Stmt:=top 76
noncomputable abbrev s_is_reached:Stmt:=top 77
noncomputable abbrev s_at:Stmt:=top 79
noncomputable abbrev s_mixed:Stmt:=top 80
noncomputable abbrev s_pool:Stmt:=top 81
noncomputable abbrev s_draw:Stmt:=top 82
noncomputable abbrev s_kind:Stmt:=top 83
noncomputable abbrev s_do:Stmt:=top 84
noncomputable abbrev s_isname:Stmt:=top 85
noncomputable abbrev s_isteeth:Stmt:=top 86
noncomputable abbrev s_duedeed:Stmt:=top 87
noncomputable abbrev s_done:Stmt:=top 88
noncomputable abbrev s_whole:Stmt:=top 89
noncomputable abbrev s_numbers:Stmt:=top 90
noncomputable abbrev s_texts:Stmt:=top 91
noncomputable abbrev s_same:Stmt:=top 92
noncomputable abbrev s_refused:Stmt:=top 93
noncomputable abbrev s_ask:Stmt:=top 94
noncomputable abbrev s_doors:Stmt:=top 95
noncomputable abbrev s_law:Stmt:=top 96
section
variable {P:Program} {w:World} {K:W.Frag} {mg:Str->Option Value} {base:Heap}
structure Ea (mg:Str->Option Value) (ea:Nat->Addr):Prop where
 n0:mg "BadName" = some (.ref (ea 0))
 n1:mg "BadTeeth" = some (.ref (ea 1))
 n2:mg "NameTaken" = some (.ref (ea 2))
 n3:mg "BookFull" = some (.ref (ea 3))
 n4:mg "NoComb" = some (.ref (ea 4))
 n5:mg "BadTooth" = some (.ref (ea 5))
 n6:mg "ToothThere" = some (.ref (ea 6))
 n7:mg "FirstTooth" = some (.ref (ea 7))
 n8:mg "ToothMissing" = some (.ref (ea 8))
 n9:mg "DeedsFull" = some (.ref (ea 9))
 n10:mg "NothingDone" = some (.ref (ea 10))
 n11:mg "BadShape" = some (.ref (ea 11))
 n12:mg "BadPlace" = some (.ref (ea 12))
 n13:mg "BadLength" = some (.ref (ea 13))
 n14:mg "NoFilling" = some (.ref (ea 14))
noncomputable def spKind (K:W.Frag) (ea:Nat->Addr):Addr->Value->Sp:=fun e c vs H Q _=>vs = [.ref e]/\∃ D j,c = .ref D/\KindF K ea D j/\∀ p H',Same H H'->H p=none->H' p=some (.lst [.str (errName j)])->Q (.ref p) H'
noncomputable def kb (j i:Nat):V := .bl (decide (i=j))
noncomputable def kBools (j:Nat):List V:=(List.range 15).map (kb j)
theorem kBools_eq (j:Nat):kBools j = [kb j 0,kb j 1,kb j 2,kb j 3,kb j 4,kb j 5,kb j 6,kb j 7,kb j 8,kb j 9,kb j 10,kb j 11,kb j 12,kb j 13,kb j 14]:=rfl
noncomputable def isJ (j:Nat) (v:V):Bool:=match v with
 | .int t=>decide (t.toNat=j)
 | _=>false
noncomputable def wordJ (v:V):V:=match v with
 | .int t => .str (errName t.toNat)
 | _ => .non
theorem kind_res {j:Nat} (h:j < 15):(((List.range (15:Int).toNat).map fun i=>V.int (0 + ((i:Nat):Int))).filter (isJ j)).map wordJ = [.str (errName j)]:=by
 have all:∀ j∈List.range 15,(((List.range (15:Int).toNat).map fun i=>V.int (0 + ((i:Nat):Int))).filter (isJ j)).map wordJ = [.str (errName j)]:=by decide +kernel
 exact all j (List.mem_range.mpr h)
theorem zej:FnScope ["_law_e","_law_is_one","_law_words"] ["_law_e"] (defScope s_kind):=⟨rfl,rfl,rfl,by decide +kernel,rfl,by decide +kernel,by decide +kernel⟩
theorem ok_kind (D:DefAt K mg "_law_kind" s_kind) (T:Bn mg) {ea:Nat->Addr} (EA:Ea mg ea):HCallee P w K mg base "_law_kind" 1 ["_law_e"] (spKind K ea):=by
 have V_BadName:=EA.n0
 have V_BadTeeth:=EA.n1
 have V_NameTaken:=EA.n2
 have V_BookFull:=EA.n3
 have V_NoComb:=EA.n4
 have V_BadTooth:=EA.n5
 have V_ToothThere:=EA.n6
 have V_FirstTooth:=EA.n7
 have V_ToothMissing:=EA.n8
 have V_DeedsFull:=EA.n9
 have V_NothingDone:=EA.n10
 have V_BadShape:=EA.n11
 have V_BadPlace:=EA.n12
 have V_BadLength:=EA.n13
 have V_NoFilling:=EA.n14
 refine D.hcalleeQ zej (fun _ _ _ _ _ _=>ln1 fun _=>rfl) (fun e c vs H Q E h => ?_) (fun f cdv A outer s H vs Q e oe c ws hc hd hq h => ?_)
 ·obtain ⟨rfl,_⟩:=h
  rfl
 ·obtain ⟨rfl,D,j,rfl,F,q⟩:=h
  have S:=zej
  have pin:(e,oe)∈(cxH P w K mg base ["_law_e","_law_is_one","_law_words"] "_law_kind" (defScope s_kind) f cdv A outer s H e oe).pn/\(oe.cls = .ref D/\oe.dict=none)/\∃ vs,oe.data = .fields vs:=⟨List.mem_singleton.mpr rfl,hc,ws,hd⟩
  refine ⟨_,zau (zaN (i:=1) S.nd rfl (Or.inr rfl) (zaL (zae (qe (zai zaH rfl T.n_isinstance boot_isinstance (zaa (pv 0) (zaa (za7 rfl V_BadName) zab)))) (zae (qe (zai zaH rfl T.n_isinstance boot_isinstance (zaa (pv 0) (zaa (za7 rfl V_BadTeeth) zab)))) (zae (qe (zai zaH rfl T.n_isinstance boot_isinstance (zaa (pv 0) (zaa (za7 rfl V_NameTaken) zab)))) (zaG))))))
  (zau (zaN (i:=1) S.nd rfl (Or.inr rfl) (zdd zbg (qe (pv 1)) (zaL (zae (qe (zai zaH rfl T.n_isinstance boot_isinstance (zaa (pv 0) (zaa (za7 rfl V_BookFull) zab)))) (zae (qe (zai zaH rfl T.n_isinstance boot_isinstance (zaa (pv 0) (zaa (za7 rfl V_NoComb) zab)))) (zae (qe (zai zaH rfl T.n_isinstance boot_isinstance (zaa (pv 0) (zaa (za7 rfl V_BadTooth) zab)))) (zaG)))))))
  (zau (zaN (i:=1) S.nd rfl (Or.inr rfl) (zdd zbg (qe (pv 1)) (zaL (zae (qe (zai zaH rfl T.n_isinstance boot_isinstance (zaa (pv 0) (zaa (za7 rfl V_ToothThere) zab)))) (zae (qe (zai zaH rfl T.n_isinstance boot_isinstance (zaa (pv 0) (zaa (za7 rfl V_FirstTooth) zab)))) (zaG))))))
  (zau (zaN (i:=1) S.nd rfl (Or.inr rfl) (zdd zbg (qe (pv 1)) (zaL (zae (qe (zai zaH rfl T.n_isinstance boot_isinstance (zaa (pv 0) (zaa (za7 rfl V_ToothMissing) zab)))) (zae (qe (zai zaH rfl T.n_isinstance boot_isinstance (zaa (pv 0) (zaa (za7 rfl V_DeedsFull) zab)))) (zaG))))))
  (zau (zaN (i:=1) S.nd rfl (Or.inr rfl) (zdd zbg (qe (pv 1)) (zaL (zae (qe (zai zaH rfl T.n_isinstance boot_isinstance (zaa (pv 0) (zaa (za7 rfl V_NothingDone) zab)))) (zae (qe (zai zaH rfl T.n_isinstance boot_isinstance (zaa (pv 0) (zaa (za7 rfl V_BadShape) zab)))) (zaG))))))
  (zau (zaN (i:=1) S.nd rfl (Or.inr rfl) (zdd zbg (qe (pv 1)) (zaL (zae (qe (zai zaH rfl T.n_isinstance boot_isinstance (zaa (pv 0) (zaa (za7 rfl V_BadPlace) zab)))) (zae (qe (zai zaH rfl T.n_isinstance boot_isinstance (zaa (pv 0) (zaa (za7 rfl V_BadLength) zab)))) (zae (qe (zai zaH rfl T.n_isinstance boot_isinstance (zaa (pv 0) (zaa (za7 rfl V_NoFilling) zab)))) (zaG)))))))
  (zau (zaN (i:=2) S.nd rfl (Or.inr rfl) (zaL (zae (qe (zah)) (zae (qe (zah)) (zae (qe (zah)) (zae (qe (zah)) (zae (qe (zah)) (zae (qe (zah)) (zae (qe (zah)) (zaG))))))))))
  (zau (zaN (i:=2) S.nd rfl (Or.inr rfl) (zdd zbg (qe (pv 2)) (zaL (zae (qe (zah)) (zae (qe (zah)) (zae (qe (zah)) (zae (qe (zah)) (zae (qe (zah)) (zaG)))))))))
  (zau (zaN (i:=2) S.nd rfl (Or.inr rfl) (zdd zbg (qe (pv 2)) (zaL (zae (qe (zah)) (zae (qe (zah)) (zae (qe (zah)) (zaG)))))))
  (zcq (zdc (qe (pe_compq (own := ["_law_k"]) (caps := [(1,"_law_is_one"),(2,"_law_words")]) (QH e oe) (fun _ _ _ _ _ _=>hq.comp) ⟨rfl,rfl,rfl,rfl,⟨⟨rfl,rfl,.inl rfl⟩,⟨rfl,rfl,.inl rfl⟩,trivial⟩⟩ (pi_range1q rfl T.n_range (zaa (zac) zab)) (fun _ _ _ _ _ _=>zaC (i:=0) (zbq (by decide +kernel)) rfl (Or.inl rfl)) (fun _ _ _ _ _ _=>zb3 (zaX (zaO (zaV K rfl) (pv 1) (pv 0) (fun _ _=>rfl)))) (fun _ _ _ _ _ _=>zaO (zaV K rfl) (pv 2) (pv 0) (fun _ _=>rfl)))))))))))))),?_⟩
  have M:Same H H:=Same.refl H
  refine ⟨_,rfl,_,_,D,oe,_,rfl,pin,F.cls,F.kit 0 (by decide),_,rfl,_,_,D,oe,_,rfl,pin,F.cls,F.kit 1 (by decide),_,rfl,_,_,D,oe,_,rfl,pin,F.cls,F.kit 2 (by decide),bigr rfl,fun a0 na => ?_⟩
  obtain ⟨M,e1⟩:=M.lstE (o := .lst [kb j 0,kb j 1,kb j 2]) na
  clear na
  refine ⟨_,rfl,_,rfl,_,_,D,oe,_,rfl,pin,F.cls,F.kit 3 (by decide),_,rfl,_,_,D,oe,_,rfl,pin,F.cls,F.kit 4 (by decide),_,rfl,_,_,D,oe,_,rfl,pin,F.cls,F.kit 5 (by decide),bigr rfl,fun a1 na => ?_⟩
  obtain ⟨M,e2⟩:=M.lstE (o := .lst [kb j 3,kb j 4,kb j 5]) na
  replace e1:=zcf (o := .lst [kb j 3,kb j 4,kb j 5]) e1 na
  clear na
  refine ⟨_,_,_,_,rfl,rfl,e1,e2,bigr rfl,fun c1 nc => ?_⟩
  obtain ⟨M,e1⟩:=M.lstE (o := .lst [kb j 0,kb j 1,kb j 2,kb j 3,kb j 4,kb j 5]) nc
  clear nc e2
  refine ⟨_,rfl,_,rfl,_,_,D,oe,_,rfl,pin,F.cls,F.kit 6 (by decide),_,rfl,_,_,D,oe,_,rfl,pin,F.cls,F.kit 7 (by decide),bigr rfl,fun a2 na => ?_⟩
  obtain ⟨M,e2⟩:=M.lstE (o := .lst [kb j 6,kb j 7]) na
  replace e1:=zcf (o := .lst [kb j 6,kb j 7]) e1 na
  clear na
  refine ⟨_,_,_,_,rfl,rfl,e1,e2,bigr rfl,fun c2 nc => ?_⟩
  obtain ⟨M,e1⟩:=M.lstE (o := .lst [kb j 0,kb j 1,kb j 2,kb j 3,kb j 4,kb j 5,kb j 6,kb j 7]) nc
  clear nc e2
  refine ⟨_,rfl,_,rfl,_,_,D,oe,_,rfl,pin,F.cls,F.kit 8 (by decide),_,rfl,_,_,D,oe,_,rfl,pin,F.cls,F.kit 9 (by decide),bigr rfl,fun a3 na => ?_⟩
  obtain ⟨M,e2⟩:=M.lstE (o := .lst [kb j 8,kb j 9]) na
  replace e1:=zcf (o := .lst [kb j 8,kb j 9]) e1 na
  clear na
  refine ⟨_,_,_,_,rfl,rfl,e1,e2,bigr rfl,fun c3 nc => ?_⟩
  obtain ⟨M,e1⟩:=M.lstE (o := .lst [kb j 0,kb j 1,kb j 2,kb j 3,kb j 4,kb j 5,kb j 6,kb j 7,kb j 8,kb j 9]) nc
  clear nc e2
  refine ⟨_,rfl,_,rfl,_,_,D,oe,_,rfl,pin,F.cls,F.kit 10 (by decide),_,rfl,_,_,D,oe,_,rfl,pin,F.cls,F.kit 11 (by decide),bigr rfl,fun a4 na => ?_⟩
  obtain ⟨M,e2⟩:=M.lstE (o := .lst [kb j 10,kb j 11]) na
  replace e1:=zcf (o := .lst [kb j 10,kb j 11]) e1 na
  clear na
  refine ⟨_,_,_,_,rfl,rfl,e1,e2,bigr rfl,fun c4 nc => ?_⟩
  obtain ⟨M,e1⟩:=M.lstE (o := .lst [kb j 0,kb j 1,kb j 2,kb j 3,kb j 4,kb j 5,kb j 6,kb j 7,kb j 8,kb j 9,kb j 10,kb j 11]) nc
  clear nc e2
  refine ⟨_,rfl,_,rfl,_,_,D,oe,_,rfl,pin,F.cls,F.kit 12 (by decide),_,rfl,_,_,D,oe,_,rfl,pin,F.cls,F.kit 13 (by decide),_,rfl,_,_,D,oe,_,rfl,pin,F.cls,F.kit 14 (by decide),bigr rfl,fun a5 na => ?_⟩
  obtain ⟨M,e2⟩:=M.lstE (o := .lst [kb j 12,kb j 13,kb j 14]) na
  replace e1:=zcf (o := .lst [kb j 12,kb j 13,kb j 14]) e1 na
  clear na
  refine ⟨_,_,_,_,rfl,rfl,e1,e2,bigr rfl,fun c5 nc => ?_⟩
  obtain ⟨M,e1⟩:=M.lstE (o := .lst [kb j 0,kb j 1,kb j 2,kb j 3,kb j 4,kb j 5,kb j 6,kb j 7,kb j 8,kb j 9,kb j 10,kb j 11,kb j 12,kb j 13,kb j 14]) nc
  clear nc e2
  refine ⟨bigr rfl,fun w0 nw => ?_⟩
  obtain ⟨M,f1⟩:=M.lstE (o := .lst [V.str (Str.ofString "BadName"),V.str (Str.ofString "BadTeeth"),V.str (Str.ofString "NameTaken"),V.str (Str.ofString "BookFull"),V.str (Str.ofString "NoComb"),V.str (Str.ofString "BadTooth"),V.str (Str.ofString "ToothThere")]) nw
  replace e1:=zcf (o := .lst [V.str (Str.ofString "BadName"),V.str (Str.ofString "BadTeeth"),V.str (Str.ofString "NameTaken"),V.str (Str.ofString "BookFull"),V.str (Str.ofString "NoComb"),V.str (Str.ofString "BadTooth"),V.str (Str.ofString "ToothThere")]) e1 nw
  clear nw
  refine ⟨_,rfl,bigr rfl,fun w1 nw => ?_⟩
  obtain ⟨M,f2⟩:=M.lstE (o := .lst [V.str (Str.ofString "FirstTooth"),V.str (Str.ofString "ToothMissing"),V.str (Str.ofString "DeedsFull"),V.str (Str.ofString "NothingDone"),V.str (Str.ofString "BadShape")]) nw
  replace e1:=zcf (o := .lst [V.str (Str.ofString "FirstTooth"),V.str (Str.ofString "ToothMissing"),V.str (Str.ofString "DeedsFull"),V.str (Str.ofString "NothingDone"),V.str (Str.ofString "BadShape")]) e1 nw
  replace f1:=zcf (o := .lst [V.str (Str.ofString "FirstTooth"),V.str (Str.ofString "ToothMissing"),V.str (Str.ofString "DeedsFull"),V.str (Str.ofString "NothingDone"),V.str (Str.ofString "BadShape")]) f1 nw
  clear nw
  refine ⟨_,_,_,_,rfl,rfl,f1,f2,bigr rfl,fun x1 nx => ?_⟩
  obtain ⟨M,f1⟩:=M.lstE (o := .lst [V.str (Str.ofString "BadName"),V.str (Str.ofString "BadTeeth"),V.str (Str.ofString "NameTaken"),V.str (Str.ofString "BookFull"),V.str (Str.ofString "NoComb"),V.str (Str.ofString "BadTooth"),V.str (Str.ofString "ToothThere"),V.str (Str.ofString "FirstTooth"),V.str (Str.ofString "ToothMissing"),V.str (Str.ofString "DeedsFull"),V.str (Str.ofString "NothingDone"),V.str (Str.ofString "BadShape")]) nx
  replace e1:=zcf (o := .lst [V.str (Str.ofString "BadName"),V.str (Str.ofString "BadTeeth"),V.str (Str.ofString "NameTaken"),V.str (Str.ofString "BookFull"),V.str (Str.ofString "NoComb"),V.str (Str.ofString "BadTooth"),V.str (Str.ofString "ToothThere"),V.str (Str.ofString "FirstTooth"),V.str (Str.ofString "ToothMissing"),V.str (Str.ofString "DeedsFull"),V.str (Str.ofString "NothingDone"),V.str (Str.ofString "BadShape")]) e1 nx
  clear nx f2
  refine ⟨_,rfl,bigr rfl,fun w2 nw => ?_⟩
  obtain ⟨M,f2⟩:=M.lstE (o := .lst [V.str (Str.ofString "BadPlace"),V.str (Str.ofString "BadLength"),V.str (Str.ofString "NoFilling")]) nw
  replace e1:=zcf (o := .lst [V.str (Str.ofString "BadPlace"),V.str (Str.ofString "BadLength"),V.str (Str.ofString "NoFilling")]) e1 nw
  replace f1:=zcf (o := .lst [V.str (Str.ofString "BadPlace"),V.str (Str.ofString "BadLength"),V.str (Str.ofString "NoFilling")]) f1 nw
  clear nw
  refine ⟨_,_,_,_,rfl,rfl,f1,f2,bigr rfl,fun x2 nx => ?_⟩
  obtain ⟨M,f1⟩:=M.lstE (o := .lst [V.str (Str.ofString "BadName"),V.str (Str.ofString "BadTeeth"),V.str (Str.ofString "NameTaken"),V.str (Str.ofString "BookFull"),V.str (Str.ofString "NoComb"),V.str (Str.ofString "BadTooth"),V.str (Str.ofString "ToothThere"),V.str (Str.ofString "FirstTooth"),V.str (Str.ofString "ToothMissing"),V.str (Str.ofString "DeedsFull"),V.str (Str.ofString "NothingDone"),V.str (Str.ofString "BadShape"),V.str (Str.ofString "BadPlace"),V.str (Str.ofString "BadLength"),V.str (Str.ofString "NoFilling")]) nx
  replace e1:=zcf (o := .lst [V.str (Str.ofString "BadName"),V.str (Str.ofString "BadTeeth"),V.str (Str.ofString "NameTaken"),V.str (Str.ofString "BookFull"),V.str (Str.ofString "NoComb"),V.str (Str.ofString "BadTooth"),V.str (Str.ofString "ToothThere"),V.str (Str.ofString "FirstTooth"),V.str (Str.ofString "ToothMissing"),V.str (Str.ofString "DeedsFull"),V.str (Str.ofString "NothingDone"),V.str (Str.ofString "BadShape"),V.str (Str.ofString "BadPlace"),V.str (Str.ofString "BadLength"),V.str (Str.ofString "NoFilling")]) e1 nx
  clear nx f2
  refine ⟨_,rfl,by decide,by decide,fun Dc hD => ?_⟩
  refine zb0 (capv := [some (.ref c5),some (.ref x2)]) (by rfl) (zaY 0 (15:Int).toNat) (bigr rfl) hD ?_ (isJ j) wordJ ?_ ?_ ?_
  ·exact fun _ _=>trivial
  ·intro v hv H' R s' h
   obtain ⟨t,ht,rfl⟩:=List.mem_map.mp hv
   have ht15:t < 15:=List.mem_range.mp ht
   refine ⟨_,rfl,_,rfl,_,_,_,_,rfl,rfl,SqL.of (s' _ _ e1),(?_:atI (kBools j) (0 + ((t:Nat):Int))=some (kb j t)),_,rfl,?_⟩
   ·rw [Int.zero_add]
    refine zaB ?_
    unfold kBools
    rw [List.getElem?_map,List.getElem?_range ht15]
    rfl
   ·have e:isJ j (.int (0 + ((t:Nat):Int)))=decide (t=j):=by
     show decide ((0 + ((t:Nat):Int)).toNat=j)=_
     rw [Int.zero_add,Int.toNat_natCast]
    have h:=h H' (Same.refl _)
    rw [e] at h
    exact h
  ·intro v hv hp H' R s' h
   obtain ⟨t,ht,rfl⟩:=List.mem_map.mp hv
   have ht15:t < 15:=List.mem_range.mp ht
   refine ⟨_,rfl,_,rfl,_,_,_,_,rfl,rfl,SqL.of (s' _ _ f1),(?_:atI (errNames.map V.str) (0 + ((t:Nat):Int))=some (wordJ (.int (0 + ((t:Nat):Int))))),h H' (Same.refl _)⟩
   rw [Int.zero_add]
   refine zaB ?_
   have hl:t < errNames.length:=ht15
   show (errNames.map V.str)[t]?=some (.str (errName ((t:Nat):Int).toNat))
   rw [List.getElem?_map,List.getElem?_eq_getElem hl,Int.toNat_natCast]
   unfold errName
   rw [List.getD_eq_getElem?_getD,List.getElem?_eq_getElem hl]
   rfl
  ·intro H' s' e
   rw [kind_res F.lt] at e
   exact q _ H' (M.trans s') (M.free hD) e
theorem zeZ {a b:Nat}:([a] < [b]) ↔ a < b:=by
 rw [List.cons_lt_cons_iff]
 simp
theorem le_a (c:Nat):(!decide ((⟨#[c]⟩:Str).cps.toList < (Str.ofString "a").cps.toList))=decide (97<=c):=by
 have e:(Str.ofString "a").cps.toList = [97]:=by decide +kernel
 rw [e]
 show (!decide ([c] < [97]))=_
 rw [Bool.eq_iff_iff]
 simp only [Bool.not_eq_true',decide_eq_false_iff_not,decide_eq_true_eq,zeZ]
 omega
theorem le_z (c:Nat):(!decide ((Str.ofString "z").cps.toList < (⟨#[c]⟩:Str).cps.toList))=decide (c<=122):=by
 have e:(Str.ofString "z").cps.toList = [122]:=by decide +kernel
 rw [e]
 show (!decide ([122] < [c]))=_
 rw [Bool.eq_iff_iff]
 simp only [Bool.not_eq_true',decide_eq_false_iff_not,decide_eq_true_eq,zeZ]
 omega
noncomputable def sp_small:Sp:=fun vs H Q _=>∃ c:Nat,vs = [sgn c]/\Q (.bl (small c)) H
theorem zbb:FnScope ["sign"] ["sign"] (defScope s_is_small_letter):=⟨rfl,rfl,rfl,by decide +kernel,rfl,by decide +kernel,by decide +kernel⟩
theorem ok_small (D:DefAt K mg "is_small_letter" s_is_small_letter) (T:Bn mg):Callee P w K mg base "is_small_letter" 1 ["sign"] sp_small:=by
 refine D.callee zbb (fun _ _ _ _ _ _=>ln1 fun _=>rfl) (fun vs H Q E h => ?_) (fun f cdv A outer s H vs Q E hr h => ?_)
 ·obtain ⟨c,rfl,_⟩:=h
  rfl
 ·obtain ⟨c,rfl,q⟩:=h
  have S:=zbb
  refine ⟨_,zad (zaq (zdZ zdj zdj (zah) (pv 0) (zah))),?_⟩
  refine ⟨_,rfl,_,_,rfl,rfl,_,rfl,?_⟩
  rw [le_a]
  have q':Q (.bl (decide (97<=c) && decide (c<=122))) H:=q
  cases e:decide (97<=c) with
  | false =>
   rw [if_neg Bool.false_ne_true]
   rw [e] at q'
   exact q'
  | true =>
   rw [if_pos rfl]
   refine ⟨_,_,rfl,rfl,?_⟩
   rw [le_z]
   rw [e] at q'
   exact q'
noncomputable def sp_name:Sp:=fun vs H Q _=>∃ x:Str,vs = [.str x]/\x.length<=sizeLine/\∀ H',Same H H'->Q (.bl (isName x)) H'
theorem zcP:FnScope ["text"] ["text"] (defScope s_is_name):=⟨rfl,rfl,rfl,by decide +kernel,rfl,by decide +kernel,by decide +kernel⟩
theorem ok_name (D:DefAt K mg "is_name" s_is_name) (T:Bn mg) (V_MOST_NAME:∃ t,mg "MOST_NAME" = some (.int 6 t)) (C_is_small_letter:Callee P w K mg base "is_small_letter" 1 ["sign"] sp_small):Callee P w K mg base "is_name" 2 ["text"] sp_name:=by
 refine D.callee zcP (fun _ _ _ _ _ _=>ln1 fun _=>rfl) (fun vs H Q E h => ?_) (fun f cdv A outer s H vs Q E hr h => ?_)
 ·obtain ⟨c,rfl,_⟩:=h
  rfl
 ·obtain ⟨x,rfl,hx,q⟩:=h
  have S:=zcP
  refine ⟨_,zag (zat (zaJ (zbf zbo zbo (zac) (zai zbh rfl T.n_len PySem.boot_len (zaa (pv 0) zab)) (za2 rfl V_MOST_NAME)))
   (zad (zaq (zbi)))
   (zaj))
  (zad (zaq (zai (zc6 rfl) rfl T.n_all boot_all (zaa (zb5 (own := ["sign"]) (caps := []) rfl ⟨rfl,rfl,rfl,rfl,trivial⟩ (zeT (pv 0)) (fun _ _ _ _ _ _=>zaC (i:=0) (zbq (by decide +kernel)) rfl (Or.inl rfl)) (fun _ _ _ _ _ _=>zdB) (fun _ _ _ _ _ _=>za1 C_is_small_letter (hr.mono (by decide)) rfl (zaa (pv 0) zab))) zab)))),?_⟩
  have fin:∀ H',Same H H'->(decide (1<=x.length) && decide (x.length<=6))=false->Q (.bl false) H':=fun H' s' e=>by
   have:=q H' s'
   unfold isName at this
   rw [e] at this
   exact this
  refine ⟨_,rfl,_,rfl,hx,_,_,rfl,rfl,_,rfl,?_⟩
  refine ite2 (fun h1 => ?_) (fun h1 => ?_)
  ·refine ⟨_,_,rfl,rfl,_,rfl,?_⟩
   refine ite2 (fun h2 => ?_) (fun h2 => ?_)
   ·refine fin H (Same.refl H) ?_
    have:¬ (x.length:Int)<=6:=by simpa using h2
    rw [Bool.and_eq_false_iff]
    exact .inr (decide_eq_false (by omega))
   ·refine ⟨_,rfl,_,rfl,fun D hD => ?_⟩
    refine zb0 (capv := []) (L:=x.cps.toList.map sgn) (by rfl) (zdp x) (by rw [List.length_map,zdz]; exact hx) hD ?_ (fun _=>true) (fun v=>match v with | .str y => .bl (small (y.cps.getD 0 0)) | _ => .non) ?_ ?_ ?_
    ·exact fun _ _=>trivial
    ·exact fun v hv H' R s' h=>h H' (Same.refl _)
    ·intro v hv _ H' R s' h
     obtain ⟨c,hc,rfl⟩:=List.mem_map.mp hv
     exact ⟨_,rfl,c,rfl,h H' (Same.refl _)⟩
    ·intro H' s' e
     refine ⟨_,x.cps.toList.map small,rfl,?_,?_⟩
     ·refine SqL.of ?_
      rw [e]
      congr 2
      rw [List.filter_eq_self.mpr (fun _ _=>rfl),List.map_map,List.map_map]
      rfl
     ·have:=q H' s'
      unfold isName at this
      have h3:¬ ¬ (x.length:Int)<=6:=by simpa using h2
      have h1':(1:Int)<=x.length:=by simpa using h1
      rw [decide_eq_true (show 1<=x.length by omega),decide_eq_true (show x.length<=6 by omega)] at this
      rw [List.all_map]
      exact this
  ·refine ⟨_,rfl,?_⟩
   refine fin H (Same.refl H) ?_
   have h1':¬ (1:Int)<=x.length:=by simpa using h1
   rw [Bool.and_eq_false_iff]
   exact .inl (decide_eq_false (by omega))
noncomputable def sp_teeth (K:W.Frag):Sp:=fun vs H Q _=>∃ (a:Addr) (ts:List Int),vs = [.ref a]/\SqL K H a (ts.map V.int)/\ts.length<=1000/\∀ H',Same H H'->Q (.bl (areTeeth ts)) H'
theorem zca:FnScope ["teeth"] ["teeth"] (defScope s_are_teeth):=⟨rfl,rfl,rfl,by decide +kernel,rfl,by decide +kernel,by decide +kernel⟩
theorem ok_teeth (D:DefAt K mg "are_teeth" s_are_teeth) (T:Bn mg) (V_MOST_TOOTH:∃ t,mg "MOST_TOOTH" = some (.int 7 t)):Callee P w K mg base "are_teeth" 1 ["teeth"] (sp_teeth K):=by
 refine D.callee zca (fun _ _ _ _ _ _=>ln1 fun _=>rfl) (fun vs H Q E h => ?_) (fun f cdv A outer s H vs Q E hr h => ?_)
 ·obtain ⟨a,ts,rfl,_⟩:=h
  rfl
 ·obtain ⟨a,ts,rfl,ha,hl,q⟩:=h
  have S:=zca
  unfold areTeeth at q
  refine ⟨_,zag (zat (zak zbF (zac) (pv 0) (by with_unfolding_all rfl))
   (zad (zaq (zbi)))
   (zaj))
  (zag (zat (zak zcF (zai call_lenS rfl T.n_len PySem.boot_len (zaa (zaP (call_set1 rfl) rfl T.n_set boot_set (zaa (pv 0) zab)) zab)) (zai zao rfl T.n_len PySem.boot_len (zaa (pv 0) zab)) (zan _))
   (zad (zaq (zbi)))
   (zaj))
  (zad (zaq (zai (zc6 rfl) rfl T.n_all boot_all (zaa (zb5 (own := ["tooth"]) (caps := []) rfl ⟨rfl,rfl,rfl,rfl,trivial⟩ (zb4 (pv 0)) (fun _ _ _ _ _ _=>zaC (i:=0) (zbq (by decide +kernel)) rfl (Or.inl rfl)) (fun _ _ _ _ _ _=>zdB) (fun _ _ _ _ _ _=>zdZ zbo zbo (zac) (pv 0) (za2 rfl V_MOST_TOOTH))) zab))))),?_⟩
  refine ⟨_,rfl,_,_,rfl,.inl ha,rfl,zdH ts,_,rfl,?_⟩
  rw [if_pos rfl,in_zero]
  refine ite2 (fun hc => ?_) (fun hc => ?_)
  ·have h0:decide (0∈ts)=false:=by simpa using hc
   rw [h0] at q
   exact q H (Same.refl H)
  ·have h0:decide (0∈ts)=true:=by simpa using hc
   rw [h0,Bool.true_and] at q
   refine ⟨_,rfl,_,ts,rfl,ha,?_,fun p np => ?_⟩
   ·show ts.length + 1 < 4096
    omega
   have s1:Same H (upd H p (.set (fun k=>(firstMet (fun i=>ts.getD i 0) ts.length).any (· == k)) (many ts))):=Same.new np
   refine ⟨_,_,_,rfl,zaf,_,rfl,_,_,rfl,.inl (s1.seq ha),rfl,_,rfl,?_⟩
   rw [List.length_map]
   refine ite2 (fun hm => ?_) (fun hm => ?_)
   ·have h1:¬ many ts=ts.length:=fun z=>by simp [z] at hm
    rw [decide_eq_false h1,Bool.false_and] at q
    exact q _ s1
   ·have h1:many ts=ts.length:=by
     have:(many ts:Int)=(ts.length:Int):=by simpa using hm
     omega
    rw [decide_eq_true h1,Bool.true_and] at q
    refine ⟨_,rfl,_,rfl,⟨_,s1.seq ha⟩,fun D hD => ?_⟩
    refine zb0 (capv := []) (L:=ts.map V.int) (by rfl) (za3 K a (ts.map V.int)) (by rw [List.length_map]; exact big hl) hD ?_ (fun _=>true) (fun v=>match v with | .int t => .bl (inR t) | _ => .non) ?_ ?_ ?_
    ·exact fun H' s'=>(s1.trans s').seq ha
    ·exact fun v hv H' R s' h=>h H' (Same.refl _)
    ·intro v hv _ H' R s' h
     obtain ⟨t,ht,rfl⟩:=List.mem_map.mp hv
     have h:=h H' (Same.refl _)
     have h:R (.bl (decide (0<=t) && decide (t<=7))) H':=h
     refine ⟨_,rfl,_,_,rfl,rfl,_,rfl,?_⟩
     cases e:decide (0<=t) with
     | false =>
      rw [e] at h
      exact iteF h
     | true =>
      rw [e] at h
      exact iteT ⟨_,_,rfl,rfl,h⟩
    ·intro H' s' e
     refine ⟨_,ts.map inR,rfl,?_,?_⟩
     ·refine SqL.of ?_
      rw [e]
      congr 2
      rw [List.filter_eq_self.mpr (fun _ _=>rfl),List.map_map,List.map_map]
      rfl
     ·have:=q H' (s1.trans s')
      rw [List.all_map]
      exact this
theorem zaQ {d l:V}:([("combs",d),("past",l)]:List (Str×V)).lookup (Str.ofString "combs")=some d:=rfl
theorem zbR {d l:V}:([("combs",d),("past",l)]:List (Str×V)).lookup (Str.ofString "past")=some l:=rfl
theorem zcS {y d l:V}:putF (Str.ofString "combs") y [("combs",d),("past",l)] = [(Str.ofString "combs",y),(Str.ofString "past",l)]:=by
 unfold putF
 rw [if_pos rfl]
theorem putF_new {y:V}:putF (Str.ofString "combs") y [] = [(Str.ofString "combs",y)]:=rfl
theorem putF_past {y d:V}:putF (Str.ofString "past") y [("combs",d)] = [(Str.ofString "combs",d),(Str.ofString "past",y)]:=by
 have h:¬ (Str.ofString "combs" = Str.ofString "past"):=by decide +kernel
 unfold putF
 rw [if_neg h]
 rfl
theorem zef {a b:Str×V} : [a,b].length < 1000:=show 2 < 1000 by decide
noncomputable def sp_check (ea:Nat->Addr) (C:Addr):Sp:=fun vs H Q E=>∃ b l G cs past x,vs = [.ref b,.str x]/\Bk C G H b l cs past/\(if (cGet cs x).isSome=true then Q .non H else E (.ref (ea 4)) none H)
theorem zbe:FnScope ["self","name"] ["self","name"] (defScope s_Book_check_comb):=⟨rfl,rfl,rfl,by decide +kernel,rfl,by decide +kernel,by decide +kernel⟩
theorem ok_check {ea:Nat->Addr} {C:Addr} (D:MethAt K C "Book" "check_comb" s_Book_check_comb) (T:Bn mg) (BA:BookAt K C) (O_NoComb:Err K mg "NoComb" (ea 4)):Method P w K mg base C "check_comb" (CX1 P w) 1 ["self","name"] (sp_check ea C):=by
 refine D.meth1 zbe (fun _ _ _ _ _ _=>ln2 fun _ _=>rfl) (fun vs H Q E h => ?_) (fun f cdv A outer s H vs Q E hr h => ?_)
 ·obtain ⟨b,l,G,cs,past,x,rfl,_⟩:=h
  rfl
 ·obtain ⟨b,l,G,cs,past,x,rfl,B,q⟩:=h
  have S:=zbe
  have hu:=zb7 hr
  obtain ⟨dx,d,hb,gd,kvs,hd,kr⟩:=B.ins
  refine ⟨_,zad (zat (zdS (zdg hu (pv 1) (zaU (pv 0) rfl)))
   (zad (zaE O_NoComb rfl (zaa (zah) zab)))
   (zaj)),?_⟩
  refine ⟨_,rfl,_,rfl,_,_,_,_,_,rfl,hb,BA.cls,BA.nc,zaQ,d,_,rfl,DGet.k (k:=Sum.inr x) hd,_,rfl,?_⟩
  rw [kr.some]
  cases e:(cGet cs x).isSome with
  | false =>
   rw [e] at q
   exact iteT ⟨bigr rfl,q⟩
  | true =>
   rw [e] at q
   exact iteF q
noncomputable def sp_do (ea:Nat->Addr) (C:Addr):Sp:=fun vs H Q E=>∃ b l G cs past d D cs',vs = [.ref b,.ref d]/\Bk C G H b l cs past/\DictR D H d cs'/\Good cs'/\(∀ x,D x->x≠b/\x≠l/\H x≠none) /\
 (if 300<=past.length then E (.ref (ea 9)) none H else ∀ H',(∀ a,a≠b->a≠l->H' a=H a)->Bk C (fun a=>G a\/D a) H' b l cs' (past ++ [cs])->Q (.int ((past.length:Int) + 1)) H')
theorem zbz:FnScope ["self","combs"] ["self","combs"] (defScope s_Book_do_deed):=⟨rfl,rfl,rfl,by decide +kernel,rfl,by decide +kernel,by decide +kernel⟩
theorem ok_do {ea:Nat->Addr} {C:Addr} (D:MethAt K C "Book" "do_deed" s_Book_do_deed) (T:Bn mg) (BA:BookAt K C) (V_MOST_DEEDS:∃ t,mg "MOST_DEEDS" = some (.int 300 t)) (O_DeedsFull:Err K mg "DeedsFull" (ea 9)):Method P w K mg base C "do_deed" (CX1 P w) 1 ["self","combs"] (sp_do ea C):=by
 refine D.meth1 zbz (fun _ _ _ _ _ _=>ln2 fun _ _=>rfl) (fun vs H Q E h => ?_) (fun f cdv A outer s H vs Q E hr h => ?_)
 ·obtain ⟨b,l,G,cs,past,d,D,cs',rfl,_⟩:=h
  rfl
 ·obtain ⟨b,l,G,cs,past,d1,Dd,cs',rfl,B,dr,gd',nD,q⟩:=h
  have S:=zbz
  have hu:=zb7 hr
  obtain ⟨dx,d,hb,dr0⟩:=B.ins
  obtain ⟨vs,hl,pr⟩:=B.lst
  have hlen:=pr.length
  have hbl:b≠l:=zcG hb hl (by intro z; cases z)
  refine ⟨_,zag (zat (zak zfd (zai zao rfl T.n_len PySem.boot_len (zaa (zaU (pv 0) rfl) zab)) (za2 rfl V_MOST_DEEDS) (zan _))
   (zad (zaE O_DeedsFull rfl (zaa (zah) zab)))
   (zaj))
  (zag (zav (zbK PySem.F.plainAttrs_list PySem.F.slot_list_append PySem.F.type_list_append zaz (zaU (pv 0) rfl) (zaa (zaU (pv 0) rfl) zab)))
  (zag (zdT (pv 0) (pv 1) rfl)
  (zad (zaq (zai zao rfl T.n_len PySem.boot_len (zaa (zaU (pv 0) rfl) zab)))))),?_⟩
  refine ⟨_,rfl,_,_,_,_,_,rfl,hb,BA.cls,BA.np,zbR,_,_,rfl,.inl (SqL.of hl),_,_,rfl,rfl,_,rfl,?_⟩
  refine ite2 (fun hc => ?_) (fun hc => ?_)
  ·have h300:300<=past.length:=by
    have:(300:Int)<=(vs.length:Int):=by simpa using hc
    omega
   rw [if_pos h300] at q
   exact ⟨bigr rfl,q⟩
  ·have h300:¬ 300<=past.length:=by
    have:¬ (300:Int)<=(vs.length:Int):=by simpa using hc
    omega
   rw [if_neg h300] at q
   refine ⟨_,rfl,_,_,_,_,_,rfl,hb,BA.cls,BA.np,zbR,.inl ⟨rfl,_,SqL.of hl⟩,_,rfl,_,_,_,_,_,rfl,hb,BA.cls,BA.nc,zaQ,_,_,_,rfl,rfl,hl,?_,?_⟩
   ·exact Nat.lt_of_lt_of_le (by omega:vs.length < 1000) zbx
   have hb1:upd H l (.lst (vs ++ [.ref d])) b=some (.ins C dx [("combs",.ref d),("past",.ref l)]):=by rw [zal hbl]; exact hb
   refine ⟨_,rfl,_,rfl,_,_,_,_,rfl,hb1,BA.cls,BA.nc,zef,?_⟩
   rw [zcS]
   have hb2:upd (upd H l (.lst (vs ++ [.ref d]))) b (.ins C dx [("combs",.ref d1),("past",.ref l)]) b=some (.ins C dx [("combs",.ref d1),("past",.ref l)]):=zaf
   have hl2:upd (upd H l (.lst (vs ++ [.ref d]))) b (.ins C dx [("combs",.ref d1),("past",.ref l)]) l=some (.lst (vs ++ [.ref d])):=by rw [zal (Ne.symm hbl),zaf]
   have off:∀ a,a≠b->a≠l->upd (upd H l (.lst (vs ++ [.ref d]))) b (.ins C dx [("combs",.ref d1),("past",.ref l)]) a=H a:=fun a n1 n2=>by rw [zal n1,zal n2]
   generalize upd (upd H l (.lst (vs ++ [.ref d]))) b (.ins C dx [("combs",.ref d1),("past",.ref l)])=H2 at hb2 hl2 off
   refine ⟨_,rfl,_,_,_,_,_,rfl,hb2,BA.cls,BA.np,zbR,_,_,rfl,.inl (SqL.of hl2),?_⟩
   rw [List.length_append,List.length_singleton,hlen]
   have sG:∀ a o,G a->H a=some o->H2 a=some o:=fun a o g e=>(off a (fun z=>B.nb (z ▸ g)) (fun z=>B.nl (z ▸ g))).trans e
   have sD:∀ a o,Dd a->H a=some o->H2 a=some o:=fun a o g e=>(off a (nD a g).1 (nD a g).2.1).trans e
   refine q H2 off ⟨?_,?_,?_,⟨dx,d1,hb2,dr.mono sD fun _ g => .inr g⟩,⟨_,hl2,?_⟩,gd',?_,?_⟩
   ·rintro x (g | g)
    ·rw [off x (fun z=>B.nb (z ▸ g)) (fun z=>B.nl (z ▸ g))]; exact B.live x g
    ·rw [off x (nD x g).1 (nD x g).2.1]; exact (nD x g).2.2
   ·rintro (g | g)
    ·exact B.nb g
    ·exact (nD b g).1 rfl
   ·rintro (g | g)
    ·exact B.nl g
    ·exact (nD l g).2.1 rfl
   ·exact Paired.snoc (Paired.mono (fun _ _ ⟨d,e,r⟩=>⟨d,e,r.mono sG fun _ g => .inl g⟩) pr) ⟨d,rfl,dr0.mono sG fun _ g => .inl g⟩
   ·intro p hp
    rcases List.mem_append.mp hp with z | z
    ·exact B.goods p z
    ·rw [List.mem_singleton.mp z]; exact B.good
   ·rw [List.length_append,List.length_singleton]; omega
noncomputable def sp_deeds (C:Addr):Sp:=fun vs H Q _=>∃ b l G cs past,vs = [.ref b]/\Bk C G H b l cs past/\Q (.int (past.length:Int)) H
theorem zbX:FnScope ["self"] ["self"] (defScope s_Book_deeds):=⟨rfl,rfl,rfl,by decide +kernel,rfl,by decide +kernel,by decide +kernel⟩
theorem ok_deeds {C:Addr} (D:MethAt K C "Book" "deeds" s_Book_deeds) (T:Bn mg) (BA:BookAt K C):Method P w K mg base C "deeds" CX0 1 ["self"] (sp_deeds C):=by
 refine D.meth0 zbX (fun _ _ _ _ _ _=>ln1 fun _=>rfl) (fun vs H Q E h => ?_) (fun f cdv A outer s H vs Q E hr h => ?_)
 ·obtain ⟨b,l,G,cs,past,rfl,_⟩:=h
  rfl
 ·obtain ⟨b,l,G,cs,past,rfl,B,q⟩:=h
  have S:=zbX
  obtain ⟨dx,d,hb,dr0⟩:=B.ins
  obtain ⟨vs,hl,pr⟩:=B.lst
  refine ⟨_,zad (zaq (zai zao rfl T.n_len PySem.boot_len (zaa (zaU (pv 0) rfl) zab))),?_⟩
  refine ⟨_,rfl,_,_,_,_,_,rfl,hb,BA.cls,BA.np,zbR,_,_,rfl,.inl (SqL.of hl),?_⟩
  rw [pr.length]
  exact q
noncomputable def sp_names (C:Addr):Sp:=fun vs H Q _=>∃ b l G cs past,vs = [.ref b]/\Bk C G H b l cs past/\∀ p (nm:List Str),H p=none->nm.Perm (cs.map (·.1))->sortedS nm=true->Q (.ref p) (upd H p (.lst (nm.map V.str)))
theorem zbW:FnScope ["self"] ["self"] (defScope s_Book_names):=⟨rfl,rfl,rfl,by decide +kernel,rfl,by decide +kernel,by decide +kernel⟩
theorem ok_names {C:Addr} (D:MethAt K C "Book" "names" s_Book_names) (T:Bn mg) (BA:BookAt K C):Method P w K mg base C "names" CX0 1 ["self"] (sp_names C):=by
 refine D.meth0 zbW (fun _ _ _ _ _ _=>ln1 fun _=>rfl) (fun vs H Q E h => ?_) (fun f cdv A outer s H vs Q E hr h => ?_)
 ·obtain ⟨b,l,G,cs,past,rfl,_⟩:=h
  rfl
 ·obtain ⟨b,l,G,cs,past,rfl,B,q⟩:=h
  have S:=zbW
  obtain ⟨dx,d,hb,gd,kvs,hd,kr⟩:=B.ins
  refine ⟨_,zad (zaq (zai (zbH rfl) rfl T.n_sorted boot_sorted (zaa (zaU (pv 0) rfl) zab))),?_⟩
  refine ⟨_,rfl,_,_,_,_,_,rfl,hb,BA.cls,BA.nc,zaQ,d,kvs,cs.map (·.1),rfl,.inl hd,kr.keys,?_,q⟩
  rw [List.length_map]
  have:=B.good.len
  omega
noncomputable def sp_bteeth (ea:Nat->Addr) (C:Addr):Sp:=fun vs H Q E=>∃ b l G cs past x,vs = [.ref b,.str x]/\Bk C G H b l cs past/\(match cGet cs x with | some ts=>∀ p,H p=none->Q (.ref p) (upd H p (.lst (ts.map V.int))) | none=>E (.ref (ea 4)) none H)
theorem zbV:FnScope ["self","name"] ["self","name"] (defScope s_Book_teeth):=⟨rfl,rfl,rfl,by decide +kernel,rfl,by decide +kernel,by decide +kernel⟩
theorem ok_bteeth {ea:Nat->Addr} {C:Addr} (D:MethAt K C "Book" "teeth" s_Book_teeth) (T:Bn mg) (BA:BookAt K C) (M_check_comb:Method P w K mg base C "check_comb" (CX1 P w) 1 ["self","name"] (sp_check ea C)):Method P w K mg base C "teeth" (CX1 P w) 2 ["self","name"] (sp_bteeth ea C):=by
 refine D.meth1 zbV (fun _ _ _ _ _ _=>ln2 fun _ _=>rfl) (fun vs H Q E h => ?_) (fun f cdv A outer s H vs Q E hr h => ?_)
 ·obtain ⟨b,l,G,cs,past,x,rfl,_⟩:=h
  rfl
 ·obtain ⟨b,l,G,cs,past,x,rfl,B,q⟩:=h
  have S:=zbV
  have hu:=zb7 hr
  have B_cls:=BA.cls
  obtain ⟨dx,d,hb,gd,kvs,hd,kr⟩:=id B.ins
  refine ⟨_,zag (zav (zbC (pv 0) B_cls M_check_comb (hr.mono (by decide)) (by first | exact zba | exact zap | exact zaK | exact zar) (zaa (pv 1) zab)))
  (zad (zaq (zaP zcd rfl T.n_list boot_list (zaa (zbD hu (zaU (pv 0) rfl) (pv 1) (fun _ _=>rfl)) zab)))),?_⟩
  refine ⟨_,rfl,_,_,_,rfl,hb,rfl,_,rfl,b,l,G,cs,past,x,rfl,B,?_⟩
  rcases kr.val (x:=x) with ⟨e1,e2⟩ | ⟨ts,t,e1,e2,e3,e4⟩
  ·rw [e1] at q ⊢
   exact q
  ·rw [e1] at q ⊢
   refine iteT ?_
   refine ⟨_,rfl,_,_,_,_,_,rfl,hb,BA.cls,BA.nc,zaQ,_,rfl,d,_,rfl,?_,_,_,rfl,.inl (SqL.of e3),q⟩
   rw [<- e2]
   exact DGet.k (k:=Sum.inr x) hd
noncomputable def sp_init (C:Addr):Sp:=fun vs H Q _=>∃ b dx,vs = [.ref b]/\H b=some (.ins C dx [])/\∀ H' l d,Mv b b (fun _=>False) (fun a=>a=d) H H'->H l=none->H d=none->Bk C (fun a=>a=d) H' b l [] []->Q .non H'
theorem zbv:FnScope ["self"] ["self"] (defScope s_Book___init__):=⟨rfl,rfl,rfl,by decide +kernel,rfl,by decide +kernel,by decide +kernel⟩
theorem ok_init {C:Addr} {f:Addr} {fd:FuncData} (F:Fun K "__init__" "Book.__init__" s_Book___init__ f fd) (T:Bn mg) (BA:BookAt K C):FnOk P w K mg base CX0 1 f fd ["self"] (sp_init C):=by
 refine F.ok zbv (fun vs H Q E h => ?_) (fun cdv A outer s H vs Q E hr h => ?_)
 ·obtain ⟨b,dx,rfl,_⟩:=h
  rfl
 ·obtain ⟨b,dx,rfl,hb,q⟩:=h
  have S:=zbv
  refine ⟨_,zag (zdT (pv 0) (zdX) rfl)
  (zad (zdT (pv 0) (zaT (zab)) rfl)),?_⟩
  refine fun d nd => ?_
  have hbd:b≠d:=zas hb nd
  have hb1:upd H d (.dK []) b=some (.ins C dx []):=by rw [zal hbd]; exact hb
  refine ⟨_,rfl,_,_,_,_,rfl,hb1,BA.cls,BA.nc,by decide,?_⟩
  rw [putF_new]
  refine ⟨bigr rfl,fun l nl => ?_⟩
  have hbl:b≠l:=fun z=>by rw [<- z,zaf] at nl; cases nl
  have nl1:upd H d (.dK []) l=none:=by rw [zal (Ne.symm hbl)] at nl; exact nl
  have hdl:d≠l:=fun z=>by rw [<- z,zaf] at nl1; cases nl1
  have hln:H l=none:=by rw [zal (Ne.symm hdl)] at nl1; exact nl1
  have hb2:upd (upd (upd H d (.dK [])) b (.ins C dx [(Str.ofString "combs",V.ref d)])) l (.lst []) b=some (.ins C dx [("combs",.ref d)]):=by rw [zal hbl,zaf]
  refine ⟨_,rfl,_,_,_,_,rfl,hb2,BA.cls,BA.np,(show 1 < 1000 by decide),?_⟩
  rw [putF_past]
  have hb3:upd (upd (upd (upd H d (.dK [])) b (.ins C dx [(Str.ofString "combs",V.ref d)])) l (.lst [])) b (.ins C dx [(Str.ofString "combs",V.ref d),(Str.ofString "past",V.ref l)]) b=some (.ins C dx [("combs",.ref d),("past",.ref l)]):=zaf
  have hd3:upd (upd (upd (upd H d (.dK [])) b (.ins C dx [(Str.ofString "combs",V.ref d)])) l (.lst [])) b (.ins C dx [(Str.ofString "combs",V.ref d),(Str.ofString "past",V.ref l)]) d=some (.dK []):=by
   rw [zal (Ne.symm hbd),zal hdl,zal (Ne.symm hbd),zaf]
  have hl3:upd (upd (upd (upd H d (.dK [])) b (.ins C dx [(Str.ofString "combs",V.ref d)])) l (.lst [])) b (.ins C dx [(Str.ofString "combs",V.ref d),(Str.ofString "past",V.ref l)]) l=some (.lst []):=by
   rw [zal (Ne.symm hbl),zaf]
  have off:∀ a o,H a=some o->a≠b->upd (upd (upd (upd H d (.dK [])) b (.ins C dx [(Str.ofString "combs",V.ref d)])) l (.lst [])) b (.ins C dx [(Str.ofString "combs",V.ref d),(Str.ofString "past",V.ref l)]) a=some o:=fun a o e n=>by
   rw [zal n,zal (zas e hln),zal n,zal (zas e nd)]; exact e
  generalize upd (upd (upd (upd H d (.dK [])) b (.ins C dx [(Str.ofString "combs",V.ref d)])) l (.lst [])) b (.ins C dx [(Str.ofString "combs",V.ref d),(Str.ofString "past",V.ref l)])=H3 at hb3 hd3 hl3 off
  refine q H3 l d ⟨fun a o e n _=>off a o e n,fun a h => ?_,fun a g => .inr (by rw [g]; exact nd)⟩ hln nd ⟨fun x g => ?_,hbd,fun z=>hdl z.symm,⟨dx,d,hb3,rfl,[],hd3,.nil⟩,⟨[],hl3,.nil⟩,good_nil,by simp,by decide⟩
  ·by_cases z:a=b
   ·rw [z,hb3]; simp
   ·cases e:H a with
    | none=>exact absurd e h
    | some o=>rw [off a o e z]; simp
  ·rw [show x=d from g,hd3]; simp
noncomputable def sp_set (ea:Nat->Addr) (C:Addr):Sp:=fun vs H Q E=>∃ b l G cs past x a ts,vs = [.ref b,.str x,.ref a]/\Bk C G H b l cs past/\SqL K H a (ts.map V.int)/\areTeeth ts=true/\isName x=true/\(cs.length < 8\/(cGet cs x).isSome=true)/\Deed ea C G H b l cs past Q E (full past (cPut cs x (canon ts)))
theorem zbu:FnScope ["self","name","teeth","combs"] ["self","name","teeth"] (defScope s_Book_set_comb):=⟨rfl,rfl,rfl,by decide +kernel,rfl,by decide +kernel,by decide +kernel⟩
theorem ok_set {ea:Nat->Addr} {C:Addr} (D:MethAt K C "Book" "set_comb" s_Book_set_comb) (T:Bn mg) (BA:BookAt K C) (M_do_deed:Method P w K mg base C "do_deed" (CX1 P w) 1 ["self","combs"] (sp_do ea C)):Method P w K mg base C "set_comb" (CX1 P w) 2 ["self","name","teeth"] (sp_set (K:=K) ea C):=by
 refine D.meth1 zbu (fun _ _ _ _ _ _=>ln3 fun _ _ _=>rfl) (fun vs H Q E h => ?_) (fun f cdv A outer s H vs Q E hr h => ?_)
 ·obtain ⟨b,l,G,cs,past,x,a,ts,rfl,_⟩:=h
  rfl
 ·obtain ⟨b,l,G,cs,past,x,a,ts,rfl,B,ha,ht,hx,hn,q⟩:=h
  have S:=zbu
  have hu:=zb7 hr
  have B_cls:=BA.cls
  obtain ⟨t0,tn,tr⟩:=teeth_iff.mp ht
  obtain ⟨dx,d,hb,gd,kvs,hd,kr⟩:=id B.ins
  refine ⟨_,zag (za0 (i:=3) S.nd rfl (Or.inl rfl) (zaP zb8 rfl T.n_dict boot_dict (zaa (zaU (pv 0) rfl) zab)))
  (zag (zc1 hu (pv 3) (pv 1) (zai zbG rfl T.n_sorted boot_sorted (zaa (pv 2) zab)) rfl)
  (zad (zaq (zbC (pv 0) B_cls M_do_deed (hr.mono (by decide)) (by first | exact zba | exact zap | exact zaK | exact zar) (zaa (pv 3) zab))))),?_⟩
  refine ⟨_,rfl,_,_,_,_,_,rfl,hb,BA.cls,BA.nc,zaQ,d,kvs,rfl,.inl hd,fun p np => ?_⟩
  have s1:Same H (upd H p (.dK kvs)):=Same.new np
  refine ⟨_,rfl,a,ts,rfl,s1.seq ha,?_,fun r ns nr hp hs => ?_⟩
  ·have:=zc8 tn tr
   omega
  have hc:=zcn hp hs tn tr
  subst hc
  have npr:p≠r:=fun z=>by rw [<- z,zaf] at nr; cases nr
  have hr0:H r=none:=s1.free nr
  have s2:Same H (upd (upd H p (.dK kvs)) r (.lst ((canon ts).map V.int))):=s1.put hr0
  have hp2:upd (upd H p (.dK kvs)) r (.lst ((canon ts).map V.int)) p=some (.dK kvs):=by rw [zal npr,zaf]
  have hkl:kvs.length < sizeLine:=by
   have:=kr.length
   have:=B.good.len
   exact Nat.lt_of_lt_of_le (by omega:kvs.length < 1000) zbx
  refine ⟨_,rfl,_,rfl,p,_,rfl,DPut.k (k:=Sum.inr x) hp2 hkl,?_⟩
  have s3:Same H (upd (upd (upd H p (.dK kvs)) r (.lst ((canon ts).map V.int))) p (.dK (putK kvs (Sum.inr x) (.ref r)))):=s2.put np
  have hr3:upd (upd (upd H p (.dK kvs)) r (.lst ((canon ts).map V.int))) p (.dK (putK kvs (Sum.inr x) (.ref r))) r=some (.lst ((canon ts).map V.int)):=by rw [zal (Ne.symm npr),zaf]
  have hp3:upd (upd (upd H p (.dK kvs)) r (.lst ((canon ts).map V.int))) p (.dK (putK kvs (Sum.inr x) (.ref r))) p=some (.dK (putK kvs (Sum.inr x) (.ref r))):=zaf
  generalize upd (upd (upd H p (.dK kvs)) r (.lst ((canon ts).map V.int))) p (.dK (putK kvs (Sum.inr x) (.ref r)))=H3 at s3 hr3 hp3
  have B3:=B.same s3
  obtain ⟨lb,ll⟩:=B.liveB
  refine ⟨_,rfl,b,dx,_,rfl,s3 _ _ hb,rfl,_,rfl,b,l,G,cs,past,p,fun a=>G a\/a=p\/a=r,cPut cs x (canon ts),rfl,B3,⟨.inr (.inl rfl),_,hp3,?_⟩,B.good.put hx (gt_canon t0) hn,?_,?_⟩
  ·exact (kr.mono (fun a o _ e=>s3 a o e) fun _ g => .inl g).put hr3 (.inr (.inr rfl))
  ·rintro y (g | g | g)
   ·exact ⟨fun z=>B.nb (z ▸ g),fun z=>B.nl (z ▸ g),B3.live y g⟩
   ·subst g
    exact ⟨fun z=>lb (z ▸ np),fun z=>ll (z ▸ np),by rw [hp3]; simp⟩
   ·subst g
    exact ⟨fun z=>lb (z ▸ hr0),fun z=>ll (z ▸ hr0),by rw [hr3]; simp⟩
  ·unfold full at q
   by_cases h3:300<=past.length
   ·rw [if_pos h3] at q ⊢
    exact q H3 s3
   ·rw [if_neg h3] at q ⊢
    intro H4 off B4
    refine q H4 _ ⟨fun a o e n1 n2=>(off a n1 n2).trans (s3 a o e),fun a h => ?_,fun a g => ?_⟩ B4
    ·obtain ⟨lb4,ll4⟩:=B4.liveB
     by_cases z:a=b
     ·rw [z]; exact lb4
     ·by_cases z2:a=l
      ·rw [z2]; exact ll4
      ·rw [off a z z2]; exact zcx s3 a h
    ·rcases g with g | g | g | g
     ·exact .inl g
     ·exact .inl g
     ·rw [g]; exact .inr np
     ·rw [g]; exact .inr hr0
noncomputable def sp_put (ea:Nat->Addr) (C:Addr):Sp:=fun vs H Q E=>∃ b l G cs past x a ts,vs = [.ref b,.str x,.ref a]/\Bk C G H b l cs past/\SqL K H a (ts.map V.int)/\x.length<=sizeLine/\ts.length<=1000/\Deed ea C G H b l cs past Q E (putD cs past x ts)
theorem zcp:FnScope ["self","name","teeth"] ["self","name","teeth"] (defScope s_Book_put):=⟨rfl,rfl,rfl,by decide +kernel,rfl,by decide +kernel,by decide +kernel⟩
theorem ok_put {ea:Nat->Addr} {C:Addr} (D:MethAt K C "Book" "put" s_Book_put) (T:Bn mg) (BA:BookAt K C) (V_MOST_COMBS:∃ t,mg "MOST_COMBS" = some (.int 8 t)) (O_BadName:Err K mg "BadName" (ea 0)) (O_BadTeeth:Err K mg "BadTeeth" (ea 1)) (O_NameTaken:Err K mg "NameTaken" (ea 2)) (O_BookFull:Err K mg "BookFull" (ea 3))
  (C_is_name:Callee P w K mg base "is_name" 2 ["text"] sp_name) (C_are_teeth:Callee P w K mg base "are_teeth" 1 ["teeth"] (sp_teeth K)) (M_set_comb:Method P w K mg base C "set_comb" (CX1 P w) 2 ["self","name","teeth"] (sp_set (K:=K) ea C)):Method P w K mg base C "put" (CX1 P w) 3 ["self","name","teeth"] (sp_put (K:=K) ea C):=by
 refine D.meth1 zcp (fun _ _ _ _ _ _=>ln3 fun _ _ _=>rfl) (fun vs H Q E h => ?_) (fun f cdv A outer s H vs Q E hr h => ?_)
 ·obtain ⟨b,l,G,cs,past,x,a,ts,rfl,_⟩:=h
  rfl
 ·obtain ⟨b,l,G,cs,past,x,a,ts,rfl,B,ha,hxl,htl,q⟩:=h
  have S:=zcp
  have hu:=zb7 hr
  have B_cls:=BA.cls
  unfold putD at q
  refine ⟨_,zag (zat (zaJ (zaX (za1 C_is_name (hr.mono (by decide)) rfl (zaa (pv 1) zab))))
   (zad (zaE O_BadName rfl (zaa (zah) zab)))
   (zaj))
  (zag (zat (zaJ (zaX (za1 C_are_teeth (hr.mono (by decide)) rfl (zaa (pv 2) zab))))
   (zad (zaE O_BadTeeth rfl (zaa (zah) zab)))
   (zaj))
  (zag (zat (zdS (zeW hu (pv 1) (zaU (pv 0) rfl)))
   (zad (zaE O_NameTaken rfl (zaa (zah) zab)))
   (zaj))
  (zag (zat (zak zfd (zai zdt rfl T.n_len PySem.boot_len (zaa (zaU (pv 0) rfl) zab)) (za2 rfl V_MOST_COMBS) (zan _))
   (zad (zaE O_BookFull rfl (zaa (zah) zab)))
   (zaj))
  (zad (zaq (zbC (pv 0) B_cls M_set_comb (hr.mono (by decide)) (by first | exact zba | exact zap | exact zaK | exact zar) (zaa (pv 1) (zaa (pv 2) zab)))))))),?_⟩
  refine ⟨_,rfl,x,rfl,hxl,fun H1 s1=>⟨_,rfl,?_⟩⟩
  cases e1:isName x with
  | false =>
   rw [e1,if_pos rfl] at q
   exact iteT ⟨bigr rfl,q H1 s1⟩
  | true =>
   rw [e1,if_neg (by decide)] at q
   refine iteF ?_
   refine ⟨_,rfl,a,ts,rfl,s1.seq ha,htl,fun H2 s2=>⟨_,rfl,?_⟩⟩
   have s12:=s1.trans s2
   cases e2:areTeeth ts with
   | false =>
    rw [e2,if_pos rfl] at q
    exact iteT ⟨bigr rfl,q H2 s12⟩
   | true =>
    rw [e2,if_neg (by decide)] at q
    refine iteF ?_
    have B2:=B.same s12
    obtain ⟨dx,d,hb,gd,kvs,hd,kr⟩:=id B2.ins
    refine ⟨_,rfl,_,rfl,_,_,_,_,_,rfl,hb,BA.cls,BA.nc,zaQ,d,_,rfl,DGet.k (k:=Sum.inr x) hd,_,rfl,?_⟩
    rw [kr.some]
    cases e3:(cGet cs x).isSome with
    | true =>
     rw [e3,if_pos rfl] at q
     exact iteT ⟨bigr rfl,q H2 s12⟩
    | false =>
     rw [e3,if_neg (by decide)] at q
     refine iteF ?_
     refine ⟨_,rfl,_,_,_,_,_,rfl,hb,BA.cls,BA.nc,zaQ,_,_,rfl,hd,_,_,rfl,rfl,_,rfl,?_⟩
     rw [kr.length]
     refine ite2 (fun hc => ?_) (fun hc => ?_)
     ·have h8:8<=cs.length:=by
       have:(8:Int)<=(cs.length:Int):=by simpa using hc
       omega
      rw [if_pos h8] at q
      exact ⟨bigr rfl,q H2 s12⟩
     ·have h8:¬ 8<=cs.length:=by
       have:¬ (8:Int)<=(cs.length:Int):=by simpa using hc
       omega
      rw [if_neg h8] at q
      exact ⟨_,rfl,b,dx,_,rfl,hb,rfl,_,rfl,_,rfl,b,l,G,cs,past,x,a,ts,rfl,B2,s12.seq ha,e2,e1,.inl (by omega),q.from s12⟩
noncomputable def sp_bdrop (ea:Nat->Addr) (C:Addr):Sp:=fun vs H Q E=>∃ b l G cs past x,vs = [.ref b,.str x]/\Bk C G H b l cs past/\Deed ea C G H b l cs past Q E (dropD cs past x)
theorem zcc:FnScope ["self","name","combs"] ["self","name"] (defScope s_Book_drop):=⟨rfl,rfl,rfl,by decide +kernel,rfl,by decide +kernel,by decide +kernel⟩
theorem ok_bdrop {ea:Nat->Addr} {C:Addr} (D:MethAt K C "Book" "drop" s_Book_drop) (T:Bn mg) (BA:BookAt K C) (M_check_comb:Method P w K mg base C "check_comb" (CX1 P w) 1 ["self","name"] (sp_check ea C)) (M_do_deed:Method P w K mg base C "do_deed" (CX1 P w) 1 ["self","combs"] (sp_do ea C)) :
  Method P w K mg base C "drop" (CX1 P w) 2 ["self","name"] (sp_bdrop ea C):=by
 refine D.meth1 zcc (fun _ _ _ _ _ _=>ln2 fun _ _=>rfl) (fun vs H Q E h => ?_) (fun f cdv A outer s H vs Q E hr h => ?_)
 ·obtain ⟨b,l,G,cs,past,x,rfl,_⟩:=h
  rfl
 ·obtain ⟨b,l,G,cs,past,x,rfl,B,q⟩:=h
  have S:=zcc
  have hu:=zb7 hr
  have B_cls:=BA.cls
  obtain ⟨dx,d,hb,gd,kvs,hd,kr⟩:=id B.ins
  unfold dropD at q
  refine ⟨_,zag (zav (zbC (pv 0) B_cls M_check_comb (hr.mono (by decide)) (by first | exact zba | exact zap | exact zaK | exact zar) (zaa (pv 1) zab)))
  (zag (za0 (i:=2) S.nd rfl (Or.inl rfl) (zaP zb8 rfl T.n_dict boot_dict (zaa (zaU (pv 0) rfl) zab)))
  (zag (zav (zdW (pv 2) (pv 1) ⟨rfl,rfl,rfl,rfl⟩))
  (zad (zaq (zbC (pv 0) B_cls M_do_deed (hr.mono (by decide)) (by first | exact zba | exact zap | exact zaK | exact zar) (zaa (pv 2) zab)))))),?_⟩
  refine ⟨_,rfl,_,_,_,rfl,hb,rfl,_,rfl,b,l,G,cs,past,x,rfl,B,?_⟩
  rcases kr.val (x:=x) with ⟨e1,e2⟩ | ⟨ts,t,e1,e2,e3,e4⟩
  ·rw [e1] at q ⊢
   exact q H (Same.refl H)
  ·rw [e1] at q ⊢
   refine iteT ?_
   have q:Deed ea C G H b l cs past Q E (full past (cDrop cs x)):=q
   refine ⟨_,rfl,_,_,_,_,_,rfl,hb,BA.cls,BA.nc,zaQ,d,kvs,rfl,.inl hd,fun p np => ?_⟩
   have hp1:upd H p (.dK kvs) p=some (.dK kvs):=zaf
   refine ⟨_,rfl,p,rfl,.inl ⟨kvs,.inl hp1⟩,_,rfl,kvs,Sum.inr x,_,hp1,rfl,e2,?_⟩
   rw [upd_upd]
   have s3:Same H (upd H p (.dK (dropK kvs (Sum.inr x)))):=Same.new np
   have hp3:upd H p (.dK (dropK kvs (Sum.inr x))) p=some (.dK (dropK kvs (Sum.inr x))):=zaf
   generalize upd H p (.dK (dropK kvs (Sum.inr x)))=H3 at s3 hp3
   have B3:=B.same s3
   obtain ⟨lb,ll⟩:=B.liveB
   refine ⟨_,rfl,b,dx,_,rfl,s3 _ _ hb,rfl,_,rfl,b,l,G,cs,past,p,fun a=>G a\/a=p,cDrop cs x,rfl,B3,⟨.inr rfl,_,hp3,?_⟩,B.good.drop,?_,?_⟩
   ·exact (kr.mono (fun a o _ e=>s3 a o e) fun _ g => .inl g).drop
   ·rintro y (g | g)
    ·exact ⟨fun z=>B.nb (z ▸ g),fun z=>B.nl (z ▸ g),B3.live y g⟩
    ·subst g
     exact ⟨fun z=>lb (z ▸ np),fun z=>ll (z ▸ np),by rw [hp3]; simp⟩
   ·unfold full at q
    by_cases h3:300<=past.length
    ·rw [if_pos h3] at q ⊢
     exact q H3 s3
    ·rw [if_neg h3] at q ⊢
     intro H4 off B4
     refine q H4 _ ⟨fun a o e n1 n2=>(off a n1 n2).trans (s3 a o e),fun a h => ?_,fun a g => ?_⟩ B4
     ·obtain ⟨lb4,ll4⟩:=B4.liveB
      by_cases z:a=b
      ·rw [z]; exact lb4
      ·by_cases z2:a=l
       ·rw [z2]; exact ll4
       ·rw [off a z z2]; exact zcx s3 a h
     ·rcases g with g | g | g
      ·exact .inl g
      ·exact .inl g
      ·rw [g]; exact .inr np
theorem zd7 (t:Int) (ts:List Int):inV (V.int t) (ts.map V.int)=decide (t∈ts):=by
 unfold inV
 rw [List.any_map,Bool.eq_iff_iff,List.any_eq_true,decide_eq_true_eq]
 constructor
 ·rintro ⟨x,hx,e⟩
  have:x=t:=by
   have e':(x == t)=true:=e
   exact eq_of_beq e'
  rw [<- this]; exact hx
 ·intro h
  exact ⟨t,h,beq_self_eq_true t⟩
noncomputable def sp_ctooth (ea:Nat->Addr):Sp:=fun vs H Q E=>∃ t:Int,vs = [.int t]/\(if inR t=true then Q .non H else E (.ref (ea 5)) none H)
theorem zbM:FnScope ["tooth"] ["tooth"] (defScope s_check_tooth):=⟨rfl,rfl,rfl,by decide +kernel,rfl,by decide +kernel,by decide +kernel⟩
theorem ok_ctooth {ea:Nat->Addr} (D:DefAt K mg "check_tooth" s_check_tooth) (T:Bn mg) (V_MOST_TOOTH:∃ t,mg "MOST_TOOTH" = some (.int 7 t)) (O_BadTooth:Err K mg "BadTooth" (ea 5)):Callee1 P w K mg base "check_tooth" 1 ["tooth"] (sp_ctooth ea):=by
 refine D.callee1 zbM (fun _ _ _ _ _ _=>ln1 fun _=>rfl) (fun vs H Q E h => ?_) (fun f cdv A outer s H vs Q E hr h => ?_)
 ·obtain ⟨t,rfl,_⟩:=h
  rfl
 ·obtain ⟨t,rfl,q⟩:=h
  have S:=zbM
  refine ⟨_,zad (zat (zaJ (zbf zbo zbo (zac) (pv 0) (za2 rfl V_MOST_TOOTH)))
   (zad (zaE O_BadTooth rfl (zaa (zah) zab)))
   (zaj)),?_⟩
  refine ⟨_,rfl,_,_,rfl,rfl,_,rfl,?_⟩
  refine ite2 (fun h1 => ?_) (fun h1 => ?_)
  ·have h1:(0:Int)<=t:=by simpa using h1
   refine ⟨_,_,rfl,rfl,_,rfl,?_⟩
   by_cases h2:t<=7
   ·rw [if_pos (inR_iff.mpr ⟨h1,h2⟩)] at q
    rw [decide_eq_true h2]
    exact iteF q
   ·rw [if_neg (fun z=>h2 (inR_iff.mp z).2)] at q
    rw [decide_eq_false h2]
    exact iteT ⟨bigr rfl,q⟩
  ·have h1:¬ (0:Int)<=t:=by simpa using h1
   rw [if_neg (fun z=>h1 (inR_iff.mp z).1)] at q
   exact ⟨_,rfl,iteT ⟨bigr rfl,q⟩⟩
theorem zcI {ts:List Int} {t:Int} (h:GT ts) (hr:inR t=true) (hn:t ∉ ts):areTeeth (ts ++ [t])=true:=by
 refine teeth_iff.mpr ⟨List.mem_append_left _ (zdE h),?_,fun u hu => ?_⟩
 ·exact zdC (zch (zeO h)) hn
 ·rcases List.mem_append.mp hu with z | z
  ·exact ze8 h u z
  ·rw [List.mem_singleton.mp z]; exact inR_iff.mp hr
noncomputable def sp_badd (ea:Nat->Addr) (C:Addr):Sp:=fun vs H Q E=>∃ b l G cs past x t,vs = [.ref b,.str x,.int t]/\Bk C G H b l cs past/\Deed ea C G H b l cs past Q E (addD cs past x t)
theorem zbn:FnScope ["self","name","tooth"] ["self","name","tooth"] (defScope s_Book_add_tooth):=⟨rfl,rfl,rfl,by decide +kernel,rfl,by decide +kernel,by decide +kernel⟩
theorem ok_badd {ea:Nat->Addr} {C:Addr} (D:MethAt K C "Book" "add_tooth" s_Book_add_tooth) (T:Bn mg) (BA:BookAt K C) (O_ToothThere:Err K mg "ToothThere" (ea 6)) (M_check_comb:Method P w K mg base C "check_comb" (CX1 P w) 1 ["self","name"] (sp_check ea C))
  (C_check_tooth:Callee1 P w K mg base "check_tooth" 1 ["tooth"] (sp_ctooth ea)) (M_set_comb:Method P w K mg base C "set_comb" (CX1 P w) 2 ["self","name","teeth"] (sp_set (K:=K) ea C)):Method P w K mg base C "add_tooth" (CX1 P w) 3 ["self","name","tooth"] (sp_badd ea C):=by
 refine D.meth1 zbn (fun _ _ _ _ _ _=>ln3 fun _ _ _=>rfl) (fun vs H Q E h => ?_) (fun f cdv A outer s H vs Q E hr h => ?_)
 ·obtain ⟨b,l,G,cs,past,x,t,rfl,_⟩:=h
  rfl
 ·obtain ⟨b,l,G,cs,past,x,t,rfl,B,q⟩:=h
  have S:=zbn
  have hu:=zb7 hr
  have B_cls:=BA.cls
  obtain ⟨dx,d,hb,gd,kvs,hd,kr⟩:=id B.ins
  unfold addD at q
  refine ⟨_,zag (zav (zbC (pv 0) B_cls M_check_comb (hr.mono (by decide)) (by first | exact zba | exact zap | exact zaK | exact zar) (zaa (pv 1) zab)))
  (zag (zav (za6 C_check_tooth (hr.mono (by decide)) (by first | exact zap | exact zaK | exact zar) rfl (zaa (pv 2) zab)))
  (zag (zat (zak zbY (pv 2) (zbD hu (zaU (pv 0) rfl) (pv 1) (fun _ _=>rfl)) (by with_unfolding_all rfl))
   (zad (zaE O_ToothThere rfl (zaa (zah) zab)))
   (zaj))
  (zad (zaq (zbC (pv 0) B_cls M_set_comb (hr.mono (by decide)) (by first | exact zba | exact zap | exact zaK | exact zar) (zaa (pv 1) (zaa (zaw zbg (zbD hu (zaU (pv 0) rfl) (pv 1) (fun _ _=>rfl)) (zaT (zaa (pv 2) zab))) zab))))))),?_⟩
  refine ⟨_,rfl,_,_,_,rfl,hb,rfl,_,rfl,b,l,G,cs,past,x,rfl,B,?_⟩
  rcases kr.val (x:=x) with ⟨e1,e2⟩ | ⟨ts,a,e1,e2,e3,e4⟩
  ·rw [e1] at q ⊢
   exact q H (Same.refl H)
  ·rw [e1] at q ⊢
   refine iteT ?_
   have gx:=B.good.ok _ (zbj e1)
   have dg:DGet H d (kV (Sum.inr x)) (some (.ref a)):=by rw [<- e2]; exact DGet.k hd
   dsimp only at q
   refine ⟨_,rfl,t,rfl,?_⟩
   cases hr5:inR t with
   | false =>
    rw [hr5,if_pos rfl] at q
    exact iteF (q H (Same.refl H))
   | true =>
    rw [hr5,if_neg (by decide)] at q
    refine iteT ?_
    refine ⟨_,rfl,_,rfl,_,_,_,_,_,rfl,hb,BA.cls,BA.nc,zaQ,_,rfl,d,_,rfl,dg,_,_,rfl,.inl (SqL.of e3),rfl,zdH ts,_,rfl,?_⟩
    rw [if_neg (by decide),zd7]
    by_cases ht:t∈ts
    ·rw [if_pos ht] at q
     rw [decide_eq_true ht]
     exact iteT ⟨bigr rfl,q H (Same.refl H)⟩
    ·rw [if_neg ht] at q
     rw [decide_eq_false ht]
     refine iteF ?_
     refine ⟨_,rfl,b,dx,_,rfl,hb,rfl,_,rfl,_,rfl,_,_,_,_,_,rfl,hb,BA.cls,BA.nc,zaQ,_,rfl,d,_,rfl,dg,_,rfl,bigr rfl,fun p np => ?_⟩
     have s1:Same H (upd H p (.lst [V.int t])):=Same.new np
     have hlen:=zdo gx.2
     refine ⟨a,p,_,_,rfl,rfl,s1 _ _ e3,zaf,?_,fun p2 np2 => ?_⟩
     ·rw [List.length_map]
      exact big (by show ts.length + 1<=1000; have e:ts.length<=8:=hlen; omega)
     have s2:Same H (upd (upd H p (.lst [V.int t])) p2 (.lst (ts.map V.int ++ [V.int t]))):=s1.put (s1.free np2)
     refine ⟨b,l,G,cs,past,x,p2,ts ++ [t],rfl,B.same s2,SqL.of ?_,zcI gx.2 hr5 ht,gx.1,.inr (by rw [e1]; rfl),q.from s2⟩
     rw [zaf,List.map_append]
     rfl
theorem gt_filter {ts:List Int} {t:Int} (h:GT ts) (h0:t≠0):GT (ts.filter fun u=>decide (u≠t)):=by
 obtain ⟨f,rfl,hf⟩:=h
 refine ⟨fun i=>f i && decide (((i:Nat):Int)≠t),?_,?_⟩
 ·rw [List.filter_map,List.filter_filter]
  congr 1
  apply List.filter_congr
  intro i _
  show (decide (((i:Nat):Int)≠t) && f i)=_
  rw [Bool.and_comm]
 ·show (f 0 && decide (((0:Nat):Int)≠t))=true
  rw [hf,Bool.true_and]
  exact decide_eq_true (fun z=>h0 z.symm)
noncomputable def sp_boff (ea:Nat->Addr) (C:Addr):Sp:=fun vs H Q E=>∃ b l G cs past x t,vs = [.ref b,.str x,.int t]/\Bk C G H b l cs past/\Deed ea C G H b l cs past Q E (offD cs past x t)
noncomputable def neI (t:Int) (v:V):Bool:=match v with
 | .int u=>decide (u≠t)
 | _=>false
theorem zds (t:Int) (ts:List Int):((ts.map V.int).filter (neI t)).map (fun v=>v)=(ts.filter fun u=>decide (u≠t)).map V.int:=by
 rw [List.map_id',List.filter_map]
 rfl
theorem zbt:FnScope ["self","name","tooth"] ["self","name","tooth"] (defScope s_Book_take_off):=⟨rfl,rfl,rfl,by decide +kernel,rfl,by decide +kernel,by decide +kernel⟩
theorem ok_boff {ea:Nat->Addr} {C:Addr} (D:MethAt K C "Book" "take_off" s_Book_take_off) (T:Bn mg) (BA:BookAt K C) (O_FirstTooth:Err K mg "FirstTooth" (ea 7)) (O_ToothMissing:Err K mg "ToothMissing" (ea 8)) (M_check_comb:Method P w K mg base C "check_comb" (CX1 P w) 1 ["self","name"] (sp_check ea C))
  (C_check_tooth:Callee1 P w K mg base "check_tooth" 1 ["tooth"] (sp_ctooth ea)) (M_set_comb:Method P w K mg base C "set_comb" (CX1 P w) 2 ["self","name","teeth"] (sp_set (K:=K) ea C)):Method P w K mg base C "take_off" (CX1 P w) 3 ["self","name","tooth"] (sp_boff ea C):=by
 refine D.meth1 zbt (fun _ _ _ _ _ _=>ln3 fun _ _ _=>rfl) (fun vs H Q E h => ?_) (fun f cdv A outer s H vs Q E hr h => ?_)
 ·obtain ⟨b,l,G,cs,past,x,t,rfl,_⟩:=h
  rfl
 ·obtain ⟨b,l,G,cs,past,x,t,rfl,B,q⟩:=h
  have S:=zbt
  have hu:=zb7 hr
  have B_cls:=BA.cls
  obtain ⟨dx,d,hb,gd,kvs,hd,kr⟩:=id B.ins
  unfold offD at q
  refine ⟨_,zag (zav (zbC (pv 0) B_cls M_check_comb (hr.mono (by decide)) (by first | exact zba | exact zap | exact zaK | exact zar) (zaa (pv 1) zab)))
  (zag (zav (za6 C_check_tooth (hr.mono (by decide)) (by first | exact zap | exact zaK | exact zar) rfl (zaa (pv 2) zab)))
  (zag (zat (zak zaF (pv 2) (zac) (zan _))
   (zad (zaE O_FirstTooth rfl (zaa (zah) zab)))
   (zaj))
  (zag (zat (zak zbF (pv 2) (zbD hu (zaU (pv 0) rfl) (pv 1) (fun _ _=>rfl)) (by with_unfolding_all rfl))
   (zad (zaE O_ToothMissing rfl (zaa (zah) zab)))
   (zaj))
  (zad (zaq (zbC (pv 0) B_cls M_set_comb (hr.mono (by decide)) (by first | exact zba | exact zap | exact zaK | exact zar) (zaa (pv 1) (zaa (zb5 (own := ["other"]) (caps := [(2,"tooth")]) rfl ⟨rfl,rfl,rfl,rfl,⟨⟨rfl,rfl,.inl rfl⟩,trivial⟩⟩ (zb4 (zbD hu (zaU (pv 0) rfl) (pv 1) (fun _ _=>rfl))) (fun _ _ _ _ _ _=>zaC (i:=0) (zbq (by decide +kernel)) rfl (Or.inl rfl)) (fun _ _ _ _ _ _=>zb3 (zak zcF (pv 0) (pv 1) (zan _))) (fun _ _ _ _ _ _=>pv 0)) zab)))))))),?_⟩
  refine ⟨_,rfl,_,_,_,rfl,hb,rfl,_,rfl,b,l,G,cs,past,x,rfl,B,?_⟩
  rcases kr.val (x:=x) with ⟨e1,e2⟩ | ⟨ts,a,e1,e2,e3,e4⟩
  ·rw [e1] at q ⊢
   exact q H (Same.refl H)
  ·rw [e1] at q ⊢
   refine iteT ?_
   have gx:=B.good.ok _ (zbj e1)
   have dg:DGet H d (kV (Sum.inr x)) (some (.ref a)):=by rw [<- e2]; exact DGet.k hd
   dsimp only at q
   refine ⟨_,rfl,t,rfl,?_⟩
   cases hr5:inR t with
   | false =>
    rw [hr5,if_pos rfl] at q
    exact iteF (q H (Same.refl H))
   | true =>
    rw [hr5,if_neg (by decide)] at q
    refine iteT ?_
    refine ⟨_,rfl,rfl,_,rfl,?_⟩
    rw [zaR]
    by_cases h0:t=0
    ·rw [if_pos h0] at q
     rw [decide_eq_true h0]
     exact iteT ⟨bigr rfl,q H (Same.refl H)⟩
    ·rw [if_neg h0] at q
     rw [decide_eq_false h0]
     refine iteF ?_
     refine ⟨_,rfl,_,rfl,_,_,_,_,_,rfl,hb,BA.cls,BA.nc,zaQ,_,rfl,d,_,rfl,dg,_,_,rfl,.inl (SqL.of e3),rfl,zdH ts,_,rfl,?_⟩
     rw [if_pos rfl,zd7]
     by_cases ht:t∈ts
     ·rw [if_neg (fun z=>z ht)] at q
      rw [decide_eq_true ht]
      refine iteF ?_
      refine ⟨_,rfl,b,dx,_,rfl,hb,rfl,_,rfl,_,rfl,_,_,_,_,_,rfl,hb,BA.cls,BA.nc,zaQ,_,rfl,d,_,rfl,dg,a,rfl,⟨_,SqL.of e3⟩,fun Dc hD => ?_⟩
      have hlen:ts.length<=8:=zdo gx.2
      refine zb0 (capv := [some (.int t)]) (by rfl) (za3 K a (ts.map V.int)) (by rw [List.length_map]; exact big (by omega)) hD (fun H' s'=>SqL.of (s' _ _ e3)) (neI t) (fun v=>v) ?_ ?_ ?_
      ·intro v hv H' R s' h
       obtain ⟨u,hu',rfl⟩:=List.mem_map.mp hv
       refine ⟨_,rfl,_,rfl,rfl,_,rfl,?_⟩
       have e:(!decide (V.int u=V.int t))=neI t (V.int u):=by
        show _=decide (u≠t)
        rw [zaR,decide_not]
       rw [e]
       exact h H' (Same.refl _)
      ·intro v hv hp H' R s' h
       exact ⟨_,rfl,h H' (Same.refl _)⟩
      ·intro H' s' e
       rw [zds] at e
       have gf:=gt_filter gx.2 h0
       refine ⟨b,l,G,cs,past,x,Dc,_,rfl,B.same s',SqL.of e,gt_teeth gf,gx.1,.inr (by rw [e1]; rfl),?_⟩
       rw [gt_eq gf]
       exact q.from s'
     ·rw [if_pos ht] at q
      rw [decide_eq_false ht]
      exact iteT ⟨bigr rfl,q H (Same.refl H)⟩
noncomputable def sp_bundo (ea:Nat->Addr) (C:Addr):Sp:=fun vs H Q E=>∃ b l G cs past,vs = [.ref b]/\Bk C G H b l cs past/\((past = []/\E (.ref (ea 10)) none H)\/∃ ps p,past=ps ++ [p]/\∀ H',Mv b l G G H H'->Bk C G H' b l p ps->Q (.int (ps.length:Int)) H')
theorem zcu {α β : Type} {R : α -> β -> Prop}:∀ {l:List α} {ps:List β} {p : β},Paired R l (ps ++ [p])->∃ l' a,l=l' ++ [a]/\Paired R l' ps/\R a p
 | _,[],p,.cons h .nil=>⟨[],_,rfl,.nil,h⟩
 | _,q :: ps,p,.cons h r=>by
  obtain ⟨l',a,e,r',ha⟩:=zcu (ps:=ps) r
  exact ⟨_ :: l',a,by rw [e]; rfl,.cons h r',ha⟩
theorem zcb:FnScope ["self"] ["self"] (defScope s_Book_undo):=⟨rfl,rfl,rfl,by decide +kernel,rfl,by decide +kernel,by decide +kernel⟩
theorem ok_bundo {ea:Nat->Addr} {C:Addr} (D:MethAt K C "Book" "undo" s_Book_undo) (T:Bn mg) (BA:BookAt K C) (O_NothingDone:Err K mg "NothingDone" (ea 10)):Method P w K mg base C "undo" (CX1 P w) 1 ["self"] (sp_bundo ea C):=by
 refine D.meth1 zcb (fun _ _ _ _ _ _=>ln1 fun _=>rfl) (fun vs H Q E h => ?_) (fun f cdv A outer s H vs Q E hr h => ?_)
 ·obtain ⟨b,l,G,cs,past,rfl,_⟩:=h
  rfl
 ·obtain ⟨b,l,G,cs,past,rfl,B,q⟩:=h
  have S:=zcb
  have B_cls:=BA.cls
  obtain ⟨dx,d,hb,dr0⟩:=id B.ins
  obtain ⟨vs,hl,pr⟩:=id B.lst
  have hbl:b≠l:=zcG hb hl (by intro z; cases z)
  refine ⟨_,zag (zat (zak zaF (zai zao rfl T.n_len PySem.boot_len (zaa (zaU (pv 0) rfl) zab)) (zac) (zan _))
   (zad (zaE O_NothingDone rfl (zaa (zah) zab)))
   (zaj))
  (zag (zdT (pv 0) (zeV PySem.F.plainAttrs_list PySem.F.slot_list_pop PySem.F.type_list_pop zeX (zaU (pv 0) rfl)) rfl)
  (zad (zaq (zai zao rfl T.n_len PySem.boot_len (zaa (zaU (pv 0) rfl) zab))))),?_⟩
  refine ⟨_,rfl,_,_,_,_,_,rfl,hb,BA.cls,BA.np,zbR,_,_,rfl,.inl (SqL.of hl),rfl,_,rfl,?_⟩
  rw [pr.length,zaR]
  rcases q with ⟨rfl,q⟩ | ⟨ps,p,rfl,q⟩
  ·exact iteT ⟨bigr rfl,q⟩
  ·have hn:decide (((ps ++ [p]).length:Int)=0)=false:=by
    rw [List.length_append,List.length_singleton]
    exact decide_eq_false (by omega)
   rw [hn]
   refine iteF ?_
   obtain ⟨vs',a,rfl,pr',d1,rfl,dr1⟩:=zcu pr
   refine ⟨_,rfl,_,_,_,_,_,rfl,hb,BA.cls,BA.np,zbR,.inl ⟨rfl,_,SqL.of hl⟩,l,_,V.ref d1,rfl,rfl,hl,by simp,?_⟩
   rw [List.dropLast_concat]
   have hb1:upd H l (.lst vs') b=some (.ins C dx [("combs",.ref d),("past",.ref l)]):=by rw [zal hbl]; exact hb
   refine ⟨_,rfl,b,C,dx,_,rfl,hb1,BA.cls,BA.nc,zef,?_⟩
   rw [zcS]
   have hb2:upd (upd H l (.lst vs')) b (.ins C dx [("combs",.ref d1),("past",.ref l)]) b=some (.ins C dx [("combs",.ref d1),("past",.ref l)]):=zaf
   have hl2:upd (upd H l (.lst vs')) b (.ins C dx [("combs",.ref d1),("past",.ref l)]) l=some (.lst vs'):=by rw [zal (Ne.symm hbl),zaf]
   have off:∀ a,a≠b->a≠l->upd (upd H l (.lst vs')) b (.ins C dx [("combs",.ref d1),("past",.ref l)]) a=H a:=fun a n1 n2=>by rw [zal n1,zal n2]
   generalize upd (upd H l (.lst vs')) b (.ins C dx [("combs",.ref d1),("past",.ref l)])=H2 at hb2 hl2 off
   refine ⟨_,rfl,_,_,_,_,_,rfl,hb2,BA.cls,BA.np,zbR,_,_,rfl,.inl (SqL.of hl2),?_⟩
   rw [pr'.length]
   have sG:∀ a o,G a->H a=some o->H2 a=some o:=fun a o g e=>(off a (fun z=>B.nb (z ▸ g)) (fun z=>B.nl (z ▸ g))).trans e
   refine q H2 ⟨fun a o e n1 n2=>(off a n1 n2).trans e,fun a h => ?_,fun a g => .inl g⟩ ⟨fun x g => ?_,B.nb,B.nl,⟨dx,d1,hb2,dr1.mono sG fun _ g=>g⟩,⟨vs',hl2,?_⟩,B.goods p (by simp),fun c hc=>B.goods c (List.mem_append_left _ hc),?_⟩
   ·by_cases z:a=b
    ·rw [z,hb2]; simp
    ·by_cases z2:a=l
     ·rw [z2,hl2]; simp
     ·rw [off a z z2]; exact h
   ·rw [off x (fun z=>B.nb (z ▸ g)) (fun z=>B.nl (z ▸ g))]; exact B.live x g
   ·exact Paired.mono (fun _ _ ⟨d,e,r⟩=>⟨d,e,r.mono sG fun _ g=>g⟩) pr'
   ·have:=B.few
    rw [List.length_append] at this
    omega
noncomputable def tellT (Q:VK):VK:=fun v H1=>(2:Nat)<=sizeLine/\∀ p,H1 p=none->Q (.ref p) (upd H1 p (.tup [.str (Str.ofString "told"),v]))
noncomputable def refuT (K:W.Frag) (ea:Nat->Addr) (ce:Value) (Q:VK):XK:=fun c _ H1=>∃ D j,c = .ref D/\KindF K ea D j/\PySem.W.exmOne K (.ref D) ce=some true/\∀ p l H2,Same H1 H2->H1 l=none->H2 l=some (.lst [.str (errName j)])->H2 p=none->Q (.ref p) (upd H2 p (.tup [.str (Str.ofString "refused"),.ref l]))
noncomputable def spTry1 (K:W.Frag) (ea:Nat->Addr) (ce:Value) (C:Addr) (m:Str) (sp:Sp):Sp:=fun vs H Q _=>∃ b x dx fs,vs = [.ref b,x]/\H b=some (.ins C dx fs)/\fs.lookup m=none/\sp [.ref b,x] H (tellT Q) (refuT K ea ce Q)
noncomputable def spTry2 (K:W.Frag) (ea:Nat->Addr) (ce:Value) (C:Addr) (m:Str) (sp:Sp):Sp:=fun vs H Q _=>∃ b x y dx fs,vs = [.ref b,x,y]/\H b=some (.ins C dx fs)/\fs.lookup m=none/\sp [.ref b,x,y] H (tellT Q) (refuT K ea ce Q)
noncomputable def spTry0 (K:W.Frag) (ea:Nat->Addr) (ce:Value) (C:Addr) (m:Str) (sp:Sp):Sp:=fun vs H Q _=>∃ b dx fs,vs = [.ref b]/\H b=some (.ins C dx fs)/\fs.lookup m=none/\sp [.ref b] H (tellT Q) (refuT K ea ce Q)
noncomputable def sp_refI (ea:Nat->Addr) (j:Nat) (ok:Int->Prop):Sp:=fun vs H _ E=>∃ v n,vs = [v,.int n]/\¬ ok n/\E (.ref (ea j)) none H
noncomputable def sp_refW (ea:Nat->Addr) (C:Addr):Sp:=fun vs H _ E=>∃ b l G cs past x n,vs = [.ref b,.str x,.int n]/\Bk C G H b l cs past/\¬ (0<=n/\n<=(200:Int))/\(if (cGet cs x).isSome=true then E (.ref (ea 13)) none H else E (.ref (ea 4)) none H)
noncomputable def sp_chk (ea:Nat->Addr):Sp:=fun vs H Q E=>∃ n,vs = [.int n]/\(if 0<=n/\n<=200 then Q .non H else E (.ref (ea 13)) none H)
theorem zby:FnScope ["length"] ["length"] (defScope s_check_length):=⟨rfl,rfl,rfl,by decide +kernel,rfl,by decide +kernel,by decide +kernel⟩
theorem ok_chk {ea:Nat->Addr} (D:DefAt K mg "check_length" s_check_length) (T:Bn mg) (V_MOST_FILLED:∃ t,mg "MOST_FILLED" = some (.int 200 t)) (O_BadLength:Err K mg "BadLength" (ea 13)):Callee1 P w K mg base "check_length" 1 ["length"] (sp_chk ea):=by
 refine D.callee1 zby (fun _ _ _ _ _ _=>ln1 fun _=>rfl) (fun vs H Q E h => ?_) (fun f cdv A outer s H vs Q E hr h => ?_)
 ·obtain ⟨n,rfl,_⟩:=h
  rfl
 ·obtain ⟨n,rfl,q⟩:=h
  have S:=zby
  refine ⟨_,zad (zat (zaJ (zbf zbo zbo (zac) (pv 0) (za2 rfl V_MOST_FILLED)))
   (zad (zaE O_BadLength rfl (zaa (zah) zab)))
   (zaj)),?_⟩
  refine ⟨_,rfl,_,_,rfl,rfl,_,rfl,?_⟩
  refine ite2 (fun h0 => ?_) (fun h0 => ?_)
  rotate_left
  ·have h0:¬ (0:Int)<=n:=by simpa using h0
   rw [if_neg (fun z=>h0 z.1)] at q
   exact ⟨_,rfl,iteT ⟨bigr rfl,q⟩⟩
  have h0:(0:Int)<=n:=by simpa using h0
  refine ⟨_,_,rfl,rfl,_,rfl,?_⟩
  by_cases h1:n<=200
  case neg =>
   rw [if_neg (fun z=>h1 z.2)] at q
   rw [decide_eq_false h1]
   exact iteT ⟨bigr rfl,q⟩
  rw [if_pos ⟨h0,h1⟩] at q
  rw [decide_eq_true h1]
  exact iteF q
theorem zbL:FnScope ["book","shape","steps","name","worth"] ["book","shape"] (defScope s_shape_steps):=⟨rfl,rfl,rfl,by decide +kernel,rfl,by decide +kernel,by decide +kernel⟩
theorem ok_r_shape_steps {ea:Nat->Addr} (D:DefAt K mg "shape_steps" s_shape_steps) (T:Bn mg) (V_SHAPES:∃ t,mg "SHAPES" = some (.int 128 t)) (O_BadShape:Err K mg "BadShape" (ea 11)):Callee1 P w K mg base "shape_steps" 1 ["book","shape"] (sp_refI ea 11 fun n=>0<=n/\n < 128):=by
 refine D.callee1 zbL (fun _ _ _ _ _ _=>ln2 fun _ _=>rfl) (fun vs H Q E h => ?_) (fun f cdv A outer s H vs Q E hr h => ?_)
 ·obtain ⟨v,n,rfl,_⟩:=h
  rfl
 ·obtain ⟨v,n,rfl,hn,q⟩:=h
  have S:=zbL
  refine ⟨_,zag (zat (zaJ (zbf zbo zex (zac) (pv 1) (za2 rfl V_SHAPES)))
   (zad (zaE O_BadShape rfl (zaa (zah) zab)))
   (zaj)) zaS,?_⟩
  refine ⟨_,rfl,_,_,rfl,rfl,_,rfl,?_⟩
  refine ite2 (fun h0 => ?_) (fun h0 => ?_)
  rotate_left
  ·exact ⟨_,rfl,iteT ⟨bigr rfl,q⟩⟩
  have h0:(0:Int)<=n:=by simpa using h0
  refine ⟨_,_,rfl,rfl,_,rfl,?_⟩
  rw [decide_eq_false (show ¬ n < 128 from fun z=>hn ⟨h0,z⟩)]
  exact iteT ⟨bigr rfl,q⟩
theorem zb9:FnScope ["book","place","table","shapes","passed"] ["book","place"] (defScope s_shapes_at):=⟨rfl,rfl,rfl,by decide +kernel,rfl,by decide +kernel,by decide +kernel⟩
theorem ok_r_shapes_at {ea:Nat->Addr} (D:DefAt K mg "shapes_at" s_shapes_at) (T:Bn mg) (V_MOST_SHAPED:∃ t,mg "MOST_SHAPED" = some (.int 200 t)) (O_BadPlace:Err K mg "BadPlace" (ea 12)):Callee1 P w K mg base "shapes_at" 1 ["book","place"] (sp_refI ea 12 fun n=>0<=n/\n<=200):=by
 refine D.callee1 zb9 (fun _ _ _ _ _ _=>ln2 fun _ _=>rfl) (fun vs H Q E h => ?_) (fun f cdv A outer s H vs Q E hr h => ?_)
 ·obtain ⟨v,n,rfl,_⟩:=h
  rfl
 ·obtain ⟨v,n,rfl,hn,q⟩:=h
  have S:=zb9
  refine ⟨_,zag (zat (zaJ (zbf zbo zbo (zac) (pv 1) (za2 rfl V_MOST_SHAPED)))
   (zad (zaE O_BadPlace rfl (zaa (zah) zab)))
   (zaj)) zaS,?_⟩
  refine ⟨_,rfl,_,_,rfl,rfl,_,rfl,?_⟩
  refine ite2 (fun h0 => ?_) (fun h0 => ?_)
  rotate_left
  ·exact ⟨_,rfl,iteT ⟨bigr rfl,q⟩⟩
  have h0:(0:Int)<=n:=by simpa using h0
  refine ⟨_,_,rfl,rfl,_,rfl,?_⟩
  rw [decide_eq_false (show ¬ n<=200 from fun z=>hn ⟨h0,z⟩)]
  exact iteT ⟨bigr rfl,q⟩
theorem zbU:FnScope ["book","length","table","turn"] ["book","length"] (defScope s_fits_flush):=⟨rfl,rfl,rfl,by decide +kernel,rfl,by decide +kernel,by decide +kernel⟩
theorem ok_r_fits_flush {ea:Nat->Addr} (D:DefAt K mg "fits_flush" s_fits_flush) (T:Bn mg) (V_MOST_LENGTH:∃ t,mg "MOST_LENGTH" = some (.int 1000000000000 t)) (O_BadLength:Err K mg "BadLength" (ea 13)):Callee1 P w K mg base "fits_flush" 1 ["book","length"] (sp_refI ea 13 fun n=>0<=n/\n<=1000000000000):=by
 refine D.callee1 zbU (fun _ _ _ _ _ _=>ln2 fun _ _=>rfl) (fun vs H Q E h => ?_) (fun f cdv A outer s H vs Q E hr h => ?_)
 ·obtain ⟨v,n,rfl,_⟩:=h
  rfl
 ·obtain ⟨v,n,rfl,hn,q⟩:=h
  have S:=zbU
  refine ⟨_,zag (zat (zaJ (zbf zbo zbo (zac) (pv 1) (za2 rfl V_MOST_LENGTH)))
   (zad (zaE O_BadLength rfl (zaa (zah) zab)))
   (zaj)) zaS,?_⟩
  refine ⟨_,rfl,_,_,rfl,rfl,_,rfl,?_⟩
  refine ite2 (fun h0 => ?_) (fun h0 => ?_)
  rotate_left
  ·exact ⟨_,rfl,iteT ⟨bigr rfl,q⟩⟩
  have h0:(0:Int)<=n:=by simpa using h0
  refine ⟨_,_,rfl,rfl,_,rfl,?_⟩
  rw [decide_eq_false (show ¬ n<=1000000000000 from fun z=>hn ⟨h0,z⟩)]
  exact iteT ⟨bigr rfl,q⟩
theorem zbd:FnScope ["book","place","answer","homes"] ["book","place"] (defScope s_comb_over_strip):=⟨rfl,rfl,rfl,by decide +kernel,rfl,by decide +kernel,by decide +kernel⟩
theorem ok_r_comb_over_strip {ea:Nat->Addr} (D:DefAt K mg "comb_over_strip" s_comb_over_strip) (T:Bn mg) (V_MOST_PLACE:∃ t,mg "MOST_PLACE" = some (.int 1000000000000000000 t)) (O_BadPlace:Err K mg "BadPlace" (ea 12)):Callee1 P w K mg base "comb_over_strip" 1 ["book","place"] (sp_refI ea 12 fun n=>0<=n/\n<=1000000000000000000):=by
 refine D.callee1 zbd (fun _ _ _ _ _ _=>ln2 fun _ _=>rfl) (fun vs H Q E h => ?_) (fun f cdv A outer s H vs Q E hr h => ?_)
 ·obtain ⟨v,n,rfl,_⟩:=h
  rfl
 ·obtain ⟨v,n,rfl,hn,q⟩:=h
  have S:=zbd
  refine ⟨_,zag (zat (zaJ (zbf zbo zbo (zac) (pv 1) (za2 rfl V_MOST_PLACE)))
   (zad (zaE O_BadPlace rfl (zaa (zah) zab)))
   (zaj)) zaS,?_⟩
  refine ⟨_,rfl,_,_,rfl,rfl,_,rfl,?_⟩
  refine ite2 (fun h0 => ?_) (fun h0 => ?_)
  rotate_left
  ·exact ⟨_,rfl,iteT ⟨bigr rfl,q⟩⟩
  have h0:(0:Int)<=n:=by simpa using h0
  refine ⟨_,_,rfl,rfl,_,rfl,?_⟩
  rw [decide_eq_false (show ¬ n<=1000000000000000000 from fun z=>hn ⟨h0,z⟩)]
  exact iteT ⟨bigr rfl,q⟩
theorem zbl:FnScope ["book","length"] ["book","length"] (defScope s_count_fillings):=⟨rfl,rfl,rfl,by decide +kernel,rfl,by decide +kernel,by decide +kernel⟩
theorem ok_r_count_fillings {ea:Nat->Addr} (D:DefAt K mg "count_fillings" s_count_fillings) (T:Bn mg) (C_check_length:Callee1 P w K mg base "check_length" 1 ["length"] (sp_chk ea)):Callee1 P w K mg base "count_fillings" 2 ["book","length"] (sp_refI ea 13 fun n=>0<=n/\n<=200):=by
 refine D.callee1 zbl (fun _ _ _ _ _ _=>ln2 fun _ _=>rfl) (fun vs H Q E h => ?_) (fun f cdv A outer s H vs Q E hr h => ?_)
 ·obtain ⟨v,n,rfl,_⟩:=h
  rfl
 ·obtain ⟨v,n,rfl,hn,q⟩:=h
  have S:=zbl
  refine ⟨_,zag (zav (za6 C_check_length (hr.mono (by decide)) (by first | exact zap | exact zaK | exact zar) rfl (zaa (pv 1) zab))) zaS,?_⟩
  refine ⟨_,rfl,n,rfl,?_⟩
  rw [if_neg hn]
  exact q
theorem zbs:FnScope ["book","length","table","ways"] ["book","length"] (defScope s_first_filling):=⟨rfl,rfl,rfl,by decide +kernel,rfl,by decide +kernel,by decide +kernel⟩
theorem ok_r_first_filling {ea:Nat->Addr} (D:DefAt K mg "first_filling" s_first_filling) (T:Bn mg) (C_check_length:Callee1 P w K mg base "check_length" 1 ["length"] (sp_chk ea)):Callee1 P w K mg base "first_filling" 2 ["book","length"] (sp_refI ea 13 fun n=>0<=n/\n<=200):=by
 refine D.callee1 zbs (fun _ _ _ _ _ _=>ln2 fun _ _=>rfl) (fun vs H Q E h => ?_) (fun f cdv A outer s H vs Q E hr h => ?_)
 ·obtain ⟨v,n,rfl,_⟩:=h
  rfl
 ·obtain ⟨v,n,rfl,hn,q⟩:=h
  have S:=zbs
  refine ⟨_,zag (zav (za6 C_check_length (hr.mono (by decide)) (by first | exact zap | exact zaK | exact zar) rfl (zaa (pv 1) zab))) zaS,?_⟩
  refine ⟨_,rfl,n,rfl,?_⟩
  rw [if_neg hn]
  exact q
theorem zaW:FnScope ["book","name","length","table"] ["book","name","length"] (defScope s_count_fillings_with):=⟨rfl,rfl,rfl,by decide +kernel,rfl,by decide +kernel,by decide +kernel⟩
theorem ok_r_count_fillings_with {ea:Nat->Addr} {C:Addr} (D:DefAt K mg "count_fillings_with" s_count_fillings_with) (T:Bn mg) (BA:BookAt K C) (M_check_comb:Method P w K mg base C "check_comb" (CX1 P w) 1 ["self","name"] (sp_check ea C)) (C_check_length:Callee1 P w K mg base "check_length" 1 ["length"] (sp_chk ea)):Callee1 P w K mg base "count_fillings_with" 2 ["book","name","length"] (sp_refW ea C):=by
 refine D.callee1 zaW (fun _ _ _ _ _ _=>ln3 fun _ _ _=>rfl) (fun vs H Q E h => ?_) (fun f cdv A outer s H vs Q E hr h => ?_)
 ·obtain ⟨b,l,G,cs,past,x,n,rfl,_⟩:=h
  rfl
 ·obtain ⟨b,l,G,cs,past,x,n,rfl,B,hn,q⟩:=h
  have S:=zaW
  have B_cls:=BA.cls
  obtain ⟨dx,d,hb,_⟩:=id B.ins
  refine ⟨_,zag (zav (zbC (pv 0) B_cls M_check_comb (hr.mono (by decide)) (by first | exact zba | exact zap | exact zaK | exact zar) (zaa (pv 1) zab)))
  (zag (zav (za6 C_check_length (hr.mono (by decide)) (by first | exact zap | exact zaK | exact zar) rfl (zaa (pv 2) zab))) zaS),?_⟩
  refine ⟨_,rfl,_,_,_,rfl,hb,rfl,_,rfl,b,l,G,cs,past,x,rfl,B,?_⟩
  by_cases hx:(cGet cs x).isSome=true
  case neg =>
   rw [if_neg hx] at q ⊢
   exact q
  rw [if_pos hx] at q ⊢
  refine ⟨_,rfl,n,rfl,?_⟩
  rw [if_neg hn]
  exact q
theorem zaZ:FnScope ["book","name","length","table","ways"] ["book","name","length"] (defScope s_first_filling_with):=⟨rfl,rfl,rfl,by decide +kernel,rfl,by decide +kernel,by decide +kernel⟩
theorem ok_r_first_filling_with {ea:Nat->Addr} {C:Addr} (D:DefAt K mg "first_filling_with" s_first_filling_with) (T:Bn mg) (BA:BookAt K C) (M_check_comb:Method P w K mg base C "check_comb" (CX1 P w) 1 ["self","name"] (sp_check ea C)) (C_check_length:Callee1 P w K mg base "check_length" 1 ["length"] (sp_chk ea)):Callee1 P w K mg base "first_filling_with" 2 ["book","name","length"] (sp_refW ea C):=by
 refine D.callee1 zaZ (fun _ _ _ _ _ _=>ln3 fun _ _ _=>rfl) (fun vs H Q E h => ?_) (fun f cdv A outer s H vs Q E hr h => ?_)
 ·obtain ⟨b,l,G,cs,past,x,n,rfl,_⟩:=h
  rfl
 ·obtain ⟨b,l,G,cs,past,x,n,rfl,B,hn,q⟩:=h
  have S:=zaZ
  have B_cls:=BA.cls
  obtain ⟨dx,d,hb,_⟩:=id B.ins
  refine ⟨_,zag (zav (zbC (pv 0) B_cls M_check_comb (hr.mono (by decide)) (by first | exact zba | exact zap | exact zaK | exact zar) (zaa (pv 1) zab)))
  (zag (zav (za6 C_check_length (hr.mono (by decide)) (by first | exact zap | exact zaK | exact zar) rfl (zaa (pv 2) zab))) zaS),?_⟩
  refine ⟨_,rfl,_,_,_,rfl,hb,rfl,_,rfl,b,l,G,cs,past,x,rfl,B,?_⟩
  by_cases hx:(cGet cs x).isSome=true
  case neg =>
   rw [if_neg hx] at q ⊢
   exact q
  rw [if_pos hx] at q ⊢
  refine ⟨_,rfl,n,rfl,?_⟩
  rw [if_neg hn]
  exact q
theorem zbm:FnScope ["book","place","answer","homes"] ["book","place"] (defScope s_comb_over_line):=⟨rfl,rfl,rfl,by decide +kernel,rfl,by decide +kernel,by decide +kernel⟩
theorem ok_r_comb_over_line {ea:Nat->Addr} (D:DefAt K mg "comb_over_line" s_comb_over_line) (T:Bn mg) (V_MOST_PLACE:∃ t,mg "MOST_PLACE" = some (.int 1000000000000000000 t)) (O_BadPlace:Err K mg "BadPlace" (ea 12)):Callee1 P w K mg base "comb_over_line" 1 ["book","place"] (sp_refI ea 12 fun n => -1000000000000000000<=n/\n<=1000000000000000000):=by
 refine D.callee1 zbm (fun _ _ _ _ _ _=>ln2 fun _ _=>rfl) (fun vs H Q E h => ?_) (fun f cdv A outer s H vs Q E hr h => ?_)
 ·obtain ⟨v,n,rfl,_⟩:=h
  rfl
 ·obtain ⟨v,n,rfl,hn,q⟩:=h
  have S:=zbm
  refine ⟨_,zag (zat (zaJ (zbf zbo zbo (zbO za4 (za2 rfl V_MOST_PLACE)) (pv 1) (za2 rfl V_MOST_PLACE)))
   (zad (zaE O_BadPlace rfl (zaa (zah) zab)))
   (zaj)) zaS,?_⟩
  refine ⟨_,rfl,_,rfl,_,_,rfl,rfl,_,rfl,?_⟩
  refine ite2 (fun h0 => ?_) (fun h0 => ?_)
  rotate_left
  ·exact ⟨_,rfl,iteT ⟨bigr rfl,q⟩⟩
  have h0:(-1000000000000000000:Int)<=n:=by simpa using h0
  refine ⟨_,_,rfl,rfl,_,rfl,?_⟩
  rw [decide_eq_false (show ¬ n<=1000000000000000000 from fun z=>hn ⟨h0,z⟩)]
  exact iteT ⟨bigr rfl,q⟩
noncomputable def sp_at (K:W.Frag):Sp:=fun vs H Q _=>∃ (a:Addr) (ns:List Int) (k:Int),vs = [.ref a,.int k]/\SqL K H a (ns.map V.int)/\0<=k/\Q (.int (ns.getD k.toNat 0)) H
theorem zfb:FnScope ["_law_script","_law_k"] ["_law_script","_law_k"] (defScope s_at):=⟨rfl,rfl,rfl,by decide +kernel,rfl,by decide +kernel,by decide +kernel⟩
theorem ok_at (D:DefAt K mg "_law_at" s_at) (T:Bn mg):Callee P w K mg base "_law_at" 1 ["_law_script","_law_k"] (sp_at K):=by
 refine D.callee zfb (fun _ _ _ _ _ _=>ln2 fun _ _=>rfl) (fun vs H Q E h => ?_) (fun f cdv A outer s H vs Q E hr h => ?_)
 ·obtain ⟨a,ns,k,rfl,_⟩:=h
  rfl
 ·obtain ⟨a,ns,k,rfl,hS,h0,q⟩:=h
  have S:=zfb
  refine ⟨_,zag (zat (zak zex (pv 1) (zai zao rfl T.n_len PySem.boot_len (zaa (pv 0) zab)) (zan _))
   (zad (zaq (zaO zax (pv 0) (pv 1) (fun _ _=>rfl))))
   (zaj))
  (zad (zaq (zac))),?_⟩
  refine ⟨_,rfl,_,rfl,_,_,rfl,.inl hS,_,_,rfl,rfl,_,rfl,?_⟩
  refine ite2 (fun hc => ?_) (fun hc => ?_)
  ·have hc:=of_decide_eq_true hc
   rw [List.length_map] at hc
   exact ⟨_,rfl,_,rfl,_,_,_,_,rfl,rfl,hS,at_get h0 hc,q⟩
  ·have hc:¬ k < (ns.length:Int):=fun z=>hc (decide_eq_true (by rw [List.length_map]; exact z))
   rw [getD_big hc] at q
   exact q
noncomputable def mixed (c k:Int):Int:=((c + 7919 * k + 1) * 48271 % 2147483647 + 104729 * k + 3) * 69621 % 2147483647
noncomputable def sp_mixed:Sp:=fun vs H Q _=>∃ (c k:Int),vs = [.int c,.int k]/\Q (.int (mixed c k)) H
theorem zdO:FnScope ["_law_cell","_law_k","_law_once"] ["_law_cell","_law_k"] (defScope s_mixed):=⟨rfl,rfl,rfl,by decide +kernel,rfl,by decide +kernel,by decide +kernel⟩
theorem ok_mixed (D:DefAt K mg "_law_mixed" s_mixed) (T:Bn mg):Callee P w K mg base "_law_mixed" 1 ["_law_cell","_law_k"] sp_mixed:=by
 refine D.callee zdO (fun _ _ _ _ _ _=>ln2 fun _ _=>rfl) (fun vs H Q E h => ?_) (fun f cdv A outer s H vs Q E hr h => ?_)
 ·obtain ⟨c,k,rfl,_⟩:=h
  rfl
 ·obtain ⟨c,k,rfl,q⟩:=h
  have S:=zdO
  refine ⟨_,zag (za0 (i:=2) S.nd rfl (Or.inl rfl) (zaw za8 (zaw zdi (zaw zbw (zaw zbw (pv 0) (zaw zdi (zac) (pv 1))) (zac)) (zac)) (zac)))
  (zad (zaq (zaw za8 (zaw zdi (zaw zbw (zaw zbw (pv 2) (zaw zdi (zac) (pv 1))) (zac)) (zac)) (zac)))),?_⟩
  refine ⟨_,rfl,_,rfl,_,_,rfl,rfl,.inl ⟨by decide,by decide⟩,_,_,rfl,rfl,_,_,rfl,rfl,_,_,rfl,rfl,.inr ⟨by decide,by decide⟩,_,_,rfl,rfl,by show (0:Int) < 2147483647; decide,?_⟩
  exact ⟨_,rfl,_,rfl,_,_,rfl,rfl,.inl ⟨by decide,by decide⟩,_,_,rfl,rfl,_,_,rfl,rfl,_,_,rfl,rfl,.inr ⟨by decide,by decide⟩,_,_,rfl,rfl,by show (0:Int) < 2147483647; decide,q⟩
noncomputable def bitOf (b:Int) (v:V):Bool:=match v with
 | .int t=>decide (Builtin.bitAnd (b / 2 ^ t.toNat) 1=1)
 | _=>false
noncomputable def poolL:List Str := [Str.ofString "a",Str.ofString "ab",Str.ofString "b",Str.ofString "ba",Str.ofString "abc",Str.ofString "bb",Str.ofString "c",Str.ofString "abb",Str.ofString "aa",Str.ofString "cab",Str.ofString "Ab",Str.ofString "",Str.ofString "abcabca"]
theorem pool_at {i:Int} (h0:0<=i) (h:i < 13):∃ x,atI (poolL.map V.str) i=some (.str x)/\x∈poolL:=by
 refine ⟨poolL.getD i.toNat (Str.ofString ""),zeK h0 ?_,?_⟩
 ·have hl:i.toNat < poolL.length:=by show i.toNat < 13; omega
  rw [List.getElem?_map,List.getElem?_eq_getElem hl,List.getD_eq_getElem?_getD,List.getElem?_eq_getElem hl]
  rfl
 ·have hl:i.toNat < poolL.length:=by show i.toNat < 13; omega
  rw [List.getD_eq_getElem?_getD,List.getElem?_eq_getElem hl]
  exact List.getElem_mem hl
theorem pool_len {x:Str} (h:x∈poolL):x.length<=7:=by
 have:∀ x∈poolL,x.length<=7:=by decide +kernel
 exact this x h
noncomputable def sp_pool:Sp:=fun vs H Q _=>∃ k:Int,vs = [.int k]/\∀ H' x,Same H H'->x∈poolL->Q (.str x) H'
theorem zei:FnScope ["_law_k"] ["_law_k"] (defScope s_pool):=⟨rfl,rfl,rfl,by decide +kernel,rfl,by decide +kernel,by decide +kernel⟩
theorem ok_pool (D:DefAt K mg "_law_pool" s_pool) (T:Bn mg):Callee P w K mg base "_law_pool" 1 ["_law_k"] sp_pool:=by
 refine D.calleeQ zei (fun _ _ _ _ _ _=>ln1 fun _=>rfl) (fun vs H Q E h => ?_) (fun f cdv A outer s H vs Q E hr h => ?_)
 ·obtain ⟨k,rfl,_⟩:=h
  rfl
 ·obtain ⟨k,rfl,q⟩:=h
  have S:=zei
  obtain ⟨x,e,hx⟩:=pool_at (i:=k % 13) (Int.emod_nonneg _ (by decide)) (Int.emod_lt_of_pos _ (by decide))
  refine ⟨_,zcq (zdc (zed zax (zaL (zae (qe (zah)) (zae (qe (zah)) (zae (qe (zah)) (zae (qe (zah)) (zae (qe (zah)) (zae (qe (zah)) (zae (qe (zah)) (zae (qe (zah)) (zae (qe (zah)) (zae (qe (zah)) (zae (qe (zah)) (zae (qe (zah)) (zae (qe (zah)) (zaG))))))))))))))) (qe (zaw za8 (pv 0) (zac))) (fun _ _=>rfl))),?_⟩
  exact ⟨bigr rfl,fun p np=>⟨_,rfl,_,_,rfl,rfl,(by decide:(0:Int) < 13),_,_,_,_,rfl,rfl,SqL.of zaf,e,q _ x (Same.new np) hx⟩⟩
theorem deed_at {i:Int} (h0:0<=i) (h:i < 11):∃ d:Int,atI [V.int 0,V.int 0,V.int 0,V.int 1,V.int 2,V.int 2,V.int 3,V.int 3,V.int 4,V.int 5,V.int 5] i=some (.int d)/\0<=d/\d<=5:=by
 have:i=0\/i=1\/i=2\/i=3\/i=4\/i=5\/i=6\/i=7\/i=8\/i=9\/i=10:=by omega
 rcases this with h | h | h | h | h | h | h | h | h | h | h <;> subst h <;> exact ⟨_,rfl,by decide,by decide⟩
theorem odd_at {i:Int} (h0:0<=i) (h:i < 4):∃ d:Int,atI [V.int 8,V.int 7,V.int (-1),V.int 0] i=some (.int d):=by
 have:i=0\/i=1\/i=2\/i=3:=by omega
 rcases this with h | h | h | h <;> subst h <;> exact ⟨_,rfl⟩
noncomputable def MoreR (H0 H:Hp) (d:Int) (mv:V):Prop:=(d=0/\∃ (a:Addr) (ts:List Int),mv = .ref a/\H0 a=none/\H a=some (.lst (ts.map V.int))/\ts.length<=100)\/(d≠0/\∃ t:Int,mv = .int t)
theorem MoreR.same {H0 H H':Hp} {d:Int} {mv:V} (m:MoreR H0 H d mv) (s:Same H H'):MoreR H0 H' d mv:=m.imp (fun ⟨h,a,ts,e,n,ha,hl⟩=>⟨h,a,ts,e,n,s _ _ ha,hl⟩) id
theorem MoreR.back {H00 H0 H:Hp} {d:Int} {mv:V} (m:MoreR H0 H d mv) (s:Same H00 H0):MoreR H00 H d mv:=m.imp (fun ⟨h,a,ts,e,n,ha,hl⟩=>⟨h,a,ts,e,s.free n,ha,hl⟩) id
noncomputable def sp_draw39:Sp:=fun vs H Q _=>∃ c k:Int,vs = [.int c,.int k]/\∀ p H' d x mv,Same H H'->H' p=some (.tup [.int d,.str x,mv])->0<=d->d<=5->x∈poolL->MoreR H H' d mv->Q (.ref p) H'
theorem zek:FnScope ["_law_cell","_law_k","_law_deed","_law_word","_law_more","_law_bits"] ["_law_cell","_law_k"] (defScope s_draw):=⟨rfl,rfl,rfl,by decide +kernel,rfl,by decide +kernel,by decide +kernel⟩
theorem ok_draw39 (D:DefAt K mg "_law_draw" s_draw) (T:Bn mg) (C_mixed:Callee P w K mg base "_law_mixed" 1 ["_law_cell","_law_k"] sp_mixed) (C_pool:Callee P w K mg base "_law_pool" 1 ["_law_k"] sp_pool):Callee P w K mg base "_law_draw" 2 ["_law_cell","_law_k"] sp_draw39:=by
 refine D.calleeQ zek (fun _ _ _ _ _ _=>ln2 fun _ _=>rfl) (fun vs H Q E h => ?_) (fun f cdv A outer s H vs Q E hr h => ?_)
 ·obtain ⟨c,k,rfl,_⟩:=h
  rfl
 ·obtain ⟨c0,k,rfl,q⟩:=h
  have S:=zek
  have p2:(0:Int) < 2:=by decide
  have p4:(0:Int) < 4:=by decide
  have p8:(0:Int) < 8:=by decide
  have p11:(0:Int) < 11:=by decide
  have p12:(0:Int) < 12:=by decide
  have p128:(0:Int) < 128:=by decide
  refine ⟨_,zcr (qs (zat (zak zaF (zaw za8 (pv 0) (zac)) (zac) (zan _))
   (zad (za0 (i:=0) S.nd rfl (Or.inl rfl) (za1 C_mixed (hr.mono (by decide)) rfl (zaa (pv 0) (zaa (pv 1) zab)))))
   (zaj)))
  (zau (zaN (i:=2) S.nd rfl (Or.inl rfl) (zed zax (zaL (zae (qe (zac)) (zae (qe (zac)) (zae (qe (zac)) (zae (qe (zac)) (zae (qe (zac)) (zae (qe (zac)) (zae (qe (zac)) (zae (qe (zac)) (zae (qe (zac)) (zae (qe (zac)) (zae (qe (zac)) (zaG))))))))))))) (qe (zaw za8 (zaw zbQ (pv 0) (zac)) (zac))) (fun _ _=>rfl)))
  (zau (zaN (i:=3) S.nd rfl (Or.inl rfl) (qe (za1 C_pool (hr.mono (by decide)) rfl (zaa (zaw zbQ (pv 0) (zac)) zab))))
  (zau (zaN (i:=4) S.nd rfl (Or.inl rfl) (qe (zaw zd0 (zaw za8 (zaw zbQ (pv 0) (zac)) (zac)) (zac))))
  (zcr (qs (zat (zak zaF (pv 2) (zac) (zan _))
   (zag (za0 (i:=5) S.nd rfl (Or.inr rfl) (zaw zbw (zaw zdi (zaw za8 (zaw zbQ (pv 0) (zac)) (zac)) (zac)) (zac)))
   (zag (zep (i:=4) S.nd rfl (Or.inl rfl) (own := ["_law_t"]) (caps := [(5,"_law_bits")]) rfl ⟨rfl,rfl,rfl,rfl,⟨⟨rfl,rfl,.inl rfl⟩,trivial⟩⟩ (pi_range3 rfl T.n_range (zaa (zac) (zaa (zbO za4 (zac)) (zaa (zbO za4 (zac)) zab)))) (fun _ _ _ _ _ _=>zaC (i:=0) (zbq (by decide +kernel)) rfl (Or.inl rfl)) (fun _ _ _ _ _ _=>zb3 (zak zaF (zaw op_and (zaw op_shr (pv 1) (pv 0)) (zac)) (zac) (zan _))) (fun _ _ _ _ _ _=>pv 0))
   (zaM (zat (zak zaF (zaw za8 (zaw zbQ (pv 0) (zac)) (zac)) (zac) (zan _))
    (zad (za0 (i:=4) S.nd rfl (Or.inl rfl) (zaw zbg (pv 4) (zaT (zaa (zaO zax ((zaL (zae (qe (zac)) (zae (qe (zac)) (zae (qe (zbO za4 (zac))) (zae (qe (zac)) (zaG)))))).h) (zaw za8 (zaw zbQ (pv 0) (zac)) (zac)) (fun _ _=>rfl)) zab)))))
    (zaj))
   (zad (zat (zak zaF (zaw za8 (zaw zbQ (pv 0) (zac)) (zac)) (zac) (zan _))
    (zad (za0 (i:=4) S.nd rfl (Or.inl rfl) (zdU zeg (pv 4) (zer) (zeq (zbO za4 (zac))))))
    (zaj))))))
   (zaj)))
  (zcq (zdc (zdQ (zae (qe (pv 2)) (zae (qe (pv 3)) (zae (qe (pv 4)) (zaG))))))))))),?_⟩
  refine ⟨fun σ Hx=>Hx=H/\∃ c:Int,σ = [some (.int c),some (.int k),none,none,none,none],?_,?_⟩
  ·refine ⟨_,rfl,_,_,rfl,rfl,p2,rfl,_,rfl,?_⟩
   refine ite2 (fun _ => ?_) (fun _ => ?_)
   ·exact ⟨_,rfl,_,rfl,_,_,rfl,rfl,_,rfl⟩
   ·exact ⟨rfl,_,rfl⟩
  rintro σ Hx ⟨rfl,c,rfl⟩
  obtain ⟨d,ed,hd0,hd5⟩:=deed_at (i:=c / 2 % 11) (Int.emod_nonneg _ (by decide)) (Int.emod_lt_of_pos _ p11)
  refine ⟨bigr rfl,fun p1 np1=>⟨_,rfl,_,_,rfl,rfl,⟨by decide,by decide⟩,_,_,rfl,rfl,p11,_,_,_,_,rfl,rfl,SqL.of zaf,ed,?_⟩⟩
  refine ⟨_,rfl,_,_,rfl,rfl,⟨by decide,by decide⟩,_,rfl,fun H3 x s3 hx => ?_⟩
  have s13:Same Hx H3:=(Same.new np1).trans s3
  refine ⟨_,rfl,_,_,rfl,rfl,⟨by decide,by decide⟩,_,_,rfl,rfl,p12,_,_,rfl,rfl,?_⟩
  refine ⟨fun σ Hy=>Same H3 Hy/\∃ mv x5,σ = [some (.int c),some (.int k),some (.int d),some (.str x),some mv,x5]/\MoreR H3 Hy d mv,?_,?_⟩
  ·refine ⟨_,rfl,rfl,_,rfl,?_⟩
   by_cases hd:d=0
   ·subst hd
    refine iteT ?_
    refine ⟨_,rfl,_,_,rfl,rfl,⟨by decide,by decide⟩,_,_,rfl,rfl,p128,_,_,rfl,rfl,.inr ⟨by decide,by decide⟩,_,_,rfl,rfl,?_⟩
    refine ⟨_,rfl,_,rfl,rfl,fun Dc hD => ?_⟩
    refine zb0 (capv := [some (.int (c / 286 % 128 * 2 + 1))]) (by rfl) (gives_down 7 8) (bigr rfl) hD ?_ (bitOf (c / 286 % 128 * 2 + 1)) (fun v=>v) ?_ ?_ ?_
    ·exact fun _ _=>trivial
    ·intro v hv H' R s' h
     obtain ⟨t,ht,rfl⟩:=List.mem_map.mp hv
     have ht:=List.mem_range.mp ht
     refine ⟨_,rfl,_,rfl,_,_,rfl,rfl,?_,_,_,rfl,rfl,rfl,_,rfl,?_⟩
     ·show (0:Int)<=7 - ((t:Nat):Int)
      omega
     rw [zaR]
     exact h H' (Same.refl _)
    ·intro v hv hp H' R s' h
     exact ⟨_,rfl,h H' (Same.refl _)⟩
    intro H7 s7 e7
    have ets:(((((List.range 8).map fun i=>V.int (7 - ((i:Nat):Int))).filter (bitOf (c / 286 % 128 * 2 + 1))).map fun v=>v))=(((List.range 8).filter fun i=>bitOf (c / 286 % 128 * 2 + 1) (.int (7 - ((i:Nat):Int)))).map fun i=>7 - ((i:Nat):Int)).map V.int:=by
     rw [List.map_id',List.filter_map,List.map_map]
     rfl
    have hlt:(((List.range 8).filter fun i=>bitOf (c / 286 % 128 * 2 + 1) (.int (7 - ((i:Nat):Int)))).map fun i=>7 - ((i:Nat):Int)).length<=8:=by
     rw [List.length_map]
     exact Nat.le_trans (List.length_filter_le _ _) (by rw [List.length_range]; exact Nat.le_refl _)
    rw [ets] at e7
    generalize (((List.range 8).filter fun i=>bitOf (c / 286 % 128 * 2 + 1) (.int (7 - ((i:Nat):Int)))).map fun i=>7 - ((i:Nat):Int))=ts at e7 hlt
    refine ⟨fun σ Hz=>Same H7 Hz/\∃ (a:Addr) (ts:List Int) (x5:Option V),σ = [some (.int c),some (.int k),some (.int 0),some (.str x),some (.ref a),x5]/\H3 a=none/\Hz a=some (.lst (ts.map V.int))/\ts.length<=9,?_,?_⟩
    ·refine ⟨_,rfl,_,_,rfl,rfl,⟨by decide,by decide⟩,_,_,rfl,rfl,p8,rfl,_,rfl,?_⟩
     refine ite2 (fun _ => ?_) (fun _ => ?_)
     ·obtain ⟨o,eo⟩:=odd_at (i:=c / 292864 % 4) (Int.emod_nonneg _ (by decide)) (Int.emod_lt_of_pos _ p4)
      refine ⟨_,rfl,_,rfl,bigr rfl,fun p2 np2=>⟨_,rfl,_,_,rfl,rfl,⟨by decide,by decide⟩,_,_,rfl,rfl,p4,_,_,_,_,rfl,rfl,SqL.of zaf,eo,bigr rfl,fun p3 np3 => ?_⟩⟩
      have s8:Same H7 (upd (upd H7 p2 (.lst [V.int 8,V.int 7,V.int (-1),V.int 0])) p3 (.lst [V.int o])):=(Same.new np2).trans (Same.new np3)
      refine ⟨_,_,_,_,rfl,rfl,s8 _ _ e7,zaf,big (by rw [List.length_map]; show ts.length + 1<=1000; omega),fun p4' np4 => ?_⟩
      exact ⟨s8.trans (Same.new np4),p4',ts ++ [o],_,rfl,(s7.trans s8).free np4,by rw [List.map_append]; exact zaf,by rw [List.length_append]; show ts.length + 1<=9; omega⟩
     ·exact ⟨Same.refl _,_,ts,_,rfl,hD,e7,by omega⟩
    rintro σ Hz ⟨sz,a,ts',x5,rfl,na,ha,hl'⟩
    refine ⟨_,rfl,_,_,rfl,rfl,⟨by decide,by decide⟩,_,_,rfl,rfl,p8,rfl,_,rfl,?_⟩
    have s3z:Same H3 Hz:=s7.trans sz
    refine ite2 (fun _ => ?_) (fun _ => ?_)
    ·refine ⟨_,rfl,_,rfl,_,rfl,_,_,rfl,SqL.of ha,fun p5 np5 => ?_⟩
     obtain ⟨us,eus,hus⟩:=cut_ints ts' none (some (-1))
     have hul:us.length<=100:=by omega
     rw [eus]
     exact ⟨s3z.trans (Same.new np5),_,_,rfl,.inl ⟨rfl,p5,us,rfl,s3z.free np5,zaf,hul⟩⟩
    ·exact ⟨s3z,_,_,rfl,.inl ⟨rfl,a,ts',rfl,na,ha,by omega⟩⟩
   ·rw [decide_eq_false (fun z=>hd (by injection z))]
    refine iteF ?_
    exact ⟨Same.refl _,_,_,rfl,.inr ⟨hd,_,rfl⟩⟩
  rintro σ Hy ⟨sy,mv,x5,rfl,hm⟩
  refine ⟨_,rfl,_,rfl,_,rfl,bigr rfl,fun pt npt => ?_⟩
  have st:Same Hy (upd Hy pt (.tup [.int d,.str x,mv])):=Same.new npt
  exact q pt _ d x mv ((s13.trans sy).trans st) zaf hd0 hd5 hx ((hm.same st).back s13)
theorem full_few {past:List Combs} {cs:Combs} (h:past.length < 300):full past cs = .ok cs:=by unfold full; rw [if_neg (by omega)]
theorem zc3 {past:List Combs} {cs cs':Combs} (h:full past cs = .ok cs'):cs'=cs:=by
 unfold full at h
 split at h
 ·cases h
 ·exact (Except.ok.inj h).symm
theorem zck {past:List Combs} {cs:Combs} {j:Nat} (h:full past cs = .error j):j=9:=by
 unfold full at h
 split at h
 ·cases h; rfl
 ·cases h
noncomputable def DoOk (K:W.Frag) (H:Hp) (d:Int) (x:Str) (mv:V) (cs:Combs) (past:List Combs) (r:Except Nat Combs):Prop :=
 (d=0/\∃ (a:Addr) (ts:List Int),mv = .ref a/\SqL K H a (ts.map V.int)/\ts.length<=1000/\r=putD cs past x ts)\/(d=1/\(∃ t,mv = .int t)/\r=dropD cs past x)\/(d=2/\∃ t,mv = .int t/\r=addD cs past x t)\/(d=3/\∃ t,mv = .int t/\r=offD cs past x t)
theorem DoOk.same {K:W.Frag} {H H':Hp} {d:Int} {x:Str} {mv:V} {cs:Combs} {past:List Combs} {r:Except Nat Combs} (h:DoOk K H d x mv cs past r) (s:Same H H'):DoOk K H' d x mv cs past r:=by
 rcases h with ⟨h0,a,ts,e,ha,h⟩ | h | h | h
 ·exact .inl ⟨h0,a,ts,e,s.seq ha,h⟩
 ·exact .inr (.inl h)
 ·exact .inr (.inr (.inl h))
 ·exact .inr (.inr (.inr h))
noncomputable def sp_do39 (K:W.Frag) (ea:Nat->Addr) (ce:Value) (C:Addr):Sp:=fun vs H Q _=>∃ b l G cs past d x mv,vs = [.ref b,.int d,.str x,mv]/\Bk C G H b l cs past/\x.length<=1000 /\
 ((∃ r,DoOk K H d x mv cs past r/\∀ H1,Same H H1->Deed ea C G H1 b l cs past (tellT Q) (refuT K ea ce Q) r)\/(d=4/\((past = []/\refuT K ea ce Q (.ref (ea 10)) none H)\/∃ ps p,past=ps ++ [p]/\∀ H',Mv b l G G H H'->Bk C G H' b l p ps->tellT Q (.int (ps.length:Int)) H')))
theorem zam {i j:Int} (h:¬ i=j):decide (V.int i=V.int j)=false:=by rw [zaR]; exact decide_eq_false h
theorem zbr {i:Int}:decide (V.int i=V.int i)=true:=decide_eq_true rfl
theorem call_list_of' {Y:Cx} (K:W.Frag) (h:Y.K=K):CallR Y (.type "list") (fun xs H Q=>∃ p ys,xs = [V.ref p]/\(SqL K H p ys\/SqT K H p ys)/\∀ l,H l=none->Q (V.ref l) (upd H l (.lst ys))):=by subst h; exact zcd
theorem zfa:FnScope ["_law_book","_law_deed","_law_word","_law_more","_law_e"] ["_law_book","_law_deed","_law_word","_law_more"] (defScope s_do):=⟨rfl,rfl,rfl,by decide +kernel,rfl,by decide +kernel,by decide +kernel⟩
theorem ok_do39 (D:DefAt K mg "_law_do" s_do) (T:Bn mg) {ea:Nat->Addr} {ce:Value} {C:Addr} (V_CombError:mg "CombError" = some ce) (B_cls:Cls K C) (C_kind:HCallee P w K mg base "_law_kind" 1 ["_law_e"] (spKind K ea))
  (M_put:Method P w K mg base C "put" (CX1 P w) 3 ["self","name","teeth"] (sp_put (K:=K) ea C)) (M_drop:Method P w K mg base C "drop" (CX1 P w) 2 ["self","name"] (sp_bdrop ea C)) (M_add_tooth:Method P w K mg base C "add_tooth" (CX1 P w) 3 ["self","name","tooth"] (sp_badd ea C)) (M_take_off:Method P w K mg base C "take_off" (CX1 P w) 3 ["self","name","tooth"] (sp_boff ea C))
  (M_undo:Method P w K mg base C "undo" (CX1 P w) 1 ["self"] (sp_bundo ea C)):Callee P w K mg base "_law_do" 4 ["_law_book","_law_deed","_law_word","_law_more"] (sp_do39 K ea ce C):=by
 refine D.callee zfa (fun _ _ _ _ _ _=>ln4 fun _ _ _ _=>rfl) (fun vs H Q E h => ?_) (fun f cdv A outer s H vs Q E hr h => ?_)
 ·obtain ⟨b,l,G,cs,past,d,x,mv,rfl,_⟩:=h
  rfl
 ·obtain ⟨b,l,G,cs,past,d,x,mv,rfl,B,hxl,h⟩:=h
  have S:=zfa
  obtain ⟨dx,dd,hb,_⟩:=id B.ins
  refine ⟨_,zad (zeS (i:=4) rfl rfl S.nd rfl rfl rfl V_CombError (fun E pn=>zag (zat (zak zaF (pv 1) (zac) (zan _))
    (zad (zaq (zaI (zaa (zah) (zaa (zbC (pv 0) B_cls M_put (hr.mono (by decide)) (by first | exact zba | exact zap | exact zaK | exact zar) (zaa (pv 2) (zaa (zaP (call_list_of' K rfl) rfl T.n_list boot_list (zaa (pv 3) zab)) zab))) zab)))))
    (zaj))
   (zag (zat (zak zaF (pv 1) (zac) (zan _))
    (zad (zaq (zaI (zaa (zah) (zaa (zbC (pv 0) B_cls M_drop (hr.mono (by decide)) (by first | exact zba | exact zap | exact zaK | exact zar) (zaa (pv 2) zab)) zab)))))
    (zaj))
   (zag (zat (zak zaF (pv 1) (zac) (zan _))
    (zad (zaq (zaI (zaa (zah) (zaa (zbC (pv 0) B_cls M_add_tooth (hr.mono (by decide)) (by first | exact zba | exact zap | exact zaK | exact zar) (zaa (pv 2) (zaa (pv 3) zab))) zab)))))
    (zaj))
   (zag (zat (zak zaF (pv 1) (zac) (zan _))
    (zad (zaq (zaI (zaa (zah) (zaa (zbC (pv 0) B_cls M_take_off (hr.mono (by decide)) (by first | exact zba | exact zap | exact zaK | exact zar) (zaa (pv 2) (zaa (pv 3) zab))) zab)))))
    (zaj))
   (zad (zaq (zaI (zaa (zah) (zaa (zet (pv 0) B_cls M_undo (hr.mono (by decide)) (by first | exact zba | exact zap | exact zaK | exact zar)) zab)))))))))
   (fun x c ox pn vs hc hd h2 hx=>zad (zaq (zaI (zaa (zah) (zaa (zeu C_kind hr hx hc hd h2 (by decide) rfl (zaa (pv 4) zab)) zab)))))),?_⟩
  refine ⟨refuT K ea ce Q,?_,fun c H' x' hE hx' => ?_⟩
  ·rcases h with ⟨r,h,dq⟩ | ⟨rfl,h⟩
   ·rcases h with ⟨rfl,a,ts,rfl,ha,htl,rfl⟩ | ⟨rfl,⟨t,rfl⟩,rfl⟩ | ⟨rfl,t,rfl,rfl⟩ | ⟨rfl,t,rfl,rfl⟩
    ·refine ⟨_,rfl,rfl,_,rfl,?_⟩
     rw [zbr]
     exact iteT ⟨_,rfl,b,dx,_,rfl,hb,rfl,_,rfl,_,rfl,_,_,rfl,.inl ha,fun p np=>⟨b,l,G,cs,past,x,p,ts,rfl,B.same (Same.new np),SqL.of zaf,big hxl,htl,dq _ (Same.new np)⟩⟩
    ·refine ⟨_,rfl,rfl,_,rfl,?_⟩
     rw [zam (by decide)]
     refine iteF ⟨_,rfl,rfl,_,rfl,?_⟩
     rw [zbr]
     exact iteT ⟨_,rfl,b,dx,_,rfl,hb,rfl,_,rfl,b,l,G,cs,past,x,rfl,B,dq _ (Same.refl _)⟩
    ·refine ⟨_,rfl,rfl,_,rfl,?_⟩
     rw [zam (by decide)]
     refine iteF ⟨_,rfl,rfl,_,rfl,?_⟩
     rw [zam (by decide)]
     refine iteF ⟨_,rfl,rfl,_,rfl,?_⟩
     rw [zbr]
     exact iteT ⟨_,rfl,b,dx,_,rfl,hb,rfl,_,rfl,_,rfl,b,l,G,cs,past,x,t,rfl,B,dq _ (Same.refl _)⟩
    ·refine ⟨_,rfl,rfl,_,rfl,?_⟩
     rw [zam (by decide)]
     refine iteF ⟨_,rfl,rfl,_,rfl,?_⟩
     rw [zam (by decide)]
     refine iteF ⟨_,rfl,rfl,_,rfl,?_⟩
     rw [zam (by decide)]
     refine iteF ⟨_,rfl,rfl,_,rfl,?_⟩
     rw [zbr]
     exact iteT ⟨_,rfl,b,dx,_,rfl,hb,rfl,_,rfl,_,rfl,b,l,G,cs,past,x,t,rfl,B,dq _ (Same.refl _)⟩
   ·refine ⟨_,rfl,rfl,_,rfl,?_⟩
    rw [zam (by decide)]
    refine iteF ⟨_,rfl,rfl,_,rfl,?_⟩
    rw [zam (by decide)]
    refine iteF ⟨_,rfl,rfl,_,rfl,?_⟩
    rw [zam (by decide)]
    refine iteF ⟨_,rfl,rfl,_,rfl,?_⟩
    rw [zam (by decide)]
    exact iteF ⟨_,rfl,b,dx,_,rfl,hb,rfl,b,l,G,cs,past,rfl,B,h⟩
  ·obtain ⟨Dd,j,rfl,kf,he,q⟩:=hE
   refine ⟨he,_,rfl,rfl,Dd,j,rfl,kf,fun p H2 s2 n2 e2=>⟨bigr rfl,fun p' np' => ?_⟩⟩
   exact q p' p H2 s2 n2 e2 np'
theorem zen {cs cs':Combs} {past:List Combs} {x:Str} {ts:List Int} (h:putD cs past x ts = .ok cs'):areTeeth ts=true/\cs'=cPut cs x (canon ts):=by
 unfold putD at h
 split at h
 ·cases h
 ·split at h
  ·cases h
  ·rename_i h2
   split at h
   ·cases h
   ·split at h
    ·cases h
    ·exact ⟨by simpa using h2,zc3 h⟩
theorem zea {cs cs':Combs} {past:List Combs} {x:Str} (h:dropD cs past x = .ok cs'):(∃ ts,cGet cs x=some ts)/\cs'=cDrop cs x:=by
 unfold dropD at h
 split at h
 ·cases h
 ·rename_i h1
  refine ⟨?_,zc3 h⟩
  cases e:cGet cs x with
  | none=>rw [e] at h1; exact absurd rfl h1
  | some ts=>exact ⟨ts,rfl⟩
theorem zeM {cs cs':Combs} {past:List Combs} {x:Str} {t:Int} (h:addD cs past x t = .ok cs'):∃ ts,cGet cs x=some ts/\inR t=true/\t ∉ ts/\cs'=cPut cs x (canon (ts ++ [t])):=by
 unfold addD at h
 split at h
 ·cases h
 ·rename_i ts e
  refine ⟨ts,e,?_⟩
  split at h
  ·cases h
  ·rename_i h1
   split at h
   ·cases h
   ·rename_i h2
    exact ⟨by simpa using h1,h2,zc3 h⟩
theorem zey {cs cs':Combs} {past:List Combs} {x:Str} {t:Int} (h:offD cs past x t = .ok cs'):∃ ts,cGet cs x=some ts/\t≠0/\cs'=cPut cs x (ts.filter fun u=>decide (u≠t)):=by
 unfold offD at h
 split at h
 ·cases h
 ·rename_i ts e
  refine ⟨ts,e,?_⟩
  split at h
  ·cases h
  ·split at h
   ·cases h
   ·rename_i h2
    split at h
    ·cases h
    ·exact ⟨h2,zc3 h⟩
noncomputable def sp_done (K:W.Frag):Sp:=fun vs H Q _=>∃ z L cs past cs' d x mv,vs = [.ref z,.int d,.str x,mv]/\Kept L H z cs/\Good cs/\DoOk K H d x mv cs past (.ok cs')/\(∀ t,H t=none->L t)/\∀ H' m,Same H H'->H m=none->Kept L H' m cs'->Q (.ref m) H'
theorem zel:FnScope ["_law_kept","_law_deed","_law_word","_law_more","_law_found"] ["_law_kept","_law_deed","_law_word","_law_more"] (defScope s_done):=⟨rfl,rfl,rfl,by decide +kernel,rfl,by decide +kernel,by decide +kernel⟩
theorem ok_done (D:DefAt K mg "_law_done" s_done) (T:Bn mg):Callee P w K mg base "_law_done" 1 ["_law_kept","_law_deed","_law_word","_law_more"] (sp_done K):=by
 refine D.callee zel (fun _ _ _ _ _ _=>ln4 fun _ _ _ _=>rfl) (fun vs H Q E h => ?_) (fun f cdv A outer s H vs Q E hr h => ?_)
 ·obtain ⟨z,L,cs,past,cs',d,x,mv,rfl,_⟩:=h
  rfl
 ·obtain ⟨z,L,cs,past,cs',d,x,mv,rfl,kz,hg,hd,fL,q⟩:=h
  have S:=zel
  have hu:=zb7 hr
  obtain ⟨kvs,hz,kr⟩:=id kz
  refine ⟨_,zag (za0 (i:=4) S.nd rfl (Or.inl rfl) (zaP zb8 rfl T.n_dict boot_dict (zaa (pv 0) zab)))
  (zaM (zat (zak zaF (pv 1) (zac) (zan _))
   (zad (zc1 hu (pv 4) (pv 2) (zai zbG rfl T.n_sorted boot_sorted (zaa (pv 3) zab)) rfl))
   (zaj))
  (zaM (zat (zak zaF (pv 1) (zac) (zan _))
   (zad (zav (zdW (pv 4) (pv 2) ⟨rfl,rfl,rfl,rfl⟩)))
   (zaj))
  (zaM (zat (zak zaF (pv 1) (zac) (zan _))
   (zad (zc1 hu (pv 4) (pv 2) (zai zbG rfl T.n_sorted boot_sorted (zaa (zaw zbg (zbD hu (pv 0) (pv 2) (fun _ _=>rfl)) (zaT (zaa (pv 3) zab))) zab)) rfl))
   (zaj))
  (zaM (zat (zak zaF (pv 1) (zac) (zan _))
   (zad (zc1 hu (pv 4) (pv 2) (zb5 (own := ["_law_t"]) (caps := [(3,"_law_more")]) rfl ⟨rfl,rfl,rfl,rfl,⟨⟨rfl,rfl,.inl rfl⟩,trivial⟩⟩ (zb4 (zbD hu (pv 0) (pv 2) (fun _ _=>rfl))) (fun _ _ _ _ _ _=>zaC (i:=0) (zbq (by decide +kernel)) rfl (Or.inl rfl)) (fun _ _ _ _ _ _=>zb3 (zak zcF (pv 0) (pv 1) (zan _))) (fun _ _ _ _ _ _=>pv 0)) rfl))
   (zaj))
  (zad (zaq (pv 4))))))),?_⟩
  refine ⟨_,rfl,z,kvs,rfl,.inl hz,fun m nm => ?_⟩
  have s1:Same H (upd H m (.dK kvs)):=Same.new nm
  have km:Kept L (upd H m (.dK kvs)) m cs:=⟨kvs,zaf,kr.mono (fun a o _ e=>s1 a o e) fun _ g=>g⟩
  generalize upd H m (.dK kvs)=H1 at s1 km
  have hlen:=hg.len
  have put:∀ (Hx H3:Hp) (r:Addr) (us:List Int),Same H Hx->Kept L Hx m cs->Same Hx H3->H3 r=some (.lst (us.map V.int))->Hx r=none->∃ kvs3,H3 m=some (.dK kvs3)/\kvs3.length < sizeLine/\Same H (upd H3 m (.dK (putK kvs3 (Sum.inr x) (.ref r))))/\Kept L (upd H3 m (.dK (putK kvs3 (Sum.inr x) (.ref r)))) m (cPut cs x us):=by
   intro Hx H3 r us sx kx s3 hr3 nr
   obtain ⟨kvs3,hm3,hl3,k3⟩:=(kx.same s3).put (x:=x) hr3 (fL r (sx.free nr))
   exact ⟨kvs3,hm3,Nat.lt_of_lt_of_le (by omega:kvs3.length < 1000) zbx,(sx.trans s3).put nm,k3⟩
  refine ⟨fun σ Hx => σ = [some (.ref z),some (.int d),some (.str x),some mv,some (.ref m)]/\Same H Hx/\Kept L Hx m (if d=0 then cs' else cs),?_,?_⟩
  ·refine ⟨_,rfl,rfl,_,rfl,?_⟩
   by_cases h0:d=0
   ·subst h0
    rw [zbr]
    refine iteT ?_
    rcases hd with ⟨_,a,ts,rfl,ha,htl,e⟩ | ⟨h,_⟩ | ⟨h,_⟩ | ⟨h,_⟩
    ·obtain ⟨htt,rfl⟩:=zen e.symm
     obtain ⟨_,tn,tr⟩:=teeth_iff.mp htt
     refine ⟨_,rfl,a,ts,rfl,s1.seq ha,by have:=zc8 tn tr; omega,fun r ns' nr hp hs => ?_⟩
     have hc:=zcn hp hs tn tr
     subst hc
     obtain ⟨kvs3,hm3,hl3,s4,k4⟩:=put H1 _ r _ s1 km (Same.new nr) zaf nr
     exact ⟨_,rfl,_,rfl,m,_,rfl,DPut.k (k:=Sum.inr x) hm3 hl3,rfl,s4,by rw [if_pos rfl]; exact k4⟩
    all_goals exact absurd h (by decide)
   ·rw [zam h0]
    exact iteF ⟨rfl,s1,by rw [if_neg h0]; exact km⟩
  clear s1 km
  rintro σ H1 ⟨rfl,s1,km⟩
  refine ⟨fun σ Hx => σ = [some (.ref z),some (.int d),some (.str x),some mv,some (.ref m)]/\Same H Hx/\Kept L Hx m (if d=0\/d=1 then cs' else cs),?_,?_⟩
  ·refine ⟨_,rfl,rfl,_,rfl,?_⟩
   by_cases h0:d=1
   ·subst h0
    rw [zbr]
    refine iteT ?_
    rw [if_neg (by decide)] at km
    rcases hd with ⟨h,_⟩ | ⟨_,⟨t,rfl⟩,e⟩ | ⟨h,_⟩ | ⟨h,_⟩
    ·exact absurd h (by decide)
    ·obtain ⟨⟨ts,hgx⟩,rfl⟩:=zea e.symm
     obtain ⟨kvs3,hm3,kd⟩:=km.drop (x:=x)
     obtain ⟨kvs3',hm3',kr3⟩:=id km
     rw [hm3] at hm3'
     cases hm3'
     have hv:∃ v,valV kvs3 (Sum.inr x)=some v:=by
      have:=kr3.some (x:=x)
      rw [hgx] at this
      exact Option.isSome_iff_exists.mp this
     obtain ⟨v,hv⟩:=hv
     refine ⟨_,rfl,m,rfl,.inl ⟨kvs3,.inl hm3⟩,_,rfl,kvs3,Sum.inr x,v,hm3,rfl,hv,?_⟩
     exact ⟨rfl,s1.put nm,by rw [if_pos (.inr rfl)]; exact kd⟩
    all_goals exact absurd h (by decide)
   ·rw [zam h0]
    refine iteF ⟨rfl,s1,?_⟩
    by_cases h1:d=0
    ·rw [if_pos (.inl h1)]; rw [if_pos h1] at km; exact km
    ·rw [if_neg (by omega)]; rw [if_neg h1] at km; exact km
  clear s1 km
  rintro σ H1 ⟨rfl,s1,km⟩
  refine ⟨fun σ Hx => σ = [some (.ref z),some (.int d),some (.str x),some mv,some (.ref m)]/\Same H Hx/\Kept L Hx m (if d=0\/d=1\/d=2 then cs' else cs),?_,?_⟩
  ·refine ⟨_,rfl,rfl,_,rfl,?_⟩
   by_cases h0:d=2
   ·subst h0
    rw [zbr]
    refine iteT ?_
    rw [if_neg (by decide)] at km
    rcases hd with ⟨h,_⟩ | ⟨h,_⟩ | ⟨_,t,rfl,e⟩ | ⟨h,_⟩
    ·exact absurd h (by decide)
    ·exact absurd h (by decide)
    ·obtain ⟨ts,hgx,hr5,hnt,rfl⟩:=zeM e.symm
     have gx:=hg.ok _ (zbj hgx)
     have hl8:ts.length<=8:=zdo gx.2
     obtain ⟨kvs3,hz3,kr3⟩:=kz.same s1
     rcases kr3.val (x:=x) with ⟨f1,_⟩ | ⟨ts',ta3,f1,f2,f3,f4⟩
     ·rw [hgx] at f1; cases f1
     rw [hgx] at f1
     cases f1
     have dg3:DGet H1 z (kV (Sum.inr x)) (some (.ref ta3)):=by rw [<- f2]; exact DGet.k hz3
     refine ⟨_,rfl,_,rfl,z,_,rfl,dg3,_,rfl,bigr rfl,fun p np => ?_⟩
     have sa:Same H1 (upd H1 p (.lst [V.int t])):=Same.new np
     refine ⟨ta3,p,_,_,rfl,rfl,sa _ _ f3,zaf,?_,fun p2 np2 => ?_⟩
     ·rw [List.length_map]
      exact big (by show ts.length + 1<=1000; omega)
     have sb:Same H1 (upd (upd H1 p (.lst [V.int t])) p2 (.lst (ts.map V.int ++ [V.int t]))):=sa.put (sa.free np2)
     have hp2:upd (upd H1 p (.lst [V.int t])) p2 (.lst (ts.map V.int ++ [V.int t])) p2=some (.lst ((ts ++ [t]).map V.int)):=by rw [zaf,List.map_append]; rfl
     generalize upd (upd H1 p (.lst [V.int t])) p2 (.lst (ts.map V.int ++ [V.int t]))=H7 at sb hp2
     refine ⟨p2,ts ++ [t],rfl,SqL.of hp2,by rw [List.length_append,List.length_singleton]; omega,fun r ns' nr hp hs => ?_⟩
     have htt:=teeth_iff.mp (zcI gx.2 hr5 hnt)
     have hc:=zcn hp hs htt.2.1 htt.2.2
     subst hc
     obtain ⟨kvs8,hm8,hl8',s8,k8⟩:=put H1 _ r _ s1 km (sb.put (sb.free nr)) zaf (sb.free nr)
     exact ⟨_,rfl,_,rfl,m,_,rfl,DPut.k (k:=Sum.inr x) hm8 hl8',rfl,s8,by rw [if_pos (.inr (.inr rfl))]; exact k8⟩
    ·exact absurd h (by decide)
   ·rw [zam h0]
    refine iteF ⟨rfl,s1,?_⟩
    by_cases h1:d=0\/d=1
    ·rw [if_pos (by omega)]; rw [if_pos h1] at km; exact km
    ·rw [if_neg (by omega)]; rw [if_neg h1] at km; exact km
  clear s1 km
  rintro σ H1 ⟨rfl,s1,km⟩
  refine ⟨fun σ Hx => σ = [some (.ref z),some (.int d),some (.str x),some mv,some (.ref m)]/\Same H Hx/\Kept L Hx m cs',?_,?_⟩
  ·refine ⟨_,rfl,rfl,_,rfl,?_⟩
   by_cases h0:d=3
   ·subst h0
    rw [zbr]
    refine iteT ?_
    rw [if_neg (by decide)] at km
    rcases hd with ⟨h,_⟩ | ⟨h,_⟩ | ⟨h,_⟩ | ⟨_,t,rfl,e⟩
    ·exact absurd h (by decide)
    ·exact absurd h (by decide)
    ·exact absurd h (by decide)
    ·obtain ⟨ts,hgx,ht0,rfl⟩:=zey e.symm
     have gx:=hg.ok _ (zbj hgx)
     have hl8:ts.length<=8:=zdo gx.2
     obtain ⟨kvs3,hz3,kr3⟩:=kz.same s1
     rcases kr3.val (x:=x) with ⟨f1,_⟩ | ⟨ts',ta3,f1,f2,f3,f4⟩
     ·rw [hgx] at f1; cases f1
     rw [hgx] at f1
     cases f1
     have dg3:DGet H1 z (kV (Sum.inr x)) (some (.ref ta3)):=by rw [<- f2]; exact DGet.k hz3
     refine ⟨_,rfl,_,rfl,z,_,rfl,dg3,ta3,rfl,⟨_,SqL.of f3⟩,fun r nr => ?_⟩
     refine zb0 (capv := [some (.int t)]) (by rfl) (za3 K ta3 (ts.map V.int)) (by rw [List.length_map]; exact big (by omega)) nr (fun H' s'=>SqL.of (s' _ _ f3)) (neI t) (fun v=>v) ?_ ?_ ?_
     ·intro v hv H' R s' h
      obtain ⟨u,hu',rfl⟩:=List.mem_map.mp hv
      refine ⟨_,rfl,_,rfl,rfl,_,rfl,?_⟩
      have e:(!decide (V.int u=V.int t))=neI t (V.int u):=by
       show _=decide (u≠t)
       rw [zaR,decide_not]
      rw [e]
      exact h H' (Same.refl _)
     ·intro v hv hp H' R s' h
      exact ⟨_,rfl,h H' (Same.refl _)⟩
     intro H8 sc hr8
     rw [zds] at hr8
     obtain ⟨kvs8,hm8,hl8',s8,k8⟩:=put H1 H8 r _ s1 km sc hr8 nr
     exact ⟨_,rfl,_,rfl,m,_,rfl,DPut.k (k:=Sum.inr x) hm8 hl8',rfl,s8,k8⟩
   ·rw [zam h0]
    refine iteF ⟨rfl,s1,?_⟩
    rw [if_pos] at km
    ·exact km
    ·rcases hd with ⟨h,_⟩ | ⟨h,_⟩ | ⟨h,_⟩ | ⟨h,_⟩ <;> omega
  rintro σ H5 ⟨rfl,s5,k5⟩
  exact ⟨_,rfl,q H5 m s5 nm k5⟩
theorem in_abc (c:Nat):(!(Builtin.Str.occurrences (Str.ofString "abcdefghijklmnopqrstuvwxyz") ⟨#[c]⟩ 0 (Str.ofString "abcdefghijklmnopqrstuvwxyz").length 1).isEmpty)=small c:=by
 rw [PySem.StrLaws.found_one]
 have e:(Str.ofString "abcdefghijklmnopqrstuvwxyz").cps.toList=(List.range 26).map (97 + ·):=by decide +kernel
 rw [e]
 rw [Bool.eq_iff_iff]
 unfold small
 simp only [decide_eq_true_eq,List.mem_map,List.mem_range,Bool.and_eq_true]
 constructor
 ·rintro ⟨i,hi,rfl⟩; omega
 ·rintro ⟨h1,h2⟩; exact ⟨c - 97,by omega,by omega⟩
noncomputable def smallV (v:V):Bool:=match v with
 | .str y=>small (y.cps.getD 0 0)
 | _=>false
noncomputable def sp_isname:Sp:=fun vs H Q _=>∃ x:Str,vs = [.str x]/\x.length<=1000/\∀ H',Same H H'->Q (.bl (isName x)) H'
theorem zda:FnScope ["_law_word","_law_small"] ["_law_word"] (defScope s_isname):=⟨rfl,rfl,rfl,by decide +kernel,rfl,by decide +kernel,by decide +kernel⟩
theorem ok_isname (D:DefAt K mg "_law_isname" s_isname) (T:Bn mg):Callee P w K mg base "_law_isname" 1 ["_law_word"] sp_isname:=by
 refine D.callee zda (fun _ _ _ _ _ _=>ln1 fun _=>rfl) (fun vs H Q E h => ?_) (fun f cdv A outer s H vs Q E hr h => ?_)
 ·obtain ⟨x,rfl,_⟩:=h
  rfl
 ·obtain ⟨x,rfl,hx,q⟩:=h
  have S:=zda
  have hxS:x.length<=sizeLine:=big hx
  refine ⟨_,zag (zep (i:=1) S.nd rfl (Or.inl rfl) (own := ["_law_one"]) (caps := []) rfl ⟨rfl,rfl,rfl,rfl,trivial⟩ (zeT (pv 0)) (fun _ _ _ _ _ _=>zaC (i:=0) (zbq (by decide +kernel)) rfl (Or.inl rfl)) (fun _ _ _ _ _ _=>zb3 (zak op_in_str (pv 0) (zah) (by with_unfolding_all rfl))) (fun _ _ _ _ _ _=>pv 0))
  (zad (zaq (zdf (zbE zbo (zac) (zai zbh rfl T.n_len PySem.boot_len (zaa (pv 0) zab)) (zan _)) (zdf (zbE zbo (zai zbh rfl T.n_len PySem.boot_len (zaa (pv 0) zab)) (zac) (zan _)) (zdV (zbE zaF (zai zao rfl T.n_len PySem.boot_len (zaa (pv 1) zab)) (zai zbh rfl T.n_len PySem.boot_len (zaa (pv 0) zab)) (zan _))))))),?_⟩
  refine ⟨_,rfl,x,rfl,fun Dc hD => ?_⟩
  refine zb0 (capv := []) (by rfl) (zdp x) (by rw [List.length_map,zdz]; exact hxS) hD (fun _ _=>trivial) smallV (fun v=>v) ?_ ?_ ?_
  ·intro v hv H' R s' h
   obtain ⟨c,hc,rfl⟩:=List.mem_map.mp hv
   refine ⟨_,rfl,_,_,rfl,rfl,_,rfl,?_⟩
   rw [in_abc]
   exact h H' (Same.refl _)
  ·intro v hv hp H' R s' h
   exact ⟨_,rfl,h H' (Same.refl _)⟩
  intro H1 s1 e1
  have el:((((x.cps.toList.map sgn).filter smallV).map fun v=>v).length:Int)=((x.cps.toList.filter small).length:Int):=by
   rw [List.map_id',List.filter_map,List.length_map]
   rfl
  have qq:=q H1 s1
  rw [<- name_filter] at qq
  refine ⟨_,rfl,_,rfl,hxS,_,_,rfl,rfl,_,rfl,?_⟩
  cases h1:decide ((1:Int)<=(x.length:Int)) with
  | false=>rw [h1] at qq; exact iteF qq
  | true =>
   rw [h1] at qq
   refine iteT ?_
   refine ⟨_,rfl,_,rfl,hxS,_,_,rfl,rfl,_,rfl,?_⟩
   cases h2:decide ((x.length:Int)<=6) with
   | false=>rw [h2] at qq; exact iteF qq
   | true =>
    rw [h2] at qq
    refine iteT ?_
    refine ⟨_,rfl,_,_,rfl,.inl (SqL.of e1),_,rfl,_,rfl,hxS,rfl,?_⟩
    rw [zaR,el]
    exact qq
noncomputable def outV (v:V):Bool:=match v with
 | .int t => !inR t
 | _=>false
noncomputable def sp_isteeth (K:W.Frag):Sp:=fun vs H Q _=>∃ (a:Addr) (ts:List Int),vs = [.ref a]/\SqL K H a (ts.map V.int)/\ts.length<=1000/\∀ H',Same H H'->Q (.bl (areTeeth ts)) H'
theorem zcO:FnScope ["_law_teeth"] ["_law_teeth"] (defScope s_isteeth):=⟨rfl,rfl,rfl,by decide +kernel,rfl,by decide +kernel,by decide +kernel⟩
theorem ok_isteeth (D:DefAt K mg "_law_isteeth" s_isteeth) (T:Bn mg):Callee P w K mg base "_law_isteeth" 1 ["_law_teeth"] (sp_isteeth K):=by
 refine D.callee zcO (fun _ _ _ _ _ _=>ln1 fun _=>rfl) (fun vs H Q E h => ?_) (fun f cdv A outer s H vs Q E hr h => ?_)
 ·obtain ⟨a,ts,rfl,_⟩:=h
  rfl
 ·obtain ⟨a,ts,rfl,ha,hl,q⟩:=h
  have S:=zcO
  refine ⟨_,zag (zat (zak ze7 (zai zao rfl T.n_len PySem.boot_len (zaa (zb5 (own := ["_law_t"]) (caps := []) rfl ⟨rfl,rfl,rfl,rfl,trivial⟩ (zb4 (pv 0)) (fun _ _ _ _ _ _=>zaC (i:=0) (zbq (by decide +kernel)) rfl (Or.inl rfl)) (fun _ _ _ _ _ _=>zb3 (PW.pt (zde (zak zex (pv 0) (zac) (zan _)) (zcs (zak ze7 (pv 0) (zac) (zan _)))))) (fun _ _ _ _ _ _=>pv 0)) zab)) (zac) (zan _))
   (zad (zaq (zbi)))
   (zaj))
  (zad (zaq (zdf (zbE zaF (zbK PySem.F.plainAttrs_list PySem.F.slot_list_count PySem.F.type_list_count zd4 (pv 0) (zaa (zac) zab)) (zac) (zan _)) (zdV (zai (zc6 rfl) rfl T.n_all boot_all (zaa (zb5 (own := ["_law_t"]) (caps := [(0,"_law_teeth")]) rfl ⟨rfl,rfl,rfl,rfl,⟨⟨rfl,rfl,.inl rfl⟩,trivial⟩⟩ (zbB rfl T.n_range (zaa (zac) zab)) (fun _ _ _ _ _ _=>zaC (i:=0) (zbq (by decide +kernel)) rfl (Or.inl rfl)) (fun _ _ _ _ _ _=>zdB) (fun _ _ _ _ _ _=>zbE zbo (pe_bm' K rfl PySem.F.plainAttrs_list PySem.F.slot_list_count PySem.F.type_list_count (mt_count' K rfl) (pv 1) (zaa (pv 0) zab)) (zac) (zan _))) zab)))))),?_⟩
  refine ⟨_,rfl,a,rfl,⟨_,ha⟩,fun Dc hD => ?_⟩
  refine zb0 (capv := []) (by rfl) (za3 K a (ts.map V.int)) (by rw [List.length_map]; exact big hl) hD (fun H' s'=>s'.seq ha) outV (fun v=>v) ?_ ?_ ?_
  ·intro v hv H' R s' h
   obtain ⟨t,ht,rfl⟩:=List.mem_map.mp hv
   have h:=h H' (Same.refl _)
   refine ⟨_,rfl,_,_,rfl,rfl,_,rfl,?_⟩
   by_cases h0:t < 0
   ·have e:outV (.int t)=true:=by
     show (!inR t)=true
     have:inR t=false:=by rw [Bool.eq_false_iff]; exact fun z=>by have:=inR_iff.mp z; omega
     rw [this]; rfl
    rw [e] at h
    rw [decide_eq_true h0]
    exact iteT h
   ·rw [decide_eq_false h0]
    refine iteF ⟨_,rfl,_,_,rfl,rfl,_,rfl,?_⟩
    have e:outV (.int t)=decide (7 < t):=by
     show (!inR t)=_
     rw [Bool.eq_iff_iff,Bool.not_eq_true',decide_eq_true_eq,Bool.eq_false_iff,ne_eq,inR_iff]
     omega
    rw [e] at h
    exact h
  ·intro v hv hp H' R s' h
   exact ⟨_,rfl,h H' (Same.refl _)⟩
  intro H1 s1 e1
  have el:((((ts.map V.int).filter outV).map fun v=>v).length:Int)=((ts.filter fun t => !inR t).length:Int):=by
   rw [List.map_id',List.filter_map,List.length_map]
   rfl
  refine ⟨_,_,rfl,.inl (SqL.of e1),_,_,rfl,rfl,_,rfl,?_⟩
  rw [el]
  have ha1:=s1.seq ha
  cases hc:decide ((0:Int) < ((ts.filter fun t => !inR t).length:Int)) with
  | true =>
   have qq:=q H1 s1
   rw [<- zbN,hc] at qq
   exact iteT qq
  | false =>
   refine iteF ?_
   refine ⟨_,rfl,.inl ⟨rfl,_,ha1⟩,a,ts,0,rfl,rfl,ha1,rfl,_,rfl,?_⟩
   rw [zaR]
   cases h1:decide (((ts.count 0:Nat):Int)=1) with
   | false =>
    have qq:=q H1 s1
    rw [<- zbN,hc,h1] at qq
    exact iteF qq
   | true =>
    refine iteT ?_
    refine ⟨_,rfl,by decide,by decide,fun D2 hD2 => ?_⟩
    refine zb0 (capv := [some (.ref a)]) (by rfl) (zaY 0 (8:Int).toNat) (bigr rfl) hD2 (fun _ _=>trivial) (fun _=>true) (fun v=>match v with | .int t => .bl (decide (((ts.count t:Nat):Int)<=1)) | _ => .non) ?_ ?_ ?_
    ·exact fun v hv H' R s' h=>h H' (Same.refl _)
    ·intro v hv _ H' R s' h
     obtain ⟨t,ht,rfl⟩:=List.mem_map.mp hv
     have ha':=s'.seq ha1
     exact ⟨_,rfl,.inl ⟨rfl,_,ha'⟩,_,rfl,a,ts,_,rfl,rfl,ha',_,_,rfl,rfl,h H' (Same.refl _)⟩
    intro H2 s2 e2
    refine ⟨D2,(List.range 8).map fun t=>decide (((ts.count ((t:Nat):Int):Nat):Int)<=1),rfl,SqL.of ?_,?_⟩
    ·rw [e2]
     congr 2
    ·have qq:=q H2 (s1.trans s2)
     rw [<- zbN,hc,h1] at qq
     rw [List.all_map]
     exact qq
noncomputable def fl (l:List (Bool×Str)):List Str:=(l.filter (·.1)).map (·.2)
theorem zeF (l:List (Bool×Str)) (b:Bool) (s:Str):fl (l ++ [(b,s)])=fl l ++ (if b=true then [s] else []):=by
 unfold fl
 rw [List.filter_append,List.map_append]
 cases b <;> rfl
noncomputable def dueN (r:Except Nat Combs):Str:=match r with
 | .ok _=>Str.ofString ""
 | .error j=>errName j
noncomputable def conds (d:Int) (cs:Combs) (n:Int) (x:Str) (tt:Bool) (t:Int) (ts:List Int):List (Bool×Str) :=
 [(decide (d=0) && !isName x,Str.ofString "BadName"),(decide (d=0) && !tt,Str.ofString "BadTeeth"),(decide (d=0) && (cGet cs x).isSome,Str.ofString "NameTaken"),(decide (d=0) && decide ((cs.length:Int)=8),Str.ofString "BookFull"),(decide (d ∈ [(1:Int),2,3]) && !(cGet cs x).isSome,Str.ofString "NoComb"),
  (decide (d ∈ [(2:Int),3]) && (decide (t < 0) || decide (7 < t)),Str.ofString "BadTooth"),(decide (d=3) && decide (t=0),Str.ofString "FirstTooth"),(decide (d=2) && decide (t∈ts),Str.ofString "ToothThere"),(decide (d=3) && !decide (t∈ts),Str.ofString "ToothMissing"),(decide (d=4) && decide (n=0),Str.ofString "NothingDone")]
theorem ze1 (t:Int):(decide (t < 0) || decide (7 < t)) = !inR t:=by
 rw [Bool.eq_iff_iff,Bool.or_eq_true,Bool.not_eq_true',Bool.eq_false_iff,ne_eq,inR_iff,decide_eq_true_eq,decide_eq_true_eq]
 omega
noncomputable def DueOk (K:W.Frag) (H:Hp) (d:Int) (x:Str) (mv:V) (cs:Combs) (past:List Combs) (nm:Str):Prop :=
 (∃ r,DoOk K H d x mv cs past r/\nm=dueN r)\/((d=4\/d=5)/\(∃ t,mv = .int t)/\nm=if d=4/\past = [] then Str.ofString "NothingDone" else Str.ofString "")
theorem due_first {K:W.Frag} {H:Hp} {d:Int} {x:Str} {mv:V} {cs:Combs} {past:List Combs} {nm:Str} (h:DueOk K H d x mv cs past nm) (h8:cs.length<=8) (hf:past.length < 300) (tt:Bool) (t:Int) (ts:List Int)
  (h0:d=0->∃ us,nm=dueN (putD cs past x us)/\tt=areTeeth us) (h1:∀ t',mv = .int t'->t=t') (hts:ts=(cGet cs x).getD []) :
  (fl (conds d cs (past.length:Int) x tt t ts) ++ [Str.ofString ""])[0]?=some nm:=by
 have ef:full past=fun cs=>Except.ok cs:=funext fun cs=>full_few hf
 rcases h with ⟨r,h,rfl⟩ | ⟨hd,-,rfl⟩
 ·rcases h with ⟨rfl,a,us,rfl,ha,htl,rfl⟩ | ⟨rfl,⟨t',rfl⟩,rfl⟩ | ⟨rfl,t',rfl,rfl⟩ | ⟨rfl,t',rfl,rfl⟩
  ·obtain ⟨us',e',ht⟩:=h0 rfl
   rw [e']
   subst ht
   have e8:decide ((cs.length:Int)=8)=decide (8<=cs.length):=by rw [decide_eq_decide]; omega
   unfold conds fl putD
   rw [ef,e8]
   cases isName x <;> cases areTeeth us' <;> cases (cGet cs x).isSome <;> by_cases hh:8<=cs.length <;> simp [hh,dueN,errName,errNames]
  ·unfold conds fl dropD
   rw [ef]
   cases (cGet cs x).isSome <;> simp [dueN,errName,errNames]
  ·have ht:=h1 t' rfl
   subst ht
   unfold conds fl addD
   rw [ef,ze1]
   cases e:cGet cs x with
   | none=>cases inR t <;> simp [dueN,errName,errNames]
   | some us =>
    rw [e] at hts
    have hts:ts=us:=hts
    subst hts
    cases inR t <;> by_cases hm:t∈ts <;> simp [hm,dueN,errName,errNames]
  ·have ht:=h1 t' rfl
   subst ht
   unfold conds fl offD
   rw [ef,ze1]
   cases e:cGet cs x with
   | none=>cases inR t <;> by_cases hz:t=0 <;> simp [hz,dueN,errName,errNames]
   | some us =>
    rw [e] at hts
    have hts:ts=us:=hts
    subst hts
    cases inR t <;> by_cases hz:t=0 <;> by_cases hm:t∈ts <;> simp [hz,hm,dueN,errName,errNames]
 ·rcases hd with rfl | rfl
  ·unfold conds fl
   cases past with
   | nil=>simp
   | cons p ps =>
    have e:decide (((p :: ps).length:Int)=0)=false:=decide_eq_false (by rw [List.length_cons]; omega)
    rw [e]
    simp
  ·unfold conds fl
   simp
noncomputable def sp_due39 (K:W.Frag):Sp:=fun vs H Q _=>∃ z L cs past d x mv nm,vs = [.ref z,.int (past.length:Int),.int d,.str x,mv]/\Kept L H z cs/\Good cs/\cs.length<=8/\past.length < 300/\x.length<=1000/\DueOk K H d x mv cs past nm/\∀ H',Same H H'->Q (.str nm) H'
theorem fl_no {b:Bool} {s:Str} {l:List (Bool×Str)} (h:b=false):fl (l ++ [(b,s)])=fl l:=by rw [zeF,h]; simp
theorem fl_yes {b:Bool} {s:Str} {l:List (Bool×Str)} (h:b=true):(fl (l ++ [(b,s)])).map V.str=(fl l).map V.str ++ [V.str s]:=by rw [zeF,h,if_pos rfl,List.map_append]; rfl
theorem ze3 (l:List (Bool×Str)):(fl l).length<=l.length:=by
 unfold fl
 rw [List.length_map]
 exact List.length_filter_le _ _
theorem tk {l:List (Bool×Str)} {i:Nat} (h:i < 20):(l.take i).length < 20:=Nat.lt_of_le_of_lt (List.length_take_le _ _) h
structure Fd (H:Hp) (p:Addr) (l:List (Bool×Str)) (Hx:Hp):Prop where
 s:Same H Hx
 e:Hx p=some (.lst ((fl l).map V.str))
 n:H p=none
 k:l.length<=20
theorem Fd.same {H Hx H':Hp} {p:Addr} {l:List (Bool×Str)} (f:Fd H p l Hx) (s':Same Hx H'):Fd H p l H':=⟨f.s.trans s',s' _ _ f.e,f.n,f.k⟩
theorem Fd.no {H Hx:Hp} {p:Addr} {l:List (Bool×Str)} {b:Bool} {s:Str} (f:Fd H p l Hx) (h:b=false) (hl:l.length < 20):Fd H p (l ++ [(b,s)]) Hx:=⟨f.s,by rw [fl_no h]; exact f.e,f.n,by rw [List.length_append,List.length_singleton]; omega⟩
theorem Fd.yes {H Hx:Hp} {p:Addr} {l:List (Bool×Str)} {b:Bool} {s:Str} (f:Fd H p l Hx) (h:b=true) (hl:l.length < 20):Fd H p (l ++ [(b,s)]) (upd Hx p (.lst ((fl l).map V.str ++ [V.str s]))):=⟨f.s.put f.n,by rw [zaf,fl_yes h],f.n,by rw [List.length_append,List.length_singleton]; omega⟩
theorem Fd.small {H Hx:Hp} {p:Addr} {l:List (Bool×Str)} (f:Fd H p l Hx):((fl l).map V.str).length < sizeLine:=by
 rw [List.length_map]
 have:=ze3 l
 have:=f.k
 exact Nat.lt_of_lt_of_le (by omega:(fl l).length < 1000) zbx
theorem zcQ:FnScope ["_law_kept","_law_stands","_law_deed","_law_word","_law_more","_law_found"] ["_law_kept","_law_stands","_law_deed","_law_word","_law_more"] (defScope s_duedeed):=⟨rfl,rfl,rfl,by decide +kernel,rfl,by decide +kernel,by decide +kernel⟩
theorem ok_duedeed (D:DefAt K mg "_law_duedeed" s_duedeed) (T:Bn mg) (C_isname:Callee P w K mg base "_law_isname" 1 ["_law_word"] sp_isname) (C_isteeth:Callee P w K mg base "_law_isteeth" 1 ["_law_teeth"] (sp_isteeth K)):Callee P w K mg base "_law_duedeed" 2 ["_law_kept","_law_stands","_law_deed","_law_word","_law_more"] (sp_due39 K):=by
 refine D.callee zcQ (fun _ _ _ _ _ _=>ln5 fun _ _ _ _ _=>rfl) (fun vs H Q E h => ?_) (fun f cdv A outer s H vs Q E hr h => ?_)
 ·obtain ⟨z,L,cs,past,d,x,mv,nm,rfl,_⟩:=h
  rfl
 ·obtain ⟨z,L,cs,past,d,x,mv,nm,rfl,kz,hg,h8,hf,hx,hd,q⟩:=h
  have S:=zcQ
  have hu:=zb7 hr
  obtain ⟨kvs,hz,kr⟩:=id kz
  obtain ⟨tt,t,h0,h1⟩:∃ (tt:Bool) (t:Int),(d=0->∃ (a:Addr) (us:List Int),mv = .ref a/\SqL K H a (us.map V.int)/\us.length<=1000/\nm=dueN (putD cs past x us)/\tt=areTeeth us)/\(0 < d->mv = .int t):=by
   rcases hd with ⟨r,hd,en⟩ | ⟨hd,⟨t,e⟩,_⟩
   ·rcases hd with ⟨rfl,a,us,e,ha,hl,hr'⟩ | ⟨rfl,⟨t,e⟩,_⟩ | ⟨rfl,t,e,_⟩ | ⟨rfl,t,e,_⟩
    ·exact ⟨areTeeth us,0,fun _=>⟨a,us,e,ha,hl,hr' ▸ en,rfl⟩,fun h=>absurd h (by decide)⟩
    ·exact ⟨true,t,fun h=>absurd h (by decide),fun _=>e⟩
    ·exact ⟨true,t,fun h=>absurd h (by decide),fun _=>e⟩
    ·exact ⟨true,t,fun h=>absurd h (by decide),fun _=>e⟩
   ·exact ⟨true,t,fun h=>by omega,fun _=>e⟩
  have hdr:0<=d:=by rcases hd with ⟨r,⟨h,_⟩ | ⟨h,_⟩ | ⟨h,_⟩ | ⟨h,_⟩,_⟩ | ⟨h,_⟩ <;> omega
  obtain ⟨ts,hts⟩:∃ ts,ts=(cGet cs x).getD []:=⟨_,rfl⟩
  have fin:(fl (conds d cs (past.length:Int) x tt t ts) ++ [Str.ofString ""])[0]?=some nm:=by
   refine due_first hd h8 hf tt t ts (fun e => ?_) (fun t' e => ?_) hts
   ·obtain ⟨a',us',_,_,_,e5,e6⟩:=h0 e
    exact ⟨us',e5,e6⟩
   ·by_cases hp:0 < d
    ·have:=h1 hp
     rw [e] at this
     injection this with z
     exact z.symm
    ·obtain ⟨a',us',e4,_⟩:=h0 (by omega)
     rw [e] at e4; cases e4
  refine ⟨_,zag (za0 (i:=5) S.nd rfl (Or.inl rfl) (zaT (zab)))
  (zaM (zat (PW.pt (zbA (zak zaF (pv 2) (zac) (zan _)) (za5 (zaJ (zaX (za1 C_isname (hr.mono (by decide)) rfl (zaa (pv 3) zab)))))))
   (zad (zav (zbK PySem.F.plainAttrs_list PySem.F.slot_list_append PySem.F.type_list_append zaz (pv 5) (zaa (zah) zab))))
   (zaj))
  (zaM (zat (PW.pt (zbA (zak zaF (pv 2) (zac) (zan _)) (za5 (zaJ (zaX (za1 C_isteeth (hr.mono (by decide)) rfl (zaa (pv 4) zab)))))))
   (zad (zav (zbK PySem.F.plainAttrs_list PySem.F.slot_list_append PySem.F.type_list_append zaz (pv 5) (zaa (zah) zab))))
   (zaj))
  (zaM (zat (PW.pt (zbA (zak zaF (pv 2) (zac) (zan _)) (za5 (zdS (zeW hu (pv 3) (pv 0))))))
   (zad (zav (zbK PySem.F.plainAttrs_list PySem.F.slot_list_append PySem.F.type_list_append zaz (pv 5) (zaa (zah) zab))))
   (zaj))
  (zaM (zat (PW.pt (zbA (zak zaF (pv 2) (zac) (zan _)) (za5 (zak zaF (zai zdt rfl T.n_len PySem.boot_len (zaa (pv 0) zab)) (zac) (zan _)))))
   (zad (zav (zbK PySem.F.plainAttrs_list PySem.F.slot_list_append PySem.F.type_list_append zaz (pv 5) (zaa (zah) zab))))
   (zaj))
  (zaM (zat (PW.pt (zbA (zak zbY (pv 2) (zaT (zaa (zac) (zaa (zac) (zaa (zac) zab)))) (by with_unfolding_all rfl)) (za5 (zdS (zdg hu (pv 3) (pv 0))))))
   (zad (zav (zbK PySem.F.plainAttrs_list PySem.F.slot_list_append PySem.F.type_list_append zaz (pv 5) (zaa (zah) zab))))
   (zaj))
  (zaM (zat (PW.pt (zbA (zak zbY (pv 2) (zaT (zaa (zac) (zaa (zac) zab))) (by with_unfolding_all rfl)) (za5 (PW.pt (zde (zak zex (pv 4) (zac) (zan _)) (zcs (zak ze7 (pv 4) (zac) (zan _))))))))
   (zad (zav (zbK PySem.F.plainAttrs_list PySem.F.slot_list_append PySem.F.type_list_append zaz (pv 5) (zaa (zah) zab))))
   (zaj))
  (zaM (zat (PW.pt (zbA (zak zaF (pv 2) (zac) (zan _)) (za5 (zak zaF (pv 4) (zac) (zan _)))))
   (zad (zav (zbK PySem.F.plainAttrs_list PySem.F.slot_list_append PySem.F.type_list_append zaz (pv 5) (zaa (zah) zab))))
   (zaj))
  (zaM (zat (PW.pt (zbA (zak zaF (pv 2) (zac) (zan _)) (za5 (zak zbY (pv 4) (zdY hu (pv 0) (pv 3) (zaT (zab)) ⟨rfl,rfl,rfl,rfl⟩) (by with_unfolding_all rfl)))))
   (zad (zav (zbK PySem.F.plainAttrs_list PySem.F.slot_list_append PySem.F.type_list_append zaz (pv 5) (zaa (zah) zab))))
   (zaj))
  (zaM (zat (PW.pt (zbA (zak zaF (pv 2) (zac) (zan _)) (za5 (zak zbF (pv 4) (zdY hu (pv 0) (pv 3) (zaT (zab)) ⟨rfl,rfl,rfl,rfl⟩) (by with_unfolding_all rfl)))))
   (zad (zav (zbK PySem.F.plainAttrs_list PySem.F.slot_list_append PySem.F.type_list_append zaz (pv 5) (zaa (zah) zab))))
   (zaj))
  (zaM (zat (PW.pt (zbA (zak zaF (pv 2) (zac) (zan _)) (za5 (zak zaF (pv 1) (zac) (zan _)))))
   (zad (zav (zbK PySem.F.plainAttrs_list PySem.F.slot_list_append PySem.F.type_list_append zaz (pv 5) (zaa (zah) zab))))
   (zaj))
  (zad (zaq (zaO zax (zaw zbg (pv 5) (zaT (zaa (zah) zab))) (zac) (fun _ _=>rfl)))))))))))))),?_⟩
  refine ⟨bigr rfl,fun p np => ?_⟩
  have f1:Fd H p ((conds d cs (past.length:Int) x tt t ts).take 0) (upd H p (.lst [])):=⟨Same.new np,zaf,np,by rw [List.take_zero]; decide⟩
  generalize upd H p (.lst [])=H1 at f1
  refine ⟨fun σ Hx => σ = [some (.ref z),some (.int (past.length:Int)),some (.int d),some (.str x),some mv,some (.ref p)]/\Fd H p ((conds d cs (past.length:Int) x tt t ts).take 1) Hx,?_,?_⟩
  ·refine ⟨_,rfl,rfl,_,rfl,?_⟩
   by_cases h:d=0
   ·rw [show decide (V.int d=V.int 0)=true by rw [zaR]; exact decide_eq_true h]
    refine iteT ⟨_,rfl,x,rfl,hx,fun H2 s2=>⟨_,rfl,?_⟩⟩
    have f2:=f1.same s2
    cases hb:isName x with
    | false=>exact iteT ⟨_,rfl,.inl ⟨rfl,_,SqL.of f2.e⟩,p,_,_,rfl,rfl,f2.e,f2.small,rfl,f2.yes (by rw [decide_eq_true h,hb]; rfl) (tk (by decide))⟩
    | true=>exact iteF ⟨rfl,f2.no (by rw [hb]; simp) (tk (by decide))⟩
   ·rw [zam h]
    exact iteF (iteF ⟨rfl,f1.no (by rw [decide_eq_false h]; rfl) (tk (by decide))⟩)
  clear f1 H1
  rintro σ H1 ⟨rfl,f1⟩
  refine ⟨fun σ Hx => σ = [some (.ref z),some (.int (past.length:Int)),some (.int d),some (.str x),some mv,some (.ref p)]/\Fd H p ((conds d cs (past.length:Int) x tt t ts).take 2) Hx,?_,?_⟩
  ·refine ⟨_,rfl,rfl,_,rfl,?_⟩
   by_cases h:d=0
   ·rw [show decide (V.int d=V.int 0)=true by rw [zaR]; exact decide_eq_true h]
    obtain ⟨a,us,e,ha,hl,_,ett⟩:=h0 h
    refine iteT ⟨_,rfl,a,us,?_,f1.s.seq ha,hl,fun H2 s2=>⟨_,rfl,?_⟩⟩
    ·rw [e]; rfl
    have f2:=f1.same s2
    rw [<- ett]
    cases hb:tt with
    | false=>exact iteT ⟨_,rfl,.inl ⟨rfl,_,SqL.of f2.e⟩,p,_,_,rfl,rfl,f2.e,f2.small,rfl,f2.yes (by simp [h,hb]) (tk (by decide))⟩
    | true=>exact iteF ⟨rfl,f2.no (by simp [hb]) (tk (by decide))⟩
   ·rw [zam h]
    exact iteF (iteF ⟨rfl,f1.no (by rw [decide_eq_false h]; rfl) (tk (by decide))⟩)
  clear f1 H1
  rintro σ H1 ⟨rfl,f1⟩
  refine ⟨fun σ Hx => σ = [some (.ref z),some (.int (past.length:Int)),some (.int d),some (.str x),some mv,some (.ref p)]/\Fd H p ((conds d cs (past.length:Int) x tt t ts).take 3) Hx,?_,?_⟩
  ·refine ⟨_,rfl,rfl,_,rfl,?_⟩
   by_cases h:d=0
   ·rw [show decide (V.int d=V.int 0)=true by rw [zaR]; exact decide_eq_true h]
    refine iteT ⟨_,rfl,_,rfl,z,_,rfl,DGet.k (k:=Sum.inr x) (f1.s _ _ hz),_,rfl,?_⟩
    rw [kr.some]
    cases hb:(cGet cs x).isSome with
    | true=>exact iteT ⟨_,rfl,.inl ⟨rfl,_,SqL.of f1.e⟩,p,_,_,rfl,rfl,f1.e,f1.small,rfl,f1.yes (by rw [decide_eq_true h,hb]; rfl) (tk (by decide))⟩
    | false=>exact iteF ⟨rfl,f1.no (by rw [hb]; simp) (tk (by decide))⟩
   ·rw [zam h]
    exact iteF (iteF ⟨rfl,f1.no (by rw [decide_eq_false h]; rfl) (tk (by decide))⟩)
  clear f1 H1
  rintro σ H1 ⟨rfl,f1⟩
  refine ⟨fun σ Hx => σ = [some (.ref z),some (.int (past.length:Int)),some (.int d),some (.str x),some mv,some (.ref p)]/\Fd H p ((conds d cs (past.length:Int) x tt t ts).take 4) Hx,?_,?_⟩
  ·refine ⟨_,rfl,rfl,_,rfl,?_⟩
   by_cases h:d=0
   ·rw [show decide (V.int d=V.int 0)=true by rw [zaR]; exact decide_eq_true h]
    refine iteT ⟨_,rfl,z,kvs,rfl,f1.s _ _ hz,rfl,_,rfl,?_⟩
    rw [zaR,show (kvs.length:Int)=(cs.length:Int) by rw [Paired.length kr]]
    cases hb:decide ((cs.length:Int)=8) with
    | true=>exact iteT ⟨_,rfl,.inl ⟨rfl,_,SqL.of f1.e⟩,p,_,_,rfl,rfl,f1.e,f1.small,rfl,f1.yes (by rw [decide_eq_true h,hb]; rfl) (tk (by decide))⟩
    | false=>exact iteF ⟨rfl,f1.no (by rw [hb]; simp) (tk (by decide))⟩
   ·rw [zam h]
    exact iteF (iteF ⟨rfl,f1.no (by rw [decide_eq_false h]; rfl) (tk (by decide))⟩)
  clear f1 H1
  rintro σ H1 ⟨rfl,f1⟩
  refine ⟨fun σ Hx => σ = [some (.ref z),some (.int (past.length:Int)),some (.int d),some (.str x),some mv,some (.ref p)]/\Fd H p ((conds d cs (past.length:Int) x tt t ts).take 5) Hx,?_,?_⟩
  ·refine ⟨_,rfl,bigr rfl,fun p1 np1=>⟨_,_,rfl,.inl (SqL.of zaf),rfl,zdH [(1:Int),2,3],_,rfl,?_⟩⟩
   have f2:=f1.same (Same.new (o := .lst [V.int 1,V.int 2,V.int 3]) np1)
   generalize upd H1 p1 (.lst [V.int 1,V.int 2,V.int 3])=H2 at f2 ⊢
   rw [if_neg (by decide),show inV (V.int d) [V.int 1,V.int 2,V.int 3]=decide (d ∈ [(1:Int),2,3]) from zeB d [(1:Int),2,3]]
   by_cases h:d ∈ [(1:Int),2,3]
   ·rw [decide_eq_true h]
    refine iteT ⟨_,rfl,_,rfl,z,_,rfl,DGet.k (k:=Sum.inr x) (f2.s _ _ hz),_,rfl,?_⟩
    rw [kr.some]
    cases hb:(cGet cs x).isSome with
    | false=>exact iteT ⟨_,rfl,.inl ⟨rfl,_,SqL.of f2.e⟩,p,_,_,rfl,rfl,f2.e,f2.small,rfl,f2.yes (by rw [decide_eq_true h,hb]; rfl) (tk (by decide))⟩
    | true=>exact iteF ⟨rfl,f2.no (by rw [hb]; simp) (tk (by decide))⟩
   ·rw [decide_eq_false h]
    exact iteF (iteF ⟨rfl,f2.no (by rw [decide_eq_false h]; rfl) (tk (by decide))⟩)
  clear f1 H1
  rintro σ H1 ⟨rfl,f1⟩
  refine ⟨fun σ Hx => σ = [some (.ref z),some (.int (past.length:Int)),some (.int d),some (.str x),some mv,some (.ref p)]/\Fd H p ((conds d cs (past.length:Int) x tt t ts).take 6) Hx,?_,?_⟩
  ·refine ⟨_,rfl,bigr rfl,fun p1 np1=>⟨_,_,rfl,.inl (SqL.of zaf),rfl,zdH [(2:Int),3],_,rfl,?_⟩⟩
   have f2:=f1.same (Same.new (o := .lst [V.int 2,V.int 3]) np1)
   generalize upd H1 p1 (.lst [V.int 2,V.int 3])=H2 at f2 ⊢
   rw [if_neg (by decide),show inV (V.int d) [V.int 2,V.int 3]=decide (d ∈ [(2:Int),3]) from zeB d [(2:Int),3]]
   by_cases h:d ∈ [(2:Int),3]
   ·rw [decide_eq_true h]
    have hm:=h1 (by simp at h; omega)
    subst hm
    refine iteT ⟨_,rfl,_,_,rfl,rfl,_,rfl,?_⟩
    cases ha:decide (t < 0) with
    | true=>exact iteT (iteT ⟨_,rfl,.inl ⟨rfl,_,SqL.of f2.e⟩,p,_,_,rfl,rfl,f2.e,f2.small,rfl,f2.yes (by rw [decide_eq_true h,ha]; rfl) (tk (by decide))⟩)
    | false =>
     refine iteF ⟨_,rfl,_,_,rfl,rfl,_,rfl,?_⟩
     cases hb:decide (7 < t) with
     | true=>exact iteT ⟨_,rfl,.inl ⟨rfl,_,SqL.of f2.e⟩,p,_,_,rfl,rfl,f2.e,f2.small,rfl,f2.yes (by rw [decide_eq_true h,ha,hb]; rfl) (tk (by decide))⟩
     | false=>exact iteF ⟨rfl,f2.no (by rw [ha,hb]; simp) (tk (by decide))⟩
   ·rw [decide_eq_false h]
    exact iteF (iteF ⟨rfl,f2.no (by rw [decide_eq_false h]; rfl) (tk (by decide))⟩)
  clear f1 H1
  rintro σ H1 ⟨rfl,f1⟩
  refine ⟨fun σ Hx => σ = [some (.ref z),some (.int (past.length:Int)),some (.int d),some (.str x),some mv,some (.ref p)]/\Fd H p ((conds d cs (past.length:Int) x tt t ts).take 7) Hx,?_,?_⟩
  ·refine ⟨_,rfl,rfl,_,rfl,?_⟩
   by_cases h:d=3
   ·rw [show decide (V.int d=V.int 3)=true by rw [zaR]; exact decide_eq_true h]
    have hm:=h1 (by omega)
    subst hm
    refine iteT ⟨_,rfl,rfl,_,rfl,?_⟩
    rw [zaR]
    cases hb:decide (t=0) with
    | true=>exact iteT ⟨_,rfl,.inl ⟨rfl,_,SqL.of f1.e⟩,p,_,_,rfl,rfl,f1.e,f1.small,rfl,f1.yes (by rw [decide_eq_true h,hb]; rfl) (tk (by decide))⟩
    | false=>exact iteF ⟨rfl,f1.no (by rw [hb]; simp) (tk (by decide))⟩
   ·rw [zam h]
    exact iteF (iteF ⟨rfl,f1.no (by rw [decide_eq_false h]; rfl) (tk (by decide))⟩)
  clear f1 H1
  rintro σ H1 ⟨rfl,f1⟩
  have got:∀ Hx e,Same H Hx->Hx e=none->∃ o,DGet (upd Hx e (.lst [])) z (V.str x) o/\∃ la,o.getD (.ref e)=V.ref la/\SqL K (upd Hx e (.lst [])) la (ts.map V.int):=by
   intro Hx e sx ne
   have sy:Same H (upd Hx e (.lst [])):=sx.put (sx.free ne)
   refine ⟨_,DGet.k (k:=Sum.inr x) (sy _ _ hz),?_⟩
   rcases kr.val (x:=x) with ⟨e1,e2⟩ | ⟨us,ta,e1,e2,e3,_⟩
   ·refine ⟨e,by rw [e2]; rfl,?_⟩
    rw [hts,e1]
    exact SqL.of zaf
   ·refine ⟨ta,by rw [e2]; rfl,?_⟩
    rw [hts,e1]
    exact SqL.of (sy _ _ e3)
  refine ⟨fun σ Hx => σ = [some (.ref z),some (.int (past.length:Int)),some (.int d),some (.str x),some mv,some (.ref p)]/\Fd H p ((conds d cs (past.length:Int) x tt t ts).take 8) Hx,?_,?_⟩
  ·refine ⟨_,rfl,rfl,_,rfl,?_⟩
   by_cases h:d=2
   ·rw [show decide (V.int d=V.int 2)=true by rw [zaR]; exact decide_eq_true h]
    have hm:=h1 (by omega)
    subst hm
    refine iteT ⟨_,rfl,_,rfl,z,rfl,.inl ⟨kvs,.inl (f1.s _ _ hz)⟩,_,rfl,bigr rfl,fun e ne => ?_⟩
    obtain ⟨o,dg,la,eo,hla⟩:=got H1 e f1.s ne
    refine ⟨o,dg,?_⟩
    rw [eo]
    refine ⟨_,_,rfl,.inl hla,rfl,zdH ts,_,rfl,?_⟩
    rw [if_neg (by decide),zd7]
    have f2:=f1.same (Same.new (o := .lst []) ne)
    cases hb:decide (t∈ts) with
    | true=>exact iteT ⟨_,rfl,.inl ⟨rfl,_,SqL.of f2.e⟩,p,_,_,rfl,rfl,f2.e,f2.small,rfl,f2.yes (by rw [decide_eq_true h,hb]; rfl) (tk (by decide))⟩
    | false=>exact iteF ⟨rfl,f2.no (by rw [hb]; simp) (tk (by decide))⟩
   ·rw [zam h]
    exact iteF (iteF ⟨rfl,f1.no (by rw [decide_eq_false h]; rfl) (tk (by decide))⟩)
  clear f1 H1
  rintro σ H1 ⟨rfl,f1⟩
  refine ⟨fun σ Hx => σ = [some (.ref z),some (.int (past.length:Int)),some (.int d),some (.str x),some mv,some (.ref p)]/\Fd H p ((conds d cs (past.length:Int) x tt t ts).take 9) Hx,?_,?_⟩
  ·refine ⟨_,rfl,rfl,_,rfl,?_⟩
   by_cases h:d=3
   ·rw [show decide (V.int d=V.int 3)=true by rw [zaR]; exact decide_eq_true h]
    have hm:=h1 (by omega)
    subst hm
    refine iteT ⟨_,rfl,_,rfl,z,rfl,.inl ⟨kvs,.inl (f1.s _ _ hz)⟩,_,rfl,bigr rfl,fun e ne => ?_⟩
    obtain ⟨o,dg,la,eo,hla⟩:=got H1 e f1.s ne
    refine ⟨o,dg,?_⟩
    rw [eo]
    refine ⟨_,_,rfl,.inl hla,rfl,zdH ts,_,rfl,?_⟩
    rw [if_pos rfl,zd7]
    have f2:=f1.same (Same.new (o := .lst []) ne)
    cases hb:decide (t∈ts) with
    | false=>exact iteT ⟨_,rfl,.inl ⟨rfl,_,SqL.of f2.e⟩,p,_,_,rfl,rfl,f2.e,f2.small,rfl,f2.yes (by rw [decide_eq_true h,hb]; rfl) (tk (by decide))⟩
    | true=>exact iteF ⟨rfl,f2.no (by rw [hb]; simp) (tk (by decide))⟩
   ·rw [zam h]
    exact iteF (iteF ⟨rfl,f1.no (by rw [decide_eq_false h]; rfl) (tk (by decide))⟩)
  clear f1 H1
  rintro σ H1 ⟨rfl,f1⟩
  refine ⟨fun σ Hx => σ = [some (.ref z),some (.int (past.length:Int)),some (.int d),some (.str x),some mv,some (.ref p)]/\Fd H p (conds d cs (past.length:Int) x tt t ts) Hx,?_,?_⟩
  ·refine ⟨_,rfl,rfl,_,rfl,?_⟩
   by_cases h:d=4
   ·rw [show decide (V.int d=V.int 4)=true by rw [zaR]; exact decide_eq_true h]
    refine iteT ⟨_,rfl,rfl,_,rfl,?_⟩
    rw [zaR]
    cases hb:decide ((past.length:Int)=0) with
    | true=>exact iteT ⟨_,rfl,.inl ⟨rfl,_,SqL.of f1.e⟩,p,_,_,rfl,rfl,f1.e,f1.small,rfl,f1.yes (by rw [decide_eq_true h,hb]; rfl) (tk (by decide))⟩
    | false=>exact iteF ⟨rfl,f1.no (by rw [hb]; simp) (tk (by decide))⟩
   ·rw [zam h]
    exact iteF (iteF ⟨rfl,f1.no (by rw [decide_eq_false h]; rfl) (tk (by decide))⟩)
  clear f1 H1
  rintro σ H1 ⟨rfl,f1⟩
  refine ⟨_,rfl,bigr rfl,fun p2 np2 => ?_⟩
  have s2:Same H1 (upd H1 p2 (.lst [V.str (Str.ofString "")])):=Same.new np2
  have f2:=f1.same s2
  refine ⟨p,p2,_,_,rfl,rfl,f2.e,zaf,?_,fun p3 np3 => ?_⟩
  ·have:=ze3 (conds d cs (past.length:Int) x tt t ts)
   rw [List.length_map]
   exact big (by show _ + 1<=1000; have:=f1.k; omega)
  have s3:=f2.s.put (o := .lst ((fl (conds d cs (past.length:Int) x tt t ts)).map V.str ++ [V.str (Str.ofString "")])) (f2.s.free np3)
  refine ⟨_,_,_,V.str nm,rfl,rfl,SqL.of zaf,?_,q _ s3⟩
  have e:(fl (conds d cs (past.length:Int) x tt t ts)).map V.str ++ [V.str (Str.ofString "")]=(fl (conds d cs (past.length:Int) x tt t ts) ++ [Str.ofString ""]).map V.str:=by rw [List.map_append]; rfl
  rw [e]
  show atI _ ((0:Nat):Int)=_
  refine zaB ?_
  rw [List.getElem?_map,fin]
  rfl
noncomputable def sp_whole:Sp:=fun vs H Q _=>∃ (i:Int),vs = [.int i]/\Q (.bl true) H
theorem zdM:FnScope ["_law_found"] ["_law_found"] (defScope s_whole):=⟨rfl,rfl,rfl,by decide +kernel,rfl,by decide +kernel,by decide +kernel⟩
theorem ok_whole (D:DefAt K mg "_law_whole" s_whole) (T:Bn mg):Callee P w K mg base "_law_whole" 1 ["_law_found"] sp_whole:=by
 refine D.callee zdM (fun _ _ _ _ _ _=>ln1 fun _=>rfl) (fun vs H Q E h => ?_) (fun f cdv A outer s H vs Q E hr h => ?_)
 ·obtain ⟨i,rfl,_⟩:=h
  rfl
 ·obtain ⟨i,rfl,q⟩:=h
  have S:=zdM
  refine ⟨_,zad (zaq (zdf (zai (zbJ "int") rfl T.n_isinstance boot_isinstance (zaa (pv 0) (zaa (zbP (v := .ty "int") rfl T.n_int boot_int rfl) zab))) (zdV (pe_not (zai (zbJ "bool") rfl T.n_isinstance boot_isinstance (zaa (pv 0) (zaa (zbP (v := .ty "bool") rfl T.n_bool boot_bool rfl) zab))))))),?_⟩
  refine ⟨_,rfl,_,_,true,rfl,.int i,rfl,_,rfl,?_⟩
  refine iteT ?_
  exact ⟨_,rfl,_,_,false,rfl,.int i,rfl,_,rfl,q⟩
structure St7 (C:Addr) (b l pl:Addr) (G:Addr->Prop) (H:Hp) (vs:List V) (cs:Combs) (past:List Combs):Prop where
 bk:Bk C G H b l cs past
 hpl:H pl=some (.lst vs)
 npl:¬ G pl/\pl≠b/\pl≠l
 tr:Trail (fun t=>t≠l/\t≠pl) G H vs (past ++ [cs])
theorem St7.same {C b l pl:Addr} {G:Addr->Prop} {H H':Hp} {vs:List V} {cs:Combs} {past:List Combs} (x:St7 C b l pl G H vs cs past) (s:Same H H'):St7 C b l pl G H' vs cs past:=⟨x.bk.same s,s _ _ x.hpl,x.npl,x.tr.same s⟩
theorem St7.len {C b l pl:Addr} {G:Addr->Prop} {H:Hp} {vs:List V} {cs:Combs} {past:List Combs} (x:St7 C b l pl G H vs cs past):vs.length=past.length + 1:=by
 have:=Paired.length x.tr
 rw [List.length_append,List.length_singleton] at this
 exact this
theorem St7.last {C b l pl:Addr} {G:Addr->Prop} {H:Hp} {vs:List V} {cs:Combs} {past:List Combs} (x:St7 C b l pl G H vs cs past):∃ z,atI vs (-1)=some (V.ref z)/\Kept (fun t=>t≠l/\t≠pl) H z cs/\¬ G z:=by
 obtain ⟨vs',v,e,_,z,rfl,k,n⟩:=zb2 x.tr
 exact ⟨z,by rw [e]; exact at_last _ _,k,n⟩
theorem St7.snoc {C b l pl m:Addr} {G G':Addr->Prop} {H H':Hp} {vs:List V} {cs cs':Combs} {past:List Combs} (x:St7 C b l pl G H vs cs past) (mv:Mv b l G G' H H') (B:Bk C G' H' b l cs' (past ++ [cs])) (k:Kept (fun t=>t≠l/\t≠pl) H' m cs') (n:¬ G' m) :
  H' pl=some (.lst vs)/\St7 C b l pl G' (upd H' pl (.lst (vs ++ [.ref m]))) (vs ++ [.ref m]) cs' (past ++ [cs]):=by
 have hp:=mv.keep _ _ x.hpl x.npl.2.1 x.npl.2.2
 have nG:=mv.not x.hpl x.npl.1
 refine ⟨hp,B.upd nG x.npl.2.1 x.npl.2.2,zaf,⟨nG,x.npl.2⟩,?_⟩
 have t1:=(x.tr.mv (fun t h=>h.1) x.bk mv).updL (o := .lst (vs ++ [.ref m])) (fun t h=>h.2) hp
 exact Paired.snoc t1 ⟨m,rfl,k.updL (fun t h=>h.2) hp,n⟩
noncomputable def sp_numbers (K:W.Frag):Sp:=fun vs H Q _=>∃ (a b:Addr) (xs ys:List Int),vs = [.ref a,.ref b]/\H a=some (.lst (xs.map V.int))/\SqL K H b (ys.map V.int)/\ys.length<=100000/\Q (.bl (decide (xs=ys))) H
theorem list_neq {xs ys:List Int} (hl:xs.length=ys.length) {i:Nat} {x y:Int} (hx:xs[i]?=some x) (hy:ys[i]?=some y) (h:¬ x=y):¬ xs=ys:=by
 intro z
 subst z
 rw [hx] at hy
 cases hy
 exact h rfl
theorem zcN:FnScope ["_law_found","_law_due","_law_k"] ["_law_found","_law_due"] (defScope s_numbers):=⟨rfl,rfl,rfl,by decide +kernel,rfl,by decide +kernel,by decide +kernel⟩
theorem ok_numbers (D:DefAt K mg "_law_numbers" s_numbers) (T:Bn mg) (C_whole:Callee P w K mg base "_law_whole" 1 ["_law_found"] sp_whole):Callee P w K mg base "_law_numbers" 2 ["_law_found","_law_due"] (sp_numbers K):=by
 refine D.callee zcN (fun _ _ _ _ _ _=>ln2 fun _ _=>rfl) (fun vs H Q E h => ?_) (fun f cdv A outer s H vs Q E hr h => ?_)
 ·obtain ⟨a,b,xs,ys,rfl,_⟩:=h
  rfl
 ·obtain ⟨a,b,xs,ys,rfl,ha,hb,hl,q⟩:=h
  have S:=zcN
  refine ⟨_,zag (zat (PW.pt (zde (zaJ (zaX (zai (zbJ "list") rfl T.n_isinstance boot_isinstance (zaa (pv 0) (zaa (zbP (v := .ty "list") rfl T.n_list boot_list rfl) zab))))) (zcs (zak zcF (zai zao rfl T.n_len PySem.boot_len (zaa (pv 0) zab)) (zai zao rfl T.n_len PySem.boot_len (zaa (pv 1) zab)) (zan _)))))
   (zad (zaq (zbi)))
   (zaj))
  (zag (zct PassesOwn.never rfl (zbB rfl T.n_range (zaa (zai zao rfl T.n_len PySem.boot_len (zaa (pv 1) zab)) zab)) (zaC (i:=2) S.nd rfl (Or.inl rfl))
   (zad (zat (PW.pt (zde (zaJ (zaX (za1 C_whole (hr.mono (by decide)) rfl (zaa (zaO zax (pv 0) (pv 2) (fun _ _=>rfl)) zab)))) (zcs (zak zcF (zaO zax (pv 0) (pv 2) (fun _ _=>rfl)) (zaO zax (pv 1) (pv 2) (fun _ _=>rfl)) (zan _)))))
    (zad (zaq (zbi)))
    (zaj))))
  (zad (zaq (zbi)))),?_⟩
  refine ⟨_,rfl,_,_,true,rfl,.lst ha,rfl,_,rfl,?_⟩
  refine iteF ?_
  refine ⟨_,rfl,_,_,rfl,.inl (SqL.of ha),_,rfl,_,_,rfl,.inl hb,rfl,_,rfl,?_⟩
  rw [List.length_map,List.length_map]
  refine ite2 (fun hc => ?_) (fun hc => ?_)
  ·have:¬ xs=ys:=fun z=>by
    subst z
    simp at hc
   rw [decide_eq_false this] at q
   exact q
  ·have hxy:xs.length=ys.length:=by
    have:(xs.length:Int)=ys.length:=by simpa using hc
    omega
   refine ⟨_,rfl,_,_,rfl,.inl hb,_,rfl,?_,?_,?_⟩
   ·rw [List.length_map]; omega
   ·rw [List.length_map]; omega
   rw [List.length_map]
   refine zdF (zaY 0 (ys.length:Int).toNat) (fun i σ H2=>H2=H/\xs.take i=ys.take i/\∃ x2,σ = [some (.ref a),some (.ref b),x2]) ⟨rfl,by simp,_,rfl⟩ (fun _ _ _ _ _=>trivial) ?_ ?_
   ·rintro i x σ H2 hx ⟨rfl,ht,x2,rfl⟩
    have hi:i < (ys.length:Int).toNat:=by
     have:=(List.getElem?_eq_some_iff.mp hx).1
     simpa using this
    rw [List.getElem?_map,List.getElem?_range hi] at hx
    cases hx
    have hiy:i < ys.length:=by omega
    have hix:i < xs.length:=by omega
    have atx:atI (xs.map V.int) (0 + ((i:Nat):Int))=some (V.int xs[i]):=by
     rw [Int.zero_add]
     refine zaB ?_
     rw [List.getElem?_map,List.getElem?_eq_getElem hix]
     rfl
    have aty:atI (ys.map V.int) (0 + ((i:Nat):Int))=some (V.int ys[i]):=by
     rw [Int.zero_add]
     refine zaB ?_
     rw [List.getElem?_map,List.getElem?_eq_getElem hiy]
     rfl
    refine ⟨_,rfl,_,rfl,_,_,_,_,rfl,rfl,SqL.of ha,atx,_,rfl,_,rfl,?_⟩
    refine iteF ?_
    refine ⟨_,rfl,_,rfl,_,_,_,_,rfl,rfl,SqL.of ha,atx,_,rfl,_,rfl,_,_,_,_,rfl,rfl,hb,aty,rfl,_,rfl,?_⟩
    refine ite2 (fun hc => ?_) (fun hc => ?_)
    ·have hne:¬ xs[i]=ys[i]:=by simpa using hc
     rw [decide_eq_false (list_neq hxy (List.getElem?_eq_getElem hix) (List.getElem?_eq_getElem hiy) hne)] at q
     exact q
    ·have he:xs[i]=ys[i]:=by simpa using hc
     refine ⟨rfl,?_,_,rfl⟩
     rw [zbk (List.getElem?_eq_getElem hix),zbk (List.getElem?_eq_getElem hiy),ht,he]
   ·rintro σ H2 ⟨rfl,ht,x2,rfl⟩
    have:xs=ys:=by
     rw [List.length_map,List.length_range] at ht
     rwa [List.take_of_length_le (by omega),List.take_of_length_le (by omega)] at ht
    rw [decide_eq_true this] at q
    exact q
noncomputable def sp_texts (K:W.Frag):Sp:=fun vs H Q _=>∃ (a b:Addr) (xs ys:List Str),vs = [.ref a,.ref b]/\H a=some (.lst (xs.map V.str))/\SqL K H b (ys.map V.str)/\ys.length<=100000/\Q (.bl (decide (xs=ys))) H
theorem list_neqS {xs ys:List Str} (hl:xs.length=ys.length) {i:Nat} {x y:Str} (hx:xs[i]?=some x) (hy:ys[i]?=some y) (h:¬ x=y):¬ xs=ys:=by
 intro z
 subst z
 rw [hx] at hy
 cases hy
 exact h rfl
theorem zdN:FnScope ["_law_found","_law_due","_law_k"] ["_law_found","_law_due"] (defScope s_texts):=⟨rfl,rfl,rfl,by decide +kernel,rfl,by decide +kernel,by decide +kernel⟩
theorem ok_texts (D:DefAt K mg "_law_texts" s_texts) (T:Bn mg):Callee P w K mg base "_law_texts" 2 ["_law_found","_law_due"] (sp_texts K):=by
 refine D.callee zdN (fun _ _ _ _ _ _=>ln2 fun _ _=>rfl) (fun vs H Q E h => ?_) (fun f cdv A outer s H vs Q E hr h => ?_)
 ·obtain ⟨a,b,xs,ys,rfl,_⟩:=h
  rfl
 ·obtain ⟨a,b,xs,ys,rfl,ha,hb,hl,q⟩:=h
  have S:=zdN
  refine ⟨_,zag (zat (PW.pt (zde (zaJ (zaX (zai (zbJ "list") rfl T.n_isinstance boot_isinstance (zaa (pv 0) (zaa (zbP (v := .ty "list") rfl T.n_list boot_list rfl) zab))))) (zcs (zak zcF (zai zao rfl T.n_len PySem.boot_len (zaa (pv 0) zab)) (zai zao rfl T.n_len PySem.boot_len (zaa (pv 1) zab)) (zan _)))))
   (zad (zaq (zbi)))
   (zaj))
  (zag (zct PassesOwn.never rfl (zbB rfl T.n_range (zaa (zai zao rfl T.n_len PySem.boot_len (zaa (pv 1) zab)) zab)) (zaC (i:=2) S.nd rfl (Or.inl rfl))
   (zad (zat (PW.pt (zde (zaJ (zaX (zai (zbJ "str") rfl T.n_isinstance boot_isinstance (zaa (zaO zax (pv 0) (pv 2) (fun _ _=>rfl)) (zaa (zbP (v := .ty "str") rfl T.n_str boot_str rfl) zab))))) (zcs (zak zcF (zaO zax (pv 0) (pv 2) (fun _ _=>rfl)) (zaO zax (pv 1) (pv 2) (fun _ _=>rfl)) (zan _)))))
    (zad (zaq (zbi)))
    (zaj))))
  (zad (zaq (zbi)))),?_⟩
  refine ⟨_,rfl,_,_,true,rfl,.lst ha,rfl,_,rfl,?_⟩
  refine iteF ?_
  refine ⟨_,rfl,_,_,rfl,.inl (SqL.of ha),_,rfl,_,_,rfl,.inl hb,rfl,_,rfl,?_⟩
  rw [List.length_map,List.length_map]
  refine ite2 (fun hc => ?_) (fun hc => ?_)
  ·have:¬ xs=ys:=fun z=>by
    subst z
    simp at hc
   rw [decide_eq_false this] at q
   exact q
  ·have hxy:xs.length=ys.length:=by
    have:(xs.length:Int)=ys.length:=by simpa using hc
    omega
   refine ⟨_,rfl,_,_,rfl,.inl hb,_,rfl,?_,?_,?_⟩
   ·rw [List.length_map]; omega
   ·rw [List.length_map]; omega
   rw [List.length_map]
   refine zdF (zaY 0 (ys.length:Int).toNat) (fun i σ H2=>H2=H/\xs.take i=ys.take i/\∃ x2,σ = [some (.ref a),some (.ref b),x2]) ⟨rfl,by simp,_,rfl⟩ (fun _ _ _ _ _=>trivial) ?_ ?_
   ·rintro i x σ H2 hx ⟨rfl,ht,x2,rfl⟩
    have hi:i < (ys.length:Int).toNat:=by
     have:=(List.getElem?_eq_some_iff.mp hx).1
     simpa using this
    rw [List.getElem?_map,List.getElem?_range hi] at hx
    cases hx
    have hiy:i < ys.length:=by omega
    have hix:i < xs.length:=by omega
    have atx:atI (xs.map V.str) (0 + ((i:Nat):Int))=some (V.str xs[i]):=by
     rw [Int.zero_add]
     refine zaB ?_
     rw [List.getElem?_map,List.getElem?_eq_getElem hix]
     rfl
    have aty:atI (ys.map V.str) (0 + ((i:Nat):Int))=some (V.str ys[i]):=by
     rw [Int.zero_add]
     refine zaB ?_
     rw [List.getElem?_map,List.getElem?_eq_getElem hiy]
     rfl
    refine ⟨_,rfl,_,rfl,_,_,_,_,rfl,rfl,SqL.of ha,atx,_,_,true,rfl,.str _,rfl,_,rfl,?_⟩
    refine iteF ?_
    refine ⟨_,rfl,_,rfl,_,_,_,_,rfl,rfl,SqL.of ha,atx,_,rfl,_,rfl,_,_,_,_,rfl,rfl,hb,aty,rfl,_,rfl,?_⟩
    refine ite2 (fun hc => ?_) (fun hc => ?_)
    ·have hne:¬ xs[i]=ys[i]:=by simpa using hc
     rw [decide_eq_false (list_neqS hxy (List.getElem?_eq_getElem hix) (List.getElem?_eq_getElem hiy) hne)] at q
     exact q
    ·have he:xs[i]=ys[i]:=by simpa using hc
     refine ⟨rfl,?_,_,rfl⟩
     rw [zbk (List.getElem?_eq_getElem hix),zbk (List.getElem?_eq_getElem hiy),ht,he]
   ·rintro σ H2 ⟨rfl,ht,x2,rfl⟩
    have:xs=ys:=by
     rw [List.length_map,List.length_range] at ht
     rwa [List.take_of_length_le (by omega),List.take_of_length_le (by omega)] at ht
    rw [decide_eq_true this] at q
    exact q
noncomputable def sp_same (C:Addr):Sp:=fun vs H Q _=>∃ b l G cs past a cs' n,vs = [.ref b,.ref a,.int n]/\Bk C G H b l cs past/\Kept (fun _=>True) H a cs'/\¬ G a/\(cs'.map (·.1)).Perm (cs.map (·.1))/\(∀ c∈cs',cGet cs c.1=some c.2)/\n=(past.length:Int)/\∀ H',Same H H'->Q (.bl true) H'
theorem zeh:FnScope ["_law_book","_law_kept","_law_stands","_law_word","_law_found"] ["_law_book","_law_kept","_law_stands"] (defScope s_same):=⟨rfl,rfl,rfl,by decide +kernel,rfl,by decide +kernel,by decide +kernel⟩
theorem ok_same {ea:Nat->Addr} {C:Addr} (D:DefAt K mg "_law_same" s_same) (T:Bn mg) (BA:BookAt K C) (C_whole:Callee P w K mg base "_law_whole" 1 ["_law_found"] sp_whole) (C_texts:Callee P w K mg base "_law_texts" 2 ["_law_found","_law_due"] (sp_texts K)) (C_numbers:Callee P w K mg base "_law_numbers" 2 ["_law_found","_law_due"] (sp_numbers K))
  (M_names:Method P w K mg base C "names" CX0 1 ["self"] (sp_names C)) (M_deeds:Method P w K mg base C "deeds" CX0 1 ["self"] (sp_deeds C)) (M_teeth:Method P w K mg base C "teeth" (CX1 P w) 2 ["self","name"] (sp_bteeth ea C)):Callee P w K mg base "_law_same" 3 ["_law_book","_law_kept","_law_stands"] (sp_same C):=by
 refine D.callee zeh (fun _ _ _ _ _ _=>ln3 fun _ _ _=>rfl) (fun vs H Q E h => ?_) (fun f cdv A outer s H vs Q E hr h => ?_)
 ·obtain ⟨b,l,G,cs,past,a,cs',n,rfl,_⟩:=h
  rfl
 ·obtain ⟨b,l,G,cs,past,a,cs',n,rfl,B,kp,nG,hp,hg,rfl,q⟩:=h
  have S:=zeh
  have hu:=zb7 hr
  have B_cls:=BA.cls
  obtain ⟨kvs,ha,kr⟩:=id kp
  obtain ⟨dx,d,hb,gd,kvs0,hd,kr0⟩:=id B.ins
  obtain ⟨nab,nal⟩:=B.ne ha
  have hcl:cs'.length<=8:=by
   have:=hp.length_eq
   rw [List.length_map,List.length_map] at this
   have:=B.good.len
   omega
  refine ⟨_,zag (zat (zaJ (zaX (za1 C_texts (hr.mono (by decide)) rfl (zaa (zet (pv 0) B_cls M_names (hr.mono (by decide)) (by first | exact zba | exact zap | exact zaK | exact zar)) (zaa (zai (zbH rfl) rfl T.n_sorted boot_sorted (zaa (pv 1) zab)) zab)))))
   (zad (zaq (zbi)))
   (zaj))
  (zag (ps_forD PassesOwn.never rfl (pv 1) (zaC (i:=3) S.nd rfl (Or.inl rfl))
   (zad (zat (zaJ (zaX (za1 C_numbers (hr.mono (by decide)) rfl (zaa (zbC (pv 0) B_cls M_teeth (hr.mono (by decide)) (by first | exact zba | exact zap | exact zaK | exact zar) (zaa (pv 3) zab)) (zaa (zbD hu (pv 1) (pv 3) (fun _ _=>rfl)) zab)))))
    (zad (zaq (zbi)))
    (zaj))))
  (zag (za0 (i:=4) S.nd rfl (Or.inl rfl) (zet (pv 0) B_cls M_deeds (hr.mono (by decide)) (by first | exact zba | exact zap | exact zaK | exact zar)))
  (zad (zaq (zdf (za1 C_whole (hr.mono (by decide)) rfl (zaa (pv 4) zab)) (zdV (zbE zaF (pv 4) (pv 2) (zan _)))))))),?_⟩
  refine ⟨_,rfl,b,dx,_,rfl,hb,rfl,b,l,G,cs,past,rfl,B,fun p nm np hnp hns => ?_⟩
  have s1:Same H (upd H p (.lst (nm.map V.str))):=Same.new np
  refine ⟨_,rfl,a,kvs,cs'.map (·.1),rfl,.inl (s1 _ _ ha),kr.keys,by rw [List.length_map]; omega,fun p2 nm2 np2 hnp2 hns2 => ?_⟩
  have s2:Same (upd H p (.lst (nm.map V.str))) (upd (upd H p (.lst (nm.map V.str))) p2 (.lst (nm2.map V.str))):=Same.new np2
  have e:nm=nm2:=strs_same (hnp.trans ((hnp2.trans hp).symm)) hns hns2
  refine ⟨p,p2,nm,nm2,rfl,s2 _ _ zaf,SqL.of zaf,?_,?_⟩
  ·have:=hnp2.length_eq
   rw [List.length_map] at this
   omega
  rw [decide_eq_true e]
  refine ⟨_,rfl,iteF ?_⟩
  have s12:=s1.trans s2
  generalize upd (upd H p (.lst (nm.map V.str))) p2 (.lst (nm2.map V.str))=H2 at s12
  have B2:=B.same s12
  have ha2:=s12 _ _ ha
  refine ⟨a,kvs,rfl,ha2,fun o => ?_⟩
  have hlk:kvs.length=cs'.length:=kr.length
  refine zdF (gives_dict a o kvs) (fun i σ Hx=>Hx a=some (.frz o (.dK kvs))/\Same (upd H2 a (.frz o (.dK kvs))) Hx/\∃ x3,σ = [some (.ref b),some (.ref a),some (.int (past.length:Int)),x3,none]) ⟨zaf,Same.refl _,_,rfl⟩ (fun _ _ _ _ h=>h.1) ?_ ?_
  ·rintro i x σ Hx hx ⟨hf,sx,x3,rfl⟩
   rw [List.getElem?_map] at hx
   cases hk:kvs[i]? with
   | none=>rw [hk] at hx; cases hx
   | some kv =>
    rw [hk] at hx
    cases hx
    have hi:i < kvs.length:=(List.getElem?_eq_some_iff.mp hk).1
    have hic:i < cs'.length:=by omega
    have hm:kvs.map (·.1)=(cs'.map (·.1)).map Sum.inr:=kr.keys
    have e1:kv.1=Sum.inr cs'[i].1:=by
     have:=congrArg (fun l=>l[i]?) hm
     simp only [List.getElem?_map,hk,List.getElem?_eq_getElem hic,Option.map_some] at this
     exact Option.some.inj this
    have hgi:=hg cs'[i] (List.getElem_mem hic)
    have Bx:Bk C G Hx b l cs past:=(B2.upd nG nab nal).same sx
    obtain ⟨dxx,ddx,hbx,_⟩:=id Bx.ins
    refine ⟨_,rfl,b,dxx,_,rfl,hbx,rfl,_,rfl,b,l,G,cs,past,cs'[i].1,?_,Bx,?_⟩
    ·show V.ref b :: ([kV kv.1] ++ [])=_
     rw [e1]
     rfl
    rw [hgi]
    intro p3 np3
    have s3:Same Hx (upd Hx p3 (.lst (cs'[i].2.map V.int))):=Same.new np3
    have kr2:KvR (fun _=>True) (upd Hx p3 (.lst (cs'[i].2.map V.int))) kvs cs':=by
     have z:=kr.mono (H':=H2) (fun a o _ e=>s12 a o e) (fun _ g=>g)
     have z2:=z.updD (o := .frz o (.dK kvs)) ha2
     exact z2.mono (fun a o _ e=>s3 _ _ (sx a o e)) fun _ g=>g
    rcases kr2.val (x:=cs'[i].1) with ⟨e2,_⟩ | ⟨ts,t,e2,e3,e4,_⟩
    ·exact absurd (List.mem_map.mpr ⟨_,List.getElem_mem hic,rfl⟩) (get_none.mp e2)
    ·have ets:ts=cs'[i].2:=by
      have:=hg _ (zbj e2)
      rw [hgi] at this
      exact (Option.some.inj this).symm
     subst ets
     refine ⟨_,rfl,_,rfl,a,V.ref t,rfl,?_,p3,t,cs'[i].2,cs'[i].2,rfl,zaf,SqL.of e4,?_,?_⟩
     ·show DGet _ a (kV kv.1) _
      rw [e1,<- e3]
      exact .inl ⟨kvs,Sum.inr cs'[i].1,.inr ⟨o,s3 _ _ hf⟩,rfl,rfl⟩
     ·have:=zdo (B.good.ok _ (zbj hgi)).2
      have e:(cs'[i].1,cs'[i].2).2.length<=8:=this
      exact Nat.le_trans e (by decide)
     rw [decide_eq_true rfl]
     exact ⟨_,rfl,iteF ⟨s3 _ _ hf,sx.trans s3,_,rfl⟩⟩
  ·rintro σ Hx ⟨hf,sx,x3,rfl⟩
   refine ⟨hf,?_⟩
   have sE:Same H (upd Hx a (.dK kvs)):=fun c oc ec=>by
    by_cases z:c=a
    ·subst z
     rw [zaf]
     rw [ha] at ec
     exact ec
    ·rw [zal z]
     refine sx c oc ?_
     rw [zal z]
     exact s12 _ _ ec
   have BE:=B.same sE
   obtain ⟨dxx,ddx,hbx,_⟩:=id BE.ins
   refine ⟨_,rfl,b,dxx,_,rfl,hbx,rfl,b,l,G,cs,past,rfl,BE,?_⟩
   refine ⟨_,rfl,_,rfl,_,rfl,iteT ?_⟩
   refine ⟨_,rfl,_,rfl,rfl,?_⟩
   rw [decide_eq_true rfl]
   exact q _ sE
theorem ej_re {K:W.Frag} {ea:Nat->Addr} {ce:Value} {j:Nat} (e:EJ K ea ce j) {Q:VK} {H:Hp} (q:∀ p l H2,Same H H2->H l=none->H2 l=some (.lst [.str (errName j)])->H2 p=none->Q (.ref p) (upd H2 p (.tup [.str (Str.ofString "refused"),.ref l]))):refuT K ea ce Q (.ref (ea j)) none H:=⟨ea j,j,rfl,e.kf,e.ex,q⟩
noncomputable def Ans (H:Hp) (fd:Addr):Except Nat Int->Prop
 | .ok n=>H fd=some (.tup [.str (Str.ofString "told"),.int n])
 | .error j=>∃ le,H fd=some (.tup [.str (Str.ofString "refused"),.ref le])/\H le=some (.lst [.str (errName j)])
theorem Ans.same {H H':Hp} {fd:Addr} {r:Except Nat Int} (a:Ans H fd r) (s:Same H H'):Ans H' fd r:=by
 cases r with
 | ok n=>exact s _ _ a
 | error j=>obtain ⟨le,h1,h2⟩:=a; exact ⟨le,s _ _ h1,s _ _ h2⟩
theorem ze5 {K:W.Frag} {ea:Nat->Addr} {ce:Value} {j:Nat} (e:EJ K ea ce j) {Q:VK} {H:Hp} (q:∀ fd H2,Same H H2->Ans H2 fd (.error j)->Q (.ref fd) H2):refuT K ea ce Q (.ref (ea j)) none H :=
 ej_re e fun p le H2 s nle hle np=>q p _ (s.put (s.free np)) ⟨le,zaf,by rw [zal (zas hle np)]; exact hle⟩
noncomputable def csOf (r:Except Nat Combs) (cs:Combs):Combs:=match r with
 | .ok c=>c
 | .error _=>cs
noncomputable def pastOf (r:Except Nat Combs) (cs:Combs) (past:List Combs):List Combs:=match r with
 | .ok _=>past ++ [cs]
 | .error _=>past
noncomputable def ansOf (r:Except Nat Combs) (past:List Combs):Except Nat Int:=match r with
 | .ok _ => .ok ((past.length:Int) + 1)
 | .error j => .error j
theorem deed_try {K:W.Frag} {ea:Nat->Addr} {ce:Value} {C b l:Addr} {G:Addr->Prop} {H:Hp} {cs:Combs} {past:List Combs} {Q:VK} {r:Except Nat Combs} (B:Bk C G H b l cs past) (ej:∀ j,r = .error j->EJ K ea ce j)
  (q:∀ Hx fd Gx,Mv b l G Gx H Hx->Bk C Gx Hx b l (csOf r cs) (pastOf r cs past)->Ans Hx fd (ansOf r past)->Q (.ref fd) Hx):Deed ea C G H b l cs past (tellT Q) (refuT K ea ce Q) r:=by
 cases r with
 | error j =>
  intro H' s
  exact ze5 (ej j rfl) fun fd H2 s2 a=>q H2 fd G (Mv.ofSame (s.trans s2)) (B.same (s.trans s2)) a
 | ok cs' =>
  intro H' G' m B'
  refine ⟨bigr rfl,fun p np => ?_⟩
  have s2:Same H' (upd H' p (.tup [.str (Str.ofString "told"),.int ((past.length:Int) + 1)])):=Same.new np
  exact q _ p G' (m.trans (Mv.ofSame s2)) (B'.same s2) zaf
noncomputable def spLaw (K:W.Frag):Sp:=fun vs H Q _=>∃ (a:Addr) (ns:List Int),vs = [.ref a]/\SqL K H a (ns.map V.int)/\ns.length<=63/\∀ H',Q (.bl true) H'
theorem boot_ValueError39:bootBuiltins "ValueError" = some (.type "ValueError"):=by decide +kernel
theorem call_isxT {X:Cx} {x:Addr} {c:Value} {ox:Obj} {pn:List (Addr×Obj)} {vs:Array Value} (T:String) (hc:ox.cls=c/\ox.dict=none) (hd:ox.data = .fields vs):CallR (cxHand X x ox pn) (.builtin "isinstance") (fun xs H Q=>∃ D b,xs = [.ref x,.ty T]/\c = .ref D/\ErrCls X.K D/\PySem.W.kitOne X.K (.ref D) (.type T)=some b/\Q (.bl b) H):=by
 intro pins s σ H xs us Q I r h
 obtain ⟨D,b,rfl,rfl,Er,hk,q⟩:=h
 obtain ⟨u,u',rfl,ru,ru'⟩:=zeN r
 cases (show u=Value.ref x from ru)
 cases (show u'=Value.type T from ru')
 have ia:PySem.W.InstAt s.heap x ox D none:=⟨(I.pin (x,ox) (List.mem_append_left _ List.mem_cons_self)).1,hc.1,by unfold PySem.W.notCls; rw [hd],by rw [hc.2]; trivial⟩
 exact PySem.W.kia_one (zd6 (ox:=ox) Er) I.kIn ia hk (fun z=>nomatch z) fun tk=>⟨.bl b,H,I.tok _,rfl,q⟩
noncomputable def valChk (K:W.Frag) (l:List Addr):Bool:=l.all fun a=>PySem.W.mroIn K a (.type "ValueError") == some true
theorem zcX {K:W.Frag} {l:List Addr} {a:Addr} (h:valChk K l=true) (ha:a∈l):PySem.W.kitOne K (.ref a) (.type "ValueError")=some true:=by
 have:=List.all_eq_true.mp h a ha
 have e:PySem.W.mroIn K a (.type "ValueError")=some true:=beq_iff_eq.mp this
 unfold PySem.W.kitOne
 rw [if_neg (by intro z; cases beq_iff_eq.mp z)]
 unfold PySem.W.kitCls
 dsimp only
 rw [if_pos (by decide +kernel)]
 exact e
structure EV (K:W.Frag) (ea:Nat->Addr) (ce:Value) (j:Nat):Prop where
 ej:EJ K ea ce j
 kv:PySem.W.kitOne K (.ref (ea j)) (.type "ValueError")=some true
noncomputable def refuV (K:W.Frag) (ea:Nat->Addr) (ce:Value) (Q:VK):XK:=fun c _ H1=>∃ D j,c = .ref D/\KindF K ea D j/\PySem.W.exmOne K (.ref D) ce=some true/\PySem.W.kitOne K (.ref D) (.type "ValueError")=some true/\∀ p l H2,Same H1 H2->H2 l=some (.lst [.str (errName j)])->H2 p=none->Q (.ref p) (upd H2 p (.tup [.str (Str.ofString "refused"),.ref l]))
noncomputable def Refd (H:Hp) (fd:Addr) (j:Nat):Prop:=∃ le,H fd=some (.tup [.str (Str.ofString "refused"),.ref le])/\H le=some (.lst [.str (errName j)])
theorem EV.out {K:W.Frag} {ea:Nat->Addr} {ce:Value} {j:Nat} (e:EV K ea ce j) {Q:VK} {H:Hp} (q:∀ fd H2,Same H H2->Refd H2 fd j->Q (.ref fd) H2):refuV K ea ce Q (.ref (ea j)) none H :=
 ⟨ea j,j,rfl,e.ej.kf,e.ej.ex,e.kv,fun p le H2 s hle np=>q p _ (s.put (s.free np)) ⟨le,zaf,by rw [zal (zas hle np)]; exact hle⟩⟩
noncomputable def FarOk (f:List Int):Prop:=∃ f0 f1 f2 f3 f4,f = [f0,f1,f2,f3,f4]/\¬ (0<=f0/\f0<=200)/\¬ (0<=f1/\f1<=1000000000000)/\¬ (0<=f2/\f2 < 128)/\¬ (0<=f3/\f3<=1000000000000000000)/\¬ (-1000000000000000000<=f4/\f4<=1000000000000000000)
noncomputable def askJ (there:Bool) (w:Nat):Nat:=match w with
 | 0 | 1=>if there=true then 13 else 4
 | 2 | 3 | 4=>13
 | 5=>11
 | 6 | 7 | 8=>12
 | _=>4
noncomputable def sp_ask39 (C:Addr):Sp:=fun vs H Q _=>∃ (w:Nat) (b l:Addr) (G:Addr->Prop) (cs:Combs) (past:List Combs) (x:Str) (fa:Addr) (f:List Int),vs = [.int w,.ref b,.str x,.ref fa]/\Bk C G H b l cs past/\H fa=some (.lst (f.map V.int))/\FarOk f/\w < 10/\(w=9->cGet cs x=none)/\∀ fd H',Same H H'->Refd H' fd (askJ (cGet cs x).isSome w)->Q (.ref fd) H'
theorem dec_n {i:Nat} {j:Int}:decide (V.int ((i:Nat):Int)=V.int j)=decide (((i:Nat):Int)=j):=zaR
theorem zeR:FnScope ["_law_what","_law_book","_law_word","_law_far","_law_e"] ["_law_what","_law_book","_law_word","_law_far"] (defScope s_ask):=⟨rfl,rfl,rfl,by decide +kernel,rfl,by decide +kernel,by decide +kernel⟩
theorem ok_ask39 (D:DefAt K mg "_law_ask" s_ask) (T:Bn mg) {ea:Nat->Addr} {ce:Value} {C:Addr} (V_CombError:mg "CombError" = some ce) (N_ValueError:mg "ValueError" = none) (BA:BookAt K C) (E4:EV K ea ce 4) (E11:EV K ea ce 11) (E12:EV K ea ce 12) (E13:EV K ea ce 13) (C_kind:HCallee P w K mg base "_law_kind" 1 ["_law_e"] (spKind K ea))
  (C_count_fillings_with:Callee1 P w K mg base "count_fillings_with" 2 ["book","name","length"] (sp_refW ea C)) (C_first_filling_with:Callee1 P w K mg base "first_filling_with" 2 ["book","name","length"] (sp_refW ea C))
  (C_count_fillings:Callee1 P w K mg base "count_fillings" 2 ["book","length"] (sp_refI ea 13 fun n=>0<=n/\n<=200)) (C_first_filling:Callee1 P w K mg base "first_filling" 2 ["book","length"] (sp_refI ea 13 fun n=>0<=n/\n<=200))
  (C_fits_flush:Callee1 P w K mg base "fits_flush" 1 ["book","length"] (sp_refI ea 13 fun n=>0<=n/\n<=1000000000000)) (C_shape_steps:Callee1 P w K mg base "shape_steps" 1 ["book","shape"] (sp_refI ea 11 fun n=>0<=n/\n < 128)) (C_shapes_at:Callee1 P w K mg base "shapes_at" 1 ["book","place"] (sp_refI ea 12 fun n=>0<=n/\n<=200))
  (C_comb_over_strip:Callee1 P w K mg base "comb_over_strip" 1 ["book","place"] (sp_refI ea 12 fun n=>0<=n/\n<=1000000000000000000)) (C_comb_over_line:Callee1 P w K mg base "comb_over_line" 1 ["book","place"] (sp_refI ea 12 fun n => -1000000000000000000<=n/\n<=1000000000000000000))
  (M_teeth:Method P w K mg base C "teeth" (CX1 P w) 2 ["self","name"] (sp_bteeth ea C)):Callee P w K mg base "_law_ask" 3 ["_law_what","_law_book","_law_word","_law_far"] (sp_ask39 C):=by
 refine D.callee zeR (fun _ _ _ _ _ _=>ln4 fun _ _ _ _=>rfl) (fun vs H Q E h => ?_) (fun f cdv A outer s H vs Q E hr h => ?_)
 ·obtain ⟨w,b,l,G,cs,past,x,fa,f,rfl,_⟩:=h
  rfl
 ·obtain ⟨w,b,l,G,cs,past,x,fa,f,rfl,B,hf,⟨f0,f1,f2,f3,f4,rfl,g0,g1,g2,g3,g4⟩,hw,hx,q⟩:=h
  have S:=zeR
  have B_cls:=BA.cls
  have hf:=SqL.of (K:=K) hf
  obtain ⟨dx,dd,hb,_⟩:=id B.ins
  refine ⟨_,zad (zeS (i:=4) rfl rfl S.nd rfl rfl rfl V_CombError (fun E pn=>zag (zat (zak zaF (pv 0) (zac) (zan _))
    (zad (zaq (zaI (zaa (zah) (zaa (za6 C_count_fillings_with (hr.mono (by decide)) (by first | exact zap | exact zaK | exact zar) rfl (zaa (pv 1) (zaa (pv 2) (zaa (zaO (zaV K rfl) (pv 3) (zac) (fun _ _=>rfl)) zab)))) zab)))))
    (zaj))
   (zag (zat (zak zaF (pv 0) (zac) (zan _))
    (zad (zaq (zaI (zaa (zah) (zaa (za6 C_first_filling_with (hr.mono (by decide)) (by first | exact zap | exact zaK | exact zar) rfl (zaa (pv 1) (zaa (pv 2) (zaa (zaO (zaV K rfl) (pv 3) (zac) (fun _ _=>rfl)) zab)))) zab)))))
    (zaj))
   (zag (zat (zak zaF (pv 0) (zac) (zan _))
    (zad (zaq (zaI (zaa (zah) (zaa (za6 C_count_fillings (hr.mono (by decide)) (by first | exact zap | exact zaK | exact zar) rfl (zaa (pv 1) (zaa (zaO (zaV K rfl) (pv 3) (zac) (fun _ _=>rfl)) zab))) zab)))))
    (zaj))
   (zag (zat (zak zaF (pv 0) (zac) (zan _))
    (zad (zaq (zaI (zaa (zah) (zaa (za6 C_first_filling (hr.mono (by decide)) (by first | exact zap | exact zaK | exact zar) rfl (zaa (pv 1) (zaa (zaO (zaV K rfl) (pv 3) (zac) (fun _ _=>rfl)) zab))) zab)))))
    (zaj))
   (zag (zat (zak zaF (pv 0) (zac) (zan _))
    (zad (zaq (zaI (zaa (zah) (zaa (za6 C_fits_flush (hr.mono (by decide)) (by first | exact zap | exact zaK | exact zar) rfl (zaa (pv 1) (zaa (zaO (zaV K rfl) (pv 3) (zac) (fun _ _=>rfl)) zab))) zab)))))
    (zaj))
   (zag (zat (zak zaF (pv 0) (zac) (zan _))
    (zad (zaq (zaI (zaa (zah) (zaa (za6 C_shape_steps (hr.mono (by decide)) (by first | exact zap | exact zaK | exact zar) rfl (zaa (pv 1) (zaa (zaO (zaV K rfl) (pv 3) (zac) (fun _ _=>rfl)) zab))) zab)))))
    (zaj))
   (zag (zat (zak zaF (pv 0) (zac) (zan _))
    (zad (zaq (zaI (zaa (zah) (zaa (za6 C_shapes_at (hr.mono (by decide)) (by first | exact zap | exact zaK | exact zar) rfl (zaa (pv 1) (zaa (zaO (zaV K rfl) (pv 3) (zac) (fun _ _=>rfl)) zab))) zab)))))
    (zaj))
   (zag (zat (zak zaF (pv 0) (zac) (zan _))
    (zad (zaq (zaI (zaa (zah) (zaa (za6 C_comb_over_strip (hr.mono (by decide)) (by first | exact zap | exact zaK | exact zar) rfl (zaa (pv 1) (zaa (zaO (zaV K rfl) (pv 3) (zac) (fun _ _=>rfl)) zab))) zab)))))
    (zaj))
   (zag (zat (zak zaF (pv 0) (zac) (zan _))
    (zad (zaq (zaI (zaa (zah) (zaa (za6 C_comb_over_line (hr.mono (by decide)) (by first | exact zap | exact zaK | exact zar) rfl (zaa (pv 1) (zaa (zaO (zaV K rfl) (pv 3) (zac) (fun _ _=>rfl)) zab))) zab)))))
    (zaj))
   (zad (zaq (zaI (zaa (zah) (zaa (zbC (pv 1) B_cls M_teeth (hr.mono (by decide)) (by first | exact zba | exact zap | exact zaK | exact zar) (zaa (pv 2) zab)) zab))))))))))))))
   (fun x c ox pn vs hc hd h2 hx=>zad (zaq (zaI (zaa (zah) (zaa (zaw op_rep (zeu C_kind hr hx hc hd h2 (by decide) rfl (zaa (pv 4) zab)) (zaP zb1 rfl T.n_int boot_int (zaa (zai (call_isxT "ValueError" hc hd) rfl T.n_isinstance boot_isinstance (zaa (pv 4) (zaa (zbP (v := .ty "ValueError") rfl N_ValueError boot_ValueError39 rfl) zab))) zab))) zab)))))),?_⟩
  refine ⟨refuV K ea ce Q,?_,fun c H' x' hE hx' => ?_⟩
  ·rcases (by omega:w=0\/w=1\/w=2\/w=3\/w=4\/w=5\/w=6\/w=7\/w=8\/w=9) with rfl | rfl | rfl | rfl | rfl | rfl | rfl | rfl | rfl | rfl
   ·refine ⟨_,rfl,rfl,_,rfl,?_⟩
    rw [show decide (V.int ((0:Nat):Int)=V.int 0)=true from decide_eq_true rfl]
    refine iteT ⟨_,rfl,_,rfl,_,rfl,_,_,_,_,rfl,rfl,hf,(show atI _ ((0:Nat):Int)=_ from zaB rfl),b,l,G,cs,past,x,f0,rfl,B,g0,?_⟩
    by_cases hc:(cGet cs x).isSome=true
    ·rw [if_pos hc]
     exact E13.out fun fd H2 s r=>q fd H2 s (by rw [hc]; exact r)
    ·rw [if_neg hc]
     exact E4.out fun fd H2 s r=>q fd H2 s (by rw [Bool.not_eq_true] at hc; rw [hc]; exact r)
   ·refine ⟨_,rfl,rfl,_,rfl,?_⟩
    rw [show decide (V.int ((1:Nat):Int)=V.int 0)=false from zam (by decide)]
    refine iteF ?_
    refine ⟨_,rfl,rfl,_,rfl,?_⟩
    rw [show decide (V.int ((1:Nat):Int)=V.int 1)=true from decide_eq_true rfl]
    refine iteT ⟨_,rfl,_,rfl,_,rfl,_,_,_,_,rfl,rfl,hf,(show atI _ ((0:Nat):Int)=_ from zaB rfl),b,l,G,cs,past,x,f0,rfl,B,g0,?_⟩
    by_cases hc:(cGet cs x).isSome=true
    ·rw [if_pos hc]
     exact E13.out fun fd H2 s r=>q fd H2 s (by rw [hc]; exact r)
    ·rw [if_neg hc]
     exact E4.out fun fd H2 s r=>q fd H2 s (by rw [Bool.not_eq_true] at hc; rw [hc]; exact r)
   ·refine ⟨_,rfl,rfl,_,rfl,?_⟩
    rw [show decide (V.int ((2:Nat):Int)=V.int 0)=false from zam (by decide)]
    refine iteF ?_
    refine ⟨_,rfl,rfl,_,rfl,?_⟩
    rw [show decide (V.int ((2:Nat):Int)=V.int 1)=false from zam (by decide)]
    refine iteF ?_
    refine ⟨_,rfl,rfl,_,rfl,?_⟩
    rw [show decide (V.int ((2:Nat):Int)=V.int 2)=true from decide_eq_true rfl]
    exact iteT ⟨_,rfl,_,rfl,_,_,_,_,rfl,rfl,hf,(show atI _ ((0:Nat):Int)=_ from zaB rfl),_,f0,rfl,g0,E13.out fun fd H2 s r=>q fd H2 s r⟩
   ·refine ⟨_,rfl,rfl,_,rfl,?_⟩
    rw [show decide (V.int ((3:Nat):Int)=V.int 0)=false from zam (by decide)]
    refine iteF ?_
    refine ⟨_,rfl,rfl,_,rfl,?_⟩
    rw [show decide (V.int ((3:Nat):Int)=V.int 1)=false from zam (by decide)]
    refine iteF ?_
    refine ⟨_,rfl,rfl,_,rfl,?_⟩
    rw [show decide (V.int ((3:Nat):Int)=V.int 2)=false from zam (by decide)]
    refine iteF ?_
    refine ⟨_,rfl,rfl,_,rfl,?_⟩
    rw [show decide (V.int ((3:Nat):Int)=V.int 3)=true from decide_eq_true rfl]
    exact iteT ⟨_,rfl,_,rfl,_,_,_,_,rfl,rfl,hf,(show atI _ ((0:Nat):Int)=_ from zaB rfl),_,f0,rfl,g0,E13.out fun fd H2 s r=>q fd H2 s r⟩
   ·refine ⟨_,rfl,rfl,_,rfl,?_⟩
    rw [show decide (V.int ((4:Nat):Int)=V.int 0)=false from zam (by decide)]
    refine iteF ?_
    refine ⟨_,rfl,rfl,_,rfl,?_⟩
    rw [show decide (V.int ((4:Nat):Int)=V.int 1)=false from zam (by decide)]
    refine iteF ?_
    refine ⟨_,rfl,rfl,_,rfl,?_⟩
    rw [show decide (V.int ((4:Nat):Int)=V.int 2)=false from zam (by decide)]
    refine iteF ?_
    refine ⟨_,rfl,rfl,_,rfl,?_⟩
    rw [show decide (V.int ((4:Nat):Int)=V.int 3)=false from zam (by decide)]
    refine iteF ?_
    refine ⟨_,rfl,rfl,_,rfl,?_⟩
    rw [show decide (V.int ((4:Nat):Int)=V.int 4)=true from decide_eq_true rfl]
    exact iteT ⟨_,rfl,_,rfl,_,_,_,_,rfl,rfl,hf,(show atI _ ((1:Nat):Int)=_ from zaB rfl),_,f1,rfl,g1,E13.out fun fd H2 s r=>q fd H2 s r⟩
   ·refine ⟨_,rfl,rfl,_,rfl,?_⟩
    rw [show decide (V.int ((5:Nat):Int)=V.int 0)=false from zam (by decide)]
    refine iteF ?_
    refine ⟨_,rfl,rfl,_,rfl,?_⟩
    rw [show decide (V.int ((5:Nat):Int)=V.int 1)=false from zam (by decide)]
    refine iteF ?_
    refine ⟨_,rfl,rfl,_,rfl,?_⟩
    rw [show decide (V.int ((5:Nat):Int)=V.int 2)=false from zam (by decide)]
    refine iteF ?_
    refine ⟨_,rfl,rfl,_,rfl,?_⟩
    rw [show decide (V.int ((5:Nat):Int)=V.int 3)=false from zam (by decide)]
    refine iteF ?_
    refine ⟨_,rfl,rfl,_,rfl,?_⟩
    rw [show decide (V.int ((5:Nat):Int)=V.int 4)=false from zam (by decide)]
    refine iteF ?_
    refine ⟨_,rfl,rfl,_,rfl,?_⟩
    rw [show decide (V.int ((5:Nat):Int)=V.int 5)=true from decide_eq_true rfl]
    exact iteT ⟨_,rfl,_,rfl,_,_,_,_,rfl,rfl,hf,(show atI _ ((2:Nat):Int)=_ from zaB rfl),_,f2,rfl,g2,E11.out fun fd H2 s r=>q fd H2 s r⟩
   ·refine ⟨_,rfl,rfl,_,rfl,?_⟩
    rw [show decide (V.int ((6:Nat):Int)=V.int 0)=false from zam (by decide)]
    refine iteF ?_
    refine ⟨_,rfl,rfl,_,rfl,?_⟩
    rw [show decide (V.int ((6:Nat):Int)=V.int 1)=false from zam (by decide)]
    refine iteF ?_
    refine ⟨_,rfl,rfl,_,rfl,?_⟩
    rw [show decide (V.int ((6:Nat):Int)=V.int 2)=false from zam (by decide)]
    refine iteF ?_
    refine ⟨_,rfl,rfl,_,rfl,?_⟩
    rw [show decide (V.int ((6:Nat):Int)=V.int 3)=false from zam (by decide)]
    refine iteF ?_
    refine ⟨_,rfl,rfl,_,rfl,?_⟩
    rw [show decide (V.int ((6:Nat):Int)=V.int 4)=false from zam (by decide)]
    refine iteF ?_
    refine ⟨_,rfl,rfl,_,rfl,?_⟩
    rw [show decide (V.int ((6:Nat):Int)=V.int 5)=false from zam (by decide)]
    refine iteF ?_
    refine ⟨_,rfl,rfl,_,rfl,?_⟩
    rw [show decide (V.int ((6:Nat):Int)=V.int 6)=true from decide_eq_true rfl]
    exact iteT ⟨_,rfl,_,rfl,_,_,_,_,rfl,rfl,hf,(show atI _ ((0:Nat):Int)=_ from zaB rfl),_,f0,rfl,g0,E12.out fun fd H2 s r=>q fd H2 s r⟩
   ·refine ⟨_,rfl,rfl,_,rfl,?_⟩
    rw [show decide (V.int ((7:Nat):Int)=V.int 0)=false from zam (by decide)]
    refine iteF ?_
    refine ⟨_,rfl,rfl,_,rfl,?_⟩
    rw [show decide (V.int ((7:Nat):Int)=V.int 1)=false from zam (by decide)]
    refine iteF ?_
    refine ⟨_,rfl,rfl,_,rfl,?_⟩
    rw [show decide (V.int ((7:Nat):Int)=V.int 2)=false from zam (by decide)]
    refine iteF ?_
    refine ⟨_,rfl,rfl,_,rfl,?_⟩
    rw [show decide (V.int ((7:Nat):Int)=V.int 3)=false from zam (by decide)]
    refine iteF ?_
    refine ⟨_,rfl,rfl,_,rfl,?_⟩
    rw [show decide (V.int ((7:Nat):Int)=V.int 4)=false from zam (by decide)]
    refine iteF ?_
    refine ⟨_,rfl,rfl,_,rfl,?_⟩
    rw [show decide (V.int ((7:Nat):Int)=V.int 5)=false from zam (by decide)]
    refine iteF ?_
    refine ⟨_,rfl,rfl,_,rfl,?_⟩
    rw [show decide (V.int ((7:Nat):Int)=V.int 6)=false from zam (by decide)]
    refine iteF ?_
    refine ⟨_,rfl,rfl,_,rfl,?_⟩
    rw [show decide (V.int ((7:Nat):Int)=V.int 7)=true from decide_eq_true rfl]
    exact iteT ⟨_,rfl,_,rfl,_,_,_,_,rfl,rfl,hf,(show atI _ ((3:Nat):Int)=_ from zaB rfl),_,f3,rfl,g3,E12.out fun fd H2 s r=>q fd H2 s r⟩
   ·refine ⟨_,rfl,rfl,_,rfl,?_⟩
    rw [show decide (V.int ((8:Nat):Int)=V.int 0)=false from zam (by decide)]
    refine iteF ?_
    refine ⟨_,rfl,rfl,_,rfl,?_⟩
    rw [show decide (V.int ((8:Nat):Int)=V.int 1)=false from zam (by decide)]
    refine iteF ?_
    refine ⟨_,rfl,rfl,_,rfl,?_⟩
    rw [show decide (V.int ((8:Nat):Int)=V.int 2)=false from zam (by decide)]
    refine iteF ?_
    refine ⟨_,rfl,rfl,_,rfl,?_⟩
    rw [show decide (V.int ((8:Nat):Int)=V.int 3)=false from zam (by decide)]
    refine iteF ?_
    refine ⟨_,rfl,rfl,_,rfl,?_⟩
    rw [show decide (V.int ((8:Nat):Int)=V.int 4)=false from zam (by decide)]
    refine iteF ?_
    refine ⟨_,rfl,rfl,_,rfl,?_⟩
    rw [show decide (V.int ((8:Nat):Int)=V.int 5)=false from zam (by decide)]
    refine iteF ?_
    refine ⟨_,rfl,rfl,_,rfl,?_⟩
    rw [show decide (V.int ((8:Nat):Int)=V.int 6)=false from zam (by decide)]
    refine iteF ?_
    refine ⟨_,rfl,rfl,_,rfl,?_⟩
    rw [show decide (V.int ((8:Nat):Int)=V.int 7)=false from zam (by decide)]
    refine iteF ?_
    refine ⟨_,rfl,rfl,_,rfl,?_⟩
    rw [show decide (V.int ((8:Nat):Int)=V.int 8)=true from decide_eq_true rfl]
    exact iteT ⟨_,rfl,_,rfl,_,_,_,_,rfl,rfl,hf,(show atI _ ((4:Nat):Int)=_ from zaB rfl),_,f4,rfl,g4,E12.out fun fd H2 s r=>q fd H2 s r⟩
   ·refine ⟨_,rfl,rfl,_,rfl,?_⟩
    rw [show decide (V.int ((9:Nat):Int)=V.int 0)=false from zam (by decide)]
    refine iteF ?_
    refine ⟨_,rfl,rfl,_,rfl,?_⟩
    rw [show decide (V.int ((9:Nat):Int)=V.int 1)=false from zam (by decide)]
    refine iteF ?_
    refine ⟨_,rfl,rfl,_,rfl,?_⟩
    rw [show decide (V.int ((9:Nat):Int)=V.int 2)=false from zam (by decide)]
    refine iteF ?_
    refine ⟨_,rfl,rfl,_,rfl,?_⟩
    rw [show decide (V.int ((9:Nat):Int)=V.int 3)=false from zam (by decide)]
    refine iteF ?_
    refine ⟨_,rfl,rfl,_,rfl,?_⟩
    rw [show decide (V.int ((9:Nat):Int)=V.int 4)=false from zam (by decide)]
    refine iteF ?_
    refine ⟨_,rfl,rfl,_,rfl,?_⟩
    rw [show decide (V.int ((9:Nat):Int)=V.int 5)=false from zam (by decide)]
    refine iteF ?_
    refine ⟨_,rfl,rfl,_,rfl,?_⟩
    rw [show decide (V.int ((9:Nat):Int)=V.int 6)=false from zam (by decide)]
    refine iteF ?_
    refine ⟨_,rfl,rfl,_,rfl,?_⟩
    rw [show decide (V.int ((9:Nat):Int)=V.int 7)=false from zam (by decide)]
    refine iteF ?_
    refine ⟨_,rfl,rfl,_,rfl,?_⟩
    rw [show decide (V.int ((9:Nat):Int)=V.int 8)=false from zam (by decide)]
    refine iteF ?_
    refine ⟨_,rfl,b,dx,_,rfl,hb,rfl,_,rfl,b,l,G,cs,past,x,rfl,B,?_⟩
    rw [hx rfl]
    exact E4.out fun fd H2 s r=>q fd H2 s r
  ·obtain ⟨Dd,j,rfl,kf,he,kv,q⟩:=hE
   refine ⟨he,_,rfl,rfl,Dd,j,rfl,kf,fun p H2 s2 n2 e2 => ?_⟩
   refine ⟨_,rfl,Dd,true,rfl,rfl,kf.cls,kv,.inr ⟨true,rfl,p,1,_,rfl,rfl,e2,by decide,by decide,big (by show 1 * 1<=1000; decide),fun p2 np2=>⟨bigr rfl,fun p' np' => ?_⟩⟩⟩
   exact q p' p2 _ (s2.trans (Same.new np2)) zaf np'
theorem at0 {x y:V}:atI [x,y] 0=some x:=show atI [x,y] ((0:Nat):Int)=_ from zaB rfl
theorem at1 {x y:V}:atI [x,y] 1=some y:=show atI [x,y] ((1:Nat):Int)=_ from zaB rfl
noncomputable def sp_refused (K:W.Frag):Sp:=fun vs H Q _=>∃ (a l:Addr) (x:Str),vs = [.ref a,.str x]/\PyData.strOk x=true/\H a=some (.tup [.str (Str.ofString "refused"),.ref l])/\H l=some (.lst [.str x])/\∀ H',Same H H'->Q (.bl true) H'
theorem zcL {x:Str} (h:PyData.strOk x=true):SeqAt.shaped (.list [.str x])=true:=by simp [h,SeqAt.shaped,PyData.canLay0,PyData.canLayAll0,PyData.depth,PyData.depthAll]
theorem eqv_one (x:Str):PyData.eqv (.list [.str x]) (.list [.str x])=true:=by simp [PyData.eqv,PyData.eqvAll]
theorem zcM:FnScope ["_law_found","_law_due"] ["_law_found","_law_due"] (defScope s_refused):=⟨rfl,rfl,rfl,by decide +kernel,rfl,by decide +kernel,by decide +kernel⟩
theorem ok_refused (D:DefAt K mg "_law_refused" s_refused) (T:Bn mg):Callee P w K mg base "_law_refused" 2 ["_law_found","_law_due"] (sp_refused K):=by
 refine D.callee zcM (fun _ _ _ _ _ _=>ln2 fun _ _=>rfl) (fun vs H Q E h => ?_) (fun f cdv A outer s H vs Q E hr h => ?_)
 ·obtain ⟨a,l,x,rfl,_⟩:=h
  rfl
 ·obtain ⟨a,l,x,rfl,hok,ha,hl,q⟩:=h
  have S:=zcM
  have a0:atI [V.str (Str.ofString "refused"),V.ref l] 0=some (V.str (Str.ofString "refused")):=at0
  have a1:atI [V.str (Str.ofString "refused"),V.ref l] 1=some (V.ref l):=at1
  refine ⟨_,zag (zat (PW.pt (zde (zaJ (zaX (zai (zbJ "tuple") rfl T.n_isinstance boot_isinstance (zaa (pv 0) (zaa (zbP (v := .ty "tuple") rfl T.n_tuple boot_tuple rfl) zab))))) (zde (zak zcF (zai zao rfl T.n_len PySem.boot_len (zaa (pv 0) zab)) (zac) (zan _)) (zcs (zak zcF (zaO zez (pv 0) (zac) (fun _ _=>rfl)) (zah) (zan _))))))
   (zad (zaq (zbi)))
   (zaj))
  (zad (zaq (zbE (op_eqD hr.units) (zaO zez (pv 0) (zac) (fun _ _=>rfl)) (zaT (zaa (pv 1) zab)) (zan _)))),?_⟩
  refine ⟨_,rfl,_,_,true,rfl,.tup ha,rfl,_,rfl,?_⟩
  refine iteF ?_
  refine ⟨_,rfl,_,_,rfl,.inr (SqT.of ha),rfl,_,rfl,?_⟩
  refine iteF ?_
  refine ⟨_,rfl,_,_,_,_,rfl,rfl,SqT.of ha,a0,rfl,_,rfl,?_⟩
  refine iteF ?_
  refine ⟨_,rfl,_,_,_,_,rfl,rfl,SqT.of ha,a1,_,rfl,bigr rfl,fun p np => ?_⟩
  have s1:Same H (upd H p (.lst [.str x])):=Same.new np
  refine ⟨_,_,.lst (SqL.of (s1 _ _ hl)) (.cons (.str x) .nil),.lst (SqL.of zaf) (.cons (.str x) .nil),zcL hok,zcL hok,?_⟩
  rw [if_neg Bool.false_ne_true,eqv_one]
  exact q _ s1
theorem zc4:∀ j,j < 15->PyData.strOk (errName j)=true/\errName j≠Str.ofString "" := by decide +kernel
noncomputable def RowD (K:W.Frag) (x:Str) (cs:Combs) (past:List Combs) (H:Hp) (v:V):Prop:=∃ (p:Addr) (d:Int) (mv:V) (j:Nat),v = .ref p/\H p=some (.tup [.int d,.str x,mv,.str (errName j)])/\j<=7/\DoOk K H d x mv cs past (.error j)
theorem RowD.same {K:W.Frag} {x:Str} {cs:Combs} {past:List Combs} {H H':Hp} {v:V} (r:RowD K x cs past H v) (s:Same H H'):RowD K x cs past H' v:=by
 obtain ⟨p,d,mv,j,e,h,hj,h2⟩:=r
 exact ⟨p,d,mv,j,e,s _ _ h,hj,h2.same s⟩
theorem RowD.new {K:W.Frag} {x:Str} {cs:Combs} {past:List Combs} {H:Hp} {p:Addr} {d:Int} {mv:V} {j:Nat} (n:H p=none) (hj:j<=7) (h:DoOk K H d x mv cs past (.error j)):RowD K x cs past (upd H p (.tup [.int d,.str x,mv,.str (errName j)])) (.ref p) :=
 ⟨p,d,mv,j,rfl,zaf,hj,h.same (Same.new n)⟩
theorem deed_no {K:W.Frag} {ea:Nat->Addr} {ce:Value} {C b l:Addr} {G:Addr->Prop} {H:Hp} {cs:Combs} {past:List Combs} {Q:VK} {j:Nat} (e:EJ K ea ce j) (q:∀ fd H2,Same H H2->Refd H2 fd j->Q (.ref fd) H2):∀ H1,Same H H1->Deed ea C G H1 b l cs past (tellT Q) (refuT K ea ce Q) (.error j) :=
 fun H1 s1 H' s=>ze5 e fun fd H2 s2 a=>q fd H2 (s1.trans (s.trans s2)) a
section
variable {cs:Combs} {past:List Combs} {x:Str} {t:Int}
theorem zdy {ts:List Int} (h:t∈ts) (hb:7 < t):areTeeth ts=false:=by
 rw [Bool.eq_false_iff]
 intro z
 have:=(teeth_iff.mp z).2.2 t h
 omega
theorem ze2 (h:t < 0\/7 < t):inR t=false:=by
 rw [Bool.eq_false_iff]
 intro z
 have:=inR_iff.mp z
 omega
theorem no_drop (h:cGet cs x=none):dropD cs past x = .error 4:=by unfold dropD; rw [h]; rfl
theorem no_add (h:cGet cs x=none):addD cs past x t = .error 4:=by unfold addD; rw [h]
theorem no_off (h:cGet cs x=none):offD cs past x t = .error 4:=by unfold offD; rw [h]
theorem no_name {ts:List Int} (h:isName x=false):putD cs past x ts = .error 0:=by unfold putD; rw [if_pos h]
theorem zd3 {ts:List Int} (h:isName x=true) (ht:areTeeth ts=false):putD cs past x ts = .error 1:=by unfold putD; rw [if_neg (by rw [h]; decide),if_pos ht]
theorem no_taken (h:isName x=true) (hg:(cGet cs x).isSome=true):putD cs past x [0] = .error 2:=by unfold putD; rw [if_neg (by rw [h]; decide),if_neg (by decide),if_pos hg]
theorem no_there {ts:List Int} (h:cGet cs x=some ts) (h0:(0:Int)∈ts):addD cs past x 0 = .error 6:=by unfold addD; rw [h]; dsimp only; rw [if_neg (by decide),if_pos h0]
theorem no_addR {ts:List Int} (h:cGet cs x=some ts) (hr:inR t=false):addD cs past x t = .error 5:=by unfold addD; rw [h]; dsimp only; rw [if_pos hr]
theorem no_offR {ts:List Int} (h:cGet cs x=some ts) (hr:inR t=false):offD cs past x t = .error 5:=by unfold offD; rw [h]; dsimp only; rw [if_pos hr]
theorem no_first {ts:List Int} (h:cGet cs x=some ts):offD cs past x 0 = .error 7:=by unfold offD; rw [h]; dsimp only; rw [if_neg (by decide),if_pos rfl]
end
theorem ze9 (c:Bool) {y z:V}:atI [y,z] (if c=true then 1 else 0)=some (if c=true then z else y):=by
 cases c
 ·exact at0
 ·exact at1
noncomputable def askRows (there:Bool):List V:=(List.range (if there=true then 9 else 10)).map fun w=>V.str (errName (askJ there w))
noncomputable def zzS:Str:=Str.ofString "zz"
noncomputable def strangers:List Str := [Str.ofString "abcdefg",zzS,Str.ofString "",Str.ofString "a b"]
theorem zbT:∀ x∈strangers,isName x=decide (x=zzS):=by decide +kernel
noncomputable def sp_doors (C:Addr):Sp:=fun vs H Q _=>∃ (b l:Addr) (G:Addr->Prop) (cs:Combs) (past:List Combs) (x:Str) (there:Bool) (fa:Addr) (f:List Int),vs = [.ref b,.str x,.bl there,.ref fa]/\Bk C G H b l cs past/\H fa=some (.lst (f.map V.int))/\FarOk f/\x.length<=1000/\(cGet cs x).isSome=there/\(there=false->x∈strangers)/\∀ H',Same H H'->Q (.bl true) H'
theorem zdP:FnScope ["_law_book","_law_word","_law_there","_law_far","_law_rows","_law_what","_law_bad","_law_deed","_law_name","_law_more","_law_due"] ["_law_book","_law_word","_law_there","_law_far"] (defScope s_doors):=⟨rfl,rfl,rfl,by decide +kernel,rfl,by decide +kernel,by decide +kernel⟩
theorem ok_doors (D:DefAt K mg "_law_doors" s_doors) (T:Bn mg) {ea:Nat->Addr} {ce:Value} {C:Addr} (EE:∀ j,j<=7->EJ K ea ce j) (C_ask:Callee P w K mg base "_law_ask" 3 ["_law_what","_law_book","_law_word","_law_far"] (sp_ask39 C)) (C_refused:Callee P w K mg base "_law_refused" 2 ["_law_found","_law_due"] (sp_refused K)) (C_do:Callee P w K mg base "_law_do" 4 ["_law_book","_law_deed","_law_word","_law_more"] (sp_do39 K ea ce C)):Callee P w K mg base "_law_doors" 5 ["_law_book","_law_word","_law_there","_law_far"] (sp_doors C):=by
 refine D.calleeQ zdP (fun _ _ _ _ _ _=>ln4 fun _ _ _ _=>rfl) (fun vs H Q E h => ?_) (fun f cdv A outer s H vs Q E hr h => ?_)
 ·obtain ⟨b,l,G,cs,past,x,there,fa,f,rfl,_⟩:=h
  rfl
 ·obtain ⟨b,l,G,cs,past,x,there,fa,f,rfl,B,hf,hF,hxl,hth,hst,q⟩:=h
  have S:=zdP
  have hu:=zb7 hr
  obtain ⟨f0,f1,f2,f3,f4,ef,_⟩:=id hF
  have p5':(0:Int) < 5:=by decide
  refine ⟨_,zau (zaN (i:=4) S.nd rfl (Or.inl rfl) (zaL (zae (zed zax (zaL (zae (qe (zah)) (zae (qe (zah)) (zaG)))) (qe (zaP zb1 rfl T.n_int boot_int (zaa (pv 2) zab))) (fun _ _=>rfl)) (zae (zed zax (zaL (zae (qe (zah)) (zae (qe (zah)) (zaG)))) (qe (zaP zb1 rfl T.n_int boot_int (zaa (pv 2) zab))) (fun _ _=>rfl)) (zaG)))))
  (zau (zaN (i:=4) S.nd rfl (Or.inl rfl) (zdd zbg (qe (pv 4)) (zaL (zae (qe (zah)) (zae (qe (zah)) (zae (qe (zah)) (zae (qe (zah)) (zae (qe (zah)) (zae (qe (zah)) (zae (qe (zah)) (zaG)))))))))))
  (zcr (qs (zat (zaJ (zaX (pv 2)))
   (zad (zav (zbK PySem.F.plainAttrs_list PySem.F.slot_list_append PySem.F.type_list_append zaz (pv 4) (zaa (zah) zab))))
   (zaj)))
  (zau (qs (zct PassesOwn.never rfl (zbB rfl T.n_range (zaa (zai zao rfl T.n_len PySem.boot_len (zaa (pv 4) zab)) zab)) (zaC (i:=5) S.nd rfl (Or.inl rfl))
   (zad (zat (zaJ (zaX (za1 C_refused (hr.mono (by decide)) rfl (zaa (za1 C_ask (hr.mono (by decide)) rfl (zaa (pv 5) (zaa (pv 0) (zaa (pv 1) (zaa (pv 3) zab))))) (zaa (zaO zax (pv 4) (pv 5) (fun _ _=>rfl)) zab)))))
    (zad (zaq (zbi)))
    (zaj)))))
  (zau (zaN (i:=6) S.nd rfl (Or.inl rfl) (qe (zaw zbw (zac) (zaw za8 (zaO zax (pv 3) (zac) (fun _ _=>rfl)) (zac)))))
  (zau (zaN (i:=4) S.nd rfl (Or.inl rfl) (zaL (zae (zdQ (zae (qe (zac)) (zae (qe (pv 1)) (zae (qe (zac)) (zae (qe (zah)) (zaG)))))) (zae (zdQ (zae (qe (zac)) (zae (qe (pv 1)) (zae (qe (pv 6)) (zae (qe (zah)) (zaG)))))) (zae (zdQ (zae (qe (zac)) (zae (qe (pv 1)) (zae (qe (zac)) (zae (qe (zah)) (zaG)))))) (zaG))))))
  (zau (qs (zav (zbK PySem.F.plainAttrs_list PySem.F.slot_list_append PySem.F.type_list_append zaz (pv 4) (zaa (zaI (zaa (zac) (zaa (pv 1) (zaa (zaT (zaa (pv 6) zab)) (zaa (zaO zax (zaT (zaa (zah) (zaa (zah) zab))) (zaP zb1 rfl T.n_int boot_int (zaa (zbE zaF (pv 1) (zah) (zan _)) zab)) (fun _ _=>rfl)) zab))))) zab))))
  (zcr (qs (zat (zaX (pv 2))
   (zag (za0 (i:=4) S.nd rfl (Or.inl rfl) (zaT (zaa (zaI (zaa (zac) (zaa (pv 1) (zaa (zaT (zaa (zac) (zaa (pv 6) zab))) (zaa (zah) zab))))) (zaa (zaI (zaa (zac) (zaa (pv 1) (zaa (zaT (zaa (zac) zab)) (zaa (zah) zab))))) zab))))
   (zag (za0 (i:=4) S.nd rfl (Or.inl rfl) (zaw zbg (pv 4) (zaT (zaa (zaI (zaa (zac) (zaa (pv 1) (zaa (zac) (zaa (zah) zab))))) (zaa (zaI (zaa (zac) (zaa (pv 1) (zaa (pv 6) (zaa (zah) zab))))) zab)))))
   (zad (za0 (i:=4) S.nd rfl (Or.inl rfl) (zaw zbg (pv 4) (zaT (zaa (zaI (zaa (zac) (zaa (pv 1) (zaa (zac) (zaa (zah) zab))))) (zaa (zaI (zaa (zac) (zaa (pv 1) (zaa (zbO za4 (zac)) (zaa (zah) zab))))) zab))))))))
   (zaj)))
  (zau (qs (zct PassesOwn.never rfl (zb4 (pv 4)) (zeU rfl (zbp (zaC (i:=7) S.nd rfl (Or.inl rfl)) (zbp (zaC (i:=8) S.nd rfl (Or.inl rfl)) (zbp (zaC (i:=9) S.nd rfl (Or.inl rfl)) (zbp (zaC (i:=10) S.nd rfl (Or.inl rfl)) (zes))))))
   (zad (zat (zaJ (zaX (za1 C_refused (hr.mono (by decide)) rfl (zaa (za1 C_do (hr.mono (by decide)) rfl (zaa (pv 0) (zaa (pv 7) (zaa (pv 8) (zaa (pv 9) zab))))) (zaa (pv 10) zab)))))
    (zad (zaq (zbi)))
    (zaj)))))
  (zcq (zdc (qe (zbi)))))))))))),?_⟩
  refine ⟨bigr rfl,fun p1 n1=>⟨_,rfl,.inr ⟨_,rfl,_,_,_,_,rfl,rfl,SqL.of zaf,ze9 there,bigr rfl,fun p2 n2=>⟨_,rfl,.inr ⟨_,rfl,_,_,_,_,rfl,rfl,SqL.of zaf,ze9 there,bigr rfl,fun p3 n3 => ?_⟩⟩⟩⟩⟩
  have s3:Same H _:=((Same.new (o := .lst [V.str (Str.ofString "NoComb"),V.str (Str.ofString "BadLength")]) n1).trans (Same.new (o := .lst [V.str (Str.ofString "NoComb"),V.str (Str.ofString "BadLength")]) n2)).trans (Same.new (o := .lst [if there=true then V.str (Str.ofString "BadLength") else V.str (Str.ofString "NoComb"),if there=true then V.str (Str.ofString "BadLength") else V.str (Str.ofString "NoComb")]) n3)
  refine ⟨_,rfl,bigr rfl,fun p4 n4=>⟨p3,p4,_,_,rfl,rfl,Same.new n4 _ _ zaf,zaf,bigr rfl,fun p5 n5 => ?_⟩⟩
  refine ⟨fun σ Hx => σ = [some (.ref b),some (.str x),some (.bl there),some (.ref fa),some (.ref p5),none,none,none,none,none,none]/\Same H Hx/\Hx p5=some (.lst (askRows there)),?_,?_⟩
  ·obtain ⟨s5,e5⟩:=(s3.trans (Same.new (o := .lst [V.str (Str.ofString "BadLength"),V.str (Str.ofString "BadLength"),V.str (Str.ofString "BadLength"),V.str (Str.ofString "BadShape"),V.str (Str.ofString "BadPlace"),V.str (Str.ofString "BadPlace"),V.str (Str.ofString "BadPlace")]) n4)).lstE (o := .lst ([if there=true then V.str (Str.ofString "BadLength") else V.str (Str.ofString "NoComb"),if there=true then V.str (Str.ofString "BadLength") else V.str (Str.ofString "NoComb")] ++ [V.str (Str.ofString "BadLength"),V.str (Str.ofString "BadLength"),V.str (Str.ofString "BadLength"),V.str (Str.ofString "BadShape"),V.str (Str.ofString "BadPlace"),V.str (Str.ofString "BadPlace"),V.str (Str.ofString "BadPlace")])) n5
   refine ⟨_,rfl,_,rfl,?_⟩
   cases there with
   | false=>exact iteT ⟨_,rfl,.inl ⟨rfl,_,SqL.of e5⟩,p5,_,_,rfl,rfl,e5,Nat.lt_of_lt_of_le (by decide:9 < 1000) zbx,rfl,s5.put (s3.trans (Same.new n4) |>.free n5),zaf⟩
   | true=>exact iteF ⟨rfl,s5,e5⟩
  rintro σ H1 ⟨rfl,s1,e1⟩
  have al:(askRows there).length=if there=true then 9 else 10:=by unfold askRows; rw [List.length_map,List.length_range]
  have al10:(askRows there).length<=10:=by rw [al]; split <;> omega
  refine ⟨_,rfl,p5,_,rfl,.inl (SqL.of e1),_,rfl,by omega,by omega,?_⟩
  refine zdF (zaY 0 _) (fun i σ Hx=>∃ x5,σ = [some (.ref b),some (.str x),some (.bl there),some (.ref fa),some (.ref p5),x5,none,none,none,none,none]/\Same H1 Hx) ⟨_,rfl,Same.refl _⟩ (fun _ _ _ _ _=>trivial) ?_ ?_
  ·rintro i y σ Hx hy ⟨x5,rfl,sx⟩
   obtain ⟨hi,rfl⟩:=zdb hy
   rw [show (0:Int) + ((i:Nat):Int)=((i:Nat):Int) from Int.zero_add _]
   have hi':i < (askRows there).length:=by omega
   have s0x:=s1.trans sx
   have hat:atI (askRows there) ((i:Nat):Int)=some (V.str (errName (askJ there i))):=by
    refine zaB ?_
    rw [al] at hi'
    unfold askRows
    rw [List.getElem?_map,List.getElem?_range hi']
    rfl
   have hJ:askJ there i < 15:=by
    unfold askJ
    split <;> (try split) <;> decide
   refine ⟨_,rfl,_,rfl,_,rfl,_,rfl,i,b,l,G,cs,past,x,fa,f,rfl,B.same s0x,s0x _ _ hf,hF,by omega,fun e9 => ?_,fun fd H3 s3 rf => ?_⟩
   ·cases there with
    | true=>rw [al,if_pos rfl] at hi'; omega
    | false=>exact Option.isNone_iff_eq_none.mp (by rw [<- Option.not_isSome,hth]; rfl)
   obtain ⟨le,h1,h2⟩:=rf
   rw [hth] at h2
   refine ⟨_,rfl,_,rfl,_,_,_,_,rfl,rfl,SqL.of (s3 _ _ (sx _ _ e1)),hat,fd,le,_,rfl,(zc4 _ hJ).1,h1,h2,fun H4 s4=>⟨_,rfl,iteF ?_⟩⟩
   exact ⟨_,rfl,(sx.trans s3).trans s4⟩
  rintro σ H2 ⟨x5,rfl,s2⟩
  have s02:=s1.trans s2
  have hf2:=s02 _ _ hf
  rw [ef] at hf2
  refine ⟨_,rfl,_,_,_,_,rfl,rfl,SqL.of hf2,(show atI _ ((0:Nat):Int)=_ from zaB rfl),_,_,rfl,rfl,p5',_,_,rfl,rfl,?_⟩
  show gName 6 (V.int (8 + f0 % 5)) _ _ _
  have hbad:7 < 8 + f0 % 5:=by have:=Int.emod_nonneg f0 (show (5:Int)≠0 by decide); omega
  generalize 8 + f0 % 5=bad at hbad ⊢
  have hno:there=false->cGet cs x=none:=fun e=>Option.isNone_iff_eq_none.mp (by rw [<- Option.not_isSome,hth,e]; rfl)
  refine ⟨_,rfl,bigr rfl,fun q1 m1=>⟨_,rfl,_,rfl,bigr rfl,fun q2 m2=>⟨_,rfl,bigr rfl,fun q3 m3=>⟨bigr rfl,fun rp m4 => ?_⟩⟩⟩⟩
  have k1:=Same.new (o := .tup [.int 1,.str x,.int 0,.str (Str.ofString "NoComb")]) m1
  have k2:=Same.new (o := .tup [.int 2,.str x,.int bad,.str (Str.ofString "NoComb")]) m2
  have k3:=Same.new (o := .tup [.int 3,.str x,.int 0,.str (Str.ofString "NoComb")]) m3
  have rows3:there=false->∀ v ∈ [V.ref q1,V.ref q2,V.ref q3],RowD K x cs past (upd (upd (upd H2 q1 (.tup [.int 1,.str x,.int 0,.str (Str.ofString "NoComb")])) q2 (.tup [.int 2,.str x,.int bad,.str (Str.ofString "NoComb")])) q3 (.tup [.int 3,.str x,.int 0,.str (Str.ofString "NoComb")])) v:=fun e v hv=>by
   have z:=hno e
   simp only [List.mem_cons,List.not_mem_nil,or_false] at hv
   rcases hv with rfl | rfl | rfl
   ·exact ((RowD.new (j:=4) m1 (by decide) (.inr (.inl ⟨rfl,⟨_,rfl⟩,(no_drop z).symm⟩))).same k2).same k3
   ·exact (RowD.new (j:=4) m2 (by decide) (.inr (.inr (.inl ⟨rfl,_,rfl,(no_add z).symm⟩)))).same k3
   ·exact RowD.new (j:=4) m3 (by decide) (.inr (.inr (.inr ⟨rfl,_,rfl,(no_off z).symm⟩)))
  have s23:=(k1.trans k2).trans k3
  generalize upd (upd (upd H2 q1 (.tup [.int 1,.str x,.int 0,.str (Str.ofString "NoComb")])) q2 (.tup [.int 2,.str x,.int bad,.str (Str.ofString "NoComb")])) q3 (.tup [.int 3,.str x,.int 0,.str (Str.ofString "NoComb")])=H3 at m4 rows3 s23 ⊢
  clear k1 k2 k3 m1 m2 m3
  obtain ⟨s34,e4⟩:=(Same.refl H3).lstE (o := .lst [.ref q1,.ref q2,.ref q3]) m4
  generalize upd H3 rp (.lst [.ref q1,.ref q2,.ref q3])=H4 at s34 e4 ⊢
  refine ⟨_,rfl,.inl ⟨rfl,_,SqL.of e4⟩,_,rfl,_,rfl,bigr rfl,fun q4 m5=>⟨bigr rfl,fun q5 m6=>⟨_,rfl,rfl,.inr ⟨_,rfl,_,_,_,_,rfl,rfl,SqL.of zaf,ze9 _,bigr rfl,fun q6 m7 => ?_⟩⟩⟩⟩
  have b4:H4 q4=none:=m5
  obtain ⟨s45,e5⟩:=(Same.refl H4).lstE (o := .lst [.int bad]) m5
  generalize upd H4 q4 (.lst [.int bad])=H5 at m6 m7 s45 e5 ⊢
  obtain ⟨s56,_⟩:=(Same.refl H5).lstE (o := .lst [V.str (Str.ofString "BadName"),V.str (Str.ofString "BadTeeth")]) m6
  generalize upd H5 q5 (.lst [V.str (Str.ofString "BadName"),V.str (Str.ofString "BadTeeth")])=H6 at m7 s56 ⊢
  obtain ⟨s67,e7⟩:=(Same.refl H6).lstE (o := .tup [.int 0,.str x,.ref q4,(if decide (V.str x=V.str (Str.ofString "zz"))=true then V.str (Str.ofString "BadTeeth") else V.str (Str.ofString "BadName"))]) m7
  generalize upd H6 q6 (.tup [.int 0,.str x,.ref q4,(if decide (V.str x=V.str (Str.ofString "zz"))=true then V.str (Str.ofString "BadTeeth") else V.str (Str.ofString "BadName"))])=H7 at s67 e7 ⊢
  have er:H7 rp=some (.lst [.ref q1,.ref q2,.ref q3]):=s67 _ _ (s56 _ _ (s45 _ _ e4))
  refine ⟨rp,_,_,rfl,rfl,er,Nat.lt_of_lt_of_le (by decide:3 < 1000) zbx,?_⟩
  have n4:q4≠rp:=fun z=>by rw [z,e4] at b4; cases b4
  have n6:q6≠rp:=fun z=>by rw [z,s56 _ _ (s45 _ _ e4)] at m7; cases m7
  have s38:Same H3 (upd H7 rp (.lst ([.ref q1,.ref q2,.ref q3] ++ [.ref q6]))):=(((s34.trans s45).trans s56).trans s67).put m4
  have e8:upd H7 rp (.lst ([.ref q1,.ref q2,.ref q3] ++ [.ref q6])) rp=some (.lst ([.ref q1,.ref q2,.ref q3] ++ [.ref q6])):=zaf
  have f4:upd H7 rp (.lst ([.ref q1,.ref q2,.ref q3] ++ [.ref q6])) q4=some (.lst ([bad].map V.int)):=by rw [zal n4]; exact s67 _ _ (s56 _ _ e5)
  have f6:upd H7 rp (.lst ([.ref q1,.ref q2,.ref q3] ++ [.ref q6])) q6=some (.tup [.int 0,.str x,.ref q4,(if decide (V.str x=V.str (Str.ofString "zz"))=true then V.str (Str.ofString "BadTeeth") else V.str (Str.ofString "BadName"))]):=by rw [zal n6]; exact e7
  generalize upd H7 rp (.lst ([.ref q1,.ref q2,.ref q3] ++ [.ref q6]))=H8 at s38 e8 f4 f6 ⊢
  have s28:=s23.trans s38
  have rows4:there=false->∀ v ∈ [V.ref q1,V.ref q2,V.ref q3] ++ [V.ref q6],RowD K x cs past H8 v:=fun e v hv=>by
   rcases List.mem_append.mp hv with h | h
   ·exact (rows3 e v h).same s38
   ·rw [List.mem_singleton.mp h]
    have hn:=zbT x (hst e)
    by_cases hz:x=zzS
    ·rw [decide_eq_true hz] at hn
     refine ⟨q6,0,.ref q4,1,rfl,?_,by decide,.inl ⟨rfl,q4,[bad],rfl,SqL.of f4,by show 1<=1000; decide,(zd3 hn (zdy (List.mem_singleton.mpr rfl) hbad)).symm⟩⟩
     rw [f6,if_pos (decide_eq_true (by rw [hz]; rfl))]
     rfl
    ·rw [decide_eq_false hz] at hn
     refine ⟨q6,0,.ref q4,0,rfl,?_,by decide,.inl ⟨rfl,q4,[bad],rfl,SqL.of f4,by show 1<=1000; decide,(no_name hn).symm⟩⟩
     rw [f6,if_neg (by rw [decide_eq_true_eq]; exact fun h=>hz (by injection h))]
     rfl
  clear rows3 s34 s45 s56 s67 e4 e5 e7 er m4 m5 m6 m7 b4
  refine ⟨fun σ Hx=>∃ ws r5,σ = [some (.ref b),some (.str x),some (.bl there),some (.ref fa),some (.ref r5),x5,some (.int bad),none,none,none,none]/\Same H2 Hx/\Hx r5=some (.lst ws)/\∀ v∈ws,RowD K x cs past Hx v,?_,?_⟩
  ·refine ⟨_,rfl,_,rfl,?_⟩
   cases there with
   | false=>exact iteF ⟨_,rp,rfl,s28,e8,rows4 rfl⟩
   | true =>
    refine iteT ?_
    clear rows4
    obtain ⟨ts,hts⟩:=Option.isSome_iff_exists.mp hth
    have hgx:=B.good.ok _ (zbj hts)
    have hnx:isName x=true:=hgx.1
    have h0:(0:Int)∈ts:=zdE hgx.2
    have htn:areTeeth [0,bad]=false:=zdy (t:=bad) (by simp) hbad
    have hrn:inR bad=false:=ze2 (.inr hbad)
    refine ⟨_,rfl,_,rfl,bigr rfl,fun t1 nt1 => ?_⟩
    obtain ⟨zt1,ct1⟩:=(Same.refl H8).lstE (o := .lst [V.int 0,V.int bad]) nt1
    generalize upd H8 t1 (.lst [V.int 0,V.int bad])=K1 at zt1 ct1 ⊢
    refine ⟨bigr rfl,fun g1 ng1 => ?_⟩
    obtain ⟨zg1,cg1⟩:=(Same.refl K1).lstE (o := .tup [.int 0,.str x,.ref t1,V.str (Str.ofString "BadTeeth")]) ng1
    have rg1:=RowD.new (x:=x) (cs:=cs) (past:=past) (K:=K) (j:=1) ng1 (by decide) (.inl ⟨rfl,t1,[0,bad],rfl,SqL.of ct1,by show 2<=1000; decide,(zd3 hnx htn).symm⟩)
    replace rg1:RowD K x cs past (upd K1 g1 (.tup [.int 0,.str x,.ref t1,V.str (Str.ofString "BadTeeth")])) (.ref g1):=rg1
    generalize upd K1 g1 (.tup [.int 0,.str x,.ref t1,V.str (Str.ofString "BadTeeth")])=K2 at zg1 cg1 rg1 ⊢
    refine ⟨_,rfl,bigr rfl,fun t2 nt2 => ?_⟩
    obtain ⟨zt2,ct2⟩:=(Same.refl K2).lstE (o := .lst [V.int 0]) nt2
    generalize upd K2 t2 (.lst [V.int 0])=K3 at zt2 ct2 ⊢
    refine ⟨bigr rfl,fun g2 ng2 => ?_⟩
    obtain ⟨zg2,cg2⟩:=(Same.refl K3).lstE (o := .tup [.int 0,.str x,.ref t2,V.str (Str.ofString "NameTaken")]) ng2
    have rg2:=RowD.new (x:=x) (cs:=cs) (past:=past) (K:=K) (j:=2) ng2 (by decide) (.inl ⟨rfl,t2,[0],rfl,SqL.of ct2,by show 1<=1000; decide,(no_taken hnx hth).symm⟩)
    replace rg2:RowD K x cs past (upd K3 g2 (.tup [.int 0,.str x,.ref t2,V.str (Str.ofString "NameTaken")])) (.ref g2):=rg2
    generalize upd K3 g2 (.tup [.int 0,.str x,.ref t2,V.str (Str.ofString "NameTaken")])=K4 at zg2 cg2 rg2 ⊢
    refine ⟨bigr rfl,fun l1 nl1 => ?_⟩
    obtain ⟨zl1,cl1⟩:=(Same.refl K4).lstE (o := .lst [.ref g1,.ref g2]) nl1
    generalize upd K4 l1 (.lst [.ref g1,.ref g2])=K5 at zl1 cl1 ⊢
    refine ⟨_,rfl,_,rfl,bigr rfl,fun g3 ng3 => ?_⟩
    obtain ⟨zg3,cg3⟩:=(Same.refl K5).lstE (o := .tup [.int 2,.str x,.int 0,V.str (Str.ofString "ToothThere")]) ng3
    have rg3:=RowD.new (x:=x) (cs:=cs) (past:=past) (K:=K) (j:=6) ng3 (by decide) (.inr (.inr (.inl ⟨rfl,_,rfl,(no_there hts h0).symm⟩)))
    replace rg3:RowD K x cs past (upd K5 g3 (.tup [.int 2,.str x,.int 0,V.str (Str.ofString "ToothThere")])) (.ref g3):=rg3
    generalize upd K5 g3 (.tup [.int 2,.str x,.int 0,V.str (Str.ofString "ToothThere")])=K6 at zg3 cg3 rg3 ⊢
    refine ⟨_,rfl,_,rfl,bigr rfl,fun g4 ng4 => ?_⟩
    obtain ⟨zg4,cg4⟩:=(Same.refl K6).lstE (o := .tup [.int 2,.str x,.int bad,V.str (Str.ofString "BadTooth")]) ng4
    have rg4:=RowD.new (x:=x) (cs:=cs) (past:=past) (K:=K) (j:=5) ng4 (by decide) (.inr (.inr (.inl ⟨rfl,_,rfl,(no_addR hts hrn).symm⟩)))
    replace rg4:RowD K x cs past (upd K6 g4 (.tup [.int 2,.str x,.int bad,V.str (Str.ofString "BadTooth")])) (.ref g4):=rg4
    generalize upd K6 g4 (.tup [.int 2,.str x,.int bad,V.str (Str.ofString "BadTooth")])=K7 at zg4 cg4 rg4 ⊢
    refine ⟨bigr rfl,fun l2 nl2 => ?_⟩
    obtain ⟨zl2,cl2⟩:=(Same.refl K7).lstE (o := .lst [.ref g3,.ref g4]) nl2
    generalize upd K7 l2 (.lst [.ref g3,.ref g4])=K8 at zl2 cl2 ⊢
    refine ⟨l1,l2,_,_,rfl,rfl,zl2 _ _ (zg4 _ _ (zg3 _ _ cl1)),cl2,bigr rfl,fun l3 nl3 => ?_⟩
    obtain ⟨zl3,cl3⟩:=(Same.refl K8).lstE (o := .lst ([.ref g1,.ref g2] ++ [.ref g3,.ref g4])) nl3
    generalize upd K8 l3 (.lst ([.ref g1,.ref g2] ++ [.ref g3,.ref g4]))=K9 at zl3 cl3 ⊢
    refine ⟨_,rfl,_,rfl,bigr rfl,fun g5 ng5 => ?_⟩
    obtain ⟨zg5,cg5⟩:=(Same.refl K9).lstE (o := .tup [.int 3,.str x,.int 0,V.str (Str.ofString "FirstTooth")]) ng5
    have rg5:=RowD.new (x:=x) (cs:=cs) (past:=past) (K:=K) (j:=7) ng5 (by decide) (.inr (.inr (.inr ⟨rfl,_,rfl,(no_first hts).symm⟩)))
    replace rg5:RowD K x cs past (upd K9 g5 (.tup [.int 3,.str x,.int 0,V.str (Str.ofString "FirstTooth")])) (.ref g5):=rg5
    generalize upd K9 g5 (.tup [.int 3,.str x,.int 0,V.str (Str.ofString "FirstTooth")])=K10 at zg5 cg5 rg5 ⊢
    refine ⟨_,rfl,_,rfl,bigr rfl,fun g6 ng6 => ?_⟩
    obtain ⟨zg6,cg6⟩:=(Same.refl K10).lstE (o := .tup [.int 3,.str x,.int (-1),V.str (Str.ofString "BadTooth")]) ng6
    have rg6:=RowD.new (x:=x) (cs:=cs) (past:=past) (K:=K) (j:=5) ng6 (by decide) (.inr (.inr (.inr ⟨rfl,_,rfl,(no_offR hts (ze2 (t := -1) (.inl (by decide)))).symm⟩)))
    replace rg6:RowD K x cs past (upd K10 g6 (.tup [.int 3,.str x,.int (-1),V.str (Str.ofString "BadTooth")])) (.ref g6):=rg6
    generalize upd K10 g6 (.tup [.int 3,.str x,.int (-1),V.str (Str.ofString "BadTooth")])=K11 at zg6 cg6 rg6 ⊢
    refine ⟨bigr rfl,fun l4 nl4 => ?_⟩
    obtain ⟨zl4,cl4⟩:=(Same.refl K11).lstE (o := .lst [.ref g5,.ref g6]) nl4
    generalize upd K11 l4 (.lst [.ref g5,.ref g6])=K12 at zl4 cl4 ⊢
    refine ⟨l3,l4,_,_,rfl,rfl,zl4 _ _ (zg6 _ _ (zg5 _ _ cl3)),cl4,bigr rfl,fun l5 nl5 => ?_⟩
    obtain ⟨zl5,cl5⟩:=(Same.refl K12).lstE (o := .lst (([.ref g1,.ref g2] ++ [.ref g3,.ref g4]) ++ [.ref g5,.ref g6])) nl5
    generalize upd K12 l5 (.lst (([.ref g1,.ref g2] ++ [.ref g3,.ref g4]) ++ [.ref g5,.ref g6]))=K13 at zl5 cl5 ⊢
    refine ⟨_,l5,rfl,(((((((((((((s28.trans zt1).trans zg1).trans zt2).trans zg2).trans zl1).trans zg3).trans zg4).trans zl2).trans zl3).trans zg5).trans zg6).trans zl4).trans zl5),cl5,fun v hv => ?_⟩
    simp only [List.cons_append,List.nil_append,List.mem_cons,List.not_mem_nil,or_false] at hv
    rcases hv with rfl | rfl | rfl | rfl | rfl | rfl
    ·exact rg1.same ((((((((((zt2.trans zg2).trans zl1).trans zg3).trans zg4).trans zl2).trans zl3).trans zg5).trans zg6).trans zl4).trans zl5)
    ·exact rg2.same ((((((((zl1.trans zg3).trans zg4).trans zl2).trans zl3).trans zg5).trans zg6).trans zl4).trans zl5)
    ·exact rg3.same ((((((zg4.trans zl2).trans zl3).trans zg5).trans zg6).trans zl4).trans zl5)
    ·exact rg4.same (((((zl2.trans zl3).trans zg5).trans zg6).trans zl4).trans zl5)
    ·exact rg5.same ((zg6.trans zl4).trans zl5)
    ·exact rg6.same (zl4.trans zl5)
  rintro σ H9 ⟨ws,r5,rfl,s9,e9,rows⟩
  have s09:=s02.trans s9
  refine ⟨_,rfl,_,rfl,⟨_,SqL.of e9⟩,?_⟩
  refine zdF (za3 K r5 ws) (fun i σ Hx=>∃ x7 x8 x9 x10,σ = [some (.ref b),some (.str x),some (.bl there),some (.ref fa),some (.ref r5),x5,some (.int bad),x7,x8,x9,x10]/\Same H9 Hx) ⟨_,_,_,_,rfl,Same.refl _⟩ (fun i σ Hx _ h=>by obtain ⟨_,_,_,_,_,h⟩:=h; exact SqL.of (h _ _ e9)) ?_ ?_
  ·rintro i y σ Hx hy ⟨x7,x8,x9,x10,rfl,sx⟩
   obtain ⟨p,dd,mv,j,rfl,hp,hj,hd⟩:=(rows y (List.mem_of_getElem? hy)).same sx
   refine ⟨p,_,rfl,SqT.of hp,rfl,_,_,rfl,_,_,rfl,_,_,rfl,_,_,rfl,rfl,?_⟩
   refine ⟨_,rfl,_,rfl,_,rfl,_,rfl,b,l,G,cs,past,dd,x,mv,rfl,B.same (s09.trans sx),hxl,.inl ⟨.error j,hd,deed_no (EE j hj) fun fd H3 s3 rf => ?_⟩⟩
   obtain ⟨le,h1,h2⟩:=rf
   refine ⟨_,rfl,fd,le,_,rfl,(zc4 j (by omega)).1,h1,h2,fun H4 s4=>⟨_,rfl,iteF ?_⟩⟩
   exact ⟨_,_,_,_,rfl,(sx.trans s3).trans s4⟩
  ·rintro σ H10 ⟨x7,x8,x9,x10,rfl,s10⟩
   exact q _ (s09.trans s10)
theorem St7.mv {C b l pl:Addr} {G G':Addr->Prop} {H H':Hp} {vs:List V} {cs cs':Combs} {past past':List Combs} (x:St7 C b l pl G H vs cs past) (m:Mv b l G G' H H') (B:Bk C G' H' b l cs' past'):H' pl=some (.lst vs)/\(¬ G' pl/\pl≠b/\pl≠l)/\Trail (fun t=>t≠l/\t≠pl) G' H' vs (past ++ [cs]) :=
 ⟨m.keep _ _ x.hpl x.npl.2.1 x.npl.2.2,⟨m.not x.hpl x.npl.1,x.npl.2⟩,x.tr.mv (fun t h=>h.1) x.bk m⟩
theorem St7.fresh {C b l pl:Addr} {G:Addr->Prop} {H:Hp} {vs:List V} {cs:Combs} {past:List Combs} (x:St7 C b l pl G H vs cs past) {t:Addr} (h:H t=none):t≠l/\t≠pl :=
 ⟨fun e=>x.bk.liveB.2 (by rw [<- e]; exact h),fun e=>by rw [e,x.hpl] at h; cases h⟩
noncomputable def Far (b l pl:Addr) (H H':Hp):Prop:=∀ a o,H a=some o->a≠b->a≠l->a≠pl->H' a=some o
theorem Far.trans {b l pl:Addr} {H H1 H2:Hp} (f:Far b l pl H H1) (g:Far b l pl H1 H2):Far b l pl H H2:=fun a o e n1 n2 n3=>g a o (f a o e n1 n2 n3) n1 n2 n3
theorem Far.ofSame {b l pl:Addr} {H H1:Hp} (s:Same H H1):Far b l pl H H1:=fun a o e _ _ _=>s a o e
theorem Far.ofMv {b l pl:Addr} {G G':Addr->Prop} {H H1:Hp} (m:Mv b l G G' H H1):Far b l pl H H1:=fun a o e n1 n2 _=>m.keep a o e n1 n2
theorem Far.upd {b l pl:Addr} {H:Hp} {o:HO}:Far b l pl H (upd H pl o):=fun a o e _ _ n3=>by rw [zal n3]; exact e
theorem zc0 {b l pl:Addr} {H Hx Hy:Hp} (s:Same H Hx) (f:Far b l pl Hx Hy) (n1:H b=none) (n2:H l=none) (n3:H pl=none):Same H Hy:=fun a o e=>f a o (s a o e) (zas e n1) (zas e n2) (zas e n3)
theorem do_err {K:W.Frag} {H:Hp} {d:Int} {x:Str} {mv:V} {cs:Combs} {past:List Combs} {j:Nat} (h:DoOk K H d x mv cs past (.error j)):j<=9:=by
 rcases h with ⟨_,a,ts,_,_,_,e⟩ | ⟨_,_,e⟩ | ⟨_,t,_,e⟩ | ⟨_,t,_,e⟩
 ·unfold putD at e
  split at e
  ·cases e; decide
  ·split at e
   ·cases e; decide
   ·split at e
    ·cases e; decide
    ·split at e
     ·cases e; decide
     ·have:=zck e.symm; omega
 ·unfold dropD at e
  split at e
  ·cases e; decide
  ·have:=zck e.symm; omega
 ·unfold addD at e
  split at e
  ·cases e; decide
  ·split at e
   ·cases e; decide
   ·split at e
    ·cases e; decide
    ·have:=zck e.symm; omega
 ·unfold offD at e
  split at e
  ·cases e; decide
  ·split at e
   ·cases e; decide
   ·split at e
    ·cases e; decide
    ·split at e
     ·cases e; decide
     ·have:=zck e.symm; omega
theorem put_name {cs cs':Combs} {past:List Combs} {x:Str} {ts:List Int} (h:putD cs past x ts = .ok cs'):isName x=true:=by
 unfold putD at h
 split at h
 ·cases h
 ·rename_i h1
  simpa using h1
theorem do_names {K:W.Frag} {H:Hp} {d:Int} {x:Str} {mv:V} {cs cs':Combs} {past:List Combs} {N:List Str} (h:DoOk K H d x mv cs past (.ok cs')) (hN:∀ c∈cs,c.1∈N) (hx:isName x=true->x∈N):∀ c∈cs',c.1∈N:=by
 have up:∀ us,x∈N->∀ c∈cPut cs x us,c.1∈N:=fun us hxN c hc=>by
  rcases put_names c hc with z | z
  ·rw [z]; exact hxN
  ·obtain ⟨c',hc',e⟩:=List.mem_map.mp z
   rw [<- e]; exact hN c' hc'
 rcases h with ⟨_,a,ts,_,_,_,e⟩ | ⟨_,_,e⟩ | ⟨_,t,_,e⟩ | ⟨_,t,_,e⟩
 ·obtain ⟨_,rfl⟩:=zen e.symm
  exact up _ (hx (put_name e.symm))
 ·obtain ⟨_,rfl⟩:=zea e.symm
  exact fun c hc=>hN c (List.mem_filter.mp hc).1
 ·obtain ⟨ts,hg,_,_,rfl⟩:=zeM e.symm
  exact up _ (hN _ (zbj hg))
 ·obtain ⟨ts,hg,_,rfl⟩:=zey e.symm
  exact up _ (hN _ (zbj hg))
noncomputable def NmP (cs:Combs) (past:List Combs):Prop:=(∀ c∈cs,c.1∈poolL)/\∀ p∈past,∀ c∈p,c.1∈poolL
theorem NmP.snoc {cs cs':Combs} {past:List Combs} (n:NmP cs past) (h:∀ c∈cs',c.1∈poolL):NmP cs' (past ++ [cs]):=⟨h,fun p hp=>by
 rcases List.mem_append.mp hp with z | z
 ·exact n.2 p z
 ·rw [List.mem_singleton.mp z]; exact n.1⟩
theorem NmP.back {cs p:Combs} {past:List Combs} (n:NmP cs (past ++ [p])):NmP p past:=⟨n.2 p (by simp),fun q hq=>n.2 q (List.mem_append_left _ hq)⟩
theorem zz_not:zzS ∉ poolL:=by decide +kernel
theorem stranger_no {cs:Combs} {x:Str} (g:Good cs) (n:∀ c∈cs,c.1∈poolL) (hx:x∈strangers):(cGet cs x).isSome=false:=by
 cases e:cGet cs x with
 | none=>rfl
 | some ts =>
  exfalso
  have hm:=zbj e
  have h1:=(g.ok _ hm).1
  rw [zbT x hx,decide_eq_true_eq] at h1
  have h2:=n _ hm
  rw [h1] at h2
  exact zz_not h2
theorem stranger_len:∀ x∈strangers,x.length<=1000:=by decide +kernel
theorem over_at {c i:Int} (h0:0<=i) (h1:i < 2) (hc:0<=c):∃ o:Int,atI [V.int (1 + c),V.int 1000000000000000000000000000000] i=some (.int o)/\1<=o:=by
 rcases (by omega:i=0\/i=1) with rfl | rfl
 ·exact ⟨_,at0,by omega⟩
 ·exact ⟨_,at1,by decide⟩
theorem stranger_at {i:Int} (h0:0<=i) (h:i < 4):∃ x,atI (strangers.map V.str) i=some (.str x)/\x∈strangers:=by
 have hl:i.toNat < strangers.length:=by show i.toNat < 4; omega
 exact ⟨strangers[i.toNat],zeK h0 (by rw [List.getElem?_map,List.getElem?_eq_getElem hl]; rfl),List.getElem_mem hl⟩
theorem far_above {o:Int} (h:1<=o):FarOk [200 + o,1000000000000 + o,127 + o,1000000000000000000 + o,1000000000000000000 + o]:=⟨_,_,_,_,_,rfl,by omega,by omega,by omega,by omega,by omega⟩
theorem far_below {o:Int} (h:1<=o):FarOk [-o,-o,-o,-o,-1000000000000000000 - o]:=⟨_,_,_,_,_,rfl,by omega,by omega,by omega,by omega,by omega⟩
theorem zeQ:FnScope ["_law_script","_law_book","_law_past","_law_k","_law_deed","_law_word","_law_more","_law_due","_law_found","_law_over","_law_far","_law_stranger"] ["_law_script"] (defScope s_law):=⟨rfl,rfl,rfl,by decide +kernel,rfl,by decide +kernel,by decide +kernel⟩
theorem ok_law {ea:Nat->Addr} {ce:Value} {C:Addr} (D:DefAt K mg "law" s_law) (T:Bn mg) (EE:∀ j,j<=10->EJ K ea ce j) (C_Book:Maker P w K mg base "Book" C CX0 1 ["self"] (sp_init C)) (C_at:Callee P w K mg base "_law_at" 1 ["_law_script","_law_k"] (sp_at K)) (C_draw:Callee P w K mg base "_law_draw" 2 ["_law_cell","_law_k"] sp_draw39) (C_duedeed:Callee P w K mg base "_law_duedeed" 2 ["_law_kept","_law_stands","_law_deed","_law_word","_law_more"] (sp_due39 K))
  (C_do:Callee P w K mg base "_law_do" 4 ["_law_book","_law_deed","_law_word","_law_more"] (sp_do39 K ea ce C)) (C_done:Callee P w K mg base "_law_done" 1 ["_law_kept","_law_deed","_law_word","_law_more"] (sp_done K)) (C_doors:Callee P w K mg base "_law_doors" 5 ["_law_book","_law_word","_law_there","_law_far"] (sp_doors C)) (C_same:Callee P w K mg base "_law_same" 3 ["_law_book","_law_kept","_law_stands"] (sp_same C)):Callee P w K mg base "law" 6 ["_law_script"] (spLaw K):=by
 refine D.calleeQ zeQ (fun _ _ _ _ _ _=>ln1 fun _=>rfl) (fun vs H Q E h => ?_) (fun f cdv A outer s H vs Q E hr h => ?_)
 ·obtain ⟨a,ns,rfl,_⟩:=h
  rfl
 ·obtain ⟨a,ns,rfl,hS,hl,q⟩:=h
  have S:=zeQ
  have hu:=zb7 hr
  have p5:(0:Int) < 5:=by decide
  have p2:(0:Int) < 2:=by decide
  have p4:(0:Int) < 4:=by decide
  refine ⟨_,zau (zaN (i:=1) S.nd rfl (Or.inl rfl) (qe (pe_mk0 C_Book (hr.mono (by decide)) (by first | exact zba | exact zap | exact zaK | exact zar) rfl)))
  (zau (zaN (i:=2) S.nd rfl (Or.inl rfl) (zaL (zae (qe (zdX)) (zaG))))
  (zau (qs (zct PassesOwn.never rfl (zbB rfl T.n_range (zaa (zai (call_min2 rfl) rfl T.n_min boot_min (zaa (zac) (zaa (zai zao rfl T.n_len PySem.boot_len (zaa (pv 0) zab)) zab))) zab)) (zaC (i:=3) S.nd rfl (Or.inl rfl))
   (zag (ps_asg (za1 C_draw (hr.mono (by decide)) rfl (zaa (zaO zax (pv 0) (pv 3) (fun _ _=>rfl)) (zaa (pv 3) zab))) (zeU rfl (zbp (zaC (i:=4) S.nd rfl (Or.inl rfl)) (zbp (zaC (i:=5) S.nd rfl (Or.inl rfl)) (zbp (zaC (i:=6) S.nd rfl (Or.inl rfl)) (zes))))))
   (zag (za0 (i:=7) S.nd rfl (Or.inl rfl) (za1 C_duedeed (hr.mono (by decide)) rfl (zaa (zaO zax (pv 2) (zbO za4 (zac)) (fun _ _=>rfl)) (zaa (zaw zd0 (zai zao rfl T.n_len PySem.boot_len (zaa (pv 2) zab)) (zac)) (zaa (pv 4) (zaa (pv 5) (zaa (pv 6) zab)))))))
   (zad (zat (PW.pt (zbA (zak zex (pv 4) (zac) (zan _)) (za5 (zak zaF (pv 7) (zah) (zan _)))))
    (zag (za0 (i:=8) S.nd rfl (Or.inl rfl) (za1 C_do (hr.mono (by decide)) rfl (zaa (pv 1) (zaa (pv 4) (zaa (pv 5) (zaa (pv 6) zab))))))
    (zag (zat (zak zcF (zaO zez (pv 8) (zac) (fun _ _=>rfl)) (zah) (zan _))
     (zad (zaq (zbi)))
     (zaj))
    (zad (zat (zak zaF (pv 4) (zac) (zan _))
     (zad (zav (zeV PySem.F.plainAttrs_list PySem.F.slot_list_pop PySem.F.type_list_pop zeX (pv 2))))
     (zad (zav (zbK PySem.F.plainAttrs_list PySem.F.slot_list_append PySem.F.type_list_append zaz (pv 2) (zaa (za1 C_done (hr.mono (by decide)) rfl (zaa (zaO zax (pv 2) (zbO za4 (zac)) (fun _ _=>rfl)) (zaa (pv 4) (zaa (pv 5) (zaa (pv 6) zab))))) zab))))))))
    (zaj)))))))
  (zau (zaN (i:=9) S.nd rfl (Or.inl rfl) (zed zax (zaL (zae (qe (zaw zbw (zac) (zaw za8 (za1 C_at (hr.mono (by decide)) rfl (zaa (pv 0) (zaa (zac) zab))) (zac)))) (zae (qe (zaw zdh (zac) (zac))) (zaG)))) (qe (zaw za8 (za1 C_at (hr.mono (by decide)) rfl (zaa (pv 0) (zaa (zac) zab))) (zac))) (fun _ _=>rfl)))
  (zau (zaN (i:=10) S.nd rfl (Or.inl rfl) (zaL (zae (qe (zaw zbw (zac) (pv 9))) (zae (qe (zaw zbw (zaw zdh (zac) (zac)) (pv 9))) (zae (qe (zaw zbw (zac) (pv 9))) (zae (qe (zaw zbw (zaw zdh (zac) (zac)) (pv 9))) (zae (qe (zaw zbw (zaw zdh (zac) (zac)) (pv 9))) (zaG))))))))
  (zcr (qs (zat (zak zaF (zaw za8 (za1 C_at (hr.mono (by decide)) rfl (zaa (pv 0) (zaa (zac) zab))) (zac)) (zac) (zan _))
   (zad (za0 (i:=10) S.nd rfl (Or.inl rfl) ((zaL (zae (qe (zbO za4 (pv 9))) (zae (qe (zbO za4 (pv 9))) (zae (qe (zbO za4 (pv 9))) (zae (qe (zbO za4 (pv 9))) (zae (qe (zaw zd0 (zbO za4 (zaw zdh (zac) (zac))) (pv 9))) (zaG))))))).h)))
   (zaj)))
  (zau (zaN (i:=11) S.nd rfl (Or.inl rfl) (zed zax (zaL (zae (qe (zah)) (zae (qe (zah)) (zae (qe (zah)) (zae (qe (zah)) (zaG)))))) (qe (zaw za8 (za1 C_at (hr.mono (by decide)) rfl (zaa (pv 0) (zaa (zac) zab))) (zac))) (fun _ _=>rfl)))
  (zau (qs (zat (zaJ (zaX (za1 C_doors (hr.mono (by decide)) rfl (zaa (pv 1) (zaa (pv 11) (zaa (zbi) (zaa (pv 10) zab)))))))
   (zad (zaq (zbi)))
   (zaj)))
  (zau (qs (zct PassesOwn.never rfl (zb4 (zdU zeg (zai (zbH rfl) rfl T.n_sorted boot_sorted (zaa (zaO zax (pv 2) (zbO za4 (zac)) (fun _ _=>rfl)) zab)) (zer) (zeq (zac)))) (zaC (i:=5) S.nd rfl (Or.inl rfl))
   (zad (zat (zaJ (zaX (za1 C_doors (hr.mono (by decide)) rfl (zaa (pv 1) (zaa (pv 5) (zaa (zbi) (zaa (pv 10) zab)))))))
    (zad (zaq (zbi)))
    (zaj)))))
  (zcq (zdc (qe (za1 C_same (hr.mono (by decide)) rfl (zaa (pv 1) (zaa (zaO zax (pv 2) (zbO za4 (zac)) (fun _ _=>rfl)) (zaa (zaw zd0 (zai zao rfl T.n_len PySem.boot_len (zaa (pv 2) zab)) (zac)) zab))))))))))))))),?_⟩
  refine fun b dx nb ndx ndb=>⟨b,dx,rfl,zaf,fun H2 l d m nl nd B=>⟨rfl,?_⟩⟩
  have hlb:l≠b:=fun z=>by rw [z,zaf] at nl; cases nl
  have pll:H l=none:=by
   rw [zal hlb] at nl
   by_cases z:l=dx
   ·rw [z]; exact ndx
   ·rw [zal z] at nl; exact nl
  have pb:H b=none:=nb
  have s2:Same H H2:=fun x o e=>m.keep x o (by rw [zal (zas e nb),zal (zas e ndx)]; exact e) (zas e nb) (zas e nb)
  refine fun z0 nz0=>⟨bigr rfl,fun pl npl => ?_⟩
  have s3:Same H2 (upd H2 z0 (.dK [])):=Same.new nz0
  have s4:Same H2 (upd (upd H2 z0 (.dK [])) pl (.lst [V.ref z0])):=s3.put (s3.free npl)
  have hpl2:H2 pl=none:=s3.free npl
  obtain ⟨lb,ll⟩:=B.liveB
  have x0:St7 C b l pl (fun a=>a=d) (upd (upd H2 z0 (.dK [])) pl (.lst [V.ref z0])) [V.ref z0] [] []:=by
   refine ⟨B.same s4,zaf,⟨fun z=>B.live pl z hpl2,fun z:pl=b=>lb (z ▸ hpl2),fun z:pl=l=>ll (z ▸ hpl2)⟩,?_⟩
   refine .cons ⟨z0,rfl,⟨[],?_,.nil⟩,fun z=>B.live z0 z nz0⟩ .nil
   have hz1:upd H2 z0 (.dK []) z0=some (.dK []):=zaf
   rw [zal (zas hz1 npl)]
   exact hz1
  have s04:=s2.trans s4
  have ppl:H pl=none:=s2.free hpl2
  generalize upd (upd H2 z0 (.dK [])) pl (.lst [V.ref z0])=H4 at x0 s04
  clear s4 s3 B m nz0 npl
  have em:(if ((ns.map V.int).length:Int) < 60 then ((ns.map V.int).length:Int) else 60)=((min 60 ns.length:Nat):Int):=by
   rw [List.length_map]
   split <;> omega
  refine ⟨_,rfl,a,_,rfl,.inl (s04.seq hS),_,_,rfl,_,congrArg (fun i => [V.int i]) em,by omega,by omega,?_⟩
  have n60:(((min 60 ns.length:Nat):Int)).toNat<=60:=by omega
  have nns:(((min 60 ns.length:Nat):Int)).toNat<=ns.length:=by omega
  generalize (((min 60 ns.length:Nat):Int)).toNat=N at n60 nns ⊢
  refine zdF (zaY 0 N) (fun i σ Hx=>Same H Hx/\∃ G ws cs past x3 x4 x5 x6 x7 x8,σ = [some (.ref a),some (.ref b),some (.ref pl),x3,x4,x5,x6,x7,x8,none,none,none]/\St7 C b l pl G Hx ws cs past/\past.length<=i/\NmP cs past)
   ⟨s04,_,_,_,[],_,_,_,_,_,_,rfl,x0,Nat.zero_le _,⟨by simp,by simp⟩⟩ (fun _ _ _ _ _=>trivial) ?_ ?_
  ·rintro i y σ Hx hy ⟨sx,G,ws,cs,past,x3,x4,x5,x6,x7,x8,rfl,xx,hpi,hN⟩
   obtain ⟨hi,rfl⟩:=zdb hy
   have hns:i < ns.length:=by omega
   have hat:atI (ns.map V.int) (0 + ((i:Nat):Int))=some (V.int ns[i]):=by
    rw [Int.zero_add]
    refine zaB ?_
    rw [List.getElem?_map,List.getElem?_eq_getElem hns]
    rfl
   refine ⟨_,rfl,_,rfl,_,_,_,_,rfl,rfl,sx.seq hS,hat,_,rfl,_,_,rfl,fun pt H5 d x mv s5 hpt hd0 hd5 hxp hm => ?_⟩
   refine ⟨pt,_,rfl,SqT.of hpt,rfl,_,_,rfl,_,_,rfl,_,_,rfl,rfl,?_⟩
   have xx5:=xx.same s5
   have sx5:=sx.trans s5
   obtain ⟨lbx,llx⟩:=xx.bk.liveB
   clear hpt xx
   have hxl:x.length<=1000:=by have:=pool_len hxp; omega
   have hlen:=xx5.len
   obtain ⟨z,hz,kz,nz⟩:=xx5.last
   obtain ⟨nm,hdue,hcase⟩:∃ nm,DueOk K H5 d x mv cs past nm/\((∃ r,DoOk K H5 d x mv cs past r/\nm=dueN r/\d<=3)\/(d=4/\nm=if past = [] then Str.ofString "NothingDone" else Str.ofString "")\/d=5):=by
    rcases hm with ⟨rfl,ra,ts,e,_,hra,htl⟩ | ⟨hd,t,e⟩
    ·exact ⟨_,.inl ⟨_,.inl ⟨rfl,ra,ts,e,SqL.of hra,by omega,rfl⟩,rfl⟩,.inl ⟨_,.inl ⟨rfl,ra,ts,e,SqL.of hra,by omega,rfl⟩,rfl,by omega⟩⟩
    ·rcases (by omega:d=1\/d=2\/d=3\/d=4\/d=5) with h | h | h | h | h
     ·exact ⟨_,.inl ⟨_,.inr (.inl ⟨h,⟨t,e⟩,rfl⟩),rfl⟩,.inl ⟨_,.inr (.inl ⟨h,⟨t,e⟩,rfl⟩),rfl,by omega⟩⟩
     ·exact ⟨_,.inl ⟨_,.inr (.inr (.inl ⟨h,t,e,rfl⟩)),rfl⟩,.inl ⟨_,.inr (.inr (.inl ⟨h,t,e,rfl⟩)),rfl,by omega⟩⟩
     ·exact ⟨_,.inl ⟨_,.inr (.inr (.inr ⟨h,t,e,rfl⟩)),rfl⟩,.inl ⟨_,.inr (.inr (.inr ⟨h,t,e,rfl⟩)),rfl,by omega⟩⟩
     ·refine ⟨_,.inr ⟨.inl h,⟨t,e⟩,rfl⟩,.inr (.inl ⟨h,?_⟩)⟩
      simp only [h,true_and]
     ·exact ⟨_,.inr ⟨.inr h,⟨t,e⟩,rfl⟩,.inr (.inr h)⟩
   have en:((ws.length:Int) - 1)=(past.length:Int):=by omega
   refine ⟨_,rfl,_,rfl,_,_,_,_,rfl,rfl,SqL.of xx5.hpl,hz,_,rfl,_,_,rfl,.inl (SqL.of xx5.hpl),_,_,rfl,rfl,_,rfl,_,rfl,_,rfl,z,_,cs,past,d,x,mv,nm,?_,kz,xx5.bk.good,xx5.bk.good.len,by omega,hxl,hdue,fun H6 s6 => ?_⟩
   ·show [V.ref z,V.int ((ws.length:Int) - 1),V.int d,V.str x,mv]=_
    rw [en]
   have xx6:=xx5.same s6
   have sx6:=sx5.trans s6
   have hm6:=hm.same s6
   refine ⟨_,rfl,_,_,rfl,rfl,_,rfl,?_⟩
   by_cases hd:d < 5
   ·rw [decide_eq_true hd]
    refine iteT ⟨_,rfl,rfl,_,rfl,?_⟩
    rcases hcase with ⟨r,hr,rfl,hd3⟩ | ⟨rfl,rfl⟩ | h
    ·cases r with
     | error j =>
      have hj:j < 15:=by have:=do_err hr; omega
      rw [show decide (V.str (dueN (.error j))=V.str (Str.ofString ""))=false from decide_eq_false (fun z=>(zc4 j hj).2 (by injection z))]
      exact iteF ⟨sx6,G,ws,cs,past,_,_,_,_,_,_,rfl,xx6,by omega,hN⟩
     | ok cs' =>
      rw [show decide (V.str (dueN (.ok cs'))=V.str (Str.ofString ""))=true from decide_eq_true rfl]
      refine iteT ⟨_,rfl,_,rfl,_,rfl,_,rfl,b,l,G,cs,past,d,x,mv,rfl,xx6.bk,hxl,.inl ⟨.ok cs',hr.same s6,fun H7 s7=>deed_try (xx6.bk.same s7) (fun j ej=>by cases ej) fun H8 fd G8 m8 B8 an => ?_⟩⟩
      have xx7:=xx6.same s7
      have sx7:=sx6.trans s7
      have hm7:=hm6.same s7
      have hr7:=(hr.same s6).same s7
      obtain ⟨hpl8,npl8,tr8⟩:=xx7.mv m8 B8
      have s8:=zc0 sx7 (Far.ofMv (pl:=pl) m8) pb pll ppl
      refine ⟨_,rfl,_,_,_,_,rfl,rfl,SqT.of an,at0,rfl,_,rfl,?_⟩
      refine iteF ⟨_,rfl,rfl,_,rfl,?_⟩
      rw [zam (show ¬ d=4 by omega)]
      refine iteF ?_
      obtain ⟨z7,hz7,kz7,nz7⟩:=xx7.last
      have kz8:=kz7.mvL (fun t h=>h.1) xx7.bk m8
      have hr8:DoOk K H8 d x mv cs past (.ok cs'):=by
       rcases hr7 with ⟨h0',ra,ts,e,hsq,htl,e2⟩ | h | h | h
       ·rcases hm7 with ⟨_,ra',ts',e',nra,hra',_⟩ | ⟨hne,_⟩
        ·rw [e] at e'
         cases e'
         refine .inl ⟨h0',ra,ts,e,?_,htl,e2⟩
         rcases hsq with (hq | ⟨o,hq⟩) | hq
         ·exact .inl (.inl (m8.keep _ _ hq (fun z=>lbx (by rw [<- z]; exact nra)) (fun z=>llx (by rw [<- z]; exact nra))))
         ·rw [hra'] at hq; cases hq
         ·exact .inr hq
        ·exact absurd h0' hne
       ·exact .inr (.inl h)
       ·exact .inr (.inr (.inl h))
       ·exact .inr (.inr (.inr h))
      refine ⟨_,rfl,.inl ⟨rfl,_,SqL.of hpl8⟩,_,rfl,_,rfl,_,_,_,_,rfl,rfl,SqL.of hpl8,hz7,_,rfl,_,rfl,_,rfl,z7,_,cs,past,cs',d,x,mv,rfl,kz8,xx7.bk.good,hr8,fun t h=>xx7.fresh (by
       cases e:H7 t with
       | none=>rfl
       | some o=>exact absurd h (m8.on t (by rw [e]; simp))),fun H9 m s9 nm km => ?_⟩
      have nGm:¬ G8 m:=fun g=>B8.live m g nm
      obtain ⟨hpl9,x9'⟩:=xx7.snoc (m8.trans (Mv.ofSame s9)) (B8.same s9) km nGm
      refine ⟨pl,_,_,rfl,rfl,hpl9,Nat.lt_of_lt_of_le (by omega:ws.length < 1000) zbx,?_⟩
      refine ⟨zc0 s8 ((Far.ofSame s9).trans (Far.upd (b:=b) (l:=l) (pl:=pl) (o := .lst (ws ++ [V.ref m])))) pb pll ppl,G8,_,cs',past ++ [cs],_,_,_,_,_,_,rfl,x9',by rw [List.length_append,List.length_singleton]; omega,hN.snoc ?_⟩
      exact do_names hr8 hN.1 (fun _=>hxp)
    ·-- undo
     by_cases hp:past = []
     ·rw [if_pos hp,show decide (V.str (Str.ofString "NothingDone")=V.str (Str.ofString ""))=false from decide_eq_false (fun z=>(zc4 10 (by decide)).2 (by injection z))]
      exact iteF ⟨sx6,G,ws,cs,past,_,_,_,_,_,_,rfl,xx6,by omega,hN⟩
     ·rw [if_neg hp,show decide (V.str (Str.ofString "")=V.str (Str.ofString ""))=true from decide_eq_true rfl]
      obtain ⟨ps,pp,rfl⟩:∃ ps p,past=ps ++ [p]:=⟨past.dropLast,past.getLast hp,(List.dropLast_concat_getLast _).symm⟩
      rw [List.length_append,List.length_singleton] at hpi hlen
      refine iteT ⟨_,rfl,_,rfl,_,rfl,_,rfl,b,l,G,cs,_,4,x,mv,rfl,xx6.bk,hxl,.inr ⟨rfl,.inr ⟨ps,pp,rfl,fun H7 m7 B7=>⟨bigr rfl,fun fd nfd => ?_⟩⟩⟩⟩
      have s7:Same H7 (upd H7 fd (.tup [.str (Str.ofString "told"),.int (ps.length:Int)])):=Same.new nfd
      have hfd:upd H7 fd (.tup [.str (Str.ofString "told"),.int (ps.length:Int)]) fd=some (.tup [.str (Str.ofString "told"),.int (ps.length:Int)]):=zaf
      have hpl7:=s7 _ _ (m7.keep _ _ xx6.hpl xx6.npl.2.1 xx6.npl.2.2)
      have B8:=B7.same s7
      have tr8:=(xx6.tr.mv (fun t h=>h.1) xx6.bk m7).same s7
      have far8:=(Far.ofMv (pl:=pl) m7).trans (Far.ofSame s7)
      generalize upd H7 fd (.tup [.str (Str.ofString "told"),.int (ps.length:Int)])=H8 at hfd hpl7 B8 tr8 far8
      obtain ⟨ws',v,rfl,tr',_⟩:=zb2 tr8
      refine ⟨_,rfl,_,_,_,_,rfl,rfl,SqT.of hfd,at0,rfl,_,rfl,?_⟩
      refine iteF ⟨_,rfl,rfl,_,rfl,?_⟩
      rw [zbr]
      refine iteT ?_
      refine ⟨_,rfl,.inl ⟨rfl,_,SqL.of hpl7⟩,pl,_,v,rfl,rfl,hpl7,by simp,?_⟩
      rw [List.dropLast_concat]
      have xx9:St7 C b l pl G (upd H8 pl (.lst ws')) ws' pp ps:=⟨B8.upd xx6.npl.1 xx6.npl.2.1 xx6.npl.2.2,zaf,xx6.npl,Trail.updL (o := .lst ws') (show Trail (fun t=>t≠l/\t≠pl) G H8 ws' (ps ++ [pp]) from tr') (fun t h=>h.2) hpl7⟩
      exact ⟨zc0 sx6 (far8.trans (Far.upd (o := .lst ws'))) pb pll ppl,G,ws',pp,ps,_,_,_,_,_,_,rfl,xx9,by omega,hN.back⟩
    ·omega
   ·rw [decide_eq_false hd]
    exact iteF (iteF ⟨sx6,G,ws,cs,past,_,_,_,_,_,_,rfl,xx6,by omega,hN⟩)
  rintro σ H6 ⟨s6,G,ws,cs,past,x3,x4,x5,x6,x7,x8,rfl,xx,hp60,hN⟩
  have hp60:past.length<=60:=by rw [List.length_map,List.length_range] at hp60; omega
  clear hpl2 s2 s04 x0 em
  have i10:=Int.emod_nonneg (ns.getD (Int.toNat 1) 0) (show (2:Int)≠0 by decide)
  have i11:=Int.emod_lt_of_pos (ns.getD (Int.toNat 1) 0) p2
  obtain ⟨o,ho,ho1⟩:=over_at i10 i11 (Int.emod_nonneg (ns.getD (Int.toNat 0) 0) (show (5:Int)≠0 by decide))
  refine ⟨_,rfl,a,ns,0,rfl,s6.seq hS,by decide,_,_,rfl,rfl,p5,_,_,rfl,rfl,_,_,rfl,rfl,⟨by decide,by decide,by decide⟩,bigr rfl,fun q1 nq1 => ?_⟩
  have k1:Same H6 (upd H6 q1 (.lst [V.int (1 + ns.getD (Int.toNat 0) 0 % 5),V.int 1000000000000000000000000000000])):=Same.new nq1
  refine ⟨_,rfl,a,ns,1,rfl,(s6.trans k1).seq hS,by decide,_,_,rfl,rfl,p2,q1,_,_,_,rfl,rfl,SqL.of zaf,ho,?_⟩
  refine ⟨_,rfl,_,_,rfl,rfl,_,_,rfl,rfl,⟨by decide,by decide,by decide⟩,_,rfl,_,_,rfl,rfl,_,rfl,_,_,rfl,rfl,_,_,rfl,rfl,⟨by decide,by decide,by decide⟩,_,rfl,_,_,rfl,rfl,_,_,rfl,rfl,⟨by decide,by decide,by decide⟩,_,rfl,_,_,rfl,rfl,bigr rfl,fun fa0 nfa0 => ?_⟩
  refine ⟨fun σ Hx=>∃ fa f,σ = [some (.ref a),some (.ref b),some (.ref pl),x3,x4,x5,x6,x7,x8,some (.int o),some (.ref fa),none]/\Same H6 Hx/\Hx fa=some (.lst (f.map V.int))/\FarOk f,?_,?_⟩
  ·obtain ⟨k2,e2⟩:=k1.lstE (o := .lst ([200 + o,1000000000000 + o,127 + o,1000000000000000000 + o,1000000000000000000 + o].map V.int)) nfa0
   refine ⟨_,rfl,a,ns,2,rfl,(s6.trans k2).seq hS,by decide,_,_,rfl,rfl,p2,rfl,_,rfl,?_⟩
   refine ite2 (fun _ => ?_) (fun _ => ?_)
   ·refine ⟨_,rfl,_,rfl,_,rfl,_,rfl,_,rfl,_,rfl,_,rfl,_,rfl,_,_,rfl,rfl,⟨by decide,by decide,by decide⟩,_,rfl,_,rfl,_,_,rfl,rfl,bigr rfl,fun fa1 nfa1 => ?_⟩
    obtain ⟨k3,e3⟩:=k2.lstE (o := .lst ([-o,-o,-o,-o,-1000000000000000000 - o].map V.int)) nfa1
    exact ⟨_,_,rfl,k3,e3,far_below ho1⟩
   ·exact ⟨_,_,rfl,k2,e2,far_above ho1⟩
  rintro σ H7 ⟨fa,f,rfl,s67,hf,hF⟩
  clear k1 nq1 ho
  have s7:=s6.trans s67
  have xx7:=xx.same s67
  obtain ⟨x,hx,hxm⟩:=stranger_at (Int.emod_nonneg (ns.getD (Int.toNat 3) 0) (show (4:Int)≠0 by decide)) (Int.emod_lt_of_pos (ns.getD (Int.toNat 3) 0) p4)
  refine ⟨bigr rfl,fun q2 nq2 => ?_⟩
  have k8:Same H7 (upd H7 q2 (.lst (strangers.map V.str))):=Same.new nq2
  refine ⟨_,rfl,a,ns,3,rfl,(s7.trans k8).seq hS,by decide,_,_,rfl,rfl,p4,q2,_,_,_,rfl,rfl,SqL.of zaf,hx,?_⟩
  have xx8:=xx7.same k8
  refine ⟨_,rfl,_,rfl,_,rfl,b,l,G,cs,past,x,false,fa,f,rfl,xx8.bk,k8 _ _ hf,hF,stranger_len x hxm,stranger_no xx8.bk.good hN.1 hxm,fun _=>hxm,fun H9 s9=>⟨_,rfl,iteF ?_⟩⟩
  have xx9:=xx8.same s9
  have hf9:=s9 _ _ (k8 _ _ hf)
  obtain ⟨z,hz,kz,nz⟩:=xx9.last
  obtain ⟨kvs,ha,kr⟩:=id kz
  have hcl:=xx9.bk.good.len
  refine ⟨_,rfl,_,rfl,_,_,_,_,rfl,rfl,SqL.of xx9.hpl,hz,z,kvs,cs.map (·.1),rfl,.inl ha,kr.keys,by rw [List.length_map]; omega,fun p1 nm np1 hnp hns => ?_⟩
  refine ⟨_,rfl,_,_,rfl,SqL.of zaf,fun p3 np3 => ?_⟩
  obtain ⟨sa,ea1⟩:=((Same.new (o := .lst (nm.map V.str)) np1:Same H9 _)).lstE (o := .lst (cutV (nm.map V.str) none (some 2))) np3
  have hmem:∀ v∈cutV (nm.map V.str) none (some 2),∃ y,v = .str y/\(cGet cs y).isSome=true/\y.length<=1000:=fun v hv=>by
   have hv':v∈nm.map V.str:=by
    unfold cutV at hv
    exact List.mem_of_mem_drop (List.mem_of_mem_take hv)
   obtain ⟨y,hy,rfl⟩:=List.mem_map.mp hv'
   obtain ⟨c,hc,rfl⟩:=List.mem_map.mp (hnp.mem_iff.mp hy)
   refine ⟨_,rfl,?_,?_⟩
   ·rw [zd8 xx9.bk.good hc]; rfl
   ·have:=name_len (xx9.bk.good.ok c hc).1; omega
  generalize cutV (nm.map V.str) none (some 2)=ys at sa ea1 hmem ⊢
  have xxa:=xx9.same sa
  have hfa:=sa _ _ hf9
  generalize upd (upd H9 p1 (.lst (nm.map V.str))) p3 (.lst ys)=Ha at sa ea1 xxa hfa ⊢
  refine ⟨_,rfl,⟨_,SqL.of ea1⟩,?_⟩
  refine zdF (za3 K p3 ys) (fun i σ Hx=>Same Ha Hx/\∃ x5,σ = [some (.ref a),some (.ref b),some (.ref pl),x3,x4,x5,x6,x7,x8,some (.int o),some (.ref fa),some (.str x)]) ⟨Same.refl _,_,rfl⟩ (fun i σ Hx _ h=>SqL.of (h.1 _ _ ea1)) ?_ ?_
  ·rintro i v σ Hx hv ⟨sx,x5,rfl⟩
   obtain ⟨y,rfl,hy,hyl⟩:=hmem v (List.mem_of_getElem? hv)
   have xxx:=xxa.same sx
   refine ⟨_,rfl,_,rfl,_,rfl,b,l,G,cs,past,y,true,fa,f,rfl,xxx.bk,sx _ _ hfa,hF,hyl,hy,fun h=>absurd h (by decide),fun Hy s'=>⟨_,rfl,iteF ?_⟩⟩
   exact ⟨sx.trans s',_,rfl⟩
  rintro σ Hb ⟨sb,x5,rfl⟩
  have xxb:=xxa.same sb
  have hlen:=xxb.len
  obtain ⟨z,hz,kz,nz⟩:=xxb.last
  exact ⟨_,rfl,_,rfl,_,rfl,_,_,_,_,rfl,rfl,SqL.of xxb.hpl,hz,_,rfl,_,_,rfl,.inl (SqL.of xxb.hpl),_,_,rfl,rfl,b,l,G,cs,past,z,cs,_,rfl,xxb.bk,kz.any,nz,List.Perm.refl _,fun c hc=>zd8 xxb.bk.good hc,by omega,fun Hc sc=>q _⟩
end
theorem walk {l:PySem.W.OpenLaw} {q:Program} {loose:List Str} {XP:(Str->Option Value)->Heap->Prop} {YP:World->Heap->Prop} {d:DefRec} {K:Params->W.Frag} (hn:l.most=some 63) (hdf:d.params.defaults = [])
  (hY:∀ (w:World) (h:Heap),YP w h->(K w.params).In h)
  (F:∀ (w:World) (mg:Str->Option Value) (fa:Addr) (h:Heap),(K w.params).In h->h.Ns mainGlobals mg->mg d.name=some (.ref fa) ->
   ∃ fd:FuncData,(∀ (s:Shared) (u:Value),BindsTo s fd ⟨[u],[]⟩ [("_law_script",u)])/\∀ base:Heap,(K w.params).In base->base.Ns mainGlobals mg->FnOk l.prog w (K w.params) mg base CX0 6 fa fd ["_law_script"] (spLaw (K w.params))) :
  PySem.W.WalkO q loose XP YP l.row.toRowW d [] (fun f vs=>PySem.call f vs) :=
 L2.walk_of (n:=63) (k:=6) (x := "_law_script") (CX:=fun _=>CX0) (sp:=fun w=>spLaw (K w.params)) hn (by decide) hdf ⟨rfl,by decide,by decide⟩ hY F (fun _ _ a ns hl _ hS=>⟨a,ns,rfl,hS,hl,fun _=>rfl⟩) fun _ _ _ _ _ z=>z
theorem all {l:PySem.W.OpenLaw} {w:World} {K:W.Frag} {h:Heap} {mg:Str->Option Value} {fa:Addr} (X:K.In h) (G:h.Ns mainGlobals mg) (hfa:mg "law" = some (.ref fa)) (T:Bn mg)
  (V_MOST_COMBS:∃ t,mg "MOST_COMBS" = some (.int 8 t))
  (V_MOST_NAME:∃ t,mg "MOST_NAME" = some (.int 6 t))
  (V_MOST_TOOTH:∃ t,mg "MOST_TOOTH" = some (.int 7 t))
  (V_MOST_DEEDS:∃ t,mg "MOST_DEEDS" = some (.int 300 t))
  (V_SHAPES:∃ t,mg "SHAPES" = some (.int 128 t))
  (V_MOST_LENGTH:∃ t,mg "MOST_LENGTH" = some (.int 1000000000000 t))
  (V_MOST_FILLED:∃ t,mg "MOST_FILLED" = some (.int 200 t))
  (V_MOST_SHAPED:∃ t,mg "MOST_SHAPED" = some (.int 200 t))
  (V_MOST_PLACE:∃ t,mg "MOST_PLACE" = some (.int 1000000000000000000 t))
  {C ce a0 a1 a2 a3 a4 a5 a6 a7 a8 a9 a10 a11 a12 a13 a14:Addr}
  (R0:mg "BadName" = some (.ref a0))
  (R1:mg "BadTeeth" = some (.ref a1))
  (R2:mg "NameTaken" = some (.ref a2))
  (R3:mg "BookFull" = some (.ref a3))
  (R4:mg "NoComb" = some (.ref a4))
  (R5:mg "BadTooth" = some (.ref a5))
  (R6:mg "ToothThere" = some (.ref a6))
  (R7:mg "FirstTooth" = some (.ref a7))
  (R8:mg "ToothMissing" = some (.ref a8))
  (R9:mg "DeedsFull" = some (.ref a9))
  (R10:mg "NothingDone" = some (.ref a10))
  (R11:mg "BadShape" = some (.ref a11))
  (R12:mg "BadPlace" = some (.ref a12))
  (R13:mg "BadLength" = some (.ref a13))
  (R14:mg "NoFilling" = some (.ref a14))
  (RCE:mg "CombError" = some (.ref ce)) (HCHK:errChk K [a0,a1,a2,a3,a4,a5,a6,a7,a8,a9,a10,a11,a12,a13,a14] ce [0,1,2,3,4,5,6,7,8,9,10,11,12,13]=true)
  (INIT:InitAt K mg C "Book" "Book.__init__" s_Book___init__) (BCHK:bookChk K C=true)
  (N_ValueError:mg "ValueError" = none) (VCHK:valChk K [a4,a11,a12,a13]=true)
  (N_put:MethAt K C "Book" "put" s_Book_put)
  (N_drop:MethAt K C "Book" "drop" s_Book_drop)
  (N_add_tooth:MethAt K C "Book" "add_tooth" s_Book_add_tooth)
  (N_take_off:MethAt K C "Book" "take_off" s_Book_take_off)
  (N_undo:MethAt K C "Book" "undo" s_Book_undo)
  (N_deeds:MethAt K C "Book" "deeds" s_Book_deeds)
  (N_names:MethAt K C "Book" "names" s_Book_names)
  (N_teeth:MethAt K C "Book" "teeth" s_Book_teeth)
  (N_check_comb:MethAt K C "Book" "check_comb" s_Book_check_comb)
  (N_set_comb:MethAt K C "Book" "set_comb" s_Book_set_comb)
  (N_do_deed:MethAt K C "Book" "do_deed" s_Book_do_deed)
  (D_check_tooth:DefAt K mg "check_tooth" s_check_tooth)
  (D_is_name:DefAt K mg "is_name" s_is_name)
  (D_is_small_letter:DefAt K mg "is_small_letter" s_is_small_letter)
  (D_are_teeth:DefAt K mg "are_teeth" s_are_teeth)
  (D_check_length:DefAt K mg "check_length" s_check_length)
  (D_shape_steps:DefAt K mg "shape_steps" s_shape_steps)
  (D_shapes_at:DefAt K mg "shapes_at" s_shapes_at)
  (D_fits_flush:DefAt K mg "fits_flush" s_fits_flush)
  (D_comb_over_strip:DefAt K mg "comb_over_strip" s_comb_over_strip)
  (D_comb_over_line:DefAt K mg "comb_over_line" s_comb_over_line)
  (D_count_fillings:DefAt K mg "count_fillings" s_count_fillings)
  (D_first_filling:DefAt K mg "first_filling" s_first_filling)
  (D_count_fillings_with:DefAt K mg "count_fillings_with" s_count_fillings_with)
  (D_first_filling_with:DefAt K mg "first_filling_with" s_first_filling_with)
  (D_at:DefAt K mg "_law_at" s_at)
  (D_mixed:DefAt K mg "_law_mixed" s_mixed)
  (D_pool:DefAt K mg "_law_pool" s_pool)
  (D_draw:DefAt K mg "_law_draw" s_draw)
  (D_kind:DefAt K mg "_law_kind" s_kind)
  (D_do:DefAt K mg "_law_do" s_do)
  (D_isname:DefAt K mg "_law_isname" s_isname)
  (D_isteeth:DefAt K mg "_law_isteeth" s_isteeth)
  (D_duedeed:DefAt K mg "_law_duedeed" s_duedeed)
  (D_done:DefAt K mg "_law_done" s_done)
  (D_whole:DefAt K mg "_law_whole" s_whole)
  (D_numbers:DefAt K mg "_law_numbers" s_numbers)
  (D_texts:DefAt K mg "_law_texts" s_texts)
  (D_same:DefAt K mg "_law_same" s_same)
  (D_refused:DefAt K mg "_law_refused" s_refused)
  (D_ask:DefAt K mg "_law_ask" s_ask)
  (D_doors:DefAt K mg "_law_doors" s_doors)
  (D_law:DefAt K mg "law" s_law) :
  ∃ fd:FuncData,(∀ (s:Shared) (v:Value),BindsTo s fd ⟨[v],[]⟩ [("_law_script",v)])/\∀ base:Heap,K.In base->base.Ns mainGlobals mg->FnOk l.prog w K mg base CX0 6 fa fd ["_law_script"] (spLaw K):=by
 have BA:=book_of BCHK
 have E (j:Nat) (hj:j ∈ [0,1,2,3,4,5,6,7,8,9,10,11,12,13]) (h15:j < 15):=ej_of HCHK hj h15
 have E4:=E 4 (by decide) (by decide)
 refine D_law.entry hfa (fun _ _ _ _ _ _ v=>rfl) fun base => ?_
 have c_kind:=ok_kind (P:=l.prog) (w:=w) (base:=base) D_kind T (ea:=fun i => [a0,a1,a2,a3,a4,a5,a6,a7,a8,a9,a10,a11,a12,a13,a14].getD i 0) ⟨R0,R1,R2,R3,R4,R5,R6,R7,R8,R9,R10,R11,R12,R13,R14⟩
 have m_check:=ok_check (P:=l.prog) (w:=w) (base:=base) (ea:=fun i => [a0,a1,a2,a3,a4,a5,a6,a7,a8,a9,a10,a11,a12,a13,a14].getD i 0) N_check_comb T BA (E4.err R4)
 have m_do:=ok_do (P:=l.prog) (w:=w) (base:=base) (ea:=fun i => [a0,a1,a2,a3,a4,a5,a6,a7,a8,a9,a10,a11,a12,a13,a14].getD i 0) N_do_deed T BA V_MOST_DEEDS ((E 9 (by decide) (by decide)).err R9)
 have m_set:=ok_set (ea:=fun i => [a0,a1,a2,a3,a4,a5,a6,a7,a8,a9,a10,a11,a12,a13,a14].getD i 0) N_set_comb T BA m_do
 have m_put:=ok_put (ea:=fun i => [a0,a1,a2,a3,a4,a5,a6,a7,a8,a9,a10,a11,a12,a13,a14].getD i 0) N_put T BA V_MOST_COMBS ((E 0 (by decide) (by decide)).err R0) ((E 1 (by decide) (by decide)).err R1) ((E 2 (by decide) (by decide)).err R2) ((E 3 (by decide) (by decide)).err R3) (ok_name D_is_name T V_MOST_NAME (ok_small D_is_small_letter T)) (ok_teeth D_are_teeth T V_MOST_TOOTH) m_set
 have m_drop:=ok_bdrop N_drop T BA m_check m_do
 have c_tooth:=ok_ctooth (P:=l.prog) (w:=w) (base:=base) (ea:=fun i => [a0,a1,a2,a3,a4,a5,a6,a7,a8,a9,a10,a11,a12,a13,a14].getD i 0) D_check_tooth T V_MOST_TOOTH ((E 5 (by decide) (by decide)).err R5)
 have m_add:=ok_badd (ea:=fun i => [a0,a1,a2,a3,a4,a5,a6,a7,a8,a9,a10,a11,a12,a13,a14].getD i 0) N_add_tooth T BA ((E 6 (by decide) (by decide)).err R6) m_check c_tooth m_set
 have m_off:=ok_boff (ea:=fun i => [a0,a1,a2,a3,a4,a5,a6,a7,a8,a9,a10,a11,a12,a13,a14].getD i 0) N_take_off T BA ((E 7 (by decide) (by decide)).err R7) ((E 8 (by decide) (by decide)).err R8) m_check c_tooth m_set
 have m_undo:=ok_bundo (P:=l.prog) (w:=w) (base:=base) (ea:=fun i => [a0,a1,a2,a3,a4,a5,a6,a7,a8,a9,a10,a11,a12,a13,a14].getD i 0) N_undo T BA ((E 10 (by decide) (by decide)).err R10)
 have m_deeds:=ok_deeds (P:=l.prog) (w:=w) (base:=base) N_deeds T BA
 have m_names:=ok_names (P:=l.prog) (w:=w) (base:=base) N_names T BA
 have m_teeth:=ok_bteeth N_teeth T BA m_check
 have c_at:=ok_at (P:=l.prog) (w:=w) (base:=base) D_at T
 have c_whole:=ok_whole (P:=l.prog) (w:=w) (base:=base) D_whole T
 have c_mk:L2.Maker l.prog w K mg base "Book" C CX0 1 ["self"] (sp_init C):=by
  obtain ⟨fi,fdi,mk,fu⟩:=INIT.ex
  exact ⟨fi,fdi,mk,ok_init fu T BA,INIT.m,fu.binds (fun _ _ _ _ _ _=>ln1 fun _=>rfl)⟩
 have c_chk:=ok_chk (P:=l.prog) (w:=w) (base:=base) (ea:=fun i => [a0,a1,a2,a3,a4,a5,a6,a7,a8,a9,a10,a11,a12,a13,a14].getD i 0) D_check_length T V_MOST_FILLED ((E 13 (by decide) (by decide)).err R13)
 have c_do:=ok_do39 D_do T RCE BA.cls c_kind m_put m_drop m_add m_off m_undo
 have c_ask:=ok_ask39 (ce := .ref ce) D_ask T (ea:=fun i => [a0,a1,a2,a3,a4,a5,a6,a7,a8,a9,a10,a11,a12,a13,a14].getD i 0) RCE N_ValueError BA ⟨E4,zcX (a:=a4) VCHK (by simp)⟩ ⟨(E 11 (by decide) (by decide)),zcX (a:=a11) VCHK (by simp)⟩ ⟨(E 12 (by decide) (by decide)),zcX (a:=a12) VCHK (by simp)⟩ ⟨(E 13 (by decide) (by decide)),zcX (a:=a13) VCHK (by simp)⟩ c_kind
  (ok_r_count_fillings_with D_count_fillings_with T BA m_check c_chk) (ok_r_first_filling_with D_first_filling_with T BA m_check c_chk) (ok_r_count_fillings D_count_fillings T c_chk) (ok_r_first_filling D_first_filling T c_chk)
  (ok_r_fits_flush (ea:=fun i => [a0,a1,a2,a3,a4,a5,a6,a7,a8,a9,a10,a11,a12,a13,a14].getD i 0) D_fits_flush T V_MOST_LENGTH ((E 13 (by decide) (by decide)).err R13)) (ok_r_shape_steps (ea:=fun i => [a0,a1,a2,a3,a4,a5,a6,a7,a8,a9,a10,a11,a12,a13,a14].getD i 0) D_shape_steps T V_SHAPES ((E 11 (by decide) (by decide)).err R11)) (ok_r_shapes_at (ea:=fun i => [a0,a1,a2,a3,a4,a5,a6,a7,a8,a9,a10,a11,a12,a13,a14].getD i 0) D_shapes_at T V_MOST_SHAPED ((E 12 (by decide) (by decide)).err R12)) (ok_r_comb_over_strip (ea:=fun i => [a0,a1,a2,a3,a4,a5,a6,a7,a8,a9,a10,a11,a12,a13,a14].getD i 0) D_comb_over_strip T V_MOST_PLACE ((E 12 (by decide) (by decide)).err R12)) (ok_r_comb_over_line (ea:=fun i => [a0,a1,a2,a3,a4,a5,a6,a7,a8,a9,a10,a11,a12,a13,a14].getD i 0) D_comb_over_line T V_MOST_PLACE ((E 12 (by decide) (by decide)).err R12)) m_teeth
 exact ok_law (ea:=fun i => [a0,a1,a2,a3,a4,a5,a6,a7,a8,a9,a10,a11,a12,a13,a14].getD i 0) D_law T (fun j hj=>E j (by simp only [List.mem_cons,List.not_mem_nil,or_false]; omega) (by omega)) c_mk c_at (ok_draw39 D_draw T (ok_mixed D_mixed T) (ok_pool D_pool T)) (ok_duedeed D_duedeed T (ok_isname D_isname T) (ok_isteeth D_isteeth T)) c_do (ok_done D_done T)
  (ok_doors D_doors T (fun j hj=>E j (by simp only [List.mem_cons,List.not_mem_nil,or_false]; omega) (by omega)) c_ask (ok_refused D_refused T) c_do) (ok_same D_same T BA c_whole (ok_texts D_texts T) (ok_numbers D_numbers T c_whole) m_names m_deeds m_teeth)
end K39
open PySem PySem.W PyProof.Rows
namespace PySem.W.Fast
def tw1833792010008772825:=True
def tw2805757969704941322:=True
def tw14165416655845478865:=True
def tw3749411422021595099:=True
def tw6665886697102535472:=True
def tw16283408755636282342:=True
def tw1340187420749411353:=True
def tw9879692142672289593:=True
def tw2734670149729058586:=True
def tw5898733979260372921:=True
def tw3565434602201081459:=True
def tw863061588453516040:=True
def tw477269341837168103:=True
def tw13944262640230780919:=True
def tw16621282249055898664:=True
def tw6086614412095334147:=True
def tw16369855173171650539:=True
def tw18347673038200643803:=True
def tw4454321277719452449:=True
def tw4618806129228299717:=True
def tw17199529193747786363:=True
def tw12879580261690374453:=True
def tw4348797735088054438:=True
def tw14479131696525283067:=True
def tw6466214167457364178:=True
def tw559760111014852735:=True
def tw17164792693605385111:=True
def tw18341814970990654120:=True
def tw2322484834608488733:=True
def tw7446415940431047448:=True
def tw5320468942122361577:=True
def tw18344449763661016243:=True
def tw17709852752028518274:=True
def tw5356342127871657584:=True
def tw5647408648089442257:=True
def tw2838629181175301059:=True
def tw10003582503333937198:=True
def tw12481989520804807417:=True
def tw8582513254301552408:=True
def tw1363652363472352767:=True
def tw3980939815163613392:=True
def tw18327582275137690228:=True
def tw1703203101759859781:=True
def tw3416079562207685606:=True
def tw10824295714432183151:=True
def tw12234663455488975264:=True
def tw17102547786508221937:=True
def tw5088845395832502359:=True
def tw16943003367303104802:=True
def tw17263827296816850933:=True
def tw15951498628203624110:=True
def tw14372756506716598452:=True
def tw4474861829130031623:=True
def tw12029501095977310474:=True
def tw4209223981843557441:=True
def tw8773341788330691913:=True
def tw5477033926250648051:=True
def tw18184906828495210107:=True
def tw16862912895812934238:=True
def tw15282833684699589993:=True
def tw2893310474953064891:=True
def tw8767068781846680124:=True
def tw1757747685881424522:=True
def tw2095228486897731734:=True
def tw18356088454447493797:=True
def tw5270498490755283361:=True
def tw18174441821142564349:=True
def tw15824209801167704395:=True
def tw15264160653743773959:=True
def tw10425273939571935331:=True
def tw3571400776020575502:=True
def tw15771264008895349767:=True
def tw14203300389361712993:=True
def tw5156551846627648098:=True
def tw17826463130740332555:=True
def tw4397711163342126718:=True
def tw8311848079357557545:=True
def tw1342885623749156499:=True
def tw14048237751724256368:=True
def tw11821873927511472034:=True
def tw6331176158694612278:=True
def tw4511622558856438353:=True
def tw17858139761312521030:=True
def tw16072977139340670389:=True
def tw16593947135216011829:=True
def tw16359978055616888443:=True
def tw16288903824171903447:=True
def tw13730792846392036852:=True
def tw376045938263719387:=True
def tw4444298290092796410:=True
def tw9538475465463507911:=True
def tw11253883855790826453:=True
def tw11965602196641748969:=True
def tw8412636648656212922:=True
def tw7718522538687001158:=True
def tw18084764269821125579:=True
def tw9231399005912806885:=True
def tw18241905447866897444:=True
def tw13202489081428136000:=True
def tw17942330692264172622:=True
def tw7348038155029740136:=True
def tw2822531656142466533:=True
def tw8705355725210492033:=True
def tw5297224548766165709:=True
def tw2947355023288750381:=True
def tw3996608110459347144:=True
def tw1363535273044017404:=True
def tw3877047106331412508:=True
def tw2277733377249141565:=True
def tw10927088736741748015:=True
def tw7760338739802123735:=True
def tw8377503914490929208:=True
def tw9624434674662647553:=True
def tw153381233873176007:=True
def tw8668908991635762524:=True
def tw15918643199254017762:=True
def tw3051553023052434598:=True
def tw610149313655095255:=True
def tw2301739008250185833:=True
def tw12362129594422533964:=True
def tw8247385970197523527:=True
def tw686738808110505958:=True
def tw12670301624041396124:=True
def tw15471780533186941815:=True
def tw17567166432105109530:=True
def tw16087948543140622433:=True
def tw1248004632090334958:=True
def tw13662948330360692579:=True
def tw4560906679384236785:=True
def tw13056593500822222964:=True
def tw832456979396597510:=True
def tw2440137991433509838:=True
def tw17216817714153652538:=True
def tw1473947483665673239:=True
def tw12505961457579999835:=True
def tw9915252302975567584:=True
def tw13365939539261588879:=True
def tw9475598572344928044:=True
def tw5556324373817312687:=True
def tw6377859336276196942:=True
def tw6360166664474013748:=True
def tw9748834929700052589:=True
def tw7986107020883700058:=True
def tw15474299110849648853:=True
def tw3339223611012268334:=True
def tw7584623602410559441:=True
def tw17434715816770402920:=True
def tw9265959869058972899:=True
def tw17150538537180260429:=True
def tw4611517462964237111:=True
def tw16264582821360964041:=True
def tw3310327555768462348:=True
def tw10014065736446886141:=True
def tw142414391937017506:=True
def tw5832682284435078377:=True
def tw16680627281056843054:=True
def tw12232212547278320164:=True
def tw12832786520643835217:=True
def tw13326814075352439764:=True
def tw429786688837894866:=True
def tw3482842382371098641:=True
def tw1824049504154150323:=True
def tw17692241893490463115:=True
def tw12393143302739673250:=True
def tw10127152628398399440:=True
def tw18099980193894248844:=True
def tw1712078813557549149:=True
def tw14357312976551651455:=True
def tw8923414567173136143:=True
def tw8869906908382017445:=True
def tw15123336173294063932:=True
def tw13777186693985784990:=True
def tw7670292882896130067:=True
def tw9718221154654019396:=True
def tw4126655614528741922:=True
def tw16281504829494148664:=True
def tw8791996802788723159:=True
def tw14887499623319008849:=True
def tw9805020689474116386:=True
def tw17799186728677655317:=True
def tw13015168760803797072:=True
def tw14440547983386459826:=True
def tw13300045860512751319:=True
def tw9739807448265820009:=True
def tw7094831349329068344:=True
def tw4903439409401263805:=True
def tw15055759179644729604:=True
def tw18045801967287742972:=True
def tw9181663781003164898:=True
def tw3528171382349186901:=True
def tw3736429719966979605:=True
def tw17073298502295369095:=True
def tw3428877522799200989:=True
def tw15652750997553837844:=True
def tw7105143579899502178:=True
def tw13798289866408762304:=True
def tw13045875000282155428:=True
def tw13318704284201548765:=True
def tw17903800313468474753:=True
def tw2197967328648813768:=True
def tw15123386164406183615:=True
def tw11333289595442502645:=True
def tw3858214404186012602:=True
def tw14219778567902689091:=True
def tw3924742950459188194:=True
def tw6891394782400921249:=True
def tw13961704969352056645:=True
def tw17428159754260737884:=True
def tw12807550046720588558:=True
def tw11336379448349210085:=True
def tw2004064376219082183:=True
def tw4939257195524142250:=True
def tw3308450294196064637:=True
def tw15026631243393338733:=True
def tw6008334754019875905:=True
def tw13100130463368280814:=True
def tw9304007689866168031:=True
def tw2008195503077633769:=True
def tw2384306751034785588:=True
def tw10295045858140698645:=True
def tw2149338615805838556:=True
def tw4286628363724565956:=True
def tw7242815822546849138:=True
def tw3043528952023621604:=True
def tw428727590083342489:=True
def tw12015812300897695010:=True
def tw15119385261910529876:=True
def tw4076297999087529651:=True
def tw4430923867068496871:=True
def tw4606089266742090780:=True
def tw13771431112787194654:=True
def tw16988108890746716705:=True
def tw1057822250195574015:=True
def tw13833804711609395988:=True
def tw5180249277492232897:=True
def tw1107889685835435164:=True
def tw1204294867286467943:=True
def tw10332734595407521219:=True
def tw15513000106954040755:=True
def tw18205670581913748852:=True
def tw13224083915815245750:=True
def tw2469324515133342761:=True
def tw15155338924998669462:=True
def tw8626714032721221486:=True
def tw3368377317662837825:=True
def tw12786396438713455561:=True
def tw13577443972835038617:=True
def tw8373187689334768165:=True
def tw18244178531255486649:=True
def tw4596359070501962652:=True
def tw16466821226584195884:=True
def tw16684010317578491577:=True
def tw538995237163477972:=True
def tw1007210453072156179:=True
def tw18207207597402084903:=True
def tw18102057468796596100:=True
def tw12534739092496294464:=True
def tw8902436895050785143:=True
def tw16838656395754433988:=True
def tw4480999278663462985:=True
def tw2090614989666661653:=True
def tw15304055724349784754:=True
def tw8596487581007307831:=True
def tw15608059233182261376:=True
def tw11749085599136253675:=True
def tw4352015521472090476:=True
def tw7150151217881473578:=True
def tw17840379477224692368:=True
def tw10505616103839084686:=True
def tw5498158864302664259:=True
def tw4350980892336790418:=True
def tw2266205945379201791:=True
def tw4434152995053886906:=True
def tw6602407797756021494:=True
def tw4829859914885598530:=True
def tw5444152274192645368:=True
def tw7821024713049913921:=True
def tw2088127864957297882:=True
def tw2584131131372967304:=True
def tw8961148190307753859:=True
def tw4050394311182137791:=True
def tw51387728391162467:=True
def tw4264415185511781336:=True
def tw751655067767688808:=True
def tw11081095281269791941:=True
def tw6746446067189333819:=True
def tw17311197757543089064:=True
def tw18088627190095386485:=True
def tw6205369502548958770:=True
def tw4981395932675093350:=True
def tw14886483822114191975:=True
def tw11519892278520576487:=True
def tw8570376348234514730:=True
def tw6998970689165552497:=True
def tw10176772454442403542:=True
def tw5395918273604943282:=True
def tw14184881091888500217:=True
def tw452544238353755578:=True
def tw8976078659182423433:=True
def tw10778791887169775304:=True
def tw390451998828847332:=True
def tw909726319249008584:=True
def tw15879454943788239302:=True
def tw5354188801434691262:=True
def tw9218430005666262791:=True
def tw376257749339228735:=True
def tw16617296777704984775:=True
def tw9326296720729333578:=True
def tw4466267372898543949:=True
def tw1887288453713183988:=True
def tw14823361516821170289:=True
def tw7978150704927364368:=True
def tw6247271021560433758:=True
def tw11013820174400557170:=True
def tw17562594819960136483:=True
def tw383537889365684283:=True
def tw9204605339148806762:=True
def tw11413680892914727532:=True
def tw15631631845351696018:=True
def tw6574002727290047438:=True
def tw9465730254743391851:=True
def tw12041592864119648884:=True
def tw7579194602917973067:=True
def tw11010348820367836509:=True
def tw9134420840509677083:=True
def tw14071817019355281320:=True
def tw12955451763569602806:=True
def tw874744266595589070:=True
def tw11087125466654608353:=True
def tw11047889524966531137:=True
def tw14564604284887728391:=True
def tw11919089344840832589:=True
def tw13255551302463699702:=True
def tw15052273745105236575:=True
def tw13021464771882552214:=True
def tw7060049994229624999:=True
def tw4082545027861555512:=True
def tw897363428099063484:=True
def tw2405412089927363996:=True
def tw4151285642808103235:=True
def tw1333799738355858757:=True
def tw17945151956535046478:=True
def tw17470947734960926270:=True
def tw14155886867170717853:=True
def tw7433952047058086373:=True
def tw10288611367073855413:=True
def tw552434040980464003:=True
def tw15696752074476898620:=True
def tw1040412675797534251:=True
def tw17208779343378176751:=True
def tw4290563417540927813:=True
def tw9514478132061815631:=True
def tw1650425551143268839:=True
def tw2172729277835735497:=True
def tw9769985108235805916:=True
def tw4253594767522196546:=True
def tw10192060216994071432:=True
def tw8744490116142955068:=True
def tw944427653049854259:=True
def tw13823398425052582759:=True
def tw7055982145547398492:=True
def tw13324527775352013743:=True
def tw1113609682639347483:=True
def tw8159532304995710731:=True
def tw15600526407779281596:=True
def tw11956331293448309183:=True
def tw5135959606950737262:=True
def tw17300895070726697675:=True
def tw4046044820637119077:=True
def tw7595985135896828573:=True
def tw17552751097218438897:=True
def tw14372268743002377403:=True
def tw3217590995410704053:=True
def tw12835950050597058638:=True
def tw16185343865828353269:=True
def tw17716534079328642334:=True
def tw603103288238047708:=True
def tw9645072223061753286:=True
def tw8815919863505991362:=True
def tw17074729884555918421:=True
def tw1937626963978693025:=True
def tw6625498714189537832:=True
def tw6404567238224739682:=True
def tw13943636765386399885:=True
def tw15221323545885169090:=True
def tw10684270507049799614:=True
def tw5120798371203058408:=True
def tw4945304559407034237:=True
def tw9113662981279651249:=True
def tw3855208371446820887:=True
def tw1474018240537065424:=True
def tw14214467249950030906:=True
def tw8652022151938876629:=True
def tw8765252585194068892:=True
def tw11300031687336776422:=True
def tw12527713149176648666:=True
def tw13579403629003291523:=True
def tw738747747530012091:=True
def tw8859210978698349549:=True
def tw5165631548740943659:=True
def tw170960537235684886:=True
def tw11905486334518483969:=True
def tw14310700610921495720:=True
def tw15730544584646691615:=True
def tw10098677316909136439:=True
def tw12013515526952843513:=True
def tw859513333379307333:=True
def tw2352208162010180948:=True
def tw12041472319316671292:=True
def tw3609134782248136252:=True
def tw18354637792273226358:=True
def tw13987253830459774586:=True
def tw2392686819151863354:=True
def tw7310278121392048028:=True
def tw16143324928415885968:=True
def tw14466164617991571146:=True
def tw11055185478919534353:=True
def tw3746817048921391175:=True
def tw1994541992858135493:=True
def tw6120831651845757853:=True
def tw15729916418180845053:=True
def tw5706007613945572130:=True
def tw1376335868621902317:=True
def tw15532195274623451874:=True
def tw16094374955918300038:=True
def tw13739778147223649581:=True
def tw136124839170243395:=True
def tw15631987244255630724:=True
def tw3527176956518888143:=True
def tw3543439177088236257:=True
def tw5881553825713856424:=True
def tw2670181892589775806:=True
def tw1599247122362029661:=True
def tw4883374871905669799:=True
def tw2340197425253941672:=True
def tw699559372119419038:=True
def tw14350729386985457200:=True
def tw15795347466924462993:=True
def tw11640997978576302161:=True
def tw3009901801317860492:=True
def tw6345205377255079365:=True
def tw17527660080570714350:=True
def tw4038198093579131319:=True
def tw7984899420937890658:=True
def tw14324982274938371541:=True
def tw13940428522033396621:=True
def tw14236780718849914408:=True
def tw849305996750181582:=True
def tw7264764497971552781:=True
def tw3693326508728573261:=True
def tw4603334107002368418:=True
def tw14622503857144520479:=True
def tw17374444410752358870:=True
def tw11270236605319897022:=True
def tw7612094341745064084:=True
def tw3312312108754089260:=True
def tw8526035293635041941:=True
def tw6098784353316125532:=True
def tw14904463592547620111:=True
def tw221658553620744141:=True
def tw4670685552336122296:=True
def tw14987059586190029946:=True
def tw11564160845055121501:=True
def tw11171022970471913993:=True
def tw11530428336908727855:=True
def tw7957971077177579794:=True
def tw4291852222100422860:=True
def tw4325974578051216263:=True
def tw7006280052061943748:=True
def tw596901418956796634:=True
def tw2398770809482577669:=True
def tw5327494347916222533:=True
def tw6984999836979853812:=True
def tw9753498724200864253:=True
def tw15270208012585331275:=True
def tw4037690155722497928:=True
def tw6830432952993090798:=True
def tw528248594247474795:=True
def tw10747307333561417893:=True
def tw8668665722224009392:=True
def tw16951915661391270438:=True
def tw16641849435877068922:=True
def tw15091009466778432361:=True
def tw4987490780772055001:=True
def tw6865875974296709676:=True
def tw11413434005022193432:=True
def tw5093489593507486384:=True
def tw8423223797340373522:=True
def tw17922717020998220327:=True
def tw4005655050822666146:=True
def tw10169917716086651033:=True
def tw4492942970754807904:=True
def tw14771908342667570731:=True
def tw4188448095187698525:=True
def tw4107281067573028392:=True
def tw17710904073735885962:=True
def tw16669576851032432482:=True
def tw10228758026239847488:=True
def tw14252568239672995501:=True
def tw8137414799749039761:=True
def tw430393965859785699:=True
def tw12221256384879043443:=True
def tw2342017046042019502:=True
def tw9328134779565428580:=True
def tw12667461994236465362:=True
def tw4886771919331177288:=True
def tw11848647683501712177:=True
def tw10236344941256749476:=True
def tw9806143642766722684:=True
def tw1434915525069842891:=True
def tw3691245163236975911:=True
def tw14956790029291170134:=True
def tw17278399958368924595:=True
def tw9869803605604079588:=True
def tw11649598289940186394:=True
def tw3206205710473925244:=True
def tw5489341099620669028:=True
def tw6195956113183098673:=True
def tw4147539345897812725:=True
def tw2512300821760570473:=True
def tw8887699438215541948:=True
def tw10186969052057396964:=True
def tw3461534337387067956:=True
def tw18330583286080408268:=True
def tw8854068121874907075:=True
def tw7026225370572387631:=True
def tw1642240669068341884:=True
def tw8391201517306748233:=True
def tw3332436172654934910:=True
def tw13818211358896466769:=True
def tw2835304548059846585:=True
def tw8502438225762612531:=True
def tw9621878838744828947:=True
def tw8309337405191896339:=True
def tw17090575827583279714:=True
def tw234083591248160316:=True
def tw4350760766830742328:=True
def tw404374362582044416:=True
def tw13460497935398562492:=True
def tw13260140359207200160:=True
def tw1513533753472527790:=True
def tw11580028820431789233:=True
def tw12792521117837214703:=True
def tw11225630267655143791:=True
def tw13457382183189152099:=True
def tw3518688616621614765:=True
def tw15746782700158785229:=True
def tw11519217803308944051:=True
def tw15137695268245778514:=True
def tw4943184464562210252:=True
def tw5547942321909715379:=True
def tw10280339410072955607:=True
def tw18013153900969917803:=True
def tw6134485926759803527:=True
def tw6913207627891532200:=True
def tw6112192363731154545:=True
def tw7067020171197392691:=True
def tw17596019531727086540:=True
def tw12442779330115087477:=True
def tw10176401482135347808:=True
def tw11198171451597118970:=True
def tw1703850970789623545:=True
def tw6825270617045105356:=True
def tw12994541741257667207:=True
def tw18107200762370204914:=True
def tw15073437340007534495:=True
def tw5968443822331328394:=True
def tw8382640831400510118:=True
def tw15754078352754866849:=True
def tw362007023814947105:=True
def tw1687858740394968385:=True
def tw10132142779862504889:=True
def tw838230650164284633:=True
def tw8355713198137793068:=True
def tw6874786543017395653:=True
def tw1068619154771627110:=True
def tw2808591260979640764:=True
def tw2532273951722408884:=True
def tw17606402801121463831:=True
def tw3520430714460861472:=True
def tw13990375715039455882:=True
def tw615584359615305803:=True
def tw3951796693371690945:=True
def tw480649308419793579:=True
def tw3574242411994540508:=True
def tw5149517383727222346:=True
def tw15056868216664066231:=True
def tw344840993608948581:=True
def tw16047671210185104916:=True
def tw12606323880512135486:=True
def tw9087515720859759281:=True
def tw10007571139782988973:=True
def tw4152661507860110641:=True
def tw5024331941940620961:=True
def tw9951464640693956291:=True
def tw1925202338368382959:=True
def tw6149984041187553685:=True
def tw11943953762628745795:=True
def tw17781332509014247393:=True
def tw5402792841702795124:=True
def tw1624473497155882289:=True
def tw17181173845532339509:=True
def tw10893704885203179718:=True
def tw4863028543450034199:=True
def tw4346880007359054636:=True
def tw18348250191877571537:=True
def tw18136402091122986852:=True
def tw336572547347581485:=True
def tw15407413493088740189:=True
def tw7833210873790740239:=True
def tw7937861135507845047:=True
def tw16613331015351399696:=True
def tw11127089095894627409:=True
def tw721504707349163357:=True
def tw4302424267390512426:=True
def tw4695625672836262546:=True
def tw1197799346716192072:=True
def tw17984863003621867684:=True
def tw11424789715131300809:=True
def tw3032549012161978836:=True
def tw16966758377853749687:=True
def tw1123429387298704411:=True
def tw17473764513690039939:=True
def tw11839972711672979354:=True
def tw10389748233757559309:=True
def tw462094590390422283:=True
def tw17188998750929013744:=True
def tw5647309629398762218:=True
def tw2324561402381706563:=True
def tw12777066253646422162:=True
def tw8896398510389057344:=True
def tw6265010664612343874:=True
def tw17447588540069924340:=True
def tw14791643567093903897:=True
def tw7501125658431845480:=True
def tw6300724205961938372:=True
def tw8442809709473854286:=True
def tw16942675769555476221:=True
def tw514938828142614258:=True
def tw16039748479710771699:=True
def tw9140625506815744914:=True
def tw18232701618825048710:=True
def tw3947142172636268520:=True
def tw2412726535364259599:=True
def tw5393323316097585163:=True
def tw2589372172230661166:=True
def tw2096517934742394680:=True
def tw8774238057379970036:=True
def tw4651117830630209972:=True
def tw17462630881170389207:=True
def tw4941542893864281245:=True
def tw10983097173345794953:=True
def tw685983449221373775:=True
def tw3141548392637428177:=True
def tw704605095229696207:=True
def tw3489748739079373339:=True
def tw5520800409198215492:=True
def tw12669657790050240421:=True
def tw15979765783887194232:=True
def tw9736579951546572493:=True
def tw1156566838762540491:=True
def tw4102774215656394734:=True
def tw8607432311214024810:=True
def tw3083446584988120183:=True
def tw4931330751216624965:=True
def tw15286104027703934048:=True
def tw2219923171411835142:=True
def tw1319838647152260452:=True
def tw14592761114333618000:=True
def tw15340440757393149971:=True
def tw3403766249111966537:=True
def tw14853484704582581871:=True
def tw7138649201109824147:=True
def tw12082696582419189864:=True
def tw10935269885954267210:=True
def tw15089763114824855183:=True
def tw1346033227055979814:=True
def tw13897695707618796801:=True
def tw46814820846404718:=True
def tw6875208448197522514:=True
def tw2604152267660922367:=True
def tw15946463030617068931:=True
def tw8943896923654985755:=True
def tw2754261306410154697:=True
def tw10004342045462410720:=True
def tw1663292905821570974:=True
def tw5787589597242849676:=True
def tw11547847379907950606:=True
def tw17399127093086834391:=True
def tw13059265076470636105:=True
def tw10725604410980706033:=True
def tw12850602571270862141:=True
def tw6592729869446176907:=True
def tw7893143626637273171:=True
def tw401620038615453915:=True
def tw11935664513466196394:=True
def tw13113134719476433926:=True
def tw3999702959747719419:=True
def tw14149923135133096730:=True
def tw5439080135093988604:=True
def tw2435982015461164602:=True
def tw11449789500258236120:=True
def tw5859244645868894464:=True
def tw12132934532538795572:=True
def tw505128030779390839:=True
def tw13568556845327143063:=True
def tw11721708722136880976:=True
def tw17756378346088595648:=True
def tw6214176166109669182:=True
def tw15374493169334033238:=True
def tw16628447009226801771:=True
def tw13436872561734721725:=True
def tw10242463901895703202:=True
def tw15991860707002516109:=True
def tw5580519175109348358:=True
def tw12135465945343178546:=True
def tw7853802353664288263:=True
def tw14686123788675960115:=True
def tw11102131520843727407:=True
def tw5148482276526249041:=True
def tw8366914361354844894:=True
def tw2534674885827450241:=True
def tw10978318172997234804:=True
def tw14573808088275510104:=True
def tw9953525812564120931:=True
def tw10255899566346548683:=True
def tw8122351618030008049:=True
def tw5246620201802103801:=True
def tw12392176968673691396:=True
def tw7958364157354511833:=True
def tw6647866512476680865:=True
def tw10400701944772040512:=True
def tw18305143387430656695:=True
def tw16898796354247474995:=True
def tw17972615852841304925:=True
def tw6828975255689697969:=True
def tw9307710030107499666:=True
def tw3919193010843660584:=True
def tw10504988193886384375:=True
def tw5892041826953593756:=True
def tw15937187987028197193:=True
def tw15986632655035406606:=True
def tw11745087886360552098:=True
def tw14099402472156431311:=True
def tw14628093457361204282:=True
def tw18181410722033075826:=True
def tw746132615984054000:=True
def tw9938610744007281265:=True
def tw11629760559958485219:=True
def tw9189043802313074794:=True
def tw3623269509929484854:=True
def tw2322433032386708880:=True
def tw5085897869682141013:=True
def tw12993951570290285212:=True
def tw13757202789741556033:=True
def tw10073855220964534337:=True
def tw3191500273772400568:=True
def tw12762438805780397163:=True
def tw16553434432899502079:=True
def tw15604260576294016331:=True
def tw1975570857819546111:=True
def tw2337194883762745875:=True
def tw10241091180692029107:=True
def tw15355956360142660782:=True
def tw11814047692277170614:=True
def tw13798839923330848484:=True
def tw16308283732738265167:=True
def tw3352591492902553851:=True
def tw4449360443071081853:=True
def tw12698313682311213846:=True
def tw7017655624077171827:=True
def tw11500388130295320247:=True
def tw7029724569135346880:=True
def tw8077864393682381270:=True
def tw14689627170127645808:=True
def tw1750535526317550757:=True
def tw17196383009782656440:=True
def tw2252615430174562680:=True
def tw12251986970338428784:=True
def tw17042636560083517650:=True
def tw5777545468248360279:=True
def tw14995721894109835347:=True
def tw7184837299580427208:=True
def tw3558725552148455554:=True
def tw5392822099135705473:=True
def tw997760579770420816:=True
def tw15229289742273107404:=True
def tw1076775669182247969:=True
def tw16993932584328811002:=True
def tw2449421296161143193:=True
def tw12480844287993704380:=True
def tw7307258852913520771:=True
def tw1035370567551851732:=True
def tw1326984982320230759:=True
def tw543417965600488058:=True
def tw1242265195050802704:=True
def tw6492856127376443887:=True
def tw1416095451065154832:=True
def tw2593812013735172032:=True
def tw7346917896461983628:=True
def tw5458815828864587125:=True
def tw17242737340920928961:=True
def tw13309299087043576045:=True
def tw3740664808178871255:=True
def tw4001121838115194717:=True
def tw9988676923481405868:=True
def tw13287185314299043157:=True
def tw18384824192395342342:=True
def tw11918048775456364985:=True
def tw2005486290270206275:=True
def tw6226085212801328387:=True
def tw17190286106649502049:=True
def tw17631847089631569001:=True
def tw12677049971448133647:=True
def tw15194783628970927459:=True
def tw11596236944022704414:=True
def tw10358189011888823325:=True
def tw3543231387807006884:=True
def tw9749584535607187044:=True
def tw2712137389959914485:=True
def tw13859318987323150866:=True
def tw16480760781510909829:=True
def tw14749580352027676987:=True
def tw12749680853834088606:=True
def tw424099922931566406:=True
def tw17543297692345903371:=True
def tw3412325698446644010:=True
def tw7684151172556177446:=True
def tw16714887962624652055:=True
def tw11900107576905260668:=True
def tw15963984559682645420:=True
def tw1764011885583625148:=True
def tw5331343026226970995:=True
def tw7330589416114504776:=True
def tw14576072751137382089:=True
def tw127815053831032589:=True
def tw8640712436808275150:=True
def tw15296465029572104004:=True
def tw14298906932320500326:=True
def tw3024410566757335399:=True
def tw5595063782655807829:=True
def tw11487076684371994675:=True
def tw9006342621418030960:=True
def tw1736104961651435142:=True
def tw1969381970082144705:=True
def tw18210933429799394620:=True
def tw8008342805786279822:=True
def tw6714413778047181420:=True
def tw2624104971987299454:=True
def tw10222354948241117771:=True
def tw948808321687665393:=True
def tw17428832433039435195:=True
def tw16493773436501905126:=True
def tw12626657810970859014:=True
def tw15346236556670788230:=True
def tw4337028726170381987:=True
def tw16791519640355866324:=True
def tw12783581847168380727:=True
def tw13353399411781032111:=True
def tw5745534348204491517:=True
def tw14565122811122462023:=True
def tw15644591285117444417:=True
def tw11722337120415101826:=True
def tw8948168173480522854:=True
def tw15418204232580981483:=True
def tw5963483749455365506:=True
def tw5697831934954443496:=True
def tw15204060212400902654:=True
def tw14846793053258445946:=True
def tw14532120278591111297:=True
def tw1927385643488491529:=True
def tw7544184750072574977:=True
def tw17698292811083422189:=True
def tw1991350421213738492:=True
def tw1115173440385055077:=True
def tw12013144370269607878:=True
def tw2534318831932431786:=True
def tw5001590258134009965:=True
def tw13928240011394528713:=True
def tw11451564516344890185:=True
def tw13716102935065023299:=True
def tw2718268670624073424:=True
def tw786576022833221703:=True
def tw9318401715975480011:=True
def tw7979823636753287452:=True
def tw6207349964688500244:=True
def tw3113466814774114212:=True
def tw429111853400941683:=True
def tw9492440284772898217:=True
def tw15374418919861960955:=True
def tw11272890318375933302:=True
def tw13096221916282840571:=True
def tw4350541792634073361:=True
def tw3119061407479474332:=True
def tw12254864779055380866:=True
def tw9842274710342124698:=True
def tw10244806420659158722:=True
def tw2509247132067832802:=True
def tw16863784710897373388:=True
def tw25987407726323913:=True
def tw1988961917411672389:=True
def tw7909503872996674018:=True
def tw16599626109159311350:=True
def tw12784440128561176580:=True
def tw14442350000333115263:=True
def tw6182668572359949425:=True
def tw16081418884941472610:=True
def tw16914201226446111394:=True
def tw6409774014090484703:=True
def tw14653196227154274722:=True
def tw2642678520105678254:=True
def tw9541314890749076013:=True
def tw6149060129578479564:=True
def tw3361966611409050941:=True
def tw15277595123757736270:=True
def tw352847718523149540:=True
def tw4961574938089027166:=True
def tw13280284811271959040:=True
def tw17378406349906781638:=True
def tw12609974177171890047:=True
def tw14003993501524130140:=True
def tw1674425170046354214:=True
def tw11893678616412173577:=True
def tw4603004695786991285:=True
def tw9407255335863330143:=True
def tw5196262010440701468:=True
def tw5737304016639930852:=True
def tw10378752218641489574:=True
def tw5997272566411428131:=True
def tw2891630395908859319:=True
def tw9846371877328646093:=True
def tw17957985177914243195:=True
def tw6108299745947037452:=True
def tw11917828290565799749:=True
def tw9166626416087645633:=True
def tw1872490063313090759:=True
def tw9802159956372603101:=True
def tw1849847587767617516:=True
def tw9259660151533246535:=True
def tw14891548270652481485:=True
def tw8347081025808393094:=True
def tw12732709883346672732:=True
def tw18187992784936301436:=True
def tw1296050684821287297:=True
def tw14785664489918644623:=True
def tw8556892493552980738:=True
def tw5470008116024676673:=True
def tw14529139902743915193:=True
def tw14921693639079286923:=True
def tw14442776467052423252:=True
def tw10914214934567205887:=True
def tw15071919024334941111:=True
def tw10059777623891207327:=True
def tw1652450784986588968:=True
def tw4890317560267615856:=True
def tw6149387294612941099:=True
def tw5734328469178295894:=True
def tw7598945885078632758:=True
def tw17758950161558194113:=True
def tw8220890310673704407:=True
def tw17997688671073627578:=True
def tw17549894265193287169:=True
def tw4031305165975126650:=True
def tw2641400494396709320:=True
def tw7958881306010510437:=True
def tw13536990881451380167:=True
def tw12379400637427099488:=True
def tw14175138834348342627:=True
def tw14841230913591623652:=True
def tw8735980244588060851:=True
def tw15286063074424341652:=True
def tw17474033552691428598:=True
def tw15460116778138018589:=True
def tw15727512708879480221:=True
def tw6560226762549063450:=True
def tw9506817564872154364:=True
def tw11552609491321726943:=True
def tw9720683543869589307:=True
def tw3946735646662708077:=True
def tw106447354850610245:=True
def tw17814502969452789439:=True
def tw15343270384645591815:=True
end PySem.W.Fast
set_option maxRecDepth 100000 in
set_option maxHeartbeats 0 in
theorem PySem.Challenge.cw_combstrip_k39_whole_refusals_holds : PySem.Challenge.rw_combstrip_k39_whole_refusals.Holds := by
 w_on; o_law; k_head; (case hw=>w_witness2)
 k_fill
 refine K39.walk (l:=PySem.Challenge.rw_combstrip_k39_whole_refusals) rfl rfl (fun w h Y=>PySem.W.kIn_of Y) ?F
 case F =>
  intro w mg fa h KX G hmg
  refine' K39.all KX G hmg (L2.bn_mk KX G ?n0 ?n1 ?n2 ?n3 ?n4 ?n5 ?n6 ?n7 ?n8 ?n9 ?n10 ?n11 ?n12 ?n13 ?n14 ?n15 ?n16 ?n17 ?n18 ?n19 ?n20) ?v0 ?v1 ?v2 ?v3 ?v4 ?v5 ?v6 ?v7 ?v8 ?r0 ?r1 ?r2 ?r3 ?r4 ?r5 ?r6 ?r7 ?r8 ?r9 ?r10 ?r11 ?r12 ?r13 ?r14 ?zrce ?zhc ?zini ?zbc ?znv ?zvc ?m0 ?m1 ?m2 ?m3 ?m4 ?m5 ?m6 ?m7 ?m8 ?m9 ?m10 ?d0 ?d1 ?d2 ?d3 ?d4 ?d5 ?d6 ?d7 ?d8 ?d9 ?d10 ?d11 ?d12 ?d13 ?d14 ?d15 ?d16 ?d17 ?d18 ?d19 ?d20 ?d21 ?d22 ?d23 ?d24 ?d25 ?d26 ?d27 ?d28 ?d29 ?d30 ?d31
  (case n0=>k_is)
  (case n1=>k_is)
  (case n2=>k_is)
  (case n3=>k_is)
  (case n4=>k_is)
  (case n5=>k_is)
  (case n6=>k_is)
  (case n7=>k_is)
  (case n8=>k_is)
  (case n9=>k_is)
  (case n10=>k_is)
  (case n11=>k_is)
  (case n12=>k_is)
  (case n13=>k_is)
  (case n14=>k_is)
  (case n15=>k_is)
  (case n16=>k_is)
  (case n17=>k_is)
  (case n18=>k_is)
  (case n19=>k_is)
  (case n20=>k_is)
  (case v0=>refine' L2.int_mk KX G ?a; (case a=>k_is))
  (case v1=>refine' L2.int_mk KX G ?a; (case a=>k_is))
  (case v2=>refine' L2.int_mk KX G ?a; (case a=>k_is))
  (case v3=>refine' L2.int_mk KX G ?a; (case a=>k_is))
  (case v4=>refine' L2.int_mk KX G ?a; (case a=>k_is))
  (case v5=>refine' L2.int_mk KX G ?a; (case a=>k_is))
  (case v6=>refine' L2.int_mk KX G ?a; (case a=>k_is))
  (case v7=>refine' L2.int_mk KX G ?a; (case a=>k_is))
  (case v8=>refine' L2.int_mk KX G ?a; (case a=>k_is))
  (case r0=>refine' L2.ref_mk KX G ?a; (case a=>k_is))
  (case r1=>refine' L2.ref_mk KX G ?a; (case a=>k_is))
  (case r2=>refine' L2.ref_mk KX G ?a; (case a=>k_is))
  (case r3=>refine' L2.ref_mk KX G ?a; (case a=>k_is))
  (case r4=>refine' L2.ref_mk KX G ?a; (case a=>k_is))
  (case r5=>refine' L2.ref_mk KX G ?a; (case a=>k_is))
  (case r6=>refine' L2.ref_mk KX G ?a; (case a=>k_is))
  (case r7=>refine' L2.ref_mk KX G ?a; (case a=>k_is))
  (case r8=>refine' L2.ref_mk KX G ?a; (case a=>k_is))
  (case r9=>refine' L2.ref_mk KX G ?a; (case a=>k_is))
  (case r10=>refine' L2.ref_mk KX G ?a; (case a=>k_is))
  (case r11=>refine' L2.ref_mk KX G ?a; (case a=>k_is))
  (case r12=>refine' L2.ref_mk KX G ?a; (case a=>k_is))
  (case r13=>refine' L2.ref_mk KX G ?a; (case a=>k_is))
  (case r14=>refine' L2.ref_mk KX G ?a; (case a=>k_is))
  (case zrce=>refine' L2.ref_mk KX G ?a; (case a=>k_is))
  (case zhc=>kernel_rfl)
  (case zini=>refine' L2.init_mk (L2.ref_mk KX G ?z) ?a ?l ?c ?k ?i ?k2 ?mk; (case z=>k_is); (case a=>k_is); (case l=>k_is); (case c=>k_is); (case k=>k_is); (case i=>k_is); (case k2=>k_is); (case mk=>k_is))
  (case zbc=>kernel_rfl)
  (case znv=>refine' mg_none_of KX G ?a; (case a=>k_is))
  (case zvc=>kernel_rfl)
  (case m0=>refine' L2.meth_mk ?a ?l ?c ?k ?i; (case a=>k_is); (case l=>k_is); (case c=>k_is); (case k=>k_is); (case i=>k_is))
  (case m1=>refine' L2.meth_mk ?a ?l ?c ?k ?i; (case a=>k_is); (case l=>k_is); (case c=>k_is); (case k=>k_is); (case i=>k_is))
  (case m2=>refine' L2.meth_mk ?a ?l ?c ?k ?i; (case a=>k_is); (case l=>k_is); (case c=>k_is); (case k=>k_is); (case i=>k_is))
  (case m3=>refine' L2.meth_mk ?a ?l ?c ?k ?i; (case a=>k_is); (case l=>k_is); (case c=>k_is); (case k=>k_is); (case i=>k_is))
  (case m4=>refine' L2.meth_mk ?a ?l ?c ?k ?i; (case a=>k_is); (case l=>k_is); (case c=>k_is); (case k=>k_is); (case i=>k_is))
  (case m5=>refine' L2.meth_mk ?a ?l ?c ?k ?i; (case a=>k_is); (case l=>k_is); (case c=>k_is); (case k=>k_is); (case i=>k_is))
  (case m6=>refine' L2.meth_mk ?a ?l ?c ?k ?i; (case a=>k_is); (case l=>k_is); (case c=>k_is); (case k=>k_is); (case i=>k_is))
  (case m7=>refine' L2.meth_mk ?a ?l ?c ?k ?i; (case a=>k_is); (case l=>k_is); (case c=>k_is); (case k=>k_is); (case i=>k_is))
  (case m8=>refine' L2.meth_mk ?a ?l ?c ?k ?i; (case a=>k_is); (case l=>k_is); (case c=>k_is); (case k=>k_is); (case i=>k_is))
  (case m9=>refine' L2.meth_mk ?a ?l ?c ?k ?i; (case a=>k_is); (case l=>k_is); (case c=>k_is); (case k=>k_is); (case i=>k_is))
  (case m10=>refine' L2.meth_mk ?a ?l ?c ?k ?i; (case a=>k_is); (case l=>k_is); (case c=>k_is); (case k=>k_is); (case i=>k_is))
  (case d0=>refine' L2.def_mk KX G ?a ?l ?c ?k; (case a=>k_is); (case l=>k_is); (case c=>k_is); (case k=>k_is))
  (case d1=>refine' L2.def_mk KX G ?a ?l ?c ?k; (case a=>k_is); (case l=>k_is); (case c=>k_is); (case k=>k_is))
  (case d2=>refine' L2.def_mk KX G ?a ?l ?c ?k; (case a=>k_is); (case l=>k_is); (case c=>k_is); (case k=>k_is))
  (case d3=>refine' L2.def_mk KX G ?a ?l ?c ?k; (case a=>k_is); (case l=>k_is); (case c=>k_is); (case k=>k_is))
  (case d4=>refine' L2.def_mk KX G ?a ?l ?c ?k; (case a=>k_is); (case l=>k_is); (case c=>k_is); (case k=>k_is))
  (case d5=>refine' L2.def_mk KX G ?a ?l ?c ?k; (case a=>k_is); (case l=>k_is); (case c=>k_is); (case k=>k_is))
  (case d6=>refine' L2.def_mk KX G ?a ?l ?c ?k; (case a=>k_is); (case l=>k_is); (case c=>k_is); (case k=>k_is))
  (case d7=>refine' L2.def_mk KX G ?a ?l ?c ?k; (case a=>k_is); (case l=>k_is); (case c=>k_is); (case k=>k_is))
  (case d8=>refine' L2.def_mk KX G ?a ?l ?c ?k; (case a=>k_is); (case l=>k_is); (case c=>k_is); (case k=>k_is))
  (case d9=>refine' L2.def_mk KX G ?a ?l ?c ?k; (case a=>k_is); (case l=>k_is); (case c=>k_is); (case k=>k_is))
  (case d10=>refine' L2.def_mk KX G ?a ?l ?c ?k; (case a=>k_is); (case l=>k_is); (case c=>k_is); (case k=>k_is))
  (case d11=>refine' L2.def_mk KX G ?a ?l ?c ?k; (case a=>k_is); (case l=>k_is); (case c=>k_is); (case k=>k_is))
  (case d12=>refine' L2.def_mk KX G ?a ?l ?c ?k; (case a=>k_is); (case l=>k_is); (case c=>k_is); (case k=>k_is))
  (case d13=>refine' L2.def_mk KX G ?a ?l ?c ?k; (case a=>k_is); (case l=>k_is); (case c=>k_is); (case k=>k_is))
  (case d14=>refine' L2.def_mk KX G ?a ?l ?c ?k; (case a=>k_is); (case l=>k_is); (case c=>k_is); (case k=>k_is))
  (case d15=>refine' L2.def_mk KX G ?a ?l ?c ?k; (case a=>k_is); (case l=>k_is); (case c=>k_is); (case k=>k_is))
  (case d16=>refine' L2.def_mk KX G ?a ?l ?c ?k; (case a=>k_is); (case l=>k_is); (case c=>k_is); (case k=>k_is))
  (case d17=>refine' L2.def_mk KX G ?a ?l ?c ?k; (case a=>k_is); (case l=>k_is); (case c=>k_is); (case k=>k_is))
  (case d18=>refine' L2.def_mk KX G ?a ?l ?c ?k; (case a=>k_is); (case l=>k_is); (case c=>k_is); (case k=>k_is))
  (case d19=>refine' L2.def_mk KX G ?a ?l ?c ?k; (case a=>k_is); (case l=>k_is); (case c=>k_is); (case k=>k_is))
  (case d20=>refine' L2.def_mk KX G ?a ?l ?c ?k; (case a=>k_is); (case l=>k_is); (case c=>k_is); (case k=>k_is))
  (case d21=>refine' L2.def_mk KX G ?a ?l ?c ?k; (case a=>k_is); (case l=>k_is); (case c=>k_is); (case k=>k_is))
  (case d22=>refine' L2.def_mk KX G ?a ?l ?c ?k; (case a=>k_is); (case l=>k_is); (case c=>k_is); (case k=>k_is))
  (case d23=>refine' L2.def_mk KX G ?a ?l ?c ?k; (case a=>k_is); (case l=>k_is); (case c=>k_is); (case k=>k_is))
  (case d24=>refine' L2.def_mk KX G ?a ?l ?c ?k; (case a=>k_is); (case l=>k_is); (case c=>k_is); (case k=>k_is))
  (case d25=>refine' L2.def_mk KX G ?a ?l ?c ?k; (case a=>k_is); (case l=>k_is); (case c=>k_is); (case k=>k_is))
  (case d26=>refine' L2.def_mk KX G ?a ?l ?c ?k; (case a=>k_is); (case l=>k_is); (case c=>k_is); (case k=>k_is))
  (case d27=>refine' L2.def_mk KX G ?a ?l ?c ?k; (case a=>k_is); (case l=>k_is); (case c=>k_is); (case k=>k_is))
  (case d28=>refine' L2.def_mk KX G ?a ?l ?c ?k; (case a=>k_is); (case l=>k_is); (case c=>k_is); (case k=>k_is))
  (case d29=>refine' L2.def_mk KX G ?a ?l ?c ?k; (case a=>k_is); (case l=>k_is); (case c=>k_is); (case k=>k_is))
  (case d30=>refine' L2.def_mk KX G ?a ?l ?c ?k; (case a=>k_is); (case l=>k_is); (case c=>k_is); (case k=>k_is))
  (case d31=>refine' L2.def_mk KX G ?a ?l ?c ?k; (case a=>k_is); (case l=>k_is); (case c=>k_is); (case k=>k_is))
