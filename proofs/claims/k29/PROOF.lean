import PyProof.Rows.All
import Wide.All
import OpenK.AllK
import Wide.FinOn
import Lean
import PyProof.EqAt
import PyProof.EqKinds
import PyProof.TupleCall
import PySem.Challenge.RW_combstrip_k29_whole_strip
set_option Elab.async false
set_option linter.all false
set_option maxRecDepth 100000
namespace L2
open PySem PySem.Spec PyProof.Rows
noncomputable abbrev Key:=Sum Int Str
noncomputable def keyIs:Key->Value->Bool
 | .inl k,v=>Value.isInt k v
 | .inr x,v=>Value.isStrOf x v
noncomputable def keyH (w:World):Key->Int
 | .inl k=>hashInt k
 | .inr x=>hashStr w x
theorem zaE:∀ {k:Key} {v:Value},keyIs k v=true->(∃ i t,k=Sum.inl i/\v=Value.int i t)\/(∃ x t,k=Sum.inr x/\v=Value.str x t)
 | .inl i,v,h=>by
  obtain ⟨t,e⟩:=Value.isInt_shape (k:=i) (v:=v) h
  exact .inl ⟨i,t,rfl,e⟩
 | .inr x,v,h=>by
  obtain ⟨t,e⟩:=Value.isStrOf_shape (x:=x) (v:=v) h
  exact .inr ⟨x,t,rfl,e⟩
theorem keyIs_int (i:Int) (t:Tok):keyIs (.inl i) (.int i t)=true:=by simp [keyIs,Value.isInt]
theorem keyIs_str (x:Str) (t:Tok):keyIs (.inr x) (.str x t)=true:=by simp [keyIs,Value.isStrOf]
theorem key_ll (a b:Int):decide ((Sum.inl a:Key)=Sum.inl b)=(a == b):=by
 by_cases e:a=b
 ·subst e; simp
 ·have h:¬ (Sum.inl a:Key)=Sum.inl b:=fun q=>e (Sum.inl.inj q)
  rw [decide_eq_false h]
  exact (beq_eq_false_iff_ne.mpr e).symm
theorem key_rr (a b:Str):decide ((Sum.inr a:Key)=Sum.inr b)=decide (a=b):=by
 by_cases e:a=b
 ·subst e; simp
 ·have h:¬ (Sum.inr a:Key)=Sum.inr b:=fun q=>e (Sum.inr.inj q)
  rw [decide_eq_false h,decide_eq_false e]
theorem key_lr (a:Int) (b:Str):decide ((Sum.inl a:Key)=Sum.inr b)=false:=decide_eq_false (fun q=>nomatch q)
theorem key_rl (a:Str) (b:Int):decide ((Sum.inr a:Key)=Sum.inl b)=false:=decide_eq_false (fun q=>nomatch q)
noncomputable def mixKind (prog:Program) (w:World):PySem.KeyKind prog w Key where
 is:=keyIs
 hash:=keyH w
 inj:=fun v a b ha hb=>by
  rcases zaE ha with ⟨i,t,rfl,rfl⟩ | ⟨x,t,rfl,rfl⟩
  ·rcases zaE hb with ⟨j,u,rfl,e⟩ | ⟨y,u,rfl,e⟩
   ·injection e with e1 _; rw [e1]
   ·exact nomatch e
  ·rcases zaE hb with ⟨j,u,rfl,e⟩ | ⟨y,u,rfl,e⟩
   ·exact nomatch e
   ·injection e with e1 _; rw [e1]
 byValue:=fun k v h=>by
  rcases zaE h with ⟨i,t,rfl,rfl⟩ | ⟨x,t,rfl,rfl⟩ <;> rfl
 pyHash:=fun hv h=>by
  rcases zaE hv with ⟨i,t,rfl,rfl⟩ | ⟨x,t,rfl,rfl⟩
  ·exact wpAny_pyHash_int h
  ·exact wpAny_pyHash_str h
 eqBool:=fun hu hv h=>by
  rcases zaE hu with ⟨i,t,rfl,rfl⟩ | ⟨x,t,rfl,rfl⟩
  ·rcases zaE hv with ⟨j,u,rfl,rfl⟩ | ⟨y,u,rfl,rfl⟩
   ·rw [key_ll] at h; exact wpAny_eqBool_int h
   ·rw [key_lr] at h; exact SeqAt.EqAt.int_str i t y u _ _ _ _ h
  ·rcases zaE hv with ⟨j,u,rfl,rfl⟩ | ⟨y,u,rfl,rfl⟩
   ·rw [key_rl] at h; exact SeqAt.EqAt.str_int x t j u _ _ _ _ h
   ·rw [key_rr] at h; exact wpAny_eqBool_str h
 «strs» := fun k x t v h=>by
  rcases zaE h with ⟨i,u,rfl,e⟩ | ⟨y,u,rfl,e⟩
  ·exact nomatch e
  ·injection e with e1 _
   subst e1
   cases v <;> rfl
theorem mixKind_int (prog:Program) (w:World) (i:Int) (t:Tok):(mixKind prog w).is (.inl i) (.int i t)=true:=keyIs_int i t
theorem mixKind_str (prog:Program) (w:World) (x:Str) (t:Tok):(mixKind prog w).is (.inr x) (.str x t)=true:=keyIs_str x t
end L2
namespace L2
open PySem PySem.Spec PyProof.Rows
inductive V where
 | non | bl (b:Bool) | int (i:Int) | str (x:Str) | byt (b:Array UInt8) | flt (b:UInt64) | ref (a:Addr) | ty (n:String)
 deriving DecidableEq
noncomputable def RelV:V->Value->Prop
 | .non,u=>u=Value.none
 | .bl b,u=>u=Value.bool b
 | .int i,u=>∃ t,u=Value.int i t
 | .str x,u=>∃ t,u=Value.str x t
 | .byt b,u=>∃ t,u=Value.bytes b t
 | .flt b,u=>∃ t,u=Value.float b t
 | .ref a,u=>u=Value.ref a
 | .ty n,u=>u=Value.type n
noncomputable abbrev Vals:List V->List Value->Prop:=Paired RelV
theorem Vals.length {xs:List V} {us:List Value} (r:Vals xs us):xs.length=us.length:=Paired.length r
theorem Vals.get:∀ {xs:List V} {us:List Value} {i:Nat} {x:V},Vals xs us->xs[i]?=some x->∃ u,us[i]?=some u/\RelV x u
 | _,_,_,_,.nil,e=>by simp at e
 | _,_,0,_,.cons r _,e=>by simp at e; subst e; exact ⟨_,rfl,r⟩
 | _,_,i + 1,x,.cons _ t,e=>by
  obtain ⟨u,h1,h2⟩:=Vals.get (i:=i) (x:=x) t (by simpa using e)
  exact ⟨u,by simpa using h1,h2⟩
theorem Vals.set {x:V} {u:Value} (r:RelV x u):∀ {xs:List V} {us:List Value} (i:Nat),Vals xs us->Vals (xs.set i x) (us.set i u)
 | _,_,_,.nil => .nil
 | _,_,0,.cons _ t => .cons r t
 | _,_,i + 1,.cons q t => .cons q (Vals.set r i t)
theorem Vals.append:∀ {xs ys:List V} {us ws:List Value},Vals xs us->Vals ys ws->Vals (xs ++ ys) (us ++ ws)
 | _,_,_,_,.nil,s=>s
 | _,_,_,_,.cons r t,s => .cons r (Vals.append t s)
theorem Vals.take:∀ {xs:List V} {us:List Value} (n:Nat),Vals xs us->Vals (xs.take n) (us.take n)
 | _,_,0,_ => .nil
 | _,_,_ + 1,.nil => .nil
 | _,_,n + 1,.cons r t => .cons r (Vals.take n t)
theorem Vals.drop:∀ {xs:List V} {us:List Value} (n:Nat),Vals xs us->Vals (xs.drop n) (us.drop n)
 | _,_,0,r=>r
 | _,_,_ + 1,.nil => .nil
 | _,_,n + 1,.cons _ t=>Vals.drop n t
noncomputable def RelO:Option V->Option Value->Prop
 | some v,some u=>RelV v u
 | none,none=>True
 | _,_=>False
noncomputable def KV {κ : Type}:List (κ × V)->List (κ × Value)->Prop:=Paired fun (p : κ × V) (q : κ × Value)=>p.1=q.1/\RelV p.2 q.2
noncomputable def kV:Key->V
 | .inl i => .int i
 | .inr x => .str x
inductive HO where
  | lst (xs:List V)
  | tup (xs:List V)
  | dK (kvs:List (Key×V)) | dT (kvs:List (List Key×V))
  | set (S:Int->Bool) (n:Nat)
  | ins (C dx:Addr) (fs:List (Str×V))
  | own (x:Addr)
  | xd (fs:List (Str×V))
  | met (f x:Addr)
  | rng (lo hi:Int)
  | frz (o:Obj) (u:HO)
  | tbl (ps:Array Value)
  | ext (φ : Heap->Prop)
noncomputable abbrev Hp:=Addr->Option HO
noncomputable def upd (H:Hp) (a:Addr) (o:HO):Hp:=fun b=>if b=a then some o else H b
theorem zad {H:Hp} {a:Addr} {o:HO}:upd H a o a=some o:=by unfold upd; rw [if_pos rfl]
theorem zai {H:Hp} {a b:Addr} {o:HO} (h:b≠a):upd H a o b=H b:=by unfold upd; rw [if_neg h]
theorem zg2 {H:Hp} {a b:Addr} {o u:HO} (h:H a=some o) (h':H b=some u) (d:o≠u):a≠b:=by
 intro e; subst e; rw [h] at h'; exact d (Option.some.inj h')
theorem zaq {H:Hp} {a b:Addr} {o:HO} (h:H a=some o) (h':H b=none):a≠b:=by
 intro e; subst e; rw [h] at h'; cases h'
section
variable (P:Program) (w:World)
noncomputable def ObjOk (H:Hp) (h:Heap) (a:Addr):HO->Prop
 | .lst xs=>xs.length<=sizeLine/\∃ (its:List Value) (n:Nat),Vals xs its/\h.get? a=some { cls := .type "list",data := .seq its.toArray n }
 | .tup xs=>xs.length<=sizeLine/\∃ its:List Value,Vals xs its/\IsTup h a its.toArray
 | .dK kvs=>kvs.length<=sizeLine/\(a == sysModules)=false/\∃ vs,KV kvs vs/\h.DictOf (mixKind P w) a vs
 | .dT kvs=>kvs.length<=sizeLine/\(a == sysModules)=false/\∃ xs:List (List Key×Addr×Value),
   Paired (fun (p:List Key×V) (q:List Key×Addr×Value)=>p.1=q.1/\H q.2.1=some (.tup (p.1.map kV))/\RelV p.2 q.2.2) kvs xs /\
   ∃ o es ep,h.get? a=some o/\o.ExactDict/\o.data = .dict es ep/\es.toList=xs.map (entryOfKey (tupleKind (mixKind P w)))/\(xs.map (·.1)).Nodup
 | .set S n=>h.SetOf (intKind P w) a S n
 | .ins C dx fs=>H dx=some (.own a)/\fs.length<=1000/\dx≠a/\h.get? a=some (PySem.W.instObj C dx) /\
   ∃ mA,h.Ns1 dx mA/\(∀ f,RelO (fs.lookup f) (mA f))/\PySem.Within mA (fs.map (·.1))
 | .own _=>∃ o,h.get? a=some o
 | .xd fs=>∃ mA,h.Ns1 a mA/\∀ f,RelO (fs.lookup f) (mA f)
 | .rng lo hi=>∃ t u v,h.get? a=some { cls := .type "range",data := .fields #[.int lo t,.int hi u,.int 1 v] }
 | .frz o u=>h.get? a=some o/\ObjOk H h a u
 | .tbl ps=>h.get? a=some { cls := .none,data := .fields ps }
 | .met f x=>h.get? a=some (PySem.W.methodObj (.ref f) (.ref x))
 | .ext φ => φ h/\(∃ o,h.get? a=some o)/\∀ h1 h2:Heap,φ h1->(∀ o,h1.get? a=some o->h2.get? a=some o) -> φ h2
noncomputable def HOk (H:Hp) (h:Heap):Prop:=∀ a o,H a=some o->ObjOk P w H h a o
end
section
variable {P:Program} {w:World} {H H':Hp} {h h':Heap} {a:Addr} {o:HO}
theorem ObjOk.lt (x:ObjOk P w H h a o):a < h.objs.size:=by
 cases o with
 | lst xs=>obtain ⟨_,_,_,_,e⟩:=x; exact Heap.lt_size e
 | tup xs=>obtain ⟨_,_,_,p⟩:=x; exact p.lt
 | dK kvs=>obtain ⟨_,_,_,_,o,_,_,e,_⟩:=x; exact Heap.lt_size e
 | dT kvs=>obtain ⟨_,_,_,_,o,_,_,e,_⟩:=x; exact Heap.lt_size e
 | set S n=>obtain ⟨o,_,_,_,e,_⟩:=x; exact Heap.lt_size e
 | ins C dx fs=>obtain ⟨_,_,_,e,_⟩:=x; exact Heap.lt_size e
 | own y=>obtain ⟨_,e⟩:=x; exact Heap.lt_size e
 | xd fs=>obtain ⟨_,⟨_,_,_,e,_⟩,_⟩:=x; exact Heap.lt_size e
 | rng lo hi=>obtain ⟨_,_,_,e⟩:=x; exact Heap.lt_size e
 | frz ob u=>obtain ⟨e,_⟩:=x; exact Heap.lt_size e
 | tbl ps=>exact Heap.lt_size (show h.get? a=some _ from x)
 | met f y=>exact Heap.lt_size (show h.get? a=some _ from x)
 | ext φ => obtain ⟨_,⟨_,e⟩,_⟩:=x; exact Heap.lt_size e
theorem Paired.mapP {α β : Type} {F G : α -> β -> Prop}:∀ {l₁ : List α} {l₂ : List β},Paired F l₁ l₂ -> (∀ a b,F a b->G a b)->Paired G l₁ l₂
 | _,_,.nil,_ => .nil
 | _,_,.cons r t,f => .cons (f _ _ r) (Paired.mapP t f)
theorem ObjOk.stay (x:ObjOk P w H h a o) (k:∀ b u,(b=a\/H b=some (.own a))->h.get? b=some u->h'.get? b=some u)
  (ho:∀ b,H b=some (.own a)->H' b=some (.own a)) (ht:∀ b xs,H b=some (.tup xs)->H' b=some (.tup xs)):ObjOk P w H' h' a o:=by
 induction o with
 | lst xs=>obtain ⟨z,its,n,r,e⟩:=x; exact ⟨z,its,n,r,k _ _ (.inl rfl) e⟩
 | tup xs=>obtain ⟨z,its,r,ob,e,c⟩:=x; exact ⟨z,its,r,ob,k _ _ (.inl rfl) e,c⟩
 | dK kvs=>obtain ⟨z,y,vs,r,ob,es,ep,e,c⟩:=x; exact ⟨z,y,vs,r,ob,es,ep,k _ _ (.inl rfl) e,c⟩
 | dT kvs =>
  obtain ⟨z,y,xs,r,ob,es,ep,e,c⟩:=x
  exact ⟨z,y,xs,Paired.mapP r fun p q z=>⟨z.1,ht _ _ z.2.1,z.2.2⟩,ob,es,ep,k _ _ (.inl rfl) e,c⟩
 | set S n=>obtain ⟨ob,es,ep,t,e,c⟩:=x; exact ⟨ob,es,ep,t,k _ _ (.inl rfl) e,c⟩
 | ins C dx fs =>
  obtain ⟨d,z,ne,e,mA,⟨od,es,ep,e2,c⟩,r⟩:=x
  exact ⟨ho _ d,z,ne,k _ _ (.inl rfl) e,mA,⟨od,es,ep,k _ _ (.inr d) e2,c⟩,r⟩
 | own y=>obtain ⟨ob,e⟩:=x; exact ⟨ob,k _ _ (.inl rfl) e⟩
 | xd fs=>obtain ⟨mA,⟨od,es,ep,e,c⟩,r⟩:=x; exact ⟨mA,⟨od,es,ep,k _ _ (.inl rfl) e,c⟩,r⟩
 | rng lo hi=>obtain ⟨t,u,v,e⟩:=x; exact ⟨t,u,v,k _ _ (.inl rfl) e⟩
 | frz ob u ih=>obtain ⟨e,q⟩:=x; exact ⟨k _ _ (.inl rfl) e,ih q⟩
 | tbl ps =>
  have e:h.get? a=some { cls := .none,data := .fields ps }:=x
  show h'.get? a=some { cls := .none,data := .fields ps }
  exact k a _ (.inl rfl) e
 | met f y =>
  have e:h.get? a=some (PySem.W.methodObj (.ref f) (.ref y)):=x
  show h'.get? a=some (PySem.W.methodObj (.ref f) (.ref y))
  exact k a _ (.inl rfl) e
 | ext φ => obtain ⟨p,⟨o,e⟩,st⟩:=x; exact ⟨st _ _ p fun o q=>k _ _ (.inl rfl) q,⟨o,k _ _ (.inl rfl) e⟩,st⟩
theorem HOk.lt (x:HOk P w H h) (e:H a=some o):a < h.objs.size:=(x a o e).lt
theorem HOk.fresh (x:HOk P w H h) (e:h.objs.size<=a):H a=none:=by
 cases q:H a with
 | none=>rfl
 | some u=>exact absurd (Nat.lt_of_lt_of_le (x.lt q) e) (Nat.lt_irrefl _)
theorem HOk.kept (x:HOk P w H h) (k:∀ b u,h.get? b=some u->h'.get? b=some u):HOk P w H h':=fun a o e =>
 (x a o e).stay (fun b u _ q=>k b u q) (fun _ q=>q) fun _ _ q=>q
theorem HOk.laid (x:HOk P w H h) (k:∀ b u,h.get? b=some u->h'.get? b=some u) (hp:h.objs.size<=a) (new:ObjOk P w (upd H a o) h' a o):HOk P w (upd H a o) h':=fun b u e=>by
 have hn:=x.fresh hp
 by_cases hb:b=a
 ·subst hb; rw [zad] at e; cases e; exact new
 ·rw [zai hb] at e
  exact (x b u e).stay (fun c v _ q=>k c v q) (fun c q=>by rw [zai (zaq q hn)]; exact q) fun c xs q=>by rw [zai (zaq q hn)]; exact q
end
noncomputable def Rd (H:Hp) (a:Addr) (u:HO):Prop:=H a=some u\/∃ o,H a=some (.frz o u)
theorem Rd.ok {P:Program} {w:World} {H:Hp} {h:Heap} {a:Addr} {u:HO} (r:Rd H a u) (x:HOk P w H h):ObjOk P w H h a u:=by
 rcases r with r | ⟨o,r⟩
 ·exact x a u r
 ·obtain ⟨_,q⟩:=x a _ r
  exact q
noncomputable def Mut:Option HO->Prop
 | some (.lst _)=>True
 | some (.dK _)=>True
 | some (.dT _)=>True
 | some (.set _ _)=>True
 | some (.ins _ _ _)=>True
 | some (.ext _)=>True
 | _=>False
section
variable {P:Program} {w:World} {H:Hp} {h h':Heap} {x e:Addr} {o':HO}
theorem HOk.write (ok:HOk P w H h) (mu:Mut (H x)) (he:e=x\/H e=some (.own x)) (k:∀ b u,b≠e->h.get? b=some u->h'.get? b=some u) (heo:∃ u,h'.get? e=some u)
  (new:ObjOk P w (upd H x o') h' x o'):HOk P w (upd H x o') h':=fun b u q=>by
 have nown:∀ c y,H c=some (.own y)->c≠x:=fun c y r z=>by subst z; rw [r] at mu; exact mu
 have ntup:∀ c xs,H c=some (.tup xs)->c≠x:=fun c xs r z=>by subst z; rw [r] at mu; exact mu
 by_cases hb:b=x
 ·subst hb; rw [zad] at q; cases q; exact new
 ·rw [zai hb] at q
  by_cases hbe:b=e
  ·have q':H b=some (.own x):=by
    rcases he with z | z
    ·exact absurd (hbe.trans z) hb
    ·rw [hbe]; exact z
   rw [q] at q'; cases q'
   obtain ⟨v,hv⟩:=heo
   exact ⟨v,by rw [hbe]; exact hv⟩
  ·refine (ok b u q).stay (fun c v hc r=>k c v ?_ r) (fun c r=>by rw [zai (nown c b r)]; exact r) fun c xs r=>by rw [zai (ntup c xs r)]; exact r
   rcases hc with rfl | hc
   ·exact hbe
   ·rintro rfl
    rcases he with z | z
    ·exact nown c b hc z
    ·rw [hc] at z; cases z; exact hb rfl
end
structure Un (fs ex:List Addr) (H H':Hp) (h h':Heap):Prop where
 keep:∀ b o,h.get? b=some o->H b=none->b ∉ fs->b ∉ ex->h'.get? b=some o
 slot:∀ b o,h.get? b=some o->H b=none->b∈fs->b ∉ ex->∃ sl,h'.get? b=some { o with slots:=sl }
 free:∀ b o,h.get? b=some o->H b=none->b ∉ ex->H' b=none
 there:∀ b o,h.get? b=some o->b ∉ ex->∃ o',h'.get? b=some o'
 tups:∀ b xs,H b=some (.tup xs)->H' b=some (.tup xs)
 frzs:∀ b o u,H b=some (.frz o u)->H' b=some (.frz o u)
 tbls:∀ b ps,H b=some (.tbl ps)->∃ more,H' b=some (.tbl (ps ++ more))
section
variable {fs fs' ex ex':List Addr} {H H1 H2:Hp} {h h1 h2 h':Heap} {a x e:Addr} {o:HO}
theorem Un.any (u:Un fs ex H H1 h h1) {b:Addr} {ob:Obj} (q:h.get? b=some ob) (n:H b=none) (hx:b ∉ ex):∃ sl,h1.get? b=some { ob with slots:=sl }:=by
 by_cases hb:b∈fs
 ·exact u.slot b ob q n hb hx
 ·exact ⟨ob.slots,u.keep b ob q n hb hx⟩
theorem Un.trans (a:Un fs ex H H1 h h1) (b:Un fs ex H1 H2 h1 h2):Un fs ex H H2 h h2 where
 keep:=fun c ob q n hc hx=>b.keep c ob (a.keep c ob q n hc hx) (a.free c ob q n hx) hc hx
 slot:=fun c ob q n hc hx=>by
  obtain ⟨sl,e1⟩:=a.slot c ob q n hc hx
  obtain ⟨sl',e2⟩:=b.slot c _ e1 (a.free c ob q n hx) hc hx
  exact ⟨sl',e2⟩
 free:=fun c ob q n hx=>by
  obtain ⟨o',e1⟩:=a.there c ob q hx
  exact b.free c o' e1 (a.free c ob q n hx) hx
 there:=fun c ob q hx=>by
  obtain ⟨o',e1⟩:=a.there c ob q hx
  exact b.there c o' e1 hx
 tups:=fun c xs q=>b.tups c xs (a.tups c xs q)
 frzs:=fun c ob xs q=>b.frzs c ob xs (a.frzs c ob xs q)
 tbls:=fun c ps q=>by
  obtain ⟨m1,e1⟩:=a.tbls c ps q
  obtain ⟨m2,e2⟩:=b.tbls c _ e1
  exact ⟨m1 ++ m2,by rw [e2,Array.append_assoc]⟩
theorem Un.kept (k:∀ b u,h.get? b=some u->h'.get? b=some u):Un fs ex H H h h' :=
 ⟨fun b ob q _ _ _=>k b ob q,fun b ob q _ _ _=>⟨ob.slots,k b ob q⟩,fun _ _ _ n _=>n,fun b ob q _=>⟨ob,k b ob q⟩,fun _ _ q=>q,fun _ _ _ q=>q,fun _ ps q=>⟨#[],by rw [q]; simp⟩⟩
theorem Un.refl:Un fs ex H H h h:=Un.kept fun _ _ q=>q
theorem Un.laid (k:∀ b u,h.get? b=some u->h'.get? b=some u) (hp:h.objs.size<=a) (hn:H a=none):Un fs ex H (upd H a o) h h' where
 keep:=fun b u q _ _ _=>k b u q
 slot:=fun b u q _ _ _=>⟨u.slots,k b u q⟩
 free:=fun b u q n _=>by rw [zai (Nat.ne_of_lt (Nat.lt_of_lt_of_le (Heap.lt_size q) hp))]; exact n
 there:=fun b u q _=>⟨u,k b u q⟩
 tups:=fun b xs q=>by rw [zai (zaq q hn)]; exact q
 frzs:=fun b u xs q=>by rw [zai (zaq q hn)]; exact q
 tbls:=fun b ps q=>⟨#[],by rw [zai (zaq q hn),q]; simp⟩
theorem Un.write (mu:Mut (H x)) (he:e=x\/H e=some (.own x)) (k:∀ b u,b≠e->h.get? b=some u->h'.get? b=some u) (heo:∃ u,h'.get? e=some u):Un fs ex H (upd H x o) h h':=by
 have hx:∀ b,H b=none->b≠x:=fun b n z=>by subst z; rw [n] at mu; exact mu
 have hb:∀ b,H b=none->b≠e:=fun b n z=>by
  subst z
  rcases he with r | r
  ·exact hx b n r
  ·rw [n] at r; cases r
 have hm:∀ b u,H b=some u->¬ Mut (some u)->b≠x:=fun b u q nm z=>by subst z; rw [q] at mu; exact nm mu
 refine ⟨fun b u q n _ _=>k b u (hb b n) q,fun b u q n _ _=>⟨u.slots,k b u (hb b n) q⟩,fun b u q n _=>by rw [zai (hx b n)]; exact n,fun b u q _ => ?_,
  fun b xs q=>by rw [zai (hm b _ q fun z=>z)]; exact q,fun b u xs q=>by rw [zai (hm b _ q fun z=>z)]; exact q,fun b ps q=>⟨#[],by rw [zai (hm b _ q fun z=>z),q]; simp⟩⟩
 by_cases hbe:b=e
 ·subst hbe; exact heo
 ·exact ⟨u,k b u hbe q⟩
end
noncomputable def trk (h:Heap) (H:Hp):List Addr:=(List.range h.objs.size).filter fun a=>(H a).isSome
noncomputable def hidT (h:Heap) (H:Hp):Heap:=PySem.W.hideAll h (trk h H)
theorem hidT_size (h:Heap) (H:Hp):(hidT h H).objs.size=h.objs.size:=PySem.W.hideAll_size _ _
theorem hidT_get {h:Heap} {H:Hp} {b:Addr} {o:Obj} (e:h.get? b=some o) (n:H b=none):(hidT h H).get? b=some o :=
 PySem.W.hideAll_get _ e fun hm=>by
  have q:(H b).isSome=true:=(List.mem_filter.mp hm).2
  rw [n] at q; simp at q
theorem of_hidT {h:Heap} {H:Hp} {b:Addr} {o:Obj} (e:(hidT h H).get? b=some o):h.get? b=some o/\H b=none:=by
 have e':h.get? b=some o:=PySem.W.of_hideAll (trk h H) e
 refine ⟨e',?_⟩
 cases q:H b with
 | none=>rfl
 | some x =>
  have hm:b∈trk h H:=List.mem_filter.mpr ⟨List.mem_range.mpr (Heap.lt_size e'),by simp [q]⟩
  have z:(hidT h H).get? b=none:=PySem.W.hideAll_none (trk h H) hm
  rw [z] at e; cases e
noncomputable def allNews (g h:Heap) (L:Addr):List (Addr×Obj):=(List.range h.objs.size).filterMap fun a=>if a=L\/(g.get? a).isSome=true then none else (h.get? a).map fun o=>(a,o)
noncomputable def rest (g h:Heap) (L d:Addr):List (Addr×Obj):=(allNews g h L).filter fun p=>decide (p.1≠d)
end L2
namespace L2
open PySem PySem.Spec PyProof.Rows
structure Mod (K:PySem.W.Frag) (mg:Str->Option Value) (base:Heap):Prop where
 kin:K.In base
 glob:base.Ns mainGlobals mg
 blt:∃ mb,base.Ns builtinsNs mb/\∀ x:Str,x ≠ "__name__" -> mb x=bootBuiltins x
 nolimit:base.NoLimit
structure Cx where
 prog:Program
 w:World
 K:PySem.W.Frag
 mg:Str->Option Value
 base:Heap
 A:Around
 N:List Str
 s₀ : Shared
 H₀ : Hp
 env:Env
 outer:List Env
 stack:List Env
 ex:List Addr
 fn:Str->Bool
 calm:Bool
 pn:List (Addr×Obj)
 xe:Value->Shared->Prop
noncomputable def frs (l:List Env):List Addr:=l.filterMap (·.frame)
noncomputable abbrev Cx.fs (X:Cx):List Addr:=frs X.outer
noncomputable def Vis (sc:Scope) (x:Str):Prop:=sc.names.lookup x=some .local\/sc.names.lookup x=some .cell\/sc.names.lookup x=some .free
noncomputable def Loc (sc:Scope) (x:Str):Prop:=sc.names.lookup x=some .local\/sc.names.lookup x=some .cell
noncomputable def Look (env:Env) (h:Heap) (m:Str->Option Value) (x:Str) (u:Value):Prop :=
 (env.kindOf x=some .local/\m x=some u)\/((env.kindOf x=some .cell\/env.kindOf x=some .free)/\∃ c,env.cells.lookup x=some c/\h.IsCell c (some u))
structure Cx.Ok (X:Cx):Prop where
 mod:Mod X.K X.mg X.base
 kind:X.env.scope.kind = .function
 glob:X.env.globals=mainGlobals
 blt:X.env.builtins=builtinsNs
 above:X.s₀.heap.objs.size<=X.env.locals
 inj:∀ x y c,X.env.cells.lookup x=some c->X.env.cells.lookup y=some c->x=y
 has:∀ x,(X.env.kindOf x=some .cell\/X.env.kindOf x=some .free)->∃ c,X.env.cells.lookup x=some c
 cab:∀ x c,X.fn x=true->X.env.cells.lookup x=some c->X.s₀.heap.objs.size<=c
 hd:X.calm=true->X.A.handled=none
 frames:X.A.frames=some X.stack
 stk:X.stack=X.outer\/(X.stack=X.env :: X.outer/\X.env.frame=some X.env.locals)
 exf:∀ b∈X.ex,b≠X.env.locals/\∀ x c,X.env.cells.lookup x=some c->c≠b
 bs:∀ b o,X.base.get? b=some o->X.s₀.heap.get? b=some o/\X.H₀ b=none
 bsz:X.base.objs.size<=X.s₀.heap.objs.size
 noex:∀ b o,X.base.get? b=some o->b ∉ X.ex
 exfs:∀ b∈X.ex,b ∉ X.fs
 funs:X.s₀.heap.FunFrames X.base X.outer
 frf:∀ b∈X.fs,X.H₀ b=none
structure Inv (X:Cx) (pins:List (Addr×Obj)) (σ : List (Option V)) (H:Hp) (s:Shared):Prop where
 ok:X.Ok
 os:s.os=X.s₀.os
 bare:AllBare s.gens
 base:Un X.fs X.ex X.H₀ H X.s₀.heap s.heap
 loc:∃ m,s.heap.Ns X.env.locals m/\∀ (i:Nat) (x:Str) (v:V),X.N[i]?=some x -> σ[i]?=some (some v)->Vis X.env.scope x->∃ u,RelV v u/\Look X.env s.heap m x u
 cell:∀ x c,X.env.cells.lookup x=some c->∃ v,s.heap.IsCell c v
 free:H X.env.locals=none
 freeC:∀ x c,X.env.cells.lookup x=some c->H c=none
 pin:∀ p∈X.pn ++ pins,s.heap.get? p.1=some p.2/\H p.1=none/\p.1≠X.env.locals/\p.1 ∉ X.fs/\∀ v,p.2.data ≠ .cell v
 hok:HOk X.prog X.w H s.heap
 len : σ.length=X.N.length
section
variable {X:Cx} {pins:List (Addr×Obj)} {σ : List (Option V)} {H H':Hp} {s:Shared} {h':Heap}
theorem Cx.Ok.nofr (ok:X.Ok) {b:Addr} {o:Obj} (e:X.base.get? b=some o):b ∉ X.fs:=fun hb=>by
 have:=(ok.funs.mem hb).1
 rw [e] at this; cases this
theorem Inv.bs (I:Inv X pins σ H s):∀ b o,X.base.get? b=some o->s.heap.get? b=some o/\H b=none:=fun b o e =>
 ⟨I.base.keep b o (I.ok.bs b o e).1 (I.ok.bs b o e).2 (I.ok.nofr e) (I.ok.noex b o e),I.base.free b o (I.ok.bs b o e).1 (I.ok.bs b o e).2 (I.ok.noex b o e)⟩
theorem Inv.bk (I:Inv X pins σ H s):∀ b o,X.base.get? b=some o->s.heap.get? b=some o:=fun b o e=>(I.bs b o e).1
theorem Inv.mod (I:Inv X pins σ H s):Mod X.K X.mg X.base:=I.ok.mod
theorem Inv.kIn (I:Inv X pins σ H s):X.K.In s.heap:=I.ok.mod.kin.keeps I.bk
theorem Inv.fr (I:Inv X pins σ H s):∃ m,Fr X.base X.env.locals s.heap m :=
 let ⟨m,hn,_⟩:=I.loc
 ⟨m,hn,I.bk,Nat.le_trans I.ok.bsz I.ok.above⟩
theorem Inv.lt (I:Inv X pins σ H s):X.env.locals < s.heap.objs.size:=let ⟨_,hn,_⟩:=I.loc; hn.lt
theorem Inv.sz (I:Inv X pins σ H s):X.s₀.heap.objs.size<=s.heap.objs.size:=Nat.le_trans I.ok.above (Nat.le_of_lt I.lt)
theorem Inv.nofs (I:Inv X pins σ H s) {a:Addr} (h:s.heap.objs.size<=a):a ∉ X.fs:=fun hb=>by
 obtain ⟨_,o,ho,_⟩:=I.ok.funs.mem hb
 exact absurd (Nat.lt_of_lt_of_le (Heap.lt_size ho) (Nat.le_trans I.sz h)) (Nat.lt_irrefl _)
theorem Inv.cne (I:Inv X pins σ H s):∀ x c,X.env.cells.lookup x=some c->c≠X.env.locals:=fun x c e z=>by
 obtain ⟨v,o,ho,hd⟩:=I.cell x c e
 obtain ⟨m,⟨o',es,ep,ho',hd',_⟩,_⟩:=I.loc
 rw [z,ho'] at ho; cases ho; rw [hd'] at hd; cases hd
theorem Inv.funs (I:Inv X pins σ H s):s.heap.FunFrames X.base X.outer:=by
 have all:∀ (l:List Env),(∀ b∈frs l,b∈X.fs)->X.s₀.heap.FunFrames X.base l->s.heap.FunFrames X.base l:=by
  intro l
  induction l with
  | nil=>intro _ _; trivial
  | cons env r ih =>
   intro hs hl
   obtain ⟨hk,⟨L,o,hf,hn,ho,hd⟩,hr⟩:=hl
   have hL:L∈X.fs:=hs L (by unfold frs; rw [List.filterMap_cons,hf]; exact List.mem_cons_self)
   obtain ⟨sl,e⟩:=I.base.slot L o ho (I.ok.frf L hL) hL fun z=>I.ok.exfs L z hL
   exact ⟨hk,⟨L,_,hf,hn,e,hd⟩,ih (fun b hb=>hs b (by unfold frs; rw [List.filterMap_cons,hf]; exact List.mem_cons_of_mem _ hb)) hr⟩
 exact all X.outer (fun _ hb=>hb) I.ok.funs
theorem Inv.stack (I:Inv X pins σ H s):s.heap.FunFrames X.base X.stack:=by
 rcases I.ok.stk with e | ⟨e,hf⟩
 ·rw [e]; exact I.funs
 ·rw [e]
  obtain ⟨m,hn,_⟩:=I.loc
  refine .cons (by rw [I.ok.kind]; decide) hf hn ?_ I.funs
  exact Heap.get?_none_of_le (Nat.le_trans I.ok.bsz I.ok.above)
theorem Inv.stkSub (I:Inv X pins σ H s):∀ b∈frs X.stack,b∈X.env.locals :: X.fs:=fun b hb=>by
 rcases I.ok.stk with e | ⟨e,hf⟩
 ·rw [e] at hb; exact List.mem_cons_of_mem _ hb
 ·rw [e] at hb
  unfold frs at hb
  rw [List.filterMap_cons,hf] at hb
  exact hb
theorem Inv.stkFree (I:Inv X pins σ H s):∀ b∈frs X.stack,H b=none:=fun b hb=>by
 rcases List.mem_cons.mp (I.stkSub b hb) with e | hb
 ·rw [e]; exact I.free
 ·obtain ⟨_,o,ho,_⟩:=I.ok.funs.mem hb
  exact I.base.free b o ho (I.ok.frf b hb) fun z=>I.ok.exfs b z hb
theorem Inv.step {g':Array GenState} {t':Nat} {d':Drawn} {ch:List Addr} (I:Inv X pins σ H s)
  (hch:∀ b∈ch,(b∈X.ex\/X.s₀.heap.objs.size<=b)/\b≠X.env.locals/\(∀ x c,X.env.cells.lookup x=some c->c≠b)/\∀ p∈X.pn ++ pins,p.1≠b)
  (keep:∀ b o,b≠X.env.locals->b ∉ X.fs->b ∉ ch->s.heap.get? b=some o->H b=none->h'.get? b=some o)
  (slot:∀ b o,b≠X.env.locals->b∈X.fs->b ∉ ch->s.heap.get? b=some o->H b=none->∃ sl,h'.get? b=some { o with slots:=sl }) (free:∀ b o,b ∉ ch->s.heap.get? b=some o->H b=none->H' b=none)
  (there:∀ b o,b ∉ ch->s.heap.get? b=some o->∃ o',h'.get? b=some o')
  (tups:∀ b xs,H b=some (.tup xs)->H' b=some (.tup xs)) (frzs:∀ b o u,H b=some (.frz o u)->H' b=some (.frz o u)) (tbls:∀ b ps,H b=some (.tbl ps)->∃ more,H' b=some (.tbl (ps ++ more)))
  (ns:∀ m,s.heap.Ns X.env.locals m->h'.Ns X.env.locals m) (hok:HOk X.prog X.w H' h') (hg:AllBare g') :
  Inv X pins σ H' { s with heap:=h',gens:=g',drawn:=d',toks:=t' }:=by
 have neL:∀ b o,X.s₀.heap.get? b=some o->b≠X.env.locals:=fun b o e=>Nat.ne_of_lt (Nat.lt_of_lt_of_le (Heap.lt_size e) I.ok.above)
 have neC:∀ b o,X.s₀.heap.get? b=some o->b ∉ X.ex->b ∉ ch:=fun b o e hx hb=>by
  rcases (hch b hb).1 with z | z
  ·exact hx z
  ·exact absurd (Nat.lt_of_lt_of_le (Heap.lt_size e) z) (Nat.lt_irrefl _)
 have cellK:∀ x c,X.env.cells.lookup x=some c->∀ v,s.heap.IsCell c v->h'.IsCell c v:=fun x c e v ⟨o,ho,hd⟩=>by
  have nch:c ∉ ch:=fun z=>(hch c z).2.2.1 x c e rfl
  by_cases hc:c∈X.fs
  ·obtain ⟨sl,q⟩:=slot c o (I.cne x c e) hc nch ho (I.freeC x c e)
   exact ⟨_,q,hd⟩
  ·exact ⟨o,keep c o (I.cne x c e) hc nch ho (I.freeC x c e),hd⟩
 refine ⟨I.ok,I.os,hg,⟨fun b o e n hb hx => ?_,fun b o e n hb hx => ?_,fun b o e n hx => ?_,fun b o e hx => ?_,fun b xs e=>tups b xs (I.base.tups b xs e),fun b o xs e=>frzs b o xs (I.base.frzs b o xs e),fun b ps e => ?_⟩,?_,fun x c e => ?_,?_,fun x c e => ?_,fun p hp => ?_,hok,I.len⟩
 ·exact keep b o (neL b o e) hb (neC b o e hx) (I.base.keep b o e n hb hx) (I.base.free b o e n hx)
 ·obtain ⟨sl,e1⟩:=I.base.slot b o e n hb hx
  obtain ⟨sl',e2⟩:=slot b _ (neL b o e) hb (neC b o e hx) e1 (I.base.free b o e n hx)
  exact ⟨sl',e2⟩
 ·obtain ⟨o',e1⟩:=I.base.there b o e hx
  exact free b o' (neC b o e hx) e1 (I.base.free b o e n hx)
 ·obtain ⟨o',e1⟩:=I.base.there b o e hx
  exact there b o' (neC b o e hx) e1
 ·obtain ⟨m1,e1⟩:=I.base.tbls b ps e
  obtain ⟨m2,e2⟩:=tbls b _ e1
  exact ⟨m1 ++ m2,by rw [e2,Array.append_assoc]⟩
 ·obtain ⟨m,hn,hl⟩:=I.loc
  refine ⟨m,ns m hn,fun i x v e1 e2 e3 => ?_⟩
  obtain ⟨u,r,l⟩:=hl i x v e1 e2 e3
  refine ⟨u,r,?_⟩
  rcases l with l | ⟨k,c,e,z⟩
  ·exact .inl l
  ·exact .inr ⟨k,c,e,cellK x c e _ z⟩
 ·obtain ⟨v,z⟩:=I.cell x c e
  exact ⟨v,cellK x c e v z⟩
 ·obtain ⟨m,⟨o,_,_,ho,_⟩,_⟩:=I.loc
  exact free _ o (fun z=>(hch _ z).2.1 rfl) ho I.free
 ·obtain ⟨v,o,ho,hd⟩:=I.cell x c e
  exact free c o (fun z=>(hch c z).2.2.1 x c e rfl) ho (I.freeC x c e)
 ·obtain ⟨e,n,ne,nf,d⟩:=I.pin p hp
  have nch:p.1 ∉ ch:=fun z=>(hch p.1 z).2.2.2 p hp rfl
  exact ⟨keep p.1 p.2 ne nf nch e n,free p.1 p.2 nch e n,ne,nf,d⟩
theorem Inv.un {t':Nat} (I:Inv X pins σ H s) (u:Un X.fs [] H H' s.heap h') (hok:HOk X.prog X.w H' h'):Inv X pins σ H' { s with heap:=h',toks:=t' }:=by
 obtain ⟨m,⟨o,es,ep,ho,r⟩,_⟩:=id I.loc
 obtain ⟨sl,hL⟩:=u.any ho I.free (by simp)
 exact I.step (g':=s.gens) (d':=s.drawn) (ch := []) (fun _ z=>nomatch z) (fun b o _ hb _ e n=>u.keep b o e n hb (by simp)) (fun b o _ hb _ e n=>u.slot b o e n hb (by simp)) (fun b o _ e n=>u.free b o e n (by simp)) (fun b o _ e=>u.there b o e (by simp)) u.tups u.frzs u.tbls (fun m' hm=>by
  obtain ⟨o',es',ep',ho',r'⟩:=hm
  rw [ho] at ho'; cases ho'
  exact ⟨_,es',ep',hL,r'⟩) hok I.bare
theorem Inv.call {g':Array GenState} {t':Nat} {d':Drawn} {ch:List Addr} (I:Inv X pins σ H s) (u:Un (frs X.stack) ch H H' s.heap h') (hok:HOk X.prog X.w H' h') (hg:AllBare g')
  (hch:∀ b∈ch,(b∈X.ex\/X.s₀.heap.objs.size<=b)/\b≠X.env.locals/\(∀ x c,X.env.cells.lookup x=some c->c≠b)/\∀ p∈X.pn ++ pins,p.1≠b) :
  Inv X pins σ H' { s with heap:=h',gens:=g',drawn:=d',toks:=t' }:=by
 obtain ⟨m,⟨o,es,ep,ho,r⟩,_⟩:=id I.loc
 obtain ⟨sl,hL⟩:=u.any ho I.free fun z=>(hch _ z).2.1 rfl
 exact I.step (ch:=ch) hch (fun b o hL hb hc e n=>u.keep b o e n (fun z=>(List.mem_cons.mp (I.stkSub b z)).elim hL hb) hc) (fun b o _ _ hc e n=>u.any e n hc) (fun b o hc e n=>u.free b o e n hc) (fun b o hc e=>u.there b o e hc) u.tups u.frzs u.tbls (fun m' hm=>by
  obtain ⟨o',es',ep',ho',r'⟩:=hm
  rw [ho] at ho'; cases ho'
  exact ⟨_,es',ep',hL,r'⟩) hok hg
theorem Inv.turned {t':Nat} {it:Addr} (I:Inv X pins σ H s) (k:∀ b o,b≠it->s.heap.get? b=some o->h'.get? b=some o) (hn:H it=none) (hL:it≠X.env.locals)
  (h1:it∈X.ex\/X.s₀.heap.objs.size<=it) (h2:∀ x c,X.env.cells.lookup x=some c->c≠it) (h3:∀ p∈X.pn ++ pins,p.1≠it):Inv X pins σ H { s with heap:=h',toks:=t' }:=by
 have nit:∀ b u,H b=some u->b≠it:=fun b u e z=>by rw [z,hn] at e; cases e
 refine I.step (g':=s.gens) (d':=s.drawn) (ch := [it]) (fun b hb => ?_) (fun b o _ _ hc e _=>k b o (fun z=>hc (by simp [z])) e) (fun b o _ _ hc e _=>⟨o.slots,k b o (fun z=>hc (by simp [z])) e⟩) (fun _ _ _ _ n=>n)
  (fun b o hc e=>⟨o,k b o (fun z=>hc (by simp [z])) e⟩) (fun _ _ e=>e) (fun _ _ _ e=>e) (fun b ps e=>⟨#[],by rw [e]; simp⟩) (fun m hm => ?_) (fun b u e => ?_) I.bare
 ·have e:b=it:=by simpa using hb
  subst e
  exact ⟨h1,hL,h2,h3⟩
 ·obtain ⟨o,es,ep,ho,r⟩:=hm
  exact ⟨o,es,ep,k _ o (Ne.symm hL) ho,r⟩
 ·refine (I.hok b u e).stay (fun c v hc q=>k c v ?_ q) (fun _ q=>q) fun _ _ q=>q
  rcases hc with z | z
  ·rw [z]; exact nit b u e
  ·exact nit c _ z
theorem Inv.tok (I:Inv X pins σ H s) (t:Nat):Inv X pins σ H { s with toks:=t }:=I.un (h':=s.heap) (t':=t) Un.refl I.hok
theorem Inv.kept {t':Nat} (I:Inv X pins σ H s) (k:∀ b u,s.heap.get? b=some u->h'.get? b=some u):Inv X pins σ H { s with heap:=h',toks:=t' }:=I.un (Un.kept k) (I.hok.kept k)
theorem Inv.laid {a:Addr} {o:HO} {t':Nat} (I:Inv X pins σ H s) (k:∀ b u,s.heap.get? b=some u->h'.get? b=some u) (hp:s.heap.objs.size<=a) (new:ObjOk X.prog X.w (upd H a o) h' a o) :
  Inv X pins σ (upd H a o) { s with heap:=h',toks:=t' }:=I.un (Un.laid k hp (I.hok.fresh hp)) (I.hok.laid k hp new)
theorem Inv.write {x e:Addr} {o:HO} {t':Nat} (I:Inv X pins σ H s) (mu:Mut (H x)) (he:e=x\/H e=some (.own x)) (k:∀ b u,b≠e->s.heap.get? b=some u->h'.get? b=some u) (heo:∃ u,h'.get? e=some u)
  (new:ObjOk X.prog X.w (upd H x o) h' x o):Inv X pins σ (upd H x o) { s with heap:=h',toks:=t' }:=I.un (Un.write mu he k heo) (I.hok.write mu he k heo new)
theorem Inv.weak {σ':List (Option V)} (I:Inv X pins σ H s) (hl : σ'.length = σ.length) (w:∀ (i:Nat) v,σ'[i]?=some (some v) -> σ[i]?=some (some v)):Inv X pins σ' H s :=
 ⟨I.ok,I.os,I.bare,I.base,let ⟨m,hn,hl'⟩:=I.loc; ⟨m,hn,fun i x v e1 e2 e3=>hl' i x v e1 (w i v e2) e3⟩,I.cell,I.free,I.freeC,I.pin,I.hok,hl.trans I.len⟩
theorem Inv.pins_of {pins':List (Addr×Obj)} (I:Inv X pins σ H s) (h:∀ p∈pins',s.heap.get? p.1=some p.2/\H p.1=none/\p.1≠X.env.locals/\p.1 ∉ X.fs/\∀ v,p.2.data ≠ .cell v):Inv X pins' σ H s :=
 ⟨I.ok,I.os,I.bare,I.base,I.loc,I.cell,I.free,I.freeC,fun p hp=>(List.mem_append.mp hp).elim (fun z=>I.pin p (List.mem_append_left _ z)) (h p),I.hok,I.len⟩
theorem zfx {N:List Str} (hN:N.Nodup) {i j:Nat} {x:Str} (a:N[i]?=some x) (b:N[j]?=some x):i=j:=by
 obtain ⟨h1,e1⟩:=List.getElem?_eq_some_iff.mp a
 obtain ⟨h2,e2⟩:=List.getElem?_eq_some_iff.mp b
 exact (List.getElem_inj hN).mp (e1.trans e2.symm)
theorem zen {M:Model} {A:Around} {E:Value->Shared->Prop} {i:Nat} {x:Str} {v:V} {u:Value} {Q:Unit->Shared->Prop} (I:Inv X pins σ H s) (hN:X.N.Nodup) (hi:X.N[i]?=some x) (hx:Loc X.env.scope x) (r:RelV v u)
  (h:∀ s',Inv X pins (σ.set i (some v)) H s'->(∃ a,Heap.SameBut a s.heap s'.heap/\(a=X.env.locals\/X.env.cells.lookup x=some a))->Q () s') (hf:X.fn x=true\/X.env.scope.names.lookup x=some .local:=by first | exact .inl rfl | exact .inr rfl | assumption):wpAny M A (storeName X.env x u) Q E s:=by
 obtain ⟨m,hn,hl⟩:=id I.loc
 have hcls:(X.env.scope.kind == .class || (X.env.scope.kind == .module && X.env.locals != X.env.globals))=false:=by rw [I.ok.kind]; rfl
 have hiσ : i < σ.length:=by rw [I.len]; exact (List.getElem?_eq_some_iff.mp hi).1
 have cne:=I.cne
 have tracked:∀ {a:Addr} {h':Heap},(∃ o,s.heap.get? a=some o/\H a=none)->Heap.SameBut a s.heap h'->HOk X.prog X.w H h':=fun {a h'} ha hs b ob e=>by
  obtain ⟨_,_,hfree⟩:=ha
  refine (I.hok b ob e).stay (fun c w' hc q=>(hs.2 c ?_).trans q) (fun _ q=>q) fun _ _ q=>q
  rintro rfl
  rcases hc with rfl | hc
  ·rw [hfree] at e; cases e
  ·rw [hfree] at hc; cases hc
 rcases hx with hk | hk
 ·refine wpAny_storeName_local hk hn (fun h' hn' hs => ?_) hcls
  obtain ⟨oL,_,_,hoL,_⟩:=id hn
  refine h _ ⟨I.ok,I.os,I.bare,⟨fun b o e n hb hx => ?_,fun b o e n hb hx => ?_,I.base.free,fun b o e hx => ?_,I.base.tups,I.base.frzs,I.base.tbls⟩,⟨_,hn',fun j y v' e1 e2 e3 => ?_⟩,fun y c e => ?_,I.free,I.freeC,fun p hp => ?_,tracked ⟨oL,hoL,I.free⟩ hs,by simpa using I.len⟩ ⟨_,hs,.inl rfl⟩
  ·exact (hs.2 b (Nat.ne_of_lt (Nat.lt_of_lt_of_le (Heap.lt_size e) I.ok.above))).trans (I.base.keep b o e n hb hx)
  ·obtain ⟨sl,e1⟩:=I.base.slot b o e n hb hx
   exact ⟨sl,(hs.2 b (Nat.ne_of_lt (Nat.lt_of_lt_of_le (Heap.lt_size e) I.ok.above))).trans e1⟩
  ·obtain ⟨o',e1⟩:=I.base.there b o e hx
   exact ⟨o',(hs.2 b (Nat.ne_of_lt (Nat.lt_of_lt_of_le (Heap.lt_size e) I.ok.above))).trans e1⟩
  ·by_cases hj:j=i
   ·subst hj
    rw [hi] at e1; cases e1
    rw [List.getElem?_set_self hiσ] at e2
    cases e2
    exact ⟨u,r,.inl ⟨hk,by simp⟩⟩
   ·rw [List.getElem?_set_ne (Ne.symm hj)] at e2
    obtain ⟨u',r',q⟩:=hl j y v' e1 e2 e3
    refine ⟨u',r',?_⟩
    rcases q with ⟨k,e⟩ | ⟨k,c,e,z⟩
    ·refine .inl ⟨k,?_⟩
     have:y≠x:=fun e=>hj (zfx hN e1 (e ▸ hi))
     simp [this,e]
    ·exact .inr ⟨k,c,e,z.sameBut hs (cne y c e)⟩
  ·obtain ⟨w',z⟩:=I.cell y c e
   exact ⟨w',z.sameBut hs (cne y c e)⟩
  ·obtain ⟨e,n,ne,nf,d⟩:=I.pin p hp
   exact ⟨(hs.2 p.1 ne).trans e,n,ne,nf,d⟩
 ·have hfn:X.fn x=true:=by
   rcases hf with z | z
   ·exact z
   ·rw [z] at hk; cases hk
  obtain ⟨c,hc⟩:=I.ok.has x (.inl hk)
  obtain ⟨w',z⟩:=I.cell x c hc
  refine wpAny_storeName_cell I.ok.kind hk hc z (fun h' hc' hs => ?_)
  obtain ⟨oc,hoc,hocd⟩:=id z
  refine h { s with heap:=h' } ⟨I.ok,I.os,I.bare,⟨fun b o e n hb hx => ?_,fun b o e n hb hx => ?_,I.base.free,fun b o e hx => ?_,I.base.tups,I.base.frzs,I.base.tbls⟩,⟨m,hn.sameBut hs (Ne.symm (cne x c hc)),fun j y v' e1 e2 e3 => ?_⟩,fun y c' e => ?_,I.free,I.freeC,fun p hp => ?_,tracked ⟨oc,hoc,I.freeC x c hc⟩ hs,by simpa using I.len⟩ ⟨c,hs,.inr hc⟩
  ·exact (hs.2 b (Nat.ne_of_lt (Nat.lt_of_lt_of_le (Heap.lt_size e) (I.ok.cab x c hfn hc)))).trans (I.base.keep b o e n hb hx)
  ·obtain ⟨sl,e1⟩:=I.base.slot b o e n hb hx
   exact ⟨sl,(hs.2 b (Nat.ne_of_lt (Nat.lt_of_lt_of_le (Heap.lt_size e) (I.ok.cab x c hfn hc)))).trans e1⟩
  ·obtain ⟨o',e1⟩:=I.base.there b o e hx
   exact ⟨o',(hs.2 b (Nat.ne_of_lt (Nat.lt_of_lt_of_le (Heap.lt_size e) (I.ok.cab x c hfn hc)))).trans e1⟩
  ·by_cases hj:j=i
   ·subst hj
    rw [hi] at e1; cases e1
    rw [List.getElem?_set_self hiσ] at e2
    cases e2
    exact ⟨u,r,.inr ⟨.inl hk,c,hc,hc'⟩⟩
   ·rw [List.getElem?_set_ne (Ne.symm hj)] at e2
    obtain ⟨u',r',q⟩:=hl j y v' e1 e2 e3
    refine ⟨u',r',?_⟩
    rcases q with q | ⟨k,c',e,z'⟩
    ·exact .inl q
    ·refine .inr ⟨k,c',e,z'.sameBut hs ?_⟩
     rintro rfl
     exact hj (zfx hN e1 (I.ok.inj _ _ _ e hc ▸ hi))
  ·by_cases hcc:c'=c
   ·subst hcc; exact ⟨_,hc'⟩
   ·obtain ⟨w2,z2⟩:=I.cell y c' e
    exact ⟨w2,z2.sameBut hs hcc⟩
  ·obtain ⟨e,n,ne,nf,d⟩:=I.pin p hp
   refine ⟨(hs.2 p.1 ?_).trans e,n,ne,nf,d⟩
   intro q
   rw [q,hoc] at e
   have q':oc=p.2:=Option.some.inj e
   exact d w' (by rw [<- q']; exact hocd)
theorem zd0 {M:Model} {A:Around} {E:Value->Shared->Prop} {i:Nat} {x:Str} {v:V} {u:Value} {Q:Unit->Shared->Prop} (I:Inv X pins σ H s) (hN:X.N.Nodup) (hi:X.N[i]?=some x) (hx:Loc X.env.scope x) (r:RelV v u)
  (h:∀ s',Inv X pins (σ.set i (some v)) H s'->Q () s') (hf:X.fn x=true\/X.env.scope.names.lookup x=some .local:=by first | exact .inl rfl | exact .inr rfl | assumption):wpAny M A (storeName X.env x u) Q E s :=
 zen I hN hi hx r (fun s' I' _=>h s' I') hf
theorem Inv.call' {s':Shared} {ch:List Addr} (I:Inv X pins σ H s) (ho:s'.os=s.os) (u:Un (frs X.stack) ch H H' s.heap s'.heap) (hok:HOk X.prog X.w H' s'.heap) (hg:AllBare s'.gens)
  (hch:∀ b∈ch,(b∈X.ex\/X.s₀.heap.objs.size<=b)/\b≠X.env.locals/\(∀ x c,X.env.cells.lookup x=some c->c≠b)/\∀ p∈X.pn ++ pins,p.1≠b):Inv X pins σ H' s':=by
 obtain ⟨h',g',d',t',o'⟩:=s'
 have e:o'=s.os:=ho
 subst e
 exact I.call (g':=g') (t':=t') (d':=d') u hok hg hch
end
noncomputable abbrev XK:=Value->Option Addr->Hp->Prop
noncomputable abbrev St:=List (Option V)
noncomputable abbrev VK:=V->Hp->Prop
noncomputable abbrev TE:=St->Hp->VK->Prop
noncomputable abbrev TT:=St->Hp->(Bool->Hp->Prop)->Prop
noncomputable abbrev TA:=St->Hp->(List V->Hp->Prop)->Prop
structure Ends where
 nx:St->Hp->Prop
 rt:VK
 bk:St->Hp->Prop:=fun _ _=>False
 ct:St->Hp->Prop:=fun _ _=>False
noncomputable abbrev TS:=Ends->St->Hp->Prop
noncomputable def EP (X:Cx) (pins:List (Addr×Obj)) (σ : St) (Q:VK) (u:Value) (s':Shared):Prop:=∃ v H',Inv X pins σ H' s'/\RelV v u/\Q v H'
noncomputable def TP (X:Cx) (pins:List (Addr×Obj)) (σ : St) (Q:Bool->Hp->Prop) (b:Bool) (s':Shared):Prop:=∃ H',Inv X pins σ H' s'/\Q b H'
noncomputable def AP (X:Cx) (pins:List (Addr×Obj)) (σ : St) (Q:List V->Hp->Prop) (us:List Value) (s':Shared):Prop:=∃ vs H',Inv X pins σ H' s'/\Vals vs us/\Q vs H'
noncomputable def SP (X:Cx) (pins:List (Addr×Obj)) (D:Ends) (f:Flow) (s':Shared):Prop :=
 match f with
 | .next=>∃ σ' H',Inv X pins σ' H' s'/\D.nx σ' H'
 | .brk=>∃ σ' H',Inv X pins σ' H' s'/\D.bk σ' H'
 | .cont=>∃ σ' H',Inv X pins σ' H' s'/\D.ct σ' H'
 | .ret u=>∃ v σ' H',Inv X pins σ' H' s'/\RelV v u/\D.rt v H'
noncomputable def PE (X:Cx) (e:Expr) (t:TE):Prop :=
 ∀ (pins:List (Addr×Obj)) (s:Shared) (σ : St) (H:Hp) (Q:VK),Inv X pins σ H s->t σ H Q->wpAny (model X.prog X.w) X.A (eval e X.env) (EP X pins σ Q) X.xe s
noncomputable def PT (X:Cx) (e:Expr) (t:TT):Prop :=
 ∀ (pins:List (Addr×Obj)) (s:Shared) (σ : St) (H:Hp) (Q:Bool->Hp->Prop),Inv X pins σ H s->t σ H Q->wpAny (model X.prog X.w) X.A (isTrue e X.env (eval e X.env)) (TP X pins σ Q) X.xe s
noncomputable def PW (X:Cx) (e:Expr) (t:TT):Prop :=
 ∀ (whole:Sem Value) (pins:List (Addr×Obj)) (s:Shared) (σ : St) (H:Hp) (Q:Bool->Hp->Prop),Inv X pins σ H s->t σ H Q->wpAny (model X.prog X.w) X.A (isTrue e X.env whole) (TP X pins σ Q) X.xe s
theorem PW.pt {X:Cx} {e:Expr} {t:TT} (h:PW X e t):PT X e t:=h _
noncomputable def PA (X:Cx) (es:List Expr) (t:TA):Prop :=
 ∀ (pos:Pos) (pins:List (Addr×Obj)) (s:Shared) (σ : St) (H:Hp) (Q:List V->Hp->Prop),Inv X pins σ H s->t σ H Q->wpAny (model X.prog X.w) X.A (spliced (backTo pos (starEach es X.env))) (AP X pins σ Q) X.xe s
noncomputable def PS (X:Cx) (st:Stmt) (t:TS):Prop :=
 ∀ (pins:List (Addr×Obj)) (s:Shared) (σ : St) (H:Hp) (D:Ends),Inv X pins σ H s->t D σ H->wpAny (model X.prog X.w) X.A (exec st X.env) (SP X pins D) X.xe s
noncomputable def PSs (X:Cx) (st:List Stmt) (t:TS):Prop :=
 ∀ (pins:List (Addr×Obj)) (s:Shared) (σ : St) (H:Hp) (D:Ends),Inv X pins σ H s->t D σ H->wpAny (model X.prog X.w) X.A (execs st X.env) (SP X pins D) X.xe s
theorem thn {α : Type} {t:Sem α} {Q Q' : α -> Shared->Prop} {M:Model} {A:Around} {E:Value->Shared->Prop} {s:Shared} (h:wpAny M A t Q E s) (hQ:∀ a s,Q a s->Q' a s):wpAny M A t Q' E s:=wpAny_mono h hQ fun _ _ x=>x
end L2
namespace L2
open PySem PySem.Spec PyProof.Rows
section
variable {X:Cx}
theorem bin {a b:Expr} {ta tb:TE} (ha:PE X a ta) (hb:PE X b tb) {pins:List (Addr×Obj)} {s:Shared} {σ : St} {H:Hp} {R:V->V->Hp->Prop} (I:Inv X pins σ H s) (h:ta σ H fun x H1=>tb σ H1 fun y H2=>R x y H2)
  {α : Type} {Q : α -> Shared->Prop} {f:Value->Value->Sem α}
  (hf:∀ v u s2 x y H2,Inv X pins σ H2 s2->RelV x v->RelV y u->R x y H2->wpAny (model X.prog X.w) X.A (f v u) Q X.xe s2) :
  wpAny (model X.prog X.w) X.A (eval a X.env) (fun v s₁ => wpAny (model X.prog X.w) X.A (eval b X.env) (fun u s₂ => wpAny (model X.prog X.w) X.A (f v u) Q X.xe s₂) X.xe s₁) X.xe s:=by
 refine thn (ha pins s σ H _ I h) fun v s1 ⟨x,H1,I1,r1,q1⟩ => ?_
 refine thn (hb pins s1 σ H1 _ I1 q1) fun u s2 ⟨y,H2,I2,r2,q2⟩ => ?_
 exact hf v u s2 x y H2 I2 r1 r2 q2
noncomputable def tVar (i:Nat):TE:=fun σ H Q=>∃ v,σ[i]?=some (some v)/\Q v H
noncomputable def tC (v:V):TE:=fun _ H Q=>Q v H
theorem pe_var {i:Nat} {x:Str} {pos:Pos} (hN:X.N[i]?=some x) (hv:Vis X.env.scope x) (hd:(x == ("__debug__" : Str))=false:=by decide) (hcd:(x == ("__classdict__" : Str))=false:=by decide):PE X (.Name x pos) (tVar i):=by
 intro pins s σ H Q I h
 obtain ⟨v,e,h⟩:=h
 obtain ⟨m,hn,hl⟩:=I.loc
 obtain ⟨u,r,l⟩:=hl i x v hN e hv
 have fin:EP X pins σ Q u s:=⟨v,H,I,r,h⟩
 rcases l with ⟨hk,hm⟩ | ⟨hk,c,hc,hcell⟩
 ·exact wpAny_Name (wpAny_loadName_local I.ok.kind hk hn hm fin) hd
 ·rcases hk with hk | hk
  ·exact wpAny_Name (wpAny_loadName_cell I.ok.kind hk hc hcell fin) hd
  ·exact wpAny_Name (wpAny_loadName_free I.ok.kind hk hc hcell fin hcd) hd
theorem zab {i j pos}:PE X (.Constant (.int i) j pos) (tC (.int i)):=fun _ _ _ H _ I h=>wpAny_Constant_int ⟨.int i,H,I.tok _,⟨_,rfl⟩,h⟩
theorem za8 {b j pos}:PE X (.Constant (.bool b) j pos) (tC (.bl b)):=fun _ _ _ H _ I h=>Constant_bool ⟨.bl b,H,I,rfl,h⟩
theorem zgF {j pos}:PE X (.Constant .none j pos) (tC .non):=fun _ _ _ H _ I h=>Constant_none ⟨.non,H,I,rfl,h⟩
theorem zay {x j pos}:PE X (.Constant (.str x) j pos) (tC (.str x)):=fun _ _ _ H _ I h=>Calls.Constant_str ⟨.str x,H,I.tok _,⟨_,rfl⟩,h⟩
noncomputable def Gl (X:Cx) (x:Str):Prop:=X.env.kindOf x=some .globalImplicit
theorem zcJ {E:Value->Shared->Prop} {pins:List (Addr×Obj)} {s:Shared} {σ : St} {H:Hp} {x:Str} {u:Value} {pos:Pos} {Q:Value->Shared->Prop} (I:Inv X pins σ H s) (hg:Gl X x) (hm:X.mg x=some u) (h:Q u s)
  (hd:(x == ("__debug__" : Str))=false:=by decide):wpAny (model X.prog X.w) X.A (eval (.Name x pos) X.env) Q E s :=
 Calls.Name_function_global I.ok.kind hg (Calls.loadGlobal_global (by rw [I.ok.glob]; exact I.mod.glob.keeps I.bk) hm h) hd
theorem zdm {E:Value->Shared->Prop} {pins:List (Addr×Obj)} {s:Shared} {σ : St} {H:Hp} {x:Str} {u:Value} {pos:Pos} {Q:Value->Shared->Prop} (I:Inv X pins σ H s) (hg:Gl X x) (hm:X.mg x=none) (hv:bootBuiltins x=some u) (h:Q u s)
  (hn:x ≠ "__name__" := by decide) (hd:(x == ("__debug__" : Str))=false:=by decide):wpAny (model X.prog X.w) X.A (eval (.Name x pos) X.env) Q E s:=by
 obtain ⟨mb,h1,h2⟩:=I.mod.blt
 exact Calls.Name_function_global I.ok.kind hg (Calls.loadGlobal_builtin (by rw [I.ok.glob]; exact I.mod.glob.keeps I.bk) hm (by rw [I.ok.blt]; exact h1.keeps I.bk) ((h2 x hn).trans hv) h) hd
theorem zf2 {x:Str} {v:V} {u:Value} {pos:Pos} (hg:Gl X x) (hm:X.mg x=some u) (r:RelV v u) (hd:(x == ("__debug__" : Str))=false:=by decide):PE X (.Name x pos) (tC v) :=
 fun _ _ _ H _ I h=>zcJ I hg hm ⟨v,H,I,r,h⟩ hd
theorem zbF {x:Str} {v:V} {u:Value} {pos:Pos} (hg:Gl X x) (hm:X.mg x=none) (hv:bootBuiltins x=some u) (r:RelV v u) (hn:x ≠ "__name__" := by decide) (hd:(x == ("__debug__" : Str))=false:=by decide):PE X (.Name x pos) (tC v) :=
 fun _ _ _ H _ I h=>zdm I hg hm hv ⟨v,H,I,r,h⟩ hn hd
variable {a b:Expr} {ta tb:TE} {pos:Pos}
noncomputable def PC (X:Cx) (op:CmpOp) (a b:Expr) (t:TE):Prop :=
 ∀ (pins:List (Addr×Obj)) (s:Shared) (σ : St) (H:Hp) (Q:VK),Inv X pins σ H s->t σ H Q ->
  wpAny (model X.prog X.w) X.A (eval a X.env) (fun v s₁ => wpAny (model X.prog X.w) X.A (eval b X.env) (fun u s₂ => wpAny (model X.prog X.w) X.A (compareOp op v u) (EP X pins σ Q) X.xe s₂) X.xe s₁) X.xe s
noncomputable def tB (t:TE):TT:=fun σ H Q=>t σ H fun x H1=>∃ c,x = .bl c/\Q c H1
theorem zfv {op:CmpOp} {t:TE} (h:PC X op a b t) (h1:behindInMarks op b=false:=by first | exact nobehind _ (by decide) (by decide) | rfl):PT X (.Compare a [op] [b] pos) (tB t):=by
 intro pins s σ H Q I hw
 refine wpAny_isTrue_Compare1 (thn (h pins s σ H _ I hw) fun v s1 h1=>thn h1 fun u s2 h2=>thn h2 fun c s3 ⟨x,H1,I1,r1,q1⟩ => ?_) h1
 obtain ⟨d,rfl,q⟩:=q1
 cases r1
 exact wpAny_truthy_bool ⟨H1,I1,q⟩
theorem zaX {e:Expr} {t:TE} (h:PE X e t) (he:∀ whole,isTrue e X.env whole=(do let v <- whole; standAt e.pos; holding [v] (truthy v)):=by intro _; rfl):PT X e (tB t):=by
 intro pins s σ H Q I hw
 refine isTrue_plain (thn (h pins s σ H _ I hw) fun v s1 ⟨x,H1,I1,r1,q1⟩ => ?_) (he _)
 obtain ⟨d,rfl,q⟩:=q1
 cases r1
 exact wpAny_truthy_bool ⟨H1,I1,q⟩
variable {tA tB':TT} {rest:List Expr}
noncomputable def tAnd (t u:TT):TT:=fun σ H Q=>t σ H fun c H1=>if c=true then u σ H1 Q else Q false H1
noncomputable def tOr (t u:TT):TT:=fun σ H Q=>t σ H fun c H1=>if c=true then Q true H1 else u σ H1 Q
noncomputable def tNot (t:TT):TT:=fun σ H Q=>t σ H fun c H1=>Q (!c) H1
theorem pw_and1 (ha:PT X a tA):PW X (.BoolOp .And [a] pos) tA:=by
 intro wh pins s σ H Q I h
 refine isTrue_and (thn (ha pins s σ H Q I h) fun c s1 e => ?_)
 cases c with
 | true=>exact isTrue_and_nil e
 | false=>exact e
theorem zbA (ha:PT X a tA):PW X (.BoolOp .Or [a] pos) tA:=by
 intro wh pins s σ H Q I h
 refine isTrue_or (thn (ha pins s σ H Q I h) fun c s1 e => ?_)
 cases c with
 | false=>exact isTrue_or_nil e
 | true=>exact e
theorem pw_and (ha:PT X a tA) (hb:PW X (.BoolOp .And (b :: rest) pos) tB'):PW X (.BoolOp .And (a :: b :: rest) pos) (tAnd tA tB'):=by
 intro wh pins s σ H Q I h
 refine isTrue_and (thn (ha pins s σ H _ I h) fun c s1 ⟨H1,I1,q1⟩ => ?_)
 cases c with
 | true=>exact hb wh pins s1 σ H1 Q I1 q1
 | false=>exact ⟨H1,I1,q1⟩
theorem zbK (ha:PT X a tA) (hb:PW X (.BoolOp .Or (b :: rest) pos) tB'):PW X (.BoolOp .Or (a :: b :: rest) pos) (tOr tA tB'):=by
 intro wh pins s σ H Q I h
 refine isTrue_or (thn (ha pins s σ H _ I h) fun c s1 ⟨H1,I1,q1⟩ => ?_)
 cases c with
 | true=>exact ⟨H1,I1,q1⟩
 | false=>exact hb wh pins s1 σ H1 Q I1 q1
theorem zaY (ha:PT X a tA):PT X (.UnaryOp .Not a pos) (tNot tA):=by
 intro pins s σ H Q I h
 exact isTrue_not (ha pins s σ H (fun c H1=>Q (!c) H1) I h)
noncomputable def tAndV (ta tb:TE):TE:=fun σ H Q=>ta σ H fun x H1=>∃ c,x = .bl c/\if c=true then tb σ H1 Q else Q (.bl false) H1
noncomputable def tNotV (ta:TE):TE:=fun σ H Q=>ta σ H fun x H1=>∃ c,x = .bl c/\Q (.bl (!c)) H1
theorem zdP {op} {t:TE} (h:PE X a t):PE X (.BoolOp op [a] pos) t:=fun pins s σ H Q I hw=>BoolOp_one (h pins s σ H Q I hw)
theorem zcQ (ha:PE X a ta) (hb:PE X (.BoolOp .And (b :: rest) pos) tb):PE X (.BoolOp .And (a :: b :: rest) pos) (tAndV ta tb):=by
 intro pins s σ H Q I h
 refine BoolOp_and (thn (ha pins s σ H _ I h) fun v s1 ⟨x,H1,I1,r1,q1⟩ => ?_)
 obtain ⟨c,rfl,q1⟩:=q1
 cases r1
 refine wpAny_truthy_bool ?_
 cases c with
 | true=>exact hb pins s1 σ H1 Q I1 q1
 | false=>exact ⟨.bl false,H1,I1,rfl,q1⟩
theorem pe_not (ha:PE X a ta):PE X (.UnaryOp .Not a pos) (tNotV ta):=by
 intro pins s σ H Q I h
 refine UnaryOp_ (thn (ha pins s σ H _ I h) fun v s1 ⟨x,H1,I1,r1,q1⟩ => ?_)
 obtain ⟨c,rfl,q1⟩:=q1
 cases r1
 exact not_of (wpAny_truthy_bool ⟨.bl (!c),H1,I1,rfl,q1⟩)
end
end L2
namespace L2
open PySem PySem.Spec PyProof.Rows
noncomputable def SqL (K:PySem.W.Frag) (H:Hp) (a:Addr) (xs:List V):Prop :=
 Rd H a (.lst xs) \/
  ∃ (o:Obj) (its:Array Value) (n:Nat),K.lookup a=some o/\o.cls = .type "list" /\ o.dict=none/\o.data = .seq its n/\its.size<=sizeLine/\Vals xs its.toList
noncomputable def SqT (K:PySem.W.Frag) (H:Hp) (a:Addr) (xs:List V):Prop :=
 Rd H a (.tup xs) \/
  ∃ (o:Obj) (its:Array Value) (n:Nat),K.lookup a=some o/\o.cls = .type "tuple" /\ o.data = .seq its n/\its.size<=sizeLine/\Vals xs its.toList
noncomputable def absV:Value->Option V
 | .none=>some .non
 | .bool b=>some (.bl b)
 | .int i _=>some (.int i)
 | .str x _=>some (.str x)
 | .bytes b _=>some (.byt b)
 | .float b _=>some (.flt b)
 | .ref a=>some (.ref a)
 | .type n=>some (.ty n)
 | _=>none
theorem RelV.abs {x:V} {u:Value} (r:RelV x u):absV u=some x:=by
 cases x with
 | non=>cases r; rfl
 | bl _=>cases r; rfl
 | int _=>obtain ⟨t,rfl⟩:=r; rfl
 | str _=>obtain ⟨t,rfl⟩:=r; rfl
 | byt _=>obtain ⟨t,rfl⟩:=r; rfl
 | flt _=>obtain ⟨t,rfl⟩:=r; rfl
 | ref _=>cases r; rfl
 | ty _=>cases r; rfl
theorem RelV.inj {x y:V} {u:Value} (r:RelV x u) (q:RelV y u):x=y:=Option.some.inj (r.abs.symm.trans q.abs)
theorem Vals.inj:∀ {xs ys:List V} {us:List Value},Vals xs us->Vals ys us->xs=ys
 | _,_,_,.nil,.nil=>rfl
 | _,_,_,.cons r t,.cons r' t'=>by rw [r.inj r',Vals.inj t t']
section
variable {X:Cx} {pins:List (Addr×Obj)} {σ : St} {H:Hp} {s:Shared} {a:Addr} {xs ys:List V}
theorem SqL.of {K:PySem.W.Frag} (h:H a=some (.lst xs)):SqL K H a xs := .inl (.inl h)
theorem SqT.of {K:PySem.W.Frag} (h:H a=some (.tup xs)):SqT K H a xs := .inl (.inl h)
theorem Inv.list (I:Inv X pins σ H s) (h:SqL X.K H a xs):∃ its:List Value,Vals xs its/\PlainL s.heap a its.toArray/\xs.length<=sizeLine:=by
 rcases h with h | ⟨o,its,n,hk,hc,hd,hs,hz,r⟩
 ·obtain ⟨z,its,n,r,e⟩:=h.ok I.hok
  exact ⟨its,r,⟨_,n,e,rfl,rfl,rfl⟩,z⟩
 ·refine ⟨its.toList,r,⟨o,n,I.kIn a o hk,hc,hd,by simpa using hs⟩,?_⟩
  have e:=r.length
  simp only [Array.length_toList] at e
  omega
theorem Inv.tuple (I:Inv X pins σ H s) (h:SqT X.K H a xs):∃ its:List Value,Vals xs its/\IsTup s.heap a its.toArray/\xs.length<=sizeLine:=by
 rcases h with h | ⟨o,its,n,hk,hc,hs,hz,r⟩
 ·obtain ⟨z,its,r,p⟩:=h.ok I.hok
  exact ⟨its,r,p,z⟩
 ·refine ⟨its.toList,r,⟨o,I.kIn a o hk,hc,n,by simpa using hs⟩,?_⟩
  have e:=r.length
  simp only [Array.length_toList] at e
  omega
theorem Inv.list_inj (I:Inv X pins σ H s) (h:SqL X.K H a xs) (h':SqL X.K H a ys):xs=ys:=by
 obtain ⟨its,r,⟨o,n,e,_,_,d⟩,_⟩:=I.list h
 obtain ⟨its',r',⟨o',n',e',_,_,d'⟩,_⟩:=I.list h'
 rw [e] at e'; cases e'
 rw [d] at d'
 injection d' with d1 _
 have:its=its':=by simpa using congrArg Array.toList d1
 subst this
 exact r.inj r'
theorem Inv.tuple_inj (I:Inv X pins σ H s) (h:SqT X.K H a xs) (h':SqT X.K H a ys):xs=ys:=by
 obtain ⟨its,r,⟨o,e,_,n,d⟩,_⟩:=I.tuple h
 obtain ⟨its',r',⟨o',e',_,n',d'⟩,_⟩:=I.tuple h'
 rw [e] at e'; cases e'
 rw [d] at d'
 injection d' with d1 _
 have:its=its':=by simpa using congrArg Array.toList d1
 subst this
 exact r.inj r'
end
noncomputable abbrev Cx.wish (X:Cx) (E:Value->Shared->Prop):Cx:={ X with xe:=E }
noncomputable abbrev Cx.nox (X:Cx):Cx:=X.wish fun _ _=>False
theorem Cx.Ok.wish {X:Cx} (ok:X.Ok) (E:Value->Shared->Prop):(X.wish E).Ok :=
 ⟨ok.mod,ok.kind,ok.glob,ok.blt,ok.above,ok.inj,ok.has,ok.cab,ok.hd,ok.frames,ok.stk,ok.exf,ok.bs,ok.bsz,ok.noex,ok.exfs,ok.funs,ok.frf⟩
theorem Cx.Ok.unwish {X:Cx} {E:Value->Shared->Prop} (ok:(X.wish E).Ok):X.Ok :=
 ⟨ok.mod,ok.kind,ok.glob,ok.blt,ok.above,ok.inj,ok.has,ok.cab,ok.hd,ok.frames,ok.stk,ok.exf,ok.bs,ok.bsz,ok.noex,ok.exfs,ok.funs,ok.frf⟩
section
variable {X:Cx} {pins:List (Addr×Obj)} {σ : St} {H:Hp} {s:Shared} {E:Value->Shared->Prop}
theorem Inv.wish (I:Inv X pins σ H s) (E:Value->Shared->Prop):Inv (X.wish E) pins σ H s:=⟨I.ok.wish E,I.os,I.bare,I.base,I.loc,I.cell,I.free,I.freeC,I.pin,I.hok,I.len⟩
theorem Inv.unwish (I:Inv (X.wish E) pins σ H s):Inv X pins σ H s:=⟨I.ok.unwish,I.os,I.bare,I.base,I.loc,I.cell,I.free,I.freeC,I.pin,I.hok,I.len⟩
theorem SP.unwish {D:Ends} {f:Flow} {s':Shared} (h:SP (X.wish E) pins D f s'):SP X pins D f s':=by
 cases f with
 | next=>obtain ⟨σ',H',I,q⟩:=h; exact ⟨σ',H',I.unwish,q⟩
 | brk=>obtain ⟨σ',H',I,q⟩:=h; exact ⟨σ',H',I.unwish,q⟩
 | cont=>obtain ⟨σ',H',I,q⟩:=h; exact ⟨σ',H',I.unwish,q⟩
 | ret u=>obtain ⟨v,σ',H',I,r,q⟩:=h; exact ⟨v,σ',H',I.unwish,r,q⟩
theorem PSs.nox {st:List Stmt} {t:TS} (h:PSs X.nox st t):PSs X st t:=fun pins s σ H D I hw =>
 wpAny_mono (h pins s σ H D (I.wish _) hw) (fun _ _ q=>q.unwish) fun _ _ z=>False.elim z
end
section
variable {X:Cx} {st:Stmt} {rest:List Stmt} {t u:TS} {e:Expr} {te:TE} {pos:Pos}
noncomputable def tNext:TS:=fun D σ H=>D.nx σ H
noncomputable def tSeq (t u:TS):TS:=fun D σ H=>t { D with nx:=u D } σ H
theorem zao:PSs X [] tNext:=fun _ _ σ H _ I h=>wpAny_execs_nil ⟨σ,H,I,h⟩
theorem zae (h1:PS X st t) (h2:PSs X rest u):PSs X (st :: rest) (tSeq t u):=by
 intro pins s σ H D I h
 refine wpAny_execs_cons (thn (h1 pins s σ H { D with nx:=u D } I h) fun f s1 q => ?_)
 cases f with
 | next =>
  obtain ⟨σ',H',I',q⟩:=q
  exact h2 pins s1 σ' H' D I' q
 | ret v=>exact q
 | brk=>exact q
 | cont=>exact q
theorem zaf (h1:PS X st t):PSs X [st] t:=by
 intro pins s σ H D I h
 refine wpAny_execs_cons (thn (h1 pins s σ H D I h) fun f s1 q => ?_)
 cases f with
 | next=>exact wpAny_execs_nil q
 | ret v=>exact q
 | brk=>exact q
 | cont=>exact q
theorem Inv.quiet {pins:List (Addr×Obj)} {σ : St} {H:Hp} {s:Shared} (I:Inv X pins σ H s):interactive X.env=false:=by simp [interactive,I.ok.kind]
noncomputable def tDrop (te:TE):TS:=fun D σ H=>te σ H fun _ H1=>D.nx σ H1
theorem zbe (he:PE X e te) (hs:swapsWith e none pos.line X.env=pure false:=by rfl):PS X (.Expr e pos) (tDrop te):=by
 intro pins s σ H D I h
 exact wpAny_Expr_any (thn (he pins s σ H _ I h) fun v s1 ⟨x,H1,I1,r1,q1⟩=>⟨σ,H1,I1,q1⟩) I.quiet hs
noncomputable def tRet (te:TE):TS:=fun D σ H=>te σ H D.rt
theorem zaj (he:PE X e te):PS X (.Return (some e) pos) (tRet te):=by
 intro pins s σ H D I h
 exact wpAny_Return_some (thn (he pins s σ H _ I h) fun v s1 ⟨x,H1,I1,r1,q1⟩=>⟨x,σ,H1,I1,r1,q1⟩)
noncomputable def tIfS (c:TT) (t u:TS):TS:=fun D σ H=>c σ H fun b H1=>if b=true then t D σ H1 else u D σ H1
theorem zaG {c:Expr} {a b:List Stmt} {tc:TT} (hc:PT X c tc) (ha:PSs X a t) (hb:PSs X b u):PS X (.If c a b pos) (tIfS tc t u):=by
 intro pins s σ H D I h
 refine wpAny_If (thn (hc pins s σ H _ I h) fun d s1 ⟨H1,I1,q1⟩ => ?_)
 cases d with
 | true=>exact ha pins s1 σ H1 D I1 q1
 | false=>exact hb pins s1 σ H1 D I1 q1
end
noncomputable abbrev TG:=V->St->Hp->(St->Hp->Prop)->Prop
noncomputable abbrev TGs:=List V->St->Hp->(St->Hp->Prop)->Prop
noncomputable def PG (X:Cx) (target:Expr) (t:TG):Prop :=
 ∀ (pins:List (Addr×Obj)) (s:Shared) (σ : St) (H:Hp) (v:V) (u:Value) (Q:St->Hp->Prop),Inv X pins σ H s->RelV v u->t v σ H Q ->
  wpAny (model X.prog X.w) X.A (assign target X.env u) (fun _ s'=>∃ σ' H',Inv X pins σ' H' s'/\Q σ' H') X.xe s
noncomputable def PGs (X:Cx) (ts:List Expr) (t:TGs):Prop :=
 ∀ (pins:List (Addr×Obj)) (s:Shared) (σ : St) (H:Hp) (vs:List V) (us:List Value) (Q:St->Hp->Prop),Inv X pins σ H s->Vals vs us->t vs σ H Q ->
  wpAny (model X.prog X.w) X.A (assignInOrder ((assignEach ts X.env).map (·.2)) us) (fun _ s'=>∃ σ' H',Inv X pins σ' H' s'/\Q σ' H') X.xe s
noncomputable abbrev TSet:=V->V->V->Hp->(Hp->Prop)->Prop
noncomputable def PSet (X:Cx) (t:TSet):Prop :=
 ∀ (pins:List (Addr×Obj)) (s:Shared) (σ : St) (H:Hp) (o i v:V) (ov iv u:Value) (Q:Hp->Prop),Inv X pins σ H s->RelV o ov->RelV i iv->RelV v u->t o i v H Q ->
  wpAny (model X.prog X.w) X.A (setItem ov iv u) (fun _ s'=>∃ H',Inv X pins σ H' s'/\Q H') X.xe s
section
variable {X:Cx} {pos:Pos}
noncomputable def gName (i:Nat):TG:=fun v σ H Q=>Q (σ.set i (some v)) H
theorem zal {i:Nat} {x:Str} (hN:X.N.Nodup) (hi:X.N[i]?=some x) (hx:Loc X.env.scope x) (hf:X.fn x=true\/X.env.scope.names.lookup x=some .local:=by first | exact .inl rfl | exact .inr rfl | assumption):PG X (.Name x pos) (gName i):=by
 intro pins s σ H v u Q I r h
 exact wpAny_assign_Name (zd0 I hN hi hx r (fun s' I'=>⟨_,H,I',h⟩) hf)
noncomputable def gNil:TGs:=fun vs σ H Q=>vs = []/\Q σ H
noncomputable def gCons (t:TG) (u:TGs):TGs:=fun vs σ H Q=>∃ v r,vs=v :: r/\t v σ H fun σ' H'=>u r σ' H' Q
theorem zbE:PGs X [] gNil:=by
 intro pins s σ H vs us Q I r h
 obtain ⟨e,h⟩:=h
 subst e
 cases r
 exact assignInOrder_nil ⟨σ,H,I,h⟩
theorem zaD {e:Expr} {es:List Expr} {t:TG} {u:TGs} (h1:PG X e t) (h2:PGs X es u)
  (hs:(assignEach (e :: es) X.env).map (·.2)=assign e X.env :: (assignEach es X.env).map (·.2):=by rfl):PGs X (e :: es) (gCons t u):=by
 intro pins s σ H vs us Q I r h
 obtain ⟨v,vr,e1,h⟩:=h
 subst e1
 cases r with
 | cons r rr =>
  rw [hs]
  refine assignInOrder_cons (thn (h1 pins s σ H _ _ _ I r h) fun _ s1 ⟨σ1,H1,I1,q1⟩ => ?_)
  exact h2 pins s1 σ1 H1 _ _ Q I1 rr q1
noncomputable def gTup (K:PySem.W.Frag) (n:Nat) (t:TGs):TG:=fun v σ H Q=>∃ a xs,v = .ref a/\SqT K H a xs/\xs.length=n/\t xs σ H Q
theorem zdO {es:List Expr} {k:Nat} {t:TGs} {n:Nat} (hc:X.calm=true) (h:PGs X es t)
  (hn:(assignEach es X.env).length=n:=by rfl) (hst:(assignEach es X.env).findIdx? (·.1)=none:=by rfl):PG X (.Tuple es k pos) (gTup X.K n t):=by
 intro pins s σ H v u Q I r hw
 obtain ⟨a,xs,e1,hq,hl,hw⟩:=hw
 subst e1
 cases r
 obtain ⟨its,rv,ht,hz⟩:=I.tuple hq
 refine assign_Tuple_tuple (I.ok.hd hc) ht (by simp [hn,<- hl,rv.length]) hst fun h' hx => ?_
 have I1:Inv X pins σ H { s with heap:=h' }:=I.kept (t':=s.toks) fun b o e=>hx b o (Nat.ne_of_lt (Heap.lt_size e)) e
 exact h pins _ σ H xs _ Q I1 (by simpa using rv) hw
noncomputable def gSub (to ti:TE) (t:TSet):TG:=fun v σ H Q=>to σ H fun o H1=>ti σ H1 fun i H2=>t o i v H2 fun H3=>Q σ H3
theorem pg_sub {o i:Expr} {to ti:TE} {t:TSet} (ho:PE X o to) (hi:PE X i ti) (hs:PSet X t)
  (ha:∀ v,assign (.Subscript o i pos) X.env v=(do
   let ov <- holding [v] (eval o X.env)
   let iv <- holding [v,ov] (eval i X.env)
   standAt pos
   holding [v,ov,iv] (setItem ov iv v)
   release [v,ov,iv] []):=by intro _; rfl):PG X (.Subscript o i pos) (gSub to ti t):=by
 intro pins s σ H v u Q I r h
 rw [ha]
 refine wpAny_bind (wpAny_holding (thn (ho pins s σ H _ I h) fun ov s1 ⟨x,H1,I1,r1,q1⟩ => ?_))
 refine wpAny_bind (wpAny_holding (thn (hi pins s1 σ H1 _ I1 q1) fun iv s2 ⟨y,H2,I2,r2,q2⟩ => ?_))
 refine wpAny_bind (wpAny_standAt (wpAny_bind (wpAny_holding (thn (hs pins s2 σ H2 x y v ov iv u _ I2 r1 r2 r q2) fun _ s3 ⟨H3,I3,q3⟩ => ?_))))
 exact wpAny_release ⟨σ,H3,I3,q3⟩
noncomputable def tAsg (te:TE) (g:TG):TS:=fun D σ H=>te σ H fun x H1=>g x σ H1 D.nx
theorem zgD {tg e:Expr} {te:TE} {g:TG} (he:PE X e te) (hg:PG X tg g) (hs:swapsWithSole [tg] e pos.line X.env=pure false:=by rfl) (hw:swappedStores [tg] e X.env=pure none:=by rfl)
  (h1:(assignEach [tg] X.env).map (·.2) = [assign tg X.env]:=by rfl):PS X (.Assign [tg] e pos) (tAsg te g):=by
 intro pins s σ H D I h
 refine wpAny_Assign_stores (thn (he pins s σ H _ I h) fun v s1 ⟨x,H1,I1,r1,q1⟩ => ?_) hs hw
 rw [h1]
 exact thn (hg pins s1 σ H1 x v _ I1 r1 q1) fun _ s2 q=>q
theorem zau {i:Nat} {x:Str} {e:Expr} {te:TE} {pos':Pos} (hN:X.N.Nodup) (hi:X.N[i]?=some x) (hx:Loc X.env.scope x) (he:PE X e te) (hs:swapsWith e (some (.Name x pos')) pos.line X.env=pure false:=by rfl) (hf:X.fn x=true\/X.env.scope.names.lookup x=some .local:=by first | exact .inl rfl | exact .inr rfl | assumption) :
  PS X (.Assign [.Name x pos'] e pos) (tAsg te (gName i)):=by
 intro pins s σ H D I h
 refine wpAny_Assign_Name (thn (he pins s σ H _ I h) fun v s1 ⟨y,H1,I1,r1,q1⟩ => ?_) hs
 exact zd0 I1 hN hi hx r1 (fun s2 I2=>⟨_,H1,I2,q1⟩) hf
end
section
variable {X:Cx} {pos:Pos}
noncomputable def tWhile (c:TT) (tb:TS):TS:=fun D σ H=>∃ W:Nat->St->Hp->Prop,(∃ m,W m σ H)/\∀ m σ H,W m σ H ->
 c σ H fun b H1=>if b=true then ∃ N:St->Hp->Prop,(∀ σ' H',N σ' H'->∃ m',m' < m/\W m' σ' H')/\tb { D with nx:=N,ct:=N,bk:=D.nx } σ H1 else D.nx σ H1
theorem zd5 {c:Expr} {body:List Stmt} {tc:TT} {tb:TS} (hp:PassesOwn (model X.prog X.w) X.A X.env X.xe) (hc:PT X c tc) (hb:PSs X body tb):PS X (.While c body [] pos) (tWhile tc tb):=by
 intro pins s σ H D I h
 obtain ⟨W,⟨m0,w0⟩,turn⟩:=h
 refine wpAny_While (codeAny_whileLoop (fun n s'=>∃ σ' H',Inv X pins σ' H' s'/\W n σ' H') ?_ m0 ⟨σ,H,I,w0⟩)
 rintro n s1 ⟨σ1,H1,I1,w1⟩
 refine wpAny_passesOwn hp (thn (hc pins s1 σ1 H1 _ I1 (turn n σ1 H1 w1)) fun b s2 ⟨H2,I2,q2⟩ => ?_)
 cases b with
 | true =>
  obtain ⟨N,hN,q2⟩:=q2
  rw [if_pos rfl]
  refine wpAny_passesOwn hp (thn (hb pins s2 σ1 H2 _ I2 q2) fun f s3 q3 => ?_)
  cases f with
  | next =>
   obtain ⟨σ3,H3,I3,n3⟩:=q3
   obtain ⟨m',hm,w3⟩:=hN σ3 H3 n3
   exact ⟨m',hm,σ3,H3,I3,w3⟩
  | cont =>
   obtain ⟨σ3,H3,I3,n3⟩:=q3
   obtain ⟨m',hm,w3⟩:=hN σ3 H3 n3
   exact ⟨m',hm,σ3,H3,I3,w3⟩
  | brk=>exact q3
  | ret v=>exact q3
 | false =>
  rw [if_neg Bool.false_ne_true]
  exact wpAny_execs_nil ⟨σ1,H2,I2,q2⟩
end
structure It where
 go:Nat->Hp->Prop
 yld:Nat->Hp->V->Hp->Prop
 stop:Nat->Hp->Prop
noncomputable def FpOk (X:Cx) (pins:List (Addr×Obj)) (H:Hp) (b:Addr):Prop :=
 H b=none/\b≠X.env.locals/\b ∉ X.fs/\(b∈X.ex\/X.s₀.heap.objs.size<=b)/\(∀ x c,X.env.cells.lookup x=some c->c≠b)/\∀ p∈X.pn ++ pins,p.1≠b
theorem Inv.fpOk {X:Cx} {pins:List (Addr×Obj)} {σ : St} {H H':Hp} {s:Shared} {b:Addr} (I:Inv X pins σ H s) (hb:s.heap.objs.size<=b) (hn:H' b=none):FpOk X pins H' b:=by
 refine ⟨hn,Nat.ne_of_gt (Nat.lt_of_lt_of_le I.lt hb),I.nofs hb,.inr (Nat.le_trans I.sz hb),fun x c e z => ?_,fun p hp z => ?_⟩
 ·obtain ⟨v,q⟩:=I.cell x c e
  exact absurd (Nat.lt_of_lt_of_le q.lt (by rw [z]; exact hb)) (Nat.lt_irrefl _)
 ·exact absurd (Nat.lt_of_lt_of_le (Heap.lt_size (I.pin p hp).1) (by rw [z]; exact hb)) (Nat.lt_irrefl _)
structure Turn (P:Program) (w:World) (K:PySem.W.Frag) (tg:Expr) (J:It) (fp:List Addr) (it:Addr) (tn:Nat->Heap->Prop):Prop where
 mem:it∈fp
 obj:∀ i h,tn i h->∀ b∈fp,∃ o,h.get? b=some o/\∀ v,o.data ≠ .cell v
 keep:∀ i h h',tn i h->(∀ b∈fp,∀ o,h.get? b=some o->h'.get? b=some o)->tn i h'
 item:∀ (X:Cx),X.prog=P->X.w=w->X.K=K->X.calm=true->∀ (i:Nat) (pins:List (Addr×Obj)) (s:Shared) (σ : St) (H:Hp) (E:Value->Shared->Prop),Inv X pins σ H s->(∀ b∈fp,FpOk X pins H b)->tn i s.heap->J.go i H ->
  wpAny (model P w) X.A (pyNext (.ref it)) (fun r s1=>∃ u,r=some u /\
   wpAny (model P w) X.A (letOwnedTupleGo tg (.ref it) u) (fun _ s2=>∃ x H',Inv X pins σ H' s2/\RelV x u/\J.yld i H x H'/\tn (i + 1) s2.heap/\∀ b∈fp,H' b=none) E s1) E s
 done:∀ (X:Cx),X.prog=P->X.w=w->X.K=K->X.calm=true->∀ (i:Nat) (pins:List (Addr×Obj)) (s:Shared) (σ : St) (H:Hp) (E:Value->Shared->Prop),Inv X pins σ H s->(∀ b∈fp,FpOk X pins H b)->tn i s.heap->J.stop i H ->
  wpAny (model P w) X.A (pyNext (.ref it)) (fun r s1=>r=none/\Inv X pins σ H s1) E s
 self:∀ (A:Around) (i:Nat) (s:Shared) (Q:Value->Shared->Prop) (E:Value->Shared->Prop),tn i s.heap->Q (.ref it) s->wpAny (model P w) A (pyIter (.ref it)) Q E s
noncomputable abbrev TI:=St->Hp->(It->Hp->Prop)->Prop
noncomputable def PIE (X:Cx) (pins:List (Addr×Obj)) (σ : St) (tg:Expr) (R:It->Hp->Prop) (itv:Value) (s2:Shared):Prop :=
 ∃ (it:Addr) (fp:List Addr) (tn:Nat->Heap->Prop) (J:It) (H':Hp),itv = .ref it/\Inv X pins σ H' s2/\Turn X.prog X.w X.K tg J fp it tn/\tn 0 s2.heap/\(∀ b∈fp,FpOk X pins H' b)/\R J H'
noncomputable def PI (X:Cx) (tg iter:Expr) (wi:TI):Prop :=
 ∀ (pins:List (Addr×Obj)) (s:Shared) (σ : St) (H:Hp) (R:It->Hp->Prop),Inv X pins σ H s->wi σ H R ->
  wpAny (model X.prog X.w) X.A (eval iter X.env) (fun v s1=>wpAny (model X.prog X.w) X.A (pyIter v) (PIE X pins σ tg R) X.xe s1) X.xe s
theorem zgg {M:Model} {A:Around} {E:Value->Shared->Prop} {s:Shared} {tg:Expr} {it:Addr} {u:Value} {o:Obj} {n:String} {vs:Array Value} {Q:Unit->Shared->Prop} (ho:s.heap.get? it=some o) (hc:o.cls = .type n) (hd:o.data = .fields vs)
  (hn : ["enumerate","zip","dict_itemiterator","dict_reverseitemiterator","odict_iterator","itertools.zip_longest","itertools.pairwise"].contains n=false) (hQ:Q () s):wpAny M A (letOwnedTupleGo tg (.ref it) u) Q E s:=by
 unfold letOwnedTupleGo
 cases tg <;> first
  | exact wpAny_pure hQ
  | (cases u <;> first
    | exact wpAny_pure hQ
    | (refine wpAny_bind (wpAny_load ho ?_)
       rw [hc,hd]
       show wpAny M A (if (["enumerate","zip","dict_itemiterator","dict_reverseitemiterator","odict_iterator","itertools.zip_longest","itertools.pairwise"].contains n && vs[0]? == some (rawInt _))=true then _ else _) Q E s
       rw [if_neg (by intro h; rw [hn,Bool.false_and] at h; cases h)]
       exact wpAny_pure hQ))
noncomputable def Itl (K:PySem.W.Frag) (a:Addr):It :=
 ⟨fun i H=>∃ xs x,SqL K H a xs/\xs[i]?=some x,fun i H x H'=>H'=H/\∀ xs,SqL K H a xs->xs[i]?=some x,fun i H=>∃ xs,SqL K H a xs/\xs.length<=i⟩
noncomputable def Itt (K:PySem.W.Frag) (a:Addr):It :=
 ⟨fun i H=>∃ xs x,SqT K H a xs/\xs[i]?=some x,fun i H x H'=>H'=H/\∀ xs,SqT K H a xs->xs[i]?=some x,fun i H=>∃ xs,SqT K H a xs/\xs.length<=i⟩
noncomputable def Itr (lo:Int) (n:Nat):It:=⟨fun i _=>i < n,fun i H x H'=>H'=H/\x = .int (lo + i),fun i _=>n<=i⟩
theorem turn_list {P:Program} {w:World} {K:PySem.W.Frag} {tg:Expr} (a it:Addr):Turn P w K tg (Itl K a) [it] it (fun i h=>h.IsListIter it a i) where
 mem:=by simp
 obj:=fun i h st b hb=>by
  have e:b=it:=by simpa using hb
  subst e
  obtain ⟨o,e,c,d⟩:=st
  exact ⟨o,e,fun v z=>by rw [d] at z; cases z⟩
 keep:=fun i h h' st k=>st.at fun o e=>k it (by simp) o e
 item:=by
  intro X hP hw hK hc i pins s σ H E I hf st hg
  subst hP hw hK
  obtain ⟨xs,x,hq,hx⟩:=hg
  obtain ⟨its,rv,p,hz⟩:=I.list hq
  obtain ⟨u,hu,ru⟩:=rv.get hx
  obtain ⟨f0,f1,f2,f3,f4,f5⟩:=hf it (by simp)
  refine wpAny_pyNext_list_item st p.isList (x:=u) (by simpa using hu) fun h' st' sb => ?_
  have I1:Inv X pins σ H { s with heap:=h' }:=I.turned (t':=s.toks) (fun b o hb e=>(sb.2 b hb).trans e) f0 f1 f3 f4 f5
  obtain ⟨o,e,c,d⟩:=id st'
  exact ⟨u,rfl,zgg (s:={ s with heap:=h' }) e c d (by decide) ⟨x,H,I1,ru,⟨rfl,fun ys hy=>by rw [I.list_inj hy hq]; exact hx⟩,st',fun b hb=>(hf b hb).1⟩⟩
 done:=by
  intro X hP hw hK hc i pins s σ H E I hf st hg
  subst hP hw hK
  obtain ⟨xs,hq,hx⟩:=hg
  obtain ⟨its,rv,p,hz⟩:=I.list hq
  obtain ⟨f0,f1,f2,f3,f4,f5⟩:=hf it (by simp)
  have hl:=rv.length
  exact wpAny_pyNext_list_end (I.ok.hd hc) st p.isList (by simp; omega) fun h' eb=>⟨rfl,I.turned (t':=s.toks) (fun b o hb e=>eb b o hb e) f0 f1 f3 f4 f5⟩
 self:=fun _ _ _ _ _ st h=>wpAny_pyIter_listiter st h
theorem turn_tuple {P:Program} {w:World} {K:PySem.W.Frag} {tg:Expr} (a it:Addr):Turn P w K tg (Itt K a) [it] it (fun i h=>h.IsTupleIter it a i) where
 mem:=by simp
 obj:=fun i h st b hb=>by
  have e:b=it:=by simpa using hb
  subst e
  obtain ⟨o,e,c,d⟩:=st
  exact ⟨o,e,fun v z=>by rw [d] at z; cases z⟩
 keep:=fun i h h' st k=>st.at fun o e=>k it (by simp) o e
 item:=by
  intro X hP hw hK hc i pins s σ H E I hf st hg
  subst hP hw hK
  obtain ⟨xs,x,hq,hx⟩:=hg
  obtain ⟨its,rv,p,hz⟩:=I.tuple hq
  obtain ⟨u,hu,ru⟩:=rv.get hx
  obtain ⟨f0,f1,f2,f3,f4,f5⟩:=hf it (by simp)
  refine wpAny_pyNext_tuple_item st (show s.heap.IsTuple a its.toArray from p) (x:=u) (by simpa using hu) fun h' st' sb => ?_
  have I1:Inv X pins σ H { s with heap:=h' }:=I.turned (t':=s.toks) (fun b o hb e=>(sb.2 b hb).trans e) f0 f1 f3 f4 f5
  obtain ⟨o,e,c,d⟩:=id st'
  exact ⟨u,rfl,zgg (s:={ s with heap:=h' }) e c d (by decide) ⟨x,H,I1,ru,⟨rfl,fun ys hy=>by rw [I.tuple_inj hy hq]; exact hx⟩,st',fun b hb=>(hf b hb).1⟩⟩
 done:=by
  intro X hP hw hK hc i pins s σ H E I hf st hg
  subst hP hw hK
  obtain ⟨xs,hq,hx⟩:=hg
  obtain ⟨its,rv,p,hz⟩:=I.tuple hq
  obtain ⟨f0,f1,f2,f3,f4,f5⟩:=hf it (by simp)
  have hl:=rv.length
  exact wpAny_pyNext_tuple_end (I.ok.hd hc) st (show s.heap.IsTuple a its.toArray from p) (by simp; omega) fun h' eb=>⟨rfl,I.turned (t':=s.toks) (fun b o hb e=>eb b o hb e) f0 f1 f3 f4 f5⟩
 self:=fun _ _ _ _ _ st h=>wpAny_pyIter_tupleiter st h
theorem turn_range {P:Program} {w:World} {K:PySem.W.Frag} {tg:Expr} (it:Addr) (lo:Int) (n:Nat):Turn P w K tg (Itr lo n) [it] it (fun i h=>IsRangeIter h it (lo + (i:Nat) * 1) ((n:Int) - (i:Nat)) 1) where
 mem:=by simp
 obj:=fun i h st b hb=>by
  have e:b=it:=by simpa using hb
  subst e
  exact ⟨_,st,fun v z=>by
   have z':Data.fields _=Data.cell v:=z
   cases z'⟩
 keep:=fun i h h' st k=>k it (by simp) _ st
 item:=by
  intro X hP hw hK hc i pins s σ H E I hf st hg
  subst hP hw hK
  obtain ⟨f0,f1,f2,f3,f4,f5⟩:=hf it (by simp)
  have W:=Walks.range (prog:=X.prog) (w:=X.w) (I.ok.hd hc) it lo 1 n
  refine W.item i s _ _ hg st fun v h' tk hv st' kk => ?_
  obtain ⟨t,rfl⟩:=hv
  have I1:Inv X pins σ H { s with heap:=h',toks:=tk }:=I.turned (fun b o hb e=>kk b o (by simpa using hb) e) f0 f1 f3 f4 f5
  refine ⟨_,rfl,zgg (s:={ s with heap:=h',toks:=tk }) (n := "range_iterator") st' rfl rfl (by decide) ⟨.int (lo + i),H,I1,⟨t,?_⟩,⟨rfl,rfl⟩,st',fun b hb=>(hf b hb).1⟩⟩
  rw [Int.mul_one]
 done:=by
  intro X hP hw hK hc i pins s σ H E I hf st hg
  subst hP hw hK
  obtain ⟨f0,f1,f2,f3,f4,f5⟩:=hf it (by simp)
  exact wpAny_pyNext_range_end (I.ok.hd hc) st (by have:n<=i:=hg; omega) fun h' eb=>⟨rfl,I.turned (t':=s.toks) (fun b o hb e=>eb b o hb e) f0 f1 f3 f4 f5⟩
 self:=fun _ _ _ _ _ st h=>wpAny_pyIter_rangeiter st h
end L2
namespace L2
open PySem PySem.Spec PyProof.Rows
section
variable {X:Cx} {tg:Expr}
noncomputable def iList (K:PySem.W.Frag) (tl:TE):TI:=fun σ H R=>tl σ H fun x H1=>∃ a,x = .ref a/\(∃ xs,SqL K H1 a xs)/\R (Itl K a) H1
noncomputable def iTup (K:PySem.W.Frag) (tl:TE):TI:=fun σ H R=>tl σ H fun x H1=>∃ a,x = .ref a/\(∃ xs,SqT K H1 a xs)/\R (Itt K a) H1
theorem zaz {l:Expr} {tl:TE} (hl:PE X l tl):PI X tg l (iList X.K tl):=by
 intro pins s σ H R I h
 refine thn (hl pins s σ H _ I h) fun v s1 ⟨x,H1,I1,r1,q1⟩ => ?_
 obtain ⟨a,e,⟨xs,hq⟩,q⟩:=q1
 subst e
 cases r1
 obtain ⟨its,rv,p,hz⟩:=I1.list hq
 refine wpAny_pyIter_list p.isList ?_
 refine ⟨s1.heap.objs.size,[s1.heap.objs.size],_,_,H1,rfl,I1.kept (t':=s1.toks) fun b o e=>Heap.get?_push_of_some _ e,turn_list a _,⟨_,Heap.get?_push_size _ rfl,rfl,rfl⟩,fun b hb => ?_,q⟩
 have e:b=s1.heap.objs.size:=by simpa using hb
 subst e
 exact I1.fpOk (Nat.le_refl _) (I1.hok.fresh (Nat.le_refl _))
theorem pi_tup {l:Expr} {tl:TE} (hl:PE X l tl):PI X tg l (iTup X.K tl):=by
 intro pins s σ H R I h
 refine thn (hl pins s σ H _ I h) fun v s1 ⟨x,H1,I1,r1,q1⟩ => ?_
 obtain ⟨a,e,⟨xs,hq⟩,q⟩:=q1
 subst e
 cases r1
 obtain ⟨its,rv,p,hz⟩:=I1.tuple hq
 refine wpAny_pyIter_tuple (show s1.heap.IsTuple a its.toArray from p) ?_
 refine ⟨s1.heap.objs.size,[s1.heap.objs.size],_,_,H1,rfl,I1.kept (t':=s1.toks) fun b o e=>Heap.get?_push_of_some _ e,turn_tuple a _,⟨_,Heap.get?_push_size _ rfl,rfl,rfl⟩,fun b hb => ?_,q⟩
 have e:b=s1.heap.objs.size:=by simpa using hb
 subst e
 exact I1.fpOk (Nat.le_refl _) (I1.hok.fresh (Nat.le_refl _))
theorem zft {pins:List (Addr×Obj)} {σ : St} {H:Hp} {s:Shared} {R:It->Hp->Prop} {E:Value->Shared->Prop} {lo hi:Int} {t u v:Tok} {tk:Nat} (I:Inv X pins σ H s) (h1 : -(2 ^ 62)<=lo) (h2:lo < 2 ^ 62) (h3 : -(2 ^ 62)<=hi) (h4:hi < 2 ^ 62)
  (q:R (Itr lo (hi - lo).toNat) H):wpAny (model X.prog X.w) X.A (pyIter (.ref s.heap.objs.size)) (PIE X pins σ tg R) E { s with heap:=s.heap.push { cls := .type "range",data := .fields #[.int lo t,.int hi u,.int 1 v] },toks:=tk }:=by
 refine wpAny_pyIter_range (IsRange.new ..) (small_one h1 h2 h3 h4) ?_
 have I1:Inv X pins σ H { s with heap:=s.heap.push { cls := .type "range",data := .fields #[.int lo t,.int hi u,.int 1 v] },toks:=tk }:=I.kept fun b o e=>Heap.get?_push_of_some _ e
 refine ⟨(s.heap.push { cls := .type "range",data := .fields #[.int lo t,.int hi u,.int 1 v] }).objs.size,[(s.heap.push { cls := .type "range",data := .fields #[.int lo t,.int hi u,.int 1 v] }).objs.size],_,_,H,rfl,
  I1.kept (t':=tk) fun b o e=>Heap.get?_push_of_some _ e,turn_range _ lo (hi - lo).toNat,?_,fun b hb => ?_,q⟩
 ·have e1:lo + ((0:Nat):Int) * 1=lo:=by simp
  have e2:(((hi - lo).toNat:Nat):Int) - ((0:Nat):Int)=Builtin.Range.rangeSize lo hi 1:=by rw [rangeSize_one]; split <;> omega
  show IsRangeIter _ _ (lo + ((0:Nat):Int) * 1) ((((hi - lo).toNat:Nat):Int) - ((0:Nat):Int)) 1
  rw [e1,e2]
  exact Heap.get?_push_size _ rfl
 ·have e:b=(s.heap.push { cls := .type "range",data := .fields #[.int lo t,.int hi u,.int 1 v] }).objs.size:=by simpa using hb
  subst e
  exact I1.fpOk (Nat.le_refl _) (I1.hok.fresh (Nat.le_refl _))
noncomputable def iRng1 (ta:TA):TI:=fun σ H R=>ta σ H fun vs H1=>∃ j:Int,vs = [.int j] /\ -(2 ^ 62)<=j/\j < 2 ^ 62/\R (Itr 0 j.toNat) H1
noncomputable def iRng2 (ta:TA):TI:=fun σ H R=>ta σ H fun vs H1=>∃ i j:Int,vs = [.int i,.int j]/\(-(2 ^ 62)<=i/\i < 2 ^ 62 /\ -(2 ^ 62)<=j/\j < 2 ^ 62)/\R (Itr i (j - i).toNat) H1
theorem za7 {a:Expr} {ta:TA} {p pos:Pos} (hg:Gl X "range") (hm:X.mg "range" = none) (ha:PA X [a] ta) (hs:starEach [a] X.env = [(false,eval a X.env)]:=by rfl):PI X tg (.Call (.Name "range" p) [a] [] pos) (iRng1 ta):=by
 intro pins s σ H R I h
 refine Call_ (zdm I hg hm boot_range (PyProof.Rows.callWith_type1 (thn (ha pos pins s σ H _ I h) fun us s1 ⟨vs,H1,I1,r1,q1⟩ => ?_) hs rfl))
 obtain ⟨j,e,q1,q2,q⟩:=q1
 subst e
 cases r1 with
 | cons r rr =>
  cases rr
  obtain ⟨t,rfl⟩:=r
  exact call_range_1 (zft I1 (by omega) (by omega) q1 q2 (by simpa using q))
theorem pi_range2 {a b:Expr} {ta:TA} {p pos:Pos} (hg:Gl X "range") (hm:X.mg "range" = none) (ha:PA X [a,b] ta) (hs:starEach [a,b] X.env = [(false,eval a X.env),(false,eval b X.env)]:=by rfl) (hs2:starEach [b] X.env = [(false,eval b X.env)]:=by rfl) :
  PI X tg (.Call (.Name "range" p) [a,b] [] pos) (iRng2 ta):=by
 intro pins s σ H R I h
 refine Call_ (zdm I hg hm boot_range (PyProof.Rows.callWith_type1 (thn (ha pos pins s σ H _ I h) fun us s1 ⟨vs,H1,I1,r1,q1⟩ => ?_) (by rw [hs,hs2]) (by rw [hs2]; rfl)))
 obtain ⟨i,j,e,⟨q1,q2,q3,q4⟩,q⟩:=q1
 subst e
 cases r1 with
 | cons r rr =>
  cases rr with
  | cons r' rr =>
   cases rr
   obtain ⟨t,rfl⟩:=r
   obtain ⟨t',rfl⟩:=r'
   exact call_range_2 (zft I1 q1 q2 q3 q4 q)
noncomputable def tFor (wi:TI) (g:TG) (tb:TS):TS:=fun D σ H=>wi σ H fun J H1=>∃ W:Nat->Nat->St->Hp->Prop,(∃ m,W 0 m σ H1)/\∀ i m σ H,W i m σ H ->
 (J.stop i H/\D.nx σ H)\/(J.go i H/\∃ N:St->Hp->Prop,(∀ σ' H',N σ' H'->∃ m',m' < m/\W (i + 1) m' σ' H')/\∀ x H',J.yld i H x H'->g x σ H' fun σ2 H2=>tb { D with nx:=N,ct:=N,bk:=D.nx } σ2 H2)
noncomputable def pinsAt (fp:List Addr) (h:Heap):List (Addr×Obj):=fp.filterMap fun b=>(h.get? b).map fun o=>(b,o)
theorem zb3 {fp:List Addr} {h:Heap} {b:Addr} {o:Obj} (hb:b∈fp) (e:h.get? b=some o):(b,o)∈pinsAt fp h:=List.mem_filterMap.mpr ⟨b,hb,by rw [e]; rfl⟩
theorem of_pinsAt {fp:List Addr} {h:Heap} {p:Addr×Obj} (hp:p∈pinsAt fp h):p.1∈fp/\h.get? p.1=some p.2:=by
 obtain ⟨b,hb,e⟩:=List.mem_filterMap.mp hp
 cases q:h.get? b with
 | none=>rw [q] at e; cases e
 | some o =>
  rw [q] at e
  have e':(b,o)=p:=Option.some.inj e
  subst e'
  exact ⟨hb,q⟩
theorem Inv.pinned {pins:List (Addr×Obj)} {σ : St} {H:Hp} {s:Shared} {fp:List Addr} (I:Inv X pins σ H s) (hf:∀ b∈fp,FpOk X pins H b) (ho:∀ b∈fp,∃ o,s.heap.get? b=some o/\∀ v,o.data ≠ .cell v):Inv X (pins ++ pinsAt fp s.heap) σ H s :=
 I.pins_of fun p hp=>(List.mem_append.mp hp).elim (fun z=>I.pin p (List.mem_append_right _ z)) fun z=>by
  obtain ⟨hb,e⟩:=of_pinsAt z
  obtain ⟨f0,f1,f2,_⟩:=hf p.1 hb
  obtain ⟨o,e',d⟩:=ho p.1 hb
  rw [e] at e'; cases e'
  exact ⟨e,f0,f1,f2,d⟩
theorem Inv.unpinned {pins pl:List (Addr×Obj)} {σ : St} {H:Hp} {s:Shared} (I:Inv X (pins ++ pl) σ H s):Inv X pins σ H s:=I.pins_of fun p hp=>I.pin p (List.mem_append_right _ (List.mem_append_left _ hp))
theorem zaZ {iter:Expr} {body:List Stmt} {wi:TI} {g:TG} {tb:TS} {pos:Pos} (hp:PassesOwn (model X.prog X.w) X.A X.env X.xe) (hc:X.calm=true) (hi:PI X tg iter wi) (hg:PG X tg g) (hb:PSs X body tb)
  (hs:∀ x,foldedSetIterable iter X.env x=pure x:=by intro _; rfl):PS X (.For tg iter body [] pos) (tFor wi g tb):=by
 intro pins s σ H D I h
 refine wpAny_For (thn (hi pins s σ H _ I h) fun v s1 h1=>thn h1 fun itv s2 h2 => ?_) hs
 obtain ⟨it,fp,tn,J,H2,e,I2,T,st2,f2,W,⟨m0,w0⟩,turn⟩:=h2
 subst e
 have stat:∀ {H':Hp},(∀ b∈fp,H' b=none)->∀ b∈fp,FpOk X pins H' b:=fun hn b hb=>⟨hn b hb,(f2 b hb).2⟩
 refine codeAny_forLoop_any (fun n s'=>∃ i σ' H',Inv X pins σ' H' s'/\tn i s'.heap/\(∀ b∈fp,H' b=none)/\W i n σ' H') ?_ m0 ⟨0,σ,H2,I2,st2,fun b hb=>(f2 b hb).1,w0⟩
 rintro n s3 ⟨i,σ3,H3,I3,st3,fr3,w3⟩
 rcases turn i n σ3 H3 w3 with ⟨stop,qn⟩ | ⟨go,N,hN,step⟩
 ·refine wpAny_passesOwn hp (thn (T.done X rfl rfl rfl hc i pins s3 σ3 H3 X.xe I3 (stat fr3) st3 stop) fun r s4 ⟨hr,I4⟩ => ?_)
  subst hr
  exact wpAny_execs_nil ⟨σ3,H3,I4,qn⟩
 ·refine wpAny_passesOwn hp (thn (T.item X rfl rfl rfl hc i pins s3 σ3 H3 X.xe I3 (stat fr3) st3 go) fun r s4 ⟨u,hr,h4⟩ => ?_)
  subst hr
  refine wpAny_passesOwn hp (thn h4 fun _ s5 ⟨x,H5,I5,r5,y5,st5,fr5⟩ => ?_)
  have I5':=I5.pinned (stat fr5) (T.obj _ _ st5)
  refine wpAny_passesOwn hp (thn (hg _ s5 σ3 H5 x u _ I5' r5 (step x H5 y5)) fun _ s6 ⟨σ6,H6,I6,q6⟩ => ?_)
  refine wpAny_passesOwn hp (thn (hb _ s6 σ6 H6 _ I6 q6) fun f s7 q7 => ?_)
  have again:∀ {σ7:St} {H7:Hp},Inv X (pins ++ pinsAt fp s5.heap) σ7 H7 s7->N σ7 H7->∃ m,m < n/\∃ i σ' H',Inv X pins σ' H' s7/\tn i s7.heap/\(∀ b∈fp,H' b=none)/\W i m σ' H':=fun {σ7 H7} I7 n7=>by
   obtain ⟨m',hm,w7⟩:=hN σ7 H7 n7
   refine ⟨m',hm,i + 1,σ7,H7,I7.unpinned,T.keep _ _ _ st5 fun b hb o e=>(I7.pin (b,o) (List.mem_append_right _ (List.mem_append_right _ (zb3 hb e)))).1,fun b hb => ?_,w7⟩
   obtain ⟨o,e,d⟩:=T.obj _ _ st5 b hb
   exact (I7.pin (b,o) (List.mem_append_right _ (List.mem_append_right _ (zb3 hb e)))).2.1
  cases f with
  | next=>obtain ⟨σ7,H7,I7,n7⟩:=q7; exact again I7 n7
  | cont=>obtain ⟨σ7,H7,I7,n7⟩:=q7; exact again I7 n7
  | brk=>obtain ⟨σ7,H7,I7,q7⟩:=q7; exact ⟨σ7,H7,I7.unpinned,q7⟩
  | ret v=>obtain ⟨x7,σ7,H7,I7,r7,q7⟩:=q7; exact ⟨x7,σ7,H7,I7.unpinned,r7,q7⟩
end
end L2
namespace L2
open PySem PySem.Spec PyProof.Rows
noncomputable abbrev R2:=V->V->Hp->VK->Prop
noncomputable def OpR (X:Cx) (f:Value->Value->Sem Value) (r:R2):Prop :=
 ∀ (pins:List (Addr×Obj)) (s:Shared) (σ : St) (H:Hp) (x y:V) (v u:Value) (Q:VK),Inv X pins σ H s->RelV x v->RelV y u->r x y H Q ->
  wpAny (model X.prog X.w) X.A (f v u) (EP X pins σ Q) X.xe s
noncomputable def UnR (X:Cx) (f:Value->Sem Value) (r:V->Hp->VK->Prop):Prop :=
 ∀ (pins:List (Addr×Obj)) (s:Shared) (σ : St) (H:Hp) (x:V) (v:Value) (Q:VK),Inv X pins σ H s->RelV x v->r x H Q ->
  wpAny (model X.prog X.w) X.A (f v) (EP X pins σ Q) X.xe s
noncomputable def CallR (X:Cx) (f:Value) (r:List V->Hp->VK->Prop):Prop :=
 ∀ (pins:List (Addr×Obj)) (s:Shared) (σ : St) (H:Hp) (xs:List V) (us:List Value) (Q:VK),Inv X pins σ H s->Vals xs us->r xs H Q ->
  wpAny (model X.prog X.w) X.A (call f us) (EP X pins σ Q) X.xe s
noncomputable def tOp (r:R2) (ta tb:TE):TE:=fun σ H Q=>ta σ H fun x H1=>tb σ H1 fun y H2=>r x y H2 Q
noncomputable def tUn (r:V->Hp->VK->Prop) (ta:TE):TE:=fun σ H Q=>ta σ H fun x H1=>r x H1 Q
noncomputable def rI (C:Int->Int->Prop) (g:Int->Int->V):R2:=fun x y H Q=>∃ i j,x = .int i/\y = .int j/\C i j/\Q (g i j) H
noncomputable def rI0 (g:Int->Int->V):R2:=fun x y H Q=>∃ i j,x = .int i/\y = .int j/\Q (g i j) H
noncomputable def rU (g:Int->V):V->Hp->VK->Prop:=fun x H Q=>∃ i,x = .int i/\Q (g i) H
section
variable {X:Cx} {a b c:Expr} {ta tb tc:TE} {pos:Pos}
theorem binT (ha:PE X a ta) (hb:PE X b tb) {pins:List (Addr×Obj)} {s:Shared} {σ : St} {H:Hp} {R:V->V->Hp->Prop} (I:Inv X pins σ H s)
  (h:ta σ H fun x H1=>tb σ H1 fun y H2=>R x y H2) {Q:Value->Shared->Prop} {f:Value->Value->Sem Value}
  (hf:∀ v u s2 x y H2,Inv X pins σ H2 s2->RelV x v->RelV y u->R x y H2->wpAny (model X.prog X.w) X.A (f v u) Q X.xe s2) :
  wpAny (model X.prog X.w) X.A (eval a X.env) (fun v s₁ => wpAny (model X.prog X.w) X.A (eval b X.env) (fun u s₂ => wpAny (model X.prog X.w) X.A (f v u) Q X.xe s₂) X.xe s₁) X.xe s:=by
 refine thn (ha pins s σ H _ I h) fun v s1 ⟨x,H1,I1,r1,q1⟩ => ?_
 refine thn (hb pins s1 σ H1 _ I1 q1) fun u s2 ⟨y,H2,I2,r2,q2⟩ => ?_
 exact hf v u s2 x y H2 I2 r1 r2 q2
theorem zav {op:Operator} {r:R2} (ho:OpR X (binaryOp op) r) (ha:PE X a ta) (hb:PE X b tb):PE X (.BinOp a op b pos) (tOp r ta tb):=by
 intro pins s σ H Q I h
 exact wpAny_BinOp (binT ha hb I h fun v u s2 x y H2 I2 rx ry q=>ho pins s2 σ H2 x y v u Q I2 rx ry q)
theorem zeV {op:UnaryOp} {r:V->Hp->VK->Prop} (ho:UnR X (unaryOp op) r) (ha:PE X a ta):PE X (.UnaryOp op a pos) (tUn r ta):=by
 intro pins s σ H Q I h
 exact UnaryOp_ (thn (ha pins s σ H _ I h) fun v s1 ⟨x,H1,I1,r1,q1⟩=>ho pins s1 σ H1 x v Q I1 r1 q1)
theorem opI {f:Value->Value->Sem Value} {C:Int->Int->Prop} {g:Int->Int->Int}
  (rule:∀ (i j:Int) (t u:Tok) (s:Shared) (Q:Value->Shared->Prop) (E:Value->Shared->Prop),C i j->Q (.int (g i j) s.toks) { s with toks:=s.toks + 1 }->wpAny (model X.prog X.w) X.A (f (.int i t) (.int j u)) Q E s) :
  OpR X f (rI C fun i j => .int (g i j)):=by
 intro pins s σ H x y v u Q I rx ry h
 obtain ⟨i,j,rfl,rfl,hc,q⟩:=h
 obtain ⟨t,rfl⟩:=rx
 obtain ⟨t',rfl⟩:=ry
 exact rule i j t t' s _ _ hc ⟨.int (g i j),H,I.tok _,⟨_,rfl⟩,q⟩
theorem opI0 {f:Value->Value->Sem Value} {g:Int->Int->Int}
  (rule:∀ (i j:Int) (t u:Tok) (s:Shared) (Q:Value->Shared->Prop) (E:Value->Shared->Prop),Q (.int (g i j) s.toks) { s with toks:=s.toks + 1 }->wpAny (model X.prog X.w) X.A (f (.int i t) (.int j u)) Q E s) :
  OpR X f (rI0 fun i j => .int (g i j)):=by
 intro pins s σ H x y v u Q I rx ry h
 obtain ⟨i,j,rfl,rfl,q⟩:=h
 obtain ⟨t,rfl⟩:=rx
 obtain ⟨t',rfl⟩:=ry
 exact rule i j t t' s _ _ ⟨.int (g i j),H,I.tok _,⟨_,rfl⟩,q⟩
theorem opB0 {f:Value->Value->Sem Value} {g:Int->Int->Bool}
  (rule:∀ (i j:Int) (t u:Tok) (s:Shared) (Q:Value->Shared->Prop) (E:Value->Shared->Prop),Q (.bool (g i j)) s->wpAny (model X.prog X.w) X.A (f (.int i t) (.int j u)) Q E s) :
  OpR X f (rI0 fun i j => .bl (g i j)):=by
 intro pins s σ H x y v u Q I rx ry h
 obtain ⟨i,j,rfl,rfl,q⟩:=h
 obtain ⟨t,rfl⟩:=rx
 obtain ⟨t',rfl⟩:=ry
 exact rule i j t t' s _ _ ⟨.bl (g i j),H,I,rfl,q⟩
noncomputable def CDiv (i j:Int):Prop:=0 < j/\j < 1073741824
noncomputable def CPow (i j:Int):Prop:=0<=j/\j<=1000000/\i.natAbs < 2 ^ 64
noncomputable def CMul (i j:Int):Prop:=(-(2 ^ 64) < i/\i < 2 ^ 64)\/(-(2 ^ 64) < j/\j < 2 ^ 64)
theorem CMul.ok {i j:Int} (h:CMul i j):IntMulOk i j:=by
 rcases h with ⟨h1,h2⟩ | ⟨h1,h2⟩
 ·exact .of_left (intBits_le_64 h1 h2)
 ·exact .of_right (intBits_le_64 h1 h2)
theorem two_pow_nn (k:Nat):(0:Int)<=2 ^ k:=by
 rw [two_pow_cast]
 exact Int.natCast_nonneg _
theorem zaO:OpR X (binaryOp .Add) (rI0 fun i j => .int (i + j)):=opI0 fun _ _ _ _ _ _ _ q=>add_int q
theorem zb0:OpR X (binaryOp .Sub) (rI0 fun i j => .int (i - j)):=opI0 fun _ _ _ _ _ _ _ q=>sub_int q
theorem zdQ:OpR X (binaryOp .Mult) (rI CMul fun i j => .int (i * j)):=opI fun _ _ _ _ _ _ _ hc q=>mul_int q hc.ok
theorem zcb:OpR X (binaryOp .FloorDiv) (rI CDiv fun i j => .int (i / j)):=opI fun i j _ _ _ _ _ hc q=>by
 have h1:(0:Int) < j:=hc.1
 have h2:j < 1073741824:=hc.2
 exact floordiv_int (by omega) (by rw [Int.fdiv_eq_ediv_of_nonneg i (by omega)]; exact q) (.inl (PyProof.noPylong_small (by omega)))
theorem zbh:OpR X (binaryOp .Mod) (rI (fun _ j=>0 < j) fun i j => .int (i % j)):=opI fun i j _ _ _ _ _ hc q=>by
 have h1:(0:Int) < j:=hc
 exact mod_int' (by omega) (by rw [Int.fmod_eq_emod_of_nonneg i (by omega)]; exact q)
theorem zgI:OpR X (binaryOp .Pow) (rI CPow fun i j => .int (i ^ j.toNat)):=opI fun _ _ _ _ _ _ _ hc q=>pow_int_small hc.1 hc.2.1 hc.2.2 q
theorem zgH:OpR X (binaryOp .RShift) (rI (fun _ j=>0<=j) fun i j => .int (i / 2 ^ j.toNat)):=opI fun i j _ _ _ _ _ hc q =>
 rshift_int hc (by rw [Int.fdiv_eq_ediv_of_nonneg i (two_pow_nn _)]; exact q)
theorem zf6:OpR X (binaryOp .BitAnd) (rI0 fun i j => .int (Builtin.bitAnd i j)):=opI0 fun _ _ _ _ _ _ _ q=>and_int q
theorem unI {f:Value->Sem Value} {g:Int->Int}
  (rule:∀ (i:Int) (t:Tok) (s:Shared) (Q:Value->Shared->Prop) (E:Value->Shared->Prop),Q (.int (g i) s.toks) { s with toks:=s.toks + 1 }->wpAny (model X.prog X.w) X.A (f (.int i t)) Q E s) :
  UnR X f (rU fun i => .int (g i)):=by
 intro pins s σ H x v Q I rx h
 obtain ⟨i,rfl,q⟩:=h
 obtain ⟨t,rfl⟩:=rx
 exact rule i t s _ _ ⟨.int (g i),H,I.tok _,⟨_,rfl⟩,q⟩
theorem zc2:UnR X (unaryOp .USub) (rU fun i => .int (-i)):=unI fun _ _ _ _ _ q=>neg_int q
end
noncomputable def scal:V->V->Bool
 | .non,.non=>true | .non,.int _=>true | .int _,.non=>true | .non,.bl _=>true | .bl _,.non=>true | .non,.str _=>true | .str _,.non=>true
 | .int _,.int _=>true | .bl _,.bl _=>true | .str _,.str _=>true | .byt _,.byt _=>true
 | .int _,.str _=>true | .str _,.int _=>true | .bl _,.str _=>true | .str _,.bl _=>true
 | _,_=>false
noncomputable def rEq:R2:=fun x y H Q=>scal x y=true/\Q (.bl (decide (x=y))) H
noncomputable def rNe:R2:=fun x y H Q=>scal x y=true/\Q (.bl (!decide (x=y))) H
theorem zgn {i j:Int}:decide (V.int i=V.int j)=(i == j):=by
 rw [Bool.eq_iff_iff]
 simp
theorem zgQ {i j:Bool}:decide (V.bl i=V.bl j)=(i == j):=by
 rw [Bool.eq_iff_iff]
 simp
theorem zgm {i j:Str}:decide (V.str i=V.str j)=(i == j):=by
 rw [Bool.eq_iff_iff]
 simp
theorem zgo {i j:Array UInt8}:decide (V.byt i=V.byt j)=(i.toList == j.toList):=by
 rw [Bool.eq_iff_iff]
 cases i
 cases j
 simp
section
variable {X:Cx} {a b c:Expr} {ta tb tc:TE} {pos:Pos}
theorem zaJ {pins:List (Addr×Obj)} {σ : St} {H:Hp} {s:Shared} {Q:VK} {k k':Bool} (I:Inv X pins σ H s) (q:Q (.bl k) H) (e:k=k'):EP X pins σ Q (.bool k') s:=by
 subst e
 exact ⟨.bl k,H,I,rfl,q⟩
theorem zcx:OpR X (compareOp .Eq) rEq:=by
 intro pins s σ H x y v u Q I rx ry h
 obtain ⟨hs,q⟩:=h
 cases x with
 | non =>
  cases rx
  cases y with
  | non=>cases ry; exact PySem.EqNone.eq_none_none (zaJ I q (by simp))
  | bl j=>cases ry; exact PySem.EqNone.eq_none_bool (zaJ I q (by simp))
  | int j=>obtain ⟨t',rfl⟩:=ry; exact PySem.EqNone.eq_none_int (zaJ I q (by simp))
  | str j=>obtain ⟨t',rfl⟩:=ry; exact PySem.EqNone.eq_none_str (zaJ I q (by simp))
  | _=>exact absurd (show false=true from hs) Bool.false_ne_true
 | bl i =>
  cases rx
  cases y with
  | non=>cases ry; exact PySem.EqNone.eq_bool_none (zaJ I q (by simp))
  | bl j=>cases ry; exact eq_bool (zaJ I q zgQ)
  | str j=>obtain ⟨t',rfl⟩:=ry; exact PySem.EqMixed.eq_bool_str (zaJ I q (by simp))
  | _=>exact absurd (show false=true from hs) Bool.false_ne_true
 | int i =>
  obtain ⟨t,rfl⟩:=rx
  cases y with
  | non=>cases ry; exact PySem.EqNone.eq_int_none (zaJ I q (by simp))
  | int j=>obtain ⟨t',rfl⟩:=ry; exact eq_int (zaJ I q zgn)
  | str j=>obtain ⟨t',rfl⟩:=ry; exact PySem.EqMixed.eq_int_str (zaJ I q (by simp))
  | _=>exact absurd (show false=true from hs) Bool.false_ne_true
 | str i =>
  obtain ⟨t,rfl⟩:=rx
  cases y with
  | non=>cases ry; exact PySem.EqNone.eq_str_none (zaJ I q (by simp))
  | bl j=>cases ry; exact PySem.EqMixed.eq_str_bool (zaJ I q (by simp))
  | int j=>obtain ⟨t',rfl⟩:=ry; exact PySem.EqMixed.eq_str_int (zaJ I q (by simp))
  | str j=>obtain ⟨t',rfl⟩:=ry; exact eq_str (zaJ I q zgm)
  | _=>exact absurd (show false=true from hs) Bool.false_ne_true
 | byt i =>
  obtain ⟨t,rfl⟩:=rx
  cases y with
  | byt j=>obtain ⟨t',rfl⟩:=ry; exact PySem.W.eq_bytes (zaJ I q zgo)
  | _=>exact absurd (show false=true from hs) Bool.false_ne_true
 | _=>cases y <;> exact absurd (show false=true from hs) Bool.false_ne_true
theorem zcI:OpR X (compareOp .NotEq) rNe:=by
 intro pins s σ H x y v u Q I rx ry h
 obtain ⟨hs,q⟩:=h
 cases x with
 | non =>
  cases rx
  cases y with
  | non=>cases ry; exact PySem.EqNone.ne_none_none (zaJ I q (by simp))
  | bl j=>cases ry; exact PySem.EqNone.ne_none_bool (zaJ I q (by simp))
  | int j=>obtain ⟨t',rfl⟩:=ry; exact PySem.EqNone.ne_none_int (zaJ I q (by simp))
  | str j=>obtain ⟨t',rfl⟩:=ry; exact PySem.EqNone.ne_none_str (zaJ I q (by simp))
  | _=>exact absurd (show false=true from hs) Bool.false_ne_true
 | bl i =>
  cases rx
  cases y with
  | non=>cases ry; exact PySem.EqNone.ne_bool_none (zaJ I q (by simp))
  | bl j=>cases ry; exact ne_bool (zaJ I q (congrArg not zgQ))
  | str j=>obtain ⟨t',rfl⟩:=ry; exact PySem.EqMixed.ne_bool_str (zaJ I q (by simp))
  | _=>exact absurd (show false=true from hs) Bool.false_ne_true
 | int i =>
  obtain ⟨t,rfl⟩:=rx
  cases y with
  | non=>cases ry; exact PySem.EqNone.ne_int_none (zaJ I q (by simp))
  | int j=>obtain ⟨t',rfl⟩:=ry; exact ne_int (zaJ I q (congrArg not zgn))
  | str j=>obtain ⟨t',rfl⟩:=ry; exact PySem.EqMixed.ne_int_str (zaJ I q (by simp))
  | _=>exact absurd (show false=true from hs) Bool.false_ne_true
 | str i =>
  obtain ⟨t,rfl⟩:=rx
  cases y with
  | non=>cases ry; exact PySem.EqNone.ne_str_none (zaJ I q (by simp))
  | bl j=>cases ry; exact PySem.EqMixed.ne_str_bool (zaJ I q (by simp))
  | int j=>obtain ⟨t',rfl⟩:=ry; exact PySem.EqMixed.ne_str_int (zaJ I q (by simp))
  | str j=>obtain ⟨t',rfl⟩:=ry; exact ne_str (zaJ I q (congrArg not zgm))
  | _=>exact absurd (show false=true from hs) Bool.false_ne_true
 | byt i =>
  obtain ⟨t,rfl⟩:=rx
  cases y with
  | byt j=>obtain ⟨t',rfl⟩:=ry; exact PySem.W.ne_bytes (zaJ I q (congrArg not zgo))
  | _=>exact absurd (show false=true from hs) Bool.false_ne_true
 | _=>cases y <;> exact absurd (show false=true from hs) Bool.false_ne_true
theorem zeY:OpR X (compareOp .Lt) (rI0 fun i j => .bl (decide (i < j))):=opB0 fun _ _ _ _ _ _ _ q=>lt_int q
theorem zd8:OpR X (compareOp .LtE) (rI0 fun i j => .bl (decide (i<=j))):=opB0 fun _ _ _ _ _ _ _ q=>le_int q
theorem zgy:OpR X (compareOp .Gt) (rI0 fun i j => .bl (decide (j < i))):=opB0 fun _ _ _ _ _ _ _ q=>gt_int q
theorem zd9:OpR X (compareOp .GtE) (rI0 fun i j => .bl (decide (j<=i))):=opB0 fun _ _ _ _ _ _ _ q=>ge_int q
theorem op_notN:OpR X (compareOp .IsNot) (fun x y H Q=>y = .non/\Q (.bl (!decide (x = .non))) H):=by
 intro pins s σ H x y v u Q I rx ry h
 obtain ⟨rfl,q⟩:=h
 cases ry
 refine isnot_none_gen (zaJ I q ?_)
 cases x <;> first
  | (cases rx; rfl)
  | (obtain ⟨t,rfl⟩:=rx; rfl)
theorem zat (b:Expr) {op:CmpOp} (h:op ≠ .In:=by decide) (h2:op ≠ .NotIn:=by decide):behindInMarks op b=false:=by
 have e1:(op == CmpOp.In)=false:=by cases op <;> first | rfl | exact absurd rfl h
 have e2:(op == CmpOp.NotIn)=false:=by cases op <;> first | rfl | exact absurd rfl h2
 cases b <;> simp [behindInMarks,e1,e2]
theorem zbL {op:CmpOp} {r:R2} (ho:OpR X (compareOp op) r) (ha:PE X a ta) (hb:PE X b tb) (hm:behindInMarks op b=false):PE X (.Compare a [op] [b] pos) (tOp r ta tb):=by
 intro pins s σ H Q I h
 exact wpAny_Compare1 (binT ha hb I h fun v u s2 x y H2 I2 rx ry q=>ho pins s2 σ H2 x y v u Q I2 rx ry q) hm
noncomputable def tTest (t:TE):TT:=fun σ H Q=>t σ H fun x H'=>∃ k,x = .bl k/\Q k H'
theorem zak {op:CmpOp} {r:R2} (ho:OpR X (compareOp op) r) (ha:PE X a ta) (hb:PE X b tb) (hm:behindInMarks op b=false):PT X (.Compare a [op] [b] pos) (tTest (tOp r ta tb)):=by
 intro pins s σ H Q I h
 refine wpAny_isTrue_Compare1 (thn (ha pins s σ H _ I h) fun v s1 ⟨x,H1,I1,r1,q1⟩=>thn (hb pins s1 σ H1 _ I1 q1) fun u s2 ⟨y,H2,I2,r2,q2⟩ =>
  thn (ho pins s2 σ H2 x y v u _ I2 r1 r2 q2) fun c s3 ⟨z,H3,I3,r3,k,e,q3⟩ => ?_) hm
 subst e
 cases r3
 exact wpAny_truthy_bool ⟨H3,I3,q3⟩
noncomputable def tChain (r r':R2) (ta tb tc:TE):TE:=fun σ H Q=>ta σ H fun x H1=>tb σ H1 fun y H2=>r x y H2 fun z H3=>∃ k,z = .bl k /\
 (if k=true then tc σ H3 fun w' H4=>r' y w' H4 Q else Q (.bl false) H3)
theorem zfw {op op':CmpOp} {r r':R2} (ho:OpR X (compareOp op) r) (ho':OpR X (compareOp op') r') (ha:PE X a ta) (hb:PE X b tb) (hc:PE X c tc)
  (hm:lastMarks [op,op'] [b,c]=false:=by with_unfolding_all rfl):PE X (.Compare a [op,op'] [b,c] pos) (tChain r r' ta tb tc):=by
 intro pins s σ H Q I h
 refine Compare_chain (thn (ha pins s σ H _ I h) fun v s1 ⟨x,H1,I1,r1,q1⟩=>chain_link (thn (hb pins s1 σ H1 _ I1 q1) fun u s2 ⟨y,H2,I2,r2,q2⟩ =>
  thn (ho pins s2 σ H2 x y v u _ I2 r1 r2 q2) fun d s3 ⟨z,H3,I3,r3,k,e,q3⟩ => ?_)) hm
 subst e
 cases r3
 refine wpAny_truthy_bool ?_
 cases k with
 | false=>exact ite_ff ⟨.bl false,H3,I3,rfl,q3⟩
 | true=>exact ite_tt (chain_last (thn (hc pins s3 σ H3 _ I3 q3) fun w' s4 ⟨z',H4,I4,r4,q4⟩=>ho' pins s4 σ H4 y z' u w' Q I4 r2 r4 q4))
theorem zd4 {op op':CmpOp} {r r':R2} (ho:OpR X (compareOp op) r) (ho':OpR X (compareOp op') r') (ha:PE X a ta) (hb:PE X b tb) (hc:PE X c tc)
  (hm:lastMarks [op,op'] [b,c]=false:=by with_unfolding_all rfl):PT X (.Compare a [op,op'] [b,c] pos) (tTest (tChain r r' ta tb tc)):=by
 intro pins s σ H Q I h
 refine isTrue_chain (thn (ha pins s σ H _ I h) fun v s1 ⟨x,H1,I1,r1,q1⟩=>test_link (thn (hb pins s1 σ H1 _ I1 q1) fun u s2 ⟨y,H2,I2,r2,q2⟩ =>
  thn (ho pins s2 σ H2 x y v u _ I2 r1 r2 q2) fun d s3 ⟨z,H3,I3,r3,k,e,q3⟩ => ?_)) hm
 subst e
 cases r3
 refine wpAny_truthy_bool ?_
 cases k with
 | false =>
  obtain ⟨k',e',q'⟩:=q3
  cases e'
  exact ite_ff ⟨H3,I3,q'⟩
 | true =>
  refine ite_tt (test_last (thn (hc pins s3 σ H3 _ I3 q3) fun w' s4 ⟨z',H4,I4,r4,q4⟩=>thn (ho' pins s4 σ H4 y z' u w' _ I4 r2 r4 q4) fun d' s5 ⟨z2,H5,I5,r5,k2,e2,q5⟩ => ?_))
  subst e2
  cases r5
  exact wpAny_truthy_bool ⟨H5,I5,q5⟩
theorem zdR:(sizeLine:Nat) < 2 ^ 63:=by rw [sizeLine_eq]; decide
theorem op_add_str:OpR X (binaryOp .Add) (fun x y H Q=>∃ i j,x = .str i/\y = .str j/\i.length + j.length<=sizeLine/\Q (.str (i ++ j)) H):=by
 intro pins s σ H x y v u Q I rx ry h
 obtain ⟨i,j,rfl,rfl,hz,q⟩:=h
 obtain ⟨t,rfl⟩:=rx
 obtain ⟨t',rfl⟩:=ry
 exact add_str (fun t' tk=>⟨.str (i ++ j),H,I.tok _,⟨_,rfl⟩,q⟩) hz
theorem zbJ {x:V} {us:List Value} (r:Vals [x] us):∃ u,us = [u]/\RelV x u:=by
 cases r with
 | cons r1 r2=>cases r2; exact ⟨_,rfl,r1⟩
theorem zgW {x y:V} {us:List Value} (r:Vals [x,y] us):∃ u w',us = [u,w']/\RelV x u/\RelV y w':=by
 cases r with
 | cons r1 r2 =>
  cases r2 with
  | cons r3 r4=>cases r4; exact ⟨_,_,rfl,r1,r3⟩
end
end L2
namespace L2
open PySem PySem.Spec PyProof.Rows
structure ObjM (h:Heap) (x dx C:Addr) (mA:Str->Option Value):Prop where
 obj:h.get? x=some (PySem.W.instObj C dx)
 ns:h.Ns1 dx mA
 ne:dx≠x
theorem lookIn_ns {h:Heap} {dx:Addr} {mA:Str->Option Value} (n:h.Ns1 dx mA):∃ od,h.get? dx=some od/\∀ name,PySem.W.lookIn name od=some (mA name):=by
 obtain ⟨o,es,ep,ho,hd,hk,_,hm⟩:=n
 refine ⟨o,ho,fun name => ?_⟩
 have e:=hm name
 unfold nsFind findBy at e
 rw [<- Array.find?_toList] at e
 unfold PySem.W.lookIn
 rw [hd]
 dsimp only
 split
 ·rename_i y q
  rw [q] at e
  exact congrArg some e
 ·rename_i q
  rw [q] at e
  have a:es.toList.any (·.refKey)=false:=by
   rw [List.any_eq_false]
   intro y hy
   obtain ⟨z,t,hkey⟩:=hk y (Array.mem_toList_iff.mp hy)
   simp [DictEntry.refKey,hkey]
  have a':¬ es.toList.any (·.refKey)=true:=by rw [a]; exact Bool.false_ne_true
  rw [if_neg a']
  exact congrArg some e
theorem ObjM.look {h:Heap} {x dx C:Addr} {mA:Str->Option Value} (I:ObjM h x dx C mA):∃ od,PySem.W.InstAt h x (PySem.W.instObj C dx) C (some od)/\∀ name,PySem.W.lookIn name od=some (mA name) :=
 let ⟨od,ho,hl⟩:=lookIn_ns I.ns
 ⟨od,⟨I.obj,rfl,rfl,ho⟩,hl⟩
section
variable {prog:Program} {w:World} {A:Around} {E:Value->Shared->Prop} {s:Shared} {K:PySem.W.Frag} {x dx C f:Addr} {mA:Str->Option Value} {name:Str} {v:Value}
theorem get_map {expr:Bool} {Q:Value->Shared->Prop} (X:K.In s.heap) (I:ObjM s.heap x dx C mA) (hg:PySem.W.plainGet K C name=true) (hh:PySem.W.hasDictIn K C=true)
  (ha:PySem.W.findIn K (.ref C) name=some none) (hv:mA name=some v) (hv':PySem.W.handedIn v=true) (h:Q v { s with toks:=s.toks + 1 }) :
  wpAny (model prog w) A (getAttr (.ref x) name expr) Q E s:=by
 obtain ⟨od,J,hl⟩:=I.look
 exact PySem.W.get_value X J (PySem.W.plainGet_of hg).1 (PySem.W.findObj_own hh ha rfl (by rw [hl,hv])) hv' h
theorem get_meth {pl:Sem Bool} {Q:Value×List Value->Shared->Prop} (X:K.In s.heap) (I:ObjM s.heap x dx C mA) (hg:PySem.W.plainGet K C name=true)
  (hf:PySem.W.findIn K (.ref C) name=some (some (.ref f))) (ht:PySem.W.isFn K (.ref f)=true) (hv:mA name=none) (h:Q (.ref f,[.ref x]) s) :
  wpAny (model prog w) A (getMethod (.ref x) name pl) Q E s:=by
 obtain ⟨od,J,hl⟩:=I.look
 exact PySem.W.method_fn X J (PySem.W.plainGet_of hg).1 (PySem.W.plainGet_of hg).2 hf (beq_iff_eq.mp ht) (by show (PySem.W.lookIn name od).map (·.isSome)=some false; rw [hl,hv]; rfl) h
theorem set_map {ns:List Str} {Q:Unit->Shared->Prop} (X:K.In s.heap) (I:ObjM s.heap x dx C mA)
  (hs:PySem.W.findIn K (.ref C) "__setattr__" = some (some (.builtin "object.__setattr__"))) (hp:PySem.W.plainOver K C=true) (ht:PySem.W.takerIn K C name=some none) (hh:PySem.W.hasDictIn K C=true)
  (hw:PySem.Within mA ns) (hsz:ns.length<=sizeLine)
  (h:∀ h',ObjM h' x dx C (fun y=>if y=name then some v else mA y)->Heap.SameBut dx s.heap h'->Q () { s with heap:=h',toks:=s.toks + 2 }) :
  wpAny (model prog w) A (setAttr (.ref x) name v) Q E s:=by
 obtain ⟨od,J,hl⟩:=I.look
 refine PySem.W.set_plain X J hs (PySem.W.osa_open (s:={ s with toks:=s.toks + 1 }) (r:=none) X J hp ht fun b => ?_)
 obtain ⟨cd,hc,hd'⟩:=PySem.W.any_some hh
 have hx:s.heap.get? x=some ⟨.ref C,some dx,.plain,#[]⟩:=I.obj
 refine wpAny_bind (wpAny_pure (wpAny_bind (wpAny_bind (wpAny_loadPart hx (wpAny_bind (PySem.W.Looks.here (s:={ s with toks:=s.toks + 1 }) (PySem.W.looks_clsIn X hc) ?_))))))
 rw [hd']
 refine wpAny_pure (a:=some dx) (wpAny_bind (wpAny_pure (wpAny_bind ?_)))
 refine wpAny_nsSet1 (s:={ s with toks:=s.toks + 1 }) I.ns fun h' hn2 hs2 => ?_
 obtain ⟨oD,esD,epD,hoD,hdD,hcD⟩:=hn2.count (PySem.Within.cons name v hw)
 refine wpAny_bind (wpAny_lookBehind hoD (by rw [hdD]; exact pastItsLine_dict (Nat.le_trans hcD (by rw [List.length_cons]; omega))) ?_)
 exact wpAny_pure (h _ ⟨(hs2.2 _ (Ne.symm I.ne)).trans I.obj,hn2,I.ne⟩ hs2)
theorem make_map {R:Result->Shared->Prop} {vs:List Value} {kw:List (Str×Value)} (X:K.In s.heap) (hm:PySem.W.makesIn K C=true)
  (hi:PySem.W.findIn K (.ref C) "__init__" = some (some (.ref f))) (hf:PySem.W.typeIn K (.ref f)=some (.type "function"))
  (h:codeAny (model prog w) (A.under (.builtin "type.__call__" ⟨.ref C :: vs,kw⟩)) (.call (.ref f) ⟨.ref (s.heap.objs.size + 1) :: vs,kw⟩) (PySem.W.InitBack (s.heap.objs.size + 1) R)
   { s with heap:=(s.heap.push PySem.W.emptyDict).push (PySem.W.instObj C s.heap.objs.size) }) :
  codeAny (model prog w) A (.call (.ref C) ⟨vs,kw⟩) R s:=by
 obtain ⟨hh,g,d,t,os⟩:=s
 exact PySem.W.make_core (PySem.W.makes_of X hm) (PySem.W.looks_findIn X hi) (fun self=>PySem.W.bind_fn X self hf) (.inl rfl) h
end
noncomputable def putF (f:Str) (v:V):List (Str×V)->List (Str×V)
 | [] => [(f,v)]
 | (g,x) :: r=>if g=f then (g,v) :: r else (g,x) :: putF f v r
theorem zdk (f g:Str) (v:V):∀ fs:List (Str×V),(putF f v fs).lookup g=if g=f then some v else fs.lookup g
 | []=>by
  show List.lookup g [(f,v)]=_
  by_cases h:g=f
  ·have hb:(g == f)=true:=beq_iff_eq.mpr h
   simp only [List.lookup,hb,if_pos h]
  ·have hb:(g == f)=false:=beq_eq_false_iff_ne.mpr h
   simp only [List.lookup,hb,if_neg h]
 | (k,x) :: r=>by
  have ih:=zdk f g v r
  rw [show putF f v ((k,x) :: r)=(if k=f then (k,v) :: r else (k,x) :: putF f v r) from rfl]
  by_cases hk:k=f
  ·rw [if_pos hk]
   by_cases h:g=k
   ·have hb:(g == k)=true:=beq_iff_eq.mpr h
    simp only [List.lookup,hb,if_pos (h.trans hk)]
   ·have hb:(g == k)=false:=beq_eq_false_iff_ne.mpr h
    simp only [List.lookup,hb,if_neg (fun e:g=f=>h (e.trans hk.symm))]
  ·rw [if_neg hk]
   by_cases h:g=k
   ·have hb:(g == k)=true:=beq_iff_eq.mpr h
    simp only [List.lookup,hb,if_neg (fun e:g=f=>hk (h.symm.trans e))]
   ·have hb:(g == k)=false:=beq_eq_false_iff_ne.mpr h
    simp only [List.lookup,hb]
    exact ih
theorem zdn (f:Str) (v:V):∀ fs:List (Str×V),f∈(putF f v fs).map (·.1)/\∀ g,g∈fs.map (·.1)->g∈(putF f v fs).map (·.1)
 | []=>⟨by simp [putF],fun g h=>by simp at h⟩
 | (k,x) :: r=>by
  obtain ⟨i1,i2⟩:=zdn f v r
  rw [show putF f v ((k,x) :: r)=(if k=f then (k,v) :: r else (k,x) :: putF f v r) from rfl]
  by_cases hk:k=f
  ·rw [if_pos hk]
   subst hk
   exact ⟨by simp,fun g h=>by simpa using h⟩
  ·rw [if_neg hk]
   refine ⟨?_,fun g h => ?_⟩
   ·rw [List.map_cons]
    exact List.mem_cons_of_mem _ i1
   ·rw [List.map_cons] at h ⊢
    rcases List.mem_cons.mp h with e | e
    ·exact List.mem_cons.mpr (.inl e)
    ·exact List.mem_cons_of_mem _ (i2 g e)
theorem zdl (f:Str) (v:V):∀ fs:List (Str×V),(putF f v fs).length<=fs.length + 1
 | []=>by simp [putF]
 | (k,x) :: r=>by
  have ih:=zdl f v r
  rw [show putF f v ((k,x) :: r)=(if k=f then (k,v) :: r else (k,x) :: putF f v r) from rfl]
  by_cases hk:k=f
  ·rw [if_pos hk,List.length_cons,List.length_cons]; omega
  ·rw [if_neg hk,List.length_cons,List.length_cons]; omega
theorem RelO.some_of {v:V} {o:Option Value} (r:RelO (some v) o):∃ u,o=some u/\RelV v u:=by
 cases o with
 | none=>exact (show False from r).elim
 | some u=>exact ⟨u,rfl,r⟩
theorem RelO.none_of {o:Option Value} (r:RelO none o):o=none:=by
 cases o with
 | none=>rfl
 | some u=>exact (show False from r).elim
theorem handed_of {v:V} {u:Value} (r:RelV v u):PySem.W.handedIn u=true:=by
 cases v with
 | non=>cases (show u=Value.none from r); rfl
 | bl b=>cases (show u=Value.bool b from r); rfl
 | int i=>obtain ⟨t,e⟩:=(show ∃ t,u=Value.int i t from r); cases e; rfl
 | str x=>obtain ⟨t,e⟩:=(show ∃ t,u=Value.str x t from r); cases e; rfl
 | byt b=>obtain ⟨t,e⟩:=(show ∃ t,u=Value.bytes b t from r); cases e; rfl
 | flt b=>obtain ⟨t,e⟩:=(show ∃ t,u=Value.float b t from r); cases e; rfl
 | ref a=>cases (show u=Value.ref a from r); rfl
 | ty n=>cases (show u=Value.type n from r); rfl
section
variable {P:Program} {w:World} {H H':Hp} {h h':Heap} {a C dx:Addr} {fs fs':List (Str×V)}
theorem zef (hok:HOk P w H h) (e:H a=some (.ins C dx fs)):∃ mA,ObjM h a dx C mA/\(∀ f,RelO (fs.lookup f) (mA f))/\PySem.Within mA (fs.map (·.1))/\fs.length<=1000/\H dx=some (.own a):=by
 obtain ⟨d,z,ne,ob,mA,n,r,q⟩:=(show ObjOk P w H h a (.ins C dx fs) from hok a _ e)
 exact ⟨mA,⟨ob,n,ne⟩,r,q,z,d⟩
end
structure Cls (K:PySem.W.Frag) (C:Addr):Prop where
 pg:PySem.W.plainGet K C Str.empty=true
 hd:PySem.W.hasDictIn K C=true
 po:PySem.W.plainOver K C=true
 sa:PySem.W.findIn K (.ref C) "__setattr__" = some (some (.builtin "object.__setattr__"))
theorem Cls.get {K:PySem.W.Frag} {C:Addr} (c:Cls K C) (f:Str):PySem.W.plainGet K C f=true:=c.pg
noncomputable def NoAttr (K:PySem.W.Frag) (C:Addr) (f:Str):Prop:=PySem.W.findIn K (.ref C) f=some none
theorem NoAttr.taker {K:PySem.W.Frag} {C:Addr} {f:Str} (n:NoAttr K C f):PySem.W.takerIn K C f=some none:=by
 unfold PySem.W.takerIn
 rw [show PySem.W.findIn K (.ref C) f=some none from n]
 rfl
structure Meth (K:PySem.W.Frag) (C:Addr) (m:Str) (f:Addr):Prop where
 at_:PySem.W.findIn K (.ref C) m=some (some (.ref f))
 fn:PySem.W.isFn K (.ref f)=true
 kp:PySem.W.keepIn K (.ref f)=true
section
variable {X:Cx} {pins:List (Addr×Obj)} {σ : St} {H:Hp} {s:Shared} {a C dx:Addr} {fs:List (Str×V)} {f:Str} {v:V} {A:Around} {E:Value->Shared->Prop}
theorem getattr_ok {b:Bool} {Q:Value->Shared->Prop} (I:Inv X pins σ H s) (e:H a=some (.ins C dx fs)) (c:Cls X.K C) (n:NoAttr X.K C f) (l:fs.lookup f=some v)
  (h:∀ u s',Inv X pins σ H s'->RelV v u->Q u s'):wpAny (model X.prog X.w) A (getAttr (.ref a) f b) Q E s:=by
 obtain ⟨mA,O,r,_,_,_⟩:=zef I.hok e
 obtain ⟨u,hu,ru⟩:=RelO.some_of (v:=v) (o:=mA f) (by rw [<- l]; exact r f)
 exact get_map I.kIn O (c.get f) c.hd n hu (handed_of ru) (h u _ (I.tok _) ru)
theorem zdU {m:Str} {g:Addr} {pl:Sem Bool} {Q:Value×List Value->Shared->Prop} (I:Inv X pins σ H s) (e:H a=some (.ins C dx fs)) (c:Cls X.K C) (k:Meth X.K C m g) (l:fs.lookup m=none)
  (h:Q (.ref g,[.ref a]) s):wpAny (model X.prog X.w) A (getMethod (.ref a) m pl) Q E s:=by
 obtain ⟨mA,O,r,_,_,_⟩:=zef I.hok e
 have hn:mA m=none:=RelO.none_of (by rw [<- l]; exact r m)
 exact get_meth I.kIn O (c.get m) k.at_ k.fn hn h
theorem setattr_ok {y:V} {u:Value} {Q:Unit->Shared->Prop} (I:Inv X pins σ H s) (e:H a=some (.ins C dx fs)) (c:Cls X.K C) (n:NoAttr X.K C f) (hl:fs.length < 1000) (ry:RelV y u)
  (h:∀ s',Inv X pins σ (upd H a (.ins C dx (putF f y fs))) s'->Q () s'):wpAny (model X.prog X.w) A (setAttr (.ref a) f u) Q E s:=by
 obtain ⟨mA,O,r,wi,_,ho⟩:=zef I.hok e
 have hz:(fs.map (·.1)).length<=sizeLine:=by rw [List.length_map,sizeLine_eq]; omega
 refine set_map I.kIn O c.sa c.po n.taker c.hd wi hz fun h' O' sb=>h _ ?_
 have hd:∃ o,h'.get? dx=some o:=let ⟨o,_,_,e',_⟩:=O'.ns; ⟨o,e'⟩
 refine I.write (x:=a) (e:=dx) (by rw [e]; exact True.intro) (.inr ho) (fun b q hb z=>(sb.2 b hb).trans z) hd ?_
 refine ⟨by rw [zai O.ne]; exact ho,?_,O.ne,O'.obj,_,O'.ns,fun g => ?_,fun g hg => ?_⟩
 ·have:=zdl f y fs; omega
 ·show RelO ((putF f y fs).lookup g) (if g=f then some u else mA g)
  rw [zdk]
  by_cases q:g=f
  ·rw [if_pos q,if_pos q]; exact ry
  ·rw [if_neg q,if_neg q]; exact r g
 ·by_cases q:g=f
  ·rw [q]; exact (zdn f y fs).1
  ·refine (zdn f y fs).2 g (wi g fun z=>hg ?_)
   show (if g=f then some u else mA g)=none
   rw [if_neg q]; exact z
theorem Inv.made (I:Inv X pins σ H s):Inv X pins σ (upd (upd H s.heap.objs.size (.own (s.heap.objs.size + 1))) (s.heap.objs.size + 1) (.ins C s.heap.objs.size []))
  { s with heap:=(s.heap.push PySem.W.emptyDict).push (PySem.W.instObj C s.heap.objs.size) }:=by
 have e1:(s.heap.push PySem.W.emptyDict).get? s.heap.objs.size=some PySem.W.emptyDict:=Heap.get?_push_size s.heap rfl
 have e2:((s.heap.push PySem.W.emptyDict).push (PySem.W.instObj C s.heap.objs.size)).get? (s.heap.objs.size + 1)=some (PySem.W.instObj C s.heap.objs.size):=by
  have:=Heap.get?_push_size (s.heap.push PySem.W.emptyDict) (o:=PySem.W.instObj C s.heap.objs.size) rfl
  rwa [Heap.size_push] at this
 have e3:(s.heap.push PySem.W.emptyDict).Ns s.heap.objs.size (fun _=>none):=⟨PySem.W.emptyDict,#[],_,e1,rfl,(fun e he=>absurd he (by simp)),fun _=>rfl⟩
 have I1:=I.laid (a:=s.heap.objs.size) (o := .own (s.heap.objs.size + 1)) (h':=s.heap.push PySem.W.emptyDict) (t':=s.toks) (fun b u q=>Heap.get?_push_of_some _ q) (Nat.le_refl _) ⟨_,e1⟩
 refine I1.laid (a:=s.heap.objs.size + 1) (o := .ins C s.heap.objs.size []) (t':=s.toks) (fun b u q=>Heap.get?_push_of_some _ q) (Nat.le_of_eq (Heap.size_push _ _)) ?_
 have ne:s.heap.objs.size≠s.heap.objs.size + 1:=Nat.ne_of_lt (Nat.lt_succ_self _)
 refine ⟨by rw [zai ne,zad],Nat.zero_le _,ne,e2,fun _=>none,(Heap.Ns1.of_empty e3).at fun o q=>Heap.get?_push_of_some _ q,fun _=>True.intro,fun y hy=>absurd rfl hy⟩
theorem attr_of {prog:Program} {w:World} {env:Env} {e:Expr} {f:Str} {pos:Pos} {s:Shared} {Q:Value->Shared->Prop} (hb:attributeBase e f env (eval e env)=eval e env)
  (h:wpAny (model prog w) A (eval e env) (fun o s₁ => wpAny (model prog w) A (getAttr o f true) Q E s₁) E s):wpAny (model prog w) A (eval (.Attribute e f pos) env) Q E s :=
 Attribute_any_ h (by rw [arm_eval_Attribute,hb])
end
noncomputable def tFld (K:PySem.W.Frag) (ta:TE) (f:Str):TE:=fun σ H Q=>ta σ H fun x H1=>∃ a C dx fs v,x = .ref a/\H1 a=some (.ins C dx fs)/\Cls K C/\NoAttr K C f/\fs.lookup f=some v/\Q v H1
noncomputable def sFld (K:PySem.W.Frag) (ta tv:TE) (f:Str):TS:=fun D σ H=>tv σ H fun y H1=>ta σ H1 fun x H2=>∃ a C dx fs,x = .ref a/\H2 a=some (.ins C dx fs)/\Cls K C/\NoAttr K C f/\fs.length < 1000 /\
 D.nx σ (upd H2 a (.ins C dx (putF f y fs)))
section
variable {X:Cx} {o e value:Expr} {f:Str} {pos pos' tpos:Pos} {ta tv:TE}
theorem zbZ (he:PE X e ta) (hb:attributeBase e f X.env (eval e X.env)=eval e X.env):PE X (.Attribute e f pos) (tFld X.K ta f):=by
 intro pins s σ H Q I h
 refine attr_of hb (thn (he pins s σ H _ I h) fun u s1 ⟨x,H1,I1,rx,a,C,dx,fs,v,ex,ea,c,n,l,q⟩ => ?_)
 subst ex
 obtain rfl:u=Value.ref a:=rx
 exact getattr_ok I1 ea c n l fun u' s2 I2 ru=>⟨v,H1,I2,ru,q⟩
theorem zfZ (ha:PE X o ta) (hv:PE X value tv) (hs:swapsWith value (some (.Attribute o f pos')) pos.line X.env=pure false):PS X (.Assign [.Attribute o f pos'] value pos) (sFld X.K ta tv f):=by
 intro pins s σ H D I h
 refine plainObj_wpAny_Assign_Attribute (thn (hv pins s σ H _ I h) fun u s1 ⟨y,H1,I1,ry,q⟩=>thn (ha pins s1 σ H1 _ I1 q) fun ov s2 ⟨x,H2,I2,rx,a,C,dx,fs,ex,ea,c,n,l,q2⟩ => ?_) hs
 subst ex
 obtain rfl:ov=Value.ref a:=rx
 exact setattr_ok I2 ea c n l ry fun s3 I3=>⟨σ,_,I3,q2⟩
end
section
variable {X:Cx} {pins:List (Addr×Obj)} {σ : St} {H:Hp} {s:Shared} {A:Around} {E:Value->Shared->Prop} {Q:Value->Shared->Prop} {c:Value} {b:Bool}
inductive TyOf (K:PySem.W.Frag) (H:Hp):V->Value->Prop where
 | non:TyOf K H .non (.type "NoneType")
 | bl (x:Bool):TyOf K H (.bl x) (.type "bool")
 | int (i:Int):TyOf K H (.int i) (.type "int")
 | str (x:Str):TyOf K H (.str x) (.type "str")
 | flt (x:UInt64):TyOf K H (.flt x) (.type "float")
 | lst {a:Addr} {xs:List V} (e:H a=some (.lst xs)):TyOf K H (.ref a) (.type "list")
 | frz {a:Addr} {o:Obj} {xs:List V} (e:H a=some (.frz o (.lst xs))):TyOf K H (.ref a) (.type "list")
 | tup {a:Addr} {xs:List V} (e:H a=some (.tup xs)):TyOf K H (.ref a) (.type "tuple")
 | dK {a:Addr} {kvs:List (Key×V)} (e:H a=some (.dK kvs)):TyOf K H (.ref a) (.type "dict")
 | dT {a:Addr} {kvs:List (List Key×V)} (e:H a=some (.dT kvs)):TyOf K H (.ref a) (.type "dict")
 | ins {a C dx:Addr} {fs:List (Str×V)} (e:H a=some (.ins C dx fs)) (cl:Cls K C) (ha:PySem.W.findIn K (.ref C) "__class__" = some (some (.builtin "object.__class__")))
   (hn:PySem.W.specialIn K (.builtin "object.__class__") "__get__" = some (some (.builtin "getset_descriptor.__get__"))) (htk:PySem.W.takesIn K (.builtin "object.__class__")=some true)
   (hm:PySem.W.mroIn K C (.type "object")=some true):TyOf K H (.ref a) (.ref C)
theorem isinst_ok {x:V} {u t:Value} (I:Inv X pins σ H s) (rx:RelV x u) (ty:TyOf X.K H x t) (e:PySem.W.kitOne X.K t c=some b) (h:∀ tk,Q (.bool b) { s with toks:=tk }) :
  wpAny (model X.prog X.w) A (call (.builtin "isinstance") [u,c]) Q E s:=by
 cases ty with
 | non=>cases (show u=Value.none from rx); exact PySem.W.kia_one PySem.W.kitx_none I.kIn True.intro e (fun z=>nomatch z) h
 | bl y=>cases (show u=Value.bool y from rx); exact PySem.W.kia_one PySem.W.kitx_bool I.kIn True.intro e (fun z=>nomatch z) h
 | int i=>obtain ⟨t,q⟩:=(show ∃ t,u=Value.int i t from rx); cases q; exact PySem.W.kia_one PySem.W.kitx_int I.kIn True.intro e (fun z=>nomatch z) h
 | str y=>obtain ⟨t,q⟩:=(show ∃ t,u=Value.str y t from rx); cases q; exact PySem.W.kia_one PySem.W.kitx_str I.kIn True.intro e (fun z=>nomatch z) h
 | flt y=>obtain ⟨t,q⟩:=(show ∃ t,u=Value.float y t from rx); cases q; exact PySem.W.kia_one PySem.W.kitx_float I.kIn True.intro e (fun z=>nomatch z) h
 | @lst a xs ea =>
  cases (show u=Value.ref a from rx)
  obtain ⟨_,_,n,_,h1⟩:=(show ObjOk X.prog X.w H s.heap a (.lst xs) from I.hok a _ ea)
  exact PySem.W.kia_one PySem.W.kitx_list I.kIn ⟨_,h1,rfl⟩ e (fun z=>nomatch z) h
 | @frz a ob xs ea =>
  cases (show u=Value.ref a from rx)
  obtain ⟨_,_,_,n,_,h1⟩:=(show ObjOk X.prog X.w H s.heap a (.frz ob (.lst xs)) from I.hok a _ ea)
  exact PySem.W.kia_one PySem.W.kitx_list I.kIn ⟨_,h1,rfl⟩ e (fun z=>nomatch z) h
 | @tup a xs ea =>
  cases (show u=Value.ref a from rx)
  obtain ⟨_,_,_,p⟩:=(show ObjOk X.prog X.w H s.heap a (.tup xs) from I.hok a _ ea)
  obtain ⟨o,h1,h2,_⟩:=p
  exact PySem.W.kia_one PySem.W.kitx_tuple I.kIn ⟨o,h1,h2⟩ e (fun z=>nomatch z) h
 | @dK a kvs ea =>
  cases (show u=Value.ref a from rx)
  obtain ⟨_,_,vs,_,p⟩:=(show ObjOk X.prog X.w H s.heap a (.dK kvs) from I.hok a _ ea)
  obtain ⟨o,es,ep,h1,h2,_⟩:=p
  exact PySem.W.kia_one PySem.W.kitx_dict I.kIn ⟨o,h1,h2.1⟩ e (fun z=>nomatch z) h
 | @dT a kvs ea =>
  cases (show u=Value.ref a from rx)
  obtain ⟨_,_,xs,_,o,es,ep,h1,h2,_⟩:=(show ObjOk X.prog X.w H s.heap a (.dT kvs) from I.hok a _ ea)
  exact PySem.W.kia_one PySem.W.kitx_dict I.kIn ⟨o,h1,h2.1⟩ e (fun z=>nomatch z) h
 | @ins a C dx fs ea cl ha hn htk hm =>
  cases (show u=Value.ref a from rx)
  obtain ⟨mA,O,_⟩:=zef I.hok ea
  obtain ⟨od,J,_⟩:=O.look
  exact PySem.W.kia_one (PySem.W.kitx_own (cl.get _) cl.hd ha hn htk hm) I.kIn J e (fun z=>nomatch z) h
end
end L2
namespace L2
open PySem PySem.Spec PyProof.Rows
structure Room (k:Nat) (A:Around):Prop where
 hd:A.handled=none
 dp:A.depth + 3 * k + 5 < recursionLimit
 un:A.units + 16 * k + 200 < cLine
theorem Room.mono {j k:Nat} {A:Around} (r:Room k A) (h:j<=k):Room j A:=⟨r.hd,by have:=r.dp; omega,by have:=r.un; omega⟩
theorem Room.deeper {k:Nat} {A:Around} (r:Room (k + 1) A) (env:Env):Room k (A.deeper env) :=
 ⟨r.hd,by have:=r.dp; show A.depth + 1 + 3 * k + 5 < _; omega,by have:=r.un; show A.units + 3 + 16 * k + 200 < _; omega⟩
theorem make_depth {A:Around} {C:Addr} {us:List Value} {kw:List (Str×Value)}:(A.under (.builtin "type.__call__" ⟨.ref C :: us,kw⟩)).depth=A.depth + 1:=by
 first | rfl | simp [Around.under,Code.weight,Code.isCreation,Code.isGuard,Code.isCaller,Code.frames,Code.isFrame,guardIds]
theorem make_units {A:Around} {C:Addr} {us:List Value} {kw:List (Str×Value)}:(A.under (.builtin "type.__call__" ⟨.ref C :: us,kw⟩)).units=A.units + 1:=by
 first | rfl | simp [Around.under,Code.cUnits,Code.frames,Code.isFrame]
theorem Room.make {k:Nat} {A:Around} (r:Room (k + 1) A) (C:Addr) (us:List Value) (kw:List (Str×Value)):Room k (A.under (.builtin "type.__call__" ⟨.ref C :: us,kw⟩)) :=
 ⟨r.hd,by have:=r.dp; rw [make_depth]; omega,by have:=r.un; rw [make_units]; omega⟩
theorem Room.depth {k:Nat} {A:Around} (r:Room k A):A.depth < recursionLimit:=by have:=r.dp; omega
theorem Room.units {k:Nat} {A:Around} (r:Room k A):A.units + 64 < cLine:=by have:=r.un; omega
noncomputable def tNil:TA:=fun _ H Q=>Q [] H
noncomputable def tCons (ta:TE) (tr:TA):TA:=fun σ H Q=>ta σ H fun x H1=>tr σ H1 fun xs H2=>Q (x :: xs) H2
section
variable {X:Cx} {e:Expr} {es:List Expr} {te:TE} {t:TA} {pos:Pos}
theorem zac:PA X [] tNil:=fun _ _ _ _ H Q I h=>Calls.spliced_nil ⟨[],H,I,.nil,h⟩
theorem zaa (ha:PE X e te) (hr:PA X es t) (hs:starEach (e :: es) X.env=(false,eval e X.env) :: starEach es X.env:=by rfl):PA X (e :: es) (tCons te t):=by
 intro pos pins s σ H Q I h
 rw [hs]
 show wpAny _ _ (spliced ((false,eval e X.env) :: backTo pos (starEach es X.env))) _ _ s
 refine Calls.spliced_cons (thn (ha pins s σ H _ I h) fun u s1 ⟨x,H1,I1,r1,q1⟩ => ?_)
 exact thn (hr pos pins s1 σ H1 _ I1 q1) fun us s2 ⟨xs,H2,I2,r2,q2⟩=>⟨x :: xs,H2,I2,.cons r1 r2,q2⟩
noncomputable def tTup (t:TA):TE:=fun σ H Q=>t σ H fun xs H1=>xs.length<=sizeLine/\∀ p,H1 p=none->Q (.ref p) (upd H1 p (.tup xs))
noncomputable def tLst (t:TA):TE:=fun σ H Q=>t σ H fun xs H1=>xs.length<=sizeLine/\∀ p,H1 p=none->Q (.ref p) (upd H1 p (.lst xs))
theorem zbq {x1} (h:PA X es t):PE X (.Tuple es x1 pos) (tTup t):=by
 intro pins s σ H Q I hq
 refine wpAny_Tuple_spliced (thn (h pos pins s σ H _ I hq) fun us s1 ⟨xs,H1,I1,r,z,q⟩=>⟨by rw [<- r.length]; exact z,?_⟩)
 have hf:H1 s1.heap.objs.size=none:=I1.hok.fresh (Nat.le_refl _)
 refine ⟨.ref s1.heap.objs.size,upd H1 s1.heap.objs.size (.tup xs),I1.laid (t':=s1.toks) (fun b u e=>Heap.get?_push_of_some _ e) (Nat.le_refl _) ?_,rfl,q _ hf⟩
 exact ⟨z,us,r,⟨_,Heap.get?_push_size _ rfl,rfl,_,rfl⟩⟩
theorem za0 (h:PA X es t):PE X (.List es pos) (tLst t):=by
 intro pins s σ H Q I hq
 refine wpAny_List_spliced (thn (h pos pins s σ H _ I hq) fun us s1 ⟨xs,H1,I1,r,z,q⟩=>⟨by rw [<- r.length]; exact z,?_⟩)
 have hf:H1 s1.heap.objs.size=none:=I1.hok.fresh (Nat.le_refl _)
 refine ⟨.ref s1.heap.objs.size,upd H1 s1.heap.objs.size (.lst xs),I1.laid (t':=s1.toks) (fun b u e=>Heap.get?_push_of_some _ e) (Nat.le_refl _) ?_,rfl,q _ hf⟩
 exact ⟨z,us,0,r,Heap.get?_push_size _ rfl⟩
end
noncomputable abbrev Sp:=List V->Hp->VK->XK->Prop
noncomputable abbrev CXT:=List Env->Hp->Shared->XK->Value->Shared->Prop
structure Env0 (P:Program) (w:World) (K:PySem.W.Frag) (mg:Str->Option Value) (base:Heap) (A:Around) (outer:List Env) (s:Shared) (H:Hp):Prop where
 frames:A.frames=some outer
 mod:Mod K mg base
 bs:∀ b o,base.get? b=some o->s.heap.get? b=some o/\H b=none
 bsz:base.objs.size<=s.heap.objs.size
 funs:s.heap.FunFrames base outer
 frf:∀ b∈frs outer,H b=none
 hok:HOk P w H s.heap
 bare:AllBare s.gens
noncomputable def CE (outer:List Env) (P:Program) (w:World) (H:Hp) (s:Shared) (Q:VK) (u:Value) (s':Shared):Prop :=
 ∃ v H',s'.os=s.os/\AllBare s'.gens/\Un (frs outer) [] H H' s.heap s'.heap/\HOk P w H' s'.heap/\RelV v u/\Q v H'
noncomputable def CR (CX:CXT) (outer:List Env) (P:Program) (w:World) (H:Hp) (s:Shared) (Q:VK) (E:XK) (r:Result) (s':Shared):Prop :=
 match r with
 | .ok (.ret u)=>CE outer P w H s Q u s'
 | .ok _=>False
 | .error e=>CX outer H s E e s'
structure FnOk (P:Program) (w:World) (K:PySem.W.Frag) (mg:Str->Option Value) (base:Heap) (CX:CXT) (k:Nat) (f:Addr) (fd:FuncData) (ps:List Str) (sp:Sp):Prop where
 len:∀ vs H Q E,sp vs H Q E->vs.length=ps.length
 run:∀ (A:Around) (outer:List Env) (s:Shared) (H:Hp) (args:Args) (us:List Value) (vs:List V) (Q:VK) (E:XK),Room k A->Env0 P w K mg base A outer s H->BindsTo s fd args (ps.zip us)->Vals vs us->sp vs H Q E ->
  codeAny (model P w) A (.call (.ref f) args) (CR CX outer P w H s Q E) s
theorem Env0.make {P:Program} {w:World} {K:PySem.W.Frag} {mg:Str->Option Value} {base:Heap} {A:Around} {outer:List Env} {s:Shared} {H:Hp} (e:Env0 P w K mg base A outer s H) (C:Addr) (us:List Value) (kw:List (Str×Value)) :
  Env0 P w K mg base (A.under (.builtin "type.__call__" ⟨.ref C :: us,kw⟩)) outer s H:=⟨by first | exact e.frames | (simpa [Around.under,Code.envs,Code.isFrame,pushEnvs] using e.frames),e.mod,e.bs,e.bsz,e.funs,e.frf,e.hok,e.bare⟩
section
variable {X:Cx} {pins:List (Addr×Obj)} {σ : St} {H:Hp} {s s':Shared}
theorem Inv.env0 (I:Inv X pins σ H s):Env0 X.prog X.w X.K X.mg X.base X.A X.stack s H :=
 ⟨I.ok.frames,I.ok.mod,I.bs,Nat.le_trans I.ok.bsz I.sz,I.stack,I.stkFree,I.hok,I.bare⟩
theorem Inv.after {Q:VK} {u:Value} (I:Inv X pins σ H s) (h:CE X.stack X.prog X.w H s Q u s'):EP X pins σ Q u s':=by
 obtain ⟨v,H',os,bare,un,hok,r,q⟩:=h
 obtain ⟨hh,g,d,t,os'⟩:=s'
 obtain rfl:os'=s.os:=os
 exact ⟨v,H',I.call (h':=hh) (g':=g) (d':=d) (t':=t) (ch := []) un hok bare (fun b z=>absurd z (by simp)),r,q⟩
end
noncomputable def tCall (sp:Sp) (dvs:List V) (E:XK) (t:TA):TE:=fun σ H Q=>t σ H fun vs H1=>sp (vs ++ dvs) H1 Q E
noncomputable def tMeth (C:Addr) (m:Str) (sp:Sp) (dvs:List V) (E:XK) (ta:TE) (t:TA):TE:=fun σ H Q=>ta σ H fun x H1=>∃ a dx fs,x = .ref a/\H1 a=some (.ins C dx fs)/\fs.lookup m=none /\
 t σ H1 fun vs H2=>sp (x :: (vs ++ dvs)) H2 Q E
noncomputable def tMake (C:Addr) (sp:Sp) (dvs:List V) (E:XK) (t:TA):TE:=fun σ H Q=>t σ H fun vs H1=>∀ x dx,H1 x=none->H1 dx=none->dx≠x ->
 sp (.ref x :: (vs ++ dvs)) (upd (upd H1 dx (.own x)) x (.ins C dx [])) (fun v H2=>v = .non/\Q (.ref x) H2) E
noncomputable def Binds (K:PySem.W.Frag) (fd:FuncData) (ps:List Str) (ds:List Value):Prop :=
 ∀ (s:Shared) (us:List Value),K.In s.heap->(us ++ ds).length=ps.length->BindsTo s fd ⟨us,[]⟩ (ps.zip (us ++ ds))
theorem Binds.all {K:PySem.W.Frag} {fd:FuncData} {ps:List Str} (h:∀ us:List Value,us.length=ps.length->bindArgs fd ⟨us,[]⟩=pure (ps.zip us)):Binds K fd ps []:=fun s us _ hl=>by
 rw [List.append_nil] at hl ⊢
 exact .of_eq (h us hl)
noncomputable def Passes (CX:CXT) (X:Cx) (E:XK):Prop:=∀ (pins:List (Addr×Obj)) (σ : St) (H:Hp) (s:Shared) (e:Value) (s':Shared),Inv X pins σ H s->CX X.stack H s E e s'->X.xe e s'
section
variable {X:Cx} {CX:CXT} {k:Nat} {f C:Addr} {fd:FuncData} {ps:List Str} {sp:Sp} {dvs:List V} {ds:List Value} {E:XK} {x m:Str} {p pos apos:Pos} {e o:Expr} {es:List Expr} {ta:TE} {t:TA}
theorem zfV {pins:List (Addr×Obj)} {σ : St} {H:Hp} {s:Shared} {Q:VK} {us:List Value} {vs:List V} (F:FnOk X.prog X.w X.K X.mg X.base CX k f fd ps sp) (hr:Room k X.A) (hb:Binds X.K fd ps ds) (hd:Vals dvs ds) (hx:Passes CX X E)
  (I:Inv X pins σ H s) (r:Vals vs us) (h:sp (vs ++ dvs) H Q E):wpAny (model X.prog X.w) X.A (call (.ref f) us) (EP X pins σ Q) X.xe s:=by
 have r2:Vals (vs ++ dvs) (us ++ ds):=r.append hd
 have hl:(us ++ ds).length=ps.length:=by rw [<- r2.length]; exact F.len _ _ _ _ h
 refine wpAny_call (codeAny_mono (F.run X.A X.stack s H ⟨us,[]⟩ (us ++ ds) (vs ++ dvs) Q E hr I.env0 (hb s us I.kIn hl) r2 h) fun r s' hq => ?_)
 cases r with
 | error e=>exact hx pins σ H s e s' I hq
 | ok fl =>
  cases fl with
  | ret u=>exact I.after hq
  | next=>exact False.elim hq
  | brk=>exact False.elim hq
  | cont=>exact False.elim hq
theorem zf3 (F:FnOk X.prog X.w X.K X.mg X.base CX k f fd ps sp) (hr:Room k X.A) (hg:Gl X x) (hm:X.mg x=some (.ref f)) (hk:PySem.W.keepIn X.K (.ref f)=true) (hb:Binds X.K fd ps ds) (hd:Vals dvs ds) (hx:Passes CX X E)
  (ha:PA X (e :: es) t) (hdb:(x == ("__debug__" : Str))=false:=by decide) (he:starEach (e :: es) X.env=(false,eval e X.env) :: starEach es X.env:=by rfl) (hpl:(backTo pos (starEach es X.env)).any (·.1)=false:=by rfl) :
  PE X (.Call (.Name x p) (e :: es) [] pos) (tCall sp dvs E t):=by
 intro pins s σ H Q I h
 refine wpAny_Call_Name_kw (zcJ I hg hm ?_ hdb)
 refine PySem.W.callWith_K (h₀ := X.base) I.ok.mod.kin hk (thn (ha pos pins s σ H _ I h) fun us s1 ⟨vs,H1,I1,r,q⟩=>⟨I1.kIn,?_⟩) he hpl
 exact zfV F hr hb hd hx I1 r q
theorem pe_meth {pl:Sem Bool} (he:PE X o ta) (c:Cls X.K C) (hm:Meth X.K C m f) (F:FnOk X.prog X.w X.K X.mg X.base CX k f fd ps sp) (hr:Room k X.A) (hb:Binds X.K fd ps ds) (hd:Vals dvs ds) (hx:Passes CX X E) (ha:PA X (e :: es) t)
  (hst:starEach (e :: es) X.env=(false,eval e X.env) :: starEach es X.env:=by rfl) (hpl:(backTo pos (starEach es X.env)).any (·.1)=false:=by rfl)
  (ht:eval (.Call (.Attribute o m apos) (e :: es) [] pos) X.env=(do
   let ov <- eval o X.env
   standAt apos.atName
   let (f,first) <- holding [ov] (getMethod ov m pl)
   callWith pos f first (backTo pos (starEach (e :: es) X.env)) (backToKw pos (keywordEach [] X.env))):=by rfl) :
  PE X (.Call (.Attribute o m apos) (e :: es) [] pos) (tMeth C m sp dvs E ta t):=by
 intro pins s σ H Q I h
 refine PySem.W.methodCall_KW (pl:=pl) (thn (he pins s σ H _ I h) fun u s1 ⟨x,H1,I1,rx,a,dx,fs,ex,ea,l,q⟩ => ?_) ht
 subst ex
 obtain rfl:u=Value.ref a:=rx
 refine zdU I1 ea c hm l ?_
 refine PySem.W.callWith_K (first := [.ref a]) (h₀ := X.base) I.ok.mod.kin hm.kp (thn (ha pos pins s1 σ H1 _ I1 q) fun us s2 ⟨vs,H2,I2,r,q2⟩=>⟨I2.kIn,?_⟩) hst hpl
 exact zfV (us := .ref a :: us) (vs := .ref a :: vs) F hr hb hd hx I2 (.cons rfl r) q2
theorem pe_meth0 {pl:Sem Bool} (he:PE X o ta) (c:Cls X.K C) (hm:Meth X.K C m f) (F:FnOk X.prog X.w X.K X.mg X.base CX k f fd ps sp) (hr:Room k X.A) (hb:Binds X.K fd ps ds) (hd:Vals dvs ds) (hx:Passes CX X E)
  (ht:eval (.Call (.Attribute o m apos) [] [] pos) X.env=(do
   let ov <- eval o X.env
   standAt apos.atName
   let (f,first) <- holding [ov] (getMethod ov m pl)
   callWith pos f first (backTo pos (starEach [] X.env)) (backToKw pos (keywordEach [] X.env))):=by rfl) :
  PE X (.Call (.Attribute o m apos) [] [] pos) (tMeth C m sp dvs E ta tNil):=by
 intro pins s σ H Q I h
 refine PySem.W.methodCall_KW (pl:=pl) (thn (he pins s σ H _ I h) fun u s1 ⟨x,H1,I1,rx,a,dx,fs,ex,ea,l,q⟩ => ?_) ht
 subst ex
 obtain rfl:u=Value.ref a:=rx
 refine zdU I1 ea c hm l ?_
 exact PySem.W.callWith_K0 (first := [.ref a]) I1.kIn hm.kp (zfV (us := [.ref a]) (vs := [.ref a]) F hr hb hd hx I1 (.cons rfl .nil) q)
structure Mk (K:PySem.W.Frag) (C f:Addr):Prop where
 makes:PySem.W.makesIn K C=true
 init:PySem.W.findIn K (.ref C) "__init__" = some (some (.ref f))
 fn:PySem.W.isFn K (.ref f)=true
 kp:PySem.W.keepIn K (.ref C)=true
theorem run_make {pins:List (Addr×Obj)} {σ : St} {H:Hp} {s:Shared} {Q:VK} {us:List Value} {vs:List V} (M:Mk X.K C f) (F:FnOk X.prog X.w X.K X.mg X.base CX k f fd ps sp) (hr:Room (k + 1) X.A) (hb:Binds X.K fd ps ds) (hd:Vals dvs ds)
  (hx:Passes CX X E) (I:Inv X pins σ H s) (r:Vals vs us)
  (h:∀ x dx,H x=none->H dx=none->dx≠x->sp (.ref x :: (vs ++ dvs)) (upd (upd H dx (.own x)) x (.ins C dx [])) (fun v H2=>v = .non/\Q (.ref x) H2) E) :
  wpAny (model X.prog X.w) X.A (call (.ref C) us) (EP X pins σ Q) X.xe s:=by
 have hq:=h (s.heap.objs.size + 1) s.heap.objs.size (I.hok.fresh (Nat.le_succ _)) (I.hok.fresh (Nat.le_refl _)) (Nat.ne_of_lt (Nat.lt_succ_self _))
 have I2:=Inv.made (C:=C) I
 have r2:Vals (V.ref (s.heap.objs.size + 1) :: (vs ++ dvs)) (Value.ref (s.heap.objs.size + 1) :: (us ++ ds)) := .cons rfl (r.append hd)
 have hl:(Value.ref (s.heap.objs.size + 1) :: us ++ ds).length=ps.length:=by
  have e:=r2.length
  rw [F.len _ _ _ _ hq] at e
  exact e.symm
 refine wpAny_call (make_map (f:=f) I.kIn M.makes M.init (beq_iff_eq.mp M.fn) (codeAny_mono (F.run _ X.stack _ _ ⟨Value.ref (s.heap.objs.size + 1) :: us,[]⟩ (Value.ref (s.heap.objs.size + 1) :: (us ++ ds)) _ _ E (hr.make C us [])
  (I2.env0.make C us []) (hb _ (Value.ref (s.heap.objs.size + 1) :: us) I2.kIn hl) r2 hq) fun r s' hq' => ?_))
 cases r with
 | error e=>exact hx pins σ _ _ e s' I2 hq'
 | ok fl =>
  cases fl with
  | ret u =>
   obtain ⟨v,H',I3,rv,ev,q3⟩:=I2.after hq'
   subst ev
   exact ⟨rv,⟨V.ref (s.heap.objs.size + 1),H',I3,rfl,q3⟩⟩
  | next=>exact False.elim hq'
  | brk=>exact False.elim hq'
  | cont=>exact False.elim hq'
theorem pe_make0 (M:Mk X.K C f) (F:FnOk X.prog X.w X.K X.mg X.base CX k f fd ps sp) (hr:Room (k + 1) X.A) (hg:Gl X x) (hm:X.mg x=some (.ref C)) (hb:Binds X.K fd ps ds) (hd:Vals dvs ds) (hx:Passes CX X E)
  (hdb:(x == ("__debug__" : Str))=false:=by decide):PE X (.Call (.Name x p) [] [] pos) (tMake C sp dvs E tNil):=by
 intro pins s σ H Q I h
 refine wpAny_Call_Name_kw (zcJ I hg hm ?_ hdb)
 exact PySem.W.callWith_K0 I.kIn M.kp (run_make (us := []) M F hr hb hd hx I .nil h)
end
section
variable {X:Cx} {CX:CXT} {k:Nat} {f C:Addr} {fd:FuncData} {ps ks:List Str} {sp:Sp} {E:XK} {x m:Str} {p pos apos kpos:Pos} {e o:Expr} {es:List Expr} {kws:List Keyword} {te ta:TE} {t tk:TA} {nm:Option Str}
variable {g:List Value->List Value->List Value} {gV:List V->List V->List V}
end
structure FnScope (N P:List Str) (sc:Scope):Prop where
 kind:sc.kind = .function
 co:sc.isCoroutine=false
 gen:sc.isGenerator=false
 nd:N.Nodup
 pre:N.take P.length=P
 par:∀ x∈P,sc.names.lookup x=some .local\/sc.names.lookup x=some .cell
 nofree:∀ y∈sc.names,y.2 ≠ .free
theorem zeL {kindOf:Str->Option NameKind} {x:Str}:∀ {binds:List (Str×Value)} {m:Str->Option Value},(∀ v,(x,v) ∉ binds)->bindL kindOf binds m x=m x
 | [],_,_=>rfl
 | (n,v) :: r,m,h=>by
  unfold bindL
  rw [zeL fun w hw=>h w (List.mem_cons_of_mem _ hw)]
  split
  ·have:x≠n:=by rintro rfl; exact h v List.mem_cons_self
   simp [this]
  ·rfl
theorem zeN {kindOf:Str->Option NameKind} {x:Str}:∀ {binds:List (Str×Value)} {m:Str->Option Value},(∀ v,(x,v) ∉ binds)->bindC kindOf binds m x=m x
 | [],_,_=>rfl
 | (n,v) :: r,m,h=>by
  unfold bindC
  rw [zeN fun w hw=>h w (List.mem_cons_of_mem _ hw)]
  split
  ·rfl
  ·have:x≠n:=by rintro rfl; exact h v List.mem_cons_self
   simp [this]
theorem zeM {kindOf:Str->Option NameKind} {x:Str} {v:Value}:∀ {P:List Str} {vs:List Value} {i:Nat} {m:Str->Option Value},P.Nodup->P[i]?=some x->vs[i]?=some v->kindOf x=some .local ->
  bindL kindOf (P.zip vs) m x=some v
 | [],_,_,_,_,h,_,_=>by simp at h
 | _ :: _,[],_,_,_,_,h,_=>by simp at h
 | p :: P,w :: vs,0,m,nd,h1,h2,hk=>by
  simp at h1 h2; subst h1; subst h2
  show bindL kindOf ((p,w) :: P.zip vs) m p=_
  unfold bindL
  rw [zeL fun v hv=>(List.nodup_cons.mp nd).1 (List.of_mem_zip hv).1,if_pos hk]
  simp
 | p :: P,w :: vs,i + 1,m,nd,h1,h2,hk=>by
  show bindL kindOf ((p,w) :: P.zip vs) m x=_
  unfold bindL
  exact zeM (i:=i) (List.nodup_cons.mp nd).2 (by simpa using h1) (by simpa using h2) hk
theorem zeO {kindOf:Str->Option NameKind} {x:Str} {v:Value}:∀ {P:List Str} {vs:List Value} {i:Nat} {m:Str->Option Value},P.Nodup->P[i]?=some x->vs[i]?=some v->kindOf x≠some .local ->
  bindC kindOf (P.zip vs) m x=some v
 | [],_,_,_,_,h,_,_=>by simp at h
 | _ :: _,[],_,_,_,_,h,_=>by simp at h
 | p :: P,w :: vs,0,m,nd,h1,h2,hk=>by
  simp at h1 h2; subst h1; subst h2
  show bindC kindOf ((p,w) :: P.zip vs) m p=_
  unfold bindC
  rw [zeN fun v hv=>(List.nodup_cons.mp nd).1 (List.of_mem_zip hv).1,if_neg hk]
  simp
 | p :: P,w :: vs,i + 1,m,nd,h1,h2,hk=>by
  show bindC kindOf ((p,w) :: P.zip vs) m x=_
  unfold bindC
  exact zeO (i:=i) (List.nodup_cons.mp nd).2 (by simpa using h1) (by simpa using h2) hk
noncomputable def start (N:List Str) (vs:List V):St:=vs.map some ++ List.replicate (N.length - vs.length) none
noncomputable def cxOf (CX:CXT) (P:Program) (w:World) (K:PySem.W.Frag) (mg:Str->Option Value) (base:Heap) (N:List Str) (qual:Str) (scope:Scope) (f:Addr) (cd:Value) (A:Around) (outer:List Env) (s:Shared) (H:Hp) (E:XK):Cx where
 prog:=P
 w:=w
 K:=K
 mg:=mg
 base:=base
 A:=A.deeper (envOfC qual scope s.heap.objs.size f cd)
 N:=N
 s₀ := s
 H₀ := H
 env:=envOfC qual scope s.heap.objs.size f cd
 outer:=outer
 stack:=envOfC qual scope s.heap.objs.size f cd :: outer
 ex := []
 calm:=true
 fn:=fun _=>true
 pn := []
 xe:=fun e s'=>wpAny (model P w) (A.deeper (envOfC qual scope s.heap.objs.size f cd)) (leaving (envOfC qual scope s.heap.objs.size f cd) e) (fun _ s''=>CX outer H s E e s'') (fun e' s''=>CX outer H s E e' s'') s'
theorem zfD {sc:Scope} {n:Nat} {x:Str} (h:sc.names.lookup x=some .cell):∃ c,(cellsFrom n sc.names []).lookup x=some c:=by
 have q:=PySem.W.cellsFrom_some sc.names n [] (.inl h)
 exact Option.isSome_iff_exists.mp q
theorem zeB {CX:CXT} {P:Program} {w:World} {K:PySem.W.Frag} {mg:Str->Option Value} {base:Heap} {N ps:List Str} {qual:Str} {scope:Scope} {f:Addr} {cd:Value} {A:Around} {outer:List Env} {s s1:Shared} {H:Hp} {E:XK} {us:List Value} {vs:List V}
  (S:FnScope N ps scope) (hd:A.handled=none) (e0:Env0 P w K mg base A outer s H) (hl:vs.length=ps.length) (r:Vals vs us)
  (x:InCallC s s.heap.objs.size (bindL (envOfC qual scope s.heap.objs.size f cd).kindOf (ps.zip us) fun _=>none) (cellsFrom (s.heap.objs.size + 1) scope.names []) (bindC (envOfC qual scope s.heap.objs.size f cd).kindOf (ps.zip us) fun _=>none) s1) :
  Inv (cxOf CX P w K mg base N qual scope f cd A outer s H E) [] (start N vs) H s1:=by
 have hpl:ps.length<=N.length:=by have:=congrArg List.length S.pre; rw [List.length_take] at this; omega
 obtain ⟨h1,tk,rfl,hk⟩:=x.done
 have noA:∀ b:Addr,b ∉ (cxOf CX P w K mg base N qual scope f cd A outer s H E).ex:=fun b z=>absurd (show b∈([]:List Addr) from z) (by simp)
 refine ⟨⟨e0.mod,S.kind,rfl,rfl,Nat.le_refl _,fun y z c h1 h2 => ?_,fun y hy => ?_,fun y c _ h => ?_,fun _=>hd,Around.frames_deeper e0.frames,.inr ⟨rfl,rfl⟩,fun b z=>absurd z (noA b),e0.bs,e0.bsz,fun b _ _=>noA b,fun b z=>absurd z (noA b),e0.funs,e0.frf⟩,
  rfl,e0.bare,Un.kept hk,⟨_,x.toInCall.ns,fun i y v h1 h2 h3 => ?_⟩,fun y c h=>⟨_,x.cell y c h⟩,e0.hok.fresh (Nat.le_refl _),fun y c h => ?_,fun p hp=>absurd (show p∈([]:List (Addr×Obj)) from hp) (by simp),e0.hok.kept hk,?_⟩
 ·exact name_of_addr x.apart (PySem.mem_of_lookup h1) (PySem.mem_of_lookup h2)
 ·have hy:scope.names.lookup y=some .cell\/scope.names.lookup y=some .free:=hy
  rcases hy with hy | hy
  ·exact zfD hy
  ·exact absurd rfl (S.nofree _ (PySem.mem_of_lookup hy))
 ·exact Nat.le_of_lt (x.above y c (PySem.mem_of_lookup h))
 ·have hi:i < vs.length:=by
   unfold start at h2
   by_cases hi:i < vs.length
   ·exact hi
   ·rw [List.getElem?_append_right (by simpa using hi)] at h2
    rw [List.getElem?_replicate] at h2
    split at h2 <;> cases h2
  have ha:vs[i]?=some v:=by
   unfold start at h2
   rw [List.getElem?_append_left (by simpa using hi),List.getElem?_map] at h2
   cases e:vs[i]? with
   | none=>rw [e] at h2; cases h2
   | some a=>rw [e] at h2; cases h2; rfl
  obtain ⟨u,hu,rv⟩:=r.get ha
  have hp:ps[i]?=some y:=by
   rw [<- S.pre,List.getElem?_take_of_lt (by omega)]; exact h1
  have ndP:ps.Nodup:=by rw [<- S.pre]; exact S.nd.sublist (List.take_sublist _ _)
  refine ⟨u,rv,?_⟩
  rcases S.par y (List.mem_of_getElem? hp) with k | k
  ·exact .inl ⟨k,zeM ndP hp hu k⟩
  ·obtain ⟨c,e⟩:=zfD (n:=s.heap.objs.size + 1) k
   refine .inr ⟨.inl k,c,e,?_⟩
   have q:=x.cell y c e
   rw [zeO ndP hp hu (by show scope.names.lookup y≠_; rw [k]; decide)] at q
   exact q
 ·exact e0.hok.fresh (Nat.le_of_lt (x.above y c (PySem.mem_of_lookup h)))
 ·unfold start
  show _=N.length
  rw [List.length_append,List.length_map,List.length_replicate]
  omega
theorem zg3 {CX:CXT} {P:Program} {w:World} {K:PySem.W.Frag} {mg:Str->Option Value} {base:Heap} {k:Nat} {f:Addr} {name qual:Str} {params:Arguments} {body:List Stmt} {scope:Scope} {dV kV doc pm cdv ct oc:Value} {an od:Option Addr}
  {osl:Array (Option Value)} {N ps:List Str} {sp:Sp} (lk:K.lookup f=some ⟨oc,od,.func (PySem.W.fnOf name qual params body scope dV kV doc pm an cdv ct),osl⟩) (hcd:PySem.W.codeIn K cdv qual=true) (S:FnScope N ps scope)
  (len:∀ vs H Q E,sp vs H Q E->vs.length=ps.length)
  (hbody:∀ (A:Around) (outer:List Env) (s:Shared) (H:Hp) (vs:List V) (Q:VK) (E:XK),Room k (A.deeper (envOfC qual scope s.heap.objs.size f cdv))->sp vs H Q E ->
   ∃ t,PSs (cxOf CX P w K mg base N qual scope f cdv A outer s H E) body t/\t { nx:=fun _ H'=>Q .non H',rt:=Q } (start N vs) H) :
  FnOk P w K mg base CX (k + 1) f (PySem.W.fnOf name qual params body scope dV kV doc pm an cdv ct) ps sp:=by
 refine ⟨len,fun A outer s H args us vs Q E hr e0 hb r hsp => ?_⟩
 have hl:=len _ _ _ _ hsp
 have KX:K.In s.heap:=e0.mod.kin.keeps fun b o e=>(e0.bs b o e).1
 have lim:s.heap.NoLimit:=e0.mod.nolimit.keeps fun b o e=>(e0.bs b o e).1
 have hkind:∀ y∈ps.zip us,scope.names.lookup y.1=some .local\/(scope.names.lookup y.1=some .cell/\((cellsFrom (s.heap.objs.size + 1) scope.names []).lookup y.1).isSome=true):=fun ⟨n,v⟩ hy=>by
  rcases S.par n (List.of_mem_zip hy).1 with q | q
  ·exact .inl q
  ·exact .inr ⟨q,PySem.W.cellsFrom_some _ _ _ (.inl q)⟩
 refine codeAny_call_function hr.depth (KX _ _ lk) rfl S.co S.gen rfl (PySem.W.codeRec_of KX hcd) (hb _ _ _ _ ?_)
 refine wpAny_newFunctionEnv_cells S.kind hkind fun env he s1 x => ?_
 subst he
 refine ⟨lim.keeps x.toInCall.keep,codeAny_func ?_⟩
 obtain ⟨t,ht,hq⟩:=hbody A outer s H vs Q E (hr.deeper _) hsp
 have I:Inv (cxOf CX P w K mg base N qual scope f cdv A outer s H E) [] (start N vs) H s1:=zeB S hr.hd e0 hl r x
 refine wpAny_mono (ht [] s1 (start N vs) H _ I hq) (fun fl s' hs => ?_) fun e s' hs=>hs
 have fin:∀ {σ':St} {H':Hp} {v:V} {u:Value},Inv (cxOf CX P w K mg base N qual scope f cdv A outer s H E) [] σ' H' s'->RelV v u->Q v H'->CE outer P w H s Q u s' :=
  fun {σ' H' v u} J rv q=>⟨v,H',J.os,J.bare,J.base,J.hok,rv,q⟩
 cases fl with
 | ret u =>
  obtain ⟨v,σ',H',J,rv,q⟩:=hs
  exact fin J rv q
 | next =>
  obtain ⟨σ',H',J,q⟩:=hs
  exact fin (v:=V.non) (u:=Value.none) J rfl q
 | brk =>
  obtain ⟨_,_,_,q⟩:=hs
  exact False.elim q
 | cont =>
  obtain ⟨_,_,_,q⟩:=hs
  exact False.elim q
end L2
namespace L2
open PySem PySem.Spec PyProof.Rows
section
variable {X:Cx} {x:Str} {p pos:Pos} {e:Expr} {es:List Expr} {t:TA} {id T:String} {r:List V->Hp->VK->Prop}
noncomputable def tCB (r:List V->Hp->VK->Prop) (t:TA):TE:=fun σ H Q=>t σ H fun vs H1=>r vs H1 Q
theorem zah (hc:CallR X (.builtin id) r) (hg:Gl X x) (hm:X.mg x=none) (hv:bootBuiltins x=some (.builtin id)) (ha:PA X (e :: es) t) (hn:x ≠ "__name__" := by decide) (hdb:(x == ("__debug__" : Str))=false:=by decide)
  (he:starEach (e :: es) X.env=(false,eval e X.env) :: starEach es X.env:=by rfl) (hpl:(backTo pos (starEach es X.env)).any (·.1)=false:=by rfl):PE X (.Call (.Name x p) (e :: es) [] pos) (tCB r t):=by
 intro pins s σ H Q I h
 refine wpAny_Call_Name_kw (zdm I hg hm hv ?_ hn hdb)
 exact PyProof.Rows.callWith_builtin1 (thn (ha pos pins s σ H _ I h) fun us s1 ⟨vs,H1,I1,r1,q1⟩=>hc pins s1 σ H1 vs us Q I1 r1 q1) he hpl
theorem za1 (hc:CallR X (.type T) r) (hg:Gl X x) (hm:X.mg x=none) (hv:bootBuiltins x=some (.type T)) (ha:PA X (e :: es) t) (hn:x ≠ "__name__" := by decide) (hdb:(x == ("__debug__" : Str))=false:=by decide)
  (he:starEach (e :: es) X.env=(false,eval e X.env) :: starEach es X.env:=by rfl) (hpl:(backTo pos (starEach es X.env)).any (·.1)=false:=by rfl):PE X (.Call (.Name x p) (e :: es) [] pos) (tCB r t):=by
 intro pins s σ H Q I h
 refine wpAny_Call_Name_kw (zdm I hg hm hv ?_ hn hdb)
 exact PyProof.Rows.callWith_type1 (thn (ha pos pins s σ H _ I h) fun us s1 ⟨vs,H1,I1,r1,q1⟩=>hc pins s1 σ H1 vs us Q I1 r1 q1) he hpl
end
end L2
namespace HT
open PySem PyProof.Rows
section
open PySem.SeqAt
open PySem.AutoSeq1 (wpAny_loadPart')
open PySem.MeetsSeq PySem.MeetsSeq2 PySem.MeetsSeq3
end
section
variable {prog:Program} {w:World} {A:Around} {E:Value->Shared->Prop} {s:Shared}
noncomputable def sIx (n d:Nat):Option Int->Nat
 | none=>d
 | some v=>if v < 0 then (v + (n:Int)).toNat else min v.toNat n
theorem sIx_none (n d:Nat):sIx n d none=d:=rfl
theorem sIx_nat (n d k:Nat):sIx n d (some (k:Int))=min k n:=by
 show (if (k:Int) < 0 then ((k:Int) + (n:Int)).toNat else min (k:Int).toNat n)=min k n
 rw [if_neg (by omega),Int.toNat_natCast]
end
end HT
namespace L2
open PySem PySem.Spec PyProof.Rows
noncomputable abbrev TO:=St->Hp->(Option Int->Hp->Prop)->Prop
noncomputable def PO (X:Cx) (e:Option Expr) (t:TO):Prop :=
 ∀ (pins:List (Addr×Obj)) (s:Shared) (σ : St) (H:Hp) (Q:Option Int->Hp->Prop),Inv X pins σ H s->t σ H Q ->
  wpAny (model X.prog X.w) X.A (evalPart e X.env) (fun u s'=>∃ o H',Inv X pins σ H' s'/\IsPart u o/\Q o H') X.xe s
noncomputable def tNoPart:TO:=fun _ H Q=>Q none H
noncomputable def tPart (t:TE):TO:=fun σ H Q=>t σ H fun x H1=>∃ i,x = .int i/\Q (some i) H1
section
variable {X:Cx} {e:Expr} {te:TE} {lo hi:Option Expr} {tl th:TO} {pos p2:Pos}
theorem po_none:PO X none tNoPart:=by
 intro pins s σ H Q I h
 rw [evalPart_none]
 exact wpAny_pure ⟨none,H,I,.none,h⟩
theorem po_some (h:PE X e te):PO X (some e) (tPart te):=by
 intro pins s σ H Q I hw
 rw [evalPart_some]
 refine thn (h pins s σ H _ I hw) fun u s1 ⟨x,H1,I1,r1,q1⟩ => ?_
 obtain ⟨i,rfl,q⟩:=q1
 obtain ⟨t,rfl⟩:=r1
 exact ⟨some i,H1,I1,.int i t,q⟩
noncomputable def SlR (X:Cx) (r:V->Option Int->Option Int->Hp->VK->Prop):Prop :=
 ∀ (pins:List (Addr×Obj)) (s:Shared) (σ : St) (H:Hp) (x:V) (v vl vu:Value) (lo hi:Option Int) (sl:Addr) (Q:VK),Inv X pins σ H s->RelV x v->s.heap.IsSliceOf sl vl vu .none->IsPart vl lo->IsPart vu hi->r x lo hi H Q ->
  ∃ T id,typeLookup (.type T) "__getitem__" = pure (some (.builtin id))/\s.TypeIs v T/\wpAny (model X.prog X.w) X.A (getItem v (.ref sl)) (EP X pins σ Q) X.xe s
noncomputable def tSl (r:V->Option Int->Option Int->Hp->VK->Prop) (te:TE) (tl th:TO):TE:=fun σ H Q=>te σ H fun x H1=>tl σ H1 fun l H2=>th σ H2 fun u H3=>r x l u H3 Q
theorem pe_slice {r:V->Option Int->Option Int->Hp->VK->Prop} (hr:SlR X r) (he:PE X e te) (hl:PO X lo tl) (hu:PO X hi th):PE X (.Subscript e (.Slice lo hi none p2) pos) (tSl r te tl th):=by
 intro pins s σ H Q I h
 refine Subscript_ (thn (he pins s σ H _ I h) fun v s1 ⟨x,H1,I1,r1,q1⟩ => ?_)
 refine wpAny_Slice (thn (hl pins s1 σ H1 _ I1 q1) fun vl s2 ⟨l,H2,I2,pl,q2⟩=>thn (hu pins s2 σ H2 _ I2 q2) fun vu s3 ⟨u,H3,I3,pu,q3⟩ => ?_)
 rw [evalPart_none]
 refine wpAny_pure ?_
 have I4:Inv X pins σ H3 { s3 with heap:=s3.heap.push { cls := .type "slice",data := .fields #[vl,vu,.none] } }:=I3.kept (t':=s3.toks) fun b ob q=>Heap.get?_push_of_some _ q
 obtain ⟨T,id,hT,ht,hg⟩:=hr pins { s3 with heap:=s3.heap.push { cls := .type "slice",data := .fields #[vl,vu,.none] } } σ H3 x v vl vu l u s3.heap.objs.size Q I4 r1 (Heap.IsSliceOf.new ..) pl pu q3
 show wpAny (model X.prog X.w) X.A (subscriptTail e (.Slice lo hi none p2) v (.ref s3.heap.objs.size)) (EP X pins σ Q) X.xe { s3 with heap:=s3.heap.push { cls := .type "slice",data := .fields #[vl,vu,.none] } }
 exact tail_any (ops := [.ref s3.heap.objs.size,v]) ht hT hg (by with_unfolding_all rfl)
noncomputable def cutV (xs:List V) (lo hi:Option Int):List V:=(xs.drop (HT.sIx xs.length 0 lo)).take (HT.sIx xs.length xs.length hi - HT.sIx xs.length 0 lo)
theorem cutV_length (xs:List V) (lo hi:Option Int):(cutV xs lo hi).length<=xs.length:=by
 unfold cutV
 rw [List.length_take,List.length_drop]
 omega
end
end L2
namespace L2
open PySem PySem.Spec PyProof.Rows
noncomputable def ixN (n:Nat) (i:Int):Option Nat:=if 0<=i then (if i < n then some i.toNat else none) else if -(n:Int)<=i then some (i + n).toNat else none
noncomputable def atI {α : Type} (xs:List α) (i:Int):Option α := (ixN xs.length i).bind fun j=>xs[j]?
theorem zgd {n:Nat} {i:Int} {j:Nat} (h:ixN n i=some j):seqIndex? i n=some j/\j < n /\ -(n:Int)<=i/\i < n:=by
 unfold ixN at h
 by_cases h0:0<=i
 ·rw [if_pos h0] at h
  by_cases h1:i < n
  ·rw [if_pos h1] at h
   have e:i.toNat=j:=Option.some.inj h
   exact ⟨by rw [seqIndex_of h0 h1,e],by omega,by omega,h1⟩
  ·rw [if_neg h1] at h; cases h
 ·rw [if_neg h0] at h
  by_cases h1 : -(n:Int)<=i
  ·rw [if_pos h1] at h
   have e:(i + n).toNat=j:=Option.some.inj h
   exact ⟨by rw [seqIndex_neg (by omega) h1,e],by omega,h1,by omega⟩
  ·rw [if_neg h1] at h; cases h
theorem ze7 {α : Type} {xs:List α} {i:Int} {v : α} (h:atI xs i=some v):∃ j,seqIndex? i xs.length=some j/\xs[j]?=some v/\j < xs.length /\ -(xs.length:Int)<=i/\i < xs.length:=by
 unfold atI at h
 cases e:ixN xs.length i with
 | none=>rw [e] at h; cases h
 | some j =>
  rw [e] at h
  obtain ⟨h1,h2,h3,h4⟩:=zgd e
  exact ⟨j,h1,h,h2,h3,h4⟩
theorem zax {α : Type} {xs:List α} {j:Nat} {v : α} (h:xs[j]?=some v):atI xs (j:Int)=some v:=by
 have hj:j < xs.length:=(List.getElem?_eq_some_iff.mp h).1
 have e:ixN xs.length (j:Int)=some j:=by
  unfold ixN
  rw [if_pos (by omega),if_pos (by omega)]; simp
 unfold atI; rw [e]; exact h
noncomputable def PlainIx (b:Expr):Prop:=∀ o i,subscripted b false o i=operate [o,i] (getItem o i)
noncomputable def IxR (X:Cx) (r:R2):Prop :=
 ∀ (value slice:Expr) (pins:List (Addr×Obj)) (s:Shared) (σ : St) (H:Hp) (x y:V) (v u:Value) (Q:VK),Inv X pins σ H s->RelV x v->RelV y u->r x y H Q ->
  subscripted slice false v u=operate [v,u] (getItem v u)->wpAny (model X.prog X.w) X.A (subscriptTail value slice v u) (EP X pins σ Q) X.xe s
noncomputable def MtR (X:Cx) (id:String) (r:V->List V->Hp->VK->Prop):Prop :=
 ∀ (pins:List (Addr×Obj)) (s:Shared) (σ : St) (H:Hp) (x:V) (xs:List V) (v:Value) (us:List Value) (Q:VK),Inv X pins σ H s->RelV x v->Vals xs us->r x xs H Q ->
  wpAny (model X.prog X.w) X.A (call (.builtin id) (v :: us)) (EP X pins σ Q) X.xe s
section
variable {X:Cx} {a b:Expr} {ta tb:TE} {pos:Pos}
theorem zar {r:R2} (hr:IxR X r) (ha:PE X a ta) (hb:PE X b tb) (hs:PlainIx b):PE X (.Subscript a b pos) (tOp r ta tb):=by
 intro pins s σ H Q I h
 exact Subscript_ (binT ha hb I h fun v u s2 x y H2 I2 rx ry q=>hr a b pins s2 σ H2 x y v u Q I2 rx ry q (hs _ _))
noncomputable def rIxL (K:PySem.W.Frag):R2:=fun x y H Q=>∃ p xs i v,x = .ref p/\y = .int i/\SqL K H p xs/\atI xs i=some v/\Q v H
noncomputable def rIxT (K:PySem.W.Frag):R2:=fun x y H Q=>∃ p xs i v,x = .ref p/\y = .int i/\SqT K H p xs/\atI xs i=some v/\Q v H
noncomputable def rIxS:R2:=fun x y H Q=>∃ z i c,x = .str z/\y = .int i/\z.length<=sizeLine/\atI z.cps.toList i=some c/\Q (.str ⟨#[c]⟩) H
theorem zaM:IxR X (rIxL X.K):=by
 intro value slice pins s σ H x y v u Q I rx ry h hs
 obtain ⟨p,xs,i,z,rfl,rfl,hq,he,q⟩:=h
 cases rx
 obtain ⟨t,rfl⟩:=ry
 obtain ⟨its,r,pl,hz⟩:=I.list hq
 obtain ⟨j,h1,h2,h3,h4,h5⟩:=ze7 he
 obtain ⟨w,ew,rw'⟩:=r.get h2
 have hl:=r.length
 have hn:=zdR
 have fin:EP X pins σ Q w s:=⟨z,H,I,rw',q⟩
 by_cases h0:0<=i
 ·have hj:i.toNat=j:=by
   rw [seqIndex_of h0 h5] at h1
   exact Option.some.inj h1
  exact item_listR pl.isList h0 (by omega) (by rw [hj]; simpa using ew) fin hs
 ·have hj:(i + (its.toArray.size:Int)).toNat=j:=by
   rw [seqIndex_neg (by omega) h4] at h1
   rw [List.size_toArray,<- hl]
   exact Option.some.inj h1
  exact subscriptTail_builtinR (x:=w) pl.isList.typeIs slot_list_getitem.lookup
   (wpAny_getItem_list_neg (Q:=fun r s'=>r=w/\EP X pins σ Q r s') pl.isList (by omega) (by rw [List.size_toArray] <;> omega) (by omega) (by rw [hj]; simpa using ew) ⟨rfl,fin⟩) hs
theorem zas:IxR X (rIxT X.K):=by
 intro value slice pins s σ H x y v u Q I rx ry h hs
 obtain ⟨p,xs,i,z,rfl,rfl,hq,he,q⟩:=h
 cases rx
 obtain ⟨t,rfl⟩:=ry
 obtain ⟨its,r,pl,hz⟩:=I.tuple hq
 obtain ⟨j,h1,h2,h3,h4,h5⟩:=ze7 he
 obtain ⟨w,ew,rw'⟩:=r.get h2
 have hl:=r.length
 have hn:=zdR
 have fin:EP X pins σ Q w s:=⟨z,H,I,rw',q⟩
 exact subscriptTail_builtinR (x:=w) pl.typeIs slot_tuple_getitem.lookup
  (getItem_tuple (j:=j) (Q:=fun r s'=>r=w/\EP X pins σ Q r s') pl (by omega) (by omega) (by rw [List.size_toArray,<- hl]; exact h1) (by simpa using ew) ⟨rfl,fin⟩) hs
theorem ix_str:IxR X rIxS:=by
 intro value slice pins s σ H x y v u Q I rx ry h hs
 obtain ⟨z,i,c,rfl,rfl,hz,he,q⟩:=h
 obtain ⟨t,rfl⟩:=rx
 obtain ⟨t',rfl⟩:=ry
 obtain ⟨j,h1,h2,h3,h4,h5⟩:=ze7 he
 have hl:z.cps.toList.length=z.length:=by simp [Str.length]
 rw [hl] at h1 h4 h5
 have hn:=zdR
 exact tail_any (typeIs_str s z t) slot_str_getitem.lookup (getItem_str (c:=c) (by
  have e1:decide (i < -(2 ^ 63:Int))=false:=decide_eq_false (by omega)
  have e2:decide (i>=2 ^ 63)=false:=decide_eq_false (by omega)
  rw [e1,e2,Bool.or_false]) (by rw [h1]; simpa using h2) ⟨.str ⟨#[c]⟩,H,I.tok _,⟨_,rfl⟩,q⟩) hs
theorem mapSeq_set (its:List Value) (n j:Nat) (u:Value):Obj.mapSeq (·.setIfInBounds j u) { cls := .type "list",data := .seq its.toArray n }={ cls := .type "list",data := .seq (its.set j u).toArray n }:=by
 simp [Obj.mapSeq]
theorem Inv.lst {pins:List (Addr×Obj)} {σ : St} {H:Hp} {s:Shared} {p:Addr} {xs:List V} (I:Inv X pins σ H s) (h:H p=some (.lst xs)) :
  ∃ (its:List Value) (n:Nat),Vals xs its/\s.heap.get? p=some { cls := .type "list",data := .seq its.toArray n }/\xs.length<=sizeLine:=by
 obtain ⟨z,its,n,r,e⟩:=I.hok p _ h
 exact ⟨its,n,r,e,z⟩
theorem Inv.lstUpd {pins:List (Addr×Obj)} {σ : St} {H:Hp} {s:Shared} {p:Addr} {xs ys:List V} {its its':List Value} {n n':Nat} {f:Obj->Obj} (I:Inv X pins σ H s) (h:H p=some (.lst xs))
  (ho:s.heap.get? p=some { cls := .type "list",data := .seq its.toArray n }) (hf:f { cls := .type "list",data := .seq its.toArray n }={ cls := .type "list",data := .seq its'.toArray n' }) (r:Vals ys its') (hz:ys.length<=sizeLine) (t:Nat) :
  Inv X pins σ (upd H p (.lst ys)) { s with heap:=s.heap.update p f,toks:=t }:=by
 have e:(s.heap.update p f).get? p=some { cls := .type "list",data := .seq its'.toArray n' }:=by
  rw [Heap.get?_update_self f ho (by rw [hf] <;> rfl),hf]
 refine I.write (x:=p) (e:=p) (by rw [h]; trivial) (.inl rfl) (fun b u hb q=>(Heap.get?_update_other _ _ (Ne.symm hb)).trans q) ⟨_,e⟩ ?_
 exact ⟨hz,its',n',r,e⟩
noncomputable def rSetL:V->V->V->Hp->(Hp->Prop)->Prop:=fun o i v H Q=>∃ p xs k j,o = .ref p/\i = .int k/\H p=some (.lst xs)/\ixN xs.length k=some j/\Q (upd H p (.lst (xs.set j v)))
theorem set_list:PSet X rSetL:=by
 intro pins s σ H o i v ov iv u Q I ro ri rv h
 obtain ⟨p,xs,k,j,rfl,rfl,hp,hj,q⟩:=h
 cases ro
 obtain ⟨t,rfl⟩:=ri
 obtain ⟨its,n,r,ho,hz⟩:=I.lst hp
 obtain ⟨h1,h2,h3,h4⟩:=zgd hj
 have hl:=r.length
 have hn:=zdR
 have I':Inv X pins σ (upd H p (.lst (xs.set j v))) { s with heap:=s.heap.update p (Obj.mapSeq (·.setIfInBounds j u)) } :=
  I.lstUpd hp ho (mapSeq_set its n j u) (r.set rv j) (by rw [List.length_set]; exact hz) s.toks
 by_cases h0:0<=k
 ·have hk:k.toNat=j:=by
   rw [seqIndex_of h0 h4] at h1
   exact Option.some.inj h1
  exact PySem.W.ki_setAt ho h0 (by omega) (by rw [List.size_toArray,<- hl]; exact h4) (by rw [hk]; exact ⟨_,I',q⟩)
 ·have hk:(k + (its.toArray.size:Int)).toNat=j:=by
   rw [seqIndex_neg (by omega) h3] at h1
   rw [List.size_toArray,<- hl]
   exact Option.some.inj h1
  exact PySem.W.ki_setBack ho (by omega) (by rw [List.size_toArray,<- hl]; exact h3) (by omega) (by rw [hk]; exact ⟨_,I',q⟩)
theorem slice_bounds (lo hi:Option Int) (n:Nat):(sliceBounds lo hi none n).1=((HT.sIx n 0 lo:Nat):Int)/\(sliceBounds lo hi none n).2.1=((HT.sIx n n hi:Nat):Int)/\(sliceBounds lo hi none n).2.2=1:=by
 refine ⟨?_,?_,rfl⟩
 ·cases lo with
  | none=>simp [sliceBounds,HT.sIx]
  | some i =>
   simp only [sliceBounds,HT.sIx,Option.getD_none,show (1:Int) > 0 by decide,if_true]
   by_cases h:i < 0
   ·simp only [h,if_true] <;> omega
   ·simp only [h,if_false] <;> omega
 ·cases hi with
  | none=>simp [sliceBounds,HT.sIx]
  | some i =>
   simp only [sliceBounds,HT.sIx,Option.getD_none,show (1:Int) > 0 by decide,if_true]
   by_cases h:i < 0
   ·simp only [h,if_true] <;> omega
   ·simp only [h,if_false] <;> omega
theorem slicePick_cut (its:List Value) (lo hi:Option Int):slicePick its.toArray lo hi none=((its.drop (HT.sIx its.length 0 lo)).take (HT.sIx its.length its.length hi - HT.sIx its.length 0 lo)).toArray:=by
 obtain ⟨h1,h2,h3⟩:=slice_bounds lo hi its.toArray.size
 unfold slicePick
 rw [h1,h2,h3]
 simp only [sliceRange_one,pick_run,List.size_toArray] <;> rfl
noncomputable def rSlL (K:PySem.W.Frag):V->Option Int->Option Int->Hp->VK->Prop:=fun x lo hi H Q=>∃ a xs,x = .ref a/\SqL K H a xs/\∀ p,H p=none->Q (.ref p) (upd H p (.lst (cutV xs lo hi)))
theorem sl_list:SlR X (rSlL X.K):=by
 intro pins s σ H x v vl vu lo hi sl Q I rx hs pl pu h
 obtain ⟨a,xs,rfl,hx,q⟩:=h
 cases rx
 obtain ⟨its,r,ht,hz⟩:=I.list hx
 have hlen:=r.length
 refine ⟨"list",_,slot_list_getitem.lookup,ht.isList.typeIs,?_⟩
 refine wpAny_getItem_list_slice ht.isList hs pl pu .none (by simp) ?_ (by rw [List.size_toArray] <;> omega)
 rw [slicePick_cut,<- hlen]
 refine ⟨.ref s.heap.objs.size,_,I.laid (t':=s.toks) (o := .lst (cutV xs lo hi)) (fun b ob q=>Heap.get?_push_of_some _ q) (Nat.le_refl _) ?_,rfl,q _ (I.hok.fresh (Nat.le_refl _))⟩
 exact ⟨Nat.le_trans (cutV_length xs lo hi) hz,_,0,(r.drop (HT.sIx xs.length 0 lo)).take (HT.sIx xs.length xs.length hi - HT.sIx xs.length 0 lo),Heap.get?_push_size _ rfl⟩
noncomputable def flatV:V->Bool
 | .non=>true
 | .bl _=>true
 | .int _=>true
 | .str _=>true
 | _=>false
noncomputable def eqV:V->V->Bool
 | .non,.non=>true
 | .bl a,.bl b=>a == b
 | .bl a,.int b=>(if a then 1 else 0) == b
 | .int a,.bl b=>a == (if b then 1 else 0)
 | .int a,.int b=>a == b
 | .str a,.str b=>a == b
 | _,_=>false
theorem eqAt_V {A:Around} {s:Shared} {y x:V} {u v:Value} (ry:RelV y u) (rx:RelV x v) (fy:flatV y=true) (fx:flatV x=true):SeqAt.EqAt A s u v (eqV y x):=by
 cases y with
 | non =>
  cases ry
  cases x with
  | non=>cases rx; exact SeqAt.EqAt.same _
  | bl b=>cases rx; exact SeqAt.EqAt.none_bool b
  | int b=>obtain ⟨t,rfl⟩:=rx; exact SeqAt.EqAt.none_int b t
  | str b=>obtain ⟨t,rfl⟩:=rx; exact SeqAt.EqAt.none_str b t
  | _=>exact absurd (show false=true from fx) Bool.false_ne_true
 | bl a =>
  cases ry
  cases x with
  | non=>cases rx; exact SeqAt.EqAt.bool_none a
  | bl b=>cases rx; exact SeqAt.EqAt.bool_bool a b
  | int b=>obtain ⟨t,rfl⟩:=rx; exact SeqAt.EqAt.bool_int a b t
  | str b=>obtain ⟨t,rfl⟩:=rx; exact SeqAt.EqAt.bool_str a b t
  | _=>exact absurd (show false=true from fx) Bool.false_ne_true
 | int a =>
  obtain ⟨t',rfl⟩:=ry
  cases x with
  | non=>cases rx; exact SeqAt.EqAt.int_none a t'
  | bl b=>cases rx; exact SeqAt.EqAt.int_bool a t' b
  | int b=>obtain ⟨t,rfl⟩:=rx; exact SeqAt.EqAt.int_int a t' b t
  | str b=>obtain ⟨t,rfl⟩:=rx; exact SeqAt.EqAt.int_str a t' b t
  | _=>exact absurd (show false=true from fx) Bool.false_ne_true
 | str a =>
  obtain ⟨t',rfl⟩:=ry
  cases x with
  | non=>cases rx; exact SeqAt.EqAt.str_none a t'
  | bl b=>cases rx; exact SeqAt.EqAt.str_bool a t' b
  | int b=>obtain ⟨t,rfl⟩:=rx; exact SeqAt.EqAt.str_int a t' b t
  | str b=>obtain ⟨t,rfl⟩:=rx; exact SeqAt.EqAt.str_str a t' b t
  | _=>exact absurd (show false=true from fx) Bool.false_ne_true
 | _=>exact absurd (show false=true from fy) Bool.false_ne_true
noncomputable def eqU (x:V) (u:Value):Bool:=match u with
 | .none=>eqV .non x
 | .bool b=>eqV (.bl b) x
 | .int i _=>eqV (.int i) x
 | .str z _=>eqV (.str z) x
 | _=>false
theorem zgN {x y:V} {u:Value} (r:RelV y u) (f:flatV y=true):eqU x u=eqV y x:=by
 cases y with
 | non=>cases r; rfl
 | bl b=>cases r; rfl
 | int i=>obtain ⟨t,rfl⟩:=r; rfl
 | str z=>obtain ⟨t,rfl⟩:=r; rfl
 | _=>exact absurd (show false=true from f) Bool.false_ne_true
theorem zds {x:V}:∀ {xs:List V} {us:List Value},Vals xs us->xs.all flatV=true->us.any (eqU x)=xs.any fun y=>eqV y x
 | _,_,.nil,_=>rfl
 | y :: xs,u :: us,.cons r t,f=>by
  rw [List.all_cons,Bool.and_eq_true] at f
  rw [List.any_cons,List.any_cons,zgN r f.1,zds t f.2]
theorem zcy {A:Around} {s:Shared} {x:V} {v:Value} (rx:RelV x v) (fx:flatV x=true):∀ {xs:List V} {us:List Value},Vals xs us->xs.all flatV=true->∀ u∈us,SeqAt.EqAt A s u v (eqU x u)
 | _,_,.nil,_=>fun u hu=>by cases hu
 | y :: xs,u :: us,.cons r t,f=>fun u' hu=>by
  rw [List.all_cons,Bool.and_eq_true] at f
  rcases List.mem_cons.mp hu with rfl | hu
  ·rw [zgN r f.1]; exact eqAt_V r rx f.1 fx
  ·exact zcy rx fx t f.2 u' hu
noncomputable def inV (x:V) (xs:List V):Bool:=xs.any fun y=>eqV y x
noncomputable def rIn (K:PySem.W.Frag) (neg:Bool):R2:=fun x y H Q=>∃ p xs,y = .ref p/\(SqL K H p xs\/SqT K H p xs)/\flatV x=true/\xs.all flatV=true/\Q (.bl (if neg then !inV x xs else inV x xs)) H
theorem zdh:OpR X (compareOp .In) (rIn X.K false):=by
 intro pins s σ H x y v u Q I rx ry h
 obtain ⟨p,xs,rfl,hq,fx,fs,q⟩:=h
 cases ry
 rcases hq with hq | hq
 ·obtain ⟨its,r,pl,hz⟩:=I.list hq
  refine SeqAt.in_listAt (eqU x) pl.isList (fun w hw=>zcy rx fx r fs w (by simpa using hw)) ⟨.bl _,H,I,rfl,?_⟩
  rw [show its.toArray.any (eqU x)=its.any (eqU x) by simp,zds r fs]
  exact q
 ·obtain ⟨its,r,pl,hz⟩:=I.tuple hq
  refine SeqAt.in_tupleAt (eqU x) pl (fun w hw=>zcy rx fx r fs w (by simpa using hw)) ⟨.bl _,H,I,rfl,?_⟩
  rw [show its.toArray.any (eqU x)=its.any (eqU x) by simp,zds r fs]
  exact q
theorem zbB:OpR X (compareOp .NotIn) (rIn X.K true):=by
 intro pins s σ H x y v u Q I rx ry h
 obtain ⟨p,xs,rfl,hq,fx,fs,q⟩:=h
 cases ry
 rcases hq with hq | hq
 ·obtain ⟨its,r,pl,hz⟩:=I.list hq
  refine SeqAt.notIn_listAt (eqU x) pl.isList (fun w hw=>zcy rx fx r fs w (by simpa using hw)) ⟨.bl _,H,I,rfl,?_⟩
  rw [show its.toArray.any (eqU x)=its.any (eqU x) by simp,zds r fs]
  exact q
 ·obtain ⟨its,r,pl,hz⟩:=I.tuple hq
  refine SeqAt.notIn_tupleAt (eqU x) pl (fun w hw=>zcy rx fx r fs w (by simpa using hw)) ⟨.bl _,H,I,rfl,?_⟩
  rw [show its.toArray.any (eqU x)=its.any (eqU x) by simp,zds r fs]
  exact q
theorem zap:CallR X (.builtin "len") (fun xs H Q=>∃ p ys,xs = [.ref p]/\(SqL X.K H p ys\/SqT X.K H p ys)/\Q (.int ys.length) H):=by
 intro pins s σ H xs us Q I r h
 obtain ⟨p,ys,rfl,hq,q⟩:=h
 obtain ⟨u,rfl,rx⟩:=zbJ r
 cases rx
 have hn:=zdR
 rcases hq with hq | hq
 ·obtain ⟨its,r',pl,hz⟩:=I.list hq
  have hlen:=r'.length
  exact Calls.call_len_list pl.isList (by simp only [List.size_toArray] <;> omega) ⟨.int ys.length,H,I.tok _,⟨s.toks + 1,by rw [List.size_toArray,hlen]⟩,q⟩
 ·obtain ⟨its,r',pl,hz⟩:=I.tuple hq
  have hlen:=r'.length
  exact len_tuple pl (by simp only [List.size_toArray] <;> omega) ⟨.int ys.length,H,I.tok _,⟨s.toks + 1,by rw [List.size_toArray,hlen]⟩,q⟩
theorem call_len_str:CallR X (.builtin "len") (fun xs H Q=>∃ z,xs = [.str z]/\z.length<=sizeLine/\Q (.int z.length) H):=by
 intro pins s σ H xs us Q I r h
 obtain ⟨z,rfl,hz,q⟩:=h
 obtain ⟨u,rfl,t,rfl⟩:=zbJ r
 have hn:=zdR
 exact len_str (by omega) ⟨.int z.length,H,I.tok _,⟨_,rfl⟩,q⟩
theorem zbC:CallR X (.type "list") (fun xs H Q=>∃ p ys,xs = [.ref p]/\(SqL X.K H p ys\/SqT X.K H p ys)/\∀ l,H l=none->Q (.ref l) (upd H l (.lst ys))):=by
 intro pins s σ H xs us Q I r h
 obtain ⟨p,ys,rfl,hq,q⟩:=h
 obtain ⟨u,rfl,rx⟩:=zbJ r
 cases rx
 have fin:∀ (its:List Value),Vals ys its->ys.length<=sizeLine->∀ (h':Heap) (c':Nat),(∀ b o',s.heap.get? b=some o'->h'.get? b=some o') ->
   h'.get? s.heap.objs.size=some { cls := .type "list",dict:=none,data := .seq its.toArray c',slots := #[] }->EP X pins σ Q (.ref s.heap.objs.size) { s with heap:=h' }:=fun its r' hz h' c' kp e =>
  ⟨.ref s.heap.objs.size,_,I.laid (t':=s.toks) kp (Nat.le_refl _) (show ObjOk X.prog X.w _ h' _ (.lst ys) from ⟨hz,its,c',r',e⟩),rfl,q _ (I.hok.fresh (Nat.le_refl _))⟩
 rcases hq with hq | hq
 ·obtain ⟨its,r',pl,hz⟩:=I.list hq
  have hlen:=r'.length
  obtain ⟨o,ho,hc,n,hd⟩:=pl.isList
  exact call_list_seq p (.inl rfl) ho hc hd (fun h' c' kp e=>fin its r' hz h' c' kp e) (by simp only [List.size_toArray] <;> omega)
 ·obtain ⟨its,r',pl,hz⟩:=I.tuple hq
  have hlen:=r'.length
  obtain ⟨o,ho,hc,n,hd⟩:=pl
  exact call_list_seq p (.inr rfl) ho hc hd (fun h' c' kp e=>fin its r' hz h' c' kp e) (by simp only [List.size_toArray] <;> omega)
theorem zcB:CallR X (.type "tuple") (fun xs H Q=>∃ p ys,xs = [.ref p]/\((SqL X.K H p ys/\∀ l,H l=none->Q (.ref l) (upd H l (.tup ys)))\/(SqT X.K H p ys/\Q (.ref p) H))):=by
 intro pins s σ H xs us Q I r h
 obtain ⟨p,ys,rfl,h⟩:=h
 obtain ⟨u,rfl,rx⟩:=zbJ r
 cases rx
 rcases h with ⟨hq,q⟩ | ⟨hq,q⟩
 ·obtain ⟨its,r',pl,hz⟩:=I.list hq
  have hlen:=r'.length
  refine call_tuple_list pl.isList (fun h' kp => ?_) (by simp only [List.size_toArray] <;> omega)
  have I1:Inv X pins σ H { s with heap:=h' }:=I.kept (t':=s.toks) kp
  have I2:Inv X pins σ (upd H h'.objs.size (.tup ys)) { s with heap:=h'.push { cls := .type "tuple",data := .seq its.toArray } } :=
   I1.laid (t':=s.toks) (fun b o e=>Heap.get?_push_of_some _ e) (Nat.le_refl _) (show ObjOk X.prog X.w _ _ _ (.tup ys) from ⟨hz,its,r',IsTup.new _ _⟩)
  exact ⟨.ref h'.objs.size,_,I2,rfl,q _ (I1.hok.fresh (Nat.le_refl _))⟩
 ·obtain ⟨its,r',pl,hz⟩:=I.tuple hq
  exact call_tuple_same pl ⟨.ref p,H,I,rfl,q⟩
noncomputable def tyV (K:PySem.W.Frag) (T:String) (x:V) (H:Hp):Prop:=match x with
 | .str _=>T = "str"
 | .int _=>T = "int"
 | .ref p=>(T = "list" /\ ∃ xs,SqL K H p xs)\/(T = "tuple" /\ ∃ o,K.lookup p=some o/\o.cls = .type "tuple" /\ o.dict=none) \/
   (T = "dict" /\ ((∃ kvs,H p=some (.dK kvs))\/∃ kvs,H p=some (.dT kvs)))\/(T = "set" /\ ∃ S n,H p=some (.set S n))
 | _=>False
theorem tyV_is {pins:List (Addr×Obj)} {σ : St} {H:Hp} {s:Shared} {T:String} {x:V} {v:Value} (I:Inv X pins σ H s) (r:RelV x v) (ty:tyV X.K T x H) :
  s.TypeIs v T/\∀ a,v = .ref a->∃ ob,s.heap.get? a=some ob/\ob.dict=none:=by
 cases x with
 | str z =>
  obtain ⟨t,rfl⟩:=r
  cases (show T = "str" from ty)
  exact ⟨typeIs_str s z t,fun _ e=>nomatch e⟩
 | int i =>
  obtain ⟨t,rfl⟩:=r
  cases (show T = "int" from ty)
  exact ⟨typeIs_int s i t,fun _ e=>nomatch e⟩
 | ref p =>
  cases r
  rcases ty with ⟨rfl,xs,hq⟩ | ⟨rfl,o,hk,hc,hd⟩ | ⟨rfl,hk⟩ | ⟨rfl,S,n,hk⟩
  ·obtain ⟨its,_,pl,_⟩:=I.list hq
   refine ⟨pl.isList.typeIs,fun a e => ?_⟩
   cases e
   obtain ⟨o,n,e,c,hd,_⟩:=pl
   exact ⟨o,e,hd⟩
  ·refine ⟨⟨o,I.kIn p o hk,hc⟩,fun a e => ?_⟩
   cases e
   exact ⟨o,I.kIn _ o hk,hd⟩
  ·have z:∃ o,s.heap.get? p=some o/\o.ExactDict:=by
    rcases hk with ⟨kvs,hk⟩ | ⟨kvs,hk⟩
    ·obtain ⟨_,_,_,_,o,_,_,e,ex,_⟩:=I.hok p _ hk
     exact ⟨o,e,ex⟩
    ·obtain ⟨_,_,_,_,o,_,_,e,ex,_⟩:=I.hok p _ hk
     exact ⟨o,e,ex⟩
   obtain ⟨o,e,ex⟩:=z
   refine ⟨⟨o,e,ex.1⟩,fun a e2 => ?_⟩
   cases e2
   exact ⟨o,e,ex.2.1⟩
  ·obtain ⟨o,_,_,_,e,ex,_⟩:=I.hok p _ hk
   refine ⟨⟨o,e,ex.1⟩,fun a e2 => ?_⟩
   cases e2
   exact ⟨o,e,ex.2.1⟩
 | _=>exact False.elim ty
noncomputable def tBM (K:PySem.W.Frag) (T:String) (r:V->List V->Hp->VK->Prop) (to:TE) (t:TA):TE:=fun σ H Q=>to σ H fun x H1=>tyV K T x H1/\t σ H1 fun xs H2=>r x xs H2 Q
variable {o e:Expr} {es:List Expr} {to:TE} {t:TA} {name:Str} {apos cpos:Pos} {T id:String} {r:V->List V->Hp->VK->Prop}
theorem zdv (pa:PlainAttrs T) (slot:Slot T name id) (hty:typeOf (.builtin id)=pure (.type "method_descriptor")) (hm:MtR X id r) (ho:PE X o to) (ha:PA X (e :: es) t)
  (hbase:attributeBase o name X.env (eval o X.env)=eval o X.env:=by rfl)
  (hfew:((backTo cpos (starEach (e :: es) X.env)).all (fun x => !x.1) && (backToKw cpos (keywordEach [] X.env)).all (fun x=>x.1.isSome)
   && decide ((e :: es).length + ([]:List Keyword).length + (if ([]:List Keyword).isEmpty then 0 else 1) < 30))=true:=by rfl)
  (hline:(apos.endLine == cpos.line)=true:=by rfl) (hs:starEach (e :: es) X.env=(false,eval e X.env) :: starEach es X.env:=by rfl) (hplain:(backTo cpos (starEach es X.env)).any (·.1)=false:=by rfl) :
  PE X (.Call (.Attribute o name apos) (e :: es) [] cpos) (tBM X.K T r to t):=by
 intro pins s σ H Q I h
 refine wpAny_Call_method_late hbase hfew hline rfl (thn (ho pins s σ H _ I h) fun v s1 ⟨x,H1,I1,r1,ty,q1⟩ => ?_)
 obtain ⟨h1,h2⟩:=tyV_is I1 r1 ty
 refine ⟨T,id,pa,slot,hty,h1,h2,?_⟩
 have hA:=ha cpos pins s1 σ H1 _ I1 q1
 rw [hs] at hA ⊢
 refine Calls.callWith_builtin (by show (false || (backTo cpos (starEach es X.env)).any (·.1))=false; rw [hplain] <;> rfl) (Calls.evalArgs_plain ?_)
 exact thn hA fun us s2 ⟨vs,H2,I2,r2,q2⟩=>hm pins s2 σ H2 x vs v us Q I2 r1 r2 q2
end
end L2
namespace L2
open PySem PySem.Spec PyProof.Rows
noncomputable def MtM (X:Cx) (id:String) (r:V->List V->Hp->VK->Prop):Prop :=
 ∀ (pins:List (Addr×Obj)) (s:Shared) (σ : St) (H:Hp) (x:V) (xs:List V) (v:Value) (us:List Value) (Q:VK),Inv X pins σ H s->RelV x v->Vals xs us->r x xs H Q ->
  wpAny (model X.prog X.w) X.A (call (.builtin id) (v :: us)) (EP X pins σ Q) X.xe s
theorem Vals.one:∀ {x:V} {us:List Value},Vals [x] us->∃ u,us = [u]/\RelV x u
 | _,_,.cons r .nil=>⟨_,rfl,r⟩
theorem Vals.two:∀ {x y:V} {us:List Value},Vals [x,y] us->∃ u v,us = [u,v]/\RelV x u/\RelV y v
 | _,_,_,.cons r (.cons q .nil)=>⟨_,_,rfl,r,q⟩
theorem Vals.rep {xs:List V} {us:List Value} (h:Vals xs us):∀ k:Nat,Vals (List.replicate k xs).flatten (List.replicate k us).flatten
 | 0 => .nil
 | k + 1=>by
  rw [List.replicate_succ,List.replicate_succ,List.flatten_cons,List.flatten_cons]
  exact Vals.append h (Vals.rep h k)
theorem zeE (its:List Value):∀ (k:Nat) (acc:List Value),
  List.foldl (fun x1 x2=>x1 ++ x2) acc.toArray (List.replicate k its.toArray)=(acc ++ (List.replicate k its).flatten).toArray
 | 0,acc=>by simp
 | k + 1,acc=>by
  have e:acc.toArray ++ its.toArray=(acc ++ its).toArray:=by simp
  have e2:(acc ++ its) ++ (List.replicate k its).flatten=acc ++ (List.replicate (k + 1) its).flatten:=by
   rw [List.replicate_succ,List.flatten_cons,List.append_assoc]
  rw [<- e2,<- zeE its k (acc ++ its),<- e,List.replicate_succ,List.foldl_cons]
section
variable {X:Cx} {pins:List (Addr×Obj)} {σ : St} {H:Hp} {s:Shared} {l b:Addr} {xs ys zs:List V}
theorem Inv.lset {its its':List Value} {n:Nat} {f:Array Value->Array Value} {t':Nat} (I:Inv X pins σ H s) (hH:H l=some (.lst xs))
  (e:s.heap.get? l=some { cls := .type "list",data := .seq its.toArray n }) (hf:f its.toArray=its'.toArray) (hv:Vals ys its') (hz:ys.length<=sizeLine) :
  Inv X pins σ (upd H l (.lst ys)) { s with heap:=s.heap.update l (Obj.mapSeq f),toks:=t' }:=by
 have q:=PySem.IsL.update e f
 rw [hf] at q
 refine I.write (x:=l) (e:=l) (by rw [hH]; exact trivial) (.inl rfl) (fun b' u hb hu=>(Heap.get?_update_other s.heap (Obj.mapSeq f) (Ne.symm hb)).trans hu) ⟨_,q⟩ ?_
 exact ⟨hz,its',_,hv,q⟩
theorem Inv.lnew {its:List Value} {t':Nat} (I:Inv X pins σ H s) (hv:Vals ys its) (hz:ys.length<=sizeLine) :
  Inv X pins σ (upd H s.heap.objs.size (.lst ys)) { s with heap:=s.heap.push { cls := .type "list",data := .seq its.toArray },toks:=t' } :=
 I.laid (fun _ _ q=>Heap.get?_push_of_some _ q) (Nat.le_refl _) ⟨hz,its,0,hv,Heap.get?_push_size _ rfl⟩
theorem Inv.fresh (I:Inv X pins σ H s):H s.heap.objs.size=none:=I.hok.fresh (Nat.le_refl _)
theorem Inv.lstM (I:Inv X pins σ H s) (hH:H l=some (.lst xs)):xs.length<=sizeLine/\∃ (its:List Value) (n:Nat),Vals xs its/\xs.length=its.length/\s.heap.get? l=some { cls := .type "list",data := .seq its.toArray n }:=by
 obtain ⟨z,its,n,r,e⟩:=I.hok l _ hH
 exact ⟨z,its,n,r,r.length,e⟩
theorem notLongL {n:Nat} (h:n<=sizeLine):Builtin.List.listTooLong n=false:=by
 unfold Builtin.List.listTooLong
 exact decide_eq_false (by omega)
end
section
variable {X:Cx}
noncomputable def rAppend:V->List V->Hp->VK->Prop:=fun x vs H Q=>∃ l xs y,x = .ref l/\vs = [y]/\H l=some (.lst xs)/\xs.length < sizeLine/\Q .non (upd H l (.lst (xs ++ [y])))
theorem zaV:MtM X "list.append" rAppend:=by
 intro pins s σ H x vs v us Q I rx rv h
 obtain ⟨l,xs,y,rfl,rfl,hH,hz,q⟩:=h
 cases rx
 obtain ⟨u,rfl,ru⟩:=rv.one
 obtain ⟨z,its,n,r,hl,e⟩:=I.lstM hH
 refine call_meets F.slot_list_append ⟨_,e,rfl⟩ F.entry_list_append (F.args_list_append_2 _ _) (PySem.list_append l its.toArray n u (by rw [List.size_toArray]; omega)) ⟨e,?_⟩
 refine ⟨.non,_,I.lset (its':=its ++ [u]) hH e (by simp) (r.append (.cons ru .nil)) ?_,rfl,q⟩
 rw [List.length_append,List.length_singleton]
 omega
noncomputable def rCat:R2:=fun x y H Q=>∃ l b xs zs,x = .ref l/\y = .ref b/\H l=some (.lst xs)/\H b=some (.lst zs)/\xs.length + zs.length<=sizeLine/\∀ p,H p=none->Q (.ref p) (upd H p (.lst (xs ++ zs)))
theorem zb1:OpR X (binaryOp .Add) rCat:=by
 intro pins s σ H x y v u Q I rx ry h
 obtain ⟨l,b,xs,zs,rfl,rfl,hH,hB,hz,q⟩:=h
 cases rx
 cases ry
 obtain ⟨z,its,n,r,hl,e⟩:=I.lstM hH
 obtain ⟨z2,its2,n2,r2,hl2,e2⟩:=I.lstM hB
 refine PySem.P.add_list e e2 ?_ (by rw [List.size_toArray,List.size_toArray]; omega)
 have ea:its.toArray ++ its2.toArray=(its ++ its2).toArray:=by simp
 rw [ea]
 exact ⟨.ref _,_,I.lnew (t':=s.toks) (r.append r2) (by rw [List.length_append]; omega),rfl,q _ I.fresh⟩
noncomputable def rRep:R2:=fun x y H Q=>∃ l k xs,x = .ref l/\y = .int k/\H l=some (.lst xs) /\ -(2 ^ 63)<=k/\k < 2 ^ 63/\xs.length * k.toNat<=sizeLine /\
 ∀ p,H p=none->Q (.ref p) (upd H p (.lst (List.replicate k.toNat xs).flatten))
theorem len_rep {α : Type} (xs:List α) (k:Nat):(List.replicate k xs).flatten.length=k * xs.length:=by
 induction k with
 | zero=>simp
 | succ k ih=>rw [List.replicate_succ,List.flatten_cons,List.length_append,ih,Nat.succ_mul,Nat.add_comm]
theorem op_rep:OpR X (binaryOp .Mult) rRep:=by
 intro pins s σ H x y v u Q I rx ry h
 obtain ⟨l,k,xs,rfl,rfl,hH,h1,h2,hz,q⟩:=h
 cases rx
 obtain ⟨t,rfl⟩:=ry
 obtain ⟨z,its,n,r,hl,e⟩:=I.lstM hH
 have hlen:its.toArray.size * k.toNat<=sizeLine:=by rw [List.size_toArray,<- hl]; exact hz
 have hcap:¬ its.toArray.size * k.toNat > (2 ^ 63 - 1) / 8:=by
  have:(sizeLine:Nat)<=(2 ^ 63 - 1) / 8:=by decide
  omega
 have hfit:¬ (!Builtin.List.listFitsIndex k)=true:=by
  rw [fitsIndex_both h1 h2]
  exact Bool.false_ne_true
 have hlong:¬ Builtin.List.listTooLong (its.toArray.size * k.toNat)=true:=by
  rw [notLongL hlen]
  exact Bool.false_ne_true
 have hnew:List.foldl (fun x1 x2=>x1 ++ x2) #[] (List.replicate (if its.toArray.isEmpty=true then 0 else k.toNat) its.toArray)=(List.replicate k.toNat its).flatten.toArray:=by
  have f0:∀ m:Nat,List.foldl (fun x1 x2=>x1 ++ x2) #[] (List.replicate m its.toArray)=(List.replicate m its).flatten.toArray:=fun m=>by
   have:=zeE its m []
   rw [List.nil_append] at this
   exact this
  rw [f0]
  cases its with
  | nil=>simp
  | cons a r'=>rw [if_neg (by simp)]
 refine wpAny_binaryOp_repeat_ref (T := "list") (U := "int") (by decide) ⟨_,e,rfl⟩ (fun s'=>typeIs_int s' k t) noFill_list_mul F.fills_int_mul F.slot_int_rmul repeat_list F.slot_int_index.lookup
  (call_meets F.slot_int_rmul (typeIs_int s k t) F.entry_int_rmul (F.args_int_rmul_2 _ _) (int___rmul___int_list k t l its.toArray n)
   ⟨e,rfl,⟨_,e,rfl⟩,call_meets F.slot_list_mul ⟨_,e,rfl⟩ F.entry_list_mul (F.args_list_mul_2 _ _) (AutoListH.list___mul___list_int_3 l its.toArray n k t hfit hcap hlong) ⟨e,?_⟩⟩)
 rw [hnew]
 exact ⟨.ref _,_,I.lnew (t':=s.toks) (r.rep k.toNat) (by rw [len_rep,Nat.mul_comm]; exact hz),rfl,q _ I.fresh⟩
end
section
variable {prog:Program} {w:World} {A:Around} {E:Value->Shared->Prop} {s:Shared}
end
section
variable {X:Cx}
end
end L2
namespace L2
open PySem PySem.Spec PyProof.Rows
section
variable {κ : Type} [DecidableEq κ]
noncomputable def valV (kvs:List (κ × V)) (k : κ):Option V:=(kvs.find? fun kv=>decide (kv.1=k)).map (·.2)
noncomputable def putK (kvs:List (κ × V)) (k : κ) (v:V):List (κ × V) :=
 if (kvs.any fun kv=>decide (kv.1=k))=true then kvs.map (fun kv=>if kv.1=k then (kv.1,v) else kv) else kvs ++ [(k,v)]
theorem zcS {p : κ × V} {r:List (κ × V)} {k : κ} (e:p.1=k):valV (p :: r) k=some p.2:=by simp [valV,List.find?_cons,e]
theorem zcm {p : κ × V} {r:List (κ × V)} {k : κ} (e:¬ p.1=k):valV (p :: r) k=valV r k:=by simp [valV,List.find?_cons,e]
theorem zbu (k : κ):∀ kvs:List (κ × V),(kvs.any fun kv=>decide (kv.1=k))=(valV kvs k).isSome
 | []=>rfl
 | p :: r=>by
  rw [List.any_cons]
  by_cases e:p.1=k
  ·simp only [zcS e,decide_eq_true e,Bool.true_or,Option.isSome_some]
  ·rw [zcm e,decide_eq_false e,Bool.false_or]; exact zbu k r
theorem zbO (kvs:List (κ × V)) (k : κ) (v:V):(putK kvs k v).length<=kvs.length + 1:=by
 unfold putK
 split
 ·rw [List.length_map]; omega
 ·rw [List.length_append,List.length_cons,List.length_nil]; omega
theorem zfu {kvs:List (κ × V)} {k : κ} (v:V) (h:valV kvs k=none):putK kvs k v=kvs ++ [(k,v)]:=by
 unfold putK
 rw [zbu,h]
 exact if_neg (by decide)
theorem RelO.isSome_eq {o:Option V} {u:Option Value} (r:RelO o u):o.isSome=u.isSome:=by
 cases o with
 | none=>cases u with
  | none=>rfl
  | some _=>exact (show False from r).elim
 | some _=>cases u with
  | none=>exact (show False from r).elim
  | some _=>rfl
theorem KV.val {kvs:List (κ × V)} {vs:List (κ × Value)} (r:KV kvs vs) (k : κ):RelO (valV kvs k) (valueAt vs k):=by
 unfold KV at r
 induction r with
 | nil=>exact True.intro
 | @cons p q ps qs h t ih =>
  obtain ⟨h1,h2⟩:=h
  by_cases e:p.1=k
  ·have e':q.1=k:=h1.symm.trans e
   have b:valueAt (q :: qs) k=some q.2:=by simp [valueAt,List.find?_cons,e']
   rw [zcS e,b]; exact h2
  ·have e':¬ q.1=k:=fun z=>e (h1.trans z)
   have b:valueAt (q :: qs) k=valueAt qs k:=by simp [valueAt,List.find?_cons,e']
   rw [zcm e,b]; exact ih
theorem KV.any {kvs:List (κ × V)} {vs:List (κ × Value)} (r:KV kvs vs) (k : κ):(kvs.any fun kv=>decide (kv.1=k))=vs.any fun kv=>decide (kv.1=k):=by
 unfold KV at r
 induction r with
 | nil=>rfl
 | cons h t ih=>rw [List.any_cons,List.any_cons,ih,h.1]
theorem KV.repl {kvs:List (κ × V)} {vs:List (κ × Value)} (r:KV kvs vs) (k : κ) {y:V} {u:Value} (ry:RelV y u) :
  KV (kvs.map fun kv=>if kv.1=k then (kv.1,y) else kv) (vs.map fun kv=>if kv.1=k then (kv.1,u) else kv):=by
 unfold KV at r ⊢
 induction r with
 | nil=>exact .nil
 | @cons p q ps qs h t ih =>
  rw [List.map_cons,List.map_cons]
  refine .cons ?_ ih
  obtain ⟨h1,h2⟩:=h
  by_cases e:p.1=k
  ·rw [if_pos e,if_pos (h1.symm.trans e)]; exact ⟨h1,ry⟩
  ·rw [if_neg e,if_neg (fun z=>e (h1.trans z))]; exact ⟨h1,h2⟩
theorem KV.put {kvs:List (κ × V)} {vs:List (κ × Value)} (r:KV kvs vs) (k : κ) {y:V} {u:Value} (ry:RelV y u):KV (putK kvs k y) (stored vs k u):=by
 unfold putK stored
 rw [r.any k]
 by_cases e:(vs.any fun kv=>decide (kv.1=k))=true
 ·rw [if_pos e,if_pos e]; exact r.repl k ry
 ·rw [if_neg e,if_neg e]; exact Paired.snoc r ⟨rfl,ry⟩
theorem KV.length {kvs:List (κ × V)} {vs:List (κ × Value)} (r:KV kvs vs):kvs.length=vs.length:=Paired.length r
end
theorem zfG {P:Program} {w:World} {k:Key} {u:Value} (r:RelV (kV k) u):(mixKind P w).is k u=true:=by
 cases k with
 | inl i=>obtain ⟨t,e⟩:=(show ∃ t,u=Value.int i t from r); subst e; exact mixKind_int P w i t
 | inr x=>obtain ⟨t,e⟩:=(show ∃ t,u=Value.str x t from r); subst e; exact mixKind_str P w x t
theorem zeA {P:Program} {w:World}:∀ {ks:List Key} {us:List Value},Vals (ks.map kV) us->ItemsAre (mixKind P w) ks us
 | [],_,r=>by rw [List.map_nil] at r; cases r; exact .nil
 | k :: ks,_,r=>by
  rw [List.map_cons] at r
  cases r with
  | cons h t=>exact .cons (zfG h) (zeA t)
noncomputable abbrev KT (H:Hp):List (List Key×V)->List (List Key×Addr×Value)->Prop:=Paired fun p q=>p.1=q.1/\H q.2.1=some (.tup (p.1.map kV))/\RelV p.2 q.2.2
theorem KT.val {H:Hp} {kvs:List (List Key×V)} {xs:List (List Key×Addr×Value)} (r:KT H kvs xs) (k:List Key):RelO (valV kvs k) ((atKey xs k).map (·.2)):=by
 induction r with
 | nil=>exact True.intro
 | @cons p q ps qs h t ih =>
  obtain ⟨h1,_,h2⟩:=h
  by_cases e:p.1=k
  ·have e':q.1=k:=h1.symm.trans e
   have b:atKey (q :: qs) k=some q.2:=by simp [atKey,List.find?_cons,e']
   rw [zcS e,b]; exact h2
  ·have e':¬ q.1=k:=fun z=>e (h1.trans z)
   have b:atKey (q :: qs) k=atKey qs k:=by simp [atKey,List.find?_cons,e']
   rw [zcm e,b]; exact ih
theorem KT.repl {H:Hp} {kvs:List (List Key×V)} {xs:List (List Key×Addr×Value)} (r:KT H kvs xs) (k:List Key) {y:V} {u:Value} (ry:RelV y u) :
  KT H (kvs.map fun kv=>if kv.1=k then (kv.1,y) else kv) (xs.map (putAt k u)):=by
 induction r with
 | nil=>exact .nil
 | @cons p q ps qs h t ih =>
  rw [List.map_cons,List.map_cons]
  refine .cons ?_ ih
  obtain ⟨h1,h2,h3⟩:=h
  unfold putAt
  by_cases e:p.1=k
  ·rw [if_pos e,if_pos (h1.symm.trans e)]; exact ⟨h1,h2,ry⟩
  ·rw [if_neg e,if_neg (fun z=>e (h1.trans z))]; exact ⟨h1,h2,h3⟩
theorem KT.put {H:Hp} {kvs:List (List Key×V)} {xs:List (List Key×Addr×Value)} (r:KT H kvs xs) (k:List Key) {b:Addr} {y:V} {u:Value} (hb:H b=some (.tup (k.map kV))) (ry:RelV y u) :
  KT H (putK kvs k y) (storedH xs k b u):=by
 have e:(kvs.any fun kv=>decide (kv.1=k))=(atKey xs k).isSome:=by
  rw [zbu,(r.val k).isSome_eq,Option.isSome_map]
 unfold putK storedH
 rw [e]
 by_cases q:(atKey xs k).isSome=true
 ·rw [if_pos q,if_pos q]; exact r.repl k ry
 ·rw [if_neg q,if_neg q]; exact Paired.snoc r ⟨rfl,hb,ry⟩
theorem KT.keeps {H H':Hp} {kvs:List (List Key×V)} {xs:List (List Key×Addr×Value)} (r:KT H kvs xs) (ht:∀ b ys,H b=some (.tup ys)->H' b=some (.tup ys)):KT H' kvs xs :=
 Paired.mapP r fun _ _ z=>⟨z.1,ht _ _ z.2.1,z.2.2⟩
section
variable {P:Program} {w:World} {H:Hp} {h:Heap} {a:Addr}
theorem zg0 {u:HO} (ok:HOk P w H h) (e:Rd H a u):ObjOk P w H h a u:=e.ok ok
theorem ze3 {kvs:List (Key×V)} (ok:HOk P w H h) (e:Rd H a (.dK kvs)):kvs.length<=sizeLine/\(a == sysModules)=false/\∃ vs,KV kvs vs/\h.DictOf (mixKind P w) a vs :=
 show ObjOk P w H h a (.dK kvs) from zg0 ok e
theorem dk_of {kvs:List (Key×V)} (ok:HOk P w H h) (e:H a=some (.dK kvs)):kvs.length<=sizeLine/\(a == sysModules)=false/\∃ vs,KV kvs vs/\h.DictOf (mixKind P w) a vs:=ze3 ok (.inl e)
theorem zez {ks:List Key} (ok:HOk P w H h) (e:H a=some (.tup (ks.map kV))):(tupleKind (mixKind P w)).is h ks a:=by
 obtain ⟨_,its,r,o,h1,h2,n,h3⟩:=(show ObjOk P w H h a (.tup (ks.map kV)) from ok a _ e)
 exact ⟨o,its.toArray,n,h1,h2,h3,by simpa using zeA r⟩
theorem zgl {kvs:List (List Key×V)} (ok:HOk P w H h) (e:Rd H a (.dT kvs)):kvs.length<=sizeLine/\(a == sysModules)=false /\
  ∃ xs,KT H kvs xs/\h.DictOfH (tupleKind (mixKind P w)) a xs:=by
 obtain ⟨z,y,xs,r,o,es,ep,h1,h2,h3,h4,h5⟩:=(show ObjOk P w H h a (.dT kvs) from zg0 ok e)
 refine ⟨z,y,xs,r,o,es,ep,h1,h2,h3,h4,fun x hx => ?_,h5⟩
 have all:∀ {l:List (List Key×V)} {m:List (List Key×Addr×Value)},KT H l m->∀ x∈m,(tupleKind (mixKind P w)).is h x.1 x.2.1:=by
  intro l m q
  induction q with
  | nil=>intro x hx; exact nomatch hx
  | @cons p q ps qs hq t ih =>
   intro x hx
   rcases List.mem_cons.mp hx with e | hx
   ·subst e
    exact zez ok (by rw [<- hq.1]; exact hq.2.1)
   ·exact ih x hx
 exact all r x hx
theorem dt_of {kvs:List (List Key×V)} (ok:HOk P w H h) (e:H a=some (.dT kvs)):kvs.length<=sizeLine/\(a == sysModules)=false /\
  ∃ xs,KT H kvs xs/\h.DictOfH (tupleKind (mixKind P w)) a xs:=zgl ok (.inl e)
end
noncomputable def DGet (H:Hp) (a:Addr) (y:V) (r:Option V):Prop :=
 (∃ kvs k,Rd H a (.dK kvs)/\y=kV k/\r=valV kvs k)\/∃ kvs k b,Rd H a (.dT kvs)/\y = .ref b/\H b=some (.tup (k.map kV))/\r=valV kvs k
noncomputable def DPut (H:Hp) (a:Addr) (y v:V) (H':Hp):Prop :=
 (∃ kvs k,H a=some (.dK kvs)/\y=kV k/\kvs.length < sizeLine/\H'=upd H a (.dK (putK kvs k v))) \/
 ∃ kvs k b,H a=some (.dT kvs)/\y = .ref b/\H b=some (.tup (k.map kV))/\kvs.length < sizeLine/\H'=upd H a (.dT (putK kvs k v))
theorem DGet.k {H:Hp} {a:Addr} {kvs:List (Key×V)} {k:Key} (e:H a=some (.dK kvs)):DGet H a (kV k) (valV kvs k) := .inl ⟨kvs,k,.inl e,rfl,rfl⟩
theorem DPut.k {H:Hp} {a:Addr} {kvs:List (Key×V)} {k:Key} {v:V} (e:H a=some (.dK kvs)) (hl:kvs.length < sizeLine):DPut H a (kV k) v (upd H a (.dK (putK kvs k v))) := .inl ⟨kvs,k,e,rfl,hl,rfl⟩
section
variable {X:Cx} {pins:List (Addr×Obj)} {σ : St} {H:Hp} {s:Shared} {a:Addr} {y v:V} {u r:Value} {o:Option V} {A:Around} {E:Value->Shared->Prop}
theorem Inv.big (I:Inv X pins σ H s):sysModules < s.heap.objs.size:=by
 have h:mainGlobals < s.heap.objs.size:=(I.mod.glob.keeps I.bk).lt
 exact Nat.lt_trans (by decide) h
theorem d_getItem {Q:Value->Shared->Prop} (hu:A.units + 1 < cLine) (I:Inv X pins σ H s) (g:DGet H a y (some v)) (ry:RelV y u) (h:∀ w' s',Inv X pins σ H s'->RelV v w'->Q w' s') :
  wpAny (model X.prog X.w) A (getItem (.ref a) u) Q E s:=by
 rcases g with ⟨kvs,k,e,ey,l⟩ | ⟨kvs,k,b,e,ey,eb,l⟩
 ·subst ey
  obtain ⟨z,hd,vs,rel,dd⟩:=ze3 I.hok e
  obtain ⟨w',hw,rw'⟩:=RelO.some_of (v:=v) (o:=valueAt vs k) (by rw [l]; exact rel.val k)
  exact wpAny_getItem_of (zfG ry) dd.mapOf hw (h w' _ (I.tok _) rw')
 ·subst ey
  cases (show u=Value.ref b from ry)
  obtain ⟨z,hd,xs,rel,dd⟩:=zgl I.hok e
  obtain ⟨w',hw,rw'⟩:=RelO.some_of (v:=v) (o:=(atKey xs k).map (·.2)) (by rw [l]; exact rel.val k)
  obtain ⟨p,hp,hp2⟩:=Option.map_eq_some_iff.mp hw
  refine wpAny_getItem_heap (tupleKind_room_in1 hu) (zez I.hok eb) dd hp ?_
  rw [hp2]
  exact h w' _ (I.tok _) rw'
theorem d_in {Q:Value->Shared->Prop} (hu:A.units + 1 < cLine) (I:Inv X pins σ H s) (g:DGet H a y o) (ry:RelV y u) (h:∀ s',Inv X pins σ H s'->Q (.bool o.isSome) s') :
  wpAny (model X.prog X.w) A (compareOp .In u (.ref a)) Q E s:=by
 rcases g with ⟨kvs,k,e,ey,l⟩ | ⟨kvs,k,b,e,ey,eb,l⟩
 ·subst ey
  obtain ⟨z,hd,vs,rel,dd⟩:=ze3 I.hok e
  refine wpAny_in_of (zfG ry) hd dd.mapOf ?_
  rw [<- (rel.val k).isSome_eq,<- l]
  exact h _ (I.tok _)
 ·subst ey
  cases (show u=Value.ref b from ry)
  obtain ⟨z,hd,xs,rel,dd⟩:=zgl I.hok e
  refine wpAny_in_heap (tupleKind_room_in1 hu) (zez I.hok eb) hd dd ?_
  have q:=(rel.val k).isSome_eq
  rw [Option.isSome_map] at q
  rw [<- q,<- l]
  exact h _ (I.tok _)
theorem d_notIn {Q:Value->Shared->Prop} (hu:A.units + 1 < cLine) (I:Inv X pins σ H s) (g:DGet H a y o) (ry:RelV y u) (h:∀ s',Inv X pins σ H s'->Q (.bool (!o.isSome)) s') :
  wpAny (model X.prog X.w) A (compareOp .NotIn u (.ref a)) Q E s:=by
 rcases g with ⟨kvs,k,e,ey,l⟩ | ⟨kvs,k,b,e,ey,eb,l⟩
 ·subst ey
  obtain ⟨z,hd,vs,rel,dd⟩:=ze3 I.hok e
  refine wpAny_notIn_of (zfG ry) hd dd.mapOf ?_
  rw [<- (rel.val k).isSome_eq,<- l]
  exact h _ (I.tok _)
 ·subst ey
  cases (show u=Value.ref b from ry)
  obtain ⟨z,hd,xs,rel,dd⟩:=zgl I.hok e
  refine wpAny_notIn_heap (tupleKind_room_in1 hu) (zez I.hok eb) hd dd ?_
  have q:=(rel.val k).isSome_eq
  rw [Option.isSome_map] at q
  rw [<- q,<- l]
  exact h _ (I.tok _)
theorem zgp {h':Heap} {t':Nat} {ob:HO} (I:Inv X pins σ H s) (mu:Mut (H a)) (hs:Heap.SameBut a s.heap h') (he:∃ q,h'.get? a=some q) (new:ObjOk X.prog X.w (upd H a ob) h' a ob) :
  Inv X pins σ (upd H a ob) { s with heap:=h',toks:=t' } :=
 I.write (x:=a) (e:=a) mu (.inl rfl) (fun b q hb z=>(hs.2 b hb).trans z) he new
theorem zgO {P:Program} {w:World} {H':Hp} {h':Heap} {kvs:List (Key×V)} {vs:List (Key×Value)} (z:kvs.length<=sizeLine) (hd:(a == sysModules)=false) (rel:KV kvs vs) (dd:h'.DictOf (mixKind P w) a vs) :
  ObjOk P w H' h' a (.dK kvs):=⟨z,hd,vs,rel,dd⟩
theorem d_setItem {H':Hp} {Q:Unit->Shared->Prop} (hu:A.units + 1 < cLine) (I:Inv X pins σ H s) (g:DPut H a y v H') (ry:RelV y u) (rv:RelV v r) (h:∀ s',Inv X pins σ H' s'->Q () s') :
  wpAny (model X.prog X.w) A (setItem (.ref a) u r) Q E s:=by
 rcases g with ⟨kvs,k,e,ey,l,eH⟩ | ⟨kvs,k,b,e,ey,eb,l,eH⟩
 ·subst ey eH
  obtain ⟨z,hd,vs,rel,dd⟩:=dk_of I.hok e
  have hz:vs.length<=sizeLine:=by rw [<- rel.length]; exact z
  have hl:(putK kvs k v).length<=sizeLine:=by have:=zbO kvs k v; omega
  refine wpAny_setItem_pairs (hsz:=hz) (zfG ry) dd fun h' dd' hs=>h _ ?_
  have he:∃ q,h'.get? a=some q:=let ⟨q,_,_,hq,_⟩:=dd'; ⟨q,hq⟩
  exact zgp I (by rw [e]; exact True.intro) hs he (zgO hl hd (rel.put k rv) dd')
 ·subst ey eH
  cases (show u=Value.ref b from ry)
  obtain ⟨z,hd,xs,rel,dd⟩:=dt_of I.hok e
  have hz:xs.length<=sizeLine:=by rw [<- Paired.length rel]; exact z
  have hl:(putK kvs k v).length<=sizeLine:=by have:=zbO kvs k v; omega
  refine wpAny_setItem_heap (hsz:=hz) (tupleKind_room_in1 hu) (zez I.hok eb) dd fun h' dd' hs=>h _ ?_
  obtain ⟨q,es,ep,hq,h2,h3,h4,_,h5⟩:=dd'
  refine zgp I (by rw [e]; exact True.intro) hs ⟨q,hq⟩ ⟨hl,hd,_,(rel.put k eb rv).keeps fun c ys ec => ?_,q,es,ep,hq,h2,h3,h4,h5⟩
  rw [zai (zg2 ec e (fun z=>nomatch z))]
  exact ec
end
section
variable {X:Cx} {pins:List (Addr×Obj)} {σ : St} {H:Hp} {s:Shared} {a:Addr} {kvs:List (Key×V)} {k:Key} {u:Value} {A:Around} {E:Value->Shared->Prop}
theorem d_len {Q:Value->Shared->Prop} (I:Inv X pins σ H s) (e:Rd H a (.dK kvs)) (h:∀ t s',Inv X pins σ H s'->Q (.int kvs.length t) s'):wpAny (model X.prog X.w) A (call (.builtin "len") [.ref a]) Q E s:=by
 obtain ⟨z,hd,vs,rel,dd⟩:=ze3 I.hok e
 refine call_len_dict hd dd (by rw [<- rel.length]; rw [sizeLine_eq] at z; omega) ?_
 rw [<- rel.length]
 exact h _ _ (I.tok _)
end
noncomputable def NoSl (i:Expr):Prop:=∀ ov iv,subscripted i false ov iv=operate [ov,iv] (getItem ov iv)
theorem subD_of {prog:Program} {w:World} {A:Around} {E:Value->Shared->Prop} {s:Shared} {env:Env} {value slice:Expr} {pos:Pos} {T id:String} {Q:Value->Shared->Prop}
  (hl:typeLookup (.type T) "__getitem__" = pure (some (.builtin id))) (hs:NoSl slice)
  (h:wpAny (model prog w) A (eval value env) (fun o s₁ => wpAny (model prog w) A (eval slice env) (fun i s₂ => s₂.TypeIs o T/\wpAny (model prog w) A (getItem o i) Q E s₂) E s₁) E s) :
  wpAny (model prog w) A (eval (.Subscript value slice pos) env) Q E s:=by
 refine Subscript_ (wpAny_mono h (fun o s₁ h₁ => wpAny_mono h₁ (fun i s₂ h₂ => ?_) fun _ _ x=>x) fun _ _ x=>x)
 obtain ⟨hT,h₂⟩:=h₂
 unfold subscriptTail
 refine wpAny_bind ?_
 rw [getitemInPython_of_ne hT.not_modules]
 refine wpAny_bind (wpAny_specialOf hT hl ?_)
 have fin:wpAny (model prog w) A (subscripted slice false o i) (fun r s₃ => wpAny (model prog w) A (letTemporaryGo value o r >>= fun _=>pure r) Q E s₃) E s₂ := by
  rw [hs o i]
  exact wpAny_operating (wpAny_mono h₂ (fun r s₃ h₃ => wpAny_bind (wpAny_letTemporaryGo (wpAny_pure h₃))) fun _ _ x=>x)
 first
  | exact wpAny_pure (wpAny_bind fin)
  | exact wpAny_bind (wpAny_pure (wpAny_bind fin))
  | exact wpAny_bind fin
theorem dict_typeIs {X:Cx} {pins:List (Addr×Obj)} {σ : St} {H:Hp} {s:Shared} {a:Addr} {y:V} {o:Option V} (I:Inv X pins σ H s) (g:DGet H a y o):s.TypeIs (.ref a) "dict" := by
 rcases g with ⟨kvs,k,e,_,_⟩ | ⟨kvs,k,b,e,_,_,_⟩
 ·obtain ⟨_,_,vs,_,dd⟩:=ze3 I.hok e
  exact dd.typeIs
 ·obtain ⟨_,_,xs,_,dd⟩:=zgl I.hok e
  exact dd.typeIs
noncomputable def tDGet (td ty:TE):TE:=fun σ H Q=>td σ H fun x H1=>ty σ H1 fun y H2=>∃ a v,x = .ref a/\DGet H2 a y (some v)/\Q v H2
noncomputable def tDIn (ty td:TE):TE:=fun σ H Q=>ty σ H fun y H1=>td σ H1 fun x H2=>∃ a o,x = .ref a/\DGet H2 a y o/\Q (.bl o.isSome) H2
noncomputable def tDNotIn (ty td:TE):TE:=fun σ H Q=>ty σ H fun y H1=>td σ H1 fun x H2=>∃ a o,x = .ref a/\DGet H2 a y o/\Q (.bl (!o.isSome)) H2
noncomputable def sDPut (td ty tv:TE):TS:=fun D σ H=>tv σ H fun v H1=>td σ H1 fun x H2=>ty σ H2 fun y H3=>∃ a H4,x = .ref a/\DPut H3 a y v H4/\D.nx σ H4
section
variable {X:Cx} {o i e value:Expr} {pos pos' tpos:Pos} {td ty tv:TE}
theorem zeW (hu:X.A.units + 1 < cLine) (ho:PE X o td) (hi:PE X i ty) (hs:NoSl i):PE X (.Subscript o i pos) (tDGet td ty):=by
 intro pins s σ H Q I h
 refine subD_of PySem.F.slot_dict_getitem.lookup hs (thn (ho pins s σ H _ I h) fun u s1 ⟨x,H1,I1,rx,q1⟩=>thn (hi pins s1 σ H1 _ I1 q1) fun iv s2 ⟨y,H2,I2,ry,a,v,ex,g,q2⟩ => ?_)
 subst ex
 obtain rfl:u=Value.ref a:=rx
 exact ⟨dict_typeIs I2 g,d_getItem hu I2 g ry fun w' s3 I3 rw'=>⟨v,H2,I3,rw',q2⟩⟩
theorem zgG (hu:X.A.units + 1 < cLine) (hi:PE X i ty) (ho:PE X o td):PC X .In i o (tDIn ty td):=by
 intro pins s σ H Q I h
 refine thn (hi pins s σ H _ I h) fun iv s1 ⟨y,H1,I1,ry,q1⟩=>thn (ho pins s1 σ H1 _ I1 q1) fun u s2 ⟨x,H2,I2,rx,a,ov,ex,g,q2⟩ => ?_
 subst ex
 obtain rfl:u=Value.ref a:=rx
 exact d_in hu I2 g ry fun s3 I3=>⟨.bl ov.isSome,H2,I3,rfl,q2⟩
theorem zet (hu:X.A.units + 1 < cLine) (hi:PE X i ty) (ho:PE X o td):PC X .NotIn i o (tDNotIn ty td):=by
 intro pins s σ H Q I h
 refine thn (hi pins s σ H _ I h) fun iv s1 ⟨y,H1,I1,ry,q1⟩=>thn (ho pins s1 σ H1 _ I1 q1) fun u s2 ⟨x,H2,I2,rx,a,ov,ex,g,q2⟩ => ?_
 subst ex
 obtain rfl:u=Value.ref a:=rx
 exact d_notIn hu I2 g ry fun s3 I3=>⟨.bl (!ov.isSome),H2,I3,rfl,q2⟩
theorem zd6 (hu:X.A.units + 1 < cLine) (ho:PE X o td) (hi:PE X i ty) (hv:PE X value tv) (hs:swapsWith value (some (.Subscript o i pos')) pos.line X.env=pure false) :
  PS X (.Assign [.Subscript o i pos'] value pos) (sDPut td ty tv):=by
 intro pins s σ H D I h
 refine wpAny_Assign_Subscript (thn (hv pins s σ H _ I h) fun r s1 ⟨v,H1,I1,rv,q1⟩=>thn (ho pins s1 σ H1 _ I1 q1) fun u s2 ⟨x,H2,I2,rx,q2⟩=>thn (hi pins s2 σ H2 _ I2 q2) fun iv s3 ⟨y,H3,I3,ry,a,H4,ex,g,q3⟩ => ?_) hs
 subst ex
 obtain rfl:u=Value.ref a:=rx
 exact d_setItem hu I3 g ry rv fun s4 I4=>⟨σ,H4,I4,q3⟩
end
theorem dk_empty {P:Program} {w:World} {H:Hp} (h:Heap) (hb:sysModules < h.objs.size):ObjOk P w H (h.push { cls := .type "dict",data := .dict #[] }) h.objs.size (.dK []) :=
 ⟨Nat.zero_le _,beq_eq_false_iff_ne.mpr (Ne.symm (Nat.ne_of_lt hb)),[],.nil,Heap.DictOf.new h⟩
noncomputable def tDNewK:TE:=fun _ H Q=>∀ p,H p=none->Q (.ref p) (upd H p (.dK []))
section
variable {X:Cx} {pos:Pos}
theorem zcU:PE X (.Dict [] [] pos) tDNewK:=fun pins s σ H Q I h =>
 wpAny_Dict_empty ⟨.ref s.heap.objs.size,_,I.laid (a:=s.heap.objs.size) (o := .dK []) (t':=s.toks) (fun _ _ q=>Heap.get?_push_of_some _ q) (Nat.le_refl _) (dk_empty s.heap I.big),rfl,h _ (I.hok.fresh (Nat.le_refl _))⟩
end
section
variable {X:Cx} {pins:List (Addr×Obj)} {σ : St} {H:Hp} {s:Shared} {a:Addr} {y d:V} {u r:Value} {o:Option V} {A:Around} {E:Value->Shared->Prop}
end
section
variable {X:Cx} {o e f:Expr} {apos cpos:Pos} {td ty tx:TE}
end
section
variable {X:Cx} {pins:List (Addr×Obj)} {σ : St} {H:Hp} {s:Shared} {a:Addr} {kvs:List (Key×V)} {A:Around} {E:Value->Shared->Prop}
theorem d_copyOf {Q:Value->Shared->Prop} (I:Inv X pins σ H s) (e:Rd H a (.dK kvs)) (h:∀ p s',H p=none->Inv X pins σ (upd H p (.dK kvs)) s'->Q (.ref p) s'):wpAny (model X.prog X.w) A (call (.type "dict") [.ref a]) Q E s:=by
 obtain ⟨z,hd,vs,rel,dd⟩:=ze3 I.hok e
 refine kt_call_dict hd dd (by rw [<- rel.length]; exact z) fun h' dd' hs => ?_
 refine h _ _ (I.hok.fresh (Nat.le_refl _)) (I.laid (a:=s.heap.objs.size) (o := .dK kvs) (t':=s.toks) (fun b q hq => ?_) (Nat.le_refl _) (zgO z (beq_eq_false_iff_ne.mpr (Ne.symm (Nat.ne_of_lt I.big))) rel dd'))
 exact (hs.2 b (Nat.ne_of_lt (Heap.lt_size hq))).trans (Heap.get?_push_of_some _ hq)
end
section
variable {X:Cx} {pins:List (Addr×Obj)} {σ : St} {H:Hp} {s:Shared} {a:Addr} {y:V} {u:Value} {A:Around} {E:Value->Shared->Prop}
end
end L2
namespace Att
open PySem PySem.W PySem.Calls PyProof.Rows
theorem ints_of_wellAll {P:Params} {h:Heap}:∀ (ns:List Int) (vs:List Value),WellAll P h vs (ns.map WData.int)->IntsAre vs ns:=by
 intro ns
 induction ns with
 | nil =>
  intro vs w
  rw [List.map_nil] at w
  cases w
  exact .nil
 | cons n ns ih =>
  intro vs w
  rw [List.map_cons] at w
  cases w with
  | cons a b =>
   cases a
   exact .cons _ _ (ih _ b)
theorem script_of {l:OpenLaw} {n:Nat} (hn:l.most=some n) {P:Params} {h:Heap} {args:List WData} {vals:List Value}
  (hpre:l.row.toRowW.claim.pre args=true) (hwl:WellAll P h vals args) :
  ∃ a vs ns,vals = [Value.ref a]/\args = [WData.list (ns.map WData.int)]/\h.get? a=some { cls := .type "list",data := .seq vs.toArray }/\IntsAre vs ns/\ns.length<=n:=by
 have hsh:WShape.hasAll [] args [.list .int]=true:=(pre_splitW hpre).1
 have hc:l.pre.holds [] { args:=args }=true:=(pre_splitW hpre).2
 obtain ⟨d,r,rfl,h1,h2⟩:=hasAllW_cons hsh
 obtain rfl:=hasAllW_nil h2
 obtain ⟨xs,rfl,h3⟩:=hasW_list h1
 obtain ⟨ns,rfl⟩:=items_int h3
 have hlen:ns.length<=n:=by
  unfold OpenLaw.pre at hc
  have h4:(WTm.not (.lt (.lit (.int (n:Int))) (.len (.arg 0)))).holds [] { args := [.list (ns.map .int)] }=true:=by
   have h4:=(holds_andW hc).1
   rw [hn] at h4
   exact h4
  have h5:=condW_of h4 (w_not (w_lt w_lit (w_len_list (w_arg rfl))))
  rw [List.length_map] at h5
  refine Nat.le_of_not_lt fun q => ?_
  have q':(n:Int) < ((ns.length:Nat):Int):=by omega
  first
   | (rw [decide_eq_true q'] at h5; exact absurd h5 (by decide))
   | (simp at h5; omega)
 cases hwl with
 | cons w1 w2 =>
  cases w2
  cases w1 with
  | list ho hall=>exact ⟨_,_,ns,rfl,rfl,ho,ints_of_wellAll ns _ hall,hlen⟩
theorem post_true (l:OpenLaw) (args:List WData):l.row.toRowW.claim.post args (.bool true) args=true :=
 postW_of (r:=l.row.toRowW) (X:=(true == true))
  (show WShape.has [] (.bool true) .bool=true by first | rfl | decide | simp [WShape.has,WShape.arms,WShape.armsAll])
  (show (WTm.eq .res (.lit (.bool true))).value [] { args:=args,res:=some (.bool true),after:=args }=some (.bool (true == true)) from w_eq_bool (w_res rfl) w_lit) rfl
section
variable {prog:Program} {w:World} {A:Around} {E:Value->Shared->Prop} {s:Shared} {K:Frag}
noncomputable def ledger (h:Heap) (L d:Addr):List (Addr×Obj):=(List.range h.objs.size).filterMap fun a=>if a=L\/a=d then none else (h.get? a).map fun o=>(a,o)
end
end Att
namespace L2
open PySem PySem.Spec PyProof.Rows
theorem zbT:∀ {vs:List Value} {ns:List Int},IntsAre vs ns->Vals (ns.map V.int) vs
 | _,_,.nil => .nil
 | _,_,.cons n t h => .cons ⟨t,rfl⟩ (zbT h)
noncomputable def Only (H:Hp):Prop:=∀ b,H b=none\/∃ o xs,H b=some (.frz o (.lst xs))
theorem law_call {P:Program} {w:World} {K:PySem.W.Frag} {mg mb:Str->Option Value} {CX:CXT} {k:Nat} {fa a:Addr} {fd:FuncData} {x:Str} {sp:Sp} {s₁ : Shared} {vs:List Value} {ns:List Int}
  (KX:K.In s₁.heap) (hns:s₁.heap.Ns mainGlobals mg) (hb:s₁.heap.Ns builtinsNs mb) (hbb:∀ x:Str,x ≠ "__name__" -> mb x=bootBuiltins x) (hlim:s₁.heap.NoLimit) (hg:s₁.gens = #[])
  (ha:s₁.heap.get? a=some { cls := .type "list",data := .seq vs.toArray }) (hi:IntsAre vs ns) (hl:ns.length<=sizeLine) (hr:Room k callerA)
  (F:∀ base:Heap,K.In base->base.Ns mainGlobals mg->FnOk P w K mg base CX k fa fd [x] sp) (hbind:∀ (s:Shared) (u:Value),BindsTo s fd ⟨[u],[]⟩ [(x,u)])
  (hsp:∀ H:Hp,Only H->SqL K H a (ns.map V.int)->sp [.ref a] H (fun v _=>v = .bl true) fun _ _ _=>False)
  (hCX:∀ H e s',CX [] H s₁ (fun _ _ _=>False) e s'->False) :
  codeAny (model P w) callerA (.call (.ref fa) ⟨[.ref a],[]⟩) (fun r s'=>r = .ok (.ret (.bool true))/\OldK s₁.heap s'.heap/\s'.os=s₁.os/\AllBare s'.gens) s₁ := by
 have rv:=zbT hi
 have lenV:=hi.length
 have core:∀ H:Hp,Only H->SqL K H a (ns.map V.int)->HOk P w H s₁.heap->(∀ b,H b≠none->b=a)->(H a≠none->K.lookup a=none) ->
   codeAny (model P w) callerA (.call (.ref fa) ⟨[.ref a],[]⟩) (fun r s'=>r = .ok (.ret (.bool true))/\OldK s₁.heap s'.heap/\s'.os=s₁.os/\AllBare s'.gens) s₁ := by
  intro H hO hS hok hA hK
  have base_of:∀ {b:Addr} {o:Obj},s₁.heap.get? b=some o->H b=none->(hidT s₁.heap H).get? b=some o:=fun e n=>hidT_get e n
  have noA:∀ {b:Addr} {o:Obj} {es:Array DictEntry} {ep:Nat},s₁.heap.get? b=some o->o.data = .dict es ep->H b=none:=fun {b o es ep} e d=>by
   cases q:H b with
   | none=>rfl
   | some u =>
    have e':b=a:=hA b (by rw [q]; simp)
    subst e'
    rw [ha] at e; cases e
    have d':Data.seq vs.toArray _=Data.dict es ep:=d
    cases d'
  have nsK:∀ {b:Addr} {m:Str->Option Value},s₁.heap.Ns b m->(hidT s₁.heap H).Ns b m:=fun {b m} ⟨o,es,ep,e,d,r⟩=>⟨o,es,ep,base_of e (noA e d),d,r⟩
  have hKb:K.In (hidT s₁.heap H):=fun b o e=>base_of (KX b o e) (by
   cases q:H b with
   | none=>rfl
   | some u =>
    have e':b=a:=hA b (by rw [q]; simp)
    subst e'
    rw [hK (by rw [q]; simp)] at e; cases e)
  have hM:Mod K mg (hidT s₁.heap H):=⟨hKb,nsK hns,⟨mb,nsK hb,hbb⟩,let ⟨mc,h1,h2⟩:=hlim; ⟨mc,nsK h1,h2⟩⟩
  have e0:Env0 P w K mg (hidT s₁.heap H) callerA [] s₁ H:=⟨rfl,hM,fun b o e=>of_hidT e,Nat.le_of_eq (hidT_size _ _),trivial,fun b hb=>absurd (show b∈([]:List Addr) from hb) (by simp),hok,.of_eq hg⟩
  refine codeAny_mono ((F _ hKb (nsK hns)).run callerA [] s₁ H ⟨[.ref a],[]⟩ [.ref a] [.ref a] _ _ hr e0 (hbind s₁ (.ref a)) (.cons rfl .nil) (hsp H hO hS)) fun r s' h => ?_
  cases r with
  | error e=>exact (hCX H e s' h).elim
  | ok fl =>
   cases fl with
   | next=>exact False.elim h
   | brk=>exact False.elim h
   | cont=>exact False.elim h
   | ret u =>
    obtain ⟨v,H',os,bare,un,hok',r',q⟩:=h
    have q':v = .bl true:=q
    subst q'
    obtain rfl:u=Value.bool true:=r'
    refine ⟨rfl,OldK.of_keep fun b o e => ?_,os,bare⟩
    cases q:H b with
    | none=>exact un.keep b o e q (by intro z; exact absurd (show b∈([]:List Addr) from z) (by simp)) (by simp)
    | some u =>
     rcases hO b with z | ⟨ob,xs,z⟩
     ·rw [q] at z; cases z
     ·have z2:=un.frzs b ob _ z
      obtain ⟨e1,_⟩:=hok b _ z
      obtain ⟨e2,_⟩:=hok' b _ z2
      rw [e] at e1; cases e1
      exact e2
 cases hk:K.lookup a with
 | some o =>
  have e:=KX a o hk
  rw [ha] at e
  cases e
  refine core (fun _=>none) (fun _ => .inl rfl) (.inr ⟨_,vs.toArray,_,hk,rfl,rfl,rfl,by rw [List.size_toArray,lenV]; exact hl,by simpa using rv⟩) (fun b u z=>by have z':(none:Option HO)=some u:=z; cases z') (fun b z=>absurd rfl z) fun z=>absurd rfl z
 | none =>
  refine core (fun b=>if b=a then some (.frz { cls := .type "list",data := .seq vs.toArray } (.lst (ns.map V.int))) else none) (fun b => ?_) (.inl (.inr ⟨{ cls := .type "list",data := .seq vs.toArray },if_pos rfl⟩)) (fun b u z => ?_) (fun b z => ?_) fun _=>hk
  ·by_cases hb:b=a
   ·exact .inr ⟨_,_,if_pos hb⟩
   ·exact .inl (if_neg hb)
  ·by_cases hb:b=a
   ·have z':=(if_pos hb).symm.trans z
    cases z'
    subst hb
    exact ⟨ha,by rw [List.length_map]; exact hl,vs,_,rv,ha⟩
   ·have z':=(if_neg hb).symm.trans z
    cases z'
  ·by_cases hb:b=a
   ·exact hb
   ·exact absurd (if_neg hb) z
end L2
namespace L2
open PySem PySem.Spec PyProof.Rows
end L2
namespace L2
open PySem PySem.Spec PyProof.Rows
noncomputable def inClass (s:Stmt) (j:Nat):Stmt:=match s with
 | .ClassDef _ _ _ body _ _ _ _ _ _ _=>body.getD j (.Pass ⟨0,0,0,0⟩)
 | _ => .Pass ⟨0,0,0,0⟩
noncomputable def defArgs (s:Stmt):Arguments:=match s with
 | .FunctionDef _ a _ _ _ _ _ _ _ _=>a
 | _=>{ posonlyargs := [],args := [],vararg:=none,kwonlyargs := [],kw_defaults := [],kwarg:=none,defaults := [] }
noncomputable def defBody (s:Stmt):List Stmt:=match s with
 | .FunctionDef _ _ b _ _ _ _ _ _ _=>b
 | _ => []
noncomputable def defScope (s:Stmt):Scope:=match s with
 | .FunctionDef _ _ _ _ _ _ sc _ _ _=>sc
 | _=>{ kind := .function,names := [],isGenerator:=false,isCoroutine:=false }
noncomputable abbrev CX0:CXT:=fun _ _ _ _ _ _=>False
noncomputable abbrev E0:XK:=fun _ _ _=>False
theorem zd7 {X:Cx}:Passes CX0 X E0:=fun _ _ _ _ _ _ _ h=>h.elim
structure Fun (K:PySem.W.Frag) (x qual:Str) (st:Stmt) (f:Addr) (fd:FuncData):Prop where
 ex:∃ (oc:Value) (od:Option Addr) (kV doc pm:Value) (an:Option Addr) (cdv ct:Value) (osl:Array (Option Value)),
  fd=PySem.W.fnOf x qual (defArgs st) (defBody st) (defScope st) .none kV doc pm an cdv ct/\K.lookup f=some ⟨oc,od,.func fd,osl⟩/\PySem.W.codeIn K cdv qual=true
 kp:PySem.W.keepIn K (.ref f)=true
section
variable {P:Program} {w:World} {K:PySem.W.Frag} {mg:Str->Option Value} {base:Heap}
theorem Fun.ok {x qual:Str} {st:Stmt} {f:Addr} {fd:FuncData} {N ps:List Str} {k:Nat} {sp:Sp} (F:Fun K x qual st f fd) (S:FnScope N ps (defScope st)) (len:∀ vs H Q E,sp vs H Q E->vs.length=ps.length)
  (hbody:∀ (cdv:Value) (A:Around) (outer:List Env) (s:Shared) (H:Hp) (vs:List V) (Q:VK) (E:XK),Room k (A.deeper (envOfC qual (defScope st) s.heap.objs.size f cdv))->sp vs H Q E ->
   ∃ t,PSs (cxOf CX0 P w K mg base N qual (defScope st) f cdv A outer s H E).nox (defBody st) t/\t { nx:=fun _ H'=>Q .non H',rt:=Q } (start N vs) H):FnOk P w K mg base CX0 (k + 1) f fd ps sp:=by
 obtain ⟨oc,od,kV,doc,pm,an,cdv,ct,osl,rfl,lk,hcd⟩:=F.ex
 refine zg3 lk hcd S len fun A outer s H vs Q E hr hsp => ?_
 obtain ⟨t,h,q⟩:=hbody cdv A outer s H vs Q E hr hsp
 exact ⟨t,h.nox,q⟩
theorem Fun.binds {x qual:Str} {st:Stmt} {f:Addr} {fd:FuncData} {ps:List Str} (F:Fun K x qual st f fd)
  (h:∀ (kV doc pm:Value) (an:Option Addr) (cdv ct:Value) (us:List Value),us.length=ps.length->bindArgs (PySem.W.fnOf x qual (defArgs st) (defBody st) (defScope st) .none kV doc pm an cdv ct) ⟨us,[]⟩=pure (ps.zip us)):Binds K fd ps []:=by
 obtain ⟨oc,od,kV,doc,pm,an,cdv,ct,osl,rfl,lk,hcd⟩:=F.ex
 exact .all (h kV doc pm an cdv ct)
theorem zgh {x qual:Str} {st:Stmt} {f:Addr} {oc:Value} {od an:Option Addr} {osl:Array (Option Value)} {kV doc pm cdv ct:Value} (l:K.lookup f=some ⟨oc,od,.func (PySem.W.fnOf x qual (defArgs st) (defBody st) (defScope st) .none kV doc pm an cdv ct),osl⟩)
  (c:PySem.W.codeIn K cdv qual=true) (k:PySem.W.keepIn K (.ref f)=true):Fun K x qual st f (PySem.W.fnOf x qual (defArgs st) (defBody st) (defScope st) .none kV doc pm an cdv ct):=⟨⟨oc,od,kV,doc,pm,an,cdv,ct,osl,rfl,l,c⟩,k⟩
end
theorem zcf {A:Around} {k:Nat} (hr:Room k A):A.units + 1 < cLine:=Nat.lt_of_le_of_lt (Nat.add_le_add_left (by decide:1<=64) _) hr.units
section
variable {X:Cx}
theorem pv (i:Nat) {x:Str} {pos:Pos} (hN:X.N[i]?=some x:=by rfl) (hv:Vis X.env.scope x:=by first | exact Or.inl rfl | exact Or.inr (Or.inl rfl) | exact Or.inr (Or.inr rfl)) (hd:(x == ("__debug__" : Str))=false:=by decide)
  (hcd:(x == ("__classdict__" : Str))=false:=by decide):PE X (.Name x pos) (tVar i):=pe_var hN hv hd hcd
theorem zeK:CallR X (.builtin "len") (fun xs H Q=>∃ a kvs,xs = [V.ref a]/\H a=some (.dK kvs)/\Q (.int kvs.length) H):=by
 intro pins s σ H xs us Q I r h
 obtain ⟨a,kvs,rfl,ha,q⟩:=h
 obtain ⟨u,rfl,ru⟩:=zbJ r
 cases ru
 exact d_len I (.inl ha) fun t s' I'=>⟨.int kvs.length,H,I',⟨t,rfl⟩,q⟩
end
theorem iteF {A B:Prop} (h:B):if false=true then A else B:=by
 rw [if_neg Bool.false_ne_true]
 exact h
theorem iteT {A B:Prop} (h:A):if true=true then A else B:=by
 rw [if_pos rfl]
 exact h
theorem ite2 {c A B:Prop} [Decidable c] (h1:c->A) (h2:¬ c->B):if c then A else B:=by
 by_cases h:c
 ·rw [if_pos h]
  exact h1 h
 ·rw [if_neg h]
  exact h2 h
noncomputable def Same (H H':Hp):Prop:=∀ b o,H b=some o->H' b=some o
theorem Same.refl (H:Hp):Same H H:=fun _ _ h=>h
theorem Same.trans {H H1 H2:Hp} (a:Same H H1) (b:Same H1 H2):Same H H2:=fun c o h=>b c o (a c o h)
theorem Same.free {H H':Hp} (e:Same H H') {l:Addr} (h:H' l=Option.none):H l=Option.none:=by
 cases q:H l with
 | none=>rfl
 | some o =>
  rw [e l o q] at h
  cases h
theorem Same.seq {K:PySem.W.Frag} {H H':Hp} {a:Addr} {xs:List V} (e:Same H H') (h:SqL K H a xs):SqL K H' a xs:=by
 rcases h with (h | ⟨o,h⟩) | h
 ·exact .inl (.inl (e _ _ h))
 ·exact .inl (.inr ⟨o,e _ _ h⟩)
 ·exact .inr h
section
variable {κ : Type} [DecidableEq κ]
theorem zf8:∀ {l:List κ} {k : κ},l.Nodup->¬ k∈l->(l ++ [k]).Nodup
 | [],k,_,_=>by simp
 | a :: r,k,h,hk=>by
  obtain ⟨h1,h2⟩:=List.nodup_cons.mp h
  show (a :: (r ++ [k])).Nodup
  refine List.nodup_cons.mpr ⟨fun m => ?_,zf8 h2 fun m=>hk (List.mem_cons.mpr (Or.inr m))⟩
  rcases List.mem_append.mp m with q | q
  ·exact h1 q
  ·exact hk (List.mem_cons.mpr (Or.inl (List.mem_singleton.mp q).symm))
end
end L2
namespace L2
open PySem PySem.Spec PyProof.Rows
theorem zdj {κ β : Type} [BEq κ] [LawfulBEq κ] {k : κ} {v : β}:∀ {l:List (κ × β)},l.lookup k=some v->(k,v)∈l
 | [],h=>by simp at h
 | (a,b) :: r,h=>by
  rw [List.lookup_cons] at h
  cases e:k == a with
  | true =>
   rw [e] at h
   simp at h
   rw [eq_of_beq e,h]
   exact List.mem_cons_self
  | false =>
   rw [e] at h
   exact List.mem_cons_of_mem _ (zdj h)
theorem zew {κ β : Type} [BEq κ] [LawfulBEq κ] {k : κ} {v : β}:∀ {l:List (κ × β)},(k,v)∈l->∃ w,l.lookup k=some w
 | [],h=>by simp at h
 | (a,b) :: r,h=>by
  rw [List.lookup_cons]
  cases e:k == a with
  | true=>exact ⟨b,rfl⟩
  | false =>
   rcases List.mem_cons.mp h with h | h
   ·injection h with h1 h2
    rw [h1] at e
    simp at e
   ·exact zew h
theorem closure_ok {env:Env} {scope:Scope} (h:∀ x∈scope.names,x.2 = .free->∃ c,env.cells.lookup x.1=some c) :
  ∃ cl,closureFor scope env=pure cl/\(∀ x c,(x,c)∈cl->(x,NameKind.free)∈scope.names/\env.cells.lookup x=some c)/\∀ x,(x,NameKind.free)∈scope.names->∃ c,(x,c)∈cl:=by
 have all:∀ (names:List (Str×NameKind)) (acc:List (Str×Addr)),(∀ x∈names,x.2 = .free->∃ c,env.cells.lookup x.1=some c) ->
   ∃ cl:List (Str×Addr),(forIn names acc fun (x:Str×NameKind) (r:List (Str×Addr))=>(if (x.2 == NameKind.free)=true then do let c <- cellOf env x.1; pure (ForInStep.yield ((x.1,c) :: r)) else pure (ForInStep.yield r):Sem (ForInStep (List (Str×Addr)))))=pure cl /\
    (∀ x c,(x,c)∈cl->(x,c)∈acc\/((x,NameKind.free)∈names/\env.cells.lookup x=some c))/\(∀ p∈acc,p∈cl)/\∀ x,(x,NameKind.free)∈names->∃ c,(x,c)∈cl:=by
  intro names
  induction names with
  | nil=>intro acc _; exact ⟨acc,rfl,fun x c h => .inl h,fun p h=>h,fun x h=>by simp at h⟩
  | cons y r ih =>
   intro acc hy
   obtain ⟨n,k⟩:=y
   by_cases hk:k = .free
   ·subst hk
    obtain ⟨c,hc⟩:=hy (n,.free) List.mem_cons_self rfl
    obtain ⟨cl,e,h1,h2,h3⟩:=ih ((n,c) :: acc) fun x hx=>hy x (List.mem_cons_of_mem _ hx)
    refine ⟨cl,?_,fun x d hd => ?_,fun p hp=>h2 p (List.mem_cons_of_mem _ hp),fun x hx => ?_⟩
    ·rw [List.forIn_cons]
     have hcell:cellOf env n=pure c:=by unfold cellOf; rw [hc]
     simp only [beq_self_eq_true,if_true,hcell,pure_bind]
     exact e
    ·rcases h1 x d hd with q | ⟨q1,q2⟩
     ·rcases List.mem_cons.mp q with q | q
      ·injection q with q1 q2
       subst q1 q2
       exact .inr ⟨List.mem_cons_self,hc⟩
      ·exact .inl q
     ·exact .inr ⟨List.mem_cons_of_mem _ q1,q2⟩
    ·rcases List.mem_cons.mp hx with q | q
     ·injection q with q1 _
      subst q1
      exact ⟨c,h2 _ List.mem_cons_self⟩
     ·exact h3 x q
   ·obtain ⟨cl,e,h1,h2,h3⟩:=ih acc fun x hx=>hy x (List.mem_cons_of_mem _ hx)
    refine ⟨cl,?_,fun x d hd=>(h1 x d hd).imp id fun q=>⟨List.mem_cons_of_mem _ q.1,q.2⟩,h2,fun x hx => ?_⟩
    ·rw [List.forIn_cons]
     have hb:(k == NameKind.free)=false:=by simpa using hk
     simp only [hb,Bool.false_eq_true,if_false,pure_bind]
     exact e
    ·rcases List.mem_cons.mp hx with q | q
     ·injection q with _ q2
      exact absurd q2.symm hk
     ·exact h3 x q
 obtain ⟨cl,e,h1,_,h3⟩:=all scope.names [] h
 refine ⟨cl,?_,fun x c q=>(h1 x c q).resolve_left (by simp),h3⟩
 show ((forIn scope.names ([]:List (Str×Addr)) fun (x:Str×NameKind) (r:List (Str×Addr))=>(if (x.2 == NameKind.free)=true then do let c <- cellOf env x.1; pure (ForInStep.yield ((x.1,c) :: r)) else pure (ForInStep.yield r):Sem (ForInStep (List (Str×Addr))))) >>= fun r=>pure r)=pure cl
 rw [e]
 rfl
theorem zbs {env:Env}:∀ {names:List (Str×NameKind)} {x:Str},names.lookup x=some .free ->
  (names.map fun (n,k)=>if (k == NameKind.free && env.scope.kind == .function && env.kindOf n == some .cell) then (n,NameKind.cell) else (n,k)).lookup x=some .cell \/
  (names.map fun (n,k)=>if (k == NameKind.free && env.scope.kind == .function && env.kindOf n == some .cell) then (n,NameKind.cell) else (n,k)).lookup x=some .free
 | [],_,h=>by simp at h
 | (n,k) :: r,x,h=>by
  have ih := @zbs env r x
  show List.lookup x ((if (k == NameKind.free && env.scope.kind == .function && env.kindOf n == some .cell)=true then (n,NameKind.cell) else (n,k)) :: _)=_\/List.lookup x ((if (k == NameKind.free && env.scope.kind == .function && env.kindOf n == some .cell)=true then (n,NameKind.cell) else (n,k)) :: _)=_
  cases hx:x == n with
  | true =>
   simp only [List.lookup_cons,hx] at h
   cases h
   by_cases hc:(NameKind.free == NameKind.free && env.scope.kind == .function && env.kindOf n == some .cell)=true
   ·rw [if_pos hc]; simp only [List.lookup_cons,hx]; exact .inl trivial
   ·rw [if_neg hc]; simp only [List.lookup_cons,hx]; exact .inr trivial
  | false =>
   simp only [List.lookup_cons,hx] at h
   by_cases hc:(k == NameKind.free && env.scope.kind == .function && env.kindOf n == some .cell)=true
   ·rw [if_pos hc]; simp only [List.lookup_cons,hx]; exact ih h
   ·rw [if_neg hc]; simp only [List.lookup_cons,hx]; exact ih h
noncomputable def cxComp (X:Cx) (scope:Scope) (N:List Str) (cl:List (Str×Addr)) (C:Addr) (s:Shared) (H:Hp) (fp:List Addr) (pn:List (Addr×Obj)):Cx :=
 { X with N:=N,s₀ := s,H₀ := H,env:=compEnvC scope cl C X.env,outer:=X.stack,stack:=X.stack,ex:=fp,fn:=fun _=>false,pn:=pn,xe:=fun _ _=>False }
noncomputable def CapsOk (X:Cx) (scope:Scope):List (Nat×Str)->Prop
 | []=>True
 | p :: r=>(X.N[p.1]?=some p.2/\scope.names.lookup p.2=some .free/\(X.env.scope.names.lookup p.2=some .cell\/X.env.scope.names.lookup p.2=some .free))/\CapsOk X scope r
theorem CapsOk.get {X:Cx} {scope:Scope}:∀ {caps:List (Nat×Str)} {j:Nat} {p:Nat×Str},CapsOk X scope caps->caps[j]?=some p ->
  X.N[p.1]?=some p.2/\scope.names.lookup p.2=some .free/\(X.env.scope.names.lookup p.2=some .cell\/X.env.scope.names.lookup p.2=some .free)
 | [],_,_,_,h=>by simp at h
 | q :: r,0,p,h,e=>by simp at e; subst e; exact h.1
 | q :: r,j + 1,p,h,e=>CapsOk.get h.2 (by simpa using e)
noncomputable def capSt (own:List Str) (caps:List (Nat×Str)) (σ : St):St:=own.map (fun _=>none) ++ caps.map fun p=>(σ[p.1]?).join
noncomputable def CompW (J:It) (D:Addr) (σ0:St) (H1:Hp) (g:TG) (tf:TT) (te:TE) (Q:VK):Prop:=∃ W:Nat->Nat->St->Hp->Prop,
 (∃ m,W 0 m σ0 (upd H1 D (.lst [])))/\∀ i m σ' H',W i m σ' H' ->
  (J.stop i H'/\Q (.ref D) H')\/(J.go i H'/\∀ x H2,J.yld i H' x H2->g x σ' H2 fun σ2 H3=>tf σ2 H3 fun b H4 =>
   if b=true then te σ2 H4 fun v H5=>∃ ys,H5 D=some (.lst ys)/\ys.length < sizeLine/\∃ m',m' < m/\W (i + 1) m' σ2 (upd H5 D (.lst (ys ++ [v])))
   else ∃ m',m' < m/\W (i + 1) m' σ2 H4)
noncomputable def tComp (wi:TI) (own:List Str) (caps:List (Nat×Str)) (g:TG) (tf:TT) (te:TE):TE:=fun σ H Q=>wi σ H fun J H1=>∀ D,H1 D=none->CompW J D (capSt own caps σ) H1 g tf te Q
noncomputable def PTs (X:Cx) (ifs:List Expr) (t:TT):Prop :=
 ∀ (pins:List (Addr×Obj)) (s:Shared) (σ : St) (H:Hp) (Q:Bool->Hp->Prop),Inv X pins σ H s->t σ H Q->wpAny (model X.prog X.w) X.A (forIn ifs true fun c r=>if r=true then do let ok <- isTrue c X.env (eval c X.env); pure (ForInStep.yield ok) else pure (ForInStep.yield r)) (TP X pins σ Q) X.xe s
noncomputable def tTrue:TT:=fun _ H Q=>Q true H
theorem zbk {X:Cx}:PTs X [] tTrue:=fun _ _ _ H _ I h=>wpAny_tests_nil ⟨H,I,h⟩
theorem zbD {X:Cx} {c:Expr} {t:TT} (h:PT X c t):PTs X [c] t:=fun pins s σ H Q I hw=>wpAny_tests_one (h pins s σ H Q I hw)
theorem comp_loop {prog:Program} {w:World} {A:Around} {R:Result->Shared->Prop} {s:Shared} {elt target iter:Expr} {ifs:List Expr} {scope:Scope} {pos:Pos} {it acc:Value} {env:Env} (I:Nat->Shared->Prop)
  (turn:∀ n s,I n s->wpAny (model prog w) A (pyNext it) (fun r s₁ => match r with
   | none=>R (.ok .next) s₁
   | some v=>wpAny (model prog w) A (letOwnedTupleGo target it v) (fun _ s₁'=>wpAny (model prog w) A (assign target env v) (fun _ s₂ =>
     wpAny (model prog w) A (forIn ifs true fun c r=>if r=true then do let ok <- isTrue c env (eval c env); pure (ForInStep.yield ok) else pure (ForInStep.yield r)) (fun ok s₃ =>
      if ok=true then wpAny (model prog w) A (eval elt env) (fun x s₄ =>
       wpAny (model prog w) A (call (.builtin "list.append") [acc,x]) (fun _ s₅ => ∃ m,m < n/\I m s₅) (fun _ _=>False) s₄) (fun _ _=>False) s₃
      else ∃ m,m < n/\I m s₃) (fun _ _=>False) s₂) (fun _ _=>False) s₁') (fun _ _=>False) s₁) (fun _ _=>False) s)
  (n:Nat) (h:I n s) :
  codeAny (model prog w) A (.compLoop (.ListComp elt [⟨target,iter,ifs,0⟩] scope pos) 0 it acc env) R s:=by
 refine codeAny_loop rfl I (fun n s hI => ?_) n h
 show wpAny _ A ((compTurn (.ListComp elt [⟨target,iter,ifs,0⟩] scope pos) 0 it acc env).onRaise (fun x=>do noteFrame x env; theTreesLotGoes x)) _ _ s
 refine wpAny_noted ?_
 rw [compTurn_list]
 refine wpAny_bind (wpAny_standAt (wpAny_bind (wpAny_mono (turn n s hI) (fun r s₁ h₁ => ?_) fun _ _ h'=>h'.elim)))
 cases r with
 | none=>exact wpAny_pure h₁
 | some v =>
  refine wpAny_bind (wpAny_mono h₁ (fun _ s₁' h₁' => ?_) fun _ _ h'=>h'.elim)
  refine wpAny_bind (wpAny_mono h₁' (fun _ s₂ h₂ => wpAny_bind (wpAny_mono h₂ (fun ok s₃ h₃ => ?_) fun _ _ h'=>h'.elim)) fun _ _ h'=>h'.elim)
  cases ok with
  | false=>exact wpAny_pure ⟨rfl,h₃⟩
  | true =>
   exact wpAny_bind (wpAny_bind (wpAny_mono h₃ (fun x s₄ h₄ => wpAny_bind (wpAny_mono h₄ (fun _ s₅ h₅ => wpAny_pure (wpAny_pure ⟨rfl,h₅⟩)) fun _ _ h'=>h'.elim)) fun _ _ h'=>h'.elim))
section
variable {X:Cx} {pins:List (Addr×Obj)} {σ : St}
theorem comp_ok {H2:Hp} {s2:Shared} {fp:List Addr} {scope:Scope} {N:List Str} {cl:List (Str×Addr)} {C:Addr} (I2:Inv X pins σ H2 s2) (f2:∀ b∈fp,FpOk X pins H2 b) (hC:s2.heap.objs.size < C)
  (hfs:∀ b∈fp,b < s2.heap.objs.size) (hkind:scope.kind = .function) (hcl:∀ x c,cl.lookup x=some c->X.env.cells.lookup x=some c)
  (hhas:∀ x,((relabel scope X.env).names.lookup x=some .cell\/(relabel scope X.env).names.lookup x=some .free)->∃ c,cl.lookup x=some c) :
  (cxComp X scope N cl C s2 H2 fp (X.pn ++ pins)).Ok where
 mod:=I2.ok.mod
 kind:=hkind
 glob:=I2.ok.glob
 blt:=I2.ok.blt
 above:=Nat.le_of_lt hC
 inj:=fun x y c h1 h2=>I2.ok.inj x y c (hcl x c h1) (hcl y c h2)
 has:=hhas
 cab:=fun _ _ h _=>by cases h
 hd:=I2.ok.hd
 frames:=I2.ok.frames
 stk := .inl rfl
 exf:=fun b hb=>⟨Nat.ne_of_lt (Nat.lt_trans (hfs b hb) hC),fun x c e=>(f2 b hb).2.2.2.2.1 x c (hcl x c e)⟩
 bs:=I2.bs
 bsz:=Nat.le_trans I2.ok.bsz I2.sz
 noex:=fun b o e hb=>by
  rcases (f2 b hb).2.2.2.1 with z | z
  ·exact I2.ok.noex b o e z
  ·exact absurd (Nat.lt_of_lt_of_le (Heap.lt_size e) (Nat.le_trans I2.ok.bsz z)) (Nat.lt_irrefl _)
 exfs:=fun b hb z=>(List.mem_cons.mp (I2.stkSub b z)).elim (f2 b hb).2.1 (f2 b hb).2.2.1
 funs:=I2.stack
 frf:=I2.stkFree
theorem comp_start {H2:Hp} {s2:Shared} {fp:List Addr} {scope:Scope} {own:List Str} {caps:List (Nat×Str)} {cl:List (Str×Addr)} {D C:Addr} {h1:Heap} {tk:Nat} {m:Str->Option Value}
  (I2:Inv X pins σ H2 s2) (f2:∀ b∈fp,FpOk X pins H2 b) (hC : @Eq Nat C (s2.heap.objs.size + 1)) (hD : @Eq Nat D s2.heap.objs.size)
  (hfs:∀ b∈fp,b < s2.heap.objs.size) (hkind:scope.kind = .function) (hcl:∀ x c,cl.lookup x=some c->X.env.cells.lookup x=some c)
  (hhas:∀ x,((relabel scope X.env).names.lookup x=some .cell\/(relabel scope X.env).names.lookup x=some .free)->∃ c,cl.lookup x=some c)
  (hcap:CapsOk X scope caps) (hns:h1.Ns C m) (old:∀ b o,s2.heap.get? b=some o->h1.get? b=some o) (hlst:∃ n,h1.get? D=some { cls := .type "list",data := .seq #[] n }) :
  Inv (cxComp X scope (own ++ caps.map (·.2)) cl C s2 H2 fp (X.pn ++ pins)) [] (capSt own caps σ) (upd H2 D (.lst [])) { s2 with heap:=h1,toks:=tk }:=by
 have hCs:s2.heap.objs.size < C:=by omega
 have hDn:H2 D=none:=I2.hok.fresh (by omega)
 have hCn:H2 C=none:=I2.hok.fresh (by omega)
 have hCD:C≠D:=by show ¬ @Eq Nat C D; omega
 have hDs:s2.heap.objs.size<=D:=by show @LE.le Nat _ s2.heap.objs.size D; omega
 have new:ObjOk X.prog X.w (upd H2 D (.lst [])) h1 D (.lst []):=let ⟨n,e⟩:=hlst; ⟨Nat.zero_le _,[],n,.nil,e⟩
 refine ⟨comp_ok I2 f2 hCs hfs hkind hcl hhas,rfl,I2.bare,Un.laid old hDs hDn,⟨m,hns,fun i x v e1 e2 e3 => ?_⟩,fun x c e => ?_,?_,fun x c e => ?_,fun p hp => ?_,I2.hok.laid old hDs new,?_⟩
 ·-- a captured name
  have e2':(capSt own caps σ)[i]?=some (some v):=e2
  unfold capSt at e2'
  by_cases hi:i < own.length
  ·rw [List.getElem?_append_left (by simpa using hi),List.getElem?_map] at e2'
   cases q:own[i]? with
   | none=>rw [q] at e2'; cases e2'
   | some y=>rw [q] at e2'; cases e2'
  ·have hle:own.length<=i:=Nat.le_of_not_lt hi
   rw [List.getElem?_append_right (by simpa using hle),List.getElem?_map,List.length_map] at e2'
   have e1':(own ++ caps.map (·.2))[i]?=some x:=e1
   rw [List.getElem?_append_right hle,List.getElem?_map] at e1'
   cases q:caps[i - own.length]? with
   | none=>rw [q] at e2'; cases e2'
   | some p =>
    rw [q] at e2' e1'
    have ex:p.2=x:=Option.some.inj e1'
    have ev:(σ[p.1]?).join=some v:=Option.some.inj e2'
    obtain ⟨hN,hf,hv⟩:=hcap.get q
    have hσ : σ[p.1]?=some (some v):=by
     cases r : σ[p.1]? with
     | none=>rw [r] at ev; cases ev
     | some y=>rw [r] at ev; rw [show y=some v from ev]
    obtain ⟨mX,_,hl⟩:=I2.loc
    obtain ⟨u,ru,lk⟩:=hl p.1 p.2 v hN hσ (.inr hv)
    subst ex
    refine ⟨u,ru,.inr ⟨zbs hf,?_⟩⟩
    rcases lk with ⟨k,_⟩ | ⟨_,c,e,z⟩
    ·have k':X.env.scope.names.lookup p.2=some .local:=k
     rw [k'] at hv
     rcases hv with z | z <;> cases z
    ·obtain ⟨c',e'⟩:=hhas p.2 (zbs hf)
     have e2:=hcl p.2 c' e'
     rw [e] at e2
     cases e2
     obtain ⟨o,ho,hd⟩:=z
     exact ⟨c,e',o,old c o ho,hd⟩
 ·obtain ⟨v,o,ho,hd⟩:=I2.cell x c (hcl x c e)
  exact ⟨v,o,old c o ho,hd⟩
 ·show upd H2 D (.lst []) C=none
  rw [zai hCD]; exact hCn
 ·obtain ⟨v,q⟩:=I2.cell x c (hcl x c e)
  rw [zai (Nat.ne_of_lt (Nat.lt_of_lt_of_le q.lt hDs))]
  exact I2.freeC x c (hcl x c e)
 ·have hp':p∈X.pn ++ pins:=by
   have hp2:p∈(X.pn ++ pins) ++ []:=hp
   rwa [List.append_nil] at hp2
  obtain ⟨e,n,ne,nf,d⟩:=I2.pin p hp'
  have lt:=Heap.lt_size e
  refine ⟨old p.1 p.2 e,by rw [zai (Nat.ne_of_lt (Nat.lt_of_lt_of_le lt hDs))]; exact n,?_,fun z=>(List.mem_cons.mp (I2.stkSub p.1 z)).elim ne nf,d⟩
  exact Nat.ne_of_lt (Nat.lt_trans lt hCs)
 ·show (capSt own caps σ).length=(own ++ caps.map (·.2)).length
  unfold capSt
  simp
theorem comp_back {H2 H':Hp} {s2 s':Shared} {fp:List Addr} {scope:Scope} {N:List Str} {cl:List (Str×Addr)} {C:Addr} {σ':St} {pn:List (Addr×Obj)} (I2:Inv X pins σ H2 s2) (f2:∀ b∈fp,FpOk X pins H2 b)
  (J:Inv (cxComp X scope N cl C s2 H2 fp pn) [] σ' H' s'):Inv X pins σ H' s' :=
 I2.call' (s':=s') (ch:=fp) J.os J.base J.hok J.bare fun b hb=>⟨(f2 b hb).2.2.2.1,(f2 b hb).2.1,(f2 b hb).2.2.2.2.1,(f2 b hb).2.2.2.2.2⟩
theorem Inv.gone {H:Hp} {s:Shared} {C:Addr} {h':Heap} (I:Inv X pins σ H s) (hs:Heap.SameBut C s.heap h') (hn:H C=none) (h0:X.s₀.heap.objs.size<=C) (hL:C≠X.env.locals) (h2:∀ x c,X.env.cells.lookup x=some c->c≠C) (h3:∀ p∈X.pn ++ pins,p.1≠C) :
  Inv X pins σ H { s with heap:=h' }:=I.turned (t':=s.toks) (fun b o hb e=>(hs.2 b hb).trans e) hn hL (.inr h0) h2 h3
end
theorem free_of_relabel {env:Env} {scope:Scope} {x:Str} (hcell:∀ y∈scope.names,y.2 ≠ .cell) (h:(relabel scope env).names.lookup x=some .cell\/(relabel scope env).names.lookup x=some .free):(x,NameKind.free)∈scope.names:=by
 have all:∀ k,(relabel scope env).names.lookup x=some k->(k = .cell\/k = .free)->(x,NameKind.free)∈scope.names:=by
  intro k e hk
  have m:=zdj e
  obtain ⟨⟨n,j⟩,hm,q⟩:=List.mem_map.mp (show (x,k)∈scope.names.map _ from m)
  dsimp only at q
  by_cases c:(j == NameKind.free && env.scope.kind == .function && env.kindOf n == some .cell)=true
  ·rw [if_pos c] at q
   injection q with q1 q2
   subst q1
   have jf:j = .free:=by
    simp only [Bool.and_eq_true] at c
    exact eq_of_beq c.1.1
   rw [<- jf]; exact hm
  ·rw [if_neg c] at q
   injection q with q1 q2
   subst q1 q2
   rcases hk with z | z
   ·exact absurd z (hcell _ hm)
   ·rw [z] at hm; exact hm
 rcases h with h | h
 ·exact all _ h (.inl rfl)
 ·exact all _ h (.inr rfl)
structure Steps (Y:Cx) (tg:Expr) (J:It) (fp:List Addr) (it:Addr) (tn:Nat->Heap->Prop):Prop where
 item:∀ (i:Nat) (pins:List (Addr×Obj)) (s:Shared) (σ : St) (H:Hp) (E:Value->Shared->Prop),Inv Y pins σ H s->(∀ b∈fp,FpOk Y pins H b)->tn i s.heap->J.go i H ->
  wpAny (model Y.prog Y.w) Y.A (pyNext (.ref it)) (fun r s1=>∃ u,r=some u /\
   wpAny (model Y.prog Y.w) Y.A (letOwnedTupleGo tg (.ref it) u) (fun _ s2=>∃ x H',Inv Y pins σ H' s2/\RelV x u/\J.yld i H x H'/\tn (i + 1) s2.heap/\∀ b∈fp,H' b=none) E s1) E s
 done:∀ (i:Nat) (pins:List (Addr×Obj)) (s:Shared) (σ : St) (H:Hp) (E:Value->Shared->Prop),Inv Y pins σ H s->(∀ b∈fp,FpOk Y pins H b)->tn i s.heap->J.stop i H ->
  wpAny (model Y.prog Y.w) Y.A (pyNext (.ref it)) (fun r s1=>r=none/\Inv Y pins σ H s1) E s
structure Trn (P:Program) (w:World) (K:PySem.W.Frag) (Z:Cx->Prop) (tg:Expr) (J:It) (fp:List Addr) (it:Addr) (tn:Nat->Heap->Prop):Prop where
 obj:∀ i h,tn i h->∀ b∈fp,∃ o,h.get? b=some o/\∀ v,o.data ≠ .cell v
 keep:∀ i h h',tn i h->(∀ b∈fp,∀ o,h.get? b=some o->h'.get? b=some o)->tn i h'
 steps:∀ Y:Cx,Y.prog=P->Y.w=w->Y.K=K->Z Y->Steps Y tg J fp it tn
 self:∀ (A:Around) (i:Nat) (s:Shared) (Q:Value->Shared->Prop) (E:Value->Shared->Prop),tn i s.heap->Q (.ref it) s->wpAny (model P w) A (pyIter (.ref it)) Q E s
noncomputable def PIEq (Z:Cx->Prop) (X:Cx) (pins:List (Addr×Obj)) (σ : St) (tg:Expr) (R:It->Hp->Prop) (itv:Value) (s2:Shared):Prop :=
 ∃ (it:Addr) (fp:List Addr) (tn:Nat->Heap->Prop) (J:It) (H':Hp),itv = .ref it/\Inv X pins σ H' s2/\Trn X.prog X.w X.K Z tg J fp it tn/\tn 0 s2.heap/\(∀ b∈fp,FpOk X pins H' b)/\R J H'
noncomputable def PIq (Z:Cx->Prop) (X:Cx) (tg iter:Expr) (wi:TI):Prop :=
 ∀ (pins:List (Addr×Obj)) (s:Shared) (σ : St) (H:Hp) (R:It->Hp->Prop),Inv X pins σ H s->wi σ H R ->
  wpAny (model X.prog X.w) X.A (eval iter X.env) (fun v s1=>wpAny (model X.prog X.w) X.A (pyIter v) (PIEq Z X pins σ tg R) X.xe s1) X.xe s
theorem PI.q {X:Cx} {tg iter:Expr} {wi:TI} (h:PI X tg iter wi):PIq (fun Y=>Y.calm=true) X tg iter wi:=fun pins s σ H R I q =>
 thn (h pins s σ H R I q) fun v s1 h1=>thn h1 fun itv s2 h2=>by
  obtain ⟨it,fp,tn,J,H',e,I',T,t0,f,r⟩:=h2
  exact ⟨it,fp,tn,J,H',e,I',⟨T.obj,T.keep,fun Y hP hw hK hz=>⟨fun i pins s σ H E=>hP ▸ hw ▸ T.item Y hP hw hK hz i pins s σ H E,fun i pins s σ H E=>hP ▸ hw ▸ T.done Y hP hw hK hz i pins s σ H E⟩,T.self⟩,t0,f,r⟩
section
variable {X:Cx} {elt target iter:Expr} {ifs:List Expr} {scope:Scope} {pos:Pos} {own:List Str} {caps:List (Nat×Str)} {wi:TI} {g:TG} {tf:TT} {te:TE}
structure CompScope (X:Cx) (scope:Scope) (caps:List (Nat×Str)):Prop where
 kind:scope.kind = .function
 cell:(scope.names.all fun y => !(y.2 == .cell))=true
 names:(scope.names.all fun y => !(y.2 == .local) || scope.names.lookup y.1 == some .local)=true
 free:(scope.names.all fun y => !(y.2 == .free) || (X.env.scope.names.lookup y.1 == some .cell || X.env.scope.names.lookup y.1 == some .free))=true
 caps:CapsOk X scope caps
theorem zdp {use:Option (Value->Sem Unit)} {R:Value->Shared->Prop} {pins:List (Addr×Obj)} {σ : St} {s:Shared} {H:Hp} {Q:VK} (Z:Cx->Prop) (hc:∀ cl C s H fp pins,Z (cxComp X scope (own ++ caps.map (·.2)) cl C s H fp (X.pn ++ pins))) (S:CompScope X scope caps) (hi:PIq Z X target iter wi)
  (hg:∀ cl C s H fp pn,PG (cxComp X scope (own ++ caps.map (·.2)) cl C s H fp pn) target g)
  (ht:∀ cl C s H fp pn,PTs (cxComp X scope (own ++ caps.map (·.2)) cl C s H fp pn) ifs tf)
  (he:∀ cl C s H fp pn,PE (cxComp X scope (own ++ caps.map (·.2)) cl C s H fp pn) elt te)
  (I:Inv X pins σ H s) (h:tComp wi own caps g tf te σ H Q)
  (fin:∀ D C H' s' m,Inv X pins σ H' s'->s'.heap.Ns C m->H' C=none->X.s₀.heap.objs.size<=C->C≠X.env.locals->(∀ x c,X.env.cells.lookup x=some c->c≠C)->(∀ p∈X.pn ++ pins,p.1≠C)->Q (.ref D) H' ->
   compPost (model X.prog X.w) X.A X.xe use R (.ref D) C (.ok .next) s')
  (hs:∀ x,foldedSetIterable iter X.env x=pure x) :
  wpAny (model X.prog X.w) X.A (comprehension (.ListComp elt [⟨target,iter,ifs,0⟩] scope pos) scope X.env (firstIterPos [⟨target,iter,ifs,0⟩] pos) (newList []) false (eval iter X.env) use) R X.xe s:=by
 have hcell:∀ y∈scope.names,y.2 ≠ .cell:=fun y hy z=>by
  have:=List.all_eq_true.mp S.cell y hy
  rw [z] at this; cases this
 have hnames:∀ y∈scope.names,y.2 = .local->scope.names.lookup y.1=some .local:=fun y hy z=>by
  have:=List.all_eq_true.mp S.names y hy
  rw [z] at this
  simpa using this
 have hfree:∀ y∈scope.names,y.2 = .free->X.env.scope.names.lookup y.1=some .cell\/X.env.scope.names.lookup y.1=some .free:=fun y hy z=>by
  have:=List.all_eq_true.mp S.free y hy
  rw [z] at this
  simpa using this
 obtain ⟨cl,hclos,hcl0,hcl1⟩:=closure_ok (env:=X.env) (scope:=scope) fun y hy z=>I.ok.has y.1 (hfree y hy z)
 have hcl:∀ x c,cl.lookup x=some c->X.env.cells.lookup x=some c:=fun x c e=>(hcl0 x c (zdj e)).2
 have hhas:∀ x,((relabel scope X.env).names.lookup x=some .cell\/(relabel scope X.env).names.lookup x=some .free)->∃ c,cl.lookup x=some c:=fun x hx=>by
  obtain ⟨c,hm⟩:=hcl1 x (free_of_relabel hcell hx)
  exact zew hm
 refine wpAny_comprehension_free (g:=⟨target,iter,ifs,0⟩) (gs := []) rfl hs hclos S.kind hnames (thn (hi pins s σ H _ I h) fun v s1 h1=>thn h1 fun itv s2 h2 => ?_)
 obtain ⟨it,fp,tn,J,H2,e,I2,T,st2,f2,cont⟩:=h2
 subst e
 obtain ⟨W,⟨m0,w0⟩,turn⟩:=cont s2.heap.objs.size (I2.hok.fresh (Nat.le_refl _))
 refine wpAny_newObj_type (wpAny_newFunctionEnv hcell (by intro y hy; simp at hy) (fun h₁ hns₁ hsb₁ => ?_) S.kind)
 dsimp only at hns₁ hsb₁ ⊢
 generalize hH2:s2.heap.push { cls := .type "list",dict:=none,data := .seq ([]:List Value).toArray }=HL at hns₁ hsb₁ ⊢
 have hC:HL.objs.size=s2.heap.objs.size + 1:=by rw [<- hH2,Heap.size_push]
 have hfs:∀ b∈fp,b < s2.heap.objs.size:=fun b hb=>let ⟨_,e,_⟩:=T.obj 0 _ st2 b hb; Heap.lt_size e
 have old:∀ b o,s2.heap.get? b=some o->h₁.get? b=some o:=fun b o e =>
  hsb₁.extBut b o (by rw [hC]; exact Nat.ne_of_lt (Nat.lt_succ_of_lt (Heap.lt_size e))) (Heap.get?_push_of_some _ (hH2 ▸ Heap.get?_push_of_some _ e))
 have hlst:∃ n,h₁.get? s2.heap.objs.size=some { cls := .type "list",data := .seq #[] n }:=⟨_,hsb₁.extBut _ _ (by rw [hC]; exact Nat.ne_of_lt (Nat.lt_succ_self _)) (Heap.get?_push_of_some _ (hH2 ▸ Heap.get?_push_size _ rfl))⟩
 have I4:Inv (cxComp X scope (own ++ caps.map (·.2)) cl HL.objs.size s2 H2 fp (X.pn ++ pins)) [] (capSt own caps σ) (upd H2 s2.heap.objs.size (.lst [])) { s2 with heap:=h₁,toks:=s2.toks + ([]:List (Str×Value)).length } :=
  comp_start I2 f2 hC rfl hfs S.kind hcl hhas S.caps hns₁ old hlst
 have st4:tn 0 h₁ := T.keep 0 _ _ st2 fun b hb o e=>old b o e
 have fr4:∀ b∈fp,upd H2 s2.heap.objs.size (.lst []) b=none:=fun b hb=>by
  rw [zai (Nat.ne_of_lt (hfs b hb))]; exact (f2 b hb).1
 have hCs:s2.heap.objs.size < HL.objs.size:=by rw [hC]; exact Nat.lt_succ_self _
 have loop:codeAny (model X.prog X.w) X.A (.compLoop (.ListComp elt [⟨target,iter,ifs,0⟩] scope pos) 0 (.ref it) (.ref s2.heap.objs.size) (compEnvC scope cl HL.objs.size X.env))
   (compPost (model X.prog X.w) X.A X.xe use R (.ref s2.heap.objs.size) HL.objs.size) { s2 with heap:=h₁,toks:=s2.toks + ([]:List (Str×Value)).length }:=by
  refine comp_loop (fun n s'=>∃ i σ' H',Inv (cxComp X scope (own ++ caps.map (·.2)) cl HL.objs.size s2 H2 fp (X.pn ++ pins)) [] σ' H' s'/\tn i s'.heap/\(∀ b∈fp,H' b=none)/\W i n σ' H') ?_ m0 ⟨0,_,_,I4,st4,fr4,w0⟩
  have U:=T.steps (cxComp X scope (own ++ caps.map (·.2)) cl HL.objs.size s2 H2 fp (X.pn ++ pins)) rfl rfl rfl (hc _ _ _ _ _ _)
  rintro n s3 ⟨i,σ3,H3,I3,st3,fr3,w3⟩
  have stat:∀ {H':Hp},(∀ b∈fp,H' b=none)->∀ b∈fp,FpOk (cxComp X scope (own ++ caps.map (·.2)) cl HL.objs.size s2 H2 fp (X.pn ++ pins)) [] H' b:=fun {H'} hn b hb=>by
   refine ⟨hn b hb,(I3.ok.exf b hb).1,I3.ok.exfs b hb,.inl hb,(I3.ok.exf b hb).2,fun p hp => ?_⟩
   have hp':p∈X.pn ++ pins:=by
    have hp2:p∈(X.pn ++ pins) ++ []:=hp
    rwa [List.append_nil] at hp2
   exact (f2 b hb).2.2.2.2.2 p hp'
  rcases turn i n σ3 H3 w3 with ⟨stop,qn⟩ | ⟨go,step⟩
  ·refine thn (U.done i [] s3 σ3 H3 _ I3 (stat fr3) st3 stop) fun r s4 ⟨hr,I4⟩ => ?_
   subst hr
   obtain ⟨m,hm,_⟩:=I4.loc
   refine fin s2.heap.objs.size HL.objs.size H3 s4 m (comp_back I2 f2 I4) hm I4.free (Nat.le_trans I2.sz (Nat.le_of_lt hCs)) (Nat.ne_of_gt (Nat.lt_trans I2.lt hCs)) (fun x c e z => ?_) (fun p hp z => ?_) qn
   ·obtain ⟨v,q⟩:=I2.cell x c e
    exact absurd (Nat.lt_trans q.lt hCs) (by rw [z]; exact Nat.lt_irrefl _)
   ·exact absurd (Nat.lt_trans (Heap.lt_size (I2.pin p hp).1) hCs) (by rw [z]; exact Nat.lt_irrefl _)
  ·refine thn (U.item i [] s3 σ3 H3 _ I3 (stat fr3) st3 go) fun r s4 ⟨u,hr,h4⟩ => ?_
   subst hr
   refine thn h4 fun _ s5 ⟨x,H5,I5,r5,y5,st5,fr5⟩ => ?_
   have I5':=I5.pinned (stat fr5) (T.obj _ _ st5)
   refine thn (hg cl HL.objs.size s2 H2 fp (X.pn ++ pins) _ s5 σ3 H5 x u _ I5' r5 (step x H5 y5)) fun _ s6 ⟨σ6,H6,I6,q6⟩ => ?_
   refine thn (ht cl HL.objs.size s2 H2 fp (X.pn ++ pins) _ s6 σ6 H6 _ I6 q6) fun b s7 ⟨H7,I7,q7⟩ => ?_
   have again:∀ {σ8:St} {H8:Hp} {s8:Shared} {m':Nat},Inv (cxComp X scope (own ++ caps.map (·.2)) cl HL.objs.size s2 H2 fp (X.pn ++ pins)) ([] ++ pinsAt fp s5.heap) σ8 H8 s8->m' < n->W (i + 1) m' σ8 H8 ->
     ∃ m,m < n/\∃ i σ' H',Inv (cxComp X scope (own ++ caps.map (·.2)) cl HL.objs.size s2 H2 fp (X.pn ++ pins)) [] σ' H' s8/\tn i s8.heap/\(∀ b∈fp,H' b=none)/\W i m σ' H':=fun {σ8 H8 s8 m'} I8 hm w8=>by
    refine ⟨m',hm,i + 1,σ8,H8,I8.unpinned,T.keep _ _ _ st5 fun b hb o e=>(I8.pin (b,o) (List.mem_append_right _ (List.mem_append_right _ (zb3 hb e)))).1,fun b hb => ?_,w8⟩
    obtain ⟨o,e,d⟩:=T.obj _ _ st5 b hb
    exact (I8.pin (b,o) (List.mem_append_right _ (List.mem_append_right _ (zb3 hb e)))).2.1
   cases b with
   | false =>
    rw [if_neg Bool.false_ne_true] at q7 ⊢
    obtain ⟨m',hm,w7⟩:=q7
    exact again I7 hm w7
   | true =>
    rw [if_pos rfl] at q7 ⊢
    refine thn (he cl HL.objs.size s2 H2 fp (X.pn ++ pins) _ s7 σ6 H7 _ I7 q7) fun y s8 ⟨v,H8,I8,r8,ys,hy,hz,m',hm,w8⟩ => ?_
    refine thn (zaV _ s8 σ6 H8 (.ref s2.heap.objs.size) [v] (.ref s2.heap.objs.size) [y] (fun _ H9=>H9=upd H8 s2.heap.objs.size (.lst (ys ++ [v]))) I8 rfl (.cons r8 .nil) ⟨_,ys,v,rfl,rfl,hy,hz,rfl⟩) fun z s9 ⟨_,H9,I9,_,e9⟩ => ?_
    subst e9
    exact again I9 hm w8
 exact codeAny_compStart_list loop (T.self _ 0 _ _ _ st4 loop)
theorem zaT (hc:X.calm=true) (S:CompScope X scope caps) (hi:PI X target iter wi)
  (hg:∀ cl C s H fp pn,PG (cxComp X scope (own ++ caps.map (·.2)) cl C s H fp pn) target g)
  (ht:∀ cl C s H fp pn,PTs (cxComp X scope (own ++ caps.map (·.2)) cl C s H fp pn) ifs tf)
  (he:∀ cl C s H fp pn,PE (cxComp X scope (own ++ caps.map (·.2)) cl C s H fp pn) elt te)
  (hs:∀ x,foldedSetIterable iter X.env x=pure x:=by intro _; rfl):PE X (.ListComp elt [⟨target,iter,ifs,0⟩] scope pos) (tComp wi own caps g tf te):=by
 intro pins s σ H Q I h
 rw [eval_ListComp]
 refine zdp (Q:=Q) (fun Y=>Y.calm=true) (fun _ _ _ _ _ _=>hc) S hi.q hg ht he I h (fun D C H' s' m I' hm hn h0 hL h2 h3 q => ?_) hs
 exact ⟨m,hm,fun h' hs'=>⟨.ref D,H',I'.gone hs' hn h0 hL h2 h3,rfl,q⟩⟩
theorem pe_compq (Z:Cx->Prop) (hc:∀ cl C s H fp pins,Z (cxComp X scope (own ++ caps.map (·.2)) cl C s H fp (X.pn ++ pins))) (S:CompScope X scope caps) (hi:PIq Z X target iter wi)
  (hg:∀ cl C s H fp pn,PG (cxComp X scope (own ++ caps.map (·.2)) cl C s H fp pn) target g)
  (ht:∀ cl C s H fp pn,PTs (cxComp X scope (own ++ caps.map (·.2)) cl C s H fp pn) ifs tf)
  (he:∀ cl C s H fp pn,PE (cxComp X scope (own ++ caps.map (·.2)) cl C s H fp pn) elt te)
  (hs:∀ x,foldedSetIterable iter X.env x=pure x:=by intro _; rfl):PE X (.ListComp elt [⟨target,iter,ifs,0⟩] scope pos) (tComp wi own caps g tf te):=by
 intro pins s σ H Q I h
 rw [eval_ListComp]
 refine zdp (Q:=Q) Z hc S hi hg ht he I h (fun D C H' s' m I' hm hn h0 hL h2 h3 q => ?_) hs
 exact ⟨m,hm,fun h' hs'=>⟨.ref D,H',I'.gone hs' hn h0 hL h2 h3,rfl,q⟩⟩
theorem zeU {i:Nat} {x:Str} {pos' spos:Pos} (hN:X.N.Nodup) (hn:X.N[i]?=some x) (hx:Loc X.env.scope x) (hc:X.calm=true) (S:CompScope X scope caps) (hi:PI X target iter wi)
  (hg:∀ cl C s H fp pn,PG (cxComp X scope (own ++ caps.map (·.2)) cl C s H fp pn) target g)
  (ht:∀ cl C s H fp pn,PTs (cxComp X scope (own ++ caps.map (·.2)) cl C s H fp pn) ifs tf)
  (he:∀ cl C s H fp pn,PE (cxComp X scope (own ++ caps.map (·.2)) cl C s H fp pn) elt te)
  (hsw:swapsWith (.ListComp elt [⟨target,iter,ifs,0⟩] scope pos) (some (.Name x pos')) spos.line X.env=pure true:=by rfl)
  (hf:X.fn x=true\/X.env.scope.names.lookup x=some .local:=by first | exact .inl rfl | exact .inr rfl | assumption)
  (hs:∀ x,foldedSetIterable iter X.env x=pure x:=by intro _; rfl):PS X (.Assign [.Name x pos'] (.ListComp elt [⟨target,iter,ifs,0⟩] scope pos) spos) (tAsg (tComp wi own caps g tf te) (gName i)):=by
 intro pins s σ H D I h
 rw [exec_Assign_Name_used _ _ _ _ hsw]
 refine wpAny_bind (wpAny_standAt (wpAny_bind ?_))
 show wpAny _ _ (do let _ <- comprehension (.ListComp elt [⟨target,iter,ifs,0⟩] scope pos) scope X.env _ (newList []) false (eval iter X.env) (some (assign (.Name x pos') X.env))) _ _ s
 refine wpAny_bind (wpAny_mono (zdp (use:=some (assign (.Name x pos') X.env)) (R:=fun _ s'=>SP X pins D .next s') (Q:=fun v H1=>gName i v σ H1 D.nx) (fun Y=>Y.calm=true) (fun _ _ _ _ _ _=>hc) S hi.q hg ht he I h (fun Dl C H' s' m I' hm hnC h0 hL h2 h3 q => ?_) hs)
  (fun _ s' hq=>wpAny_pure (wpAny_pure hq)) fun _ _ e=>e)
 show wpAny _ _ (assign (.Name x pos') X.env (.ref Dl)) _ _ s'
 refine wpAny_assign_Name (zen I' hN hn hx (show RelV (.ref Dl) (.ref Dl) from rfl) (fun s'' I'' sb => ?_) hf)
 obtain ⟨a,hsb,ha⟩:=sb
 have hCa:C≠a:=by
  rcases ha with z | z
  ·rw [z]; exact hL
  ·exact Ne.symm (h2 x a z)
 exact ⟨m,hm.sameBut hsb hCa,fun h' hs'=>⟨_,H',I''.gone hs' hnC h0 hL h2 h3,q⟩⟩
end
end L2
namespace L2
open PySem PySem.Spec PyProof.Rows
noncomputable def sgn (c:Nat):V := .str ⟨#[c]⟩
noncomputable def Its (x:Str):It:=⟨fun i _=>i < x.cps.size,fun i H v H'=>H'=H/\∃ c,x.cps[i]?=some c/\v=sgn c,fun i _=>i=x.cps.size⟩
theorem zff {P:Program} {w:World} {K:PySem.W.Frag} {tg:Expr} (it:Addr) (x:Str) (t:Tok) (ty:String)
  (hty : ["enumerate","zip","dict_itemiterator","dict_reverseitemiterator","odict_iterator","itertools.zip_longest","itertools.pairwise"].contains ty=false)
  (W:∀ A:Around,A.handled=none->Walks P w A it [it] [it] x.cps.size (SignAt x) (fun i h=>h.IsStrIter it ty x t i))
  (sf:∀ (A:Around) (i:Nat) (s:Shared) (Q:Value->Shared->Prop) (E:Value->Shared->Prop),s.heap.IsStrIter it ty x t i->Q (.ref it) s->wpAny (model P w) A (pyIter (.ref it)) Q E s) :
  Turn P w K tg (Its x) [it] it (fun i h=>h.IsStrIter it ty x t i) where
 mem:=by simp
 obj:=fun i h st b hb=>by
  have e:b=it:=by simpa using hb
  subst e
  obtain ⟨o,e,c,d⟩:=st
  exact ⟨o,e,fun v z=>by rw [d] at z; cases z⟩
 keep:=fun i h h' st k=>by
  obtain ⟨o,e,r⟩:=st
  exact ⟨o,k it (by simp) o e,r⟩
 item:=by
  intro X hP hw hK hc i pins s σ H E I hf st hg
  subst hP hw hK
  obtain ⟨f0,f1,f2,f3,f4,f5⟩:=hf it (by simp)
  refine (W X.A (I.ok.hd hc)).item i s _ _ hg st fun v h' tk hv st' kk => ?_
  obtain ⟨c,u,hc',rfl⟩:=hv
  have I1:Inv X pins σ H { s with heap:=h',toks:=tk }:=I.turned (fun b o hb e=>kk b o (by simpa using hb) e) f0 f1 f3 f4 f5
  obtain ⟨o,e,cc,d⟩:=id st'
  exact ⟨_,rfl,zgg (s:={ s with heap:=h',toks:=tk }) e cc d hty ⟨sgn c,H,I1,⟨u,rfl⟩,⟨rfl,c,hc',rfl⟩,st',fun b hb=>(hf b hb).1⟩⟩
 done:=by
  intro X hP hw hK hc i pins s σ H E I hf st hg
  subst hP hw hK
  obtain ⟨f0,f1,f2,f3,f4,f5⟩:=hf it (by simp)
  have hi:i=x.cps.size:=hg
  subst hi
  exact (W X.A (I.ok.hd hc)).done s _ _ st fun h' tk kk=>⟨rfl,I.turned (fun b o hb e=>kk b o (by simpa using hb) e) f0 f1 f3 f4 f5⟩
 self:=fun A i s Q E st h=>sf A i s Q E st h
section
variable {X:Cx} {tg:Expr}
noncomputable def iStr (tl:TE):TI:=fun σ H R=>tl σ H fun v H1=>∃ x,v = .str x/\R (Its x) H1
theorem zgE {l:Expr} {tl:TE} (hl:PE X l tl):PI X tg l (iStr tl):=by
 intro pins s σ H R I h
 refine thn (hl pins s σ H _ I h) fun v s1 ⟨y,H1,I1,r1,q1⟩ => ?_
 obtain ⟨x,e,q⟩:=q1
 subst e
 obtain ⟨t,rfl⟩:=r1
 have hf:∀ o:Obj,∀ b ∈ [s1.heap.objs.size],FpOk X pins H1 b:=fun o b hb=>by
  have e:b=s1.heap.objs.size:=by simpa using hb
  subst e
  exact I1.fpOk (Nat.le_refl _) (I1.hok.fresh (Nat.le_refl _))
 cases ha:x.cps.all (· < 128)
 ·exact wpAny_pyIter_wide ha ⟨s1.heap.objs.size,[s1.heap.objs.size],_,_,H1,rfl,I1.kept (t':=s1.toks) fun b o e=>Heap.get?_push_of_some _ e,
   zff _ x t "str_iterator" (by decide) (fun A hA=>Walks.strWide hA _ x t) (fun A i s Q E st h=>wpAny_pyIter_striter_wide st h),⟨_,Heap.get?_push_size _ rfl,rfl,rfl⟩,hf default,q⟩
 ·exact wpAny_pyIter_ascii ha ⟨s1.heap.objs.size,[s1.heap.objs.size],_,_,H1,rfl,I1.kept (t':=s1.toks) fun b o e=>Heap.get?_push_of_some _ e,
   zff _ x t "str_ascii_iterator" (by decide) (fun A hA=>Walks.strAscii hA _ x t) (fun A i s Q E st h=>wpAny_pyIter_striter_ascii st h),⟨_,Heap.get?_push_size _ rfl,rfl,rfl⟩,hf default,q⟩
end
structure Gives (J:It) (Ok:Hp->Prop) (L:List V):Prop where
 go:∀ i H,Ok H->i < L.length->J.go i H
 yld:∀ i H x H',Ok H->J.yld i H x H'->i < L.length->H'=H/\L[i]?=some x
 stop:∀ H,Ok H->J.stop L.length H
theorem zaK (lo:Int) (n:Nat):Gives (Itr lo n) (fun _=>True) ((List.range n).map fun i=>V.int (lo + (i:Nat))) where
 go:=fun i H _ h=>by
  have:i < n:=by simpa using h
  exact this
 yld:=fun i H x H' _ y h=>by
  obtain ⟨e,rfl⟩:=y
  have:i < n:=by simpa using h
  exact ⟨e,by simp [this]⟩
 stop:=fun H _=>by
  show n<=_
  simp
theorem zeD (x:Str):Gives (Its x) (fun _=>True) (x.cps.toList.map sgn) where
 go:=fun i H _ h=>by
  have:i < x.cps.size:=by simpa using h
  exact this
 yld:=fun i H v H' _ y h=>by
  obtain ⟨e,c,hc,rfl⟩:=y
  refine ⟨e,?_⟩
  rw [List.getElem?_map]
  simp [hc]
 stop:=fun H _=>by
  show _=x.cps.size
  simp
theorem zam (K:PySem.W.Frag) (a:Addr) (xs:List V):Gives (Itl K a) (fun H=>SqL K H a xs) xs where
 go:=fun i H q h=>⟨xs,xs[i],q,by simp [h]⟩
 yld:=fun i H v H' q y h=>⟨y.1,y.2 xs q⟩
 stop:=fun H q=>⟨xs,q,Nat.le_refl _⟩
theorem gives_tup (K:PySem.W.Frag) (a:Addr) (xs:List V):Gives (Itt K a) (fun H=>SqT K H a xs) xs where
 go:=fun i H q h=>⟨xs,xs[i],q,by simp [h]⟩
 yld:=fun i H v H' q y h=>⟨y.1,y.2 xs q⟩
 stop:=fun H q=>⟨xs,q,Nat.le_refl _⟩
theorem zbG {J:It} {Ok:Hp->Prop} {L:List V} {g:TG} {tb:TS} {D:Ends} {σ : St} {H:Hp} (G:Gives J Ok L) (Pv:Nat->St->Hp->Prop) (h0:Pv 0 σ H) (hk:∀ i σ H,i<=L.length->Pv i σ H->Ok H)
  (hs:∀ i x σ H,L[i]?=some x->Pv i σ H->g x σ H fun σ2 H2=>tb { D with nx:=Pv (i + 1),ct:=Pv (i + 1),bk:=D.nx } σ2 H2) (hd:∀ σ H,Pv L.length σ H->D.nx σ H) :
  ∃ W:Nat->Nat->St->Hp->Prop,(∃ m,W 0 m σ H)/\∀ i m σ H,W i m σ H ->
   (J.stop i H/\D.nx σ H)\/(J.go i H/\∃ N:St->Hp->Prop,(∀ σ' H',N σ' H'->∃ m',m' < m/\W (i + 1) m' σ' H')/\∀ x H',J.yld i H x H'->g x σ H' fun σ2 H2=>tb { D with nx:=N,ct:=N,bk:=D.nx } σ2 H2):=by
 refine ⟨fun i m σ H=>m=L.length - i/\i<=L.length/\Pv i σ H,⟨L.length,by simp,Nat.zero_le _,h0⟩,?_⟩
 rintro i m σ H ⟨rfl,hi,p⟩
 have q:=hk i σ H hi p
 by_cases hlt:i < L.length
 ·refine .inr ⟨G.go i H q hlt,Pv (i + 1),fun σ' H' p'=>⟨L.length - (i + 1),by omega,rfl,hlt,p'⟩,fun x H' y => ?_⟩
  obtain ⟨e,yy⟩:=G.yld i H x H' q y hlt
  subst e
  exact hs i x σ _ yy p
 ·have e:i=L.length:=by omega
  subst e
  exact .inl ⟨G.stop H q,hd σ H p⟩
noncomputable def CNext (D:Addr) (L:List V) (Pv:Nat->List V->St->Hp->Prop) (i:Nat) (σ2:St) (v:V) (H5:Hp):Prop :=
 ∃ ys,H5 D=some (.lst ys)/\ys.length < sizeLine/\∃ m',m' < L.length - i/\(m'=L.length - (i + 1)/\i + 1<=L.length/\∃ xs,Pv (i + 1) xs σ2 (upd H5 D (.lst (ys ++ [v]))))
noncomputable def CSkip (L:List V) (Pv:Nat->List V->St->Hp->Prop) (i:Nat) (σ2:St) (H4:Hp):Prop :=
 ∃ m',m' < L.length - i/\(m'=L.length - (i + 1)/\i + 1<=L.length/\∃ xs,Pv (i + 1) xs σ2 H4)
theorem CNext.of {D:Addr} {L:List V} {Pv:Nat->List V->St->Hp->Prop} {i:Nat} {σ2:St} {v:V} {H5:Hp} {xs:List V} (hi:i < L.length) (hL:L.length<=sizeLine) (h5:H5 D=some (.lst xs)) (hx:xs.length<=i) (p:Pv (i + 1) (xs ++ [v]) σ2 (upd H5 D (.lst (xs ++ [v])))):CNext D L Pv i σ2 v H5 :=
 ⟨xs,h5,by omega,L.length - (i + 1),by omega,rfl,hi,_,p⟩
theorem CSkip.of {L:List V} {Pv:Nat->List V->St->Hp->Prop} {i:Nat} {σ2:St} {H4:Hp} {xs:List V} (hi:i < L.length) (p:Pv (i + 1) xs σ2 H4):CSkip L Pv i σ2 H4:=⟨L.length - (i + 1),by omega,rfl,hi,_,p⟩
theorem zgq {J:It} {Ok:Hp->Prop} {L:List V} {g:TG} {tf:TT} {te:TE} {D:Addr} {σ0:St} {H1:Hp} {Q:VK} (G:Gives J Ok L) (Pv:Nat->List V->St->Hp->Prop) (h0:Pv 0 [] σ0 (upd H1 D (.lst [])))
  (hk:∀ i xs σ H,i<=L.length->Pv i xs σ H->Ok H)
  (hs:∀ i x xs σ H,i < L.length->L[i]?=some x->Pv i xs σ H->g x σ H fun σ2 H3=>tf σ2 H3 fun b H4=>if b=true then te σ2 H4 fun v H5=>CNext D L Pv i σ2 v H5 else CSkip L Pv i σ2 H4)
  (hd:∀ xs σ H,Pv L.length xs σ H->Q (.ref D) H) :
  CompW J D σ0 H1 g tf te Q:=by
 refine ⟨fun i m σ H=>m=L.length - i/\i<=L.length/\∃ xs,Pv i xs σ H,⟨L.length,by simp,Nat.zero_le _,[],h0⟩,?_⟩
 rintro i m σ H ⟨rfl,hi,xs,p⟩
 have q:=hk i xs σ H hi p
 by_cases hlt:i < L.length
 ·refine .inr ⟨G.go i H q hlt,fun x H' y => ?_⟩
  obtain ⟨e,yy⟩:=G.yld i H x H' q y hlt
  subst e
  exact hs i x xs σ _ hlt yy p
 ·have e:i=L.length:=by omega
  subst e
  exact .inl ⟨G.stop H q,hd xs σ H p⟩
theorem Same.put {H0 H:Hp} {p:Addr} {o:HO} (s:Same H0 H) (n:H0 p=none):Same H0 (upd H p o):=fun b u e=>by
 rw [zai (zaq e n)]
 exact s b u e
theorem Same.new {H:Hp} {p:Addr} {o:HO} (n:H p=none):Same H (upd H p o):=(Same.refl H).put n
theorem Same.tup {K:PySem.W.Frag} {H H':Hp} {a:Addr} {xs:List V} (e:Same H H') (h:SqT K H a xs):SqT K H' a xs:=by
 rcases h with (h | ⟨o,h⟩) | h
 ·exact .inl (.inl (e _ _ h))
 ·exact .inl (.inr ⟨o,e _ _ h⟩)
 ·exact .inr h
theorem zaB {α : Type} {l:List α} {i:Nat} {x : α} (h:l[i]?=some x):l.take (i + 1)=l.take i ++ [x]:=by
 rw [List.take_add_one,h]
 rfl
theorem zb9 {J:It} {Ok:Hp->Prop} {L:List V} {tf:TT} {te:TE} {D:Addr} {σ0 capv:St} {H1:Hp} {Q:VK} (hσ : σ0=none :: capv) (G:Gives J Ok L) (hL:L.length<=sizeLine) (hD:H1 D=none) (hOk:∀ H,Same H1 H->Ok H) (p:V->Bool) (F:V->V)
  (ht:∀ x∈L,∀ H R,Same H1 H->(∀ H',Same H H'->R (p x) H')->tf (some x :: capv) H R)
  (he:∀ x∈L,p x=true->∀ H R,Same H1 H->(∀ H',Same H H'->R (F x) H')->te (some x :: capv) H R)
  (hd:∀ H,Same H1 H->H D=some (.lst ((L.filter p).map F))->Q (.ref D) H) :
  CompW J D σ0 H1 (gName 0) tf te Q:=by
 subst hσ
 refine zgq G (fun i xs σ H=>(∃ o,σ = o :: capv)/\Same H1 H/\H D=some (.lst xs)/\xs=((L.take i).filter p).map F) ⟨⟨none,rfl⟩,Same.new hD,zad,by simp⟩ (fun i xs σ H _ h=>hOk H h.2.1) ?_ ?_
 ·rintro i x xs σ H hi hx ⟨⟨o,rfl⟩,s,e,exs⟩
  have hm:x∈L:=List.mem_of_getElem? hx
  have hxl:xs.length<=i:=by
   rw [exs,List.length_map]
   exact Nat.le_trans (List.length_filter_le _ _) (by rw [List.length_take]; omega)
  show tf (some x :: capv) H _
  refine ht x hm H _ s fun H' s' => ?_
  cases hp:p x with
  | true =>
   rw [if_pos rfl]
   refine he x hm hp H' _ (s.trans s') fun H'' s'' => ?_
   have e'':H'' D=some (.lst xs):=s'' _ _ (s' _ _ e)
   refine CNext.of hi hL e'' hxl ⟨⟨some x,rfl⟩,((s.trans s').trans s'').put hD,zad,?_⟩
   rw [zaB hx,List.filter_append,List.map_append,exs]
   simp [hp]
  | false =>
   rw [if_neg Bool.false_ne_true]
   refine CSkip.of hi ⟨⟨some x,rfl⟩,s.trans s',s' _ _ e,?_⟩
   rw [zaB hx,List.filter_append,List.map_append,exs]
   simp [hp]
 ·rintro xs σ H ⟨_,s,e,exs⟩
  refine hd H s ?_
  rw [e,exs,List.take_length]
end L2
namespace L2
open PySem PySem.Spec PyProof.Rows
theorem zcl {P:Program} {w:World} {A:Around} {E:Value->Shared->Prop} {s:Shared} {a:Addr} {its:List Value} {Q:Value->Shared->Prop} (hh:A.handled=none) (hl:s.heap.IsList a its.toArray)
  (h:∀ (I:Addr) (s2:Shared),s2={ s with heap:=s.heap.push { cls := .type "list_iterator",data := .fields #[.ref a,.int 0 0] } }->I=s.heap.objs.size ->
   Walks P w A I [I,a] [I] its.length (fun i v=>its[i]?=some v) (fun i h=>h.IsListIter I a i/\h.IsList a its.toArray)->(s2.heap.IsListIter I a 0/\s2.heap.IsList a its.toArray)->(∀ b ∈ [I,a],b < s2.heap.objs.size) ->
   (∀ h':Heap,(∀ b o,b ∉ [I]->s2.heap.get? b=some o->h'.get? b=some o)->∀ b o,s.heap.get? b=some o->h'.get? b=some o)->Q (.ref I) s2) :
  wpAny (model P w) A (pyIter (.ref a)) Q E s:=by
 have hlt:a < s.heap.objs.size:=by obtain ⟨_,e,_⟩:=hl; exact Heap.lt_size e
 refine wpAny_pyIter_list hl (h _ _ rfl rfl ?_ ⟨⟨_,Heap.get?_push_size _ rfl,rfl,rfl⟩,hl.push _⟩ (fun b hb => ?_) (fun h' k b o e=>k b o ?_ (Heap.get?_push_of_some _ e)))
 ·have W:=Walks.list (prog:=P) (w:=w) (A:=A) hh s.heap.objs.size a (Nat.ne_of_lt hlt) its.toArray
  simpa using W
 ·show b < (s.heap.push _).objs.size
  rw [Heap.size_push]
  rcases List.mem_cons.mp hb with rfl | hb
  ·exact Nat.lt_succ_self _
  ·have e:b=a:=by simpa using hb
   subst e
   exact Nat.lt_succ_of_lt hlt
 ·intro z
  have e2:b=s.heap.objs.size:=by simpa using z
  subst e2
  exact absurd (Heap.lt_size e) (Nat.lt_irrefl _)
theorem zfe {xs:List V} {us:List Value} (r:Vals xs us) {i:Nat} {u:Value} (h:us[i]?=some u):∃ x,xs[i]?=some x/\RelV x u:=by
 have hi:i < xs.length:=by rw [r.length]; exact (List.getElem?_eq_some_iff.mp h).1
 obtain ⟨u',hu,ru⟩:=r.get (x:=xs[i]) (i:=i) (by simp [hi])
 rw [h] at hu
 cases hu
 exact ⟨_,by simp [hi],ru⟩
theorem range_all_map (bs:List Bool):(List.range bs.length).all (fun i=>bs.getD i false)=bs.all id:=by
 rw [Bool.eq_iff_iff,List.all_eq_true,List.all_eq_true]
 constructor
 ·intro h x hx
  obtain ⟨i,hi,e⟩:=List.mem_iff_getElem.mp hx
  have:=h i (List.mem_range.mpr hi)
  simp only [List.getD_eq_getElem?_getD,hi,getElem?_pos,Option.getD_some,e] at this
  exact this
 ·intro h i hi
  have hi':=List.mem_range.mp hi
  simp only [List.getD_eq_getElem?_getD,hi',getElem?_pos,Option.getD_some]
  exact h _ (List.getElem_mem hi')
theorem range_any_map (bs:List Bool):(List.range bs.length).any (fun i=>bs.getD i false)=bs.any id:=by
 rw [Bool.eq_iff_iff,List.any_eq_true,List.any_eq_true]
 constructor
 ·rintro ⟨i,hi,h⟩
  have hi':=List.mem_range.mp hi
  simp only [List.getD_eq_getElem?_getD,hi',getElem?_pos,Option.getD_some] at h
  exact ⟨_,List.getElem_mem hi',h⟩
 ·rintro ⟨x,hx,h⟩
  obtain ⟨i,hi,e⟩:=List.mem_iff_getElem.mp hx
  refine ⟨i,List.mem_range.mpr hi,?_⟩
  simp only [List.getD_eq_getElem?_getD,hi,getElem?_pos,Option.getD_some,e]
  exact h
section
variable {X:Cx}
theorem zfg {P:Program} {w:World} {A:Around} {bs:List Bool} {its:List Value} (r:Vals (bs.map V.bl) its):TruthOf P w A (fun i v=>its[i]?=some v) (fun i=>bs.getD i false):=by
 intro i v s Q E hv q
 obtain ⟨x,hx,rx⟩:=zfe r hv
 rw [List.getElem?_map] at hx
 cases e:bs[i]? with
 | none=>rw [e] at hx; cases hx
 | some b =>
  rw [e] at hx
  cases hx
  cases (show v=Value.bool b from rx)
  refine wpAny_truthy_bool ?_
  have eb:bs.getD i false=b:=by rw [List.getD_eq_getElem?_getD,e]; rfl
  rw [<- eb]
  exact q
theorem zcZ (hc:X.calm=true):CallR X (.builtin "all") (fun xs H Q=>∃ (a:Addr) (bs:List Bool),xs = [V.ref a]/\SqL X.K H a (bs.map V.bl)/\Q (.bl (bs.all id)) H):=by
 intro pins s σ H xs us Q I r h
 obtain ⟨a,bs,rfl,hq,q⟩:=h
 obtain ⟨u,rfl,ru⟩:=zbJ r
 cases ru
 obtain ⟨its,rv,p,hz⟩:=I.list hq
 refine call_all_walk (zcl (A:=X.A.in1) (I.ok.hd hc) p.isList fun It s2 e2 eI W st hf old => ?_)
 have hl:bs.length=its.length:=by have:=rv.length; rwa [List.length_map] at this
 refine ⟨It,_,_,its.length,_,_,_,rfl,W,st,zfg rv,fun h' tk k => ?_⟩
 subst e2
 rw [<- hl,range_all_map]
 exact ⟨.bl _,H,I.kept (t':=tk) (old h' k),rfl,q⟩
theorem call_any (hc:X.calm=true):CallR X (.builtin "any") (fun xs H Q=>∃ (a:Addr) (bs:List Bool),xs = [V.ref a]/\SqL X.K H a (bs.map V.bl)/\Q (.bl (bs.any id)) H):=by
 intro pins s σ H xs us Q I r h
 obtain ⟨a,bs,rfl,hq,q⟩:=h
 obtain ⟨u,rfl,ru⟩:=zbJ r
 cases ru
 obtain ⟨its,rv,p,hz⟩:=I.list hq
 refine call_any_walk (zcl (A:=X.A.in1) (I.ok.hd hc) p.isList fun It s2 e2 eI W st hf old => ?_)
 have hl:bs.length=its.length:=by have:=rv.length; rwa [List.length_map] at this
 refine ⟨It,_,_,its.length,_,_,_,rfl,W,st,zfg rv,fun h' tk k => ?_⟩
 subst e2
 rw [<- hl,range_any_map]
 exact ⟨.bl _,H,I.kept (t':=tk) (old h' k),rfl,q⟩
theorem zcV:∀ {ns:List Int} {its:List Value},Vals (ns.map V.int) its->IntsAre its ns
 | [],_,r=>by rw [List.map_nil] at r; cases r; exact .nil
 | n :: ns,_,r=>by
  rw [List.map_cons] at r
  cases r with
  | cons h t =>
   obtain ⟨tk,e⟩:=(show ∃ t,_=Value.int n t from h)
   subst e
   exact .cons n tk (zcV t)
theorem zee {ns:List Int} {its:List Value} (r:Vals (ns.map V.int) its) {i:Nat} {v:Value} (h:its[i]?=some v):∃ t,v = .int (ns.getD i 0) t:=by
 obtain ⟨x,hx,rx⟩:=zfe r h
 rw [List.getElem?_map] at hx
 cases e:ns[i]? with
 | none=>rw [e] at hx; cases hx
 | some n =>
  rw [e] at hx
  cases hx
  have en:ns.getD i 0=n:=by rw [List.getD_eq_getElem?_getD,e]; rfl
  rw [en]
  exact rx
theorem call_max1 (hc:X.calm=true):CallR X (.builtin "max") (fun xs H Q=>∃ (a:Addr) (ns:List Int),xs = [V.ref a]/\SqL X.K H a (ns.map V.int)/\0 < ns.length/\∀ M,M∈ns->(∀ n∈ns,n<=M)->Q (.int M) H):=by
 intro pins s σ H xs us Q I r h
 obtain ⟨a,ns,rfl,hq,hne,q⟩:=h
 obtain ⟨u,rfl,ru⟩:=zbJ r
 cases ru
 obtain ⟨its,rv,p,hz⟩:=I.list hq
 have hl:ns.length=its.length:=by have:=rv.length; rwa [List.length_map] at this
 refine call_max_walk (zcl (A:=X.A.in1) (I.ok.hd hc) p.isList fun It s2 e2 eI W st hf old => ?_)
 refine ⟨It,_,_,its.length,_,_,_,rfl,W,st,hf,by omega,CmpOf.ints_gt (fun i=>ns.getD i 0) (fun _ _=>zee rv),fun v h' tk hv k => ?_⟩
 subst e2
 obtain ⟨t,rfl⟩:=zee rv hv
 obtain ⟨h1,h2⟩:=argBest_gt (fun i=>ns.getD i 0) (its.length - 1)
 refine ⟨.int _,H,I.kept (t':=tk) (old h' k),⟨t,rfl⟩,q _ ?_ fun n hn => ?_⟩
 ·have hlt:argBest (fun i j=>decide (ns.getD i 0 > ns.getD j 0)) (its.length - 1) < ns.length:=by omega
  rw [List.getD_eq_getElem?_getD,List.getElem?_eq_getElem hlt]
  exact List.getElem_mem hlt
 ·obtain ⟨j,hj,e⟩:=List.mem_iff_getElem.mp hn
  have:=h2 j (by omega)
  have ej:ns.getD j 0=n:=by
   rw [List.getD_eq_getElem?_getD,List.getElem?_eq_getElem hj,e]
   rfl
  rw [ej] at this
  exact this
theorem zdN (ns:List Int):∀ k,k<=ns.length->preSum (fun i=>ns.getD i 0) k=(ns.take k).sum
 | 0,_=>rfl
 | k + 1,h=>by
  have hk:k < ns.length:=by omega
  rw [preSum,zdN ns k (by omega),zaB (x:=ns[k]) (by simp [hk]),List.sum_append]
  simp [List.getD_eq_getElem?_getD,hk]
theorem zeJ (hc:X.calm=true):CallR X (.builtin "sum") (fun xs H Q=>∃ (a:Addr) (ns:List Int),xs = [V.ref a]/\SqL X.K H a (ns.map V.int)/\Q (.int ns.sum) H):=by
 intro pins s σ H xs us Q I r h
 obtain ⟨a,ns,rfl,hq,q⟩:=h
 obtain ⟨u,rfl,ru⟩:=zbJ r
 cases ru
 obtain ⟨its,rv,p,hz⟩:=I.list hq
 have hl:ns.length=its.length:=by have:=rv.length; rwa [List.length_map] at this
 refine call_sum_walkG (zcl (A:=X.A.in1) (I.ok.hd hc) p.isList fun It s2 e2 eI W st hf old => ?_)
 refine ⟨It,_,_,its.length,_,_,(fun i=>ns.getD i 0),rfl,W,st,hf,(fun _ _=>zee rv),fun h' tk t' k => ?_⟩
 subst e2
 refine ⟨.int _,H,I.kept (t':=tk) (old h' k),⟨t',rfl⟩,?_⟩
 rw [<- hl,zdN ns _ (Nat.le_refl _),List.take_length]
 exact q
noncomputable def many (ns:List Int):Nat:=(firstMet (fun i=>ns.getD i 0) ns.length).length
theorem call_set1 (hc:X.calm=true):CallR X (.type "set") (fun xs H Q=>∃ (a:Addr) (ns:List Int),xs = [V.ref a]/\SqL X.K H a (ns.map V.int)/\ns.length + 1 < scanBound/\∀ p,H p=none->Q (.ref p) (upd H p (.set (fun k=>(firstMet (fun i=>ns.getD i 0) ns.length).any (· == k)) (many ns)))):=by
 intro pins s σ H xs us Q I r h
 obtain ⟨a,ns,rfl,hq,hb,q⟩:=h
 obtain ⟨u,rfl,ru⟩:=zbJ r
 cases ru
 obtain ⟨its,rv,p,hz⟩:=I.list hq
 have hl:ns.length=its.length:=by have:=rv.length; rwa [List.length_map] at this
 have hsz:its.toArray.size=ns.length:=by rw [List.size_toArray,hl]
 refine call_set_list (items:=its.toArray) (ns:=ns) (I.ok.hd hc) p.isList (by simpa using zcV rv) (by rw [hsz]; exact hb) fun h' tk hS k => ?_
 rw [hsz] at hS
 have I':Inv X pins σ (upd H s.heap.objs.size (.set (fun k=>(firstMet (fun i=>ns.getD i 0) ns.length).any (· == k)) (many ns))) { s with heap:=h',toks:=tk } :=
  I.laid (fun b o e=>k b o (Heap.lt_size e) e) (Nat.le_refl _) hS
 exact ⟨.ref _,_,I',rfl,q _ (I.hok.fresh (Nat.le_refl _))⟩
theorem call_lenS:CallR X (.builtin "len") (fun xs H Q=>∃ a S n,xs = [V.ref a]/\H a=some (.set S n)/\Q (.int n) H):=by
 intro pins s σ H xs us Q I r h
 obtain ⟨a,S,n,rfl,hq,q⟩:=h
 obtain ⟨u,rfl,ru⟩:=zbJ r
 cases ru
 obtain ⟨o,es,ep,t,h1,h2,h3,h4,h5,h6,h7,h8⟩:=(show s.heap.SetOf (intKind X.prog X.w) a S n from I.hok a _ hq)
 have hfit:(es.size:Int) < 2 ^ 63:=by
  have:(es.size:Int) < 4096:=by unfold scanBound at h6; omega
  exact Int.lt_of_lt_of_le this (by decide)
 exact call_len_set h1 h2 h3 h7 hfit ⟨.int n,H,I.tok _,⟨_,by rw [h8]⟩,q⟩
theorem zeu:OpR X (compareOp .LtE) (fun x y H Q=>∃ i j,x = .str i/\y = .str j/\Q (.bl (!decide (j.cps.toList < i.cps.toList))) H):=by
 intro pins s σ H x y v u Q I rx ry h
 obtain ⟨i,j,rfl,rfl,q⟩:=h
 obtain ⟨t,rfl⟩:=rx
 obtain ⟨t',rfl⟩:=ry
 exact PySem.P.le_str (zaJ I q rfl)
theorem call_isi {c:Value} {cv:V} (hcv:RelV cv c) (huniq:∀ u,RelV cv u->u=c):CallR X (.builtin "isinstance") (fun xs H Q=>∃ x t b,xs = [x,cv]/\TyOf X.K H x t/\PySem.W.kitOne X.K t c=some b/\Q (.bl b) H):=by
 intro pins s σ H xs us Q I r h
 obtain ⟨x,t,b,rfl,ty,e,q⟩:=h
 obtain ⟨u,u',rfl,ru,ru'⟩:=zgW r
 have:=huniq u' ru'
 subst this
 exact isinst_ok I ru ty e fun tk=>⟨.bl b,H,I.tok _,rfl,q⟩
theorem zbf (T:String):CallR X (.builtin "isinstance") (fun xs H Q=>∃ x t b,xs = [x,.ty T]/\TyOf X.K H x t/\PySem.W.kitOne X.K t (.type T)=some b/\Q (.bl b) H):=call_isi (c := .type T) (cv := .ty T) rfl fun _ h=>h
end
end L2
namespace L2
open PySem PySem.Spec PyProof.Rows
section
variable {X:Cx}
noncomputable def tCut (t u:TS):TS:=fun D σ H=>∃ M:St->Hp->Prop,t { D with nx:=M } σ H/\∀ σ' H',M σ' H'->u D σ' H'
theorem zcH {st:Stmt} {rest:List Stmt} {t u:TS} (h1:PS X st t) (h2:PSs X rest u):PSs X (st :: rest) (tCut t u):=by
 intro pins s σ H D I h
 obtain ⟨M,h,hM⟩:=h
 refine wpAny_execs_cons (thn (h1 pins s σ H { D with nx:=M } I h) fun f s1 q => ?_)
 cases f with
 | next =>
  obtain ⟨σ',H',I',q⟩:=q
  exact h2 pins s1 σ' H' D I' (hM σ' H' q)
 | ret v=>exact q
 | brk=>exact q
 | cont=>exact q
theorem zaH {scope:Scope} {N:List Str} {cl:List (Str×Addr)} {C:Addr} {s:Shared} {H:Hp} {fp:List Addr} {pn:List (Addr×Obj)} (h:N.Nodup):(cxComp X scope N cl C s H fp pn).N.Nodup:=h
theorem zbY {x:Str} {i:Int} {pos:Pos} (hg:Gl X x) (hm:∃ t,X.mg x=some (.int i t)) (hd:(x == ("__debug__" : Str))=false:=by decide):PE X (.Name x pos) (tC (.int i)):=by
 obtain ⟨t,hm⟩:=hm
 exact zf2 hg hm ⟨t,rfl⟩ hd
end
structure Callee (P:Program) (w:World) (K:PySem.W.Frag) (mg:Str->Option Value) (base:Heap) (x:Str) (k:Nat) (ps:List Str) (sp:Sp):Prop where
 ex:∃ f fd,FnOk P w K mg base CX0 k f fd ps sp/\mg x=some (.ref f)/\PySem.W.keepIn K (.ref f)=true/\Binds K fd ps []/\∃ o,K.lookup f=some o/\o.data = .func fd
structure DefAt (K:PySem.W.Frag) (mg:Str->Option Value) (x:Str) (st:Stmt):Prop where
 ex:∃ f fd,Fun K x x st f fd/\mg x=some (.ref f)
theorem def_mk {K:PySem.W.Frag} {mg:Str->Option Value} {h:Heap} {x:Str} {st:Stmt} {f:Addr} {oc:Value} {od an:Option Addr} {osl:Array (Option Value)} {kV doc pm cdv ct:Value} (X:K.In h) (G:h.Ns mainGlobals mg)
  (a:PySem.W.nsIn K mainGlobals x=some (some (.ref f)))
  (l:K.lookup f=some ⟨oc,od,.func (PySem.W.fnOf x x (defArgs st) (defBody st) (defScope st) .none kV doc pm an cdv ct),osl⟩)
  (c:PySem.W.codeIn K cdv x=true) (k:PySem.W.keepIn K (.ref f)=true):DefAt K mg x st:=⟨f,_,zgh l c k,PySem.W.mg_of X G a⟩
theorem int_mk {K:PySem.W.Frag} {mg:Str->Option Value} {h:Heap} {x:Str} {i:Int} {t:Tok} (X:K.In h) (G:h.Ns mainGlobals mg) (a:PySem.W.nsIn K mainGlobals x=some (some (.int i t))):∃ t,mg x=some (.int i t):=⟨t,PySem.W.mg_of X G a⟩
section
variable {P:Program} {w:World} {K:PySem.W.Frag} {mg:Str->Option Value} {base:Heap}
theorem DefAt.callee {x:Str} {st:Stmt} {N ps:List Str} {k:Nat} {sp:Sp} (D:DefAt K mg x st) (S:FnScope N ps (defScope st))
  (hb:∀ (kV doc pm:Value) (an:Option Addr) (cdv ct:Value) (us:List Value),us.length=ps.length->bindArgs (PySem.W.fnOf x x (defArgs st) (defBody st) (defScope st) .none kV doc pm an cdv ct) ⟨us,[]⟩=pure (ps.zip us))
  (len:∀ vs H Q E,sp vs H Q E->vs.length=ps.length)
  (hbody:∀ (f:Addr) (cdv:Value) (A:Around) (outer:List Env) (s:Shared) (H:Hp) (vs:List V) (Q:VK) (E:XK),Room k (A.deeper (envOfC x (defScope st) s.heap.objs.size f cdv))->sp vs H Q E ->
   ∃ t,PSs (cxOf CX0 P w K mg base N x (defScope st) f cdv A outer s H E).nox (defBody st) t/\t { nx:=fun _ H'=>Q .non H',rt:=Q } (start N vs) H):Callee P w K mg base x (k + 1) ps sp:=by
 obtain ⟨f,fd,F,m⟩:=D.ex
 obtain ⟨oc,od,kV,doc,pm,an,cdv,ct,osl,e,lk,hcd⟩:=id F.ex
 exact ⟨f,fd,F.ok S len (fun cdv A outer s H vs Q E hr h=>hbody f cdv A outer s H vs Q E hr h),m,F.kp,F.binds hb,_,lk,rfl⟩
end
section
variable {X:Cx} {x:Str} {k:Nat} {ps:List Str} {sp:Sp} {p pos:Pos} {e:Expr} {es:List Expr} {t:TA}
theorem zaA (C:Callee X.prog X.w X.K X.mg X.base x k ps sp) (hr:Room k X.A) (hg:Gl X x) (ha:PA X (e :: es) t) (hdb:(x == ("__debug__" : Str))=false:=by decide)
  (he:starEach (e :: es) X.env=(false,eval e X.env) :: starEach es X.env:=by rfl) (hpl:(backTo pos (starEach es X.env)).any (·.1)=false:=by rfl):PE X (.Call (.Name x p) (e :: es) [] pos) (tCall sp [] E0 t):=by
 obtain ⟨f,fd,F,hm,hk,hb,_⟩:=C.ex
 exact zf3 F hr hg hm hk hb .nil zd7 ha hdb he hpl
end
structure Bn (mg:Str->Option Value):Prop where
 n_len:mg "len" = none
 n_all:mg "all" = none
 n_any:mg "any" = none
 n_max:mg "max" = none
 n_min:mg "min" = none
 n_sum:mg "sum" = none
 n_sorted:mg "sorted" = none
 n_isinstance:mg "isinstance" = none
 n_int:mg "int" = none
 n_bool:mg "bool" = none
 n_str:mg "str" = none
 n_list:mg "list" = none
 n_tuple:mg "tuple" = none
 n_dict:mg "dict" = none
 n_set:mg "set" = none
 n_range:mg "range" = none
 n_reversed:mg "reversed" = none
 n_repr:mg "repr" = none
 n_abs:mg "abs" = none
 n_enumerate:mg "enumerate" = none
 n_zip:mg "zip" = none
theorem bn_mk {K:PySem.W.Frag} {mg:Str->Option Value} {h:Heap} (X:K.In h) (G:h.Ns mainGlobals mg)
  (a_len:PySem.W.nsIn K mainGlobals "len" = some none)
  (a_all:PySem.W.nsIn K mainGlobals "all" = some none)
  (a_any:PySem.W.nsIn K mainGlobals "any" = some none)
  (a_max:PySem.W.nsIn K mainGlobals "max" = some none)
  (a_min:PySem.W.nsIn K mainGlobals "min" = some none)
  (a_sum:PySem.W.nsIn K mainGlobals "sum" = some none)
  (a_sorted:PySem.W.nsIn K mainGlobals "sorted" = some none)
  (a_isinstance:PySem.W.nsIn K mainGlobals "isinstance" = some none)
  (a_int:PySem.W.nsIn K mainGlobals "int" = some none)
  (a_bool:PySem.W.nsIn K mainGlobals "bool" = some none)
  (a_str:PySem.W.nsIn K mainGlobals "str" = some none)
  (a_list:PySem.W.nsIn K mainGlobals "list" = some none)
  (a_tuple:PySem.W.nsIn K mainGlobals "tuple" = some none)
  (a_dict:PySem.W.nsIn K mainGlobals "dict" = some none)
  (a_set:PySem.W.nsIn K mainGlobals "set" = some none)
  (a_range:PySem.W.nsIn K mainGlobals "range" = some none)
  (a_reversed:PySem.W.nsIn K mainGlobals "reversed" = some none)
  (a_repr:PySem.W.nsIn K mainGlobals "repr" = some none)
  (a_abs:PySem.W.nsIn K mainGlobals "abs" = some none)
  (a_enumerate:PySem.W.nsIn K mainGlobals "enumerate" = some none)
  (a_zip:PySem.W.nsIn K mainGlobals "zip" = some none)
  : Bn mg:=⟨PySem.W.mg_none_of X G a_len,PySem.W.mg_none_of X G a_all,PySem.W.mg_none_of X G a_any,PySem.W.mg_none_of X G a_max,PySem.W.mg_none_of X G a_min,PySem.W.mg_none_of X G a_sum,PySem.W.mg_none_of X G a_sorted,PySem.W.mg_none_of X G a_isinstance,PySem.W.mg_none_of X G a_int,PySem.W.mg_none_of X G a_bool,PySem.W.mg_none_of X G a_str,PySem.W.mg_none_of X G a_list,PySem.W.mg_none_of X G a_tuple,PySem.W.mg_none_of X G a_dict,PySem.W.mg_none_of X G a_set,PySem.W.mg_none_of X G a_range,PySem.W.mg_none_of X G a_reversed,PySem.W.mg_none_of X G a_repr,PySem.W.mg_none_of X G a_abs,PySem.W.mg_none_of X G a_enumerate,PySem.W.mg_none_of X G a_zip⟩
theorem DefAt.entry {P:Program} {w:World} {K:PySem.W.Frag} {mg:Str->Option Value} {x p:Str} {st:Stmt} {k:Nat} {sp:Sp} {fa:Addr} (D:DefAt K mg x st) (hfa:mg x=some (.ref fa))
  (hb:∀ (kV doc pm:Value) (an:Option Addr) (cdv ct v:Value),bindArgs (PySem.W.fnOf x x (defArgs st) (defBody st) (defScope st) .none kV doc pm an cdv ct) ⟨[v],[]⟩=pure [(p,v)])
  (C:∀ base:Heap,Callee P w K mg base x k [p] sp) :
  ∃ fd:FuncData,(∀ (s:Shared) (v:Value),BindsTo s fd ⟨[v],[]⟩ [(p,v)])/\∀ base:Heap,K.In base->base.Ns mainGlobals mg->FnOk P w K mg base CX0 k fa fd [p] sp:=by
 obtain ⟨f,fd,F,m⟩:=D.ex
 rw [m] at hfa
 cases hfa
 obtain ⟨oc,od,kV,doc,pm,an,cdv,ct,osl,rfl,lk,hcd⟩:=F.ex
 refine ⟨_,fun s v => .of_eq (hb kV doc pm an cdv ct v),fun base _ _ => ?_⟩
 obtain ⟨f',fd',G,m',_,_,o,lo,ed⟩:=(C base).ex
 rw [m] at m'
 cases m'
 rw [lk] at lo
 cases lo
 cases ed
 exact G
end L2
namespace L2
open PySem PySem.Spec PyProof.Rows
structure Fly (B:Heap) (l:List Env) (x:Addr) (c fl:Value) (h:Heap):Prop where
 stay:B.StaysIn h
 new:B.get? x=none
 frs:h.FunFrames B l
 obj:∃ (oe:Obj) (vs:Array Value) (T:Addr) (oT:Obj) (ts:Array Value),h.get? x=some oe/\(oe.cls=c/\oe.dict=none)/\oe.data = .fields vs/\vs[1]?=some (.ref T)/\vs[2]?=some .none/\B.get? T=none/\T≠x/\h.get? T=some oT/\oT.data = .fields ts/\ts[3]?=some fl
structure Fresh (B:Heap) (l:List Env) (x:Addr) (c:Value) (h:Heap):Prop where
 stay:B.StaysIn h
 new:B.get? x=none
 frs:h.FunFrames B l
 obj:∃ (oe:Obj) (vs:Array Value),h.get? x=some oe/\(oe.cls=c/\oe.dict=none)/\oe.data = .fields vs/\vs[1]?=some .none/\vs[2]?=some .none
section
variable {M:Model} {A:Around} {E:Value->Shared->Prop} {s:Shared} {B:Heap} {l outer:List Env} {env:Env} {x L:Addr} {c:Value}
theorem dict_mapFields (o:Obj) (f:Array Value->Array Value):(o.mapFields f).dict=o.dict:=by
 unfold Obj.mapFields
 split <;> rfl
theorem zaN {h:Heap} {a b:Addr} {o:Obj} {vs:Array Value} {f:Array Value->Array Value} (ha:h.get? a=some o) (hd:o.data = .fields vs) :
  (h.update a (Obj.mapFields f)).get? a=some (o.mapFields f)/\(b≠a->(h.update a (Obj.mapFields f)).get? b=h.get? b) :=
 ⟨Heap.get?_update_self _ ha (Obj.isFreed_of_fields (Obj.data_mapFields hd f)),fun hb=>Heap.get?_update_other _ _ (Ne.symm hb)⟩
theorem zeF {oe:Obj} {vs:Array Value} {head:Value} {hadNext:Bool} {Q:Unit->Shared->Prop} (hfr:A.frames=some (env :: outer)) (hl:s.heap.FunFrames B (env :: outer)) (hf:env.frame=some L)
  (st:B.StaysIn s.heap) (nx:B.get? x=none) (hx:s.heap.get? x=some oe) (hc:oe.cls=c/\oe.dict=none) (hd:oe.data = .fields vs) (h2:vs[2]?=some .none)
  (k:∀ h',Fly B (env :: outer) x c (rawInt L) h'->s.heap.UpToSlots h'->Q () { s with heap:=h' }) :
  wpAny M A (do let a <- frameOf env; let pl <- entryPlaceOf L hadNext; let b <- EntryCells.newEntry head a .none (rawInt L) .none pl; setField (.ref x) 1 b) Q E s:=by
 have hsz:2 < vs.size:=(Array.getElem?_eq_some_iff.mp h2).1
 have xnf:x ∉ (env :: outer).filterMap (·.frame):=fun hm=>by
  obtain ⟨_,o,ho,hno⟩:=hl.mem hm
  rw [hx] at ho
  cases ho
  exact hno vs hd
 refine wpAny_bind (wpAny_frameOf_fun hfr hl hf fun g1 so=>wpAny_bind (wpAny_entryPlaceOf fun pl hpl => ?_))
 unfold EntryCells.newEntry newFields
 refine wpAny_bind (wpAny_newObj_type ?_ (hpl.sizeOk5 _ _ _ _ _))
 have hx1:g1.get? x=some oe:=(so.2.1 x xnf).trans hx
 have st1:B.StaysIn g1:=fun b o hb=>by
  refine (so.2.1 b fun hm => ?_).trans (st b o hb)
  have:=(hl.mem hm).1
  rw [hb] at this
  cases this
 have big:x < g1.objs.size:=Heap.lt_size hx1
 generalize hnew:({ cls := .type "traceback",dict:=none,data := .fields ([head,.ref L,.none,rawInt L,.none] ++ (if pl.isEmpty then List.replicate 6 Value.none else pl)).toArray }:Obj)=tb
 have hx2:(g1.push tb).get? x=some oe:=Heap.get?_push_of_some tb hx1
 refine wpAny_setField hx2 hd (by omega) (k _ ?_ ?_)
 ·have tx:g1.objs.size≠x:=Nat.ne_of_gt big
  obtain ⟨e1,e2⟩:=zaN (b:=g1.objs.size) (f:=fun a=>a.setIfInBounds 1 (Value.ref g1.objs.size)) hx2 hd
  have hT:(g1.push tb).get? g1.objs.size=some tb:=Heap.get?_push_size g1 (by rw [<- hnew]; rfl)
  refine ⟨fun b o hb => ?_,nx,hl.of_keeps fun b o hb hno => ?_,_,_,g1.objs.size,tb,_,e1,⟨(Obj.cls_mapFields _ _).trans hc.1,(dict_mapFields _ _).trans hc.2⟩,Obj.data_mapFields hd _,(by show (vs.setIfInBounds 1 (Value.ref g1.objs.size))[1]?=_; simp [show 1 < vs.size by omega]),?_,st1.fresh,tx,(e2 tx).trans hT,by rw [<- hnew],?_⟩
  ·obtain ⟨_,e3⟩:=zaN (b:=b) (f:=fun a=>a.setIfInBounds 1 (Value.ref g1.objs.size)) hx2 hd
   refine (e3 fun z => ?_).trans (Heap.get?_push_of_some tb (st1 b o hb))
   rw [z,nx] at hb
   cases hb
  ·have bx:b≠x:=fun z=>by
    rw [z,hx] at hb
    cases hb
    exact hno vs hd
   obtain ⟨sl,hs⟩:=so.2.2 b o hb
   obtain ⟨_,e3⟩:=zaN (b:=b) (f:=fun a=>a.setIfInBounds 1 (Value.ref g1.objs.size)) hx2 hd
   exact ⟨_,(e3 bx).trans (Heap.get?_push_of_some tb hs),rfl⟩
  ·rw [Array.getElem?_setIfInBounds_ne (by decide)]
   exact h2
  ·rcases hpl with rfl | ⟨_,_,_,_,_,_,_,rfl⟩ <;> rfl
 ·intro b o hb hno
  have bx:b≠x:=fun z=>by
   rw [z,hx] at hb
   cases hb
   exact hno vs hd
  obtain ⟨sl,hs⟩:=so.2.2 b o hb
  obtain ⟨_,e3⟩:=zaN (b:=b) (f:=fun a=>a.setIfInBounds 1 (Value.ref g1.objs.size)) hx2 hd
  exact ⟨sl,(e3 bx).trans (Heap.get?_push_of_some tb hs)⟩
theorem zcX {fl:Value} {Q:Unit->Shared->Prop} (F:Fly B l x c fl s.heap) (k:∀ h',Fly B l x c .none h'->s.heap.UpToSlots h'->Q () { s with heap:=h' }):wpAny M A (setFlight (.ref x) none) Q E s:=by
 obtain ⟨oe,vs,T,oT,ts,hx,hc,hd,h1,h2,nT,tx,hT,dT,h3⟩:=F.obj
 have hsz:3 < ts.size:=(Array.getElem?_eq_some_iff.mp h3).1
 unfold setFlight
 refine wpAny_bind (wpAny_field hx hd h1 ?_)
 rw [if_pos (by simp)]
 refine wpAny_setField hT dT hsz (k _ ?_ ?_)
 ·have e:∀ b,b≠T->(s.heap.update T (Obj.mapFields (·.setIfInBounds 3 ((none:Option Addr).elim Value.none fun f=>rawInt f)))).get? b=s.heap.get? b:=fun b hb=>(zaN hT dT).2 hb
  refine ⟨fun b o hb=>(e b fun z => ?_).trans (F.stay b o hb),F.new,F.frs.of_keeps fun b o hb hno=>⟨o,(e b fun z => ?_).trans hb,rfl⟩,oe,vs,T,_,_,(e x (Ne.symm tx)).trans hx,hc,hd,h1,h2,nT,tx,(zaN (b:=T) hT dT).1,Obj.data_mapFields dT _,by simp [hsz]⟩
  ·rw [z,nT] at hb; cases hb
  ·rw [z,hT] at hb; cases hb; exact hno ts dT
 ·intro b o hb hno
  refine ⟨o.slots,((zaN hT dT).2 fun z => ?_).trans hb⟩
  rw [z,hT] at hb; cases hb; exact hno ts dT
theorem zfC {Q:Unit->Shared->Prop} (hfr:A.frames=some (env :: outer)) (hf:env.frame=some L) (F:Fly B (env :: outer) x c .none s.heap)
  (k:∀ h',Fly B (env :: outer) x c (rawInt L) h'->s.heap.UpToSlots h'->Q () { s with heap:=h' }):wpAny M A (noteFrame (.ref x) env) Q E s:=by
 obtain ⟨oe,vs,T,oT,ts,hx,hc,hd,h1,h2,nT,tx,hT,dT,h3⟩:=F.obj
 have hsz:3 < ts.size:=(Array.getElem?_eq_some_iff.mp h3).1
 unfold noteFrame
 simp only [hf]
 refine wpAny_bind (wpAny_field hx hd h1 ?_)
 rw [if_pos (by simp)]
 refine wpAny_bind (wpAny_field hT dT h3 ?_)
 rw [if_neg (by simp [rawInt])]
 refine wpAny_bind (wpAny_setField hT dT hsz ?_)
 have e:∀ b,b≠T->(s.heap.update T (Obj.mapFields (·.setIfInBounds 3 Value.none))).get? b=s.heap.get? b:=fun b hb=>(zaN hT dT).2 hb
 have nf:∀ b o,s.heap.get? b=some o->(∀ vs,o.data ≠ .fields vs)->b≠T:=fun b o hb hno z=>by
  rw [z,hT] at hb; cases hb; exact hno ts dT
 refine zeF hfr (F.frs.of_keeps fun b o hb hno=>⟨o,(e b (nf b o hb hno)).trans hb,rfl⟩) hf (fun b o hb=>(e b fun z => ?_).trans (F.stay b o hb)) F.new ((e x (Ne.symm tx)).trans hx) hc hd h2 fun h' F' u=>k h' F' fun b o hb hno => ?_
 ·rw [z,nT] at hb; cases hb
 ·exact u b o ((e b (nf b o hb hno)).trans hb) hno
theorem fresh_note {Q:Unit->Shared->Prop} (hfr:A.frames=some (env :: outer)) (hf:env.frame=some L) (F:Fresh B (env :: outer) x c s.heap)
  (k:∀ h',Fly B (env :: outer) x c (rawInt L) h'->s.heap.UpToSlots h'->Q () { s with heap:=h' }):wpAny M A (noteFrame (.ref x) env) Q E s:=by
 obtain ⟨oe,vs,hx,hc,hd,h1,h2⟩:=F.obj
 unfold noteFrame
 simp only [hf]
 refine wpAny_bind (wpAny_field hx hd h1 ?_)
 rw [if_neg (by decide)]
 exact zeF hfr F.frs hf F.stay F.new hx hc hd h2 k
theorem Fly.tail {fl:Value} {h:Heap} (F:Fly B (env :: outer) x c fl h):Fly B outer x c fl h:=⟨F.stay,F.new,F.frs.2.2,F.obj⟩
theorem fly_leave {Q:Unit->Shared->Prop} (hfr:A.frames=some (env :: outer)) (hf:env.frame=some L) (F:Fly B (env :: outer) x c .none s.heap)
  (k:∀ h',Fly B outer x c .none h'->s.heap.UpToSlots h'->Q () { s with heap:=h' }):wpAny M A (leaving env (.ref x)) Q E s:=by
 unfold leaving
 exact wpAny_bind (zfC hfr hf F fun h1 F1 u1=>zcX (s:={ s with heap:=h1 }) F1 fun h2 F2 u2=>k h2 F2.tail (u1.trans u2))
theorem fresh_leave {Q:Unit->Shared->Prop} (hfr:A.frames=some (env :: outer)) (hf:env.frame=some L) (F:Fresh B (env :: outer) x c s.heap)
  (k:∀ h',Fly B outer x c .none h'->s.heap.UpToSlots h'->Q () { s with heap:=h' }):wpAny M A (leaving env (.ref x)) Q E s:=by
 unfold leaving
 exact wpAny_bind (fresh_note hfr hf F fun h1 F1 u1=>zcX (s:={ s with heap:=h1 }) F1 fun h2 F2 u2=>k h2 F2.tail (u1.trans u2))
end
end L2
namespace L2
open PySem PySem.Spec PyProof.Rows
section
variable {P:Program} {w:World}
theorem ObjOk.there {H:Hp} {h:Heap} {a:Addr} {o:HO} (x:ObjOk P w H h a o):∃ ob,h.get? a=some ob:=by
 cases o with
 | lst xs=>obtain ⟨_,_,_,_,e⟩:=x; exact ⟨_,e⟩
 | tup xs=>obtain ⟨_,_,_,o,e,_⟩:=x; exact ⟨o,e⟩
 | dK kvs=>obtain ⟨_,_,_,_,o,_,_,e,_⟩:=x; exact ⟨o,e⟩
 | dT kvs=>obtain ⟨_,_,_,_,o,_,_,e,_⟩:=x; exact ⟨o,e⟩
 | set S n=>obtain ⟨o,_,_,_,e,_⟩:=x; exact ⟨o,e⟩
 | ins C dx fs=>obtain ⟨_,_,_,e,_⟩:=x; exact ⟨_,e⟩
 | own y=>exact x
 | xd fs=>obtain ⟨_,⟨o,_,_,e,_⟩,_⟩:=x; exact ⟨o,e⟩
 | rng lo hi=>obtain ⟨_,_,_,e⟩:=x; exact ⟨_,e⟩
 | frz ob u=>obtain ⟨e,_⟩:=x; exact ⟨_,e⟩
 | tbl ps=>exact ⟨_,(show h.get? a=some _ from x)⟩
 | met f y=>exact ⟨_,(show h.get? a=some _ from x)⟩
 | ext φ => obtain ⟨_,e,_⟩:=x; exact e
noncomputable def CX1 (P:Program) (w:World):CXT:=fun outer H s E e s'=>∃ (x:Addr) (c:Value) (B:Heap) (H':Hp),e = .ref x/\Fly B outer x c .none s'.heap/\s'.os=s.os/\AllBare s'.gens/\Un (frs outer) [] H H' s.heap s'.heap/\HOk P w H' s'.heap/\H' x=none /\
 (∀ b o,H' b=some o->∃ ob,B.get? b=some ob)/\(∀ b o,s.heap.get? b=some o->b ∉ frs outer->∃ ob,B.get? b=some ob)/\E c none H'
theorem ze2 {B h h':Heap} {H:Hp} (ok:HOk P w H h) (st:B.StaysIn h) (st':B.StaysIn h') (inB:∀ b o,H b=some o->∃ ob,B.get? b=some ob):HOk P w H h':=fun a o e=>by
 refine (ok a o e).stay (fun b u hb q => ?_) (fun _ q=>q) fun _ _ q=>q
 have ⟨ob,hB⟩:∃ ob,B.get? b=some ob:=by
  rcases hb with z | z
  ·rw [z]; exact inB a o e
  ·exact inB b _ z
 have:=st b ob hB
 rw [q] at this
 cases this
 exact st' b _ hB
theorem zgi {B h0 h h':Heap} {fs:List Addr} {H H':Hp} (u:Un fs [] H H' h0 h) (st:B.StaysIn h) (st':B.StaysIn h') (up:h.UpToSlots h') (inB:∀ b o,h0.get? b=some o->b ∉ fs->∃ ob,B.get? b=some ob)
  (hfs:∀ b∈fs,∀ o,h.get? b=some o->∀ vs,o.data ≠ .fields vs):Un fs [] H H' h0 h' where
 keep:=fun b o e n hb hx=>by
  obtain ⟨ob,hB⟩:=inB b o e hb
  have q:=u.keep b o e n hb hx
  have:=st b ob hB
  rw [q] at this
  cases this
  exact st' b _ hB
 slot:=fun b o e n hb hx=>by
  obtain ⟨sl,q⟩:=u.slot b o e n hb hx
  obtain ⟨sl',q'⟩:=up b _ q (hfs b hb _ q)
  exact ⟨sl',q'⟩
 free:=u.free
 there:=fun b o e hx=>by
  by_cases hb:b∈fs
  ·obtain ⟨o',q⟩:=u.there b o e hx
   obtain ⟨sl,q'⟩:=up b o' q (hfs b hb o' q)
   exact ⟨_,q'⟩
  ·obtain ⟨ob,hB⟩:=inB b o e hb
   exact ⟨ob,st' b ob hB⟩
 tups:=u.tups
 frzs:=u.frzs
 tbls:=u.tbls
theorem zcY {B h:Heap} {l:List Env} (f:h.FunFrames B l):∀ b∈frs l,∀ o,h.get? b=some o->∀ vs,o.data ≠ .fields vs:=fun b hb o e vs=>by
 obtain ⟨_,o',e',hno⟩:=f.mem hb
 rw [e] at e'
 cases e'
 exact hno vs
theorem zdy {X:Cx} {pins:List (Addr×Obj)} {σ : St} {H H':Hp} {s:Shared} {h':Heap} (I:Inv X pins σ H s) (hex:X.ex = []) (u:Un (frs X.stack) [] H H' s.heap h'):Un X.fs [] X.H₀ H' X.s₀.heap h':=by
 have nl:∀ b o,X.s₀.heap.get? b=some o->b≠X.env.locals:=fun b o e=>Nat.ne_of_lt (Nat.lt_of_lt_of_le (Heap.lt_size e) I.ok.above)
 have nst:∀ b o,X.s₀.heap.get? b=some o->b ∉ X.fs->b ∉ frs X.stack:=fun b o e hb z=>(List.mem_cons.mp (I.stkSub b z)).elim (nl b o e) hb
 have B:=I.base
 rw [hex] at B
 refine ⟨fun b o e n hb hx=>u.keep b o (B.keep b o e n hb hx) (B.free b o e n hx) (nst b o e hb) hx,fun b o e n hb hx => ?_,fun b o e n hx => ?_,fun b o e hx => ?_,fun b xs e=>u.tups b xs (B.tups b xs e),fun b o v e=>u.frzs b o v (B.frzs b o v e),fun b ps e => ?_⟩
 ·obtain ⟨sl,e1⟩:=B.slot b o e n hb hx
  obtain ⟨sl',e2⟩:=u.any e1 (B.free b o e n hx) hx
  exact ⟨sl',e2⟩
 ·obtain ⟨o',e1⟩:=B.there b o e hx
  exact u.free b o' e1 (B.free b o e n hx) hx
 ·obtain ⟨o',e1⟩:=B.there b o e hx
  exact u.there b o' e1 hx
 ·obtain ⟨m1,e1⟩:=B.tbls b ps e
  obtain ⟨m2,e2⟩:=u.tbls b _ e1
  exact ⟨m1 ++ m2,by rw [e2,Array.append_assoc]⟩
theorem zca {K:PySem.W.Frag} {mg:Str->Option Value} {base:Heap} {N:List Str} {qual:Str} {scope:Scope} {f:Addr} {cd:Value} {A:Around} {outer:List Env} {s₀ : Shared} {H₀ : Hp} {E:XK} :
  Passes (CX1 P w) (cxOf (CX1 P w) P w K mg base N qual scope f cd A outer s₀ H₀ E) E:=by
 intro pins σ H s e s' I h
 obtain ⟨x,c,B,H',rfl,F,ho,hg,u,ok,nx,inB,old,q⟩:=h
 have hfr:(A.deeper (envOfC qual scope s₀.heap.objs.size f cd)).frames=some (envOfC qual scope s₀.heap.objs.size f cd :: outer):=I.ok.frames
 have ut:Un (frs outer) [] H₀ H' s₀.heap s'.heap:=zdy I rfl u
 have old':∀ b o,s₀.heap.get? b=some o->b ∉ frs outer->∃ ob,B.get? b=some ob:=fun b o e hb=>by
  obtain ⟨o',e1⟩:=I.base.there b o e (by show b ∉ ([]:List Addr); simp)
  refine old b o' e1 fun z => ?_
  rcases List.mem_cons.mp (I.stkSub b z) with z | z
  ·exact absurd (Nat.lt_of_lt_of_le (Heap.lt_size e) I.ok.above) (by rw [z]; exact Nat.lt_irrefl _)
  ·exact hb z
 show wpAny (model P w) _ (leaving _ (.ref x)) _ _ s'
 refine fly_leave hfr rfl F fun h' F' up=>⟨x,c,B,H',rfl,F',(show s'.os=s₀.os from ho.trans I.os),hg,zgi ut F.stay F'.stay up old' (zcY F.tail.frs),ze2 ok F.stay F'.stay inB,nx,inB,old',q⟩
theorem pass_no {X:Cx} {E:XK} (hE:∀ c d H,¬ E c d H):Passes (CX1 P w) X E:=fun _ _ _ _ _ _ _ h=>by
 obtain ⟨_,_,_,_,_,_,_,_,_,_,_,_,_,q⟩:=h
 exact (hE _ _ _ q).elim
theorem za5 {X:Cx}:Passes (CX1 P w) X E0:=pass_no fun _ _ _ h=>h
theorem raise_out {K:PySem.W.Frag} {mg:Str->Option Value} {base:Heap} {N:List Str} {qual:Str} {scope:Scope} {f:Addr} {cd:Value} {A:Around} {outer:List Env} {s₀ : Shared} {H₀ : Hp} {E:XK} {pins:List (Addr×Obj)} {σ : St} {H:Hp} {s s':Shared} {x:Addr} {c:Value} {args:List Value}
  (I:Inv (cxOf (CX1 P w) P w K mg base N qual scope f cd A outer s₀ H₀ E) pins σ H s) (hx:Heap.MadeExcOf s.heap s'.heap x c args) (ho:s'.os=s.os) (hg:AllBare s'.gens) (q:E c none H) :
  (cxOf (CX1 P w) P w K mg base N qual scope f cd A outer s₀ H₀ E).xe (.ref x) s':=by
 have hfr:(A.deeper (envOfC qual scope s₀.heap.objs.size f cd)).frames=some (envOfC qual scope s₀.heap.objs.size f cd :: outer):=I.ok.frames
 have hin:∀ env∈envOfC qual scope s₀.heap.objs.size f cd :: outer,∀ a,env.frame=some a->a∈frs (envOfC qual scope s₀.heap.objs.size f cd :: outer):=fun env he a ha=>List.mem_filterMap.mpr ⟨env,he,ha⟩
 have st:(PySem.W.hideAll s.heap (frs (envOfC qual scope s₀.heap.objs.size f cd :: outer))).StaysIn s'.heap:=fun b o e=>hx.keeps b o (PySem.W.of_hideAll _ e)
 have nx:(PySem.W.hideAll s.heap (frs (envOfC qual scope s₀.heap.objs.size f cd :: outer))).get? x=none:=by
  cases e:(PySem.W.hideAll s.heap (frs (envOfC qual scope s₀.heap.objs.size f cd :: outer))).get? x with
  | none=>rfl
  | some o =>
   have:=PySem.W.of_hideAll _ e
   rw [hx.new] at this
   cases this
 have fr0:s.heap.FunFrames (PySem.W.hideAll s.heap (frs (envOfC qual scope s₀.heap.objs.size f cd :: outer))) (envOfC qual scope s₀.heap.objs.size f cd :: outer):=PySem.W.funFrames_hide I.stack hin
 obtain ⟨t,hobj,_,_⟩:=hx.there
 have F:Fresh (PySem.W.hideAll s.heap (frs (envOfC qual scope s₀.heap.objs.size f cd :: outer))) (envOfC qual scope s₀.heap.objs.size f cd :: outer) x c s'.heap :=
  ⟨st,nx,fr0.of_keeps fun b o hb _=>⟨o,hx.keeps b o hb,rfl⟩,_,_,hobj,⟨rfl,rfl⟩,rfl,rfl,rfl⟩
 have inB:∀ b o,s.heap.get? b=some o->b ∉ frs (envOfC qual scope s₀.heap.objs.size f cd :: outer)->∃ ob,(PySem.W.hideAll s.heap (frs (envOfC qual scope s₀.heap.objs.size f cd :: outer))).get? b=some ob:=fun b o e hb=>⟨o,PySem.W.hideAll_get _ e hb⟩
 have trk:∀ b o,H b=some o->∃ ob,(PySem.W.hideAll s.heap (frs (envOfC qual scope s₀.heap.objs.size f cd :: outer))).get? b=some ob:=fun b o e=>by
  have lt:=I.hok.lt e
  cases e2:s.heap.get? b with
  | none =>
   exfalso
   have ok:=I.hok b o e
   obtain ⟨ob,hob⟩:=ok.there
   rw [e2] at hob
   cases hob
  | some ob =>
   refine inB b ob e2 fun z => ?_
   have:=I.stkFree b z
   rw [e] at this
   cases this
 have old:∀ b o,s₀.heap.get? b=some o->b ∉ frs outer->∃ ob,(PySem.W.hideAll s.heap (frs (envOfC qual scope s₀.heap.objs.size f cd :: outer))).get? b=some ob:=fun b o e hb=>by
  obtain ⟨o',e1⟩:=I.base.there b o e (by show b ∉ ([]:List Addr); simp)
  refine inB b o' e1 fun z => ?_
  rcases List.mem_cons.mp (I.stkSub b z) with z | z
  ·exact absurd (Nat.lt_of_lt_of_le (Heap.lt_size e) I.ok.above) (by rw [z]; exact Nat.lt_irrefl _)
  ·exact hb z
 have u0:Un (frs outer) [] H₀ H s₀.heap s.heap:=zdy I rfl Un.refl
 have u1:Un (frs outer) [] H₀ H s₀.heap s'.heap:=u0.trans (Un.kept hx.keeps)
 have ok1:HOk P w H s'.heap:=I.hok.kept hx.keeps
 have nxH:H x=none:=by
  cases e:H x with
  | none=>rfl
  | some o =>
   obtain ⟨ob,hob⟩:=(I.hok x o e).there
   rw [hx.new] at hob
   cases hob
 show wpAny (model P w) _ (leaving _ (.ref x)) _ _ s'
 exact fresh_leave hfr rfl F fun h' F' up=>⟨x,c,_,H,rfl,F',(show s'.os=s₀.os from ho.trans I.os),hg,zgi u1 F.stay F'.stay up old (zcY F.frs.2.2),ze2 ok1 F.stay F'.stay trk,nxH,trk,old,q⟩
end
end L2
namespace L2
open PySem PySem.Spec PyProof.Rows
theorem entry_unchain:entryFor table "proto.unchain" = some Builtin.«proto.unchain» := entryFor_of_tree (by kernel_rfl)
section
variable {prog:Program} {w:World} {A:Around} {E:Value->Shared->Prop} {s:Shared}
theorem raiseNew_h {α : Type} {x e:Addr} {ox oe:Obj} {vs xs:Array Value} {Q : α -> Shared->Prop} (hh:A.handled=some (.ref e)) (hx:s.heap.get? x=some ox) (dx:ox.data = .fields xs) (hs:2 < xs.size) (ne:e≠x)
  (he:s.heap.get? e=some oe) (de:oe.data = .fields vs) (h2:vs[2]?=some .none)
  (h:E (.ref x) { s with heap:=s.heap.update x (Obj.mapFields (·.setIfInBounds 2 (.ref e))) }):wpAny (model prog w) A (raiseNew (.ref x):Sem α) Q E s:=by
 unfold raiseNew
 refine wpAny_bind (wpAny_handled ?_)
 rw [hh]
 dsimp only
 rw [if_pos (by simpa using ne)]
 refine wpAny_bind (wpAny_holding (wpAny_runValue (codeAny_builtin entry_unchain ?_)))
 unfold Builtin.«proto.unchain»
 dsimp only
 refine wpAny_bind (wpAny_field he de h2 ?_)
 rw [if_pos (by decide)]
 refine wpAny_pure ?_
 dsimp only
 refine wpAny_bind ?_
 unfold updateField
 refine wpAny_bind (wpAny_load hx ?_)
 rw [dx]
 dsimp only
 rw [if_pos hs]
 refine wpAny_update hx ?_
 exact wpAny_throw h
theorem range_end_h {it e:Addr} {oe:Obj} {vs:Array Value} {x left step:Int} {Q:Option Value->Shared->Prop} (hh:A.handled=some (.ref e)) (he:s.heap.get? e=some oe) (de:oe.data = .fields vs) (h2:vs[2]?=some .none)
  (hit:IsRangeIter s.heap it x left step) (hleft:left<=0)
  (hQ:∀ h',Heap.ExtBut it s.heap h'->Q none { s with heap:=h' }):wpAny (model prog w) A (pyNext (.ref it)) Q E s:=by
 have ty:s.TypeIs (.ref it) "range_iterator" := ⟨_,hit,rfl⟩
 unfold pyNext
 refine wpAny_bind (wpAny_attempt (wpAny_callSpecial?_slot (name:=Str.ofString "__next__") ty F.slot_range_iterator_next (wpAny_call_entry F.slot_range_iterator_next ty F.entry_range_iterator_next (?_:wpAny _ _ (field (.ref it) 0 >>= _) _ _ s) (F.args_range_iterator_next_1 _))))
 refine wpAny_bind (wpAny_field hit rfl (x:=rawInt x) rfl (?_:wpAny _ _ (field (.ref it) 1 >>= _) _ _ s))
 refine wpAny_bind (wpAny_field hit rfl (x:=rawInt left) rfl (?_:wpAny _ _ (field (.ref it) 2 >>= _) _ _ s))
 refine wpAny_bind (wpAny_field hit rfl (x:=rawInt step) rfl (?_:wpAny _ _ (if left<=0 then _ else _) _ _ s))
 rw [if_pos hleft]
 refine wpAny_bind (wpAny_rule (wpAny_bind (?_:wpAny _ _ (newExc (.type "StopIteration") [] >>= _) _ _ _)))
 refine wpAny_bind (?_:wpAny _ _ (newTuple [] >>= _) _ _ _)
 simp only [newTuple]
 refine wpAny_bind (wpAny_newObj_type (wpAny_bind (m:=firstArgMember _ _) (wpAny_of_eq (a:=Value.none) (by first | rfl | (simp only [firstArgMember]; rfl)) (wpAny_newObj_type ?_ (by size_fits)))) (by size_fits))
 refine raiseNew_h (A:=A.in1) (e:=e) (oe:=oe) (vs:=vs) (show A.in1.handled=some (.ref e) from hh) (Heap.get?_push_size _ rfl) rfl (by rw [Array.size_append]; exact Nat.lt_of_lt_of_le (show 2 < 6 by decide) (Nat.le_add_right _ _)) ?_ (Heap.get?_push_of_some _ (Heap.get?_push_of_some _ he)) de h2 ?_
 ·rw [Heap.size_push]
  exact Nat.ne_of_lt (Nat.lt_succ_of_lt (Heap.lt_size he))
 ·refine wpAny_bind (wpAny_isInstance (T := "StopIteration") (b:=true) ⟨_,Heap.get?_update_self _ (Heap.get?_push_size _ rfl) rfl,rfl⟩ isSubtype_stop ?_)
  refine wpAny_pure (hQ _ fun b o hb hbo => ?_)
  rw [Heap.get?_update_other _ _ ?_]
  ·exact Heap.get?_push_of_some _ (Heap.get?_push_of_some _ hbo)
  ·rw [Heap.size_push]
   exact Nat.ne_of_gt (Nat.lt_succ_of_lt (Heap.lt_size hbo))
end
noncomputable def QH (e:Addr) (oe:Obj) (Y:Cx):Prop:=Y.A.handled=some (.ref e)/\(e,oe)∈Y.pn/\∃ vs,oe.data = .fields vs/\vs[2]?=some .none
section
variable {X:Cx} {tg:Expr} {e:Addr} {oe:Obj}
theorem QH.comp {scope:Scope} {N:List Str} {cl:List (Str×Addr)} {C:Addr} {s:Shared} {H:Hp} {fp:List Addr} {pins:List (Addr×Obj)} (q:QH e oe X):QH e oe (cxComp X scope N cl C s H fp (X.pn ++ pins)) :=
 ⟨q.1,List.mem_append_left _ q.2.1,q.2.2⟩
theorem range_item_q {it:Addr} {lo:Int} {n i:Nat} {pins:List (Addr×Obj)} {s:Shared} {σ : St} {H:Hp} {E:Value->Shared->Prop} (I:Inv X pins σ H s) (hf:∀ b ∈ [it],FpOk X pins H b)
  (st:IsRangeIter s.heap it (lo + (i:Nat) * 1) ((n:Int) - (i:Nat)) 1) (hg:i < n) :
  wpAny (model X.prog X.w) X.A (pyNext (.ref it)) (fun r s1=>∃ u,r=some u /\
   wpAny (model X.prog X.w) X.A (letOwnedTupleGo tg (.ref it) u) (fun _ s2=>∃ x H',Inv X pins σ H' s2/\RelV x u/\(Itr lo n).yld i H x H'/\IsRangeIter s2.heap it (lo + ((i + 1:Nat):Int) * 1) ((n:Int) - ((i + 1:Nat):Int)) 1/\∀ b ∈ [it],H' b=none) E s1) E s:=by
 obtain ⟨f0,f1,f2,f3,f4,f5⟩:=hf it (by simp)
 refine wpAny_pyNext_range_item st (by omega) fun h' st' sb => ?_
 have I1:Inv X pins σ H { s with heap:=h',toks:=s.toks + 1 }:=I.turned (fun b o hb e=>(sb.2 b hb).trans e) f0 f1 f3 f4 f5
 have st2:IsRangeIter h' it (lo + ((i + 1:Nat):Int) * 1) ((n:Int) - ((i + 1:Nat):Int)) 1:=by
  have e1:lo + ((i + 1:Nat):Int) * 1=lo + (i:Nat) * 1 + 1:=by omega
  have e2:(n:Int) - ((i + 1:Nat):Int)=(n:Int) - (i:Nat) - 1:=by omega
  rw [e1,e2]; exact st'
 refine ⟨_,rfl,zgg (s:={ s with heap:=h',toks:=s.toks + 1 }) (n := "range_iterator") st2 rfl rfl (by decide) ⟨.int (lo + i),H,I1,⟨s.toks,?_⟩,⟨rfl,rfl⟩,st2,fun b hb=>(hf b hb).1⟩⟩
 rw [Int.mul_one]
theorem trn_range {P:Program} {w:World} {K:PySem.W.Frag} (it:Addr) (lo:Int) (n:Nat):Trn P w K (QH e oe) tg (Itr lo n) [it] it (fun i h=>IsRangeIter h it (lo + (i:Nat) * 1) ((n:Int) - (i:Nat)) 1) where
 obj:=fun i h st b hb=>by
  have e:b=it:=by simpa using hb
  subst e
  exact ⟨_,st,fun v z=>by
   have z':Data.fields _=Data.cell v:=z
   cases z'⟩
 keep:=fun i h h' st k=>k it (by simp) _ st
 steps:=fun Y hP hw hK hz=>⟨fun i pins s σ H E I hf st hg=>range_item_q I hf st hg,fun i pins s σ H E I hf st hg=>by
  obtain ⟨hh,hm,vs,de,h2⟩:=hz
  obtain ⟨f0,f1,f2,f3,f4,f5⟩:=hf it (by simp)
  exact range_end_h hh (I.pin (e,oe) (List.mem_append_left _ hm)).1 de h2 st (by have:n<=i:=hg; omega) fun h' eb=>⟨rfl,I.turned (t':=s.toks) (fun b o hb e=>eb b o hb e) f0 f1 f3 f4 f5⟩⟩
 self:=fun _ _ _ _ _ st h=>wpAny_pyIter_rangeiter st h
theorem range_itq {pins:List (Addr×Obj)} {σ : St} {H:Hp} {s:Shared} {R:It->Hp->Prop} {E:Value->Shared->Prop} {lo hi:Int} {t u v:Tok} {tk:Nat} (I:Inv X pins σ H s) (h1 : -(2 ^ 62)<=lo) (h2:lo < 2 ^ 62) (h3 : -(2 ^ 62)<=hi) (h4:hi < 2 ^ 62)
  (q:R (Itr lo (hi - lo).toNat) H):wpAny (model X.prog X.w) X.A (pyIter (.ref s.heap.objs.size)) (PIEq (QH e oe) X pins σ tg R) E { s with heap:=s.heap.push { cls := .type "range",data := .fields #[.int lo t,.int hi u,.int 1 v] },toks:=tk }:=by
 refine wpAny_pyIter_range (IsRange.new ..) (small_one h1 h2 h3 h4) ?_
 have I1:Inv X pins σ H { s with heap:=s.heap.push { cls := .type "range",data := .fields #[.int lo t,.int hi u,.int 1 v] },toks:=tk }:=I.kept fun b o e=>Heap.get?_push_of_some _ e
 refine ⟨(s.heap.push { cls := .type "range",data := .fields #[.int lo t,.int hi u,.int 1 v] }).objs.size,[(s.heap.push { cls := .type "range",data := .fields #[.int lo t,.int hi u,.int 1 v] }).objs.size],_,_,H,rfl,
  I1.kept (t':=tk) fun b o e=>Heap.get?_push_of_some _ e,trn_range _ lo (hi - lo).toNat,?_,fun b hb => ?_,q⟩
 ·have e1:lo + ((0:Nat):Int) * 1=lo:=by simp
  have e2:(((hi - lo).toNat:Nat):Int) - ((0:Nat):Int)=Builtin.Range.rangeSize lo hi 1:=by rw [rangeSize_one]; split <;> omega
  show IsRangeIter _ _ (lo + ((0:Nat):Int) * 1) ((((hi - lo).toNat:Nat):Int) - ((0:Nat):Int)) 1
  rw [e1,e2]
  exact Heap.get?_push_size _ rfl
 ·have e:b=(s.heap.push { cls := .type "range",data := .fields #[.int lo t,.int hi u,.int 1 v] }).objs.size:=by simpa using hb
  subst e
  exact I1.fpOk (Nat.le_refl _) (I1.hok.fresh (Nat.le_refl _))
theorem pi_range1q {a:Expr} {ta:TA} {p pos:Pos} (hg:Gl X "range") (hm:X.mg "range" = none) (ha:PA X [a] ta) (hs:starEach [a] X.env = [(false,eval a X.env)]:=by rfl):PIq (QH e oe) X tg (.Call (.Name "range" p) [a] [] pos) (iRng1 ta):=by
 intro pins s σ H R I h
 refine Call_ (zdm I hg hm boot_range (PyProof.Rows.callWith_type1 (thn (ha pos pins s σ H _ I h) fun us s1 ⟨vs,H1,I1,r1,q1⟩ => ?_) hs rfl))
 obtain ⟨j,e,q1,q2,q⟩:=q1
 subst e
 cases r1 with
 | cons r rr =>
  cases rr
  obtain ⟨t,rfl⟩:=r
  exact call_range_1 (range_itq I1 (by omega) (by omega) q1 q2 (by simpa using q))
end
end L2
namespace L2
open PySem PySem.Spec PyProof.Rows
structure RoomH (k:Nat) (A:Around) (e:Addr):Prop where
 hd:A.handled=some (.ref e)
 dp:A.depth + 3 * k + 5 < recursionLimit
 un:A.units + 16 * k + 200 < cLine
theorem Room.mark {k:Nat} {A:Around} {e:Addr} (r:Room k A):RoomH k (A.mark (some (.ref e))) e:=⟨rfl,r.dp,r.un⟩
theorem RoomH.depth {k:Nat} {A:Around} {e:Addr} (r:RoomH k A e):A.depth < recursionLimit:=by have:=r.dp; omega
structure FnOkH (P:Program) (w:World) (K:PySem.W.Frag) (mg:Str->Option Value) (base:Heap) (e:Addr) (oe:Obj) (k:Nat) (f:Addr) (fd:FuncData) (ps:List Str) (sp:Sp):Prop where
 len:∀ vs H Q E,sp vs H Q E->vs.length=ps.length
 run:∀ (A:Around) (outer:List Env) (s:Shared) (H:Hp) (args:Args) (us:List Value) (vs:List V) (Q:VK),RoomH k A e->Env0 P w K mg base A outer s H->s.heap.get? e=some oe->H e=none->e ∉ frs outer->(∀ v,oe.data ≠ .cell v) ->
  BindsTo s fd args (ps.zip us)->Vals vs us->sp vs H Q E0->codeAny (model P w) A (.call (.ref f) args) (CR CX0 outer P w H s Q E0) s
noncomputable def cxH (P:Program) (w:World) (K:PySem.W.Frag) (mg:Str->Option Value) (base:Heap) (N:List Str) (qual:Str) (scope:Scope) (f:Addr) (cd:Value) (A:Around) (outer:List Env) (s:Shared) (H:Hp) (e:Addr) (oe:Obj):Cx :=
 { cxOf CX0 P w K mg base N qual scope f cd A outer s H E0 with calm:=false,pn := [(e,oe)],xe:=fun _ _=>False }
theorem cxH_q {P:Program} {w:World} {K:PySem.W.Frag} {mg:Str->Option Value} {base:Heap} {N:List Str} {qual:Str} {scope:Scope} {f:Addr} {cd:Value} {A:Around} {outer:List Env} {s:Shared} {H:Hp} {e:Addr} {oe:Obj} {vs:Array Value}
  (hh:A.handled=some (.ref e)) (de:oe.data = .fields vs) (h2:vs[2]?=some .none):QH e oe (cxH P w K mg base N qual scope f cd A outer s H e oe):=⟨hh,List.mem_singleton.mpr rfl,vs,de,h2⟩
theorem fn_ofH {P:Program} {w:World} {K:PySem.W.Frag} {mg:Str->Option Value} {base:Heap} {e:Addr} {oe:Obj} {k:Nat} {f:Addr} {name qual:Str} {params:Arguments} {body:List Stmt} {scope:Scope} {dV kV doc pm cdv ct oc:Value} {an od:Option Addr}
  {osl:Array (Option Value)} {N ps:List Str} {sp:Sp} (lk:K.lookup f=some ⟨oc,od,.func (PySem.W.fnOf name qual params body scope dV kV doc pm an cdv ct),osl⟩) (hcd:PySem.W.codeIn K cdv qual=true) (S:FnScope N ps scope)
  (len:∀ vs H Q E,sp vs H Q E->vs.length=ps.length)
  (hbody:∀ (A:Around) (outer:List Env) (s:Shared) (H:Hp) (vs:List V) (Q:VK),A.handled=some (.ref e)->sp vs H Q E0 ->
   ∃ t,PSs (cxH P w K mg base N qual scope f cdv A outer s H e oe) body t/\t { nx:=fun _ H'=>Q .non H',rt:=Q } (start N vs) H) :
  FnOkH P w K mg base e oe (k + 1) f (PySem.W.fnOf name qual params body scope dV kV doc pm an cdv ct) ps sp:=by
 refine ⟨len,fun A outer s H args us vs Q hr e0 he hn hne hnc hb r hsp => ?_⟩
 have hl:=len _ _ _ _ hsp
 have KX:K.In s.heap:=e0.mod.kin.keeps fun b o e=>(e0.bs b o e).1
 have lim:s.heap.NoLimit:=e0.mod.nolimit.keeps fun b o e=>(e0.bs b o e).1
 have hkind:∀ y∈ps.zip us,scope.names.lookup y.1=some .local\/(scope.names.lookup y.1=some .cell/\((cellsFrom (s.heap.objs.size + 1) scope.names []).lookup y.1).isSome=true):=fun ⟨n,v⟩ hy=>by
  rcases S.par n (List.of_mem_zip hy).1 with q | q
  ·exact .inl q
  ·exact .inr ⟨q,PySem.W.cellsFrom_some _ _ _ (.inl q)⟩
 refine codeAny_call_function hr.depth (KX _ _ lk) rfl S.co S.gen rfl (PySem.W.codeRec_of KX hcd) (hb _ _ _ _ ?_)
 refine wpAny_newFunctionEnv_cells S.kind hkind fun env hen s1 x => ?_
 subst hen
 refine ⟨lim.keeps x.toInCall.keep,codeAny_func ?_⟩
 obtain ⟨t,ht,hq⟩:=hbody A outer s H vs Q hr.hd hsp
 have I0:Inv (cxOf CX0 P w K mg base N qual scope f cdv { A with handled:=none } outer s H E0) [] (start N vs) H s1 :=
  zeB S rfl ⟨e0.frames,e0.mod,e0.bs,e0.bsz,e0.funs,e0.frf,e0.hok,e0.bare⟩ hl r x
 have I:Inv (cxH P w K mg base N qual scope f cdv A outer s H e oe) [] (start N vs) H s1:=by
  refine ⟨⟨I0.ok.mod,I0.ok.kind,I0.ok.glob,I0.ok.blt,I0.ok.above,I0.ok.inj,I0.ok.has,I0.ok.cab,(fun z=>absurd z Bool.false_ne_true),Around.frames_deeper e0.frames,I0.ok.stk,I0.ok.exf,I0.ok.bs,I0.ok.bsz,I0.ok.noex,I0.ok.exfs,I0.ok.funs,I0.ok.frf⟩,
   I0.os,I0.bare,I0.base,I0.loc,I0.cell,I0.free,I0.freeC,fun p hp => ?_,I0.hok,I0.len⟩
  have e1:p=(e,oe):=by
   rcases List.mem_append.mp hp with z | z
   ·exact List.mem_singleton.mp z
   ·cases z
  subst e1
  exact ⟨x.toInCall.keep _ _ he,hn,Nat.ne_of_lt (Heap.lt_size he),hne,hnc⟩
 refine wpAny_mono (ht [] s1 (start N vs) H _ I hq) (fun fl s' hs => ?_) fun e s' hs=>False.elim hs
 have fin:∀ {σ':St} {H':Hp} {v:V} {u:Value},Inv (cxH P w K mg base N qual scope f cdv A outer s H e oe) [] σ' H' s'->RelV v u->Q v H'->CE outer P w H s Q u s' :=
  fun {σ' H' v u} J rv q=>⟨v,H',J.os,J.bare,J.base,J.hok,rv,q⟩
 cases fl with
 | ret u =>
  obtain ⟨v,σ',H',J,rv,q⟩:=hs
  exact fin J rv q
 | next =>
  obtain ⟨σ',H',J,q⟩:=hs
  exact fin (v:=V.non) (u:=Value.none) J rfl q
 | brk =>
  obtain ⟨_,_,_,q⟩:=hs
  exact False.elim q
 | cont =>
  obtain ⟨_,_,_,q⟩:=hs
  exact False.elim q
section
variable {X:Cx} {k:Nat} {f:Addr} {fd:FuncData} {ps:List Str} {sp:Sp} {x:Str} {p pos:Pos} {ex:Expr} {es:List Expr} {t:TA} {e:Addr} {oe:Obj}
theorem pe_callH (F:FnOkH X.prog X.w X.K X.mg X.base e oe k f fd ps sp) (hr:RoomH k X.A e) (hp:(e,oe)∈X.pn) (hgd:e ∉ frs X.stack) (hg:Gl X x) (hm:X.mg x=some (.ref f)) (hk:PySem.W.keepIn X.K (.ref f)=true) (hb:Binds X.K fd ps [])
  (ha:PA X (ex :: es) t) (hdb:(x == ("__debug__" : Str))=false:=by decide) (he:starEach (ex :: es) X.env=(false,eval ex X.env) :: starEach es X.env:=by rfl) (hpl:(backTo pos (starEach es X.env)).any (·.1)=false:=by rfl) :
  PE X (.Call (.Name x p) (ex :: es) [] pos) (tCall sp [] E0 t):=by
 intro pins s σ H Q I h
 refine wpAny_Call_Name_kw (zcJ I hg hm ?_ hdb)
 refine PySem.W.callWith_K (h₀ := X.base) I.ok.mod.kin hk (thn (ha pos pins s σ H _ I h) fun us s1 ⟨vs,H1,I1,r,q⟩=>⟨I1.kIn,?_⟩) he hpl
 have q':sp vs H1 Q E0:=by simpa using q
 have hl:us.length=ps.length:=by rw [<- r.length]; exact F.len _ _ _ _ q'
 obtain ⟨e1,e2,e3,e4,e5⟩:=I1.pin (e,oe) (List.mem_append_left _ hp)
 have hb':=hb s1 us I1.kIn (by simpa using hl)
 rw [List.append_nil] at hb'
 refine wpAny_call (codeAny_mono (F.run X.A X.stack s1 H1 ⟨us,[]⟩ us vs Q hr I1.env0 e1 e2 hgd e5 hb' r q') fun r s' hq => ?_)
 cases r with
 | error e=>exact False.elim hq
 | ok fl =>
  cases fl with
  | ret u=>exact I1.after hq
  | next=>exact False.elim hq
  | brk=>exact False.elim hq
  | cont=>exact False.elim hq
end
end L2
namespace L2
open PySem PySem.Spec PyProof.Rows
structure Air (P:Program) (w:World) (outer:List Env) (H:Hp) (s:Shared) (E:XK) (B:Heap) (x:Addr) (c:Value) (H':Hp) (fl:Value) (s':Shared):Prop where
 fly:Fly B outer x c fl s'.heap
 os:s'.os=s.os
 bare:AllBare s'.gens
 un:Un (frs outer) [] H H' s.heap s'.heap
 hok:HOk P w H' s'.heap
 nx:H' x=none
 trk:∀ b o,H' b=some o->∃ ob,B.get? b=some ob
 old:∀ b o,s.heap.get? b=some o->b ∉ frs outer->∃ ob,B.get? b=some ob
 e:E c none H'
theorem Air.move {P:Program} {w:World} {outer:List Env} {H:Hp} {s:Shared} {E:XK} {B:Heap} {x:Addr} {c:Value} {H':Hp} {fl fl':Value} {s':Shared} {h':Heap} (a:Air P w outer H s E B x c H' fl s') (F:Fly B outer x c fl' h') (up:s'.heap.UpToSlots h') :
  Air P w outer H s E B x c H' fl' { s' with heap:=h' } :=
 ⟨F,a.os,a.bare,zgi a.un a.fly.stay F.stay up a.old (zcY a.fly.frs),ze2 a.hok a.fly.stay F.stay a.trk,a.nx,a.trk,a.old,a.e⟩
noncomputable def cxTry (X:Cx) (E:XK) (pn:List (Addr×Obj)):Cx :=
 { X with pn:=pn,xe:=fun e s'=>∃ pins σ H s,Inv { X with pn:=pn,xe:=fun _ _=>False } pins σ H s/\CX1 X.prog X.w X.stack H s E e s' }
noncomputable def cxHand (X:Cx) (x:Addr) (ox:Obj) (pn:List (Addr×Obj)):Cx :=
 { X with A:=X.A.mark (some (.ref x)),calm:=false,pn:=(x,ox) :: pn,xe:=fun _ _=>False }
section
variable {X:Cx} {pins:List (Addr×Obj)} {σ : St} {H:Hp} {s:Shared}
theorem zaQ {E:XK} {pn:List (Addr×Obj)}:Passes (CX1 X.prog X.w) (cxTry X E pn) E:=fun pins σ H s e s' I h =>
 ⟨pins,σ,H,s,⟨⟨I.ok.mod,I.ok.kind,I.ok.glob,I.ok.blt,I.ok.above,I.ok.inj,I.ok.has,I.ok.cab,I.ok.hd,I.ok.frames,I.ok.stk,I.ok.exf,I.ok.bs,I.ok.bsz,I.ok.noex,I.ok.exfs,I.ok.funs,I.ok.frf⟩,I.os,I.bare,I.base,I.loc,I.cell,I.free,I.freeC,I.pin,I.hok,I.len⟩,h⟩
theorem Inv.other {A:Around} {cm:Bool} {pn:List (Addr×Obj)} {xe:Value->Shared->Prop} {pins':List (Addr×Obj)} (I:Inv X pins σ H s) (hf:A.frames=X.A.frames) (hd:cm=true->A.handled=none)
  (hp:∀ p∈pn ++ pins',s.heap.get? p.1=some p.2/\H p.1=none/\p.1≠X.env.locals/\p.1 ∉ X.fs/\∀ v,p.2.data ≠ .cell v):Inv { X with A:=A,calm:=cm,pn:=pn,xe:=xe } pins' σ H s :=
 ⟨⟨I.ok.mod,I.ok.kind,I.ok.glob,I.ok.blt,I.ok.above,I.ok.inj,I.ok.has,I.ok.cab,hd,hf.trans I.ok.frames,I.ok.stk,I.ok.exf,I.ok.bs,I.ok.bsz,I.ok.noex,I.ok.exfs,I.ok.funs,I.ok.frf⟩,I.os,I.bare,I.base,I.loc,I.cell,I.free,I.freeC,hp,I.hok,I.len⟩
theorem Inv.lost {h':Heap} {m':Str->Option Value} {t':Nat} (I:Inv X pins σ H s) (hn':h'.Ns X.env.locals m') (hs:Heap.SameBut X.env.locals s.heap h'):Inv X pins (List.replicate X.N.length none) H { s with heap:=h',toks:=t' }:=by
 obtain ⟨m,hn,hl⟩:=id I.loc
 obtain ⟨oL,_,_,hoL,_⟩:=id hn
 refine ⟨I.ok,I.os,I.bare,⟨fun b o e n hb hx => ?_,fun b o e n hb hx => ?_,I.base.free,fun b o e hx => ?_,I.base.tups,I.base.frzs,I.base.tbls⟩,⟨m',hn',fun j y v' e1 e2 e3 => ?_⟩,fun y c e => ?_,I.free,I.freeC,fun p hp => ?_,fun b ob e => ?_,by simp⟩
 ·exact (hs.2 b (Nat.ne_of_lt (Nat.lt_of_lt_of_le (Heap.lt_size e) I.ok.above))).trans (I.base.keep b o e n hb hx)
 ·obtain ⟨sl,e1⟩:=I.base.slot b o e n hb hx
  exact ⟨sl,(hs.2 b (Nat.ne_of_lt (Nat.lt_of_lt_of_le (Heap.lt_size e) I.ok.above))).trans e1⟩
 ·obtain ⟨o',e1⟩:=I.base.there b o e hx
  exact ⟨o',(hs.2 b (Nat.ne_of_lt (Nat.lt_of_lt_of_le (Heap.lt_size e) I.ok.above))).trans e1⟩
 ·rw [List.getElem?_replicate] at e2
  split at e2 <;> cases e2
 ·obtain ⟨w',z⟩:=I.cell y c e
  exact ⟨w',z.sameBut hs (I.cne y c e)⟩
 ·obtain ⟨e,n,ne,nf,d⟩:=I.pin p hp
  exact ⟨(hs.2 p.1 ne).trans e,n,ne,nf,d⟩
 ·refine (I.hok b ob e).stay (fun c w' hc q=>(hs.2 c ?_).trans q) (fun _ q=>q) fun _ _ q=>q
  intro hcl
  rw [hcl] at hc
  rcases hc with z | z
  ·rw [<- z,I.free] at e; cases e
  ·rw [I.free] at z; cases z
noncomputable def tTry (X:Cx) (CE:Value) (i:Nat) (tb:XK->TS) (th:Addr->Value->TS):TS:=fun D σ H=>∃ E:XK,tb E D σ H /\
 ∀ c H' x,E c none H'->H' x=none->PySem.W.exmOne X.K c CE=some true/\th x c { nx:=fun _ _=>False,rt:=D.rt,bk:=fun _ _=>False,ct:=fun _ _=>False } ((List.replicate X.N.length none).set i (some (.ref x))) H'
theorem ps_try {body:List Stmt} {cn n:Str} {np hpos pos:Pos} {b₀ : Stmt} {suite:List Stmt} {i:Nat} {CE:Value} {tb:XK->TS} {th:Addr->Value->TS} (hst:X.stack=X.env :: X.outer) (hfr:X.env.frame=some X.env.locals) (hN:X.N.Nodup) (hi:X.N[i]?=some n)
  (hl:X.env.scope.names.lookup n=some .local) (hg:Gl X cn) (hm:X.mg cn=some CE)
  (hb:∀ E pn,PSs (cxTry X E pn) body (tb E))
  (hh:∀ x c ox pn vs,ox.cls=c/\ox.dict=none->ox.data = .fields vs->vs[2]?=some .none->x ∉ frs X.stack->PSs (cxHand X x ox pn) (b₀ :: suite) (th x c))
  (hd:(cn == ("__debug__" : Str))=false:=by decide) :
  PS X (.Try body [.ExceptHandler (some (.Name cn np)) (some n) (b₀ :: suite) hpos] [] [] pos) (tTry X CE i tb th):=by
 intro pins s σ H D I h
 obtain ⟨E,hbd,hex⟩:=h
 have I1:Inv (cxTry X E (X.pn ++ pins)) [] σ H s:=I.other rfl I.ok.hd (by rw [List.append_nil]; exact I.pin)
 have back:∀ {σ' H' s'},Inv (cxTry X E (X.pn ++ pins)) [] σ' H' s'->Inv X pins σ' H' s':=fun {σ' H' s'} J =>
  Inv.other (X:=cxTry X E (X.pn ++ pins)) (A:=X.A) (cm:=X.calm) (pn:=X.pn) (xe:=X.xe) J rfl I.ok.hd fun p hp=>J.pin p (List.mem_append_left _ hp)
 refine wpAny_Try_except (wpAny_mono (hb E (X.pn ++ pins) [] s σ H D I1 hbd) (fun f s1 q => ?_) fun e s1 q => ?_)
 ·cases f with
  | next=>obtain ⟨σ',H',J,q⟩:=q; exact wpAny_execs_nil ⟨σ',H',back J,q⟩
  | ret u=>obtain ⟨v,σ',H',J,r,q⟩:=q; exact ⟨v,σ',H',back J,r,q⟩
  | brk=>obtain ⟨σ',H',J,q⟩:=q; exact ⟨σ',H',back J,q⟩
  | cont=>obtain ⟨σ',H',J,q⟩:=q; exact ⟨σ',H',back J,q⟩
 ·obtain ⟨pins',σ',H1,s0,J,x,c,B,H2,rfl,F,ho,hgn,u,ok,nx,inB,old,q⟩:=q
  have a0:Air X.prog X.w (X.env :: X.outer) H1 s0 E B x c H2 .none s1:=hst ▸ ⟨F,ho,hgn,u,ok,nx,inB,old,q⟩
  have hfrm:X.A.frames=some (X.env :: X.outer):=hst ▸ I.ok.frames
  refine zfC hfrm hfr a0.fly fun h1 F1 u1 => ?_
  have a1:=a0.move F1 u1
  refine zcX a1.fly fun h2 F2 u2 => ?_
  have a2:=a1.move F2 u2
  obtain ⟨hE,hth⟩:=hex c H2 x q nx
  have inv2:∀ {fl s'},Air X.prog X.w (X.env :: X.outer) H1 s0 E B x c H2 fl s'->Inv { X with pn:=X.pn ++ pins,xe:=fun _ _=>False } pins' σ' H2 s':=fun {fl s'} a =>
   J.call' a.os (show Un (frs X.stack) [] H1 H2 s0.heap s'.heap by rw [hst]; exact a.un) a.hok a.bare fun b z=>absurd z (by simp)
  have J2:=inv2 a2
  have xo:x ∉ frs X.stack:=fun z=>by
   rw [hst] at z
   obtain ⟨oe,vs,_,_,_,h1,_,h2,_⟩:=a2.fly.obj
   exact zcY a2.fly.frs x z oe h1 vs h2
  have xl:x≠X.env.locals:=fun z=>xo (by rw [hst]; exact List.mem_filterMap.mpr ⟨X.env,List.mem_cons_self,by rw [z]; exact hfr⟩)
  have xf:x ∉ X.fs:=fun z=>xo (by
   rw [hst]
   obtain ⟨y,hy,e⟩:=List.mem_filterMap.mp z
   exact List.mem_filterMap.mpr ⟨y,List.mem_cons_of_mem _ hy,e⟩)
  have J2m:Inv { X with A:=X.A.mark (some (.ref x)),calm:=false,pn := [],xe:=fun _ _=>False } [] σ' H2 { s1 with heap:=h2 }:=J2.other rfl (fun z=>absurd z Bool.false_ne_true) fun p hp=>absurd hp (by simp)
  refine wpAny_handleBy_cons (codeAny_handlers_test (zcJ (X:={ X with A:=X.A.mark (some (.ref x)),calm:=false,pn := [],xe:=fun _ _=>False }) J2m hg hm ?_ hd)) (by intro q; cases q)
  have LT:PySem.W.Looks (model X.prog X.w) h2 (typeOf (.ref x)) c:=by
   obtain ⟨oe,vs,_,_,_,h1,hc,_⟩:=a2.fly.obj
   rw [<- hc.1]
   exact (PySem.W.Looks.ld h1).andThen .now
  refine (PySem.W.exm_one (M:=model X.prog X.w) J2.kIn LT hE).here ?_
  dsimp only
  rw [if_pos rfl]
  refine codeAny_handlers_suite_as ?_
  refine zcX a2.fly fun h3 F3 u3 => ?_
  have a3:=a2.move F3 u3
  have J3:=inv2 a3
  obtain ⟨ox,vs,T,oT,ts,hx,hc,hdx,h1x,h2x,nT,tx,hT,dT,h3x⟩:=a3.fly.obj
  have K3:Inv (cxHand X x ox (X.pn ++ pins)) [] σ' H2 { s1 with heap:=h3 }:=J3.other (A:=X.A.mark (some (.ref x))) (cm:=false) (pn:=(x,ox) :: (X.pn ++ pins)) (xe:=fun _ _=>False) rfl (fun z=>absurd z Bool.false_ne_true) fun p hp=>by
   rw [List.append_nil] at hp
   rcases List.mem_cons.mp hp with z | z
   ·subst z; exact ⟨hx,nx,xl,xf,fun v z=>by rw [hdx] at z; cases z⟩
   ·exact J3.pin p (List.mem_append_left _ z)
  have K3w:=K3.weak (σ':=List.replicate X.N.length none) (by rw [List.length_replicate]; exact K3.len.symm) fun i v e=>by
   rw [List.getElem?_replicate] at e
   split at e <;> cases e
  refine zd0 (X:=cxHand X x ox (X.pn ++ pins)) (v:=V.ref x) K3w hN hi (.inl hl) rfl (fun s4 K4 => ?_) (.inr hl)
  refine wpAny_mono (hh x c ox (X.pn ++ pins) vs hc hdx h2x xo [] s4 _ H2 _ K4 hth) (fun f s5 q5 => ?_) fun _ _ z=>False.elim z
  cases f with
  | next=>obtain ⟨_,_,_,z⟩:=q5; exact False.elim z
  | brk=>obtain ⟨_,_,_,z⟩:=q5; exact False.elim z
  | cont=>obtain ⟨_,_,_,z⟩:=q5; exact False.elim z
  | ret u5 =>
   obtain ⟨v,σ5,H5,K5,r5,q5⟩:=q5
   obtain ⟨m5,hn5,_⟩:=id K5.loc
   refine wpAny_nameGoes (env:=X.env) (show X.env.kindOf n=some .local from hl) hn5 (by rw [I.ok.kind]; rfl) fun h6 m6 hn6 sb6 => ?_
   have K6:=K5.lost (t':=s5.toks + 1) hn6 sb6
   refine ⟨v,List.replicate X.N.length none,H5,?_,r5,q5⟩
   exact Inv.other (X:=cxHand X x ox (X.pn ++ pins)) (A:=X.A) (cm:=X.calm) (pn:=X.pn) (xe:=X.xe) K6 rfl I.ok.hd fun p hp=>K6.pin p (List.mem_append_left _ (List.mem_cons_of_mem _ hp))
end
end L2
namespace L2
open PySem PySem.Spec PyProof.Rows
structure ErrCls (K:PySem.W.Frag) (D:Addr):Prop where
 ga:PySem.W.findIn K (.ref D) "__getattribute__" = some (some (.builtin "BaseException.__getattribute__"))
 gh:PySem.W.findIn K (.ref D) "__getattr__" = some none
 hc:(PySem.W.clsIn K D).isSome=true
 ha:PySem.W.findIn K (.ref D) "__class__" = some (some (.builtin "object.__class__"))
 hn:PySem.W.specialIn K (.builtin "object.__class__") "__get__" = some (some (.builtin "getset_descriptor.__get__"))
 ht:PySem.W.takesIn K (.builtin "object.__class__")=some true
 hm:PySem.W.mroIn K D (.type "object")=some true
 hb:PySem.W.mroIn K D (.type "BaseException")=some true
theorem find_cls {K:PySem.W.Frag} {D:Addr} (E:ErrCls K D) (od:Option Obj):PySem.W.findObj K D od "__class__" = some (.bind (.builtin "getset_descriptor.__get__") (.builtin "object.__class__")):=by
 obtain ⟨cd,hc⟩:=Option.isSome_iff_exists.mp E.hc
 unfold PySem.W.findObj
 rw [hc]
 simp [E.ha,E.hn,E.ht]
section
variable {prog:Program} {w:World} {A:Around} {E:Value->Shared->Prop} {s:Shared} {K:PySem.W.Frag} {x D:Addr} {ox:Obj}
theorem exc_check {M:Model} {nameV:Value} {Q:Unit->Shared->Prop} (Er:ErrCls K D) (X:K.In s.heap) (I:PySem.W.InstAt s.heap x ox D none) (hq:Q () s) :
  wpAny M A (checkBuiltinCall "BaseException.__getattribute__" ⟨[.ref x,nameV],[]⟩) Q E s:=by
 have hk:builtinKind "BaseException.__getattribute__" = some .slot:=by decide +kernel
 have hsplit:splitId "BaseException.__getattribute__" = some ("BaseException","__getattribute__"):=by decide +kernel
 have ha:=F.args_bexc_ga (.ref x) nameV
 have L0:=I.type (M:=M)
 have L1:=PySem.W.looks_mroIn (M:=M) X Er.hb
 have LI:PySem.W.Looks M s.heap (isInstance (.ref x) (.type "BaseException")) true:=L0.andThen L1
 obtain ⟨h,g,d,t,os⟩:=s
 simp only [checkBuiltinCall,hk,hsplit]
 refine wpAny_bind (LI.at ?_)
 repeat (any_goals (first | assumption | wp_step))
theorem exc_entry {tk:Tok} {Q:Fin->Shared->Prop} (Er:ErrCls K D) (X:K.In s.heap) (I:PySem.W.InstAt s.heap x ox D none) (hq:Q (.done (.ret (.ref D))) s) :
  wpAny (model prog w) A (Builtin.«object.__getattribute__» ⟨[.ref x,.str "__class__" tk],[]⟩) Q E s:=by
 obtain ⟨h,g,d,t,os⟩:=s
 have L0:=I.type (M:=model prog w)
 have L1:=PySem.W.looks_find (M:=model prog w) X I (find_cls Er none)
 unfold Builtin.«object.__getattribute__»
 refine wpAny_bind (wpAny_of_eq (a:=(.ref x,[.str "__class__" tk])) (by rfl) ?_)
 dsimp only
 refine wpAny_bind (wpAny_pure (wpAny_bind (L0.at (wpAny_bind (L1.at ?_)))))
 show wpAny _ _ (Builtin.ObjectAttr.bindTo (.builtin "getset_descriptor.__get__") (.builtin "object.__class__") (.ref x) (.ref D)) _ _ _
 unfold Builtin.ObjectAttr.bindTo
 dsimp only
 refine wpAny_bind (wpAny_holding (wpAny_call (PySem.W.class_get (s:=⟨h,g,d,t,os⟩) (ox:=ox) (od:=none) X I Er.hm ?_)))
 exact wpAny_pure hq
theorem exc_call {tk:Tok} {R:Result->Shared->Prop} (Er:ErrCls K D) (X:K.In s.heap) (I:PySem.W.InstAt s.heap x ox D none) (hq:R (.ok (.ret (.ref D))) s) :
  codeAny (model prog w) A (.call (.builtin "BaseException.__getattribute__") ⟨[.ref x,.str "__class__" tk],[]⟩) R s :=
 codeAny_call_builtin F.excAttr_ValueError.ga.plain F.entry_bexc_ga (exc_check Er X I (exc_entry Er X I hq))
theorem exc_class {Q:Option Value->Shared->Prop} (Er:ErrCls K D) (X:K.In s.heap) (I:PySem.W.InstAt s.heap x ox D none) (hq:Q (some (.ref D)) { s with toks:=s.toks + 1 }):wpAny (model prog w) A (getAttr? (.ref x) "__class__") Q E s:=by
 obtain ⟨h,g,d,t,os⟩:=s
 have L0:=I.type (M:=model prog w)
 have L1:=PySem.W.looks_findIn (M:=model prog w) X Er.ga
 have L2:=PySem.W.looks_findIn (M:=model prog w) X Er.gh
 have f3:=F.excAttr_ValueError.ga.bind (.ref x)
 unfold getAttr? getAttrBy? getAttrBy
 refine wpAny_bind (wpAny_mkText (wpAny_bind (wpAny_attempt (wpAny_holding (wpAny_bind (L0.at (wpAny_bind (L1.at ?_))))))))
 have hx2:(onTheHeap (Value.ref D) && Value.builtin "BaseException.__getattribute__" == Value.builtin "object.__getattribute__")=false:=by
  have hx1:(Value.builtin "BaseException.__getattribute__" == Value.builtin "object.__getattribute__")=false:=by decide +kernel
  rw [hx1,Bool.and_false]
 dsimp only
 rw [hx2,if_neg Bool.false_ne_true]
 unfold getAttrByItsOwn hookBefore
 refine wpAny_bind ?_
 rw [if_pos (by rfl)]
 refine L2.at ?_
 refine wpAny_bind (wpAny_attempt (wpAny_holding ?_))
 unfold callGetattribute
 rw [if_neg (by decide)]
 unfold boundAndCalled
 refine wpAny_bind ?_
 rw [f3]
 refine wpAny_pure ?_
 refine wpAny_call (exc_call (s:=⟨h,g,d,t + 1,os⟩) Er X I ?_)
 exact PySem.W.handed_on rfl (wpAny_pure hq)
end
theorem isType_cls {K:PySem.W.Frag} {D:Addr} {M:Model} {h:Heap} (X:K.In h) (hc:(PySem.W.clsIn K D).isSome=true):PySem.W.Looks M h (isType (.ref D)) true:=by
 obtain ⟨cd,hc⟩:=Option.isSome_iff_exists.mp hc
 unfold PySem.W.clsIn at hc
 split at hc
 ·next ho =>
  intro A Q E s k q
  unfold isType loadHead
  exact wpAny_bind (wpAny_loadPart (k _ _ (X _ _ ho)) (wpAny_pure q))
 ·cases hc
theorem kitx_exc {K:PySem.W.Frag} {x D:Addr} {ox:Obj} (Er:ErrCls K D):PySem.W.KitX K (.ref x) (.ref D) (fun h=>PySem.W.InstAt h x ox D none) where
 ty:=fun _ _ _ I=>I.type
 it:=fun _ _ X _=>isType_cls X Er.hc
 ne:=fun h tp dd its n sl X htp=>by
  obtain ⟨cd,hc⟩:=Option.isSome_iff_exists.mp Er.hc
  refine Bool.eq_false_iff.mpr fun q => ?_
  have e:D=tp:=Value.ref.inj (beq_iff_eq.mp q)
  subst e
  unfold PySem.W.clsIn at hc
  split at hc
  ·next ho =>
   have z:=(X _ _ ho).symm.trans htp
   cases z
  ·cases hc
 ca:=fun X I k=>exc_class Er X I k
section
variable {X:Cx}
theorem zaS:CallR X (.builtin "isinstance") (fun xs H Q=>∃ (e C D:Addr) (oe:Obj) (b:Bool),xs = [.ref e,.ref C]/\((e,oe)∈X.pn/\(oe.cls = .ref D/\oe.dict=none)/\∃ vs,oe.data = .fields vs)/\ErrCls X.K D/\PySem.W.kitOne X.K (.ref D) (.ref C)=some b/\Q (.bl b) H):=by
 intro pins s σ H xs us Q I r h
 obtain ⟨e,C,D,oe,b,rfl,⟨hp,⟨hc,hd⟩,vs,hv⟩,Er,hk,q⟩:=h
 obtain ⟨u,u',rfl,ru,ru'⟩:=zgW r
 cases (show u=Value.ref e from ru)
 cases (show u'=Value.ref C from ru')
 have ia:PySem.W.InstAt s.heap e oe D none:=⟨(I.pin (e,oe) (List.mem_append_left _ hp)).1,hc,by unfold PySem.W.notCls; rw [hv],by rw [hd]; trivial⟩
 exact PySem.W.kia_one (kitx_exc (ox:=oe) Er) I.kIn ia hk (fun z=>nomatch z) fun tk=>⟨.bl b,H,I.tok _,rfl,q⟩
end
structure Err (K:PySem.W.Frag) (mg:Str->Option Value) (x:Str) (C:Addr):Prop where
 bound:mg x=some (.ref C)
 exc:PySem.W.excIn K C [.type "ValueError",.type "Exception",.type "BaseException",.type "object"] "ValueError.__new__" = true
theorem err_obj {K:PySem.W.Frag} {h:Heap} {C:Addr} {bmB:List Value} {newId:String} (X:K.In h) (q:PySem.W.excIn K C bmB newId=true) :
  ∃ bm N nm q bs hdct sn sub ab col dd k0 k1 k2 k3 k5 mN,h.get? C=some (excClassObj nm q C N bs bm hdct sn sub ab col dd k0 k1 k2 k3 k5 newId)/\h.Ns N mN/\mN "__init__" = none/\OwnTail h bmB bm:=by
 unfold PySem.W.excIn at q
 split at q
 ·next dd cd sl ho =>
  split at q
  ·next C' bm k0 k1 k2 k3 n k5 hm hs =>
   simp only [Bool.and_eq_true,beq_iff_eq,Bool.not_eq_true'] at q
   obtain ⟨⟨⟨⟨⟨r1,r2⟩,hdel⟩,ht⟩,hok⟩,hni⟩:=q
   subst r1 r2
   cases cd with
   | mk nm bs mro ns qn hd sn sub ab col del =>
    dsimp only at hm hdel hok hni
    subst hm hdel
    cases sl with
    | mk l =>
     simp only at hs
     subst hs
     exact ⟨bm,ns,nm,qn,bs,hd,sn,sub,ab,col,dd,k0,k1,k2,k3,k5,_,X _ _ ho,.of_isNs (PySem.W.isNs_of_in X hok),PySem.W.nsMap_none_of_in X hok hni,PySem.W.tail_of_in X ht⟩
  ·cases q
 ·cases q
noncomputable def tRaise (E:XK) (C:Addr) (ta:TA):TS:=fun _ σ H=>ta σ H fun vs H1=>vs.length<=sizeLine/\E (.ref C) none H1
section
variable {P:Program} {w:World} {K:PySem.W.Frag} {mg:Str->Option Value} {base:Heap} {N:List Str} {qual:Str} {scope:Scope} {f:Addr} {cd:Value} {A:Around} {outer:List Env} {s₀ : Shared} {H₀ : Hp} {E:XK}
theorem zbo {x:Str} {C:Addr} {np cpos pos:Pos} {e:Expr} {es:List Expr} {t:TA} (O:Err K mg x C) (hg:Gl (cxOf (CX1 P w) P w K mg base N qual scope f cd A outer s₀ H₀ E) x)
  (ha:PA (cxOf (CX1 P w) P w K mg base N qual scope f cd A outer s₀ H₀ E) (e :: es) t) (hd:(x == ("__debug__" : Str))=false:=by decide)
  (he:starEach (e :: es) (envOfC qual scope s₀.heap.objs.size f cd)=(false,eval e (envOfC qual scope s₀.heap.objs.size f cd)) :: starEach es (envOfC qual scope s₀.heap.objs.size f cd):=by rfl)
  (hpl:(backTo cpos (starEach es (envOfC qual scope s₀.heap.objs.size f cd))).any (·.1)=false:=by rfl) :
  PS (cxOf (CX1 P w) P w K mg base N qual scope f cd A outer s₀ H₀ E) (.Raise (some (.Call (.Name x np) (e :: es) [] cpos)) none pos) (tRaise E C t):=by
 intro pins s σ H D I h
 obtain ⟨bm,Nn,nm,q,bs,hdct,sn,sub,ab,col,dd,k0,k1,k2,k3,k5,mN,hC,hN,hni,T⟩:=err_obj I.ok.mod.kin O.exc
 refine wpAny_Raise_call_subT (C:=C) (nm:=nm) (q:=q) (N:=Nn) (bs:=bs) (bm:=bm) (hdct:=hdct) (sn:=sn) (sub:=sub) (ab:=ab) (col:=col) (dd:=dd) (k0:=k0) (k1:=k1) (k2:=k2) (k3:=k3) (k5:=k5) (env:=envOfC qual scope s₀.heap.objs.size f cd)
  F.excBase_ValueError (mN:=mN) (T.hasType F.excBase_ValueError.hasBase) (I.ok.hd rfl) ?_ hni (zcJ I hg O.bound ⟨rfl,?_⟩ hd)
 ·rw [he]
  show (false || (backTo cpos (starEach es (envOfC qual scope s₀.heap.objs.size f cd))).any (·.1))=false
  rw [hpl]; rfl
 ·have g:=ha cpos pins s σ H _ I h
  change wpAny _ _ (spliced (backTo cpos (starEach (e :: es) (envOfC qual scope s₀.heap.objs.size f cd)))) _ _ s at g
  rw [he] at g ⊢
  refine Calls.evalArgs_plain (thn g fun us s2 ⟨vs,H1,I1,r,hl,q⟩ => ?_)
  exact ⟨rfl,by rw [<- r.length]; exact hl,I1.bk _ _ hC,hN.keeps I1.bk,T.keeps I1.bk,fun h' x hx=>raise_out I1 hx rfl I1.bare q⟩
end
structure Callee1 (P:Program) (w:World) (K:PySem.W.Frag) (mg:Str->Option Value) (base:Heap) (x:Str) (k:Nat) (ps:List Str) (sp:Sp):Prop where
 ex:∃ f fd,FnOk P w K mg base (CX1 P w) k f fd ps sp/\mg x=some (.ref f)/\PySem.W.keepIn K (.ref f)=true/\Binds K fd ps []
structure MethAt (K:PySem.W.Frag) (C:Addr) (cn m:Str) (st:Stmt):Prop where
 ex:∃ f fd,Fun K m (cn ++ Str.ofString "." ++ m) st f fd/\Meth K C m f
structure Method (P:Program) (w:World) (K:PySem.W.Frag) (mg:Str->Option Value) (base:Heap) (C:Addr) (m:Str) (CX:CXT) (k:Nat) (ps:List Str) (sp:Sp):Prop where
 ex:∃ f fd,FnOk P w K mg base CX k f fd ps sp/\Meth K C m f/\Binds K fd ps []
section
variable {P:Program} {w:World} {K:PySem.W.Frag} {mg:Str->Option Value} {base:Heap}
theorem Fun.ok1 {x qual:Str} {st:Stmt} {f:Addr} {fd:FuncData} {N ps:List Str} {k:Nat} {sp:Sp} (F:Fun K x qual st f fd) (S:FnScope N ps (defScope st)) (len:∀ vs H Q E,sp vs H Q E->vs.length=ps.length)
  (hbody:∀ (cdv:Value) (A:Around) (outer:List Env) (s:Shared) (H:Hp) (vs:List V) (Q:VK) (E:XK),Room k (A.deeper (envOfC qual (defScope st) s.heap.objs.size f cdv))->sp vs H Q E ->
   ∃ t,PSs (cxOf (CX1 P w) P w K mg base N qual (defScope st) f cdv A outer s H E) (defBody st) t/\t { nx:=fun _ H'=>Q .non H',rt:=Q } (start N vs) H):FnOk P w K mg base (CX1 P w) (k + 1) f fd ps sp:=by
 obtain ⟨oc,od,kV,doc,pm,an,cdv,ct,osl,rfl,lk,hcd⟩:=F.ex
 exact zg3 lk hcd S len fun A outer s H vs Q E hr hsp=>hbody cdv A outer s H vs Q E hr hsp
theorem DefAt.callee1 {x:Str} {st:Stmt} {N ps:List Str} {k:Nat} {sp:Sp} (D:DefAt K mg x st) (S:FnScope N ps (defScope st))
  (hb:∀ (kV doc pm:Value) (an:Option Addr) (cdv ct:Value) (us:List Value),us.length=ps.length->bindArgs (PySem.W.fnOf x x (defArgs st) (defBody st) (defScope st) .none kV doc pm an cdv ct) ⟨us,[]⟩=pure (ps.zip us))
  (len:∀ vs H Q E,sp vs H Q E->vs.length=ps.length)
  (hbody:∀ (f:Addr) (cdv:Value) (A:Around) (outer:List Env) (s:Shared) (H:Hp) (vs:List V) (Q:VK) (E:XK),Room k (A.deeper (envOfC x (defScope st) s.heap.objs.size f cdv))->sp vs H Q E ->
   ∃ t,PSs (cxOf (CX1 P w) P w K mg base N x (defScope st) f cdv A outer s H E) (defBody st) t/\t { nx:=fun _ H'=>Q .non H',rt:=Q } (start N vs) H):Callee1 P w K mg base x (k + 1) ps sp:=by
 obtain ⟨f,fd,F,m⟩:=D.ex
 exact ⟨f,fd,F.ok1 S len (fun cdv A outer s H vs Q E hr h=>hbody f cdv A outer s H vs Q E hr h),m,F.kp,F.binds hb⟩
theorem MethAt.meth1 {cn m:Str} {C:Addr} {st:Stmt} {N ps:List Str} {k:Nat} {sp:Sp} (D:MethAt K C cn m st) (S:FnScope N ps (defScope st))
  (hb:∀ (kV doc pm:Value) (an:Option Addr) (cdv ct:Value) (us:List Value),us.length=ps.length->bindArgs (PySem.W.fnOf m (cn ++ Str.ofString "." ++ m) (defArgs st) (defBody st) (defScope st) .none kV doc pm an cdv ct) ⟨us,[]⟩=pure (ps.zip us))
  (len:∀ vs H Q E,sp vs H Q E->vs.length=ps.length)
  (hbody:∀ (f:Addr) (cdv:Value) (A:Around) (outer:List Env) (s:Shared) (H:Hp) (vs:List V) (Q:VK) (E:XK),Room k (A.deeper (envOfC (cn ++ Str.ofString "." ++ m) (defScope st) s.heap.objs.size f cdv))->sp vs H Q E ->
   ∃ t,PSs (cxOf (CX1 P w) P w K mg base N (cn ++ Str.ofString "." ++ m) (defScope st) f cdv A outer s H E) (defBody st) t/\t { nx:=fun _ H'=>Q .non H',rt:=Q } (start N vs) H):Method P w K mg base C m (CX1 P w) (k + 1) ps sp:=by
 obtain ⟨f,fd,F,m⟩:=D.ex
 exact ⟨f,fd,F.ok1 S len (fun cdv A outer s H vs Q E hr h=>hbody f cdv A outer s H vs Q E hr h),m,F.binds hb⟩
theorem MethAt.meth0 {cn m:Str} {C:Addr} {st:Stmt} {N ps:List Str} {k:Nat} {sp:Sp} (D:MethAt K C cn m st) (S:FnScope N ps (defScope st))
  (hb:∀ (kV doc pm:Value) (an:Option Addr) (cdv ct:Value) (us:List Value),us.length=ps.length->bindArgs (PySem.W.fnOf m (cn ++ Str.ofString "." ++ m) (defArgs st) (defBody st) (defScope st) .none kV doc pm an cdv ct) ⟨us,[]⟩=pure (ps.zip us))
  (len:∀ vs H Q E,sp vs H Q E->vs.length=ps.length)
  (hbody:∀ (f:Addr) (cdv:Value) (A:Around) (outer:List Env) (s:Shared) (H:Hp) (vs:List V) (Q:VK) (E:XK),Room k (A.deeper (envOfC (cn ++ Str.ofString "." ++ m) (defScope st) s.heap.objs.size f cdv))->sp vs H Q E ->
   ∃ t,PSs (cxOf CX0 P w K mg base N (cn ++ Str.ofString "." ++ m) (defScope st) f cdv A outer s H E).nox (defBody st) t/\t { nx:=fun _ H'=>Q .non H',rt:=Q } (start N vs) H):Method P w K mg base C m CX0 (k + 1) ps sp:=by
 obtain ⟨f,fd,F,m⟩:=D.ex
 exact ⟨f,fd,F.ok S len (fun cdv A outer s H vs Q E hr h=>hbody f cdv A outer s H vs Q E hr h),m,F.binds hb⟩
end
section
variable {X:Cx} {x m:Str} {k:Nat} {ps:List Str} {sp:Sp} {p pos apos:Pos} {o e:Expr} {es:List Expr} {ta:TE} {t:TA} {E:XK} {C:Addr} {CX:CXT}
theorem zdf (F:Callee1 X.prog X.w X.K X.mg X.base x k ps sp) (hr:Room k X.A) (hx:Passes (CX1 X.prog X.w) X E) (hg:Gl X x) (ha:PA X (e :: es) t) (hdb:(x == ("__debug__" : Str))=false:=by decide)
  (he:starEach (e :: es) X.env=(false,eval e X.env) :: starEach es X.env:=by rfl) (hpl:(backTo pos (starEach es X.env)).any (·.1)=false:=by rfl):PE X (.Call (.Name x p) (e :: es) [] pos) (tCall sp [] E t):=by
 obtain ⟨f,fd,F,hm,hk,hb⟩:=F.ex
 exact zf3 F hr hg hm hk hb .nil hx ha hdb he hpl
theorem zfF {pl:Sem Bool} (he:PE X o ta) (c:Cls X.K C) (F:Method X.prog X.w X.K X.mg X.base C m CX k ps sp) (hr:Room k X.A) (hx:Passes CX X E) (ha:PA X (e :: es) t)
  (hst:starEach (e :: es) X.env=(false,eval e X.env) :: starEach es X.env:=by rfl) (hpl:(backTo pos (starEach es X.env)).any (·.1)=false:=by rfl)
  (ht:eval (.Call (.Attribute o m apos) (e :: es) [] pos) X.env=(do
   let ov <- eval o X.env
   standAt apos.atName
   let (f,first) <- holding [ov] (getMethod ov m pl)
   callWith pos f first (backTo pos (starEach (e :: es) X.env)) (backToKw pos (keywordEach [] X.env))):=by rfl) :
  PE X (.Call (.Attribute o m apos) (e :: es) [] pos) (tMeth C m sp [] E ta t):=by
 obtain ⟨f,fd,F,hm,hb⟩:=F.ex
 exact pe_meth he c hm F hr hb .nil hx ha hst hpl ht
theorem pe_mt0 {pl:Sem Bool} (he:PE X o ta) (c:Cls X.K C) (F:Method X.prog X.w X.K X.mg X.base C m CX k ps sp) (hr:Room k X.A) (hx:Passes CX X E)
  (ht:eval (.Call (.Attribute o m apos) [] [] pos) X.env=(do
   let ov <- eval o X.env
   standAt apos.atName
   let (f,first) <- holding [ov] (getMethod ov m pl)
   callWith pos f first (backTo pos (starEach [] X.env)) (backToKw pos (keywordEach [] X.env))):=by rfl) :
  PE X (.Call (.Attribute o m apos) [] [] pos) (tMeth C m sp [] E ta tNil):=by
 obtain ⟨f,fd,F,hm,hb⟩:=F.ex
 exact pe_meth0 he c hm F hr hb .nil hx ht
end
end L2
namespace L2
open PySem PySem.Spec PyProof.Rows
section
variable {X:Cx}
noncomputable def gLst (K:PySem.W.Frag) (n:Nat) (t:TGs):TG:=fun v σ H Q=>∃ a xs,v = .ref a/\SqL K H a xs/\xs.length=n/\t xs σ H Q
theorem zf1 {es:List Expr} {k:Nat} {t:TGs} {n:Nat} {pos:Pos} (hc:X.calm=true) (h:PGs X es t)
  (hn:(assignEach es X.env).length=n:=by rfl) (hst:(assignEach es X.env).findIdx? (·.1)=none:=by rfl):PG X (.Tuple es k pos) (gLst X.K n t):=by
 intro pins s σ H v u Q I r hw
 obtain ⟨a,xs,e1,hq,hl,hw⟩:=hw
 subst e1
 cases r
 obtain ⟨its,rv,p,hz⟩:=I.list hq
 rw [PyProof.Rows.assign_Tuple]
 refine wpAny_bind (wpAny_standAt ?_)
 unfold unpack
 have hsz:(assignEach es X.env).length=its.toArray.size:=by simp [hn,<- hl,rv.length]
 rw [hsz,hst]
 refine wpAny_bind (wpAny_holding (PySem.W.kun_itemsOf (I.ok.hd hc) p.isList fun h' hx => ?_))
 have I1:Inv X pins σ H { s with heap:=h' }:=I.kept (t':=s.toks) fun b o e=>hx b o (Nat.ne_of_lt (Heap.lt_size e)) e
 exact h pins _ σ H xs _ Q I1 (by simpa using rv) hw
end
mutual
inductive VD (K:PySem.W.Frag) (H:Hp):V->PyData->Prop
 | non:VD K H .non .none
 | bl (b:Bool):VD K H (.bl b) (.bool b)
 | int (i:Int):VD K H (.int i) (.int i)
 | str (x:Str):VD K H (.str x) (.str x)
 | lst {a:Addr} {xs:List V} {ds:List PyData}:SqL K H a xs->VDs K H xs ds->VD K H (.ref a) (.list ds)
 | tup {a:Addr} {xs:List V} {ds:List PyData}:SqT K H a xs->VDs K H xs ds->VD K H (.ref a) (.tuple ds)
inductive VDs (K:PySem.W.Frag) (H:Hp):List V->List PyData->Prop
 | nil:VDs K H [] []
 | cons {x:V} {d:PyData} {xs:List V} {ds:List PyData}:VD K H x d->VDs K H xs ds->VDs K H (x :: xs) (d :: ds)
end
theorem VDs.map {K:PySem.W.Frag} {H:Hp} {α : Type} {f : α -> V} {g : α -> PyData}:∀ {l:List α},(∀ x∈l,VD K H (f x) (g x))->VDs K H (l.map f) (l.map g)
 | [],_ => .nil
 | x :: l,h => .cons (h x List.mem_cons_self) (VDs.map fun y hy=>h y (List.mem_cons_of_mem _ hy))
section
variable {X:Cx} {pins:List (Addr×Obj)} {σ : St} {H:Hp} {s:Shared}
mutual
theorem VD.reads (I:Inv X pins σ H s):∀ {v:V} {d:PyData} {u:Value},VD X.K H v d->RelV v u->∃ as,Reads s.heap u d as
 | _,_,_,.non,r=>by cases r; exact ⟨_,.none⟩
 | _,_,_,.bl b,r=>by cases r; exact ⟨_,.bool b⟩
 | _,_,_,.int i,r=>by obtain ⟨t,rfl⟩:=r; exact ⟨_,.int i t⟩
 | _,_,_,.str x,r=>by obtain ⟨t,rfl⟩:=r; exact ⟨_,.str x t⟩
 | _,_,_,.lst hq hs,r=>by
  cases r
  obtain ⟨its,rv,⟨o,n,e,c,_,d⟩,_⟩:=I.list hq
  obtain ⟨as,ra⟩:=VDs.reads I hs rv
  exact ⟨_,.list e c d (by simpa using ra)⟩
 | _,_,_,.tup hq hs,r=>by
  cases r
  obtain ⟨its,rv,⟨o,e,c,n,d⟩,_⟩:=I.tuple hq
  obtain ⟨as,ra⟩:=VDs.reads I hs rv
  exact ⟨_,.tuple e c d (by simpa using ra)⟩
theorem VDs.reads (I:Inv X pins σ H s):∀ {vs:List V} {ds:List PyData} {us:List Value},VDs X.K H vs ds->Vals vs us->∃ as,ReadsAll s.heap us ds as
 | _,_,_,.nil,r=>by cases r; exact ⟨_,.nil⟩
 | _,_,_,.cons h hs,r=>by
  cases r with
  | cons r rr =>
   obtain ⟨a1,r1⟩:=VD.reads I h r
   obtain ⟨a2,r2⟩:=VDs.reads I hs rr
   exact ⟨_,.cons r1 r2⟩
end
end
section
variable {X:Cx}
noncomputable def rEqD (K:PySem.W.Frag) (neg:Bool):R2:=fun x y H Q=>∃ d e,VD K H x d/\VD K H y e/\SeqAt.shaped d=true/\SeqAt.shaped e=true/\Q (.bl (if neg then !PyData.eqv d e else PyData.eqv d e)) H
theorem zf5 (hu:X.A.units + 64 < cLine):OpR X (compareOp .Eq) (rEqD X.K false):=by
 intro pins s σ H x y v u Q I rx ry h
 obtain ⟨d,e,hd,he,s1,s2,q⟩:=h
 obtain ⟨a1,r1⟩:=hd.reads I rx
 obtain ⟨a2,r2⟩:=he.reads I ry
 exact eq_dataH r1 r2 s1 s2 hu ⟨.bl _,H,I,rfl,q⟩
theorem zf4 (hu:X.A.units + 64 < cLine):OpR X (compareOp .NotEq) (rEqD X.K true):=by
 intro pins s σ H x y v u Q I rx ry h
 obtain ⟨d,e,hd,he,s1,s2,q⟩:=h
 obtain ⟨a1,r1⟩:=hd.reads I rx
 obtain ⟨a2,r2⟩:=he.reads I ry
 exact ne_dataH r1 r2 s1 s2 hu ⟨.bl _,H,I,rfl,q⟩
theorem zem:∀ {xs:List Str} {us:List Value},StrsAre us xs->Vals (xs.map V.str) us
 | _,_,.nil => .nil
 | _,_,.cons _ t r => .cons ⟨t,rfl⟩ (zem r)
theorem zdF {pins:List (Addr×Obj)} {σ : St} {H:Hp} {s:Shared} {Q:VK} {vs:List Value} {out:Array Value} {ys:List V} (I:Inv X pins σ H s) (hl:ys.length<=sizeLine) (r:Vals ys out.toList)
  (q:Q (.ref (s.heap.objs.size + 1)) (upd H (s.heap.objs.size + 1) (.lst ys))):EP X pins σ Q (.ref (s.heap.objs.size + 1)) { s with heap:=sortedAll s.heap vs out }:=by
 obtain ⟨e,he⟩:=sortedAll_at s.heap vs out
 exact ⟨.ref (s.heap.objs.size + 1),_,I.laid (t':=s.toks) (fun b o=>sortedAll_old) (Nat.le_succ _) (show ObjOk X.prog X.w _ _ _ (.lst ys) from ⟨hl,out.toList,e,r,by simpa using he⟩),rfl,q⟩
theorem zcR:CallR X (.builtin "sorted") (fun xs H Q=>∃ (a:Addr) (ns:List Int),xs = [V.ref a]/\SqL X.K H a (ns.map V.int)/\ns.length < 64/\∀ p (ns':List Int),H p=none->ns'.Perm ns->ns'.Pairwise (· <= ·)->Q (.ref p) (upd H p (.lst (ns'.map V.int)))):=by
 intro pins s σ H xs us Q I r h
 obtain ⟨a,ns,rfl,hq,hb,q⟩:=h
 obtain ⟨u,rfl,ru⟩:=zbJ r
 cases ru
 obtain ⟨its,rv,p,hz⟩:=I.list hq
 have hl:ns.length=its.length:=by have:=rv.length; rwa [List.length_map] at this
 refine sorted_ints p.isList (zcV rv) (by omega) fun out ns' a1 a2 a3 => ?_
 exact zdF I (by rw [List.length_map,a2.length_eq]; exact Nat.le_trans (Nat.le_of_lt hb) (by decide)) (zbT a1) (q _ ns' (I.hok.fresh (Nat.le_succ _)) a2 a3)
end
end L2
namespace L2
open PySem PySem.Spec PyProof.Rows
theorem zdz:∀ {l:List Value} {ss:List Str},l.length=ss.length->(∀ (j:Nat) (v:Value) (x:Str),l[j]?=some v->ss[j]?=some x->∃ t,v = .str x t)->StrsAre l ss
 | [],[],_,_ => .nil
 | v :: l,x :: ss,hl,h=>by
  obtain ⟨t,rfl⟩:=h 0 v x rfl rfl
  exact .cons _ _ (zdz (by simpa using hl) fun j u y e1 e2=>h (j + 1) u y (by simpa using e1) (by simpa using e2))
theorem KV.get {κ : Type}:∀ {a:List (κ × V)} {b:List (κ × Value)} {i:Nat} {k : κ} {x:Value},KV a b->b[i]?=some (k,x)->∃ v,a[i]?=some (k,v)/\RelV v x
 | [],_,_,_,_,h,e=>by cases h; simp at e
 | (k',v') :: a,_,i,k,x,h,e=>by
  cases h with
  | cons r rr =>
   cases i with
   | zero =>
    simp at e
    obtain ⟨r1,r2⟩:=r
    simp only at r1
    rw [e] at r1 r2
    exact ⟨v',by rw [r1]; rfl,r2⟩
   | succ i=>exact KV.get (i:=i) rr (by simpa using e)
section
variable {X:Cx}
theorem call_sortedD (hc:X.calm=true):CallR X (.builtin "sorted") (fun xs H Q=>∃ (a:Addr) (kvs:List (Key×V)) (ss:List Str),xs = [V.ref a]/\Rd H a (.dK kvs)/\kvs.map (·.1)=ss.map Sum.inr/\ss.length < 64 /\
  ∀ p (ss':List Str),H p=none->ss'.Perm ss->sortedS ss'=true->Q (.ref p) (upd H p (.lst (ss'.map V.str)))):=by
 intro pins s σ H xs us Q I r h
 obtain ⟨a,kvs,ss,rfl,hq,hk,h64,q⟩:=h
 obtain ⟨u,rfl,ru⟩:=zbJ r
 cases ru
 obtain ⟨hz,lo,vs,kv,hD⟩:=(show ObjOk X.prog X.w H s.heap a (.dK kvs) from hq.ok I.hok)
 obtain ⟨ep,hat⟩:=hD.dictAt
 have hlen:vs.length=ss.length:=by
  have e1:=kv.length
  have e2:=congrArg List.length hk
  rw [List.length_map,List.length_map] at e2
  omega
 have big64:(64:Nat)<=sizeLine:=by decide
 refine Calls.call_function_entry kind_sorted plain_sorted entry_sorted (args_sorted1 _) ?_
 unfold Builtin.«sorted»
 refine wpAny_bind (m:=checkCount "sorted" 1 1 _) (wpAny_pure ?_)
 refine wpAny_bind (PySem.W.kdu_collect (A:=X.A.in1) (PySem.W.kdl_dict (knd:=mixKind X.prog X.w) (kvs:=vs) (ep:=ep) lo) (I.ok.hd hc) hat (by omega) fun h' tk acc hkeep hacc => ?_)
 have hl:acc.toList.length=vs.length:=by rw [Array.length_toList]; exact hacc.1
 have hS:StrsAre acc.toList ss:=by
  refine zdz (by omega) fun j v x e1 e2 => ?_
  obtain ⟨k,y,e3,hk2⟩:=hacc.2 j v (by rw [<- Array.getElem?_toList]; exact e1)
  obtain ⟨v',e4,_⟩:=kv.get e3
  have e5:(kvs.map (·.1))[j]?=some k:=by rw [List.getElem?_map,e4]; rfl
  rw [hk,List.getElem?_map,e2] at e5
  have e6:Sum.inr x=k:=Option.some.inj e5
  subst e6
  rcases zaE (show keyIs (Sum.inr x) v=true from hk2) with ⟨i,t,e,_⟩ | ⟨y,t,e,e7⟩
  ·cases e
  ·cases e; exact ⟨t,e7⟩
 refine wpAny_bind (wpAny_newList ?_ (by rw [hl]; omega))
 have hoL:(h'.push (seqObj "list" acc.toList.toArray 0)).get? h'.objs.size=some (seqObj "list" acc.toList.toArray 0):=Heap.get?_push_size _ rfl
 refine wpAny_bind (wpAny_holding (wpAny_call_entry slot_list_sort ⟨_,hoL,rfl⟩ entry_list_sort (list_sort_treeK strKind_oneLt hoL hS.keysOf (fun v₁ v₂ rest e=>keyKind_strs (by rw [<- e]; exact hS)) (by omega) fun st' hp hs=>⟨_,rfl,?_⟩) (args_list_sort _)))
 obtain ⟨ss',a1,a2,a3⟩:=sorted_out_str hS hp hs
 refine wpAny_pure ⟨_,rfl,?_⟩
 obtain ⟨e,he⟩:=sortedHeap_at (out:=(arrOf st').map (·.2)) hoL
 have I1:Inv X pins σ H { s with heap:=h',toks:=tk }:=I.kept hkeep
 have I2:=Inv.laid (o := .lst (ss'.map V.str)) (a:=h'.objs.size) (h':=sortedHeap (h'.push (seqObj "list" acc.toList.toArray 0)) h'.objs.size acc.toList ((arrOf st').map (·.2))) (t':=tk) I1 (fun b o hb=>by
  have lt:=Heap.lt_size hb
  rw [sortedHeap_old (Nat.ne_of_lt lt) (by rw [Heap.size_push]; exact Nat.lt_succ_of_lt lt)]
  exact Heap.get?_push_of_some _ hb) (Nat.le_refl _) (show ObjOk X.prog X.w _ _ _ (.lst (ss'.map V.str)) from ⟨by rw [List.length_map,a2.length_eq]; omega,_,e,zem a1,by rw [Array.toArray_toList]; exact he⟩)
 exact ⟨.ref h'.objs.size,_,I2,rfl,q _ ss' (I1.hok.fresh (Nat.le_refl _)) a2 a3⟩
end
end L2
namespace L2
open PySem PySem.Spec PyProof.Rows
section
variable {X:Cx} {pins:List (Addr×Obj)} {σ : St} {H:Hp} {s:Shared} {a:Addr} {kvs:List (Key×V)}
end
theorem kV_rel {k:Key} {v:Value} (h:keyIs k v=true):RelV (kV k) v:=by
 rcases zaE h with ⟨i,t,rfl,rfl⟩ | ⟨x,t,rfl,rfl⟩
 ·exact ⟨t,rfl⟩
 ·exact ⟨t,rfl⟩
section
variable {X:Cx} {tg:Expr}
end
end L2
namespace L2
open PySem PySem.Spec PyProof.Rows
structure HCallee (P:Program) (w:World) (K:PySem.W.Frag) (mg:Str->Option Value) (base:Heap) (x:Str) (k:Nat) (ps:List Str) (spf:Addr->Value->Sp):Prop where
 ex:∃ f fd,(∀ (e:Addr) (oe:Obj) (c:Value) (vs:Array Value),oe.cls=c/\oe.dict=none->oe.data = .fields vs->vs[2]?=some .none->FnOkH P w K mg base e oe k f fd ps (spf e c)) /\
  mg x=some (.ref f)/\PySem.W.keepIn K (.ref f)=true/\Binds K fd ps []
theorem DefAt.hcallee {P:Program} {w:World} {K:PySem.W.Frag} {mg:Str->Option Value} {base:Heap} {x:Str} {st:Stmt} {N ps:List Str} {k:Nat} {spf:Addr->Value->Sp} (D:DefAt K mg x st) (S:FnScope N ps (defScope st))
  (hb:∀ (kV doc pm:Value) (an:Option Addr) (cdv ct:Value) (us:List Value),us.length=ps.length->bindArgs (PySem.W.fnOf x x (defArgs st) (defBody st) (defScope st) .none kV doc pm an cdv ct) ⟨us,[]⟩=pure (ps.zip us))
  (len:∀ e c vs H Q E,spf e c vs H Q E->vs.length=ps.length)
  (hbody:∀ (f:Addr) (cdv:Value) (A:Around) (outer:List Env) (s:Shared) (H:Hp) (vs:List V) (Q:VK) (e:Addr) (oe:Obj) (c:Value) (ws:Array Value),oe.cls=c/\oe.dict=none->oe.data = .fields ws->QH e oe (cxH P w K mg base N x (defScope st) f cdv A outer s H e oe)->spf e c vs H Q E0 ->
   ∃ t,PSs (cxH P w K mg base N x (defScope st) f cdv A outer s H e oe) (defBody st) t/\t { nx:=fun _ H'=>Q .non H',rt:=Q } (start N vs) H):HCallee P w K mg base x (k + 1) ps spf:=by
 obtain ⟨f,fd,F,m⟩:=D.ex
 have hbi:=F.binds hb
 obtain ⟨oc,od,kV,doc,pm,an,cdv,ct,osl,rfl,lk,hcd⟩:=id F.ex
 exact ⟨f,_,fun e oe c ws hc hd h2=>fn_ofH lk hcd S (len e c) fun A outer s H vs Q hh h=>hbody f cdv A outer s H vs Q e oe c ws hc hd (cxH_q hh hd h2) h,m,F.kp,hbi⟩
section
variable {X:Cx} {f:Str} {k k':Nat} {ps:List Str} {spf:Addr->Value->Sp} {p pos:Pos} {e:Expr} {es:List Expr} {t:TA} {x:Addr} {c:Value} {ox:Obj} {pn:List (Addr×Obj)} {vs:Array Value}
theorem pe_hand (C:HCallee X.prog X.w X.K X.mg X.base f k ps spf) (hr:Room k' X.A) (hx:x ∉ frs X.stack) (hc:ox.cls=c/\ox.dict=none) (hd:ox.data = .fields vs) (h2:vs[2]?=some .none) (hk:k<=k') (hg:Gl X f)
  (ha:PA (cxHand X x ox pn) (e :: es) t) (hdb:(f == ("__debug__" : Str))=false:=by decide)
  (he:starEach (e :: es) X.env=(false,eval e X.env) :: starEach es X.env:=by rfl) (hpl:(backTo pos (starEach es X.env)).any (·.1)=false:=by rfl):PE (cxHand X x ox pn) (.Call (.Name f p) (e :: es) [] pos) (tCall (spf x c) [] E0 t):=by
 obtain ⟨fa,fd,F,m,kp,hb⟩:=C.ex
 exact pe_callH (X:=cxHand X x ox pn) (F x ox c vs hc hd h2) (Room.mark (hr.mono hk)) List.mem_cons_self hx hg m kp hb ha hdb he hpl
end
structure Maker (P:Program) (w:World) (K:PySem.W.Frag) (mg:Str->Option Value) (base:Heap) (x:Str) (C:Addr) (CX:CXT) (k:Nat) (ps:List Str) (sp:Sp):Prop where
 ex:∃ f fd,Mk K C f/\FnOk P w K mg base CX k f fd ps sp/\mg x=some (.ref C)/\Binds K fd ps []
theorem pe_mk0 {X:Cx} {x:Str} {C:Addr} {CX:CXT} {k:Nat} {ps:List Str} {sp:Sp} {E:XK} {p pos:Pos} (M:Maker X.prog X.w X.K X.mg X.base x C CX k ps sp) (hr:Room (k + 1) X.A) (hx:Passes CX X E) (hg:Gl X x) (hdb:(x == ("__debug__" : Str))=false:=by decide) :
  PE X (.Call (.Name x p) [] [] pos) (tMake C sp [] E tNil):=by
 obtain ⟨f,fd,M,F,m,b⟩:=M.ex
 exact pe_make0 M F hr hg m b .nil hx hdb
section
variable {Y:Cx}
theorem op_in_seq' (K:PySem.W.Frag) (h:Y.K=K):OpR Y (compareOp .In) (rIn K false):=by subst h; exact zdh
theorem op_notIn_seq' (K:PySem.W.Frag) (h:Y.K=K):OpR Y (compareOp .NotIn) (rIn K true):=by subst h; exact zbB
theorem zcz (K:PySem.W.Frag) (h:Y.K=K):IxR Y (rIxL K):=by subst h; exact zaM
theorem zce (K:PySem.W.Frag) (h:Y.K=K):IxR Y (rIxT K):=by subst h; exact zas
end
noncomputable def isStar:Expr->Bool
 | .Starred _ _=>true
 | _=>false
theorem star_cons {e:Expr} (es:List Expr) (env:Env) (h:isStar e=false):starEach (e :: es) env=(false,eval e env) :: starEach es env:=by
 cases e <;> first | rfl | cases h
structure QA (X:Cx) (es:List Expr) (t:TA):Prop where h:PA X es t
structure QE (X:Cx) (e:Expr) (t:TE):Prop where h:PE X e t
section
variable {X:Cx} {e:Expr} {es:List Expr} {te:TE} {t:TA} {pos:Pos}
theorem qe (h:PE X e te):QE X e te:=⟨h⟩
theorem zaC:QA X [] tNil:=⟨zac⟩
theorem zag (ha:QE X e te) (hr:QA X es t) (h:isStar e=false:=by rfl):QA X (e :: es) (tCons te t):=⟨zaa ha.h hr.h (star_cons es X.env h)⟩
theorem zba {k} (h:QA X es t):QE X (.Tuple es k pos) (tTup t):=⟨zbq h.h⟩
theorem zbl (h:QA X es t):QE X (.List es pos) (tLst t):=⟨za0 h.h⟩
end
structure QS (X:Cx) (st:Stmt) (t:TS):Prop where h:PS X st t
structure QSs (X:Cx) (st:List Stmt) (t:TS):Prop where h:PSs X st t
section
variable {X:Cx} {st:Stmt} {rest:List Stmt} {t u:TS} {a b e:Expr} {ta tb te:TE} {pos:Pos}
theorem qs (h:PS X st t):QS X st t:=⟨h⟩
theorem zeS (h:QS X st t):QSs X [st] t:=⟨zaf h.h⟩
theorem qe_ix {r:R2} (hr:IxR X r) (ha:QE X a ta) (hb:QE X b tb) (hs:PlainIx b):QE X (.Subscript a b pos) (tOp r ta tb):=⟨zar hr ha.h hb.h hs⟩
theorem zdu {op:Operator} {r:R2} (ho:OpR X (binaryOp op) r) (ha:QE X a ta) (hb:QE X b tb):QE X (.BinOp a op b pos) (tOp r ta tb):=⟨zav ho ha.h hb.h⟩
theorem zaF (h:QS X st t) (hr:QSs X rest u):QSs X (st :: rest) (tSeq t u):=⟨zae h.h hr.h⟩
theorem qss_cut (h:QS X st t) (hr:QSs X rest u):QSs X (st :: rest) (tCut t u):=⟨zcH h.h hr.h⟩
theorem zfW (h:QE X e te):QS X (.Return (some e) pos) (tRet te):=⟨zaj h.h⟩
theorem za9 {i:Nat} {x:Str} {pos':Pos} (hN:X.N.Nodup) (hi:X.N[i]?=some x) (hx:Loc X.env.scope x) (he:QE X e te) (hs:swapsWith e (some (.Name x pos')) pos.line X.env=pure false:=by rfl) (hf:X.fn x=true\/X.env.scope.names.lookup x=some .local:=by first | exact .inl rfl | exact .inr rfl | assumption) :
  QS X (.Assign [.Name x pos'] e pos) (tAsg te (gName i)):=⟨zau hN hi hx he.h hs hf⟩
end
theorem DefAt.calleeQ {P:Program} {w:World} {K:PySem.W.Frag} {mg:Str->Option Value} {base:Heap} {x:Str} {st:Stmt} {N ps:List Str} {k:Nat} {sp:Sp} (D:DefAt K mg x st) (S:FnScope N ps (defScope st))
  (hb:∀ (kV doc pm:Value) (an:Option Addr) (cdv ct:Value) (us:List Value),us.length=ps.length->bindArgs (PySem.W.fnOf x x (defArgs st) (defBody st) (defScope st) .none kV doc pm an cdv ct) ⟨us,[]⟩=pure (ps.zip us))
  (len:∀ vs H Q E,sp vs H Q E->vs.length=ps.length)
  (hbody:∀ (f:Addr) (cdv:Value) (A:Around) (outer:List Env) (s:Shared) (H:Hp) (vs:List V) (Q:VK) (E:XK),Room k (A.deeper (envOfC x (defScope st) s.heap.objs.size f cdv))->sp vs H Q E ->
   ∃ t,QSs (cxOf CX0 P w K mg base N x (defScope st) f cdv A outer s H E).nox (defBody st) t/\t { nx:=fun _ H'=>Q .non H',rt:=Q } (start N vs) H):Callee P w K mg base x (k + 1) ps sp :=
 D.callee S hb len fun f cdv A outer s H vs Q E hr h=>let ⟨t,q,r⟩:=hbody f cdv A outer s H vs Q E hr h; ⟨t,q.h,r⟩
theorem DefAt.hcalleeQ {P:Program} {w:World} {K:PySem.W.Frag} {mg:Str->Option Value} {base:Heap} {x:Str} {st:Stmt} {N ps:List Str} {k:Nat} {spf:Addr->Value->Sp} (D:DefAt K mg x st) (S:FnScope N ps (defScope st))
  (hb:∀ (kV doc pm:Value) (an:Option Addr) (cdv ct:Value) (us:List Value),us.length=ps.length->bindArgs (PySem.W.fnOf x x (defArgs st) (defBody st) (defScope st) .none kV doc pm an cdv ct) ⟨us,[]⟩=pure (ps.zip us))
  (len:∀ e c vs H Q E,spf e c vs H Q E->vs.length=ps.length)
  (hbody:∀ (f:Addr) (cdv:Value) (A:Around) (outer:List Env) (s:Shared) (H:Hp) (vs:List V) (Q:VK) (e:Addr) (oe:Obj) (c:Value) (ws:Array Value),oe.cls=c/\oe.dict=none->oe.data = .fields ws->QH e oe (cxH P w K mg base N x (defScope st) f cdv A outer s H e oe)->spf e c vs H Q E0 ->
   ∃ t,QSs (cxH P w K mg base N x (defScope st) f cdv A outer s H e oe) (defBody st) t/\t { nx:=fun _ H'=>Q .non H',rt:=Q } (start N vs) H):HCallee P w K mg base x (k + 1) ps spf :=
 D.hcallee S hb len fun f cdv A outer s H vs Q e oe c ws hc hd hq h=>let ⟨t,q,r⟩:=hbody f cdv A outer s H vs Q e oe c ws hc hd hq h; ⟨t,q.h,r⟩
theorem zbm {X:Cx} {x:Str} {C:Addr} {pos:Pos} (hg:Gl X x) (hm:X.mg x=some (.ref C)) (hd:(x == ("__debug__" : Str))=false:=by decide):PE X (.Name x pos) (tC (.ref C)):=zf2 (v := .ref C) hg hm rfl hd
section
variable {K:PySem.W.Frag} {C D CE:Addr} {oc:Value} {od:Option Addr} {cd:ClassData} {sl:Array (Option Value)} {b:Bool}
end
theorem zbi {H:Hp} {p l:Addr} {ys:List V} {o:HO} (h:H l=some (.lst ys)) (n:H p=none):upd H p o l=some (.lst ys):=by rw [zai (zaq h n)]; exact h
theorem Same.lstE {H0 H:Hp} (m:Same H0 H) {o:HO} {p:Addr} (n:H p=none):Same H0 (upd H p o)/\upd H p o p=some o:=⟨m.put (m.free n),zad⟩
end L2
namespace L2
open PySem PySem.Spec PyProof.Rows
theorem zgU {ns:List Int} {k:Int} (h0:0<=k) (h:k < (ns.length:Int)):atI (ns.map V.int) k=some (V.int (ns.getD k.toNat 0)):=by
 have hk:k.toNat < ns.length:=by omega
 have e:((k.toNat:Nat):Int)=k:=by omega
 rw [<- e]
 refine zax ?_
 rw [List.getElem?_map,List.getD_eq_getElem?_getD,Int.toNat_natCast,List.getElem?_eq_getElem hk]
 rfl
theorem getD_big {ns:List Int} {k:Int} (h:¬ k < (ns.length:Int)):ns.getD k.toNat 0=0:=by
 rw [List.getD_eq_getElem?_getD,List.getElem?_eq_none (by omega)]
 rfl
theorem zcF {x:Str}:x.cps.toList.length=x.length:=by simp [Str.length]
theorem zbj:1000<=sizeLine:=by decide
theorem big {n:Nat} (h:n<=1000):n<=sizeLine:=Nat.le_trans h zbj
theorem bigr {n:Nat} (h:Nat.ble n 1000=true):n<=sizeLine:=big (Nat.le_of_ble_eq_true h)
theorem p2:(0:Int) < 2:=by decide
theorem p6:(0:Int) < 6:=by decide
theorem len_app (x y:Str):(x ++ y).length=x.length + y.length:=by
 have:=congrArg List.length (PySem.W.KT.app_list x y)
 rw [List.length_append,zcF,zcF,zcF] at this
 exact this
theorem zec (c:Nat):(⟨#[c]⟩:Str).length=1:=rfl
theorem zgP {a b:Int}:decide (V.int a=V.int b)=decide (a=b):=by
 rw [decide_eq_decide]
 exact ⟨fun h=>by injection h,fun h=>by rw [h]⟩
theorem zbp {i n:Nat} {lo:Int} {x:V} (h:((List.range n).map fun i=>V.int (lo + ((i:Nat):Int)))[i]?=some x):i < n/\x=V.int (lo + ((i:Nat):Int)):=by
 have hi:i < n:=by
  have:=(List.getElem?_eq_some_iff.mp h).1
  simpa using this
 rw [List.getElem?_map,List.getElem?_range hi] at h
 cases h
 exact ⟨hi,rfl⟩
noncomputable def small (c:Nat):Bool:=decide (97<=c) && decide (c<=122)
noncomputable def isName (x:Str):Bool:=(decide (1<=x.length) && decide (x.length<=6)) && x.cps.toList.all small
noncomputable def abc:Str:=Str.ofString "abcdefghijklmnopqrstuvwxyz"
theorem zek:abc.cps.toList=(List.range 26).map (97 + ·):=by decide +kernel
theorem ze9:abc.length=26:=by decide +kernel
theorem abc_at {k:Int} (h0:0<=k) (h:k < 26):∃ c,atI abc.cps.toList k=some c/\small c=true:=by
 have e:((k.toNat:Nat):Int)=k:=by omega
 refine ⟨97 + k.toNat,?_,?_⟩
 ·rw [<- e]
  refine zax ?_
  rw [zek,List.getElem?_map,List.getElem?_range (by omega),Int.toNat_natCast]
  rfl
 ·unfold small
  rw [decide_eq_true (by omega:97<=97 + k.toNat),decide_eq_true (by omega:97 + k.toNat<=122)]
  rfl
theorem zf9 {x:Str} (h1:1<=x.length) (h2:x.length<=6) (h3:x.cps.toList.all small=true):isName x=true:=by
 unfold isName
 rw [decide_eq_true h1,decide_eq_true h2,h3]
 rfl
theorem name_one {c:Nat} (h:small c=true):isName ⟨#[c]⟩=true:=zf9 (by rw [zec]; decide) (by rw [zec]; decide) (by simp [h])
theorem name_len {x:Str} (h:isName x=true):1<=x.length/\x.length<=6:=by
 unfold isName at h
 simp only [Bool.and_eq_true,decide_eq_true_eq] at h
 exact h.1
theorem app_list (x y:Str):(x ++ y).cps.toList=x.cps.toList ++ y.cps.toList:=PySem.W.KT.app_list x y
theorem zea {α : Type} [DecidableEq α]:∀ {l m:List α},l.Nodup->(∀ x∈l,x∈m)->l.length<=m.length
 | [],_,_,_=>Nat.zero_le _
 | x :: l,m,hn,h=>by
  have hx:=h x List.mem_cons_self
  have hn:=List.nodup_cons.mp hn
  have ih:=zea (m:=m.erase x) hn.2 fun y hy=>(List.mem_erase_of_ne (fun z:y=x=>hn.1 (by rw [<- z]; exact hy))).mpr (h y (List.mem_cons_of_mem _ hy))
  have e:=List.length_erase_of_mem hx
  have:=List.length_pos_of_mem hx
  rw [List.length_cons]
  omega
theorem zge (x:Str) (us:List Str):inV (V.str x) (us.map V.str)=decide (x∈us):=by
 unfold inV
 rw [List.any_map,Bool.eq_iff_iff,List.any_eq_true,decide_eq_true_eq]
 constructor
 ·rintro ⟨y,hy,e⟩
  have e':(y == x)=true:=e
  rw [<- eq_of_beq e']; exact hy
 ·intro h
  exact ⟨x,h,beq_self_eq_true x⟩
theorem zeG (us:List Str):(us.map V.str).all flatV=true:=by
 rw [List.all_map,List.all_eq_true]
 intro x _
 rfl
theorem spare_some (us:List Str) (h:us.length<=25):∃ c∈abc.cps.toList,(⟨#[c]⟩:Str) ∉ us:=by
 apply Classical.byContradiction
 intro hn
 have hall:∀ y∈abc.cps.toList.map (fun c=>(⟨#[c]⟩:Str)),y∈us:=fun y hy=>by
  obtain ⟨c,hc,rfl⟩:=List.mem_map.mp hy
  exact Classical.byContradiction fun z=>hn ⟨c,hc,z⟩
 have nd:(abc.cps.toList.map (fun c=>(⟨#[c]⟩:Str))).Nodup:=by
  rw [zek,List.map_map]
  decide +kernel
 have:=zea nd hall
 rw [List.length_map,zcF,ze9] at this
 omega
theorem abc_small {c:Nat} (h:c∈abc.cps.toList):small c=true:=by
 rw [zek] at h
 obtain ⟨i,hi,rfl⟩:=List.mem_map.mp h
 have:=List.mem_range.mp hi
 unfold small
 rw [decide_eq_true (by omega:97<=97 + i),decide_eq_true (by omega:97 + i<=122)]
 rfl
theorem zdo:∀ (ns acc:List Int),(ns.foldl step_dedup acc).length<=acc.length + ns.length/\(acc.Nodup->((ns.foldl step_dedup acc).length=acc.length + ns.length ↔ (acc ++ ns).Nodup))
 | [],acc=>⟨by simp,fun h=>by simp [h]⟩
 | n :: ns,acc=>by
  rw [List.foldl_cons]
  by_cases hm:n∈acc
  ·have e:step_dedup acc n=acc:=by
    unfold step_dedup
    rw [if_pos (List.any_eq_true.mpr ⟨n,hm,by simp⟩)]
   rw [e]
   have ih:=zdo ns acc
   refine ⟨by have:=ih.1; rw [List.length_cons]; omega,fun _=>⟨fun z => ?_,fun z => ?_⟩⟩
   ·have:=ih.1
    rw [List.length_cons] at z
    omega
   ·exact absurd rfl ((List.nodup_append.mp z).2.2 n hm n List.mem_cons_self)
  ·have e:step_dedup acc n=acc ++ [n]:=by
    unfold step_dedup
    rw [if_neg]
    intro z
    obtain ⟨x,hx,ex⟩:=List.any_eq_true.mp z
    have:x=n:=by simpa using ex
    subst this
    exact hm hx
   rw [e]
   have ih:=zdo ns (acc ++ [n])
   rw [List.length_append,List.length_singleton,List.append_assoc] at ih
   refine ⟨by have:=ih.1; rw [List.length_cons]; omega,fun h => ?_⟩
   have hn:(acc ++ [n]).Nodup:=by
    refine List.nodup_append.mpr ⟨h,by simp,fun a ha b hb => ?_⟩
    have:b=n:=by simpa using hb
    subst this
    intro z
    subst z
    exact hm ha
   have:=ih.2 hn
   rw [List.length_cons]
   rw [show acc.length + (ns.length + 1)=acc.length + 1 + ns.length by omega]
   exact this
theorem many_eq (ns:List Int):many ns=(ns.foldl step_dedup []).length:=by
 unfold many firstMet
 congr 2
 apply List.ext_getElem?
 intro i
 rw [List.getElem?_map]
 by_cases h:i < ns.length
 ·rw [List.getElem?_range h]
  simp [List.getD_eq_getElem?_getD,h]
 ·rw [List.getElem?_eq_none (by simpa using h),List.getElem?_eq_none (by simpa using h)]
  rfl
theorem many_nodup (ns:List Int):many ns=ns.length ↔ ns.Nodup:=by
 rw [many_eq]
 have:=(zdo ns []).2 List.nodup_nil
 simpa using this
noncomputable def inR (t:Int):Bool:=decide (0<=t) && decide (t<=7)
noncomputable def areTeeth (ts:List Int):Bool:=decide (0∈ts) && (decide (many ts=ts.length) && ts.all inR)
theorem in_zero (ts:List Int):inV (V.int 0) (ts.map V.int)=decide (0∈ts):=by
 unfold inV
 rw [List.any_map,Bool.eq_iff_iff,List.any_eq_true,decide_eq_true_eq]
 constructor
 ·rintro ⟨x,hx,e⟩
  have:x=0:=by
   have e':(x == 0)=true:=e
   exact eq_of_beq e'
  rw [<- this]; exact hx
 ·intro h
  exact ⟨0,h,rfl⟩
theorem zgj (ts:List Int):(ts.map V.int).all flatV=true:=by
 rw [List.all_map,List.all_eq_true]
 intro x _
 rfl
noncomputable def KindsL (G:Addr->Prop) (H:Hp):List V->List (Str×List Int)->Prop
 | [],[]=>True
 | v :: vs,k :: ks=>(∃ q t,v = .ref q/\H q=some (.lst [.str k.1,.ref t])/\H t=some (.lst (k.2.map V.int))/\G q/\G t)/\KindsL G H vs ks
 | _,_=>False
theorem KindsL.mono {G G':Addr->Prop} {H H':Hp} (s:∀ a o,G a->H a=some o->H' a=some o) (g:∀ a,G a->G' a):∀ {vs:List V} {ks:List (Str×List Int)},KindsL G H vs ks->KindsL G' H' vs ks
 | [],[],_=>trivial
 | _ :: _,_ :: _,⟨⟨q,t,e,h1,h2,g1,g2⟩,r⟩=>⟨⟨q,t,e,s _ _ g1 h1,s _ _ g2 h2,g _ g1,g _ g2⟩,KindsL.mono s g r⟩
 | [],_ :: _,h=>h.elim
 | _ :: _,[],h=>h.elim
theorem KindsL.same {G:Addr->Prop} {H H':Hp} {vs:List V} {ks:List (Str×List Int)} (s:Same H H') (h:KindsL G H vs ks):KindsL G H' vs ks:=h.mono (fun a o _ e=>s a o e) fun _ g=>g
theorem KindsL.upd {G:Addr->Prop} {H:Hp} {p:Addr} {o:HO} {vs:List V} {ks:List (Str×List Int)} (h:KindsL G H vs ks) (n:¬ G p):KindsL G (upd H p o) vs ks:=h.mono (fun a u g e=>by rw [zai (fun z:a=p=>n (by rw [<- z]; exact g))]; exact e) fun _ g=>g
theorem KindsL.snoc {G:Addr->Prop} {H:Hp} {q t:Addr} {k:Str×List Int} (h1:H q=some (.lst [.str k.1,.ref t])) (h2:H t=some (.lst (k.2.map V.int))) (g1:G q) (g2:G t):∀ {vs:List V} {ks:List (Str×List Int)},KindsL G H vs ks->KindsL G H (vs ++ [.ref q]) (ks ++ [k])
 | [],[],_=>⟨⟨q,t,rfl,h1,h2,g1,g2⟩,trivial⟩
 | _ :: _,_ :: _,⟨a,b⟩=>⟨a,KindsL.snoc h1 h2 g1 g2 b⟩
 | [],_ :: _,x=>x.elim
 | _ :: _,[],x=>x.elim
theorem KindsL.length {G:Addr->Prop} {H:Hp}:∀ {vs:List V} {ks:List (Str×List Int)},KindsL G H vs ks->vs.length=ks.length
 | [],[],_=>rfl
 | _ :: _,_ :: _,⟨_,b⟩=>by rw [List.length_cons,List.length_cons,KindsL.length b]
 | [],_ :: _,x=>x.elim
 | _ :: _,[],x=>x.elim
theorem KindsL.get {G:Addr->Prop} {H:Hp}:∀ {vs:List V} {ks:List (Str×List Int)} {i:Nat} {v:V},KindsL G H vs ks->vs[i]?=some v->∃ k q t,ks[i]?=some k/\v = .ref q/\H q=some (.lst [.str k.1,.ref t])/\H t=some (.lst (k.2.map V.int))
 | [],[],_,_,_,e=>by simp at e
 | _ :: _,k :: _,0,_,⟨⟨q,t,e,h1,h2,_⟩,_⟩,z=>by
  simp at z
  subst z
  exact ⟨k,q,t,rfl,e,h1,h2⟩
 | _ :: _,_ :: _,i + 1,_,⟨_,b⟩,z=>by
  obtain ⟨k,q,t,h⟩:=KindsL.get (i:=i) b (by simpa using z)
  exact ⟨k,q,t,by simpa using h⟩
 | [],_ :: _,_,_,x,_=>x.elim
 | _ :: _,[],_,_,x,_=>x.elim
noncomputable def GT (ts:List Int):Prop:=∃ f:Nat->Bool,ts=((List.range 8).filter f).map (fun i=>((i:Nat):Int))/\f 0=true
structure Drawn (G:Addr->Prop) (H:Hp) (vs:List V) (ks:List (Str×List Int)):Prop where
 rows:KindsL G H vs ks
 nd:(ks.map (·.1)).Nodup
 good:∀ k∈ks,isName k.1=true/\GT k.2
theorem Drawn.same {G:Addr->Prop} {H H':Hp} {vs:List V} {ks:List (Str×List Int)} (d:Drawn G H vs ks) (s:Same H H'):Drawn G H' vs ks:=⟨d.rows.same s,d.nd,d.good⟩
theorem Drawn.upd {G:Addr->Prop} {H:Hp} {p:Addr} {o:HO} {vs:List V} {ks:List (Str×List Int)} (d:Drawn G H vs ks) (n:¬ G p):Drawn G (upd H p o) vs ks:=⟨d.rows.upd n,d.nd,d.good⟩
theorem Drawn.any {G:Addr->Prop} {H:Hp} {vs:List V} {ks:List (Str×List Int)} (d:Drawn G H vs ks):Drawn (fun _=>True) H vs ks:=⟨d.rows.mono (fun _ _ _ e=>e) fun _ _=>trivial,d.nd,d.good⟩
theorem Drawn.snoc {G:Addr->Prop} {H:Hp} {vs:List V} {ks:List (Str×List Int)} {q t:Addr} {k:Str×List Int} (d:Drawn G H vs ks) (h1:H q=some (.lst [.str k.1,.ref t])) (h2:H t=some (.lst (k.2.map V.int))) (g1:G q) (g2:G t) (hn:k.1 ∉ ks.map (·.1)) (hk:isName k.1=true/\GT k.2):Drawn G H (vs ++ [.ref q]) (ks ++ [k]):=by
 refine ⟨KindsL.snoc h1 h2 g1 g2 d.rows,?_,fun x hx => ?_⟩
 ·rw [List.map_append]
  refine List.nodup_append.mpr ⟨d.nd,by simp,fun a ha b hb => ?_⟩
  have e:b=k.1:=by simpa using hb
  rw [e]
  exact fun z=>hn (z ▸ ha)
 ·rcases List.mem_append.mp hx with z | z
  ·exact d.good x z
  ·rw [List.mem_singleton.mp z]; exact hk
end L2
namespace L2
open PySem PySem.Spec PyProof.Rows
noncomputable abbrev Combs:=List (Str×List Int)
noncomputable def cGet (cs:Combs) (x:Str):Option (List Int):=(cs.find? fun c=>decide (c.1=x)).map (·.2)
noncomputable def cPut (cs:Combs) (x:Str) (ts:List Int):Combs:=if (cs.any fun c=>decide (c.1=x))=true then cs.map (fun c=>if c.1=x then (c.1,ts) else c) else cs ++ [(x,ts)]
noncomputable def canon (ts:List Int):List Int:=((List.range 8).filter fun i=>decide (((i:Nat):Int)∈ts)).map fun i=>((i:Nat):Int)
theorem zgJ (f:Nat->Bool):(((List.range 8).filter f).map fun i=>((i:Nat):Int)).Pairwise (· < ·):=by
 rw [List.pairwise_map]
 refine List.Pairwise.sublist List.filter_sublist ?_
 refine List.Pairwise.imp ?_ (List.pairwise_lt_range (n:=8))
 intro a b h
 omega
theorem zei (ts:List Int):(canon ts).Pairwise (· < ·):=zgJ _
theorem mem_canon {ts:List Int} {t:Int}:t∈canon ts ↔ t∈ts/\0<=t/\t<=7:=by
 unfold canon
 simp only [List.mem_map,List.mem_filter,List.mem_range,decide_eq_true_eq]
 constructor
 ·rintro ⟨i,⟨hi,hm⟩,rfl⟩
  exact ⟨hm,by omega,by omega⟩
 ·rintro ⟨hm,h0,h7⟩
  refine ⟨t.toNat,⟨by omega,?_⟩,by omega⟩
  rwa [show ((t.toNat:Nat):Int)=t by omega]
theorem zaU {l:List Int} (h:l.Pairwise (· < ·)):l.Nodup:=h.imp fun h=>by omega
theorem zch (ts:List Int):(canon ts).Nodup:=zaU (zei ts)
theorem zbd {a b:List Int} (hp:a.Perm b) (ha:a.Pairwise (· <= ·)) (hb:b.Pairwise (· <= ·)):a=b :=
 hp.eq_of_pairwise (fun x y _ _ h1 h2=>Int.le_antisymm h1 h2) ha hb
theorem zeh {ns ts:List Int} (hp:ns.Perm ts) (hs:ns.Pairwise (· <= ·)) (hn:ts.Nodup) (hr:∀ t∈ts,0<=t/\t<=7):ns=canon ts:=by
 refine zbd (hp.trans ?_) hs ((zei ts).imp fun h=>by omega)
 rw [List.perm_ext_iff_of_nodup hn (zch ts)]
 intro t
 rw [mem_canon]
 exact ⟨fun h=>⟨h,hr t h⟩,fun h=>h.1⟩
theorem ze1 {ts:List Int} (h:GT ts):ts.Pairwise (· < ·):=by
 obtain ⟨f,rfl,_⟩:=h
 exact zgJ f
theorem zdw {ts:List Int} (h:GT ts):∀ t∈ts,0<=t/\t<=7:=by
 obtain ⟨f,rfl,_⟩:=h
 intro t ht
 obtain ⟨i,hi,rfl⟩:=List.mem_map.mp ht
 have:=List.mem_range.mp (List.mem_filter.mp hi).1
 omega
theorem ze0 {ts:List Int} (h:GT ts):(0:Int)∈ts:=by
 obtain ⟨f,rfl,h0⟩:=h
 exact List.mem_map.mpr ⟨0,List.mem_filter.mpr ⟨by decide,h0⟩,rfl⟩
theorem gt_canon {ts:List Int} (h0:(0:Int)∈ts):GT (canon ts):=⟨_,rfl,decide_eq_true h0⟩
theorem gt_eq {ts:List Int} (h:GT ts):canon ts=ts:=by
 symm
 refine zeh (List.Perm.refl _) ((ze1 h).imp fun h=>by omega) (zaU (ze1 h)) (zdw h)
theorem zgf {ts:List Int} (h:GT ts):ts.length<=8:=by
 obtain ⟨f,rfl,_⟩:=h
 rw [List.length_map]
 exact Nat.le_trans (List.length_filter_le _ _) (by simp)
theorem canon_len (ts:List Int):(canon ts).length<=8:=by
 unfold canon
 rw [List.length_map]
 exact Nat.le_trans (List.length_filter_le _ _) (by simp)
theorem inR_iff {t:Int}:inR t=true ↔ 0<=t/\t<=7:=by unfold inR; simp
theorem teeth_iff {ts:List Int}:areTeeth ts=true ↔ (0:Int)∈ts/\ts.Nodup/\∀ t∈ts,0<=t/\t<=7:=by
 unfold areTeeth
 simp only [Bool.and_eq_true,decide_eq_true_eq,many_nodup,List.all_eq_true,inR_iff]
theorem zc4 {ts:List Int} (hn:ts.Nodup) (hr:∀ t∈ts,0<=t/\t<=7):ts.length<=8:=by
 have:ts.length<=(canon ts).length:=zea hn fun x hx=>mem_canon.mpr ⟨hx,hr x hx⟩
 have:=canon_len ts
 omega
theorem gt_teeth {ts:List Int} (h:GT ts):areTeeth ts=true:=teeth_iff.mpr ⟨ze0 h,zaU (ze1 h),zdw h⟩
structure Good (cs:Combs):Prop where
 len:cs.length<=8
 nd:(cs.map (·.1)).Nodup
 ok:∀ c∈cs,isName c.1=true/\GT c.2
theorem good_nil:Good []:=⟨by decide,List.nodup_nil,by simp⟩
theorem zcg {cs:Combs} {x:Str} {ts:List Int} (h:cGet cs x=some ts):(x,ts)∈cs:=by
 unfold cGet at h
 obtain ⟨c,hc,rfl⟩:=Option.map_eq_some_iff.mp h
 have h1:=List.mem_of_find?_eq_some hc
 have h2:c.1=x:=by simpa using List.find?_some hc
 rw [<- h2]
 exact h1
theorem get_none {cs:Combs} {x:Str}:cGet cs x=none ↔ x ∉ cs.map (·.1):=by
 unfold cGet
 rw [Option.map_eq_none_iff,List.find?_eq_none]
 simp only [decide_eq_true_eq,List.mem_map,not_exists,not_and]
theorem ze8 {cs:Combs} {x:Str}:(cs.any fun c=>decide (c.1=x))=(cGet cs x).isSome:=by
 rw [Bool.eq_iff_iff,List.any_eq_true,Option.isSome_iff_ne_none,ne_eq,get_none,Classical.not_not,List.mem_map]
 simp
theorem zcW {c:Str×List Int} {cs:Combs} {x:Str}:cGet (c :: cs) x=if c.1=x then some c.2 else cGet cs x:=by
 unfold cGet
 rw [List.find?_cons]
 by_cases h:c.1=x
 ·simp [h]
 ·simp [h]
theorem zfX {cs:Combs} {x:Str} {ts:List Int} (h:cGet cs x=none):cPut cs x ts=cs ++ [(x,ts)]:=by
 unfold cPut
 rw [ze8,h]
 rfl
theorem zeT {cs:Combs} {x:Str} {ts us:List Int} (h:cGet cs x=some us):cPut cs x ts=cs.map (fun c=>if c.1=x then (c.1,ts) else c):=by
 unfold cPut
 rw [ze8,h]
 rfl
theorem put_keys {cs:Combs} {x:Str} {ts us:List Int} (h:cGet cs x=some us):(cPut cs x ts).map (·.1)=cs.map (·.1):=by
 rw [zeT h,List.map_map]
 apply List.map_congr_left
 intro c _
 show (if c.1=x then (c.1,ts) else c).1=c.1
 split <;> rfl
theorem Good.put {cs:Combs} {x:Str} {ts:List Int} (g:Good cs) (hx:isName x=true) (ht:GT ts) (hl:cs.length < 8\/(cGet cs x).isSome=true):Good (cPut cs x ts):=by
 cases e:cGet cs x with
 | none =>
  rw [zfX e]
  refine ⟨?_,?_,?_⟩
  ·rw [e] at hl
   rw [List.length_append,List.length_singleton]
   rcases hl with h | h
   ·omega
   ·cases h
  ·rw [List.map_append]
   exact zf8 g.nd (get_none.mp e)
  ·intro c hc
   rcases List.mem_append.mp hc with h | h
   ·exact g.ok c h
   ·rw [List.mem_singleton.mp h]; exact ⟨hx,ht⟩
 | some us =>
  refine ⟨?_,by rw [put_keys e]; exact g.nd,?_⟩
  ·rw [zeT e,List.length_map]; exact g.len
  ·rw [zeT e]
   intro c hc
   obtain ⟨c0,h0,rfl⟩:=List.mem_map.mp hc
   split
   ·exact ⟨(g.ok c0 h0).1,ht⟩
   ·exact g.ok c0 h0
noncomputable def KvR (G:Addr->Prop) (H:Hp):List (Key×V)->Combs->Prop:=Paired fun kv c=>∃ t,kv=(Sum.inr c.1,V.ref t)/\H t=some (.lst (c.2.map V.int))/\G t
noncomputable def DictR (G:Addr->Prop) (H:Hp) (d:Addr) (cs:Combs):Prop:=G d/\∃ kvs,H d=some (.dK kvs)/\KvR G H kvs cs
theorem KvR.mono {G G':Addr->Prop} {H H':Hp} {kvs:List (Key×V)} {cs:Combs} (s:∀ a o,G a->H a=some o->H' a=some o) (g:∀ a,G a->G' a) (h:KvR G H kvs cs):KvR G' H' kvs cs :=
 Paired.mono (fun _ _ ⟨t,e,h1,g1⟩=>⟨t,e,s _ _ g1 h1,g _ g1⟩) h
theorem DictR.mono {G G':Addr->Prop} {H H':Hp} {d:Addr} {cs:Combs} (s:∀ a o,G a->H a=some o->H' a=some o) (g:∀ a,G a->G' a) (h:DictR G H d cs):DictR G' H' d cs :=
 let ⟨g0,kvs,e,r⟩:=h
 ⟨g _ g0,kvs,s _ _ g0 e,r.mono s g⟩
theorem KvR.keys {G:Addr->Prop} {H:Hp}:∀ {kvs:List (Key×V)} {cs:Combs},KvR G H kvs cs->kvs.map (·.1)=(cs.map (·.1)).map Sum.inr
 | _,_,.nil=>rfl
 | _,_,.cons ⟨t,e,_⟩ r=>by
  subst e
  show _ :: _=_ :: _
  rw [show List.map _ _=_ from KvR.keys r]
theorem KvR.val {G:Addr->Prop} {H:Hp} {x:Str}:∀ {kvs:List (Key×V)} {cs:Combs},KvR G H kvs cs ->
  (cGet cs x=none/\valV kvs (Sum.inr x)=none)\/∃ ts t,cGet cs x=some ts/\valV kvs (Sum.inr x)=some (.ref t)/\H t=some (.lst (ts.map V.int))/\G t
 | _,_,.nil => .inl ⟨rfl,rfl⟩
 | _,_,.cons (b:=c) ⟨t,e,h1,g1⟩ r=>by
  subst e
  by_cases h:c.1=x
  ·refine .inr ⟨c.2,t,by rw [zcW,if_pos h],zcS (by rw [h]),h1,g1⟩
  ·have hn:¬ ((Sum.inr c.1:Key)=Sum.inr x):=fun z=>h (Sum.inr.inj z)
   rcases KvR.val (x:=x) r with ⟨e1,e2⟩ | ⟨ts,t',e1,e2,e3⟩
   ·exact .inl ⟨by rw [zcW,if_neg h]; exact e1,by rw [zcm hn]; exact e2⟩
   ·exact .inr ⟨ts,t',by rw [zcW,if_neg h]; exact e1,by rw [zcm hn]; exact e2,e3⟩
theorem KvR.some {G:Addr->Prop} {H:Hp} {kvs:List (Key×V)} {cs:Combs} {x:Str} (r:KvR G H kvs cs):(valV kvs (Sum.inr x)).isSome=(cGet cs x).isSome:=by
 rcases r.val (x:=x) with ⟨e1,e2⟩ | ⟨ts,t',e1,e2,e3⟩
 ·rw [e1,e2]; rfl
 ·rw [e1,e2]; rfl
theorem KvR.map {G:Addr->Prop} {H:Hp} {x:Str} {t:Addr} {ts:List Int} (h1:H t = .some (.lst (ts.map V.int))) (g1:G t):∀ {kvs:List (Key×V)} {cs:Combs},KvR G H kvs cs ->
  KvR G H (kvs.map fun kv=>if kv.1=Sum.inr x then (kv.1,V.ref t) else kv) (cs.map fun c=>if c.1=x then (c.1,ts) else c)
 | _,_,.nil => .nil
 | _,_,.cons (b:=c) ⟨t',e,h2,g2⟩ r=>by
  subst e
  refine .cons ?_ (KvR.map h1 g1 r)
  dsimp only
  by_cases hx:c.1=x
  ·rw [if_pos hx,if_pos (by rw [hx])]
   exact ⟨t,rfl,h1,g1⟩
  ·rw [if_neg hx,if_neg (fun z=>hx (Sum.inr.inj z))]
   exact ⟨t',rfl,h2,g2⟩
theorem KvR.put {G:Addr->Prop} {H:Hp} {kvs:List (Key×V)} {cs:Combs} {x:Str} {t:Addr} {ts:List Int} (r:KvR G H kvs cs) (h1:H t = .some (.lst (ts.map V.int))) (g1:G t):KvR G H (putK kvs (Sum.inr x) (.ref t)) (cPut cs x ts):=by
 unfold putK cPut
 rw [zbu,ze8,r.some]
 split
 ·exact r.map h1 g1
 ·exact Paired.snoc r ⟨t,rfl,h1,g1⟩
noncomputable abbrev PastR (G:Addr->Prop) (H:Hp):List V->List Combs->Prop:=Paired fun v cs=>∃ d,v = .ref d/\DictR G H d cs
structure Bk (C:Addr) (G:Addr->Prop) (H:Hp) (b l:Addr) (cs:Combs) (past:List Combs):Prop where
 live:∀ x,G x->H x≠none
 nb:¬ G b
 nl:¬ G l
 ins:∃ dx d,H b=some (.ins C dx [("combs",.ref d),("past",.ref l)])/\DictR G H d cs
 lst:∃ vs,H l=some (.lst vs)/\PastR G H vs past
 good:Good cs
 goods:∀ p∈past,Good p
 few:past.length<=300
theorem Bk.move {C:Addr} {G:Addr->Prop} {H H':Hp} {b l:Addr} {cs:Combs} {past:List Combs} (B:Bk C G H b l cs past) (s:∀ a o,G a\/a=b\/a=l->H a=some o->H' a=some o):Bk C G H' b l cs past:=by
 have s':∀ a o,G a->H a=some o->H' a=some o:=fun a o g e=>s a o (.inl g) e
 obtain ⟨dx,d,e1,r1⟩:=B.ins
 obtain ⟨vs,e2,r2⟩:=B.lst
 refine ⟨fun x g => ?_,B.nb,B.nl,⟨dx,d,s _ _ (.inr (.inl rfl)) e1,r1.mono s' fun _ g=>g⟩,⟨vs,s _ _ (.inr (.inr rfl)) e2,?_⟩,B.good,B.goods,B.few⟩
 ·have:=B.live x g
  cases e:H x with
  | none=>exact absurd e this
  | some o=>rw [s' x o g e]; simp
 ·exact Paired.mono (fun _ _ ⟨d,e,r⟩=>⟨d,e,r.mono s' fun _ g=>g⟩) r2
theorem Bk.same {C:Addr} {G:Addr->Prop} {H H':Hp} {b l:Addr} {cs:Combs} {past:List Combs} (B:Bk C G H b l cs past) (s:Same H H'):Bk C G H' b l cs past:=B.move fun a o _ e=>s a o e
theorem Bk.liveB {C:Addr} {G:Addr->Prop} {H:Hp} {b l:Addr} {cs:Combs} {past:List Combs} (B:Bk C G H b l cs past):H b≠none/\H l≠none:=by
 obtain ⟨dx,d,e1,r1⟩:=B.ins
 obtain ⟨vs,e2,r2⟩:=B.lst
 exact ⟨by rw [e1]; simp,by rw [e2]; simp⟩
structure Mv (b l:Addr) (G G':Addr->Prop) (H H':Hp):Prop where
 keep:∀ a o,H a=some o->a≠b->a≠l->H' a=some o
 on:∀ a,H a≠none->H' a≠none
 new:∀ a,G' a->G a\/H a=none
theorem zex {H H':Hp} (s:Same H H'):∀ a,H a≠none->H' a≠none:=fun a h=>by
 cases e:H a with
 | none=>exact absurd e h
 | some o=>rw [s a o e]; simp
theorem Mv.ofSame {b l:Addr} {G:Addr->Prop} {H H':Hp} (s:Same H H'):Mv b l G G H H':=⟨fun a o e _ _=>s a o e,zex s,fun _ g => .inl g⟩
theorem Mv.trans {b l:Addr} {G G1 G2:Addr->Prop} {H H1 H2:Hp} (m:Mv b l G G1 H H1) (m':Mv b l G1 G2 H1 H2):Mv b l G G2 H H2:=by
 refine ⟨fun a o e n1 n2=>m'.keep a o (m.keep a o e n1 n2) n1 n2,fun a h=>m'.on a (m.on a h),fun a g => ?_⟩
 rcases m'.new a g with g1 | e
 ·exact m.new a g1
 ·refine .inr ?_
  cases q:H a with
  | none=>rfl
  | some o=>exact absurd e (m.on a (by rw [q]; simp))
noncomputable def Deed (ea:Nat->Addr) (C:Addr) (G:Addr->Prop) (H:Hp) (b l:Addr) (cs:Combs) (past:List Combs) (Q:VK) (E:XK):Except Nat Combs->Prop
 | .error j=>∀ H',Same H H'->E (.ref (ea j)) none H'
 | .ok cs'=>∀ H' G',Mv b l G G' H H'->Bk C G' H' b l cs' (past ++ [cs])->Q (.int ((past.length:Int) + 1)) H'
theorem Deed.from {ea:Nat->Addr} {C:Addr} {G:Addr->Prop} {H H1:Hp} {b l:Addr} {cs:Combs} {past:List Combs} {Q:VK} {E:XK} {r:Except Nat Combs} (d:Deed ea C G H b l cs past Q E r) (s:Same H H1):Deed ea C G H1 b l cs past Q E r:=by
 cases r with
 | error j=>exact fun H' s'=>d H' (s.trans s')
 | ok cs'=>exact fun H' G' m B=>d H' G' ((Mv.ofSame s).trans m) B
noncomputable def full (past:List Combs) (cs':Combs):Except Nat Combs:=if 300<=past.length then .error 9 else .ok cs'
noncomputable def putD (cs:Combs) (past:List Combs) (x:Str) (ts:List Int):Except Nat Combs :=
 if isName x=false then .error 0 else if areTeeth ts=false then .error 1 else if (cGet cs x).isSome=true then .error 2 else if 8<=cs.length then .error 3 else full past (cPut cs x (canon ts))
theorem call_dictD {X:Cx}:CallR X (.type "dict") (fun xs H Q=>∃ a kvs,xs = [V.ref a]/\Rd H a (.dK kvs)/\∀ p,H p=none->Q (.ref p) (upd H p (.dK kvs))):=by
 intro pins s σ H xs us Q I r h
 obtain ⟨a,kvs,rfl,ha,q⟩:=h
 obtain ⟨u,rfl,ru⟩:=zbJ r
 cases ru
 exact d_copyOf I ha fun p s' np I'=>⟨.ref p,_,I',rfl,q p np⟩
end L2
namespace L2
open PySem PySem.Spec PyProof.Rows
noncomputable def sle (a b:Str):Prop:=a.cps.toList<=b.cps.toList
theorem sle_iff {a b:Str}:sle a b ↔ ltCps b.cps.toList a.cps.toList=false:=by
 unfold sle
 rw [ltCps_eq,decide_eq_false_iff_not,List.not_lt]
theorem sle_trans {a b c:Str} (h1:sle a b) (h2:sle b c):sle a c:=List.le_trans h1 h2
theorem sle_antisymm {a b:Str} (h1:sle a b) (h2:sle b a):a=b:=by
 have:=List.le_antisymm h1 h2
 cases a; cases b
 simp only at this
 rw [Str.mk.injEq,<- Array.toList_inj]
 exact this
theorem zdM:∀ {l:List Str} {p:Str},risingS p l=true->(p :: l).Pairwise sle
 | [],p,_=>by simp
 | x :: r,p,h=>by
  simp only [risingS,Bool.and_eq_true,Bool.not_eq_true'] at h
  have ih:=zdM h.2
  have hpx:sle p x:=sle_iff.mpr h.1
  refine List.pairwise_cons.mpr ⟨fun y hy => ?_,ih⟩
  rcases List.mem_cons.mp hy with rfl | hm
  ·exact hpx
  ·exact sle_trans hpx ((List.pairwise_cons.mp ih).1 y hm)
theorem zdE {l:List Str} (h:sortedS l=true):l.Pairwise sle:=by
 cases l with
 | nil=>exact List.Pairwise.nil
 | cons x r=>exact zdM h
theorem strs_same {a b:List Str} (hp:a.Perm b) (ha:sortedS a=true) (hb:sortedS b=true):a=b :=
 hp.eq_of_pairwise (fun _ _ _ _ h1 h2=>sle_antisymm h1 h2) (zdE ha) (zdE hb)
theorem zgs {α : Type} {xs:List α} {k:Int} {v : α} (h0:0<=k) (h:xs[k.toNat]?=some v):atI xs k=some v:=by
 have e:((k.toNat:Nat):Int)=k:=by omega
 rw [<- e]
 exact zax h
end L2
namespace L2
open PySem PySem.Spec PyProof.Rows
noncomputable def errNames:List Str := [Str.ofString "BadName",Str.ofString "BadTeeth",Str.ofString "NameTaken",Str.ofString "BookFull",Str.ofString "NoComb",Str.ofString "BadTooth",Str.ofString "ToothThere",Str.ofString "FirstTooth",Str.ofString "ToothMissing",Str.ofString "DeedsFull",Str.ofString "NothingDone",Str.ofString "BadShape",Str.ofString "BadPlace",Str.ofString "BadLength",Str.ofString "NoFilling"]
noncomputable def errName (j:Nat):Str:=errNames.getD j (Str.ofString "")
noncomputable def valErr:List Value := [.type "ValueError",.type "Exception",.type "BaseException",.type "object"]
noncomputable def clsChk (K:PySem.W.Frag) (C:Addr):Bool:=(PySem.W.clsIn K C).isSome && PySem.W.typeIn K (.ref C) == some (.type "type")
noncomputable def errChk1 (K:PySem.W.Frag) (l:List Addr) (ce:Addr) (D:Addr) (j:Nat):Bool :=
 (List.range 15).all (fun i=>PySem.W.mroIn K D (.ref (l.getD i 0)) == some (i == j)) && (PySem.W.mroIn K D (.ref ce) == some true &&
 (PySem.W.findIn K (.ref D) "__getattribute__" == some (some (.builtin "BaseException.__getattribute__")) && (PySem.W.findIn K (.ref D) "__getattr__" == some none &&
 (PySem.W.findIn K (.ref D) "__class__" == some (some (.builtin "object.__class__")) && (PySem.W.mroIn K D (.type "object") == some true && (PySem.W.mroIn K D (.type "BaseException") == some true && PySem.W.excIn K D valErr "ValueError.__new__"))))))
noncomputable def errChk (K:PySem.W.Frag) (l:List Addr) (ce:Addr) (js:List Nat):Bool :=
 (List.range 15).all (fun i=>clsChk K (l.getD i 0)) && (clsChk K ce && (PySem.W.mroIn K ce (.type "BaseException") == some true &&
 (PySem.W.specialIn K (.builtin "object.__class__") "__get__" == some (some (.builtin "getset_descriptor.__get__")) && (PySem.W.takesIn K (.builtin "object.__class__") == some true && js.all fun j=>errChk1 K l ce (l.getD j 0) j))))
structure KindF (K:PySem.W.Frag) (ea:Nat->Addr) (D:Addr) (j:Nat):Prop where
 lt:j < 15
 cls:ErrCls K D
 kit:∀ i,i < 15->PySem.W.kitOne K (.ref D) (.ref (ea i))=some (decide (i=j))
structure EJ (K:PySem.W.Frag) (ea:Nat->Addr) (ce:Value) (j:Nat):Prop where
 kf:KindF K ea (ea j) j
 ex:PySem.W.exmOne K (.ref (ea j)) ce=some true
 exc:PySem.W.excIn K (ea j) valErr "ValueError.__new__" = true
theorem zey {K:PySem.W.Frag} {D C:Addr} {b:Bool} (h:clsChk K C=true) (m:PySem.W.mroIn K D (.ref C)=some b):PySem.W.kitCls K (.ref D) (.ref C)=some b:=by
 unfold clsChk at h
 simp only [Bool.and_eq_true,beq_iff_eq] at h
 unfold PySem.W.kitCls
 simp only [h.1,h.2]
 rw [if_pos (by decide)]
 exact m
theorem ej_of {K:PySem.W.Frag} {l:List Addr} {ce:Addr} {js:List Nat} {j:Nat} (h:errChk K l ce js=true) (hj:j∈js) (hlt:j < 15):EJ K (fun i=>l.getD i 0) (.ref ce) j:=by
 unfold errChk at h
 simp only [Bool.and_eq_true,beq_iff_eq,List.all_eq_true,List.mem_range] at h
 obtain ⟨h1,h2,h3,h4,h5,h6⟩:=h
 have h7:=h6 j hj
 unfold errChk1 at h7
 simp only [Bool.and_eq_true,beq_iff_eq,List.all_eq_true,List.mem_range] at h7
 obtain ⟨g1,g2,g3,g4,g5,g6,g7,g8⟩:=h7
 have hc:(PySem.W.clsIn K (l.getD j 0)).isSome=true:=by
  have:=h1 j hlt
  unfold clsChk at this
  simp only [Bool.and_eq_true] at this
  exact this.1
 refine ⟨⟨hlt,⟨g3,g4,hc,g5,h4,h5,g6,g7⟩,fun i hi => ?_⟩,?_,g8⟩
 ·have m:=g1 i hi
  unfold PySem.W.kitOne
  by_cases e:i=j
  ·subst e
   rw [if_pos (beq_self_eq_true _),decide_eq_true rfl]
  ·have ne:l.getD j 0≠l.getD i 0:=fun z=>by
    have m2:=g1 j hlt
    rw [<- z] at m
    rw [m] at m2
    simp [e] at m2
   rw [if_neg (fun z=>ne (Value.ref.inj (beq_iff_eq.mp z))),decide_eq_false e]
   have e2:(i == j)=false:=beq_eq_false_iff_ne.mpr e
   rw [e2] at m
   exact zey (h1 i hi) m
 ·unfold PySem.W.exmOne
  rw [if_pos (by rw [show PySem.W.subIn K (.ref ce) (.type "BaseException")=some true from h3]; rfl)]
  exact zey h2 g2
theorem EJ.err {K:PySem.W.Frag} {mg:Str->Option Value} {ea:Nat->Addr} {ce:Value} {j:Nat} {x:Str} (e:EJ K ea ce j) (hm:mg x=some (.ref (ea j))):Err K mg x (ea j):=⟨hm,e.exc⟩
structure BookAt (K:PySem.W.Frag) (C:Addr):Prop where
 cls:Cls K C
 nc:NoAttr K C "combs"
 np:NoAttr K C "past"
noncomputable def bookChk (K:PySem.W.Frag) (C:Addr):Bool:=PySem.W.plainGet K C Str.empty && (PySem.W.hasDictIn K C && (PySem.W.plainOver K C && (PySem.W.findIn K (.ref C) "__setattr__" == some (some (.builtin "object.__setattr__")) && (PySem.W.findIn K (.ref C) "combs" == some none && PySem.W.findIn K (.ref C) "past" == some none))))
theorem book_of {K:PySem.W.Frag} {C:Addr} (h:bookChk K C=true):BookAt K C:=by
 unfold bookChk at h
 simp only [Bool.and_eq_true,beq_iff_eq] at h
 obtain ⟨h1,h2,h3,h4,h5,h6⟩:=h
 exact ⟨⟨h1,h2,h3,h4⟩,h5,h6⟩
theorem meth_mk {K:PySem.W.Frag} {C:Addr} {cn m:Str} {st:Stmt} {f:Addr} {oc:Value} {od an:Option Addr} {osl:Array (Option Value)} {kV doc pm cdv ct:Value} (a:PySem.W.findIn K (.ref C) m=some (some (.ref f)))
  (l:K.lookup f=some ⟨oc,od,.func (PySem.W.fnOf m (cn ++ Str.ofString "." ++ m) (defArgs st) (defBody st) (defScope st) .none kV doc pm an cdv ct),osl⟩) (c:PySem.W.codeIn K cdv (cn ++ Str.ofString "." ++ m)=true) (k:PySem.W.keepIn K (.ref f)=true) (i:PySem.W.isFn K (.ref f)=true):MethAt K C cn m st :=
 ⟨f,_,zgh l c k,a,i,k⟩
structure InitAt (K:PySem.W.Frag) (mg:Str->Option Value) (C:Addr) (x qual:Str) (st:Stmt):Prop where
 ex:∃ f fd,Mk K C f/\Fun K "__init__" qual st f fd
 m:mg x=some (.ref C)
theorem init_mk {K:PySem.W.Frag} {mg:Str->Option Value} {C:Addr} {x qual:Str} {st:Stmt} {f:Addr} {oc:Value} {od an:Option Addr} {osl:Array (Option Value)} {kV doc pm cdv ct:Value} (hm:mg x=some (.ref C)) (a:PySem.W.findIn K (.ref C) "__init__" = some (some (.ref f)))
  (l:K.lookup f=some ⟨oc,od,.func (PySem.W.fnOf "__init__" qual (defArgs st) (defBody st) (defScope st) .none kV doc pm an cdv ct),osl⟩) (c:PySem.W.codeIn K cdv qual=true) (k:PySem.W.keepIn K (.ref f)=true) (i:PySem.W.isFn K (.ref f)=true) (k2:PySem.W.keepIn K (.ref C)=true) (mk:PySem.W.makesIn K C=true):InitAt K mg C x qual st :=
 ⟨⟨f,_,⟨mk,a,i,k2⟩,zgh l c k⟩,hm⟩
theorem ref_mk {K:PySem.W.Frag} {mg:Str->Option Value} {h:Heap} {x:Str} {f:Addr} (X:K.In h) (G:h.Ns mainGlobals mg) (a:PySem.W.nsIn K mainGlobals x=some (some (.ref f))):mg x=some (.ref f):=PySem.W.mg_of X G a
end L2
namespace L2
open PySem PySem.Spec PyProof.Rows
theorem at_last {α : Type} (l:List α) (a : α):atI (l ++ [a]) (-1)=some a:=by
 unfold atI ixN
 rw [if_neg (by decide),if_pos (by rw [List.length_append,List.length_singleton]; omega)]
 have e:((-1:Int) + (((l ++ [a]).length:Nat):Int)).toNat=l.length:=by rw [List.length_append,List.length_singleton]; omega
 rw [e]
 simp
end L2
namespace L2
open PySem PySem.Spec PyProof.Rows
section
variable {X:Cx}
end
section
variable {X:Cx} {T id:String} {name:Str} {r:V->List V->Hp->VK->Prop} {o e:Expr} {es:List Expr} {to:TE} {t:TA} {apos cpos:Pos}
end
end L2
namespace L2
open PySem PySem.Spec PyProof.Rows
noncomputable def pw (t:Int):Int:=2 ^ t.toNat
noncomputable def worth (ts:List Int):Int:=(ts.map pw).sum
noncomputable def aheadOf (n:Int):List Int:=((List.range 7).filter fun d=>n.toNat.testBit d).map fun i=>((i:Nat):Int)
noncomputable def meets (ah ts:List Int):Bool:=ts.any fun t=>decide (t∈ah)
noncomputable def afterOf (ah ts:List Int):List Int:=((canon (ah ++ ts)).filter fun d=>decide (0 < d)).map fun d=>d - 1
theorem zel:worth []=0:=rfl
theorem zaW (t:Int) (ts:List Int):worth (t :: ts)=pw t + worth ts:=rfl
theorem zcL (a b:List Int):worth (a ++ b)=worth a + worth b:=by
 induction a with
 | nil=>simp [worth]
 | cons t a ih=>rw [List.cons_append,zaW,zaW,ih]; omega
theorem worth_perm {a b:List Int} (h:a.Perm b):worth a=worth b:=by
 induction h with
 | nil=>rfl
 | cons x _ ih=>rw [zaW,zaW,ih]
 | swap x y l=>simp only [zaW]; omega
 | trans _ _ h1 h2=>exact h1.trans h2
theorem pw_pos (t:Int):0 < pw t:=by unfold pw; exact Int.pow_pos (by decide)
theorem zfb (ts:List Int):0<=worth ts:=by
 induction ts with
 | nil=>exact Int.le_refl _
 | cons t ts ih=>rw [zaW]; have:=pw_pos t; omega
noncomputable def bitSum (f:Nat->Bool):Nat->Nat
 | 0=>0
 | k + 1=>2 ^ k * (if f k then 1 else 0) + bitSum f k
theorem zcj (f:Nat->Bool) (k:Nat):bitSum f (k + 1)=2 ^ k * (if f k then 1 else 0) + bitSum f k:=rfl
theorem zdr (f:Nat->Bool):∀ k,bitSum f k < 2 ^ k
 | 0=>Nat.zero_lt_one
 | k + 1=>by
  have:=zdr f k
  rw [zcj]
  rw [Nat.pow_succ]
  cases f k
  ·simp; omega
  ·simp; omega
theorem zci (f:Nat->Bool) (i:Nat):∀ k,(bitSum f k).testBit i=(decide (i < k) && f i)
 | 0=>by simp [bitSum]
 | k + 1=>by
  rw [zcj,Nat.testBit_two_pow_mul_add _ (zdr f k),zci f i k]
  by_cases h:i < k
  ·rw [if_pos h,decide_eq_true h,decide_eq_true (show i < k + 1 by omega)]
  ·rw [if_neg h]
   by_cases e:i=k
   ·subst e
    rw [Nat.sub_self,decide_eq_true (Nat.lt_succ_self i)]
    cases f i <;> rfl
   ·rw [decide_eq_false (show ¬ i < k + 1 by omega),Bool.false_and]
    cases f k
    ·exact Nat.zero_testBit _
    ·show (1:Nat).testBit (i - k)=false
     rw [Bool.eq_false_iff]
     exact fun z=>absurd (Nat.testBit_one_eq_true_iff_self_eq_zero.mp z) (by omega)
theorem zb2 (f:Nat->Bool):∀ k,worth (((List.range k).filter f).map fun i=>((i:Nat):Int))=((bitSum f k:Nat):Int)
 | 0=>rfl
 | k + 1=>by
  rw [List.range_succ,List.filter_append,List.map_append,zcL,zb2 f k,zcj]
  cases h:f k
  ·simp [h,worth]
  ·simp only [h,List.filter_cons,List.filter_nil,if_true,List.map_cons,List.map_nil,zaW,zel]
   unfold pw
   rw [Int.toNat_natCast]
   push_cast
   omega
theorem zdq {f:Nat->Bool} {k:Nat} (i:Nat):(worth (((List.range k).filter f).map fun i=>((i:Nat):Int))).toNat.testBit i=(decide (i < k) && f i):=by
 rw [zb2,Int.toNat_natCast,zci]
theorem ahead_worth (f:Nat->Bool):aheadOf (worth (((List.range 7).filter f).map fun i=>((i:Nat):Int)))=((List.range 7).filter f).map fun i=>((i:Nat):Int):=by
 unfold aheadOf
 congr 1
 refine List.filter_congr fun i hi => ?_
 rw [zdq,decide_eq_true (List.mem_range.mp hi),Bool.true_and]
theorem zc1 {n:Int} (h0:0<=n) (h1:n < 128):worth (aheadOf n)=n:=by
 unfold aheadOf
 rw [zb2]
 have:bitSum (fun d=>n.toNat.testBit d) 7=n.toNat:=by
  refine Nat.eq_of_testBit_eq fun i => ?_
  rw [zci]
  by_cases h:i < 7
  ·rw [decide_eq_true h,Bool.true_and]
  ·rw [decide_eq_false h,Bool.false_and]
   symm
   refine Nat.testBit_lt_two_pow (Nat.lt_of_lt_of_le (show n.toNat < 2 ^ 7 by omega) (Nat.pow_le_pow_right (by decide) (by omega)))
 rw [this]
 omega
theorem mem_ahead {n t:Int}:t∈aheadOf n ↔ 0<=t/\t<=6/\n.toNat.testBit t.toNat=true:=by
 unfold aheadOf
 simp only [List.mem_map,List.mem_filter,List.mem_range]
 constructor
 ·rintro ⟨i,⟨hi,hb⟩,rfl⟩
  exact ⟨by omega,by omega,by simpa using hb⟩
 ·rintro ⟨h0,h6,hb⟩
  exact ⟨t.toNat,⟨by omega,hb⟩,by omega⟩
theorem meets_false {ah ts:List Int}:meets ah ts=false ↔ ∀ t∈ts,t ∉ ah:=by
 unfold meets
 simp [List.any_eq_false]
theorem zeQ {n:Int} {ts:List Int} (h0:0<=n) (h1:n < 128) (g:GT ts):Builtin.bitAnd n (worth ts)=0 ↔ meets (aheadOf n) ts=false:=by
 have hb:Builtin.bitAnd n (worth ts)=((n.toNat &&& (worth ts).toNat:Nat):Int):=by
  unfold Builtin.bitAnd
  rw [decide_eq_true h0,decide_eq_true (zfb ts)]
 rw [hb,meets_false]
 obtain ⟨f,rfl,_⟩:=g
 constructor
 ·intro h t ht ha
  obtain ⟨t0,t6,tb⟩:=mem_ahead.mp ha
  obtain ⟨i,hi,rfl⟩:=List.mem_map.mp ht
  obtain ⟨hr,hf⟩:=List.mem_filter.mp hi
  have z:(n.toNat &&& (worth (((List.range 8).filter f).map fun i=>((i:Nat):Int))).toNat)=0:=by omega
  have z:=congrArg (fun m=>m.testBit i) z
  simp only [Nat.testBit_and,zdq,Nat.zero_testBit] at z
  rw [Int.toNat_natCast] at tb
  rw [tb,hf,decide_eq_true (List.mem_range.mp hr)] at z
  exact absurd z (by decide)
 ·intro h
  have z:(n.toNat &&& (worth (((List.range 8).filter f).map fun i=>((i:Nat):Int))).toNat)=0:=by
   refine Nat.eq_of_testBit_eq fun i => ?_
   rw [Nat.testBit_and,zdq,Nat.zero_testBit]
   cases e:n.toNat.testBit i with
   | false=>rfl
   | true =>
    have hi:i < 7:=by
     apply Classical.byContradiction
     intro hn
     have:=Nat.testBit_lt_two_pow (Nat.lt_of_lt_of_le (show n.toNat < 2 ^ 7 by omega) (Nat.pow_le_pow_right (by decide) (show 7<=i by omega)))
     rw [this] at e
     exact absurd e (by decide)
    cases ef:f i with
    | false=>simp
    | true =>
     exfalso
     refine h (i:Int) (List.mem_map.mpr ⟨i,List.mem_filter.mpr ⟨List.mem_range.mpr (by omega),ef⟩,rfl⟩) (mem_ahead.mpr ⟨by omega,by omega,?_⟩)
     rwa [Int.toNat_natCast]
  omega
theorem worth_half (l:List Int) (h:∀ t∈l,0<=t):worth l=2 * worth ((l.filter fun d=>decide (0 < d)).map fun d=>d - 1) + ((l.count 0:Nat):Int):=by
 induction l with
 | nil=>rfl
 | cons t l ih =>
  have ih:=ih fun x hx=>h x (List.mem_cons_of_mem _ hx)
  have t0:=h t List.mem_cons_self
  rw [zaW,List.filter_cons,List.count_cons]
  by_cases e:t=0
  ·subst e
   rw [ih]
   simp [pw]
   omega
  ·have hp:0 < t:=by omega
   have:pw t=2 * pw (t - 1):=by
    unfold pw
    rw [show t.toNat=(t - 1).toNat + 1 by omega,Int.pow_succ]
    omega
   rw [if_pos (decide_eq_true hp),List.map_cons,zaW,this,ih]
   rw [if_neg (by simpa using e)]
   omega
theorem zej {ah ts:List Int}:∀ d∈afterOf ah ts,0<=d/\d<=6:=by
 intro d hd
 obtain ⟨x,hx,rfl⟩:=List.mem_map.mp hd
 obtain ⟨hc,hp⟩:=List.mem_filter.mp hx
 have:=(mem_canon.mp hc).2
 have:=of_decide_eq_true hp
 omega
theorem zc0 (ah ts:List Int):(afterOf ah ts).Pairwise (· < ·):=by
 unfold afterOf
 rw [List.pairwise_map]
 exact ((zei (ah ++ ts)).sublist List.filter_sublist).imp fun h=>by omega
theorem zck (n:Int):(aheadOf n).Nodup:=by
 refine zaU ?_
 unfold aheadOf
 rw [List.pairwise_map]
 refine List.Pairwise.sublist List.filter_sublist (List.Pairwise.imp ?_ (List.pairwise_lt_range (n:=7)))
 intro a b h
 omega
theorem zdt {ah ts:List Int} (ha:ah.Nodup) (hr:∀ t∈ah,0<=t/\t<=6) (ht:ts.Nodup) (hr':∀ t∈ts,0<=t/\t<=7) (hm:meets ah ts=false):worth (afterOf ah ts)=(worth ah + worth ts) / 2:=by
 have hn:(ah ++ ts).Nodup:=List.nodup_append.mpr ⟨ha,ht,fun a h1 b h2 e=>meets_false.mp hm b h2 (e ▸ h1)⟩
 have hp:(canon (ah ++ ts)).Perm (ah ++ ts):=by
  rw [List.perm_ext_iff_of_nodup (zch _) hn]
  intro t
  rw [mem_canon]
  refine ⟨fun h=>h.1,fun h=>⟨h,?_⟩⟩
  rcases List.mem_append.mp h with z | z
  ·have:=hr t z; omega
  ·exact hr' t z
 have hw:=worth_half (canon (ah ++ ts)) fun t h=>(mem_canon.mp h).2.1
 rw [worth_perm hp,zcL] at hw
 have hc:=List.nodup_iff_count.mp (zch (ah ++ ts)) 0
 unfold afterOf
 omega
theorem zcD {n:Int}:∀ t∈aheadOf n,0<=t/\t<=6:=fun t h=>⟨(mem_ahead.mp h).1,(mem_ahead.mp h).2.1⟩
theorem zdx {n:Int} (h0:0<=n):(0:Int)∈aheadOf n ↔ n % 2=1:=by
 rw [mem_ahead]
 have:n.toNat.testBit 0=decide (n.toNat % 2=1):=Nat.testBit_zero _
 rw [show (0:Int).toNat=0 from rfl,this,decide_eq_true_eq]
 omega
noncomputable def stepsOf (cs:Combs) (n:Int):List (Str×Int):=if n % 2=1 then [("",n / 2)] else (cs.filter fun c=>decide (Builtin.bitAnd n (worth c.2)=0)).map fun c=>(c.1,(n + worth c.2) / 2)
noncomputable def goesOf (cs:Combs) (ah:List Int):List (Str×List Int):=if (0:Int)∈ah then [("",afterOf ah [])] else (cs.filter fun c => !meets ah c.2).map fun c=>(c.1,afterOf ah c.2)
theorem zdC {cs:Combs} {n:Int} (h0:0<=n) (h1:n < 128) (g:∀ c∈cs,GT c.2):(goesOf cs (aheadOf n)).map (fun p=>(p.1,worth p.2))=stepsOf cs n:=by
 unfold goesOf stepsOf
 by_cases e:n % 2=1
 ·rw [if_pos e,if_pos ((zdx h0).mpr e),List.map_cons,List.map_nil,zdt (zck n) zcD List.nodup_nil (by simp) (by rfl),zc1 h0 h1,zel,Int.add_zero]
 ·rw [if_neg e,if_neg fun z=>e ((zdx h0).mp z),List.map_map]
  have hf:(cs.filter fun c => !meets (aheadOf n) c.2)=cs.filter fun c=>decide (Builtin.bitAnd n (worth c.2)=0):=by
   refine List.filter_congr fun c hc => ?_
   rw [Bool.eq_iff_iff,decide_eq_true_eq,zeQ h0 h1 (g c hc),Bool.not_eq_true']
  rw [hf]
  refine List.map_congr_left fun c hc => ?_
  obtain ⟨hc,hz⟩:=List.mem_filter.mp hc
  have gc:=g c hc
  show (c.1,worth (afterOf (aheadOf n) c.2))=_
  rw [zdt (zck n) zcD (zaU (ze1 gc)) (zdw gc) ((zeQ h0 h1 gc).mp (of_decide_eq_true hz)),zc1 h0 h1]
theorem steps_lt {cs:Combs} {n:Int} (h0:0<=n) (h1:n < 128) (g:∀ c∈cs,GT c.2):∀ p∈stepsOf cs n,0<=p.2/\p.2 < 128:=by
 rw [<- zdC h0 h1 g]
 intro p hp
 obtain ⟨q,hq,rfl⟩:=List.mem_map.mp hp
 have:∃ a b,q.2=afterOf a b:=by
  unfold goesOf at hq
  split at hq
  ·rw [List.mem_singleton.mp hq]; exact ⟨_,_,rfl⟩
  ·obtain ⟨c,_,rfl⟩:=List.mem_map.mp hq; exact ⟨_,_,rfl⟩
 obtain ⟨a,b,e⟩:=this
 show 0<=worth q.2/\worth q.2 < 128
 rw [e]
 refine ⟨zfb _,?_⟩
 have hs:afterOf a b=((List.range 7).filter fun i=>decide (((i:Nat):Int)∈afterOf a b)).map fun i=>((i:Nat):Int):=by
  refine zbd ?_ ((zc0 a b).imp fun h=>by omega) ?_
  ·rw [List.perm_ext_iff_of_nodup (zaU (zc0 a b))]
   ·intro t
    simp only [List.mem_map,List.mem_filter,List.mem_range,decide_eq_true_eq]
    constructor
    ·intro h
     have:=zej t h
     exact ⟨t.toNat,⟨by omega,by rwa [show ((t.toNat:Nat):Int)=t by omega]⟩,by omega⟩
    ·rintro ⟨i,⟨_,h⟩,rfl⟩
     exact h
   ·refine zaU ?_
    rw [List.pairwise_map]
    refine List.Pairwise.sublist List.filter_sublist (List.Pairwise.imp ?_ (List.pairwise_lt_range (n:=7)))
    intro a b h
    omega
  ·rw [List.pairwise_map]
   refine List.Pairwise.sublist List.filter_sublist (List.Pairwise.imp ?_ (List.pairwise_lt_range (n:=7)))
   intro a b h
   omega
 rw [hs,zb2]
 have:=zdr (fun i=>decide (((i:Nat):Int)∈afterOf a b)) 7
 omega
noncomputable def StepsR (H:Hp):List V->List (Str×Int)->Prop
 | [],[]=>True
 | v :: vs,s :: ss=>(∃ q,v = .ref q/\H q=some (.tup [.str s.1,.int s.2]))/\StepsR H vs ss
 | _,_=>False
theorem StepsR.mono {H H':Hp} (m:∀ q xs,H q=some (.tup xs)->H' q=some (.tup xs)):∀ {vs:List V} {ss:List (Str×Int)},StepsR H vs ss->StepsR H' vs ss
 | [],[],_=>trivial
 | _ :: _,_ :: _,⟨⟨q,e,h⟩,r⟩=>⟨⟨q,e,m q _ h⟩,r.mono m⟩
 | [],_ :: _,x=>x.elim
 | _ :: _,[],x=>x.elim
theorem StepsR.length {H:Hp}:∀ {vs:List V} {ss:List (Str×Int)},StepsR H vs ss->vs.length=ss.length
 | [],[],_=>rfl
 | _ :: _,_ :: _,⟨_,r⟩=>by rw [List.length_cons,List.length_cons,r.length]
 | [],_ :: _,x=>x.elim
 | _ :: _,[],x=>x.elim
theorem StepsR.snoc {H:Hp} {q:Addr} {s:Str×Int} (hq:H q=some (.tup [.str s.1,.int s.2])):∀ {vs:List V} {ss:List (Str×Int)},StepsR H vs ss->StepsR H (vs ++ [.ref q]) (ss ++ [s])
 | [],[],_=>⟨⟨q,rfl,hq⟩,trivial⟩
 | _ :: _,_ :: _,⟨a,r⟩=>⟨a,r.snoc hq⟩
 | [],_ :: _,x=>x.elim
 | _ :: _,[],x=>x.elim
theorem StepsR.get {H:Hp} {i:Nat} {s:Str×Int}:∀ {vs:List V} {ss:List (Str×Int)},StepsR H vs ss->ss[i]?=some s->∃ q,vs[i]?=some (.ref q)/\H q=some (.tup [.str s.1,.int s.2]):=by
 induction i with
 | zero =>
  intro vs ss r e
  match vs,ss,r with
  | [],[],_=>simp at e
  | v :: _,x :: _,⟨⟨q,ev,h⟩,_⟩ =>
   simp at e
   subst e
   exact ⟨q,by rw [ev]; rfl,h⟩
 | succ i ih =>
  intro vs ss r e
  match vs,ss,r with
  | [],[],_=>simp at e
  | v :: vs,x :: ss,⟨_,r⟩ =>
   obtain ⟨q,e1,e2⟩:=ih r (by simpa using e)
   exact ⟨q,by simpa using e1,e2⟩
noncomputable def byNames (cs:Combs) (nm:List Str):Combs:=nm.map fun x=>(x,(cGet cs x).getD [])
theorem byNames_snoc {cs:Combs} {nm:List Str} {x:Str} {ts:List Int} (h:cGet cs x=some ts):byNames cs (nm ++ [x])=byNames cs nm ++ [(x,ts)]:=by
 unfold byNames
 rw [List.map_append,List.map_cons,List.map_nil,h]
 rfl
theorem zdB {cs:Combs} {c:Str×List Int} {n:Int} (h:¬ n % 2=1):stepsOf (cs ++ [c]) n=stepsOf cs n ++ if Builtin.bitAnd n (worth c.2)=0 then [(c.1,(n + worth c.2) / 2)] else []:=by
 unfold stepsOf
 rw [if_neg h,if_neg h,List.filter_append,List.map_append]
 congr 1
 by_cases e:Builtin.bitAnd n (worth c.2)=0
 ·rw [if_pos e,List.filter_cons,if_pos (decide_eq_true e)]
  rfl
 ·rw [if_neg e,List.filter_cons,if_neg (by simpa using e)]
  rfl
theorem steps_nil {n:Int} (h:¬ n % 2=1):stepsOf [] n = []:=by
 unfold stepsOf
 rw [if_neg h]
 rfl
theorem zeo {cs:Combs} {n:Int} (h:n % 2=1):stepsOf cs n = [((Str.ofString "" : Str),n / 2)]:=by
 unfold stepsOf
 exact if_pos h
theorem steps_len {cs:Combs} {n:Int} (h:¬ n % 2=1):(stepsOf cs n).length<=cs.length:=by
 unfold stepsOf
 rw [if_neg h,List.length_map]
 exact List.length_filter_le _ _
theorem zeg (t:Int) (ts:List Int):inV (V.int t) (ts.map V.int)=decide (t∈ts):=by
 unfold inV
 rw [List.any_map,Bool.eq_iff_iff,List.any_eq_true,decide_eq_true_eq]
 constructor
 ·rintro ⟨x,hx,e⟩
  have:x=t:=by
   have e':(x == t)=true:=e
   exact eq_of_beq e'
  rw [<- this]; exact hx
 ·intro h
  exact ⟨t,h,beq_self_eq_true t⟩
theorem after_canon {ah ts ns:List Int} (ha:ah.Nodup) (hr:∀ t∈ah,0<=t/\t<=6) (ht:ts.Nodup) (hr':∀ t∈ts,0<=t/\t<=7) (hm:meets ah ts=false) (hp:ns.Perm (ah ++ ts)) (hs:ns.Pairwise (· <= ·)):ns=canon (ah ++ ts):=by
 refine zeh hp hs (List.nodup_append.mpr ⟨ha,ht,fun a h1 b h2 e=>meets_false.mp hm b h2 (e ▸ h1)⟩) fun t h => ?_
 rcases List.mem_append.mp h with z | z
 ·have:=hr t z; omega
 ·exact hr' t z
noncomputable def GoesR (H:Hp):List V->List (Str×List Int)->Prop
 | [],[]=>True
 | v :: vs,s :: ss=>(∃ q t,v = .ref q/\H q=some (.tup [.str s.1,.ref t])/\H t=some (.tup (s.2.map V.int)))/\GoesR H vs ss
 | _,_=>False
theorem GoesR.mono {H H':Hp} (m:∀ q xs,H q=some (.tup xs)->H' q=some (.tup xs)):∀ {vs:List V} {ss:List (Str×List Int)},GoesR H vs ss->GoesR H' vs ss
 | [],[],_=>trivial
 | _ :: _,_ :: _,⟨⟨q,t,e,h,h2⟩,r⟩=>⟨⟨q,t,e,m q _ h,m t _ h2⟩,r.mono m⟩
 | [],_ :: _,x=>x.elim
 | _ :: _,[],x=>x.elim
theorem GoesR.length {H:Hp}:∀ {vs:List V} {ss:List (Str×List Int)},GoesR H vs ss->vs.length=ss.length
 | [],[],_=>rfl
 | _ :: _,_ :: _,⟨_,r⟩=>by rw [List.length_cons,List.length_cons,r.length]
 | [],_ :: _,x=>x.elim
 | _ :: _,[],x=>x.elim
theorem GoesR.snoc {H:Hp} {q t:Addr} {s:Str×List Int} (hq:H q=some (.tup [.str s.1,.ref t])) (ht:H t=some (.tup (s.2.map V.int))):∀ {vs:List V} {ss:List (Str×List Int)},GoesR H vs ss->GoesR H (vs ++ [.ref q]) (ss ++ [s])
 | [],[],_=>⟨⟨q,t,rfl,hq,ht⟩,trivial⟩
 | _ :: _,_ :: _,⟨a,r⟩=>⟨a,r.snoc hq ht⟩
 | [],_ :: _,x=>x.elim
 | _ :: _,[],x=>x.elim
theorem GoesR.get {H:Hp} {i:Nat} {s:Str×List Int}:∀ {vs:List V} {ss:List (Str×List Int)},GoesR H vs ss->ss[i]?=some s->∃ q t,vs[i]?=some (.ref q)/\H q=some (.tup [.str s.1,.ref t])/\H t=some (.tup (s.2.map V.int)):=by
 induction i with
 | zero =>
  intro vs ss r e
  match vs,ss,r with
  | [],[],_=>simp at e
  | v :: _,x :: _,⟨⟨q,t,ev,h,h2⟩,_⟩ =>
   simp at e
   subst e
   exact ⟨q,t,by rw [ev]; rfl,h,h2⟩
 | succ i ih =>
  intro vs ss r e
  match vs,ss,r with
  | [],[],_=>simp at e
  | v :: vs,x :: ss,⟨_,r⟩ =>
   obtain ⟨q,t,e1,e2⟩:=ih r (by simpa using e)
   exact ⟨q,t,by simpa using e1,e2⟩
theorem goes_in {cs:Combs} {ah:List Int} (h:(0:Int)∈ah):goesOf cs ah = [((Str.ofString "" : Str),afterOf ah [])]:=by
 unfold goesOf
 exact if_pos h
theorem goes_nil {ah:List Int} (h:(0:Int) ∉ ah):goesOf [] ah = []:=by
 unfold goesOf
 rw [if_neg h]
 rfl
theorem zeC {cs:Combs} {c:Str×List Int} {ah:List Int} (h:(0:Int) ∉ ah):goesOf (cs ++ [c]) ah=goesOf cs ah ++ if meets ah c.2=true then [] else [(c.1,afterOf ah c.2)]:=by
 unfold goesOf
 rw [if_neg h,if_neg h,List.filter_append,List.map_append]
 congr 1
 by_cases e:meets ah c.2=true
 ·rw [if_pos e,List.filter_cons,if_neg (by rw [e]; decide)]
  rfl
 ·rw [if_neg e,List.filter_cons,if_pos (by simpa using e)]
  rfl
end L2
namespace L2
open PySem PySem.Spec PyProof.Rows PySem.W
structure LtOk (n:Nat) (lt:Nat->Nat->Bool):Prop where
 tr:∀ {a b c},lt a b=true->lt b c=true->lt a c=true
 tot:∀ {a b},a < n->b < n->a≠b->lt a b=false->lt b a=true
 irr:∀ a,lt a a=false
noncomputable abbrev gd (p:Array Nat) (i:Nat):Nat:=p.getD i 0
section
variable {n:Nat} {lt:Nat->Nat->Bool} {cmp:Nat->Nat->(Bool->Shared->Prop)->Shared->Prop} {s:Shared}
variable (L:LtOk n lt) (hc:∀ i j C,i < n->j < n->i≠j->C (lt i j) s->cmp i j C s)
include L hc
omit hc L in
omit hc L in
omit hc L in
end
end L2
namespace L2
open PySem PySem.Spec PyProof.Rows PySem.W
open AutoSeq1 (wpAny_loadPart')
open MeetsSeq MeetsSeq2 MeetsSeq3
section
variable {prog:Program} {w:World} {A:Around} {E:Value->Shared->Prop} {s:Shared}
end
noncomputable def kd (ks:List (Str×List Int)) (i:Nat):Str×List Int:=ks.getD i (Str.ofString "",[])
section
variable {X:Cx}
end
noncomputable def intsChk:List Value->List Int->Bool
 | [],[]=>true
 | .int i _ :: r,k :: s=>decide (i=k) && intsChk r s
 | _,_=>false
theorem zfB:∀ {us:List Value} {ns:List Int},intsChk us ns=true->Vals (ns.map V.int) us
 | [],[],_ => .nil
 | .int i t :: r,k :: s,h=>by
  simp only [intsChk,Bool.and_eq_true,decide_eq_true_eq] at h
  obtain ⟨rfl,h⟩:=h
  exact .cons ⟨t,rfl⟩ (zfB h)
 | [],_ :: _,h=>by cases h
noncomputable def tupChk (K:PySem.W.Frag) (a:Addr) (ns:List Int):Bool:=match K.lookup a with
 | some o=>(o.cls == .type "tuple") && match o.data with
  | .seq its _=>intsChk its.toList ns && decide (its.size<=1000)
  | _=>false
 | none=>false
theorem tup_chk {K:PySem.W.Frag} {a:Addr} {ns:List Int} (h:tupChk K a ns=true) (H:Hp):SqT K H a (ns.map V.int):=by
 unfold tupChk at h
 split at h
 ·rename_i o e
  rw [Bool.and_eq_true] at h
  obtain ⟨hc,h⟩:=h
  split at h
  ·rename_i its n ed
   rw [Bool.and_eq_true] at h
   exact .inr ⟨o,its,n,e,eq_of_beq hc,ed,big (of_decide_eq_true h.2),zfB h.1⟩
  ·cases h
 ·cases h
end L2
namespace L2
open PySem PySem.Spec PyProof.Rows
theorem zgR {J:It} {Ok:Hp->Prop} {L:List V} {tf:TT} {te:TE} {D:Addr} {σ0 capv:St} {H1:Hp} {Q:VK} (hσ : σ0=none :: capv) (G:Gives J Ok L) (hL:L.length<=sizeLine) (hD:H1 D=none) (hOk:∀ H,Same H1 H->Ok H) (p:Nat->Bool) (Rel:Hp->Nat->V->Prop)
  (hm:∀ H H' i v,Same H H'->Rel H i v->Rel H' i v) (hw:∀ H i v l l',v ≠ .ref D->H D=some (.lst l)->Rel H i v->Rel (upd H D (.lst l')) i v)
  (ht:∀ (i:Nat) x,L[i]?=some x->∀ H R,Same H1 H->(∀ H',Same H H'->R (p i) H')->tf (some x :: capv) H R)
  (he:∀ (i:Nat) x,L[i]?=some x->p i=true->∀ H R,Same H1 H->H D≠none->(∀ H' v,Same H H'->v ≠ .ref D->Rel H' i v->R v H')->te (some x :: capv) H R)
  (hd:∀ H ys,Same H1 H->H D=some (.lst ys)->Paired (fun i y=>y ≠ .ref D/\Rel H i y) ((List.range L.length).filter p) ys->Q (.ref D) H) :
  CompW J D σ0 H1 (gName 0) tf te Q:=by
 subst hσ
 refine zgq G (fun i xs σ H=>(∃ o,σ = o :: capv)/\Same H1 H/\H D=some (.lst xs)/\Paired (fun i y=>y ≠ .ref D/\Rel H i y) ((List.range i).filter p) xs) ⟨⟨none,rfl⟩,Same.new hD,zad,.nil⟩ (fun i xs σ H _ h=>hOk H h.2.1) ?_ ?_
 ·rintro i x xs σ H hi hx ⟨⟨o,rfl⟩,s,e,hr⟩
  show tf (some x :: capv) H _
  refine ht i x hx H _ s fun H' s' => ?_
  have hxl:xs.length<=i:=by
   rw [<- Paired.length hr]
   exact Nat.le_trans (List.length_filter_le _ _) (by rw [List.length_range]; omega)
  have efil:(List.range (i + 1)).filter p=(List.range i).filter p ++ if p i=true then [i] else []:=by
   rw [List.range_succ,List.filter_append]
   congr 1
   rw [List.filter_cons,List.filter_nil]
  cases hp:p i with
  | true =>
   rw [if_pos rfl]
   refine he i x hx hp H' _ (s.trans s') (by rw [s' _ _ e]; exact nofun) fun H2 v s2 hv rv => ?_
   have e2:=s2 _ _ (s' _ _ e)
   refine CNext.of hi hL e2 hxl ⟨⟨some x,rfl⟩,((s.trans s').trans s2).put hD,zad,?_⟩
   rw [efil,if_pos hp]
   exact Paired.snoc (Paired.mapP hr fun j y z=>⟨z.1,hw _ _ _ _ _ z.1 e2 (hm _ _ _ _ (s'.trans s2) z.2)⟩) ⟨hv,hw _ _ _ _ _ hv e2 rv⟩
  | false =>
   rw [if_neg Bool.false_ne_true]
   refine CSkip.of (xs:=xs) hi ⟨⟨some x,rfl⟩,s.trans s',s' _ _ e,?_⟩
   rw [efil,if_neg (by rw [hp]; exact Bool.false_ne_true),List.append_nil]
   exact Paired.mapP hr fun j y z=>⟨z.1,hm _ _ _ _ s' z.2⟩
 ·rintro xs σ H ⟨_,s,e,hr⟩
  exact hd H xs s e hr
theorem Paired.at {α β : Type} {R : α -> β -> Prop}:∀ {l:List α} {m:List β} {i:Nat} {x : α},Paired R l m->l[i]?=some x->∃ y,m[i]?=some y/\R x y
 | _,_,i,x,.nil,h=>by simp at h
 | _,_,0,x,.cons h r,e=>by
  simp at e
  subst e
  exact ⟨_,rfl,h⟩
 | _,_,i + 1,x,.cons h r,e=>by
  obtain ⟨y,e1,e2⟩:=Paired.at (i:=i) r (by simpa using e)
  exact ⟨y,by simpa using e1,e2⟩
theorem zcA {J:It} {Ok:Hp->Prop} {L:List V} {tf:TT} {te:TE} {D:Addr} {σ0 capv:St} {H1:Hp} {Q:VK} (hσ : σ0=none :: capv) (G:Gives J Ok L) (hL:L.length<=sizeLine) (hD:H1 D=none) (hOk:∀ H,Same H1 H->Ok H) (p:Nat->Bool) (F:Nat->V) (hF:∀ i,i < L.length->p i=true->F i ≠ .ref D)
  (ht:∀ (i:Nat) x,L[i]?=some x->∀ H R,Same H1 H->(∀ H',Same H H'->R (p i) H')->tf (some x :: capv) H R)
  (he:∀ (i:Nat) x,L[i]?=some x->p i=true->∀ H R,Same H1 H->(∀ H',Same H H'->R (F i) H')->te (some x :: capv) H R)
  (hd:∀ H,Same H1 H->H D=some (.lst (((List.range L.length).filter p).map F))->Q (.ref D) H) :
  CompW J D σ0 H1 (gName 0) tf te Q:=by
 refine zgR hσ G hL hD hOk p (fun _ i v=>v=F i) (fun _ _ _ _ _ h=>h) (fun _ _ _ _ _ _ _ h=>h) ht (fun i x hx hp H R s _ h=>he i x hx hp H R s fun H' s'=>h H' _ s' (hF i (List.getElem?_eq_some_iff.mp hx).1 hp) rfl) fun H ys s e pr=>hd H s ?_
 rw [e]
 have:∀ {l:List Nat} {m:List V},Paired (fun i y=>y ≠ .ref D/\y=F i) l m->m=l.map F:=by
  intro l m q
  induction q with
  | nil=>rfl
  | cons h _ ih=>rw [List.map_cons,<- ih,h.2]
 rw [this pr]
noncomputable def nmSort (cs:Combs):List Str:=(cs.map (·.1)).mergeSort fun a b=>decide (a.cps.toList<=b.cps.toList)
theorem zf7 (cs:Combs):(nmSort cs).Perm (cs.map (·.1)):=List.mergeSort_perm _ _
theorem nm_sorted (cs:Combs):sortedS (nmSort cs)=true:=by
 refine sortedS_of_pairwise _ ?_
 have h:=List.pairwise_mergeSort (le:=fun a b:Str=>decide (a.cps.toList<=b.cps.toList)) (fun a b c h1 h2=>decide_eq_true (List.le_trans (of_decide_eq_true h1) (of_decide_eq_true h2))) (fun a b=>by
  rcases List.le_total a.cps.toList b.cps.toList with h | h
  ·rw [decide_eq_true h]; rfl
  ·rw [decide_eq_true h,Bool.or_true]) (cs.map (·.1))
 exact h.imp fun {a b} h=>sle_iff.mp (show a.cps.toList<=b.cps.toList from of_decide_eq_true h)
noncomputable def srt (cs:Combs):Combs:=byNames cs (nmSort cs)
theorem zcc {cs:Combs} (nd:(cs.map (·.1)).Nodup) {c:Str×List Int} (h:c∈cs):cGet cs c.1=some c.2:=by
 induction cs with
 | nil=>cases h
 | cons d cs ih =>
  rw [zcW]
  rw [List.map_cons,List.nodup_cons] at nd
  rcases List.mem_cons.mp h with rfl | h
  ·exact if_pos rfl
  ·rw [if_neg (fun z:d.1=c.1=>nd.1 (z ▸ List.mem_map.mpr ⟨c,h,rfl⟩))]
   exact ih nd.2 h
theorem by_same {cs ks:Combs} (nd:(cs.map (·.1)).Nodup) (p:ks.Perm cs):byNames cs (ks.map (·.1))=ks:=by
 unfold byNames
 rw [List.map_map]
 conv=>rhs; rw [<- List.map_id ks]
 refine List.map_congr_left fun k hk => ?_
 show (k.1,(cGet cs k.1).getD [])=k
 rw [zcc nd (p.mem_iff.mp hk)]
 rfl
theorem zbn {cs:Combs} (nd:(cs.map (·.1)).Nodup):(srt cs).Perm cs:=by
 have h:(byNames cs (nmSort cs)).Perm (byNames cs (cs.map (·.1))):=(zf7 cs).map _
 rw [by_same nd (List.Perm.refl _)] at h
 exact h
noncomputable def stp (C:Combs) (s:Nat):List (Str×Int):=stepsOf C (s:Int)
noncomputable def nxtRow (C:Combs) (r:List Bool):List Bool:=(List.range 128).map fun s=>(stp C s).any fun p=>r.getD p.2.toNat false
noncomputable def rowAt (C:Combs):Nat->List Bool
 | 0=>List.replicate 128 true
 | k + 1=>nxtRow C (rowAt C k)
theorem za6 (C:Combs):∀ k,(rowAt C k).length=128
 | 0=>by simp [rowAt]
 | k + 1=>by simp [rowAt,nxtRow]
noncomputable abbrev tr (r:List Bool) (s:Nat):Bool:=r.getD s false
theorem zdY {C:Combs} {r:List Bool} {s:Nat} (h:s < 128):tr (nxtRow C r) s=(stp C s).any fun p=>tr r p.2.toNat:=by
 unfold tr nxtRow
 rw [List.getD_eq_getElem?_getD,List.getElem?_map,List.getElem?_range h]
 rfl
theorem zfK {C:Combs} {s:Nat} (h:s < 128):tr (rowAt C 0) s=true:=by
 unfold tr rowAt
 rw [List.getD_eq_getElem?_getD,List.getElem?_replicate,if_pos h]
 rfl
noncomputable def GC (C:Combs):Prop:=∀ c∈C,GT c.2
theorem zcM {C:Combs} (g:GC C) {s:Nat} (h:s < 128) {p:Str×Int} (hp:p∈stp C s):0<=p.2/\p.2.toNat < 128:=by
 have:=steps_lt (n:=(s:Int)) (by omega) (by omega) g p hp
 omega
theorem zeR {C:Combs} (g:GC C):∀ k s,s < 128->tr (rowAt C (k + 1)) s=true->tr (rowAt C k) s=true
 | 0,s,h,_=>zfK h
 | k + 1,s,h,e=>by
  rw [show rowAt C (k + 1 + 1)=nxtRow C (rowAt C (k + 1)) from rfl,zdY h] at e
  rw [show rowAt C (k + 1)=nxtRow C (rowAt C k) from rfl,zdY h]
  obtain ⟨p,hp,e⟩:=List.any_eq_true.mp e
  exact List.any_eq_true.mpr ⟨p,hp,zeR g k _ (zcM g h hp).2 e⟩
theorem count_less {a b:List Bool} (hl:a.length=b.length) (hm:∀ s,tr a s=true->tr b s=true) (hn:a≠b):a.count true < b.count true:=by
 induction a generalizing b with
 | nil =>
  cases b with
  | nil=>exact absurd rfl hn
  | cons _ _=>simp at hl
 | cons x a ih =>
  cases b with
  | nil=>simp at hl
  | cons y b =>
   have hm':∀ s,tr a s=true->tr b s=true:=fun s h=>hm (s + 1) h
   have h0:x=true->y=true:=fun h=>hm 0 h
   have hl':a.length=b.length:=by simpa using hl
   have le:a.count true<=b.count true:=by
    by_cases e:a=b
    ·rw [e]; exact Nat.le_refl _
    ·exact Nat.le_of_lt (ih hl' hm' e)
   rw [List.count_cons,List.count_cons]
   by_cases e:a=b
   ·subst e
    cases x with
    | true=>rw [h0 rfl] at hn; exact absurd rfl hn
    | false =>
     cases y with
     | false=>exact absurd rfl hn
     | true=>simp
   ·have:=ih hl' hm' e
    cases x with
    | true=>rw [h0 rfl]; simp; omega
    | false=>simp; omega
theorem tr_out {C:Combs} {k s:Nat} (h:¬ s < 128):tr (rowAt C k) s=false:=by
 unfold tr
 rw [List.getD_eq_getElem?_getD,List.getElem?_eq_none (by rw [za6]; omega)]
 rfl
theorem row_less {C:Combs} (g:GC C) {k:Nat} (h:rowAt C (k + 1)≠rowAt C k):(rowAt C (k + 1)).count true < (rowAt C k).count true:=by
 refine count_less (by rw [za6,za6]) (fun s e => ?_) h
 by_cases hs:s < 128
 ·exact zeR g k s hs e
 ·rw [tr_out hs] at e; cases e
theorem zbH (lo:Int) (n:Nat):((List.range n).map fun i=>V.int (lo + ((i:Nat):Int))).length=n:=by rw [List.length_map,List.length_range]
theorem at0 {x y:V}:atI [x,y] 0=some x:=show atI [x,y] ((0:Nat):Int)=_ from zax rfl
theorem at1 {x y:V}:atI [x,y] 1=some y:=show atI [x,y] ((1:Nat):Int)=_ from zax rfl
theorem zc6 {C:Combs} (h8:C.length<=8) (s:Nat):(stp C s).length<=8:=by
 unfold stp
 by_cases e:(s:Int) % 2=1
 ·rw [zeo e]; exact Nat.le_of_ble_eq_true rfl
 ·exact Nat.le_trans (steps_len e) h8
theorem zdX {α : Type} {ws:List α} {m:Nat} {x : α} (hl:ws.length=m + 1) (h:ws[m]?=some x):atI ws (-1)=some x:=by
 have hne:ws ≠ []:=fun z=>by rw [z] at hl; simp at hl
 have e:ws=ws.dropLast ++ [ws.getLast hne]:=(List.dropLast_concat_getLast hne).symm
 have e2:ws.getLast hne=x:=by
  rw [List.getLast_eq_getElem]
  have:ws[m]?=some (ws[ws.length - 1]'(by omega)):=by rw [List.getElem?_eq_getElem (by omega)]; congr 2; omega
  rw [h] at this
  exact (Option.some.inj this).symm
 rw [e,e2]
 exact at_last _ _
theorem eqv_bools (a b:List Bool):PyData.eqv (.list (a.map PyData.bool)) (.list (b.map PyData.bool))=decide (a=b):=by
 rw [PyData.eqv]
 induction a generalizing b with
 | nil=>cases b with
  | nil=>simp [PyData.eqvAll]
  | cons y b=>simp [PyData.eqvAll]
 | cons x a ih=>cases b with
  | nil=>simp [PyData.eqvAll]
  | cons y b =>
   rw [List.map_cons,List.map_cons,PyData.eqvAll,ih b]
   cases x <;> cases y <;> simp [PyData.eqv]
theorem zcN (a:List Bool):SeqAt.shaped (.list (a.map PyData.bool))=true:=by
 have h1:PyData.canLayAll0 (a.map PyData.bool)=true:=by
  induction a with
  | nil=>rfl
  | cons x a ih=>rw [List.map_cons,PyData.canLayAll0,ih]; cases x <;> rfl
 have h2:∀ a:List Bool,PyData.depthAll (a.map PyData.bool)=0:=by
  intro a
  induction a with
  | nil=>rfl
  | cons x a ih=>rw [List.map_cons,PyData.depthAll,ih]; rfl
 simp [SeqAt.shaped,PyData.canLay0,PyData.depth,h1,h2]
theorem zfd {K:PySem.W.Frag} {H:Hp} {a:Addr} {bs:List Bool} (h:H a=some (.lst (bs.map V.bl))):VD K H (.ref a) (.list (bs.map PyData.bool)) := .lst (SqL.of h) (VDs.map fun x _ => .bl x)
noncomputable def RowsR (H:Hp) (ws:List V) (C:Combs) (m:Nat):Prop:=ws.length=m + 1/\∀ i:Nat,i<=m->∃ q,ws[i]?=some (.ref q)/\H q=some (.lst ((rowAt C i).map V.bl))
theorem RowsR.same {H H':Hp} {ws:List V} {C:Combs} {m:Nat} (r:RowsR H ws C m) (s:Same H H'):RowsR H' ws C m:=⟨r.1,fun i h=>let ⟨q,a,b⟩:=r.2 i h; ⟨q,a,s _ _ b⟩⟩
theorem RowsR.ne {H:Hp} {ws:List V} {C:Combs} {m:Nat} (r:RowsR H ws C m) {p q:Addr} {bs:List Bool} (hp:H p=some (.lst ws)) (hq:H q=some (.lst (bs.map V.bl))):q≠p:=fun z=>by
 rw [z,hp] at hq
 obtain ⟨qa,e,_⟩:=r.2 0 (Nat.zero_le _)
 injection hq with hq
 injection hq with hq
 rw [hq,List.getElem?_map] at e
 cases h:bs[0]? with
 | none=>rw [h] at e; cases e
 | some b=>rw [h] at e; cases e
theorem RowsR.snoc {H:Hp} {ws:List V} {C:Combs} {m:Nat} (r:RowsR H ws C m) {p q:Addr} (hp:H p=some (.lst ws)) (hq:H q=some (.lst ((rowAt C (m + 1)).map V.bl))):RowsR (upd H p (.lst (ws ++ [.ref q]))) (ws ++ [.ref q]) C (m + 1):=by
 refine ⟨by rw [List.length_append,r.1]; rfl,fun i hi => ?_⟩
 by_cases e:i=m + 1
 ·subst e
  exact ⟨q,by rw [List.getElem?_append_right (by rw [r.1]; omega),r.1]; simp,by rw [zai (r.ne hp hq)]; exact hq⟩
 ·obtain ⟨qa,e1,e2⟩:=r.2 i (by omega)
  exact ⟨qa,by rw [List.getElem?_append_left (by rw [r.1]; omega)]; exact e1,by rw [zai (r.ne hp e2)]; exact e2⟩
theorem zfJ:∀ {xs:List V} {us:List Value},xs.length=us.length->(∀ (j:Nat) x u,xs[j]?=some x->us[j]?=some u->RelV x u)->Vals xs us
 | [],[],_,_ => .nil
 | x :: xs,u :: us,hl,h => .cons (h 0 x u rfl rfl) (zfJ (by simpa using hl) fun j y z e1 e2=>h (j + 1) y z (by simpa using e1) (by simpa using e2))
section
variable {X:Cx}
theorem call_listD (hc:X.calm=true):CallR X (.type "list") (fun xs H Q=>∃ (a:Addr) (kvs:List (Key×V)),xs = [V.ref a]/\Rd H a (.dK kvs)/\∀ l,H l=none->Q (.ref l) (upd H l (.lst (kvs.map fun kv=>kV kv.1)))):=by
 intro pins s σ H xs us Q I r h
 obtain ⟨a,kvs,rfl,hq,q⟩:=h
 obtain ⟨u,rfl,ru⟩:=zbJ r
 cases ru
 obtain ⟨hz,lo,vs,kv,hD⟩:=(show ObjOk X.prog X.w H s.heap a (.dK kvs) from hq.ok I.hok)
 obtain ⟨ep,hat⟩:=hD.dictAt
 have hlen:=kv.length
 refine PySem.W.kdl_call (PySem.W.kdl_dict (knd:=mixKind X.prog X.w) (kvs:=vs) (ep:=ep) lo) (I.ok.hd hc) hat (by omega) fun h' tk acc c' hk hS hacc => ?_
 refine ⟨.ref s.heap.objs.size,_,I.laid (t':=tk) hk (Nat.le_refl _) (show ObjOk X.prog X.w _ h' _ (.lst (kvs.map fun kv=>kV kv.1)) from ⟨by rw [List.length_map]; exact hz,acc.toList,c',zfJ ?_ ?_,by simpa using hS⟩),rfl,q _ (I.hok.fresh (Nat.le_refl _))⟩
 ·have e:=hacc.1
  rw [List.length_map,Array.length_toList]
  exact hlen.trans e.symm
 ·intro j x u e1 e2
  obtain ⟨k,y,e3,hk2⟩:=hacc.2 j u (by rw [<- Array.getElem?_toList]; exact e2)
  obtain ⟨v',e4,_⟩:=kv.get e3
  rw [List.getElem?_map,e4] at e1
  cases e1
  exact kV_rel hk2
end
theorem zbM:∀ (n:Nat) (l:List Nat),l.Nodup->(∀ x∈l,x < n)->l.length<=n
 | 0,[],_,_=>Nat.le_refl _
 | 0,x :: l,_,h=>absurd (h x List.mem_cons_self) (by omega)
 | n + 1,l,nd,h=>by
  by_cases hn:n∈l
  ·have e:=List.length_erase_of_mem hn
   have:=zbM n (l.erase n) (nd.erase n) (fun x hx=>by
    have h1:=h x (List.mem_of_mem_erase hx)
    have h2:x≠n:=((List.Nodup.mem_erase_iff nd).mp hx).1
    omega)
   omega
  ·have:=zbM n l nd (fun x hx=>by
    have h1:=h x hx
    have h2:x≠n:=fun z=>hn (z ▸ hx)
    omega)
   omega
noncomputable def nx (C:Combs) (row:List Bool) (s:Nat):Option (Str×Int):=(stp C s).find? fun p=>tr row p.2.toNat
noncomputable def wk (C:Combs) (row:List Bool) (s:Nat):Nat->Nat
 | 0=>s
 | i + 1=>((nx C row (wk C row s i)).map (·.2.toNat)).getD 0
noncomputable def wn (C:Combs) (row:List Bool) (s i:Nat):Str:=((nx C row (wk C row s i)).map (·.1)).getD (Str.ofString "")
theorem zg1 {C:Combs} {row:List Bool} (g:GC C) (hr:nxtRow C row=row) {s:Nat} (hs:s < 128) (ht:tr row s=true):∃ p,nx C row s=some p/\p∈stp C s/\0<=p.2/\p.2.toNat < 128/\tr row p.2.toNat=true:=by
 rw [<- hr,zdY hs] at ht
 cases e:nx C row s with
 | none =>
  have:=List.find?_eq_none.mp e
  obtain ⟨p,hp,hq⟩:=List.any_eq_true.mp ht
  exact absurd hq (this p hp)
 | some p =>
  have hm:p∈stp C s:=List.mem_of_find?_eq_some e
  exact ⟨p,rfl,hm,(zcM g hs hm).1,(zcM g hs hm).2,by have:=List.find?_some e; exact this⟩
theorem zgv {C:Combs} {row:List Bool} (g:GC C) (hr:nxtRow C row=row) {s:Nat} (hs:s < 128) (ht:tr row s=true):∀ i,wk C row s i < 128/\tr row (wk C row s i)=true
 | 0=>⟨hs,ht⟩
 | i + 1=>by
  obtain ⟨h1,h2⟩:=zgv g hr hs ht i
  obtain ⟨p,e,_,_,h4,h5⟩:=zg1 g hr h1 h2
  have:wk C row s (i + 1)=p.2.toNat:=by
   show ((nx C row (wk C row s i)).map (·.2.toNat)).getD 0=_
   rw [e]; rfl
  rw [this]
  exact ⟨h4,h5⟩
theorem zfI {C:Combs} {row:List Bool} (g:GC C) (hr:nxtRow C row=row) {s:Nat} (hs:s < 128) (ht:tr row s=true) (i:Nat):nx C row (wk C row s i)=some (wn C row s i,(wk C row s (i + 1):Int)):=by
 obtain ⟨h1,h2⟩:=zgv g hr hs ht i
 obtain ⟨p,e,_,h3,h4,h5⟩:=zg1 g hr h1 h2
 have a:wn C row s i=p.1:=by unfold wn; rw [e]; rfl
 have b:wk C row s (i + 1)=p.2.toNat:=by
  show ((nx C row (wk C row s i)).map (·.2.toNat)).getD 0=_
  rw [e]; rfl
 rw [e,a,b,show ((p.2.toNat:Nat):Int)=p.2 by omega]
theorem wk_mem {C:Combs} {row:List Bool} (g:GC C) (hr:nxtRow C row=row) {s:Nat} (hs:s < 128) (ht:tr row s=true) (i:Nat):(wn C row s i,(wk C row s (i + 1):Int))∈stp C (wk C row s i):=List.mem_of_find?_eq_some (zfI g hr hs ht i)
noncomputable def seenK (f:Nat->Nat) (i:Nat):List (Key×V):=(List.range i).map fun j=>(Sum.inl ((f j:Nat):Int),V.int (j:Int))
theorem seenK_succ (f:Nat->Nat) (i:Nat):seenK f (i + 1)=seenK f i ++ [(Sum.inl ((f i:Nat):Int),V.int (i:Int))]:=by
 unfold seenK
 rw [List.range_succ,List.map_append]
 rfl
theorem zep (f:Nat->Nat) (i:Nat):(seenK f i).length=i:=by unfold seenK; rw [List.length_map,List.length_range]
theorem zc8 (f:Nat->Nat) (i x:Nat):valV (seenK f i) (Sum.inl (x:Int))=((List.range i).find? fun j=>decide (f j=x)).map fun (j:Nat)=>V.int (j:Int):=by
 unfold valV seenK
 have e:(fun j:Nat=>decide ((Sum.inl ((f j:Nat):Int):Key)=Sum.inl (x:Int)))=fun j=>decide (f j=x):=funext fun j=>by
  rw [decide_eq_decide]
  constructor
  ·intro h; injection h with h; omega
  ·intro h; rw [h]
 rw [List.find?_map,Option.map_map]
 show Option.map (fun j:Nat=>V.int (j:Int)) (List.find? (fun j:Nat=>decide ((Sum.inl ((f j:Nat):Int):Key)=Sum.inl (x:Int))) (List.range i))=_
 rw [e]
noncomputable def LaysR (H:Hp) (vs:List V) (n:Nat->Str) (i:Nat):Prop:=Paired (fun (j:Nat) (v:V)=>∃ q,v = .ref q/\H q=some (.tup [.int (j:Int),.str (n j)])) ((List.range i).filter fun j=>decide (n j≠Str.ofString "")) vs
theorem LaysR.mono {H H':Hp} {vs:List V} {n:Nat->Str} {i:Nat} (m:∀ q xs,H q=some (.tup xs)->H' q=some (.tup xs)) (r:LaysR H vs n i):LaysR H' vs n i:=Paired.mapP r fun _ _ ⟨q,a,b⟩=>⟨q,a,m _ _ b⟩
theorem LaysR.skip {H:Hp} {vs:List V} {n:Nat->Str} {i:Nat} (r:LaysR H vs n i) (h:n i=Str.ofString ""):LaysR H vs n (i + 1):=by
 unfold LaysR
 rw [List.range_succ,List.filter_append,List.filter_cons,if_neg (by simpa using h),List.filter_nil,List.append_nil]
 exact r
theorem LaysR.snoc {H:Hp} {vs:List V} {n:Nat->Str} {i:Nat} {q:Addr} (r:LaysR H vs n i) (h:n i≠Str.ofString "") (hq:H q=some (.tup [.int (i:Int),.str (n i)])):LaysR H (vs ++ [.ref q]) n (i + 1):=by
 unfold LaysR
 rw [List.range_succ,List.filter_append,List.filter_cons,if_pos (by simpa using h),List.filter_nil]
 exact Paired.snoc r ⟨q,rfl,hq⟩
theorem LaysR.len {H:Hp} {vs:List V} {n:Nat->Str} {i:Nat} (r:LaysR H vs n i):vs.length<=i:=by
 rw [<- Paired.length r]
 exact Nat.le_trans (List.length_filter_le _ _) (by rw [List.length_range]; omega)
theorem zdd {C:Combs} {m:Nat} (h:nxtRow C (rowAt C m)=rowAt C m):∀ k,rowAt C (m + k)=rowAt C m
 | 0=>rfl
 | k + 1=>by
  show nxtRow C (rowAt C (m + k))=_
  rw [zdd h k,h]
theorem zfq {C:Combs} {m m':Nat} (h:nxtRow C (rowAt C m)=rowAt C m) (h':nxtRow C (rowAt C m')=rowAt C m'):rowAt C m=rowAt C m':=by
 rcases Nat.le_total m m' with e | e
 ·rw [show m'=m + (m' - m) by omega,zdd h]
 ·rw [show m=m' + (m - m') by omega,zdd h']
theorem zfL {C:Combs} (g:GC C) {s:Nat} (hs:s < 128) {i:Nat}:∀ k,tr (rowAt C (i + k)) s=true->tr (rowAt C i) s=true
 | 0,h=>h
 | k + 1,h=>zfL g hs k (zeR g (i + k) s hs h)
theorem zdV {α : Type} (js:List α) (p : α -> Bool) (d : α):((List.range js.length).filter fun i=>p (js.getD i d)).map (fun i=>js.getD i d)=js.filter p:=by
 induction js with
 | nil=>rfl
 | cons x js ih =>
  rw [List.length_cons,List.range_succ_eq_map,List.filter_cons,List.filter_cons,List.filter_map]
  show _=if p x=true then x :: js.filter p else js.filter p
  have e:List.map (fun i=>(x :: js).getD i d) (List.map Nat.succ (List.filter ((fun i=>p ((x :: js).getD i d)) ∘ Nat.succ) (List.range js.length)))=js.filter p:=by
   rw [List.map_map,<- ih]
   rfl
  by_cases h:p x=true
  ·rw [if_pos (by simpa using h),if_pos h,List.map_cons,e]
   rfl
  ·rw [if_neg (by simpa using h),if_neg h,e]
end L2
namespace L2
open PySem PySem.Spec PyProof.Rows
section
variable {prog:Program} {w:World} {A:Around} {E:Value->Shared->Prop} {s:Shared} {d it:Addr} {o:Obj} {es:Array DictEntry} {ep i:Nat}
end
theorem Paired.rev {α β : Type} {R : α -> β -> Prop}:∀ {l:List α} {m:List β} {i:Nat} {y : β},Paired R l m->m[i]?=some y->∃ x,l[i]?=some x/\R x y
 | _,_,i,x,.nil,h=>by simp at h
 | _,_,0,x,.cons h r,e=>by
  simp at e
  subst e
  exact ⟨_,rfl,h⟩
 | _,_,i + 1,x,.cons h r,e=>by
  obtain ⟨y,e1,e2⟩:=Paired.rev (i:=i) r (by simpa using e)
  exact ⟨y,by simpa using e1,e2⟩
section
variable {X:Cx} {pins:List (Addr×Obj)} {σ : St} {H:Hp} {s:Shared} {a:Addr} {kvs:List (List Key×V)}
end
section
variable {X:Cx} {tg:Expr}
end
section
variable {prog:Program} {w:World} {A:Around} {E:Value->Shared->Prop} {s:Shared} {d:Addr} {o:Obj} {es:Array DictEntry} {ep:Nat}
end
noncomputable def kI (ns:List Int):List Key:=ns.map Sum.inl
theorem zgL:∀ {a b:List Int},kI a=kI b->a=b
 | [],[],_=>rfl
 | [],_ :: _,h=>by cases h
 | _ :: _,[],h=>by cases h
 | x :: a,y :: b,h=>by
  unfold kI at h
  rw [List.map_cons,List.map_cons] at h
  injection h with h1 h2
  injection h1 with h1
  rw [h1,zgL h2]
section
variable {X:Cx}
end
end L2
namespace L2
open PySem PySem.Spec PyProof.Rows
theorem steps_perm {C C':Combs} (p:C.Perm C') (n:Int):(stepsOf C n).Perm (stepsOf C' n):=by
 unfold stepsOf
 split
 ·exact List.Perm.refl _
 ·exact (p.filter _).map _
theorem any_perm {α : Type} {l l':List α} (p:l.Perm l') (f : α -> Bool):l.any f=l'.any f:=by
 rw [Bool.eq_iff_iff,List.any_eq_true,List.any_eq_true]
 exact ⟨fun ⟨x,h,e⟩=>⟨x,p.mem_iff.mp h,e⟩,fun ⟨x,h,e⟩=>⟨x,p.mem_iff.mpr h,e⟩⟩
noncomputable def akey (s:Nat):List Key:=kI (aheadOf (s:Int))
theorem valV_mem {κ : Type} [DecidableEq κ] {kvs:List (κ × V)} {k : κ}:(valV kvs k).isSome=true ↔ k∈kvs.map (·.1):=by
 rw [<- zbu,List.any_eq_true,List.mem_map]
 constructor
 ·rintro ⟨x,hx,e⟩; exact ⟨x,hx,of_decide_eq_true e⟩
 ·rintro ⟨x,hx,e⟩; exact ⟨x,hx,decide_eq_true e⟩
theorem zb4 {ks:Combs} {s:Nat} (hs:s < 128) (g:GC ks):(goesOf ks (aheadOf (s:Int))).map (fun p=>(p.1,worth p.2))=stp ks s:=zdC (by omega) (by omega) g
theorem goes_key {ks:Combs} {s:Nat} (hs:s < 128) (g:GC ks) {p:Str×List Int} (hp:p∈goesOf ks (aheadOf (s:Int))):(worth p.2).toNat < 128/\0<=worth p.2/\kI p.2=akey (worth p.2).toNat/\(p.1,worth p.2)∈stp ks s:=by
 have hm:(p.1,worth p.2)∈stp ks s:=by rw [<- zb4 hs g]; exact List.mem_map.mpr ⟨p,hp,rfl⟩
 have hlt:=zcM g hs hm
 refine ⟨hlt.2,hlt.1,?_,hm⟩
 have:∃ a b,p.2=afterOf a b:=by
  unfold goesOf at hp
  split at hp
  ·rw [List.mem_singleton.mp hp]; exact ⟨_,_,rfl⟩
  ·obtain ⟨c,_,rfl⟩:=List.mem_map.mp hp; exact ⟨_,_,rfl⟩
 obtain ⟨a,b,e⟩:=this
 unfold akey
 rw [show (((worth p.2).toNat:Nat):Int)=worth p.2 by have:=hlt.1; show _=_; omega]
 congr 1
 rw [e]
 have hs:afterOf a b=((List.range 7).filter fun i=>decide (((i:Nat):Int)∈afterOf a b)).map fun i=>((i:Nat):Int):=by
  refine zbd ?_ ((zc0 a b).imp fun h=>by omega) ?_
  ·rw [List.perm_ext_iff_of_nodup (zaU (zc0 a b))]
   ·intro t
    simp only [List.mem_map,List.mem_filter,List.mem_range,decide_eq_true_eq]
    constructor
    ·intro h
     have:=zej t h
     exact ⟨t.toNat,⟨by omega,by rwa [show ((t.toNat:Nat):Int)=t by omega]⟩,by omega⟩
    ·rintro ⟨i,⟨_,h⟩,rfl⟩
     exact h
   ·refine zaU ?_
    rw [List.pairwise_map]
    refine List.Pairwise.sublist List.filter_sublist (List.Pairwise.imp ?_ (List.pairwise_lt_range (n:=7)))
    intro a b h
    omega
  ·rw [List.pairwise_map]
   refine List.Pairwise.sublist List.filter_sublist (List.Pairwise.imp ?_ (List.pairwise_lt_range (n:=7)))
   intro a b h
   omega
 rw [hs]
 exact (ahead_worth _).symm
end L2
namespace L2
open PySem PySem.Spec PyProof.Rows
end L2
namespace L2
open PySem PySem.Spec PyProof.Rows
theorem comp_x2 {K:PySem.W.Frag} {J:It} {Ok:Hp->Prop} {L:List V} {tf:TT} {te:TE} {D:Addr} {σ0 capv:St} {H1:Hp} {Q:VK} (hσ : σ0=none :: none :: capv) (G:Gives J Ok L) (hL:L.length<=sizeLine) (hD:H1 D=none) (hOk:∀ H,Same H1 H->Ok H) (X Y:Nat->V) (hXY:∀ (i:Nat) x,L[i]?=some x->∃ q,x = .ref q/\H1 q=some (.tup [X i,Y i])) (p:Nat->Bool) (Rel:Hp->Nat->V->Prop)
  (hm:∀ H H' i v,Same H H'->Rel H i v->Rel H' i v) (hw:∀ H i v l l',v ≠ .ref D->H D=some (.lst l)->Rel H i v->Rel (upd H D (.lst l')) i v)
  (ht:∀ i,i < L.length->∀ H R,Same H1 H->(∀ H',Same H H'->R (p i) H')->tf (some (X i) :: some (Y i) :: capv) H R)
  (he:∀ i,i < L.length->p i=true->∀ H R,Same H1 H->H D≠none->(∀ H' v,Same H H'->v ≠ .ref D->Rel H' i v->R v H')->te (some (X i) :: some (Y i) :: capv) H R)
  (hd:∀ H ys,Same H1 H->H D=some (.lst ys)->Paired (fun i y=>y ≠ .ref D/\Rel H i y) ((List.range L.length).filter p) ys->Q (.ref D) H) :
  CompW J D σ0 H1 (gTup K 2 (gCons (gName 0) (gCons (gName 1) gNil))) tf te Q:=by
 subst hσ
 refine zgq G (fun i xs σ H=>(∃ o1 o2,σ = o1 :: o2 :: capv)/\Same H1 H/\H D=some (.lst xs)/\Paired (fun i y=>y ≠ .ref D/\Rel H i y) ((List.range i).filter p) xs) ⟨⟨none,none,rfl⟩,Same.new hD,zad,.nil⟩ (fun i xs σ H _ h=>hOk H h.2.1) ?_ ?_
 ·rintro i x xs σ H hi hx ⟨⟨o1,o2,rfl⟩,s,e,hr⟩
  obtain ⟨qx,rfl,hqx⟩:=hXY i x hx
  refine ⟨qx,[X i,Y i],rfl,SqT.of (s _ _ hqx),rfl,_,_,rfl,_,_,rfl,rfl,?_⟩
  show tf (some (X i) :: some (Y i) :: capv) H _
  refine ht i hi H _ s fun H' s' => ?_
  have hxl:xs.length<=i:=by
   rw [<- Paired.length hr]
   exact Nat.le_trans (List.length_filter_le _ _) (by rw [List.length_range]; omega)
  have efil:(List.range (i + 1)).filter p=(List.range i).filter p ++ if p i=true then [i] else []:=by
   rw [List.range_succ,List.filter_append]
   congr 1
   rw [List.filter_cons,List.filter_nil]
  cases hp:p i with
  | true =>
   rw [if_pos rfl]
   refine he i hi hp H' _ (s.trans s') (by rw [s' _ _ e]; exact nofun) fun H2 v s2 hv rv => ?_
   have e2:=s2 _ _ (s' _ _ e)
   refine CNext.of hi hL e2 hxl ⟨⟨_,_,rfl⟩,((s.trans s').trans s2).put hD,zad,?_⟩
   rw [efil,if_pos hp]
   exact Paired.snoc (Paired.mapP hr fun j y z=>⟨z.1,hw _ _ _ _ _ z.1 e2 (hm _ _ _ _ (s'.trans s2) z.2)⟩) ⟨hv,hw _ _ _ _ _ hv e2 rv⟩
  | false =>
   rw [if_neg Bool.false_ne_true]
   refine CSkip.of (xs:=xs) hi ⟨⟨_,_,rfl⟩,s.trans s',s' _ _ e,?_⟩
   rw [efil,if_neg (by rw [hp]; exact Bool.false_ne_true),List.append_nil]
   exact Paired.mapP hr fun j y z=>⟨z.1,hm _ _ _ _ s' z.2⟩
 ·rintro xs σ H ⟨_,s,e,hr⟩
  exact hd H xs s e hr
theorem GoesR.nth {H:Hp} {vs:List V} {gs:List (Str×List Int)} (r:GoesR H vs gs) {i:Nat} {x:V} (h:vs[i]?=some x):∃ q t,x = .ref q/\H q=some (.tup [.str (gs.getD i ("",[])).1,.ref t])/\H t=some (.tup ((gs.getD i ("",[])).2.map V.int))/\i < gs.length:=by
 have hi:i < gs.length:=by rw [<- r.length]; exact (List.getElem?_eq_some_iff.mp h).1
 obtain ⟨q,t,e1,e2,e3⟩:=r.get (List.getElem?_eq_getElem hi)
 rw [h] at e1
 cases e1
 refine ⟨q,t,rfl,?_,?_,hi⟩
 ·rw [List.getD_eq_getElem?_getD,List.getElem?_eq_getElem hi]; exact e2
 ·rw [List.getD_eq_getElem?_getD,List.getElem?_eq_getElem hi]; exact e3
end L2
namespace L2
open PySem PySem.Spec PyProof.Rows
end L2
namespace L2
open PySem PySem.Spec PyProof.Rows
theorem zf0 {X:Cx} {pos:Pos} (K:PySem.W.Frag) (hK:X.K=K) {es:List Expr} {k:Nat} {t:TGs} {n:Nat} (hc:X.calm=true) (h:PGs X es t)
  (hn:(assignEach es X.env).length=n:=by rfl) (hst:(assignEach es X.env).findIdx? (·.1)=none:=by rfl):PG X (.Tuple es k pos) (gTup K n t):=by
 subst hK
 exact zdO hc h hn hst
end L2
namespace L2
open PySem PySem.Spec PyProof.Rows
noncomputable def ind (b:Bool):Nat:=if b=true then 1 else 0
noncomputable def sumR (n:Nat) (g:Nat->Nat):Nat:=((List.range n).map g).sum
theorem sumR_zero (g:Nat->Nat):sumR 0 g=0:=rfl
theorem zc5 (n:Nat) (g:Nat->Nat):sumR (n + 1) g=sumR n g + g n:=by
 unfold sumR
 rw [List.range_succ,List.map_append,List.sum_append]
 simp
structure Tile (sp:Nat) (al ta:Nat->Nat->Bool):Prop where
 pos:1<=sp
 pa:∀ k d,al (k + sp) d=al k d
 pt:∀ k d,ta (k + sp) d=ta k d
 la:∀ k d,7<=d->al k d=false
 lt:∀ k d,8<=d->ta k d=false
 one:∀ k,ind (al k 0) + ind (ta k 0)=1
 step:∀ k d,ind (al (k + 1) d)=ind (al k (d + 1)) + ind (ta k (d + 1))
namespace Tile
variable {sp:Nat} {al ta:Nat->Nat->Bool}
end Tile
end L2
namespace L2
open PySem PySem.Spec PyProof.Rows
theorem zfc {C:Combs} {row:List Bool} {s0 st n:Nat} (h:wk C row s0 n=wk C row s0 st):∀ j,wk C row s0 (n + j)=wk C row s0 (st + j)
 | 0=>h
 | j + 1=>by
  show ((nx C row (wk C row s0 (n + j))).map (·.2.toNat)).getD 0=((nx C row (wk C row s0 (st + j))).map (·.2.toNat)).getD 0
  rw [zfc h j]
noncomputable def tkOf (C:Combs) (x:Str):List Int:=(cGet C x).getD []
theorem zev {ah ts:List Int} (ha:∀ t∈ah,0<=t/\t<=6) (ht:∀ t∈ts,0<=t/\t<=7) (d:Nat):(d:Int)∈afterOf ah ts ↔ ((d + 1:Nat):Int)∈ah\/((d + 1:Nat):Int)∈ts:=by
 unfold afterOf
 rw [List.mem_map]
 constructor
 ·rintro ⟨y,hy,e⟩
  obtain ⟨h1,h2⟩:=List.mem_filter.mp hy
  have h3:=(mem_canon.mp h1).1
  rw [show ((d + 1:Nat):Int)=y by omega]
  exact List.mem_append.mp h3
 ·intro h
  refine ⟨((d + 1:Nat):Int),List.mem_filter.mpr ⟨mem_canon.mpr ⟨List.mem_append.mpr h,?_⟩,decide_eq_true (by omega)⟩,by omega⟩
  rcases h with h | h
  ·have:=ha _ h; omega
  ·exact ht _ h
end L2
namespace L2
open PySem PySem.Spec PyProof.Rows
theorem zfM {C C':Combs} (p:C.Perm C') (nd:(C.map (·.1)).Nodup) (x:Str):cGet C x=cGet C' x:=by
 have nd':(C'.map (·.1)).Nodup:=(p.map _).nodup_iff.mp nd
 cases e:cGet C x with
 | none =>
  symm
  rw [get_none] at e ⊢
  exact fun z=>e ((p.map _).mem_iff.mpr z)
 | some ts=>exact (zcc nd' (p.mem_iff.mp (zcg e))).symm
noncomputable def laid (nm:Nat->Str) (sp:Nat):List Nat:=(List.range sp).filter fun j=>decide (nm j≠Str.ofString "")
end L2
namespace L2
open PySem PySem.Spec PyProof.Rows
theorem KindsL.getG {G:Addr->Prop} {H:Hp}:∀ {vs:List V} {ks:List (Str×List Int)} {i:Nat} {v:V},KindsL G H vs ks->vs[i]?=some v->∃ k q t,ks[i]?=some k/\v = .ref q/\H q=some (.lst [.str k.1,.ref t])/\H t=some (.lst (k.2.map V.int))/\G t
 | [],[],_,_,_,e=>by simp at e
 | _ :: _,k :: _,0,_,⟨⟨q,t,e,h1,h2,g1,g2⟩,_⟩,z=>by
  simp at z
  subst z
  exact ⟨k,q,t,rfl,e,h1,h2,g2⟩
 | _ :: _,_ :: _,i + 1,_,⟨_,b⟩,z=>by
  obtain ⟨k,q,t,h⟩:=KindsL.getG (i:=i) b (by simpa using z)
  exact ⟨k,q,t,by simpa using h⟩
 | [],_ :: _,_,_,x,_=>x.elim
 | _ :: _,[],_,_,x,_=>x.elim
theorem KindsL.live {G:Addr->Prop} {H:Hp}:∀ {vs:List V} {ks:List (Str×List Int)},KindsL G H vs ks->KindsL (fun x=>H x≠none) H vs ks
 | [],[],_=>trivial
 | _ :: _,_ :: _,⟨⟨q,t,e,h1,h2,_,_⟩,r⟩=>⟨⟨q,t,e,h1,h2,(show H q≠none by rw [h1]; exact nofun),(show H t≠none by rw [h2]; exact nofun)⟩,KindsL.live r⟩
 | [],_ :: _,x=>x.elim
 | _ :: _,[],x=>x.elim
theorem Drawn.live {G:Addr->Prop} {H:Hp} {vs:List V} {ks:List (Str×List Int)} (d:Drawn G H vs ks):Drawn (fun x=>H x≠none) H vs ks:=⟨d.rows.live,d.nd,d.good⟩
end L2
namespace L2
open PySem PySem.Spec PyProof.Rows
noncomputable abbrev gallopS:Bool->Keyed->Array Keyed->Nat->Nat->Nat->StateT SortSt Sem (Option Nat):=sortPriv% PySem.Builtin.gallop
structure Ranks (prog:Program) (w:World) (A:Around) (E:Value->Shared->Prop) (s:Shared) (kd:SortKind) (S:Keyed->Prop) (rk:Keyed->Int):Prop where
 ask:∀ {x y:Keyed} {st:SortSt} {Q:Option Bool->SortSt->Prop},S x->S y->kindOf st=kd->Q (some (decide (rk x < rk y))) st->wpS (model prog w) A E s (lt' x y) Q st
section
variable {prog:Program} {w:World} {A:Around} {E:Value->Shared->Prop} {s:Shared} {kd:SortKind} {S:Keyed->Prop} {rk:Keyed->Int}
noncomputable def kAt (rk:Keyed->Int) (arr:Array Keyed) (i:Nat):Int:=match arr[i]? with
 | some x=>rk x
 | none=>0
theorem za2 {arr:Array Keyed} {i:Nat} (h:i < arr.size):kAt rk arr i=rk arr[i]:=by unfold kAt; rw [Array.getElem?_eq_getElem h]
theorem zaL {arr:Array Keyed} {i:Nat} {Q:Keyed->SortSt->Prop} {st:SortSt} (h:i < arr.size) (q:Q arr[i] st):wpS (model prog w) A E s (elem' arr i) Q st:=by
 rw [elem'_eq,Array.getElem?_eq_getElem h]
 exact wpS_pure q
noncomputable def Up2 (rk:Keyed->Int) (arr:Array Keyed) (lo hi:Nat):Prop:=∀ i j,lo<=i->i<=j->j < hi->kAt rk arr i<=kAt rk arr j
theorem zbI (C:Ranks prog w A E s kd S rk) {left:Bool} {key:Keyed} {arr:Array Keyed} {b n hint:Nat} {Q:Option Nat->SortSt->Prop} {st:SortSt} (hk:S key) (hS:∀ i (h:i < arr.size),b<=i->i < b + n->S arr[i]) (sz:b + n<=arr.size) (hh:hint < n) (up:Up2 rk arr b (b + n)) (hst:kindOf st=kd)
  (q:∀ k,k<=n->(∀ i,i < k->(if left=true then kAt rk arr (b + i) < rk key else kAt rk arr (b + i)<=rk key))->(∀ i,k<=i->i < n->(if left=true then rk key<=kAt rk arr (b + i) else rk key < kAt rk arr (b + i)))->Q (some k) st) :
  wpS (model prog w) A E s (gallopS left key arr b n hint) Q st:=by
 obtain ⟨P,hP⟩:∃ P:Nat->Bool,P=fun i=>if left=true then decide (kAt rk arr (b + i) < rk key) else decide (kAt rk arr (b + i)<=rk key):=⟨_,rfl⟩
 have mono:∀ i j,i<=j->j < n->P j=true->P i=true:=fun i j hij hj h=>by
  have:=up (b + i) (b + j) (by omega) (by omega) (by omega)
  rw [hP] at h ⊢
  dsimp only at h ⊢
  cases left
  ·simp at h ⊢; omega
  ·simp at h ⊢; omega
 have q':∀ k,k<=n->(∀ i,i < k->P i=true)->(∀ i,k<=i->i < n->P i=false)->Q (some k) st:=fun k h1 h2 h3=>by
  refine q k h1 (fun i hi => ?_) (fun i h4 h5 => ?_)
  ·have:=h2 i hi
   rw [hP] at this
   cases left <;> simpa using this
  ·have:=h3 i h4 h5
   rw [hP] at this
   cases left <;> simpa using this
 have bey:∀ i,i < n->∀ (Q':Option Bool->SortSt->Prop),Q' (some (P i)) st->wpS (model prog w) A E s (do
   let x <- elem' arr (b + i)
   if left=true then lt' x key else do
    let r <- lt' key x
    pure (Option.map (fun x => !x) r)) Q' st:=fun i hi Q' h=>by
  refine wpS_bind (zaL (by omega) ?_)
  have hSi:=hS (b + i) (by omega) (by omega) (by omega)
  have e:=za2 (rk:=rk) (show b + i < arr.size by omega)
  cases hl:left with
  | true =>
   rw [if_pos rfl]
   refine C.ask hSi hk hst ?_
   rw [hP,hl] at h
   simpa [e] using h
  | false =>
   rw [if_neg Bool.false_ne_true]
   refine wpS_bind (C.ask hk hSi hst (wpS_pure ?_))
   rw [hP,hl] at h
   have e2:(!decide (rk key < rk arr[b + i]))=decide (kAt rk arr (b + i)<=rk key):=by
    rw [e,<- decide_not,decide_eq_decide]; omega
   show Q' (some (!decide (rk key < rk arr[b + i]))) st
   rw [e2]
   simpa using h
 have bin:∀ lo hi,lo<=hi->hi<=n->(∀ i,i < lo->P i=true)->(∀ i,hi<=i->i < n->P i=false)->∀ (F:Nat->Option (Option Nat)×Nat×Nat->StateT SortSt Sem (ForInStep (Option (Option Nat)×Nat×Nat))),
   (∀ x lo hi,lo < hi->hi<=n->∀ R:ForInStep (Option (Option Nat)×Nat×Nat)->SortSt->Prop,R (.yield (none,if P (lo + (hi - lo) / 2)=true then (lo + (hi - lo) / 2 + 1,hi) else (lo,lo + (hi - lo) / 2))) st->wpS (model prog w) A E s (F x (none,lo,hi)) R st) ->
   (∀ x lo hi,hi<=lo->∀ R:ForInStep (Option (Option Nat)×Nat×Nat)->SortSt->Prop,R (.done (none,lo,hi)) st->wpS (model prog w) A E s (F x (none,lo,hi)) R st) ->
   wpS (model prog w) A E s (forIn [:n] (none,lo,hi) F) (fun c st'=>st'=st/\∃ k,c.1=none/\c.2.2=k/\k<=n/\(∀ i,i < k->P i=true)/\(∀ i,k<=i->i < n->P i=false)) st:=fun lo hi h1 h2 h3 h4 F f1 f2=>by
  refine wpS_forRange (I:=fun x c st'=>st'=st/\∃ lo hi,c=(none,lo,hi)/\lo<=hi/\hi<=n/\hi - lo + x<=n/\(∀ i,i < lo->P i=true)/\(∀ i,hi<=i->i < n->P i=false)) ?_ ?_ ⟨rfl,lo,hi,rfl,h1,h2,by omega,h3,h4⟩
  ·rintro x c st' _ hx ⟨rfl,lo,hi,rfl,a1,a2,a3,a4,a5⟩
   by_cases e:lo < hi
   ·refine f1 x lo hi e a2 _ ?_
    dsimp only
    cases hm:P (lo + (hi - lo) / 2) with
    | true=>exact ⟨rfl,lo + (hi - lo) / 2 + 1,hi,rfl,by omega,a2,by omega,fun i hi'=>mono i (lo + (hi - lo) / 2) (by omega) (by omega) hm,a5⟩
    | false =>
     refine ⟨rfl,lo,lo + (hi - lo) / 2,rfl,by omega,by omega,by omega,a4,fun i h6 h7 => ?_⟩
     cases hz:P i with
     | false=>rfl
     | true=>rw [mono _ i h6 h7 hz] at hm; cases hm
   ·exact f2 x lo hi (by omega) _ ⟨rfl,hi,rfl,rfl,a2,fun i hi'=>a4 i (by omega),a5⟩
  ·rintro c st' ⟨rfl,lo,hi,rfl,a1,a2,a3,a4,a5⟩
   exact ⟨rfl,hi,rfl,rfl,a2,fun i hi'=>a4 i (by omega),a5⟩
 refine wpS_bind (bey hint hh _ ?_)
 dsimp only
 cases hr:P hint with
 | true =>
  rw [if_pos rfl]
  refine wpS_bind (wpS_mono (wpS_forRange (I:=fun x c st'=>st'=st/\∃ la off,c=(none,la,off)/\la < off/\x + 1<=off/\hint + la < n/\P (hint + la)=true) (Q:=fun c st'=>st'=st/\∃ la off,c=(none,la,off)/\la < off/\hint + la < n/\P (hint + la)=true/\(n - hint<=off\/(off < n - hint/\P (hint + off)=false))) ?step ?fin ⟨rfl,0,1,rfl,by omega,by omega,by omega,hr⟩) ?post)
  case fin =>
   rintro c st' ⟨rfl,la,off,rfl,a1,a2,a3,a4⟩
   exact ⟨rfl,la,off,rfl,a1,a3,a4,.inl (by omega)⟩
  case step =>
   rintro x c st' _ hx ⟨rfl,la,off,rfl,a1,a2,a3,a4⟩
   dsimp only
   by_cases e:off>=n - hint
   ·rw [if_pos e]
    exact wpS_pure ⟨rfl,la,off,rfl,a1,a3,a4,.inl e⟩
   ·rw [if_neg e]
    refine wpS_bind (bey (hint + off) (by omega) _ ?_)
    dsimp only
    cases hm:P (hint + off) with
    | true =>
     rw [if_neg (by decide)]
     exact wpS_pure ⟨rfl,off,2 * off + 1,rfl,by omega,by omega,by omega,hm⟩
    | false =>
     rw [if_pos (by decide)]
     exact wpS_pure ⟨rfl,la,off,rfl,a1,a3,a4,.inr ⟨by omega,hm⟩⟩
  case post =>
   rintro c st' ⟨rfl,la,off,rfl,a1,a3,a4,a5⟩
   dsimp only
   refine wpS_bind (wpS_mono (bin (hint + la + 1) (hint + min off (n - hint)) (by omega) (by omega) (fun i hi=>mono i (hint + la) (by omega) a3 a4) (fun i h6 h7 => ?_) _ (fun x lo hi h1 h2 R hR => ?_) fun x lo hi h1 R hR => ?_) (by rintro ⟨r,lo',hi'⟩ st2 ⟨rfl,k,e1,e2,h1,h2,h3⟩; dsimp only at e1 e2 ⊢; subst e1 e2; exact wpS_pure (q' _ h1 h2 h3)))
   ·rcases a5 with z | ⟨z1,z2⟩
    ·omega
    ·cases hz:P i with
     | false=>rfl
     | true=>rw [mono (hint + off) i (by omega) h7 hz] at z2; cases z2
   ·dsimp only
    rw [if_neg (by omega)]
    refine wpS_bind (bey _ (by omega) _ ?_)
    dsimp only
    cases hm:P (lo + (hi - lo) / 2) with
    | true=>rw [if_pos rfl]; rw [hm,if_pos rfl] at hR; exact wpS_pure hR
    | false=>rw [if_neg Bool.false_ne_true]; rw [hm,if_neg Bool.false_ne_true] at hR; exact wpS_pure hR
   ·dsimp only
    rw [if_pos h1]
    exact wpS_pure hR
 | false =>
  rw [if_neg Bool.false_ne_true]
  refine wpS_bind (wpS_mono (wpS_forRange (I:=fun x c st'=>st'=st/\∃ la off,c=(none,la,off)/\la < off/\x + 1<=off/\la<=hint/\P (hint - la)=false) (Q:=fun c st'=>st'=st/\∃ la off,c=(none,la,off)/\la < off/\la<=hint/\P (hint - la)=false/\(hint + 1<=off\/(off < hint + 1/\P (hint - off)=true))) ?step ?fin ⟨rfl,0,1,rfl,by omega,by omega,by omega,hr⟩) ?post)
  case fin =>
   rintro c st' ⟨rfl,la,off,rfl,a1,a2,a3,a4⟩
   exact ⟨rfl,la,off,rfl,a1,a3,a4,.inl (by omega)⟩
  case step =>
   rintro x c st' _ hx ⟨rfl,la,off,rfl,a1,a2,a3,a4⟩
   dsimp only
   by_cases e:off>=hint + 1
   ·rw [if_pos e]
    exact wpS_pure ⟨rfl,la,off,rfl,a1,a3,a4,.inl e⟩
   ·rw [if_neg e]
    refine wpS_bind (bey (hint - off) (by omega) _ ?_)
    dsimp only
    cases hm:P (hint - off) with
    | true =>
     rw [if_pos rfl]
     exact wpS_pure ⟨rfl,la,off,rfl,a1,a3,a4,.inr ⟨by omega,hm⟩⟩
    | false =>
     rw [if_neg Bool.false_ne_true]
     exact wpS_pure ⟨rfl,off,2 * off + 1,rfl,by omega,by omega,by omega,hm⟩
  case post =>
   rintro c st' ⟨rfl,la,off,rfl,a1,a3,a4,a5⟩
   dsimp only
   refine wpS_bind (wpS_mono (bin (hint + 1 - min off (hint + 1)) (hint - la) (by omega) (by omega) (fun i hi => ?_) (fun i h6 h7 => ?_) _ (fun x lo hi h1 h2 R hR => ?_) fun x lo hi h1 R hR => ?_) (by rintro ⟨r,lo',hi'⟩ st2 ⟨rfl,k,e1,e2,h1,h2,h3⟩; dsimp only at e1 e2 ⊢; subst e1 e2; exact wpS_pure (q' _ h1 h2 h3)))
   ·rcases a5 with z | ⟨z1,z2⟩
    ·omega
    ·exact mono i (hint - off) (by omega) (by omega) z2
   ·cases hz:P i with
    | false=>rfl
    | true=>rw [mono (hint - la) i h6 h7 hz] at a4; cases a4
   ·dsimp only
    rw [if_neg (by omega)]
    refine wpS_bind (bey _ (by omega) _ ?_)
    dsimp only
    cases hm:P (lo + (hi - lo) / 2) with
    | true=>rw [if_pos rfl]; rw [hm,if_pos rfl] at hR; exact wpS_pure hR
    | false=>rw [if_neg Bool.false_ne_true]; rw [hm,if_neg Bool.false_ne_true] at hR; exact wpS_pure hR
   ·dsimp only
    rw [if_pos h1]
    exact wpS_pure hR
end
end L2
namespace L2
open PySem PySem.Spec PyProof.Rows
noncomputable abbrev Srt (rk:Keyed->Int) (l:List Keyed):Prop:=l.Pairwise fun x y=>rk x<=rk y
structure MI (rk:Keyed->Int) (la lb out:List Keyed) (ia ib:Nat):Prop where
 perm:out.Perm (la.take ia ++ lb.take ib)
 srt:Srt rk out
 low:∀ x∈out,(∀ y∈la.drop ia,rk x<=rk y)/\∀ y∈lb.drop ib,rk x<=rk y
noncomputable def MFin (rk:Keyed->Int) (la lb res:List Keyed):Prop:=res.Perm (la ++ lb)/\Srt rk res
section
variable {rk:Keyed->Int} {la lb out:List Keyed} {ia ib:Nat}
theorem za4 {l:List Keyed} {i:Nat} (h:i < l.length):l.drop i=l[i] :: l.drop (i + 1):=List.drop_eq_getElem_cons h
theorem zd1 {l:List Keyed} (s:Srt rk l) {i:Nat} (h:i < l.length):∀ y∈l.drop (i + 1),rk l[i]<=rk y:=by
 have:=List.Pairwise.sublist (List.drop_sublist i l) s
 rw [za4 h] at this
 exact (List.pairwise_cons.mp this).1
theorem MI.pushA (m:MI rk la lb out ia ib) (sa:Srt rk la) (h:ia < la.length) (hb:∀ y∈lb.drop ib,rk la[ia]<=rk y):MI rk la lb (out ++ [la[ia]]) (ia + 1) ib:=by
 have hd:=za4 h
 refine ⟨?_,?_,fun x hx => ?_⟩
 ·rw [List.take_succ_eq_append_getElem h]
  have:=m.perm.append_right [la[ia]]
  refine this.trans ?_
  rw [List.append_assoc,List.append_assoc]
  exact List.Perm.append_left _ List.perm_append_comm
 ·refine List.pairwise_append.mpr ⟨m.srt,by simp,fun x hx y hy => ?_⟩
  rw [List.mem_singleton.mp hy]
  exact (m.low x hx).1 _ (by rw [hd]; exact List.mem_cons_self)
 ·rcases List.mem_append.mp hx with z | z
  ·exact ⟨fun y hy=>(m.low x z).1 y (by rw [hd]; exact List.mem_cons_of_mem _ hy),(m.low x z).2⟩
  ·rw [List.mem_singleton.mp z]
   exact ⟨zd1 sa h,hb⟩
theorem MI.pushB (m:MI rk la lb out ia ib) (sb:Srt rk lb) (h:ib < lb.length) (ha:∀ y∈la.drop ia,rk lb[ib]<=rk y):MI rk la lb (out ++ [lb[ib]]) ia (ib + 1):=by
 have hd:=za4 h
 refine ⟨?_,?_,fun x hx => ?_⟩
 ·rw [List.take_succ_eq_append_getElem h]
  have:=m.perm.append_right [lb[ib]]
  rwa [List.append_assoc] at this
 ·refine List.pairwise_append.mpr ⟨m.srt,by simp,fun x hx y hy => ?_⟩
  rw [List.mem_singleton.mp hy]
  exact (m.low x hx).2 _ (by rw [hd]; exact List.mem_cons_self)
 ·rcases List.mem_append.mp hx with z | z
  ·exact ⟨(m.low x z).1,fun y hy=>(m.low x z).2 y (by rw [hd]; exact List.mem_cons_of_mem _ hy)⟩
  ·rw [List.mem_singleton.mp z]
   exact ⟨ha,zd1 sb h⟩
theorem MI.moreA (sa:Srt rk la):∀ {k ia:Nat} {out:List Keyed},MI rk la lb out ia ib->ia + k<=la.length->(∀ i (h:i < la.length),ia<=i->i < ia + k->∀ y∈lb.drop ib,rk la[i]<=rk y)->MI rk la lb (out ++ (la.drop ia).take k) (ia + k) ib
 | 0,ia,out,m,_,_=>by simpa using m
 | k + 1,ia,out,m,h,hy=>by
  have m1:=m.pushA sa (by omega) (hy ia (by omega) (Nat.le_refl _) (by omega))
  have m2:=MI.moreA sa (k:=k) m1 (by omega) fun i hi h1 h2=>hy i hi (by omega) (by omega)
  rw [za4 (show ia < la.length by omega),List.take_succ_cons]
  rw [List.append_assoc,List.singleton_append,show ia + 1 + k=ia + (k + 1) by omega] at m2
  exact m2
theorem MI.moreB (sb:Srt rk lb):∀ {k ib:Nat} {out:List Keyed},MI rk la lb out ia ib->ib + k<=lb.length->(∀ i (h:i < lb.length),ib<=i->i < ib + k->∀ y∈la.drop ia,rk lb[i]<=rk y)->MI rk la lb (out ++ (lb.drop ib).take k) ia (ib + k)
 | 0,ib,out,m,_,_=>by simpa using m
 | k + 1,ib,out,m,h,hy=>by
  have m1:=m.pushB sb (by omega) (hy ib (by omega) (Nat.le_refl _) (by omega))
  have m2:=MI.moreB sb (k:=k) m1 (by omega) fun i hi h1 h2=>hy i hi (by omega) (by omega)
  rw [za4 (show ib < lb.length by omega),List.take_succ_cons]
  rw [List.append_assoc,List.singleton_append,show ib + 1 + k=ib + (k + 1) by omega] at m2
  exact m2
theorem MI.restA (m:MI rk la lb out ia lb.length) (sa:Srt rk la):MFin rk la lb (out ++ la.drop ia):=by
 refine ⟨?_,List.pairwise_append.mpr ⟨m.srt,List.Pairwise.sublist (List.drop_sublist _ _) sa,fun x hx y hy=>(m.low x hx).1 y hy⟩⟩
 have:=m.perm.append_right (la.drop ia)
 rw [List.take_length] at this
 refine this.trans ?_
 rw [List.append_assoc]
 refine (List.Perm.append_left _ List.perm_append_comm).trans ?_
 rw [<- List.append_assoc,List.take_append_drop]
theorem MI.restB (m:MI rk la lb out la.length ib) (sb:Srt rk lb):MFin rk la lb (out ++ lb.drop ib):=by
 refine ⟨?_,List.pairwise_append.mpr ⟨m.srt,List.Pairwise.sublist (List.drop_sublist _ _) sb,fun x hx y hy=>(m.low x hx).2 y hy⟩⟩
 have:=m.perm.append_right (lb.drop ib)
 rw [List.take_length,List.append_assoc,List.take_append_drop] at this
 exact this
theorem MI.restBA (m:MI rk la lb out ia ib) (sa:Srt rk la) (sb:Srt rk lb) (h:∀ x∈lb.drop ib,∀ y∈la.drop ia,rk x<=rk y):MFin rk la lb (out ++ lb.drop ib ++ la.drop ia):=by
 refine ⟨?_,List.pairwise_append.mpr ⟨List.pairwise_append.mpr ⟨m.srt,List.Pairwise.sublist (List.drop_sublist _ _) sb,fun x hx y hy=>(m.low x hx).2 y hy⟩,List.Pairwise.sublist (List.drop_sublist _ _) sa,fun x hx y hy => ?_⟩⟩
 ·have:=m.perm.append_right (lb.drop ib ++ la.drop ia)
  rw [<- List.append_assoc] at this
  refine this.trans ?_
  rw [List.append_assoc,<- List.append_assoc (lb.take ib),List.take_append_drop]
  refine (List.Perm.append_left _ List.perm_append_comm).trans ?_
  rw [<- List.append_assoc,List.take_append_drop]
 ·rcases List.mem_append.mp hx with z | z
  ·exact (m.low x z).1 y hy
  ·exact h x z y hy
end
theorem zaP (a:Array Keyed) (i j:Nat):(a.extract i j).toList=(a.toList.drop i).take (j - i):=by simp
theorem zaR (a:Array Keyed) (i:Nat):(a.extract i).toList=a.toList.drop i:=by
 rw [zaP]
 exact List.take_of_length_le (by simp)
noncomputable def Like (st st':SortSt):Prop:=kindOf st'=kindOf st/\arrOf st'=arrOf st/\pendingOf st'=pendingOf st/\failedOf st'=failedOf st
theorem Like.refl (st:SortSt):Like st st:=⟨rfl,rfl,rfl,rfl⟩
noncomputable abbrev mergeLoS:Array Keyed->Array Keyed->StateT SortSt Sem (Array Keyed):=sortPriv% PySem.Builtin.mergeLo
theorem zgx {rk:Keyed->Int} {arr:Array Keyed} (s:Srt rk arr.toList) {lo hi:Nat} (h:hi<=arr.size):Up2 rk arr lo hi:=fun i j _ hij hj=>by
 rw [za2 (show i < arr.size by omega),za2 (show j < arr.size by omega)]
 by_cases e:i=j
 ·subst e; exact Int.le_refl _
 ·have:=List.pairwise_iff_getElem.mp s i j (by simpa using (show i < arr.size by omega)) (by simpa using (show j < arr.size by omega)) (by omega)
  simpa using this
theorem zaw (a:Array Keyed) {i:Nat} (h:i < a.size):a.toList[i]'(by simpa using h)=a[i]:=by simp
theorem zcd {l:List Keyed} {i:Nat} {y:Keyed} (h:y∈l.drop i):∃ j,∃ hj:j < l.length,i<=j/\l[j]=y:=by
 obtain ⟨j,hj,e⟩:=List.getElem_of_mem h
 rw [List.length_drop] at hj
 rw [List.getElem_drop] at e
 exact ⟨i + j,by omega,by omega,e⟩
theorem zcT {rk:Keyed->Int} {l:List Keyed} (s:Srt rk l) {i:Nat} (h:i < l.length):∀ y∈l.drop i,rk l[i]<=rk y:=fun y hy=>by
 rw [za4 h] at hy
 rcases List.mem_cons.mp hy with rfl | z
 ·exact Int.le_refl _
 ·exact zd1 s h y z
theorem zan {M:Model} {A:Around} {E:Value->Shared->Prop} {s:Shared} {σ α : Type} {c:Prop} [Decidable c] {x y:StateT σ Sem α} {Q : α -> σ -> Prop} {st : σ} (h1:c->wpS M A E s x Q st) (h2:¬ c->wpS M A E s y Q st):wpS M A E s (if c then x else y) Q st:=by
 by_cases h:c
 ·rw [if_pos h]; exact h1 h
 ·rw [if_neg h]; exact h2 h
theorem zfa {M:Model} {A:Around} {E:Value->Shared->Prop} {s:Shared} {σ α : Type} {c:Prop} [Decidable c] {x y:StateT σ Sem α} {Q : α -> σ -> Prop} {st : σ} (h2:¬ c->wpS M A E s y Q st) (h1:c->wpS M A E s x Q st):wpS M A E s (if c then x else y) Q st:=zan h1 h2
theorem zfO {X G:Prop} (k:X->G) (h:X):G:=k h
theorem zbb {M:Model} {A:Around} {E:Value->Shared->Prop} {s:Shared} {f:SortSt->SortSt} {Q:PUnit->SortSt->Prop} {st:SortSt} (hf:Like st (f st)) (h:∀ st',Like st st'->Q ⟨⟩ st'):wpS M A E s (modify f:StateT SortSt Sem PUnit) Q st:=wpS_modify (h _ hf)
theorem Like.trans {a b c:SortSt} (h:Like a b) (k:Like b c):Like a c:=⟨k.1.trans h.1,k.2.1.trans h.2.1,k.2.2.1.trans h.2.2.1,k.2.2.2.trans h.2.2.2⟩
section
variable {prog:Program} {w:World} {A:Around} {E:Value->Shared->Prop} {s:Shared} {kd:SortKind} {S:Keyed->Prop} {rk:Keyed->Int}
theorem mergeLo_ok (C:Ranks prog w A E s kd S rk) {a b:Array Keyed} {Q:Array Keyed->SortSt->Prop} {st:SortSt} (ha:0 < a.size) (hb:0 < b.size) (sa:Srt rk a.toList) (sb:Srt rk b.toList) (Sa:∀ i (h:i < a.size),S a[i]) (Sb:∀ i (h:i < b.size),S b[i]) (h0:∀ y∈a.toList,rk b[0]<=rk y) (hl:∀ y∈b.toList,rk y<=rk (a[a.size - 1]'(by omega))) (hst:kindOf st=kd)
  (q:∀ res st',Like st st'->MFin rk a.toList b.toList res.toList->Q res st'):wpS (model prog w) A E s (mergeLoS a b) Q st:=by
 have la:a.toList.length=a.size:=Array.length_toList
 have lb:b.toList.length=b.size:=Array.length_toList
 have m0:MI rk a.toList b.toList [b[0]] 0 1:=by
  have mm:MI rk a.toList b.toList [] 0 0:=⟨by simp,List.Pairwise.nil,fun x hx=>by cases hx⟩
  have:=mm.pushB sb (by omega) (by rw [List.drop_zero,zaw b hb]; exact h0)
  rw [zaw b hb] at this
  exact this
 have lastA:∀ ib,∀ x∈b.toList.drop ib,∀ ia,ia + 1=a.size->∀ y∈a.toList.drop ia,rk x<=rk y:=fun ib x hx ia e y hy=>by
  obtain ⟨j,hj,h1,e2⟩:=zcd hy
  have:j=a.size - 1:=by omega
  subst this
  rw [<- e2,zaw a (by omega)]
  exact hl x (List.mem_of_mem_drop hx)
 have doneA:∀ {out:List Keyed} {ia ib:Nat},MI rk a.toList b.toList out ia ib->ib=b.size->MFin rk a.toList b.toList (out ++ a.toList.drop ia ++ b.toList.drop ib):=fun m e=>by
  subst e
  rw [<- lb] at m ⊢
  rw [List.drop_length,List.append_nil]
  exact m.restA sa
 have doneB:∀ {out:List Keyed} {ia ib:Nat},MI rk a.toList b.toList out ia ib->ia=a.size->MFin rk a.toList b.toList (out ++ a.toList.drop ia ++ b.toList.drop ib):=fun m e=>by
  subst e
  rw [<- la] at m ⊢
  rw [List.drop_length,List.append_nil]
  exact m.restB sb
 refine wpS_bind (wpS_lift (wpAny_rule ⟨rfl,?_⟩))
 dsimp only
 refine wpS_bind (zaL hb ?_)
 refine zan (fun e1 => ?_) (fun e1 => ?_)
 ·have e1:1=b.size:=by simpa using e1
  refine wpS_pure (q _ st (Like.refl st) ?_)
  have:=doneA m0 e1
  simp only [Array.toList_append,Array.toList_push,zaR]
  exact this
 refine zan (fun e2 => ?_) (fun e2 => ?_)
 ·have e2:0 + 1=a.size:=by simpa using e2
  refine wpS_pure (q _ st (Like.refl st) ?_)
  have:=m0.restBA sa sb (fun x hx y hy=>lastA 1 x hx 0 e2 y hy)
  simp only [Array.toList_append,Array.toList_push,zaR]
  exact this
 have e1:¬ 1=b.size:=by simpa using e1
 have e2:¬ 0 + 1=a.size:=by simpa using e2
 refine wpS_bind (wpS_get ?_)
 refine wpS_bind (wpS_mono (wpS_forRange (I:=fun x c st'=>Like st st'/\∃ (out:Array Keyed) (ia ib g:Nat),c=(none,out,ia,ib,g)/\MI rk a.toList b.toList out.toList ia ib/\ia + 1 < a.size/\ib < b.size/\x < ia + ib) (Q:=fun c st'=>Like st st'/\∃ res:Array Keyed,c.1=some res/\MFin rk a.toList b.toList res.toList) ?step ?fin ⟨Like.refl st,_,_,_,_,rfl,m0,by omega,by omega,by omega⟩) ?post)
 case fin =>
  rintro c st' ⟨_,out,ia,ib,g,rfl,_,h1,h2,h3⟩
  omega
 case post =>
  rintro ⟨r,out,ia,ib,g⟩ st' ⟨hL,res,e,hf⟩
  dsimp only at e ⊢
  subst e
  exact wpS_pure (q res st' hL hf)
 case step =>
  rintro x c st1 _ hx ⟨hL,out,ia,ib,g,rfl,m,h1,h2,h3⟩
  dsimp only
  have hk1:kindOf st1=kd:=hL.1.trans hst
  refine wpS_bind (wpS_mono (wpS_forRange (I:=fun y c st'=>st'=st1/\∃ (out:Array Keyed) (ia ib ac bc:Nat),c=(none,out,ia,ib,ac,bc)/\MI rk a.toList b.toList out.toList ia ib/\ia + 1 < a.size/\ib < b.size/\x < ia + ib/\(0 < y->x + 1 < ia + ib)) (Q:=fun c st'=>st'=st1/\((∃ res:Array Keyed,c.1=some res/\MFin rk a.toList b.toList res.toList)\/∃ (out:Array Keyed) (ia ib ac bc:Nat),c=(none,out,ia,ib,ac,bc)/\MI rk a.toList b.toList out.toList ia ib/\ia + 1 < a.size/\ib < b.size/\x + 1 < ia + ib)) ?step ?fin ⟨rfl,_,_,_,_,_,rfl,m,h1,h2,h3,by omega⟩) ?post)
  case fin =>
   rintro c st' ⟨rfl,out,ia,ib,ac,bc,rfl,m,h1,h2,h3,h4⟩
   exact ⟨rfl,.inr ⟨out,ia,ib,ac,bc,rfl,m,h1,h2,h4 (by omega)⟩⟩
  case step =>
   rintro y c st' _ hy ⟨rfl,out,ia,ib,ac,bc,rfl,m,h1,h2,h3,h4⟩
   dsimp only
   refine wpS_bind (zaL h2 (wpS_bind (zaL (show ia < a.size by omega) (wpS_bind (C.ask (Sb _ h2) (Sa _ (by omega)) hk1 ?_)))))
   dsimp only
   refine zan (fun hw => ?_) (fun hw => ?_)
   ·have hw:rk b[ib] < rk a[ia]:=by simpa using hw
    have m':=m.pushB sb (by omega) (fun y hy=>by
     have:=zcT sa (show ia < a.toList.length by omega) y hy
     rw [zaw a (by omega)] at this
     rw [zaw b h2]
     omega)
    rw [zaw b h2] at m'
    refine wpS_bind (zaL h2 ?_)
    refine zan (fun e => ?_) (fun e => ?_)
    ·have e:ib + 1=b.size:=by simpa using e
     refine wpS_pure ⟨rfl,.inl ⟨_,rfl,?_⟩⟩
     have:=doneA m' e
     simp only [Array.toList_append,Array.toList_push,zaR]
     exact this
    have e:¬ ib + 1=b.size:=by simpa using e
    refine zan (fun _=>wpS_pure ⟨rfl,.inr ⟨_,_,_,_,_,rfl,by simpa using m',h1,by omega,by omega⟩⟩) (fun _=>wpS_pure ⟨rfl,_,_,_,_,_,rfl,by simpa using m',h1,by omega,by omega,by omega⟩)
   ·have hw:rk a[ia]<=rk b[ib]:=by simpa using hw
    have m':=m.pushA sa (by omega) (fun y hy=>by
     have:=zcT sb (show ib < b.toList.length by omega) y hy
     rw [zaw b h2] at this
     rw [zaw a (by omega)]
     omega)
    rw [zaw a (by omega)] at m'
    refine wpS_bind (zaL (show ia < a.size by omega) ?_)
    refine zan (fun e => ?_) (fun e => ?_)
    ·have e:ia + 1 + 1=a.size:=by simpa using e
     refine wpS_pure ⟨rfl,.inl ⟨_,rfl,?_⟩⟩
     have:=m'.restBA sa sb (fun x hx y hy=>lastA _ x hx _ e y hy)
     simp only [Array.toList_append,Array.toList_push,zaR]
     exact this
    have e:¬ ia + 1 + 1=a.size:=by simpa using e
    refine zan (fun _=>wpS_pure ⟨rfl,.inr ⟨_,_,_,_,_,rfl,by simpa using m',by omega,h2,by omega⟩⟩) (fun _=>wpS_pure ⟨rfl,_,_,_,_,_,rfl,by simpa using m',by omega,h2,by omega,by omega⟩)
  case post =>
   rintro ⟨r,out,ia,ib,ac,bc⟩ st' ⟨rfl,hres | ⟨out',ia',ib',ac',bc',e,m,h1,h2,h3⟩⟩
   ·obtain ⟨res,e,hf⟩:=hres
    dsimp only at e ⊢
    subst e
    exact wpS_pure ⟨hL,res,rfl,hf⟩
   cases e
   dsimp only
   refine wpS_bind (wpS_lift (wpAny_rule ⟨rfl,?_⟩))
   refine wpS_bind (wpS_mono (wpS_forRange (I:=fun y c st'=>Like st st'/\∃ (out:Array Keyed) (ia ib g ac bc:Nat),c=(none,out,ia,ib,g,ac,bc)/\MI rk a.toList b.toList out.toList ia ib/\ia + 1 < a.size/\ib < b.size/\x + 1 < ia + ib) (Q:=fun c st'=>Like st st'/\((∃ res:Array Keyed,c.1=some res/\MFin rk a.toList b.toList res.toList)\/∃ (out:Array Keyed) (ia ib g ac bc:Nat),c=(none,out,ia,ib,g,ac,bc)/\MI rk a.toList b.toList out.toList ia ib/\ia + 1 < a.size/\ib < b.size/\x + 1 < ia + ib)) ?step ?fin ⟨hL,_,_,_,_,_,_,rfl,m,h1,h2,h3⟩) ?post)
   case fin =>
    rintro c st' ⟨hL2,h⟩
    exact ⟨hL2,.inr h⟩
   case post =>
    rintro ⟨r,out,ia,ib,g,ac,bc⟩ st2 ⟨hL2,hres | ⟨out',ia',ib',g',ac',bc',e,m,h1,h2,h3⟩⟩
    ·obtain ⟨res,e,hf⟩:=hres
     dsimp only at e ⊢
     subst e
     exact wpS_pure ⟨hL2,res,rfl,hf⟩
    cases e
    dsimp only
    exact wpS_bind (zbb ⟨rfl,rfl,rfl,rfl⟩ fun st3 hL3=>wpS_pure ⟨hL2.trans hL3,_,_,_,_,rfl,m,h1,h2,h3⟩)
   case step =>
    rintro y c st2 _ hy ⟨hL2,out,ia,ib,g,ac,bc,rfl,m,h1,h2,h3⟩
    dsimp only
    apply zfO
    ·intro R
     refine zan (fun h0=>wpS_bind (zbb ⟨rfl,rfl,rfl,rfl⟩ ?_)) (fun h0=>wpS_bind (zbb ⟨rfl,rfl,rfl,rfl⟩ ?_))
     ·clear h0
      generalize g - 1=g'
      revert g'
      exact R
     ·exact R g
    intro g' st3 hL3
    have hL4:=hL2.trans hL3
    have hk3:kindOf st3=kd:=hL4.1.trans hst
    refine wpS_bind (zaL h2 ?_)
    refine wpS_bind (zbI C (Sb _ h2) (fun i h _ _=>Sa i h) (by omega) (by omega) (zgx sa (by omega)) hk3 fun k j1 j2 j3 => ?_)
    dsimp only
    simp only [Bool.false_eq_true,if_false] at j2 j3
    have mA:=m.moreA sa (k:=k) (by omega) (fun i hi g1 g2 y hy=>by
     have h5:=j2 (i - ia) (by omega)
     rw [show ia + (i - ia)=i by omega,za2 (by omega)] at h5
     have h6:=zcT sb (show ib < b.toList.length by omega) y hy
     rw [zaw b h2] at h6
     rw [zaw a (by omega)]
     omega)
    have gtB:∀ y∈a.toList.drop (ia + k),rk b[ib]<=rk y:=fun y hy=>by
     obtain ⟨j,hj,g1,e⟩:=zcd hy
     have h5:=j3 (j - ia) (by omega) (by omega)
     rw [show ia + (j - ia)=j by omega,za2 (by omega)] at h5
     rw [<- e,zaw a (by omega)]
     omega
    have ex:(a.extract ia (ia + k)).toList=(a.toList.drop ia).take k:=by rw [zaP,Nat.add_sub_cancel_left]
    rw [<- ex,<- Array.toList_append] at mA
    have f12:∀ (_:¬ (ia + k + 1 == a.size)=true) (_:¬ (ia + k == a.size)=true),ia + k + 1 < a.size:=fun e5 e6=>by
     have e5:¬ ia + k + 1=a.size:=by simpa using e5
     have e6:¬ ia + k=a.size:=by simpa using e6
     omega
    have f32:x + 1 < ia + k + ib:=by omega
    apply zfO
    ·intro R
     refine zfa (fun k0 => ?b2) (fun k0=>zan (fun e => ?x2) (fun e5=>zan (fun e => ?y2) (fun e6 => ?a2)))
     rotate_right
     have h12:=f12 e5 e6
     have h32:=f32
     clear e5 e6 k0
     have mA':=mA
     have gtB':=gtB
     generalize out ++ a.extract ia (ia + k)=out2 at mA' ⊢
     generalize ia + k=ia2 at mA' gtB' h12 h32 ⊢
     revert out2 ia2
     exact R
     ·have e7:k=0:=by omega
      have gtB2:=gtB
      rw [e7,Nat.add_zero] at gtB2
      exact R out ia m gtB2 h1 h3
     ·have e:ia + k + 1=a.size:=by simpa using e
      refine wpS_pure ⟨hL4,.inl ⟨_,rfl,?_⟩⟩
      have:=mA.restBA sa sb (fun x hx y hy=>lastA _ x hx _ e y hy)
      simp only [Array.toList_append,zaR] at this ⊢
      exact this
     ·have e:ia + k=a.size:=by simpa using e
      refine wpS_pure ⟨hL4,.inl ⟨_,rfl,?_⟩⟩
      have:=doneB mA e
      simp only [Array.toList_append,zaR] at this ⊢
      exact this
    intro out2 ia2 mA gtB h12 h32
    have mB:=mA.pushB sb (by omega) (fun y hy=>by rw [zaw b h2]; exact gtB y hy)
    rw [zaw b h2] at mB
    refine wpS_bind (zaL h2 ?_)
    refine zan (fun e => ?_) (fun e => ?_)
    ·have e:ib + 1=b.size:=by simpa using e
     refine wpS_pure ⟨hL4,.inl ⟨_,rfl,?_⟩⟩
     have:=doneA mB e
     simp only [Array.toList_append,Array.toList_push,zaR]
     exact this
    have e8:¬ ib + 1=b.size:=by simpa using e
    have hia2:ia2 < a.size:=by omega
    have hb4:ib + 1 < b.size:=by omega
    have h34:x + 1 < ia2 + (ib + 1):=by omega
    rw [<- Array.toList_push] at mB
    generalize out2.push b[ib]=out4 at mB ⊢
    generalize ib + 1=ib4 at mB hb4 h34 ⊢
    refine wpS_bind (zaL hia2 ?_)
    refine wpS_bind (zbI C (Sa _ hia2) (fun i h _ _=>Sb i h) (by omega) (by omega) (zgx sb (by omega)) hk3 fun k2 j4 j5 j6 => ?_)
    dsimp only
    simp only [if_true] at j5 j6
    have mC:=mB.moreB sb (k:=k2) (by omega) (fun i hi g1 g2 y hy=>by
     have h5:=j5 (i - ib4) (by omega)
     rw [show ib4 + (i - ib4)=i by omega,za2 (by omega)] at h5
     have h6:=zcT sa (show ia2 < a.toList.length by omega) y hy
     rw [zaw a hia2] at h6
     rw [zaw b (by omega)]
     omega)
    have leA:∀ y∈b.toList.drop (ib4 + k2),rk a[ia2]<=rk y:=fun y hy=>by
     obtain ⟨j,hj,g1,e⟩:=zcd hy
     have h5:=j6 (j - ib4) (by omega) (by omega)
     rw [show ib4 + (j - ib4)=j by omega,za2 (by omega)] at h5
     rw [<- e,zaw b (by omega)]
     omega
    have ex2:(b.extract ib4 (ib4 + k2)).toList=(b.toList.drop ib4).take k2:=by rw [zaP,Nat.add_sub_cancel_left]
    rw [<- ex2,<- Array.toList_append] at mC
    have f22:∀ (_:¬ (ib4 + k2 == b.size)=true),ib4 + k2 < b.size:=fun e5=>by
     have e5:¬ ib4 + k2=b.size:=by simpa using e5
     omega
    have f33:x + 1 < ia2 + (ib4 + k2):=by omega
    apply zfO
    ·intro R
     refine zfa (fun k1 => ?b3) (fun k1=>zan (fun e => ?x3) (fun e5 => ?a3))
     rotate_right
     have h22:=f22 e5
     have h33:=f33
     clear e5 k1
     have mC':=mC
     have leA':=leA
     generalize out4 ++ b.extract ib4 (ib4 + k2)=out3 at mC' ⊢
     generalize ib4 + k2=ib2 at mC' leA' h22 h33 ⊢
     revert out3 ib2
     exact R
     ·have e7:k2=0:=by omega
      have leA2:=leA
      rw [e7,Nat.add_zero] at leA2
      exact R out4 ib4 mB leA2 hb4 h34
     ·have e:ib4 + k2=b.size:=by simpa using e
      refine wpS_pure ⟨hL4,.inl ⟨_,rfl,?_⟩⟩
      have:=doneA mC e
      simp only [Array.toList_append,Array.toList_push,zaR] at this ⊢
      exact this
    intro out3 ib2 mC leA h22 h33
    have mD:=mC.pushA sa (by omega) (fun y hy=>by rw [zaw a hia2]; exact leA y hy)
    rw [zaw a hia2,<- Array.toList_push] at mD
    refine wpS_bind (zaL hia2 ?_)
    refine zan (fun e => ?_) (fun e => ?_)
    ·have e:ia2 + 1 + 1=a.size:=by simpa using e
     refine wpS_pure ⟨hL4,.inl ⟨_,rfl,?_⟩⟩
     have:=mD.restBA sa sb (fun x hx y hy=>lastA _ x hx _ e y hy)
     simp only [Array.toList_append,Array.toList_push,zaR] at this ⊢
     exact this
    have e9:¬ ia2 + 1 + 1=a.size:=by simpa using e
    exact zan (fun _=>wpS_pure ⟨hL4,.inr ⟨_,_,_,_,_,_,rfl,mD,by omega,h22,by omega⟩⟩) (fun _=>wpS_pure ⟨hL4,_,_,_,_,_,_,rfl,mD,by omega,h22,by omega⟩)
end
end L2
namespace L2
open PySem PySem.Spec PyProof.Rows
structure HI (rk:Keyed->Int) (la lb out:List Keyed) (na nb:Nat):Prop where
 perm:out.Perm (la.drop na ++ lb.drop nb)
 srt:out.Pairwise fun x y=>rk y<=rk x
 high:∀ x∈out,(∀ y∈la.take na,rk y<=rk x)/\∀ y∈lb.take nb,rk y<=rk x
section
variable {rk:Keyed->Int} {la lb out:List Keyed} {na nb:Nat}
theorem zbr {l:List Keyed} {n:Nat} {y:Keyed} (h:y∈l.take n):∃ j,∃ hj:j < l.length,j < n/\l[j]=y:=by
 obtain ⟨j,hj,e⟩:=List.getElem_of_mem h
 rw [List.length_take] at hj
 rw [List.getElem_take] at e
 exact ⟨j,by omega,by omega,e⟩
theorem zdD {l:List Keyed} (s:Srt rk l) {n:Nat} (h0:0 < n) (h:n<=l.length):∀ y∈l.take n,rk y<=rk (l[n - 1]'(by omega)):=fun y hy=>by
 obtain ⟨j,hj,h1,rfl⟩:=zbr hy
 by_cases e:j=n - 1
 ·subst e; exact Int.le_refl _
 ·exact List.pairwise_iff_getElem.mp s j (n - 1) hj (by omega) (by omega)
theorem zcn {l:List Keyed} {m n:Nat} (h:m<=n) {y:Keyed} (hy:y∈l.take m):y∈l.take n:=by
 have:l.take m=(l.take n).take m:=by rw [List.take_take,Nat.min_eq_left h]
 rw [this] at hy
 exact List.mem_of_mem_take hy
theorem HI.pushA (m:HI rk la lb out na nb) (sa:Srt rk la) (h0:0 < na) (h:na<=la.length) (hb:∀ y∈lb.take nb,rk y<=rk (la[na - 1]'(by omega))):HI rk la lb (out ++ [la[na - 1]'(by omega)]) (na - 1) nb:=by
 have hd:la.drop (na - 1)=la[na - 1]'(by omega) :: la.drop na:=by
  have:=za4 (l:=la) (i:=na - 1) (by omega)
  rwa [Nat.sub_add_cancel h0] at this
 have hm:la[na - 1]'(by omega)∈la.take na:=by
  rw [List.mem_take_iff_getElem]
  exact ⟨na - 1,by omega,rfl⟩
 refine ⟨?_,List.pairwise_append.mpr ⟨m.srt,by simp,fun x hx y hy => ?_⟩,fun x hx => ?_⟩
 ·rw [hd,List.cons_append]
  exact (m.perm.append_right _).trans List.perm_append_comm
 ·rw [List.mem_singleton.mp hy]
  exact (m.high x hx).1 _ hm
 ·rcases List.mem_append.mp hx with z | z
  ·exact ⟨fun y hy=>(m.high x z).1 y (zcn (by omega) hy),(m.high x z).2⟩
  ·rw [List.mem_singleton.mp z]
   exact ⟨fun y hy=>zdD sa h0 h y (zcn (by omega) hy),hb⟩
theorem HI.pushB (m:HI rk la lb out na nb) (sb:Srt rk lb) (h0:0 < nb) (h:nb<=lb.length) (ha:∀ y∈la.take na,rk y<=rk (lb[nb - 1]'(by omega))):HI rk la lb (out ++ [lb[nb - 1]'(by omega)]) na (nb - 1):=by
 have hd:lb.drop (nb - 1)=lb[nb - 1]'(by omega) :: lb.drop nb:=by
  have:=za4 (l:=lb) (i:=nb - 1) (by omega)
  rwa [Nat.sub_add_cancel h0] at this
 have hm:lb[nb - 1]'(by omega)∈lb.take nb:=by
  rw [List.mem_take_iff_getElem]
  exact ⟨nb - 1,by omega,rfl⟩
 refine ⟨?_,List.pairwise_append.mpr ⟨m.srt,by simp,fun x hx y hy => ?_⟩,fun x hx => ?_⟩
 ·rw [hd]
  refine (m.perm.append_right _).trans ?_
  rw [List.append_assoc]
  refine List.Perm.append_left _ ?_
  exact List.perm_append_comm
 ·rw [List.mem_singleton.mp hy]
  exact (m.high x hx).2 _ hm
 ·rcases List.mem_append.mp hx with z | z
  ·exact ⟨(m.high x z).1,fun y hy=>(m.high x z).2 y (zcn (by omega) hy)⟩
  ·rw [List.mem_singleton.mp z]
   exact ⟨ha,fun y hy=>zdD sb h0 h y (zcn (by omega) hy)⟩
theorem HI.moreA (m:HI rk la lb out na nb) (sa:Srt rk la) (h:na<=la.length):∀ {d p:Nat},p + d=na->(∀ i (h:i < la.length),p<=i->i < na->∀ y∈lb.take nb,rk y<=rk la[i])->HI rk la lb (out ++ ((la.drop p).take d).reverse) p nb
 | 0,p,e,_=>by
  have:p=na:=by omega
  subst this
  simpa using m
 | d + 1,p,e,hy=>by
  have m1:=HI.moreA m sa h (d:=d) (p:=p + 1) (by omega) fun i hi h1 h2=>hy i hi (by omega) h2
  have m2:=m1.pushA sa (by omega) (by omega) (hy (p + 1 - 1) (by omega) (by omega) (by omega))
  rw [za4 (show p < la.length by omega),List.take_succ_cons,List.reverse_cons,<- List.append_assoc]
  simpa only [Nat.add_sub_cancel] using m2
theorem HI.moreB (m:HI rk la lb out na nb) (sb:Srt rk lb) (h:nb<=lb.length):∀ {d p:Nat},p + d=nb->(∀ i (h:i < lb.length),p<=i->i < nb->∀ y∈la.take na,rk y<=rk lb[i])->HI rk la lb (out ++ ((lb.drop p).take d).reverse) na p
 | 0,p,e,_=>by
  have:p=nb:=by omega
  subst this
  simpa using m
 | d + 1,p,e,hy=>by
  have m1:=HI.moreB m sb h (d:=d) (p:=p + 1) (by omega) fun i hi h1 h2=>hy i hi (by omega) h2
  have m2:=m1.pushB sb (by omega) (by omega) (hy (p + 1 - 1) (by omega) (by omega) (by omega))
  rw [za4 (show p < lb.length by omega),List.take_succ_cons,List.reverse_cons,<- List.append_assoc]
  simpa only [Nat.add_sub_cancel] using m2
theorem HI.rev (m:HI rk la lb out na nb):Srt rk out.reverse:=List.pairwise_reverse.mpr m.srt
theorem HI.restAB (m:HI rk la lb out na nb) (sa:Srt rk la) (sb:Srt rk lb) (h:∀ x∈la.take na,∀ y∈lb.take nb,rk x<=rk y):MFin rk la lb (la.take na ++ lb.take nb ++ out.reverse):=by
 refine ⟨?_,List.pairwise_append.mpr ⟨List.pairwise_append.mpr ⟨List.Pairwise.sublist (List.take_sublist _ _) sa,List.Pairwise.sublist (List.take_sublist _ _) sb,h⟩,m.rev,fun x hx y hy => ?_⟩⟩
 ·refine (List.Perm.append_left _ ((List.reverse_perm out).trans m.perm)).trans ?_
  have e:la.take na ++ lb.take nb ++ (la.drop na ++ lb.drop nb)=la.take na ++ (lb.take nb ++ la.drop na) ++ lb.drop nb:=by simp
  rw [e]
  refine (List.Perm.append_right _ (List.Perm.append_left _ List.perm_append_comm)).trans ?_
  rw [<- List.append_assoc,List.take_append_drop,List.append_assoc,List.take_append_drop]
 ·have:=m.high y (List.mem_reverse.mp hy)
  rcases List.mem_append.mp hx with z | z
  ·exact this.1 x z
  ·exact this.2 x z
theorem HI.restBA (m:HI rk la lb out na nb) (sa:Srt rk la) (sb:Srt rk lb) (h:∀ x∈lb.take nb,∀ y∈la.take na,rk x<=rk y):MFin rk la lb (lb.take nb ++ la.take na ++ out.reverse):=by
 refine ⟨?_,List.pairwise_append.mpr ⟨List.pairwise_append.mpr ⟨List.Pairwise.sublist (List.take_sublist _ _) sb,List.Pairwise.sublist (List.take_sublist _ _) sa,h⟩,m.rev,fun x hx y hy => ?_⟩⟩
 ·refine (List.Perm.append_left _ ((List.reverse_perm out).trans m.perm)).trans ?_
  have e:lb.take nb ++ la.take na ++ (la.drop na ++ lb.drop nb)=lb.take nb ++ la ++ lb.drop nb:=by
   have:=List.take_append_drop na la
   rw [List.append_assoc,<- List.append_assoc (la.take na),this,<- List.append_assoc]
  rw [e]
  refine (List.Perm.append_right _ List.perm_append_comm).trans ?_
  rw [List.append_assoc,List.take_append_drop]
 ·have:=m.high y (List.mem_reverse.mp hy)
  rcases List.mem_append.mp hx with z | z
  ·exact this.2 x z
  ·exact this.1 x z
end
theorem zaI (a:Array Keyed) (n:Nat):(a.extract 0 n).toList=a.toList.take n:=by
 rw [zaP,List.drop_zero,Nat.sub_zero]
noncomputable abbrev mergeHiS:Array Keyed->Array Keyed->StateT SortSt Sem (Array Keyed):=sortPriv% PySem.Builtin.mergeHi
section
variable {prog:Program} {w:World} {A:Around} {E:Value->Shared->Prop} {s:Shared} {kd:SortKind} {S:Keyed->Prop} {rk:Keyed->Int}
theorem mergeHi_ok (C:Ranks prog w A E s kd S rk) {a b:Array Keyed} {Q:Array Keyed->SortSt->Prop} {st:SortSt} (ha:0 < a.size) (hb:0 < b.size) (sa:Srt rk a.toList) (sb:Srt rk b.toList) (Sa:∀ i (h:i < a.size),S a[i]) (Sb:∀ i (h:i < b.size),S b[i]) (h0:∀ y∈a.toList,rk b[0]<=rk y) (hl:∀ y∈b.toList,rk y<=rk (a[a.size - 1]'(by omega))) (hst:kindOf st=kd)
  (q:∀ res st',Like st st'->MFin rk a.toList b.toList res.toList->Q res st'):wpS (model prog w) A E s (mergeHiS a b) Q st:=by
 have la:a.toList.length=a.size:=Array.length_toList
 have lb:b.toList.length=b.size:=Array.length_toList
 have m0:HI rk a.toList b.toList [a[a.size - 1]'(by omega)] (a.size - 1) b.size:=by
  have mm:HI rk a.toList b.toList [] a.size b.size:=⟨by rw [<- la,<- lb]; simp,List.Pairwise.nil,fun x hx=>by cases hx⟩
  have:=mm.pushA sa ha (by omega) (fun y hy=>by rw [zaw a (by omega)]; exact hl y (List.mem_of_mem_take hy))
  rw [zaw a (by omega)] at this
  exact this
 have firstB:∀ nb,nb=1->∀ na,∀ x∈b.toList.take nb,∀ y∈a.toList.take na,rk x<=rk y:=fun nb e na x hx y hy=>by
  subst e
  obtain ⟨j,hj,h1,e2⟩:=zbr hx
  have:j=0:=by omega
  subst this
  rw [<- e2,zaw b hb]
  exact h0 y (List.mem_of_mem_take hy)
 have doneA:∀ {out:List Keyed} {na nb:Nat},HI rk a.toList b.toList out na nb->na=0->MFin rk a.toList b.toList (a.toList.take na ++ b.toList.take nb ++ out.reverse):=fun m e=>by
  subst e
  exact m.restAB sa sb (fun x hx=>by simp at hx)
 have doneB:∀ {out:List Keyed} {na nb:Nat},HI rk a.toList b.toList out na nb->nb=0->MFin rk a.toList b.toList (a.toList.take na ++ b.toList.take nb ++ out.reverse):=fun m e=>by
  subst e
  exact m.restAB sa sb (fun x _ y hy=>by simp at hy)
 refine wpS_bind (wpS_lift (wpAny_rule ⟨rfl,?_⟩))
 dsimp only
 refine wpS_bind (zaL (by omega) ?_)
 refine zan (fun e1 => ?_) (fun e1 => ?_)
 ·have e1:a.size - 1=0:=by simpa using e1
  refine wpS_pure (q _ st (Like.refl st) ?_)
  have:=doneA m0 e1
  simp only [Array.toList_append,Array.toList_reverse,zaI]
  exact this
 refine zan (fun e2 => ?_) (fun e2 => ?_)
 ·have e2:b.size=1:=by simpa using e2
  refine wpS_pure (q _ st (Like.refl st) ?_)
  have:=m0.restBA sa sb (fun x hx y hy=>firstB _ e2 _ x hx y hy)
  simp only [Array.toList_append,Array.toList_reverse,zaI]
  exact this
 have e1:¬ a.size - 1=0:=by simpa using e1
 have e2:¬ b.size=1:=by simpa using e2
 refine wpS_bind (wpS_get ?_)
 refine wpS_bind (wpS_mono (wpS_forRange (I:=fun x c st'=>Like st st'/\∃ (out:Array Keyed) (na nb g:Nat),c=(none,na,nb,out,g)/\HI rk a.toList b.toList out.toList na nb/\0 < na/\na<=a.size/\1 < nb/\nb<=b.size/\x + na + nb < a.size + b.size) (Q:=fun c st'=>Like st st'/\∃ res:Array Keyed,c.1=some res/\MFin rk a.toList b.toList res.toList) ?step ?fin ⟨Like.refl st,_,_,_,_,rfl,m0,by omega,by omega,by omega,by omega,by omega⟩) ?post)
 case fin =>
  rintro c st' ⟨_,out,na,nb,g,rfl,_,h1,h2,h3,h4,h5⟩
  omega
 case post =>
  rintro ⟨r,na,nb,out,g⟩ st' ⟨hL,res,e,hf⟩
  dsimp only at e ⊢
  subst e
  exact wpS_pure (q res st' hL hf)
 case step =>
  rintro x c st1 _ hx ⟨hL,out,na,nb,g,rfl,m,h1,h1',h2,h2',h3⟩
  dsimp only
  have hk1:kindOf st1=kd:=hL.1.trans hst
  refine wpS_bind (wpS_mono (wpS_forRange (I:=fun y c st'=>st'=st1/\∃ (out:Array Keyed) (na nb ac bc:Nat),c=(none,na,nb,out,ac,bc)/\HI rk a.toList b.toList out.toList na nb/\0 < na/\na<=a.size/\1 < nb/\nb<=b.size/\x + na + nb < a.size + b.size/\(0 < y->x + 1 + na + nb < a.size + b.size)) (Q:=fun c st'=>st'=st1/\((∃ res:Array Keyed,c.1=some res/\MFin rk a.toList b.toList res.toList)\/∃ (out:Array Keyed) (na nb ac bc:Nat),c=(none,na,nb,out,ac,bc)/\HI rk a.toList b.toList out.toList na nb/\0 < na/\na<=a.size/\1 < nb/\nb<=b.size/\x + 1 + na + nb < a.size + b.size)) ?step ?fin ⟨rfl,_,_,_,_,_,rfl,m,h1,h1',h2,h2',h3,by omega⟩) ?post)
  case fin =>
   rintro c st' ⟨rfl,out,na,nb,ac,bc,rfl,m,h1,h1',h2,h2',h3,h4⟩
   exact ⟨rfl,.inr ⟨out,na,nb,ac,bc,rfl,m,h1,h1',h2,h2',h4 (by omega)⟩⟩
  case step =>
   rintro y c st' _ hy ⟨rfl,out,na,nb,ac,bc,rfl,m,h1,h1',h2,h2',h3,h4⟩
   dsimp only
   have ib:nb - 1 < b.size:=by omega
   have ia:na - 1 < a.size:=by omega
   refine wpS_bind (zaL ib (wpS_bind (zaL ia (wpS_bind (C.ask (Sb _ ib) (Sa _ ia) hk1 ?_)))))
   dsimp only
   refine zan (fun hw => ?_) (fun hw => ?_)
   ·have hw:rk b[nb - 1] < rk a[na - 1]:=by simpa using hw
    have m':=m.pushA sa h1 (by omega) (fun y hy=>by
     have:=zdD sb (show 0 < nb by omega) (by omega) y hy
     rw [zaw b ib] at this
     rw [zaw a ia]
     omega)
    rw [zaw a ia,<- Array.toList_push] at m'
    refine wpS_bind (zaL ia ?_)
    refine zan (fun e => ?_) (fun e => ?_)
    ·have e:na - 1=0:=by simpa using e
     refine wpS_pure ⟨rfl,.inl ⟨_,rfl,?_⟩⟩
     have:=doneA m' e
     simp only [Array.toList_append,Array.toList_reverse,zaI]
     exact this
    have e:¬ na - 1=0:=by simpa using e
    refine zan (fun _=>wpS_pure ⟨rfl,.inr ⟨_,_,_,_,_,rfl,m',by omega,by omega,h2,h2',by omega⟩⟩) (fun _=>wpS_pure ⟨rfl,_,_,_,_,_,rfl,m',by omega,by omega,h2,h2',by omega,by omega⟩)
   ·have hw:rk a[na - 1]<=rk b[nb - 1]:=by simpa using hw
    have m':=m.pushB sb (by omega) (by omega) (fun y hy=>by
     have:=zdD sa h1 (by omega) y hy
     rw [zaw a ia] at this
     rw [zaw b ib]
     omega)
    rw [zaw b ib,<- Array.toList_push] at m'
    refine wpS_bind (zaL ib ?_)
    refine zan (fun e => ?_) (fun e => ?_)
    ·have e:nb - 1=1:=by simpa using e
     refine wpS_pure ⟨rfl,.inl ⟨_,rfl,?_⟩⟩
     have:=m'.restBA sa sb (fun x hx y hy=>firstB _ e _ x hx y hy)
     simp only [Array.toList_append,Array.toList_reverse,zaI]
     exact this
    have e:¬ nb - 1=1:=by simpa using e
    refine zan (fun _=>wpS_pure ⟨rfl,.inr ⟨_,_,_,_,_,rfl,m',h1,h1',by omega,by omega,by omega⟩⟩) (fun _=>wpS_pure ⟨rfl,_,_,_,_,_,rfl,m',h1,h1',by omega,by omega,by omega,by omega⟩)
  case post =>
   rintro ⟨r,na,nb,out,ac,bc⟩ st' ⟨rfl,hres | ⟨out',na',nb',ac',bc',e,m,h1,h1',h2,h2',h3⟩⟩
   ·obtain ⟨res,e,hf⟩:=hres
    dsimp only at e ⊢
    subst e
    exact wpS_pure ⟨hL,res,rfl,hf⟩
   cases e
   dsimp only
   refine wpS_bind (wpS_lift (wpAny_rule ⟨rfl,?_⟩))
   refine wpS_bind (wpS_mono (wpS_forRange (I:=fun y c st'=>Like st st'/\∃ (out:Array Keyed) (na nb g ac bc:Nat),c=(none,na,nb,out,g,ac,bc)/\HI rk a.toList b.toList out.toList na nb/\0 < na/\na<=a.size/\1 < nb/\nb<=b.size/\x + 1 + na + nb < a.size + b.size) (Q:=fun c st'=>Like st st'/\((∃ res:Array Keyed,c.1=some res/\MFin rk a.toList b.toList res.toList)\/∃ (out:Array Keyed) (na nb g ac bc:Nat),c=(none,na,nb,out,g,ac,bc)/\HI rk a.toList b.toList out.toList na nb/\0 < na/\na<=a.size/\1 < nb/\nb<=b.size/\x + 1 + na + nb < a.size + b.size)) ?step ?fin ⟨hL,_,_,_,_,_,_,rfl,m,h1,h1',h2,h2',h3⟩) ?post)
   case fin =>
    rintro c st' ⟨hL2,h⟩
    exact ⟨hL2,.inr h⟩
   case post =>
    rintro ⟨r,na,nb,out,g,ac,bc⟩ st2 ⟨hL2,hres | ⟨out',na',nb',g',ac',bc',e,m,h1,h1',h2,h2',h3⟩⟩
    ·obtain ⟨res,e,hf⟩:=hres
     dsimp only at e ⊢
     subst e
     exact wpS_pure ⟨hL2,res,rfl,hf⟩
    cases e
    dsimp only
    exact wpS_bind (zbb ⟨rfl,rfl,rfl,rfl⟩ fun st3 hL3=>wpS_pure ⟨hL2.trans hL3,_,_,_,_,rfl,m,h1,h1',h2,h2',by omega⟩)
   case step =>
    rintro y c st2 _ hy ⟨hL2,out,na,nb,g,ac,bc,rfl,m,h1,h1',h2,h2',h3⟩
    dsimp only
    have ib:nb - 1 < b.size:=by omega
    refine zan (fun _=>wpS_bind (zbb ⟨rfl,rfl,rfl,rfl⟩ fun st3 hL3 => ?_)) (fun _=>wpS_bind (zbb ⟨rfl,rfl,rfl,rfl⟩ fun st3 hL3 => ?_))
    all_goals
     have hL4:=hL2.trans hL3
     have hk3:kindOf st3=kd:=hL4.1.trans hst
     refine wpS_bind (zaL ib ?_)
     refine wpS_bind (zbI C (Sb _ ib) (fun i h _ _=>Sa i h) (by omega) (by omega) (zgx sa (by omega)) hk3 fun p j1 j2 j3 => ?_)
     dsimp only
     simp only [Bool.false_eq_true,if_false,Nat.zero_add] at j2 j3
     have mA:=m.moreA sa (by omega) (d:=na - p) (p:=p) (by omega) (fun i hi g1 g2 y hy=>by
      have h5:=j3 i g1 g2
      rw [za2 (by omega)] at h5
      have h6:=zdD sb (show 0 < nb by omega) (by omega) y hy
      rw [zaw b ib] at h6
      rw [zaw a (by omega)]
      omega)
     have leB:∀ y∈a.toList.take p,rk y<=rk b[nb - 1]:=fun y hy=>by
      obtain ⟨j,hj,g1,e⟩:=zbr hy
      have h5:=j2 j g1
      rw [za2 (by omega)] at h5
      rw [<- e,zaw a (by omega)]
      exact h5
     rw [<- zaP,<- Array.toList_reverse,<- Array.toList_append] at mA
     refine zan (fun k0 => ?_) (fun k0 => ?_)
     rotate_left
     have mA:=m
     have h12:=h1
     have h12':=h1'
     have h32:=h3
     have e7:p=na:=by omega
     rw [e7] at leB ⊢
     generalize out=out2 at mA ⊢
     generalize na=na2 at mA leB h12 h12' h32 ⊢
     rotate_left
     refine zan (fun e => ?_) (fun e => ?_)
     ·have e:p=0:=by simpa using e
      refine wpS_pure ⟨hL4,.inl ⟨_,rfl,?_⟩⟩
      have:=doneA mA e
      simp only [Array.toList_append,Array.toList_reverse,zaI] at this ⊢
      exact this
     have e5:¬ p=0:=by simpa using e
     have h12:0 < p:=by omega
     have h12':p<=a.size:=by omega
     have h32:x + 1 + p + nb < a.size + b.size:=by omega
     generalize out ++ (a.extract p na).reverse=out2 at mA ⊢
     generalize na - p=kk at k0 ⊢
     generalize p=na2 at mA leB h12 h12' h32 ⊢
    all_goals
     have mB:=mA.pushB sb (by omega) (by omega) (fun y hy=>by rw [zaw b ib]; exact leB y hy)
     rw [zaw b ib,<- Array.toList_push] at mB
     refine wpS_bind (zaL ib ?_)
     refine zan (fun e => ?_) (fun e => ?_)
     ·have e:nb - 1=1:=by simpa using e
      refine wpS_pure ⟨hL4,.inl ⟨_,rfl,?_⟩⟩
      have:=mB.restBA sa sb (fun x hx y hy=>firstB _ e _ x hx y hy)
      simp only [Array.toList_append,Array.toList_reverse,zaI]
      exact this
     have e8:¬ nb - 1=1:=by simpa using e
     have hia2:na2 - 1 < a.size:=by omega
     refine wpS_bind (zaL hia2 ?_)
     refine wpS_bind (zbI C (Sa _ hia2) (fun i h _ _=>Sb i h) (by omega) (by omega) (zgx sb (by omega)) hk3 fun p2 j4 j5 j6 => ?_)
     dsimp only
     simp only [if_true,Nat.zero_add] at j5 j6
     have mC:=mB.moreB sb (by omega) (d:=nb - 1 - p2) (p:=p2) (by omega) (fun i hi g1 g2 y hy=>by
      have h5:=j6 i g1 g2
      rw [za2 (by omega)] at h5
      have h6:=zdD sa h12 (by omega) y hy
      rw [zaw a hia2] at h6
      rw [zaw b (by omega)]
      omega)
     have leA:∀ y∈b.toList.take p2,rk y<=rk a[na2 - 1]:=fun y hy=>by
      obtain ⟨j,hj,g1,e⟩:=zbr hy
      have h5:=j5 j g1
      rw [za2 (by omega)] at h5
      rw [<- e,zaw b (by omega)]
      omega
     rw [<- zaP,<- Array.toList_reverse,<- Array.toList_append] at mC
     refine zan (fun k1 => ?_) (fun k1 => ?_)
     rotate_left
     have mC:=mB
     have h22:1 < nb - 1:=by omega
     have h22':nb - 1<=b.size:=by omega
     have h33:x + 1 + na2 + (nb - 1) < a.size + b.size:=by omega
     have e7:p2=nb - 1:=by omega
     rw [e7] at leA ⊢
     generalize out2.push b[nb - 1]=out3 at mC ⊢
     generalize nb - 1=nb2 at mC leA h22 h22' h33 ⊢
     rotate_left
     refine zan (fun e => ?_) (fun e => ?_)
     ·have e:p2=1:=by simpa using e
      refine wpS_pure ⟨hL4,.inl ⟨_,rfl,?_⟩⟩
      have:=mC.restBA sa sb (fun x hx y hy=>firstB _ e _ x hx y hy)
      simp only [Array.toList_append,Array.toList_reverse,zaI] at this ⊢
      exact this
     have e5:¬ p2=1:=by simpa using e
     refine zan (fun e => ?_) (fun e => ?_)
     ·have e:p2=0:=by simpa using e
      refine wpS_pure ⟨hL4,.inl ⟨_,rfl,?_⟩⟩
      have:=doneB mC e
      simp only [Array.toList_append,Array.toList_reverse,zaI] at this ⊢
      exact this
     have e6:¬ p2=0:=by simpa using e
     have h22:1 < p2:=by omega
     have h22':p2<=b.size:=by omega
     have h33:x + 1 + na2 + p2 < a.size + b.size:=by omega
     generalize out2.push b[nb - 1] ++ (b.extract p2 (nb - 1)).reverse=out3 at mC ⊢
     generalize nb - 1 - p2=kk2 at k1 ⊢
     generalize p2=nb2 at mC leA h22 h22' h33 ⊢
    all_goals
     have mD:=mC.pushA sa h12 (by omega) (fun y hy=>by rw [zaw a hia2]; exact leA y hy)
     rw [zaw a hia2,<- Array.toList_push] at mD
     refine wpS_bind (zaL hia2 ?_)
     refine zan (fun e => ?_) (fun e => ?_)
     ·have e:na2 - 1=0:=by simpa using e
      refine wpS_pure ⟨hL4,.inl ⟨_,rfl,?_⟩⟩
      have:=doneA mD e
      simp only [Array.toList_append,Array.toList_reverse,zaI] at this ⊢
      exact this
     have e9:¬ na2 - 1=0:=by simpa using e
     exact zan (fun _=>wpS_pure ⟨hL4,.inr ⟨_,_,_,_,_,_,rfl,mD,by omega,by omega,h22,h22',by omega⟩⟩) (fun _=>wpS_pure ⟨hL4,_,_,_,_,_,_,rfl,mD,by omega,by omega,h22,h22',by omega⟩)
end
end L2
namespace L2
open PySem PySem.Spec PyProof.Rows
theorem za3 {rk:Keyed->Int} {xs ys:Array Keyed} {i j:Nat} (h:xs[i]?=ys[j]?):kAt rk xs i=kAt rk ys j:=by unfold kAt; rw [h]
theorem zcK {rk:Keyed->Int} {xs:Array Keyed} {i j:Nat} (hj:j<=xs.size) (k:Nat):kAt rk (mirror xs i j ((j - i) / 2)) k=if i<=k/\k < j then kAt rk xs (i + j - 1 - k) else kAt rk xs k:=by
 have e:=getElem?_mirror_all (i:=i) hj k
 by_cases h:i<=k/\k < j
 ·rw [if_pos h] at e ⊢; exact za3 e
 ·rw [if_neg h] at e ⊢; exact za3 e
theorem zbt {rk:Keyed->Int} {xs:Array Keyed} {i j:Nat} (hj:j<=xs.size) (h:∀ k,i<=k->k < j->kAt rk xs k=kAt rk xs (j - 1)) (k:Nat):kAt rk (mirror xs i j ((j - i) / 2)) k=kAt rk xs k:=by
 rw [zcK hj]
 by_cases e:i<=k/\k < j
 ·rw [if_pos e,h _ (by omega) (by omega),h k e.1 e.2]
 ·rw [if_neg e]
theorem zdS {rk:Keyed->Int} {xs:Array Keyed} {src d:Nat} (hs:src < xs.size) (hd:d<=src) (k:Nat):kAt rk (bubble xs src d) k=if k=src - d then kAt rk xs src else if src - d < k/\k<=src then kAt rk xs (k - 1) else kAt rk xs k:=by
 have e:=getElem?_bubble hs d hd k
 by_cases h:k=src - d
 ·rw [if_pos h] at e ⊢; exact za3 e
 ·rw [if_neg h] at e ⊢
  by_cases h2:src - d < k/\k<=src
  ·rw [if_pos h2] at e ⊢; exact za3 e
  ·rw [if_neg h2] at e ⊢; exact za3 e
structure Chg (lo hi:Nat) (st st':SortSt):Prop where
 kind:kindOf st'=kindOf st
 pend:pendingOf st'=pendingOf st
 fail:failedOf st'=failedOf st
 perm:(arrOf st').Perm (arrOf st)
 out:∀ i,(i < lo\/hi<=i)->(arrOf st')[i]?=(arrOf st)[i]?
theorem Chg.refl {lo hi:Nat} (st:SortSt):Chg lo hi st st:=⟨rfl,rfl,rfl,Array.Perm.refl _,fun _ _=>rfl⟩
theorem Chg.size {lo hi:Nat} {st st':SortSt} (h:Chg lo hi st st'):(arrOf st').size=(arrOf st).size:=h.perm.size_eq
theorem Chg.trans {lo hi:Nat} {a b c:SortSt} (h:Chg lo hi a b) (k:Chg lo hi b c):Chg lo hi a c:=⟨k.kind.trans h.kind,k.pend.trans h.pend,k.fail.trans h.fail,k.perm.trans h.perm,fun i hi=>(k.out i hi).trans (h.out i hi)⟩
theorem Chg.wide {lo hi lo' hi':Nat} {a b:SortSt} (h:Chg lo hi a b) (h1:lo'<=lo) (h2:hi<=hi'):Chg lo' hi' a b:=⟨h.kind,h.pend,h.fail,h.perm,fun i hi=>h.out i (by omega)⟩
theorem Chg.mirror {lo hi i j:Nat} {st st':SortSt} (h:Chg lo hi st st') (hi':lo<=i) (hj:j<=hi) (hs:j<=(arrOf st').size):Chg lo hi st (setArr st' (mirror (arrOf st') i j ((j - i) / 2))) :=
 h.trans ⟨rfl,rfl,rfl,mirror_perm _ _ _ _,fun k hk=>by
  show (PyProof.Rows.mirror (arrOf st') i j ((j - i) / 2))[k]?=_
  rw [getElem?_mirror_all hs,if_neg (by omega)]⟩
theorem Chg.bubble {lo hi src d:Nat} {st st':SortSt} (h:Chg lo hi st st') (h1:lo + d<=src) (h2:src < hi) (hs:src < (arrOf st').size):Chg lo hi st (setArr st' (bubble (arrOf st') src d)) :=
 h.trans ⟨rfl,rfl,rfl,bubble_perm _ _ _,fun k hk=>by
  show (PyProof.Rows.bubble (arrOf st') src d)[k]?=_
  rw [getElem?_bubble hs _ (by omega),if_neg (by omega),if_neg (by omega)]⟩
theorem zb5 {S:Keyed->Prop} {a b:Array Keyed} (p:b.Perm a) (h:∀ x∈a.toList,S x):∀ x∈b.toList,S x:=fun x hx=>h x ((Array.perm_iff_toList_perm.mp p).mem_iff.mp hx)
theorem zgu {S:Keyed->Prop} {a:Array Keyed} (h:∀ x∈a.toList,S x) (i:Nat) (hi:i < a.size):S a[i]:=h _ (by simp)
theorem Up2.more {rk:Keyed->Int} {arr:Array Keyed} {lo hi:Nat} (u:Up2 rk arr lo hi) (h:lo < hi) (e:kAt rk arr (hi - 1)<=kAt rk arr hi):Up2 rk arr lo (hi + 1):=fun i j h1 h2 h3=>by
 by_cases ej:j=hi
 ·by_cases ei:i=hi
  ·rw [ei,ej]; exact Int.le_refl _
  ·have:=u i (hi - 1) h1 (by omega) (by omega)
   rw [ej]; omega
 ·exact u i j h1 h2 (by omega)
noncomputable def Dn2 (rk:Keyed->Int) (arr:Array Keyed) (lo hi:Nat):Prop:=∀ i j,lo<=i->i<=j->j < hi->kAt rk arr j<=kAt rk arr i
theorem Dn2.more {rk:Keyed->Int} {arr:Array Keyed} {lo hi:Nat} (u:Dn2 rk arr lo hi) (h:lo < hi) (e:kAt rk arr hi<=kAt rk arr (hi - 1)):Dn2 rk arr lo (hi + 1):=fun i j h1 h2 h3=>by
 by_cases ej:j=hi
 ·by_cases ei:i=hi
  ·rw [ei,ej]; exact Int.le_refl _
  ·have:=u i (hi - 1) h1 (by omega) (by omega)
   rw [ej]; omega
 ·exact u i j h1 h2 (by omega)
theorem Dn2.like {rk:Keyed->Int} {arr arr':Array Keyed} {lo hi:Nat} (u:Dn2 rk arr lo hi) (h:∀ k,kAt rk arr' k=kAt rk arr k):Dn2 rk arr' lo hi:=fun i j h1 h2 h3=>by
 rw [h,h]; exact u i j h1 h2 h3
section
variable {prog:Program} {w:World} {A:Around} {E:Value->Shared->Prop} {s:Shared} {kd:SortKind} {S:Keyed->Prop} {rk:Keyed->Int}
theorem zgb (C:Ranks prog w A E s kd S rk) {i j:Nat} {st:SortSt} {Q:Option Bool->SortSt->Prop} (hS:∀ x∈(arrOf st).toList,S x) (hk:kindOf st=kd) (hi:i < (arrOf st).size) (hj:j < (arrOf st).size) (q:Q (some (decide (kAt rk (arrOf st) i < kAt rk (arrOf st) j))) st):wpS (model prog w) A E s (ltAt' i j) Q st:=by
 rw [ltAt'_eq]
 refine wpS_bind (wpS_get (wpS_bind (zaL hi (wpS_bind (zaL hj (C.ask (zgu hS i hi) (zgu hS j hj) hk ?_))))))
 rw [za2 hi,za2 hj] at q
 exact q
theorem zgt (C:Ranks prog w A E s kd S rk) {st:SortSt} {lo a nrem:Nat} (hS:∀ x∈(arrOf st).toList,S x) (hk:kindOf st=kd) (hn:lo + nrem<=(arrOf st).size) (ha:1<=a) (han:a<=nrem) (u:Up2 rk (arrOf st) lo (lo + a)) {F:Nat->Option (Option Nat)×Nat->StateT SortSt Sem (ForInStep (Option (Option Nat)×Nat))}
  (f:∀ x n R,lo + n < (arrOf st).size->1<=n->(if kAt rk (arrOf st) (lo + n) < kAt rk (arrOf st) (lo + n - 1) then R (ForInStep.done (none,n)) st else R (ForInStep.yield (none,n + 1)) st)->wpS (model prog w) A E s (F x (none,n)) R st) :
  wpS (model prog w) A E s (forIn [a:nrem] (none,a) F) (fun c st'=>st'=st/\∃ n,c=(none,n)/\a<=n/\n<=nrem/\Up2 rk (arrOf st) lo (lo + n)/\(n=nrem\/kAt rk (arrOf st) (lo + n) < kAt rk (arrOf st) (lo + n - 1))) st:=by
 refine wpS_forRange (I:=fun x c st'=>st'=st/\c=(none,x)/\Up2 rk (arrOf st) lo (lo + x)) ?step ?fin ⟨rfl,rfl,u⟩
 case fin =>
  rintro c st' ⟨rfl,rfl,u'⟩
  rw [show max a nrem=nrem by omega] at u' ⊢
  exact ⟨rfl,nrem,rfl,han,Nat.le_refl _,u',.inl rfl⟩
 case step =>
  rintro x c st' hax hxn ⟨rfl,rfl,u'⟩
  refine f x x _ (by omega) (by omega) ?_
  by_cases hl:kAt rk (arrOf st') (lo + x) < kAt rk (arrOf st') (lo + x - 1)
  ·rw [if_pos hl]
   exact ⟨rfl,x,rfl,hax,by omega,u',.inr hl⟩
  ·rw [if_neg hl]
   exact ⟨rfl,rfl,by have:=u'.more (by omega) (by omega); rwa [show lo + x + 1=lo + (x + 1) by omega] at this⟩
theorem countRun_ok (C:Ranks prog w A E s kd S rk) {st:SortSt} {lo nrem:Nat} {Q:Option Nat->SortSt->Prop} (hS:∀ x∈(arrOf st).toList,S x) (hk:kindOf st=kd) (hn:lo + nrem<=(arrOf st).size) (h1:1<=nrem)
  (q:∀ m st',Chg lo (lo + nrem) st st'->1<=m->m<=nrem->Up2 rk (arrOf st') lo (lo + m)->Q (some m) st'):wpS (model prog w) A E s (countRun' lo nrem) Q st:=by
 rw [countRun'_eq]
 have asc1:∀ {st1:SortSt},Chg lo (lo + nrem) st st1->∀ {i j:Nat} {R:Option Bool->SortSt->Prop},i < (arrOf st).size->j < (arrOf st).size->R (some (decide (kAt rk (arrOf st1) i < kAt rk (arrOf st1) j))) st1->wpS (model prog w) A E s (ltAt' i j) R st1:=fun {st1} c i j R hi hj r =>
  zgb C (zb5 c.perm hS) (c.kind.trans hk) (by rw [c.size]; exact hi) (by rw [c.size]; exact hj) r
 refine wpS_bind (wpS_mono (zgt C hS hk hn (Nat.le_refl 1) h1 (fun i j a b c=>by rw [show i=j by omega]; exact Int.le_refl _) fun x n R b1 b2 r => ?_) ?_)
 ·refine wpS_bind (asc1 (Chg.refl st) (by omega) (by omega) ?_)
  dsimp only
  refine zan (fun e => ?_) (fun e => ?_)
  ·rw [if_pos (by simpa using e)] at r; exact wpS_pure r
  ·rw [if_neg (by simpa using e)] at r; exact wpS_pure r
 rintro ⟨r,n⟩ st0 ⟨e0,n',e,hn1,hn2,u,hor⟩
 cases e
 rw [e0]
 clear e0 st0
 dsimp only
 refine zan (fun e=>wpS_pure (q n _ (Chg.refl _) hn1 hn2 u)) (fun e => ?_)
 have e:¬ n=nrem:=by simpa using e
 have hlt:=hor.resolve_left e
 refine zan (fun g => ?_) (fun g => ?_)
 refine wpS_bind (asc1 (Chg.refl st) (by omega) (by omega) ?_)
 dsimp only
 refine zan (fun _=>wpS_pure (q n _ (Chg.refl _) hn1 hn2 u)) (fun ng => ?_)
 have ng:kAt rk (arrOf st) (lo + n - 1)<=kAt rk (arrOf st) lo:=by simpa using ng
 have all:∀ k,lo<=k->k < lo + n->kAt rk (arrOf st) k=kAt rk (arrOf st) (lo + n - 1):=fun k a b=>by
  have a1:=u lo k (Nat.le_refl _) a b
  have a2:=u k (lo + n - 1) a (by omega) (by omega)
  omega
 refine wpS_bind (wpS_reverse ?_)
 have c1:=(Chg.refl (lo:=lo) (hi:=lo + nrem) st).mirror (i:=lo) (j:=lo + n) (Nat.le_refl _) (by omega) (by omega)
 have d1:Dn2 rk (arrOf (setArr st (mirror (arrOf st) lo (lo + n) ((lo + n - lo) / 2)))) lo (lo + (n + 1)):=by
  refine Dn2.like (arr:=arrOf st) ?_ (zbt (by omega) all)
  have d0:Dn2 rk (arrOf st) lo (lo + n):=fun i j a b c=>by rw [all i a (by omega),all j (by omega) c]; exact Int.le_refl _
  exact d0.more (by omega) (by omega)
 generalize setArr st (mirror (arrOf st) lo (lo + n) ((lo + n - lo) / 2))=st1 at c1 d1 ⊢
 rotate_left
 have c1:=Chg.refl (lo:=lo) (hi:=lo + nrem) st
 have d1:Dn2 rk (arrOf st) lo (lo + (n + 1)):=by
  have d0:Dn2 rk (arrOf st) lo (lo + n):=fun i j a b c=>by rw [show i=j by omega]; exact Int.le_refl _
  exact d0.more (by omega) (by omega)
 obtain ⟨st1,hh⟩:∃ st1,st1=st:=⟨_,rfl⟩
 have c1:Chg lo (lo + nrem) st st1:=by rw [hh]; exact c1
 have d1:Dn2 rk (arrOf st1) lo (lo + (n + 1)):=by rw [hh]; exact d1
 rw [<- hh]
 clear hh
 all_goals
  refine wpS_bind (wpS_lift (wpAny_rule ⟨rfl,?_⟩))
  refine wpS_bind (wpS_mono (wpS_forRange (I:=fun x c st'=>∃ neq,c=(none,x,neq)/\Chg lo (lo + nrem) st st'/\Dn2 rk (arrOf st') lo (lo + x)/\neq + 1<=x/\∀ i,lo + x - (neq + 1)<=i->i < lo + x->kAt rk (arrOf st') i=kAt rk (arrOf st') (lo + x - 1))
   (Q:=fun c st'=>∃ m neq,c=(none,m,neq)/\Chg lo (lo + nrem) st st'/\n + 1<=m/\m<=nrem/\Dn2 rk (arrOf st') lo (lo + m)/\neq + 1<=m/\∀ i,lo + m - (neq + 1)<=i->i < lo + m->kAt rk (arrOf st') i=kAt rk (arrOf st') (lo + m - 1)) ?step ?fin ⟨0,rfl,c1,d1,by omega,fun i a b=>by congr 1; omega⟩) ?post)
  case fin =>
   rintro c st' ⟨neq,rfl,a1,a2,a3,a4⟩
   rw [show max (n + 1) nrem=nrem by omega] at a2 a3 a4 ⊢
   exact ⟨nrem,neq,rfl,a1,by omega,Nat.le_refl _,a2,a3,a4⟩
  case step =>
   rintro x c st' hx1 hx2 ⟨neq,rfl,a1,a2,a3,a4⟩
   dsimp only
   have sz:=a1.size
   refine wpS_bind (asc1 a1 (by omega) (by omega) ?_)
   dsimp only
   refine zan (fun e1 => ?_) (fun e1 => ?_)
   ·have e1:kAt rk (arrOf st') (lo + x) < kAt rk (arrOf st') (lo + x - 1):=by simpa using e1
    have d2:Dn2 rk (arrOf st') lo (lo + (x + 1)):=a2.more (by omega) (by omega)
    refine zan (fun e2=>wpS_bind (wpS_reverse (wpS_pure ?_))) (fun e2=>wpS_pure ?_)
    ·exact ⟨0,rfl,a1.mirror (by omega) (by omega) (by omega),d2.like (zbt (by omega) a4),by omega,fun i a b=>by congr 1; omega⟩
    ·exact ⟨0,rfl,a1,d2,by omega,fun i a b=>by congr 1; omega⟩
   ·have e1:kAt rk (arrOf st') (lo + x - 1)<=kAt rk (arrOf st') (lo + x):=by simpa using e1
    refine wpS_bind (asc1 a1 (by omega) (by omega) ?_)
    dsimp only
    refine zan (fun e2=>wpS_pure ?_) (fun e2=>wpS_pure ?_)
    ·exact ⟨x,neq,rfl,a1,hx1,by omega,a2,a3,a4⟩
    ·have e2:kAt rk (arrOf st') (lo + x)<=kAt rk (arrOf st') (lo + x - 1):=by simpa using e2
     refine ⟨neq + 1,rfl,a1,a2.more (by omega) e2,by omega,fun i a b => ?_⟩
     rw [show lo + (x + 1) - 1=lo + x by omega]
     by_cases ei:i=lo + x
     ·rw [ei]
     ·rw [a4 i (by omega) (by omega)]; omega
  case post =>
   rintro ⟨r,m,neq⟩ st' ⟨m',neq',e2,a1,am,am2,a2,a3,a4⟩
   cases e2
   dsimp only
   have sz:=a1.size
   refine zan (fun g2 => ?_) (fun g2 => ?_)
   refine wpS_bind (wpS_reverse ?_)
   have a5:=a1.mirror (i:=lo + m - (neq + 1)) (j:=lo + m) (by omega) (by omega) (by omega)
   have a6:Dn2 rk (arrOf (setArr st' (mirror (arrOf st') (lo + m - (neq + 1)) (lo + m) ((lo + m - (lo + m - (neq + 1))) / 2)))) lo (lo + m):=a2.like (zbt (by omega) a4)
   generalize setArr st' (mirror (arrOf st') (lo + m - (neq + 1)) (lo + m) ((lo + m - (lo + m - (neq + 1))) / 2))=st2 at a5 a6 ⊢
   rotate_left
   have a5:=a1
   have a6:=a2
   clear a1 a2 a3 a4
   generalize st'=st2 at a5 a6 ⊢
   all_goals
    have sz2:=a5.size
    have a7:=a5.mirror (i:=lo) (j:=lo + m) (Nat.le_refl _) (by omega) (by omega)
    have a8:Up2 rk (arrOf (setArr st2 (mirror (arrOf st2) lo (lo + m) ((lo + m - lo) / 2)))) lo (lo + m):=fun i j b1 b2 b3=>by
     show kAt rk (mirror (arrOf st2) lo (lo + m) ((lo + m - lo) / 2)) i<=kAt rk (mirror (arrOf st2) lo (lo + m) ((lo + m - lo) / 2)) j
     rw [zcK (by omega),zcK (by omega),if_pos (by omega),if_pos (by omega)]
     exact a6 _ _ (by omega) (by omega) (by omega)
    refine wpS_bind (wpS_reverse ?_)
    generalize setArr st2 (mirror (arrOf st2) lo (lo + m) ((lo + m - lo) / 2))=st3 at a7 a8 ⊢
    have sz3:=a7.size
    refine wpS_bind (wpS_mono (zgt C (zb5 a7.perm hS) (a7.kind.trans hk) (by omega) (show 1<=m by omega) (by omega) a8 fun x n R b1 b2 r => ?_) ?_)
    ·refine wpS_bind (asc1 a7 (by omega) (by omega) ?_)
     dsimp only
     refine zan (fun e => ?_) (fun e => ?_)
     ·rw [if_pos (by simpa using e)] at r; exact wpS_pure r
     ·rw [if_neg (by simpa using e)] at r; exact wpS_pure r
    rintro ⟨r,k⟩ st4 ⟨e0,k',ek,b1,b2,b3,_⟩
    cases ek
    rw [e0]
    exact wpS_pure (q k _ a7 (by omega) b2 b3)
theorem binSort_ok (C:Ranks prog w A E s kd S rk) {st:SortSt} {lo n ok:Nat} {Q:Bool->SortSt->Prop} (hS:∀ x∈(arrOf st).toList,S x) (hk:kindOf st=kd) (hn:lo + n<=(arrOf st).size) (hok:ok<=n) (u:Up2 rk (arrOf st) lo (lo + ok))
  (q:∀ st',Chg lo (lo + n) st st'->Up2 rk (arrOf st') lo (lo + n)->Q true st'):wpS (model prog w) A E s (binarySort' lo n ok) Q st:=by
 rw [binarySort'_eq]
 refine wpS_bind (wpS_mono (wpS_forRange (I:=fun k c st'=>c=(none,())/\Chg lo (lo + n) st st'/\Up2 rk (arrOf st') lo (lo + min k n)) (Q:=fun c st'=>c=(none,())/\Chg lo (lo + n) st st'/\Up2 rk (arrOf st') lo (lo + n)) ?step ?fin ?init) ?post)
 case post =>
  rintro c st' ⟨rfl,a,b⟩
  exact wpS_pure (q st' a b)
 case init =>
  refine ⟨rfl,Chg.refl _,fun i j a b c => ?_⟩
  by_cases h1:ok=0
  ·rw [show i=j by omega]; exact Int.le_refl _
  ·exact u i j a b (by omega)
 case fin =>
  rintro c st' ⟨rfl,a,b⟩
  refine ⟨rfl,a,?_⟩
  rwa [show min (max (max ok 1) n) n=n by omega] at b
 case step =>
  rintro k c st' hk1 hk2 ⟨rfl,a,b⟩
  rw [show min k n=k by omega] at b
  have sz:=a.size
  refine wpS_bind (wpS_mono (wpS_forRange (I:=fun x c st''=>st''=st'/\∃ l r,c=(none,l,r)/\l<=r/\r<=k/\r - l<=k - x/\(∀ i,i < l->kAt rk (arrOf st') (lo + i)<=kAt rk (arrOf st') (lo + k))/\(∀ i,r<=i->i < k->kAt rk (arrOf st') (lo + k) < kAt rk (arrOf st') (lo + i)))
   (Q:=fun c st''=>st''=st'/\∃ l r,c=(none,l,r)/\l<=k/\(∀ i,i < l->kAt rk (arrOf st') (lo + i)<=kAt rk (arrOf st') (lo + k))/\(∀ i,l<=i->i < k->kAt rk (arrOf st') (lo + k) < kAt rk (arrOf st') (lo + i))) ?istep ?ifin ⟨rfl,0,k,rfl,by omega,by omega,by omega,fun i hi=>by omega,fun i h1 h2=>by omega⟩) ?ipost)
  case ifin =>
   rintro c st'' ⟨rfl,l,r,rfl,b1,b2,b3,b4,b5⟩
   exact ⟨rfl,l,r,rfl,by omega,b4,fun i h1 h2=>b5 i (by omega) h2⟩
  case istep =>
   rintro x c st'' _ hx ⟨rfl,l,r,rfl,b1,b2,b3,b4,b5⟩
   dsimp only
   refine zan (fun e=>wpS_pure ⟨rfl,l,r,rfl,by omega,b4,fun i h1 h2=>b5 i (by omega) h2⟩) (fun e => ?_)
   refine wpS_bind (zgb C (zb5 a.perm hS) (a.kind.trans hk) (by omega) (by omega) ?_)
   dsimp only
   refine zan (fun e1=>wpS_pure ?_) (fun e1=>wpS_pure ?_)
   ·have e1:kAt rk (arrOf st'') (lo + k) < kAt rk (arrOf st'') (lo + (l + r) / 2):=by simpa using e1
    refine ⟨rfl,l,(l + r) / 2,rfl,by omega,by omega,by omega,b4,fun i h1 h2 => ?_⟩
    have:=b (lo + (l + r) / 2) (lo + i) (by omega) (by omega) (by omega)
    omega
   ·have e1:kAt rk (arrOf st'') (lo + (l + r) / 2)<=kAt rk (arrOf st'') (lo + k):=by simpa using e1
    refine ⟨rfl,(l + r) / 2 + 1,r,rfl,by omega,by omega,by omega,fun i h1 => ?_,b5⟩
    have:=b (lo + i) (lo + (l + r) / 2) (by omega) (by omega) (by omega)
    omega
  case ipost =>
   rintro ⟨r0,l,r⟩ st'' ⟨e0,l',r',e,b2,b4,b5⟩
   cases e
   rw [e0]
   dsimp only
   rw [moveDown'_eq]
   refine wpS_bind (wpS_modify (wpS_pure ⟨rfl,a.bubble (by omega) (by omega) (by omega),?_⟩))
   rw [show min (k + 1) n=k + 1 by omega]
   intro i j h1 h2 h3
   show kAt rk (bubble (arrOf st') (lo + k) (lo + k - (lo + l))) i<=kAt rk (bubble (arrOf st') (lo + k) (lo + k - (lo + l))) j
   rw [zdS (by omega) (by omega),zdS (by omega) (by omega),show lo + k - (lo + k - (lo + l))=lo + l by omega]
   by_cases e1:i=lo + l
   ·rw [if_pos e1]
    by_cases e2:j=lo + l
    ·rw [if_pos e2]; exact Int.le_refl _
    ·rw [if_neg e2,if_pos (by omega)]
     have:=b5 (j - 1 - lo) (by omega) (by omega)
     rw [show lo + (j - 1 - lo)=j - 1 by omega] at this
     omega
   ·rw [if_neg e1]
    by_cases e3:lo + l < i/\i<=lo + k
    ·rw [if_pos e3,if_neg (by omega),if_pos (by omega)]
     exact b _ _ (by omega) (by omega) (by omega)
    ·rw [if_neg e3]
     by_cases e2:j=lo + l
     ·rw [if_pos e2]
      have:=b4 (i - lo) (by omega)
      rwa [show lo + (i - lo)=i by omega] at this
     ·rw [if_neg e2]
      by_cases e4:lo + l < j/\j<=lo + k
      ·rw [if_pos e4]
       exact b _ _ (by omega) (by omega) (by omega)
      ·rw [if_neg e4]
       exact b _ _ (by omega) (by omega) (by omega)
end
end L2
namespace L2
open PySem PySem.Spec PyProof.Rows
theorem wpS_setSt {M:Model} {A:Around} {E:Value->Shared->Prop} {s:Shared} {σ : Type} {x : σ} {Q:PUnit -> σ -> Prop} {st : σ} (h:Q ⟨⟩ x):wpS M A E s (set x:StateT σ Sem PUnit) Q st:=by
 unfold wpS; rw [StateT.run_set]; exact wpAny_pure ⟨rfl,h⟩
theorem wpS_setLike {M:Model} {A:Around} {E:Value->Shared->Prop} {s:Shared} {x:SortSt} {Q:PUnit->SortSt->Prop} {st:SortSt} (h:∀ st',kindOf st'=kindOf x->arrOf st'=arrOf x->pendingOf st'=pendingOf x->failedOf st'=failedOf x->Q ⟨⟩ st'):wpS M A E s (set x:StateT SortSt Sem PUnit) Q st:=wpS_setSt (h x rfl rfl rfl rfl)
noncomputable abbrev seg (l:List Keyed) (lo n:Nat):List Keyed:=(l.drop lo).take n
theorem mem_seg {l:List Keyed} {lo n:Nat} {y:Keyed} (h:y∈seg l lo n):∃ j,∃ hj:j < l.length,lo<=j/\j < lo + n/\l[j]=y:=by
 obtain ⟨j,hj,h1,e⟩:=zbr h
 rw [List.length_drop] at hj
 rw [List.getElem_drop] at e
 exact ⟨lo + j,by omega,by omega,by omega,e⟩
theorem seg_split (l:List Keyed) (lo m n:Nat):seg l lo (m + n)=seg l lo m ++ seg l (lo + m) n:=by
 unfold seg
 rw [List.take_add,List.drop_drop]
theorem seg_whole (l:List Keyed) (lo n:Nat):l=l.take lo ++ seg l lo n ++ l.drop (lo + n):=by
 unfold seg
 conv=>lhs; rw [<- List.take_append_drop lo l,<- List.take_append_drop n (l.drop lo)]
 rw [List.drop_drop,List.append_assoc]
theorem zd3 {rk:Keyed->Int} {arr:Array Keyed} {lo hi:Nat} (u:Up2 rk arr lo hi) (h:hi<=arr.size):Srt rk (seg arr.toList lo (hi - lo)):=by
 refine List.pairwise_iff_getElem.mpr fun i j hi1 hj hij => ?_
 have l1:(seg arr.toList lo (hi - lo)).length<=hi - lo:=List.length_take_le _ _
 have:=u (lo + i) (lo + j) (by omega) (by omega) (by omega)
 rw [za2 (by omega),za2 (by omega)] at this
 simpa [seg,List.getElem_take,List.getElem_drop] using this
theorem up_seg {rk:Keyed->Int} {arr:Array Keyed} {P L R:List Keyed} (e:arr.toList=P ++ L ++ R) (s:Srt rk L):Up2 rk arr P.length (P.length + L.length):=by
 have hz:arr.size=P.length + L.length + R.length:=by
  rw [<- Array.length_toList,e,List.length_append,List.length_append]
 intro i j h1 h2 h3
 have g:∀ k (hk:P.length<=k) (hk2:k < P.length + L.length),kAt rk arr k=rk (L[k - P.length]'(by omega)):=fun k hk hk2=>by
  rw [za2 (by omega),<- zaw arr (by omega)]
  congr 1
  have:arr.toList[k]?=some (L[k - P.length]'(by omega)):=by
   rw [e,List.getElem?_append_left (by rw [List.length_append]; omega),List.getElem?_append_right hk,List.getElem?_eq_getElem (by omega)]
  rw [List.getElem?_eq_getElem (by rw [Array.length_toList]; omega)] at this
  exact Option.some.inj this
 rw [g i h1 (by omega),g j (by omega) h3]
 by_cases eij:i=j
 ·subst eij; exact Int.le_refl _
 ·exact List.pairwise_iff_getElem.mp s _ _ (by omega) (by omega) (by omega)
theorem zeP (base:Nat):∀ (l:List Keyed) (n:Nat) (arr:Array Keyed),base + n + l.length<=arr.size ->
  ((l.zipIdx n).foldl (fun (a:Array Keyed) (x:Keyed×Nat)=>a.setIfInBounds (base + x.2) x.1) arr).toList=arr.toList.take (base + n) ++ l ++ arr.toList.drop (base + n + l.length)
 | [],n,arr,h=>by simp
 | x :: l,n,arr,h=>by
  rw [List.length_cons] at h
  rw [List.zipIdx_cons,List.foldl_cons,zeP base l (n + 1) _ (by rw [Array.size_setIfInBounds]; omega)]
  dsimp only
  rw [Array.toList_setIfInBounds]
  have hb:base + n < arr.toList.length:=by rw [Array.length_toList]; omega
  have e1:(arr.toList.set (base + n) x).take (base + (n + 1))=arr.toList.take (base + n) ++ [x]:=by
   rw [show base + (n + 1)=base + n + 1 by omega,List.take_succ_eq_append_getElem (by rw [List.length_set]; exact hb),List.getElem_set_self,List.take_set_of_le (Nat.le_refl _)]
  have e2:(arr.toList.set (base + n) x).drop (base + (n + 1) + l.length)=arr.toList.drop (base + n + (x :: l).length):=by
   rw [List.drop_set_of_lt (by omega),List.length_cons]
   congr 1; omega
  rw [e1,e2]
  simp
noncomputable abbrev Pend:=Array (Nat×Nat×Nat)
theorem pend_at {p:Pend} {pre post:List (Nat×Nat×Nat)} {x y:Nat×Nat×Nat} (e:p.toList=pre ++ x :: y :: post):p[pre.length]?=some x/\p[pre.length + 1]?=some y:=by
 constructor
 ·rw [<- Array.getElem?_toList,e]; simp
 ·rw [<- Array.getElem?_toList,e]; simp
theorem pend_new {p:Pend} {pre post:List (Nat×Nat×Nat)} {x y z:Nat×Nat×Nat} (e:p.toList=pre ++ x :: y :: post):((p.setIfInBounds pre.length z).eraseIdxIfInBounds (pre.length + 1)).toList=pre ++ z :: post:=by
 rw [Array.toList_eraseIdxIfInBounds,Array.toList_setIfInBounds,e]
 simp [List.eraseIdx_append_of_length_le]
theorem back_out {arr arr':Array Keyed} {b:Nat} {M:List Keyed} (e:arr'.toList=arr.toList.take b ++ M ++ arr.toList.drop (b + M.length)) (h:b + M.length<=arr.size):∀ i,(i < b\/b + M.length<=i)->arr'[i]?=arr[i]?:=fun i hi=>by
 rw [<- Array.getElem?_toList,<- Array.getElem?_toList,e]
 have lb:(arr.toList.take b).length=b:=by rw [List.length_take,Array.length_toList]; omega
 rcases hi with z | z
 ·rw [List.getElem?_append_left (by rw [List.length_append]; omega),List.getElem?_append_left (by omega),List.getElem?_take_of_lt z]
 ·rw [List.getElem?_append_right (by rw [List.length_append]; omega),List.getElem?_drop,List.length_append,lb]
  congr 1; omega
theorem zcE {M:Model} {A:Around} {E:Value->Shared->Prop} {s:Shared} {f:SortSt->SortSt} {Q:PUnit->SortSt->Prop} {st:SortSt} (h:∀ st',kindOf st'=kindOf (f st)->arrOf st'=arrOf (f st)->pendingOf st'=pendingOf (f st)->failedOf st'=failedOf (f st)->Q ⟨⟩ st'):wpS M A E s (modify f:StateT SortSt Sem PUnit) Q st:=wpS_modify (h _ rfl rfl rfl rfl)
section
variable {prog:Program} {w:World} {A:Around} {E:Value->Shared->Prop} {s:Shared} {kd:SortKind} {S:Keyed->Prop} {rk:Keyed->Int}
structure Mrg (rk:Keyed->Int) (lo hi:Nat) (st st':SortSt) (p':List (Nat×Nat×Nat)):Prop where
 kind:kindOf st'=kindOf st
 fail:failedOf st'=failedOf st
 pend:(pendingOf st').toList=p'
 perm:(arrOf st').Perm (arrOf st)
 out:∀ i,(i < lo\/hi<=i)->(arrOf st')[i]?=(arrOf st)[i]?
 up:Up2 rk (arrOf st') lo hi
theorem mergeAt_ok (C:Ranks prog w A E s kd S rk) {st:SortSt} {sa na p1 nb p2:Nat} {pre post:List (Nat×Nat×Nat)} {Q:Bool->SortSt->Prop} (hS:∀ x∈(arrOf st).toList,S x) (hk:kindOf st=kd) (hf:failedOf st=none) (hp:(pendingOf st).toList=pre ++ (sa,na,p1) :: (sa + na,nb,p2) :: post) (h1:0 < na) (h2:0 < nb) (hz:sa + na + nb<=(arrOf st).size) (ua:Up2 rk (arrOf st) sa (sa + na)) (ub:Up2 rk (arrOf st) (sa + na) (sa + na + nb))
  (q:∀ st',Mrg rk sa (sa + na + nb) st st' (pre ++ (sa,na + nb,p1) :: post)->Q true st'):wpS (model prog w) A E s (mergeAt' pre.length) Q st:=by
 obtain ⟨g1,g2⟩:=pend_at hp
 have hn:=pend_new (z:=(sa,na + nb,p1)) hp
 refine wpS_bind (wpS_get ?_)
 dsimp only
 unfold pendingOf at g1 g2
 rw [g1,g2]
 dsimp only
 refine wpS_bind (wpS_setLike fun st1 k1 a1 q1 f1 => ?_)
 have k1:kindOf st1=kindOf st:=k1
 have a1:arrOf st1=arrOf st:=a1
 have f1:failedOf st1=failedOf st:=f1
 have q1:(pendingOf st1).toList=pre ++ (sa,na + nb,p1) :: post:=by rw [q1]; exact hn
 have hk1:kindOf st1=kd:=k1.trans hk
 have same:Up2 rk (arrOf st) sa (sa + na + nb)->Q true st1:=fun u=>q st1 ⟨k1,f1,q1,a1 ▸ Array.Perm.refl _,fun i _=>by rw [a1],by rw [a1]; exact u⟩
 have hA:=zgu hS
 have i1:sa + na < (arrOf st).size:=by omega
 refine wpS_bind (zaL i1 ?_)
 refine wpS_bind (zbI C (arr:=arrOf st) (hA _ i1) (fun i h _ _=>hA i h) (by omega) (by omega) ua hk1 fun k j1 j2 j3 => ?_)
 dsimp only
 simp only [Bool.false_eq_true,if_false,<- za2 (rk:=rk) i1] at j2 j3
 refine zan (fun e=>wpS_pure (same ?_)) (fun e => ?_)
 ·have e:na - k=0:=by simpa using e
  intro i j b1 b2 b3
  by_cases e1:j < sa + na
  ·exact ua i j b1 b2 e1
  by_cases e2:sa + na<=i
  ·exact ub i j e2 b2 b3
  have a2:=j2 (i - sa) (by omega)
  rw [show sa + (i - sa)=i by omega] at a2
  have a3:=ub (sa + na) j (Nat.le_refl _) (by omega) b3
  omega
 have e:¬ na - k=0:=by simpa using e
 have hidx:sa + k + (na - k) - 1=sa + na - 1:=by omega
 rw [hidx]
 have i2:sa + na - 1 < (arrOf st).size:=by omega
 refine wpS_bind (zaL i2 ?_)
 refine wpS_bind (zbI C (arr:=arrOf st) (hA _ i2) (fun i h _ _=>hA i h) (by omega) (by omega) ub hk1 fun m j4 j5 j6 => ?_)
 dsimp only
 simp only [if_true,<- za2 (rk:=rk) i2] at j5 j6
 refine zan (fun e0=>wpS_pure (same ?_)) (fun e0 => ?_)
 ·have e0:m=0:=by simpa using e0
  intro i j b1 b2 b3
  by_cases e1:j < sa + na
  ·exact ua i j b1 b2 e1
  by_cases e2:sa + na<=i
  ·exact ub i j e2 b2 b3
  have a2:=j6 (j - (sa + na)) (by omega) (by omega)
  rw [show sa + na + (j - (sa + na))=j by omega] at a2
  have a3:=ua i (sa + na - 1) b1 (by omega) (by omega)
  omega
 have e0:¬ m=0:=by simpa using e0
 have lL:(arrOf st).toList.length=(arrOf st).size:=Array.length_toList
 have xl:((arrOf st).extract (sa + k) (sa + na)).toList=seg (arrOf st).toList (sa + k) (na - k):=by rw [zaP,show sa + na - (sa + k)=na - k by omega]
 have yl:((arrOf st).extract (sa + na) (sa + na + m)).toList=seg (arrOf st).toList (sa + na) m:=by rw [zaP,Nat.add_sub_cancel_left]
 have xs:((arrOf st).extract (sa + k) (sa + na)).size=na - k:=by rw [Array.size_extract]; omega
 have ys:((arrOf st).extract (sa + na) (sa + na + m)).size=m:=by rw [Array.size_extract]; omega
 have srtX:Srt rk (seg (arrOf st).toList (sa + k) (na - k)):=by
  have:=zd3 (lo:=sa + k) (hi:=sa + na) (fun i j b1 b2 b3=>ua i j (by omega) b2 b3) (by omega)
  rwa [show sa + na - (sa + k)=na - k by omega] at this
 have srtY:Srt rk (seg (arrOf st).toList (sa + na) m):=by
  have:=zd3 (lo:=sa + na) (hi:=sa + na + m) (fun i j b1 b2 b3=>ub i j (by omega) b2 (by omega)) (by omega)
  rwa [Nat.add_sub_cancel_left] at this
 have atSeg:∀ {lo n:Nat} {y:Keyed},y∈seg (arrOf st).toList lo n->∃ j,lo<=j/\j < lo + n/\j < (arrOf st).size/\rk y=kAt rk (arrOf st) j:=fun {lo n y} hy=>by
  obtain ⟨j,hj,b1,b2,b3⟩:=mem_seg hy
  have hj2:j < (arrOf st).size:=by omega
  refine ⟨j,b1,b2,hj2,?_⟩
  rw [<- b3,za2 hj2,zaw _ hj2]
 have cX:∀ y∈seg (arrOf st).toList (sa + k) (na - k),kAt rk (arrOf st) (sa + na)<=rk y/\rk y<=kAt rk (arrOf st) (sa + na - 1):=fun y hy=>by
  obtain ⟨j,b1,b2,b3,b4⟩:=atSeg hy
  have a2:=j3 (j - sa) (by omega) (by omega)
  rw [show sa + (j - sa)=j by omega] at a2
  have a3:=ua j (sa + na - 1) (by omega) (by omega) (by omega)
  omega
 have cY:∀ y∈seg (arrOf st).toList (sa + na) m,kAt rk (arrOf st) (sa + na)<=rk y/\rk y<=kAt rk (arrOf st) (sa + na - 1):=fun y hy=>by
  obtain ⟨j,b1,b2,b3,b4⟩:=atSeg hy
  have a2:=j5 (j - (sa + na)) (by omega)
  rw [show sa + na + (j - (sa + na))=j by omega] at a2
  have a3:=ub (sa + na) j (by omega) (by omega) (by omega)
  omega
 have fin:∀ (res:Array Keyed) (st2:SortSt),Like st1 st2->MFin rk ((arrOf st).extract (sa + k) (sa + na)).toList ((arrOf st).extract (sa + na) (sa + na + m)).toList res.toList->∀ st3,kindOf st3=kindOf st2->arrOf st3=List.foldl (fun (a:Array Keyed) (x:Keyed×Nat)=>a.setIfInBounds (sa + k + x.2) x.1) (arrOf st2) res.toList.zipIdx->pendingOf st3=pendingOf st2->failedOf st3=failedOf st2->Mrg rk sa (sa + na + nb) st st3 (pre ++ (sa,na + nb,p1) :: post):=fun res st2 hL hM st3 k3 a3 q3 f3=>by
  rw [xl,yl] at hM
  have lM:res.toList.length=na - k + m:=by
   rw [hM.1.length_eq,List.length_append,<- xl,<- yl,Array.length_toList,Array.length_toList,xs,ys]
  rw [hL.2.1,a1] at a3
  have b3:=congrArg Array.toList a3
  rw [zeP (sa + k) res.toList 0 (arrOf st) (by omega),Nat.add_zero] at b3
  have ew:(arrOf st).toList=(arrOf st).toList.take (sa + k) ++ (seg (arrOf st).toList (sa + k) (na - k) ++ seg (arrOf st).toList (sa + na) m) ++ (arrOf st).toList.drop (sa + k + res.toList.length):=by
   rw [lM]
   have:=seg_whole (arrOf st).toList (sa + k) (na - k + m)
   rwa [seg_split,show sa + k + (na - k)=sa + na by omega] at this
  refine ⟨k3.trans (hL.1.trans k1),f3.trans (hL.2.2.2.trans f1),by rw [q3,hL.2.2.1,q1],?_,fun i hi=>back_out b3 (by omega) i (by omega),?_⟩
  ·refine Array.perm_iff_toList_perm.mpr ?_
   rw [b3]
   conv=>rhs; rw [ew]
   exact List.Perm.append_right _ (List.Perm.append_left _ hM.1)
  ·have e1:(arrOf st).toList.take (sa + k)=(arrOf st).toList.take sa ++ seg (arrOf st).toList sa k:=List.take_add
   have e2:(arrOf st).toList.drop (sa + k + res.toList.length)=seg (arrOf st).toList (sa + na + m) (nb - m) ++ (arrOf st).toList.drop (sa + na + nb):=by
    rw [lM,show sa + k + (na - k + m)=sa + na + m by omega]
    unfold seg
    conv=>lhs; rw [<- List.take_append_drop (nb - m) ((arrOf st).toList.drop (sa + na + m))]
    rw [List.drop_drop,show sa + na + m + (nb - m)=sa + na + nb by omega]
   have e3:(arrOf st3).toList=(arrOf st).toList.take sa ++ (seg (arrOf st).toList sa k ++ res.toList ++ seg (arrOf st).toList (sa + na + m) (nb - m)) ++ (arrOf st).toList.drop (sa + na + nb):=by
    rw [b3,e1,e2]; simp
   have cM:∀ y∈res.toList,kAt rk (arrOf st) (sa + na)<=rk y/\rk y<=kAt rk (arrOf st) (sa + na - 1):=fun y hy=>by
    rcases List.mem_append.mp (hM.1.mem_iff.mp hy) with z | z
    ·exact cX y z
    ·exact cY y z
   have cA:∀ y∈seg (arrOf st).toList sa k,rk y<=kAt rk (arrOf st) (sa + na):=fun y hy=>by
    obtain ⟨j,b1,b2,b3,b4⟩:=atSeg hy
    have a2:=j2 (j - sa) (by omega)
    rw [show sa + (j - sa)=j by omega] at a2
    omega
   have cB:∀ y∈seg (arrOf st).toList (sa + na + m) (nb - m),kAt rk (arrOf st) (sa + na - 1)<=rk y/\kAt rk (arrOf st) (sa + na)<=rk y:=fun y hy=>by
    obtain ⟨j,b1,b2,b3,b4⟩:=atSeg hy
    have a2:=j6 (j - (sa + na)) (by omega) (by omega)
    rw [show sa + na + (j - (sa + na))=j by omega] at a2
    have a3:=ub (sa + na) j (by omega) (by omega) (by omega)
    omega
   have sA:Srt rk (seg (arrOf st).toList sa k):=by
    have:=zd3 (lo:=sa) (hi:=sa + k) (fun i j b1 b2 b3=>ua i j (by omega) b2 (by omega)) (by omega)
    rwa [Nat.add_sub_cancel_left] at this
   have sB:Srt rk (seg (arrOf st).toList (sa + na + m) (nb - m)):=by
    have:=zd3 (lo:=sa + na + m) (hi:=sa + na + nb) (fun i j b1 b2 b3=>ub i j (by omega) b2 (by omega)) (by omega)
    rwa [show sa + na + nb - (sa + na + m)=nb - m by omega] at this
   have sAll:Srt rk (seg (arrOf st).toList sa k ++ res.toList ++ seg (arrOf st).toList (sa + na + m) (nb - m)):=by
    refine List.pairwise_append.mpr ⟨List.pairwise_append.mpr ⟨sA,hM.2,fun x hx y hy=>Int.le_trans (cA x hx) (cM y hy).1⟩,sB,fun x hx y hy => ?_⟩
    rcases List.mem_append.mp hx with z | z
    ·exact Int.le_trans (cA x z) (cB y hy).2
    ·exact Int.le_trans (cM x z).2 (cB y hy).1
   have:=up_seg e3 sAll
   have l1:((arrOf st).toList.take sa).length=sa:=by rw [List.length_take]; omega
   have l2:(seg (arrOf st).toList sa k ++ res.toList ++ seg (arrOf st).toList (sa + na + m) (nb - m)).length=na + nb:=by
    rw [List.length_append,List.length_append,lM]
    unfold seg
    rw [List.length_take,List.length_take,List.length_drop,List.length_drop]
    omega
   rwa [l1,l2,<- Nat.add_assoc] at this
 have x0:0 < ((arrOf st).extract (sa + k) (sa + na)).size:=by omega
 have y0:0 < ((arrOf st).extract (sa + na) (sa + na + m)).size:=by omega
 have hX:Srt rk ((arrOf st).extract (sa + k) (sa + na)).toList:=by rw [xl]; exact srtX
 have hY:Srt rk ((arrOf st).extract (sa + na) (sa + na + m)).toList:=by rw [yl]; exact srtY
 have SX:∀ i (h:i < ((arrOf st).extract (sa + k) (sa + na)).size),S ((arrOf st).extract (sa + k) (sa + na))[i]:=fun i h=>by rw [Array.getElem_extract]; exact hA _ _
 have SY:∀ i (h:i < ((arrOf st).extract (sa + na) (sa + na + m)).size),S ((arrOf st).extract (sa + na) (sa + na + m))[i]:=fun i h=>by rw [Array.getElem_extract]; exact hA _ _
 have Y0:rk (((arrOf st).extract (sa + na) (sa + na + m))[0]'y0)=kAt rk (arrOf st) (sa + na):=by
  rw [za2 i1,Array.getElem_extract]; rfl
 have XL:rk (((arrOf st).extract (sa + k) (sa + na))[((arrOf st).extract (sa + k) (sa + na)).size - 1]'(by omega))=kAt rk (arrOf st) (sa + na - 1):=by
  rw [za2 i2,Array.getElem_extract]
  congr 2
  rw [xs]; omega
 have hh0:∀ y∈((arrOf st).extract (sa + k) (sa + na)).toList,rk (((arrOf st).extract (sa + na) (sa + na + m))[0]'y0)<=rk y:=fun y hy=>by
  rw [xl] at hy; rw [Y0]; exact (cX y hy).1
 have hhl:∀ y∈((arrOf st).extract (sa + na) (sa + na + m)).toList,rk y<=rk (((arrOf st).extract (sa + k) (sa + na))[((arrOf st).extract (sa + k) (sa + na)).size - 1]'(by omega)):=fun y hy=>by
  rw [yl] at hy; rw [XL]; exact (cY y hy).2
 refine zan (fun _=>wpS_bind (mergeLo_ok C x0 y0 hX hY SX SY hh0 hhl hk1 fun res st2 hL hM=>wpS_bind (zcE fun st3 k3 a3 q3 f3 => ?_))) (fun _=>wpS_bind (mergeHi_ok C x0 y0 hX hY SX SY hh0 hhl hk1 fun res st2 hL hM=>wpS_bind (zcE fun st3 k3 a3 q3 f3 => ?_)))
 all_goals
  have r:=fin res st2 hL hM st3 k3 a3 q3 f3
  have fl:failedOf st3=none:=r.fail.trans hf
  refine wpS_bind (wpS_get ?_)
  unfold failedOf at fl
  rw [fl]
  exact wpS_pure (q st3 r)
end
end L2
namespace L2
open PySem PySem.Spec PyProof.Rows
noncomputable def Stk (rk:Keyed->Int) (arr:Array Keyed):List (Nat×Nat×Nat)->Nat->Nat->Prop
 | [],a,e=>a=e
 | x :: r,a,e=>x.1=a/\0 < x.2.1/\Up2 rk arr a (a + x.2.1)/\Stk rk arr r (a + x.2.1) e
section
variable {rk:Keyed->Int} {arr arr':Array Keyed}
theorem Stk.le:∀ {l:List (Nat×Nat×Nat)} {a e:Nat},Stk rk arr l a e->a + l.length<=e
 | [],a,e,h=>by have h:a=e:=h; simp; omega
 | x :: r,a,e,⟨h1,h2,h3,h4⟩=>by have:=Stk.le h4; rw [List.length_cons]; omega
theorem Stk.congr:∀ {l:List (Nat×Nat×Nat)} {a e:Nat},(∀ i,a<=i->i < e->kAt rk arr' i=kAt rk arr i)->Stk rk arr l a e->Stk rk arr' l a e
 | [],a,e,_,h=>h
 | x :: r,a,e,hc,⟨h1,h2,h3,h4⟩=>by
  have:=Stk.le h4
  refine ⟨h1,h2,fun i j b1 b2 b3 => ?_,Stk.congr (fun i b1 b2=>hc i (by omega) b2) h4⟩
  rw [hc i b1 (by omega),hc j (by omega) (by omega)]
  exact h3 i j b1 b2 b3
theorem Stk.split:∀ {l m:List (Nat×Nat×Nat)} {a e:Nat},Stk rk arr (l ++ m) a e->∃ b,Stk rk arr l a b/\Stk rk arr m b e
 | [],m,a,e,h=>⟨a,rfl,h⟩
 | x :: r,m,a,e,⟨h1,h2,h3,h4⟩=>by
  obtain ⟨b,g1,g2⟩:=Stk.split h4
  exact ⟨b,⟨h1,h2,h3,g1⟩,g2⟩
theorem Stk.join:∀ {l m:List (Nat×Nat×Nat)} {a b e:Nat},Stk rk arr l a b->Stk rk arr m b e->Stk rk arr (l ++ m) a e
 | [],m,a,b,e,h,k=>by have h:a=b:=h; rw [h]; exact k
 | x :: r,m,a,b,e,⟨h1,h2,h3,h4⟩,k=>⟨h1,h2,h3,Stk.join h4 k⟩
theorem Stk.mod {f:Nat×Nat×Nat->Nat×Nat×Nat} (hf:∀ x,(f x).1=x.1/\(f x).2.1=x.2.1):∀ {l:List (Nat×Nat×Nat)} {i a e:Nat},Stk rk arr l a e->Stk rk arr (l.modify i f) a e
 | [],i,a,e,h=>by cases i <;> simpa [List.modify_nil] using h
 | x :: r,0,a,e,⟨h1,h2,h3,h4⟩=>by
  show Stk rk arr (f x :: r) a e
  refine ⟨(hf x).1.trans h1,?_,?_,?_⟩
  ·rw [(hf x).2]; exact h2
  ·rw [(hf x).2]; exact h3
  ·rw [(hf x).2]; exact h4
 | x :: r,i + 1,a,e,⟨h1,h2,h3,h4⟩=>⟨h1,h2,h3,Stk.mod hf h4⟩
theorem two_at {α : Type} {l:List α} {i:Nat} (h:i + 1 < l.length):∃ pre x y post,l=pre ++ x :: y :: post/\pre.length=i:=by
 refine ⟨l.take i,l[i]'(by omega),l[i + 1],l.drop (i + 2),?_,by rw [List.length_take]; omega⟩
 conv=>lhs; rw [<- List.take_append_drop i l]
 rw [List.drop_eq_getElem_cons (show i < l.length by omega),List.drop_eq_getElem_cons h]
end
section
variable {prog:Program} {w:World} {A:Around} {E:Value->Shared->Prop} {s:Shared} {kd:SortKind} {S:Keyed->Prop} {rk:Keyed->Int}
structure Stg (rk:Keyed->Int) (kd:SortKind) (a₀ : Array Keyed) (st:SortSt) (e:Nat):Prop where
 kind:kindOf st=kd
 fail:failedOf st=none
 perm:(arrOf st).Perm a₀
 stk:Stk rk (arrOf st) (pendingOf st).toList 0 e
 le:e<=a₀.size
theorem zdi (C:Ranks prog w A E s kd S rk) {a₀ : Array Keyed} {st:SortSt} {i e:Nat} {Q:Bool->SortSt->Prop} (hS:∀ x∈a₀.toList,S x) (g:Stg rk kd a₀ st e) (hi:i + 1 < (pendingOf st).size)
  (q:∀ st',Stg rk kd a₀ st' e->(pendingOf st').size + 1=(pendingOf st).size->(∀ j,e<=j->(arrOf st')[j]?=(arrOf st)[j]?)->Q true st'):wpS (model prog w) A E s (mergeAt' i) Q st:=by
 obtain ⟨pre,⟨sa,na,p1⟩,⟨sb,nb,p2⟩,post,hp,rfl⟩:=two_at (l:=(pendingOf st).toList) (i:=i) (by rw [Array.length_toList]; exact hi)
 have hs:=g.stk
 rw [hp] at hs
 obtain ⟨b,s1,e1,n1,u1,e2,n2,u2,s2⟩:=hs.split
 dsimp only at e1 n1 u1 e2 n2 u2 s2
 subst e1 e2
 have sz:=g.perm.size_eq
 have l2:=s2.le
 have le:=g.le
 refine mergeAt_ok C (zb5 g.perm hS) g.kind g.fail hp n1 n2 (by omega) u1 u2 fun st' m => ?_
 refine q st' ⟨m.kind.trans g.kind,m.fail.trans g.fail,m.perm.trans g.perm,?_,g.le⟩ ?_ fun j hj=>m.out j (.inr (by omega))
 ·rw [m.pend]
  refine Stk.join (b:=sa) (s1.congr fun i b1 b2=>za3 (m.out i (.inl b2))) ⟨rfl,by show 0 < na + nb; omega,?_,?_⟩
  ·have:=m.up; show Up2 rk _ sa (sa + (na + nb)); rwa [<- Nat.add_assoc]
  ·show Stk rk _ post (sa + (na + nb)) e
   rw [<- Nat.add_assoc]
   exact s2.congr fun i b1 b2=>za3 (m.out i (.inr b1))
 ·rw [<- Array.length_toList,<- Array.length_toList,m.pend,hp,List.length_append,List.length_append,List.length_cons,List.length_cons,List.length_cons]
  omega
theorem sortRuns_ok (C:Ranks prog w A E s kd S rk) {st:SortSt} {Q:Unit->SortSt->Prop} (hS:∀ x∈(arrOf st).toList,S x) (hk:kindOf st=kd) (hf:failedOf st=none) (hp:pendingOf st = #[]) (h2:2<=(arrOf st).size)
  (q:∀ st',(arrOf st').Perm (arrOf st)->failedOf st'=none->Up2 rk (arrOf st') 0 (arrOf st).size->Q () st'):wpS (model prog w) A E s sortRuns' Q st:=by
 rw [sortRuns'_eq]
 refine wpS_bind (wpS_get ?_)
 dsimp only
 obtain ⟨a₀,ha⟩:∃ a,a=arrOf st:=⟨_,rfl⟩
 have g0:Stg rk kd a₀ st 0:=⟨hk,hf,ha ▸ Array.Perm.refl _,by rw [hp]; exact rfl,Nat.zero_le _⟩
 rw [<- ha] at hS h2 ⊢
 rw [<- ha] at q
 refine wpS_bind (wpS_mono (wpS_forRange (I:=fun x c st'=>∃ lo,c=(none,lo)/\Stg rk kd a₀ st' lo/\(x<=lo\/lo=a₀.size)) (Q:=fun c st'=>∃ lo,c=(none,lo)/\Stg rk kd a₀ st' lo/\lo=a₀.size) ?step ?fin ⟨0,rfl,g0,.inl (Nat.zero_le _)⟩) ?post)
 case fin =>
  rintro c st' ⟨lo,rfl,g,h⟩
  have:=g.le
  exact ⟨lo,rfl,g,by omega⟩
 case step =>
  rintro x c st1 _ hx ⟨lo,rfl,g,hlo⟩
  dsimp only
  have gle:=g.le
  refine zan (fun e=>wpS_pure ⟨lo,rfl,g,by omega⟩) (fun e => ?_)
  have sz:=g.perm.size_eq
  refine wpS_bind (countRun_ok C (zb5 g.perm hS) g.kind (by omega) (by omega) fun n st2 c2 n1 n2 u2 => ?_)
  have keep:∀ {st2:SortSt},Chg lo a₀.size st1 st2->Stg rk kd a₀ st2 lo:=fun c2=>⟨c2.kind.trans g.kind,c2.fail.trans g.fail,c2.perm.trans g.perm,by rw [c2.pend]; exact g.stk.congr fun i b1 b2=>za3 (c2.out i (.inl b2)),g.le⟩
  have c2':Chg lo a₀.size st1 st2:=c2.wide (Nat.le_refl _) (by omega)
  have g2:=keep c2'
  have sz2:=g2.perm.size_eq
  dsimp only
  refine zan (fun hm=>wpS_bind (wpS_lift (wpAny_rule ⟨rfl,wpS_bind (binSort_ok C (zb5 g2.perm hS) g2.kind (by omega) (by omega) u2 fun st3 c3 u3 => ?_)⟩))) (fun hm => ?_)
  simp only [Bool.not_true,Bool.false_eq_true,if_false]
  have g3:=keep (c2'.trans (c3.wide (Nat.le_refl _) (by omega)))
  generalize hn3:min (a₀.size - lo) (minRun' a₀.size a₀.size 0)=n3 at u3 ⊢
  have n31:1<=n3:=by omega
  have n32:lo + n3<=a₀.size:=by omega
  rotate_left
  have g3:=g2
  have u3:=u2
  have n31:=n1
  have n32:lo + n<=a₀.size:=by omega
  clear c2 c2' u2 g2 n2 n1 hm sz2
  generalize st2=st3 at g3 u3 ⊢
  generalize n=n3 at u3 n31 n32 ⊢
  all_goals
   have push:∀ {st4:SortSt},Stg rk kd a₀ st4 lo->Up2 rk (arrOf st4) lo (lo + n3)->Stg rk kd a₀ (setPending st4 ((pendingOf st4).push (lo,n3,0))) (lo + n3):=fun {st4} g4 u4=>⟨g4.kind,g4.fail,g4.perm,by
    show Stk rk (arrOf st4) ((pendingOf st4).push (lo,n3,0)).toList 0 (lo + n3)
    rw [Array.toList_push]
    exact g4.stk.join ⟨rfl,n31,u4,rfl⟩,n32⟩
   refine wpS_bind (wpS_get ?_)
   cases hb:(pendingOf st3).back? with
   | none=>exact wpS_bind (wpS_modify (wpS_pure ⟨lo + n3,rfl,push g3 u3,by omega⟩))
   | some t =>
    obtain ⟨s1,n1',pp⟩:=t
    dsimp only
    refine wpS_bind (wpS_mono (wpS_forRange (I:=fun _ c st'=>c=(none,())/\Stg rk kd a₀ st' lo/\Up2 rk (arrOf st') lo (lo + n3)) (Q:=fun c st'=>c=(none,())/\Stg rk kd a₀ st' lo/\Up2 rk (arrOf st') lo (lo + n3)) ?_ (fun _ _ h=>h) ⟨rfl,g3,u3⟩) ?_)
    ·rintro y c st4 _ _ ⟨rfl,g4,u4⟩
     refine wpS_bind (wpS_get ?_)
     by_cases hps:(pendingOf st4).size > 1
     ·rw [if_pos hps]
      cases hq:(pendingOf st4)[(pendingOf st4).size - 2]? with
      | none=>exact wpS_pure ⟨rfl,g4,u4⟩
      | some t =>
       obtain ⟨t1,t2,older⟩:=t
       dsimp only
       refine zan (fun _=>wpS_pure ⟨rfl,g4,u4⟩) (fun _=>wpS_bind (zdi C hS g4 (by omega) fun st5 g5 _ o5 => ?_))
       simp only [Bool.not_true,Bool.false_eq_true,if_false]
       refine wpS_pure ⟨rfl,g5,fun i j b1 b2 b3 => ?_⟩
       rw [za3 (o5 i b1),za3 (o5 j (by omega))]
       exact u4 i j b1 b2 b3
     ·rw [if_neg hps]
      exact wpS_pure ⟨rfl,g4,u4⟩
    ·rintro c st4 ⟨rfl,g4,u4⟩
     dsimp only
     refine wpS_bind (zcE fun st5 k5 a5 q5 f5=>wpS_bind (wpS_modify (wpS_pure ⟨lo + n3,rfl,push (st4:=st5) ?_ ?_,by omega⟩)))
     ·refine ⟨k5.trans g4.kind,f5.trans g4.fail,by rw [a5]; exact g4.perm,?_,g4.le⟩
      rw [a5,q5]
      show Stk rk (arrOf st4) ((pendingOf st4).modify _ _).toList 0 lo
      rw [Array.toList_modify]
      refine Stk.mod ?_ g4.stk
      exact fun x=>⟨rfl,rfl⟩
     ·rw [a5]; exact u4
 case post =>
  rintro c st1 ⟨lo,rfl,g,rfl⟩
  dsimp only
  have l1:=g.stk.le
  rw [Array.length_toList] at l1
  refine wpS_bind (wpS_mono (wpS_forRange (I:=fun x c st'=>c=(none,())/\Stg rk kd a₀ st' a₀.size/\((pendingOf st').size<=1\/(pendingOf st').size + x<=a₀.size)) (Q:=fun c st'=>c=(none,())/\Stg rk kd a₀ st' a₀.size/\(pendingOf st').size<=1) ?_ ?_ ⟨rfl,g,.inr (by omega)⟩) ?_)
  ·rintro x c st2 _ hx ⟨rfl,g2,hp2⟩
   refine wpS_bind (wpS_get ?_)
   refine zan (fun e=>wpS_pure ⟨rfl,g2,e⟩) (fun e => ?_)
   refine wpS_bind (zdi C hS g2 ?_ fun st5 g5 z5 o5 => ?_)
   ·by_cases hb:Option.any (fun x=>decide (x < Option.elim (pendingOf st2)[(pendingOf st2).size - 2 + 1]? 0 fun x=>x.2.1)) (if (pendingOf st2).size - 2 > 0 then Option.map (fun x=>x.2.1) (pendingOf st2)[(pendingOf st2).size - 2 - 1]? else none)=true
    ·rw [if_pos hb]; omega
    ·rw [if_neg hb]; omega
   ·simp only [Bool.not_true,Bool.false_eq_true,if_false]
    exact wpS_pure ⟨rfl,g5,by omega⟩
  ·rintro c st2 ⟨rfl,g2,hp2⟩
   exact ⟨rfl,g2,by omega⟩
  ·rintro c st2 ⟨rfl,g2,hp2⟩
   refine wpS_pure (q st2 g2.perm g2.fail ?_)
   have hs:=g2.stk
   have hl:(pendingOf st2).toList.length<=1:=by rw [Array.length_toList]; exact hp2
   match hm:(pendingOf st2).toList,hs,hl with
   | [],hs,_=>have hs:0=a₀.size:=hs; omega
   | [x],⟨b1,b2,b3,b4⟩,_ =>
    have b4:0 + x.2.1=a₀.size:=b4
    rwa [b4] at b3
end
end L2
namespace L2
open PySem PySem.Spec PyProof.Rows PySem.W
noncomputable def rkI:Keyed->Int:=fun k=>numOf k.1
section
variable {prog:Program} {w:World} {A:Around} {E:Value->Shared->Prop} {s:Shared}
theorem ranks_int:Ranks prog w A E s oneType' (fun k=>∃ n t,k.1 = .int n t) rkI:=⟨fun {x y st Q} hx hy hk q=>by
 obtain ⟨x1,x2⟩:=x
 obtain ⟨y1,y2⟩:=y
 obtain ⟨n,t,e⟩:=hx
 obtain ⟨m,u,e2⟩:=hy
 dsimp only at e e2
 subst e e2
 rw [lt'_eq]
 refine wpS_bind (wpS_get ?_)
 rw [hk,keyLt'_oneType]
 exact wpS_bind (wpS_lift (wpAny_attempt (oneLt_int ⟨rfl,wpS_pure q⟩)))⟩
theorem zgY {a:Addr} {vs:List Value} {ns:List Int} {n:Nat} {P:PySem.Fin->Shared->Prop} (ho:s.heap.get? a=some (seqObj "list" vs.toArray n)) (hI:IntsAre vs ns) (hb:vs.length<=sizeLine)
  (q:∀ (out:Array Value) (ns':List Int),IntsAre out.toList ns'->ns'.Perm ns->ns'.Pairwise (· <= ·)->P (.done (.ret .none)) { s with heap:=sortedHeap s.heap a vs out }) :
  wpAny (model prog w) A (Builtin.«list.sort» ⟨[.ref a],[]⟩) P E s:=by
 have fin:∀ st':SortSt,(arrOf st').Perm (pairsOf vs)->Up2 rkI (arrOf st') 0 (pairsOf vs).size->P (.done (.ret .none)) { s with heap:=sortedHeap s.heap a vs ((arrOf st').map (·.2)) }:=fun st' hp hs=>by
  obtain ⟨ns',b1,b2,b3⟩:=sorted_out hI hp (fun i j hij hj=>hs i j (Nat.zero_le _) hij hj)
  exact q _ ns' b1 b2 b3
 rw [list_sort_plain]; have hlt:=Heap.lt_size ho
 obtain ⟨e1,o1⟩:∃ e,(s.heap.update a (Obj.mapSeq fun _=>(#[]:Array Value))).get? a=some (seqObj "list" #[] e):=⟨_,get?_update_seq ho fun _ => #[]⟩
 have hz:vs.toArray.size=vs.length:=List.size_toArray
 refine wpAny_bind (listItems_at ho rfl (wpAny_bind (listUpdate_at ho rfl (wpAny_bind (seqEpoch_at o1 rfl (wpAny_bind (wpAny_newTuple (wpAny_bind (wpAny_newList (wpAny_holding ?_) (Nat.zero_le _))) (by show vs.length<=_; omega))))) (by rw [hz]; omega) (Nat.zero_le _))))
 have o6:(((s.heap.update a (Obj.mapSeq fun _=>(#[]:Array Value))).push (seqObj "tuple" vs.toArray 0)).push (seqObj "list" #[] 0)).get? a=some (seqObj "list" #[] e1):=Heap.get?_push_of_some _ (Heap.get?_push_of_some _ o1)
 show wpAny (model prog w) A _ P E { s with heap:=((s.heap.update a (Obj.mapSeq fun _=>(#[]:Array Value))).push (seqObj "tuple" vs.toArray 0)).push (seqObj "list" #[] 0) }; dsimp only
 by_cases h2:vs.toArray.size < 2
 ·rw [if_pos h2,if_pos h2]; refine wpAny_bind (wpAny_pure ?_)
  rw [StateT.run_pure]; refine wpAny_bind (wpAny_pure ?_)
  dsimp only
  refine wpAny_bind (seqEpoch_at o6 rfl (wpAny_bind (listUpdate_at o6 rfl ?_ (Nat.zero_le _) (by rw [Array.size_map]; show (pairsOf vs).size<=_; rw [pairsOf_size]; omega))))
  simp only [bne_self_eq_false,Bool.false_eq_true,if_false]
  refine wpAny_pure (fin (SortSt.mk' general' (vs.toArray.zip vs.toArray) #[] 7 none) (Array.Perm.refl _) fun i j _ hij hj => ?_)
  rw [pairsOf_size] at hj
  rw [show i=j by omega]; exact Int.le_refl _
 ·rw [if_neg h2,if_neg h2]
  have hkk:keyKind' vs.toArray=pure oneType':=by
   match vs,hI,h2 with
   | [],_,h2=>simp at h2
   | [_],_,h2=>simp at h2
   | v₁ :: v₂ :: r,hI,_=>exact keyKind_ints hI
  rw [hkk]
  refine wpAny_bind (wpAny_pure ?_)
  refine wpAny_bind (wpAny_mono (sortRuns_ok (ranks_int (E:=E)) (st:=SortSt.mk' oneType' (vs.toArray.zip vs.toArray) #[] 7 none) (Q:=fun _ st'=>(arrOf st').Perm (pairsOf vs)/\failedOf st'=none/\Up2 rkI (arrOf st') 0 (pairsOf vs).size) hI.intKeys rfl rfl rfl (by show 2<=(pairsOf vs).size; rw [pairsOf_size]; omega) fun st' c1 c2 c3=>⟨c1,c2,c3⟩) ?_ fun _ _ e=>e)
  rintro ⟨⟨⟩,st'⟩ s' ⟨rfl,hp,hf,hs⟩
  dsimp only
  refine wpAny_bind (seqEpoch_at o6 rfl (wpAny_bind (listUpdate_at o6 rfl ?_ (Nat.zero_le _) (by rw [Array.size_map,hp.size_eq,pairsOf_size]; omega))))
  rw [hf]
  simp only [bne_self_eq_false,Bool.false_eq_true,if_false]
  exact wpAny_pure (fin st' hp hs)
end
theorem zdT:∀ {l:List Value} {ns:List Int},l.length=ns.length->(∀ (j:Nat) (v:Value) (x:Int),l[j]?=some v->ns[j]?=some x->∃ t,v = .int x t)->IntsAre l ns
 | [],[],_,_ => .nil
 | v :: l,x :: ns,hl,h=>by
  obtain ⟨t,rfl⟩:=h 0 v x rfl rfl
  exact .cons _ _ (zdT (by simpa using hl) fun j u y e1 e2=>h (j + 1) u y (by simpa using e1) (by simpa using e2))
section
variable {X:Cx}
theorem zcC (hc:X.calm=true):CallR X (.builtin "sorted") (fun xs H Q=>∃ (a:Addr) (kvs:List (Key×V)) (ns:List Int),xs = [V.ref a]/\Rd H a (.dK kvs)/\kvs.map (·.1)=ns.map Sum.inl/\ns.length<=4096 /\
  ∀ p (ns':List Int),H p=none->ns'.Perm ns->ns'.Pairwise (· <= ·)->Q (.ref p) (upd H p (.lst (ns'.map V.int)))):=by
 intro pins s σ H xs us Q I r h
 obtain ⟨a,kvs,ns,rfl,hq,hk,hb,q⟩:=h
 obtain ⟨u,rfl,ru⟩:=zbJ r
 cases ru
 obtain ⟨hz,lo,vs,kv,hD⟩:=(show ObjOk X.prog X.w H s.heap a (.dK kvs) from hq.ok I.hok)
 obtain ⟨ep,hat⟩:=hD.dictAt
 have hlen:vs.length=ns.length:=by
  have e1:=kv.length
  have e2:=congrArg List.length hk
  rw [List.length_map,List.length_map] at e2
  omega
 have big:(4096:Nat)<=sizeLine:=by decide
 refine Calls.call_function_entry kind_sorted plain_sorted entry_sorted (args_sorted1 _) ?_
 unfold Builtin.«sorted»
 refine wpAny_bind (m:=checkCount "sorted" 1 1 _) (wpAny_pure ?_)
 refine wpAny_bind (PySem.W.kdu_collect (A:=X.A.in1) (PySem.W.kdl_dict (knd:=mixKind X.prog X.w) (kvs:=vs) (ep:=ep) lo) (I.ok.hd hc) hat (by omega) fun h' tk acc hkeep hacc => ?_)
 have hl:acc.toList.length=vs.length:=by rw [Array.length_toList]; exact hacc.1
 have hS:IntsAre acc.toList ns:=by
  refine zdT (by omega) fun j v x e1 e2 => ?_
  obtain ⟨k,y,e3,hk2⟩:=hacc.2 j v (by rw [<- Array.getElem?_toList]; exact e1)
  obtain ⟨v',e4,_⟩:=kv.get e3
  have e5:(kvs.map (·.1))[j]?=some k:=by rw [List.getElem?_map,e4]; rfl
  rw [hk,List.getElem?_map,e2] at e5
  have e6:Sum.inl x=k:=Option.some.inj e5
  subst e6
  rcases zaE (show keyIs (Sum.inl x) v=true from hk2) with ⟨i,t,e,e7⟩ | ⟨y,t,e,e7⟩
  ·cases e; exact ⟨t,e7⟩
  ·cases e
 refine wpAny_bind (wpAny_newList ?_ (by rw [hl]; omega))
 have hoL:(h'.push (seqObj "list" acc.toList.toArray 0)).get? h'.objs.size=some (seqObj "list" acc.toList.toArray 0):=Heap.get?_push_size _ rfl
 refine wpAny_bind (wpAny_holding (wpAny_call_entry slot_list_sort ⟨_,hoL,rfl⟩ entry_list_sort (zgY hoL hS (by omega) fun out ns' a1 a2 a3=>⟨_,rfl,?_⟩) (args_list_sort _)))
 refine wpAny_pure ⟨_,rfl,?_⟩
 obtain ⟨e,he⟩:=sortedHeap_at (out:=out) hoL
 have I1:Inv X pins σ H { s with heap:=h',toks:=tk }:=I.kept hkeep
 have I2:=Inv.laid (o := .lst (ns'.map V.int)) (a:=h'.objs.size) (h':=sortedHeap (h'.push (seqObj "list" acc.toList.toArray 0)) h'.objs.size acc.toList out) (t':=tk) I1 (fun b o hb=>by
  have lt:=Heap.lt_size hb
  rw [sortedHeap_old (Nat.ne_of_lt lt) (by rw [Heap.size_push]; exact Nat.lt_succ_of_lt lt)]
  exact Heap.get?_push_of_some _ hb) (Nat.le_refl _) (show ObjOk X.prog X.w _ _ _ (.lst (ns'.map V.int)) from ⟨by rw [List.length_map,a2.length_eq]; omega,_,e,zbT a1,by rw [Array.toArray_toList]; exact he⟩)
 exact ⟨.ref h'.objs.size,_,I2,rfl,q _ ns' (I1.hok.fresh (Nat.le_refl _)) a2 a3⟩
end
end L2
namespace L2
open PySem PySem.Spec PyProof.Rows
noncomputable def behN (C:Combs) (l:List Nat):List Nat:=(List.range 128).filter fun s=>l.any fun t=>(stp C t).any fun p=>decide (p.2.toNat=s)
noncomputable def rowN (C:Combs):Nat->List Nat
 | 0 => [0]
 | k + 1=>behN C (rowN C k)
theorem beh_mem {C:Combs} {l:List Nat} {s:Nat}:s∈behN C l ↔ s < 128/\∃ t∈l,∃ p∈stp C t,p.2.toNat=s:=by
 unfold behN
 rw [List.mem_filter,List.mem_range]
 constructor
 ·rintro ⟨h,e⟩
  obtain ⟨t,ht,e⟩:=List.any_eq_true.mp e
  obtain ⟨p,hp,e⟩:=List.any_eq_true.mp e
  exact ⟨h,t,ht,p,hp,of_decide_eq_true e⟩
 ·rintro ⟨h,t,ht,p,hp,e⟩
  exact ⟨h,List.any_eq_true.mpr ⟨t,ht,List.any_eq_true.mpr ⟨p,hp,decide_eq_true e⟩⟩⟩
theorem zgT (C:Combs) (l:List Nat):(behN C l).Pairwise (· < ·):=List.Pairwise.sublist List.filter_sublist List.pairwise_lt_range
theorem ze5 (C:Combs) (l:List Nat):(behN C l).length<=128:=by
 have:=List.length_filter_le (fun s=>l.any fun t=>(stp C t).any fun p=>decide (p.2.toNat=s)) (List.range 128)
 rwa [List.length_range] at this
theorem zcG (C:Combs):∀ k,(∀ s∈rowN C k,s < 128)/\(rowN C k).length<=128
 | 0=>⟨fun s h=>by rw [show rowN C 0 = [0] from rfl,List.mem_singleton] at h; omega,by show 1<=128; decide⟩
 | k + 1=>⟨fun s h=>(beh_mem.mp h).1,ze5 C _⟩
theorem zfE {C:Combs} (g:GC C) {l:List Nat} (hl:∀ t∈l,t < 128) {rs:List Int} (nd:rs.Nodup) (hm:∀ n,n∈rs ↔ ∃ t∈l,∃ p∈stp C t,p.2=n):rs.Perm ((behN C l).map fun s=>((s:Nat):Int)):=by
 refine (List.perm_ext_iff_of_nodup nd ?_).mpr fun n => ?_
 ·refine zaU ?_
  rw [List.pairwise_map]
  exact (zgT C l).imp fun h=>by omega
 ·rw [hm,List.mem_map]
  constructor
  ·rintro ⟨t,ht,p,hp,rfl⟩
   have:=zcM g (hl t ht) hp
   exact ⟨p.2.toNat,beh_mem.mpr ⟨this.2,t,ht,p,hp,rfl⟩,by omega⟩
  ·rintro ⟨s,hs,rfl⟩
   obtain ⟨h1,t,ht,p,hp,e⟩:=beh_mem.mp hs
   have:=zcM g (hl t ht) hp
   exact ⟨t,ht,p,hp,by omega⟩
theorem zdW (C:Combs) (l:List Nat):((behN C l).map fun s=>((s:Nat):Int)).Pairwise (· <= ·):=by
 rw [List.pairwise_map]
 exact (zgT C l).imp fun h=>by omega
theorem zfs {C:Combs}:∀ {k s j:Nat},s∈rowN C k->tr (rowAt C j) s=true->tr (rowAt C (j + k)) 0=true
 | 0,s,j,h,e=>by rw [show rowN C 0 = [0] from rfl,List.mem_singleton] at h; rwa [h] at e
 | k + 1,s,j,h,e=>by
  obtain ⟨h1,t,ht,p,hp,e2⟩:=beh_mem.mp h
  have:tr (rowAt C (j + 1)) t=true:=by
   show tr (nxtRow C (rowAt C j)) t=true
   rw [zdY ((zcG C k).1 t ht)]
   exact List.any_eq_true.mpr ⟨p,hp,by rw [e2]; exact e⟩
  have:=zfs ht this
  rwa [show j + 1 + k=j + (k + 1) by omega] at this
theorem zfr {C:Combs} (g:GC C) {m k:Nat} (h:tr (rowAt C m) 0=false) (hk:rowN C k ≠ []):k < m:=by
 rcases Nat.lt_or_ge k m with z | z
 ·exact z
 ·obtain ⟨s,hs⟩:=List.exists_mem_of_ne_nil _ hk
  have:=zfs hs (zfK ((zcG C k).1 s hs))
  rw [Nat.zero_add,show k=m + (k - m) by omega] at this
  rw [zfL g (by decide) _ this] at h
  cases h
noncomputable def RowsN (H:Hp) (ws:List V) (C:Combs) (m:Nat):Prop:=ws.length=m + 1/\∀ i:Nat,i<=m->∃ q,ws[i]?=some (.ref q)/\H q=some (.lst ((rowN C i).map fun s=>V.int (s:Nat)))
theorem RowsN.same {H H':Hp} {ws:List V} {C:Combs} {m:Nat} (r:RowsN H ws C m) (s:Same H H'):RowsN H' ws C m:=⟨r.1,fun i h=>let ⟨q,a,b⟩:=r.2 i h; ⟨q,a,s _ _ b⟩⟩
theorem RowsN.ne {H:Hp} {ws:List V} {C:Combs} {m:Nat} (r:RowsN H ws C m) {p q:Addr} {bs:List Nat} (hp:H p=some (.lst ws)) (hq:H q=some (.lst (bs.map fun s=>V.int (s:Nat)))):q≠p:=fun z=>by
 rw [z,hp] at hq
 obtain ⟨qa,e,_⟩:=r.2 0 (Nat.zero_le _)
 injection hq with hq
 injection hq with hq
 rw [hq,List.getElem?_map] at e
 cases h:bs[0]? with
 | none=>rw [h] at e; cases e
 | some b=>rw [h] at e; cases e
theorem RowsN.snoc {H:Hp} {ws:List V} {C:Combs} {m:Nat} (r:RowsN H ws C m) {p q:Addr} (hp:H p=some (.lst ws)) (hq:H q=some (.lst ((rowN C (m + 1)).map fun s=>V.int (s:Nat)))):RowsN (upd H p (.lst (ws ++ [.ref q]))) (ws ++ [.ref q]) C (m + 1):=by
 refine ⟨by rw [List.length_append,r.1]; rfl,fun i hi => ?_⟩
 by_cases e:i=m + 1
 ·subst e
  exact ⟨q,by rw [List.getElem?_append_right (by rw [r.1]; omega),r.1]; simp,by rw [zai (r.ne hp hq)]; exact hq⟩
 ·obtain ⟨qa,e1,e2⟩:=r.2 i (by omega)
  exact ⟨qa,by rw [List.getElem?_append_left (by rw [r.1]; omega)]; exact e1,by rw [zai (r.ne hp e2)]; exact e2⟩
theorem zes {κ : Type} [DecidableEq κ] (kvs:List (κ × V)) (k : κ) (v:V):(putK kvs k v).map (·.1)=if k∈kvs.map (·.1) then kvs.map (·.1) else kvs.map (·.1) ++ [k]:=by
 unfold putK
 by_cases h:(kvs.any fun kv=>decide (kv.1=k))=true
 ·rw [if_pos h,if_pos (valV_mem.mp (by rw [<- zbu]; exact h)),List.map_map]
  refine List.map_congr_left fun kv _ => ?_
  show (if kv.1=k then (kv.1,v) else kv).1=kv.1
  split <;> rfl
 ·rw [if_neg h,if_neg (fun z=>h (by rw [zbu]; exact valV_mem.mpr z)),List.map_append]
  rfl
end L2
namespace L2
open PySem PySem.Spec PyProof.Rows
theorem zgw {C:Combs} (g:GC C) {row:List Bool} (hr:nxtRow C row=row) {s:Nat} (hs:s < 128) (ht:tr row s=true) (k:Nat) :
  ((0:Int)∈aheadOf (wk C row s k:Int)/\wn C row s k=Str.ofString "" /\ aheadOf (wk C row s (k + 1):Int)=afterOf (aheadOf (wk C row s k:Int)) [])\/((0:Int) ∉ aheadOf (wk C row s k:Int)/\∃ c∈C,wn C row s k=c.1/\meets (aheadOf (wk C row s k:Int)) c.2=false/\aheadOf (wk C row s (k + 1):Int)=afterOf (aheadOf (wk C row s k:Int)) c.2):=by
 have hlt:=(zgv g hr hs ht k).1
 have hm:=wk_mem g hr hs ht k
 rw [<- zb4 hlt g] at hm
 obtain ⟨p,hp,e⟩:=List.mem_map.mp hm
 obtain ⟨_,k2,k3,_⟩:=goes_key hlt g hp
 injection e with e1 e2
 have e3:p.2=aheadOf (wk C row s (k + 1):Int):=by
  have:=zgL k3
  rw [this,e2]
  congr 1
 unfold goesOf at hp
 by_cases h0:(0:Int)∈aheadOf (wk C row s k:Int)
 ·rw [if_pos h0] at hp
  have hp:=List.mem_singleton.mp hp
  refine .inl ⟨h0,?_,?_⟩
  ·rw [<- e1,hp]
  ·rw [<- e3,hp]
 ·rw [if_neg h0] at hp
  obtain ⟨c,hc,rfl⟩:=List.mem_map.mp hp
  obtain ⟨hc1,hc2⟩:=List.mem_filter.mp hc
  exact .inr ⟨h0,c,hc1,e1.symm,by simpa using hc2,e3.symm⟩
structure Walk (al ta:Nat->Nat->Bool):Prop where
 al0:∀ d,al 0 d=false
 al7:∀ k d,7<=d->al k d=false
 ta8:∀ k t,8<=t->ta k t=false
 one:∀ k,ind (al k 0) + ind (ta k 0)=1
 next:∀ k d,ind (al (k + 1) d)=ind (al k (d + 1)) + ind (ta k (d + 1))
theorem zfH {C:Combs} (g:GC C) (nd:(C.map (·.1)).Nodup) (ne:∀ c∈C,c.1≠Str.ofString "") {row:List Bool} (hr:nxtRow C row=row) (ht:tr row 0=true) :
  Walk (fun k d=>decide ((d:Int)∈aheadOf (wk C row 0 k:Int))) (fun k t=>decide ((t:Int)∈tkOf C (wn C row 0 k))):=by
 have hnone:cGet C (Str.ofString "")=none:=get_none.mpr fun z=>by
  obtain ⟨c,hc,e⟩:=List.mem_map.mp z
  exact ne c hc e
 have hin:∀ k t,t∈tkOf C (wn C row 0 k)->0<=t/\t<=7:=fun k t ht=>by
  unfold tkOf at ht
  cases e:cGet C (wn C row 0 k) with
  | none=>rw [e] at ht; cases ht
  | some ts=>rw [e] at ht; exact zdw (g _ (zcg e)) t ht
 have go:=fun k=>zgw g hr (show 0 < 128 by decide) ht k
 refine ⟨fun d => ?_,fun k d hd => ?_,fun k d hd => ?_,fun k => ?_,fun k d => ?_⟩
 ·have e:aheadOf ((wk C row 0 0:Nat):Int) = []:=(by decide:aheadOf ((0:Nat):Int) = [])
  show decide ((d:Int)∈aheadOf ((wk C row 0 0:Nat):Int))=false
  rw [e]
  exact decide_eq_false nofun
 ·exact decide_eq_false fun z=>by have:=(mem_ahead.mp z).2.1; omega
 ·exact decide_eq_false fun z=>by have:=(hin k _ z).2; omega
 ·rcases go k with ⟨h0,e1,_⟩ | ⟨h0,c,hc,e1,_⟩
  ·have:(0:Int) ∉ tkOf C (wn C row 0 k):=by unfold tkOf; rw [e1,hnone]; exact nofun
   rw [decide_eq_true (show ((0:Nat):Int)∈_ from h0),decide_eq_false (show ¬ ((0:Nat):Int)∈_ from this)]
   rfl
  ·have:(0:Int)∈tkOf C (wn C row 0 k):=by unfold tkOf; rw [e1,zcc nd hc]; exact ze0 (g c hc)
   rw [decide_eq_false (show ¬ ((0:Nat):Int)∈_ from h0),decide_eq_true (show ((0:Nat):Int)∈_ from this)]
   rfl
 ·rcases go k with ⟨h0,e1,e2⟩ | ⟨h0,c,hc,e1,hmt,e2⟩
  ·have:((d + 1:Nat):Int) ∉ tkOf C (wn C row 0 k):=by unfold tkOf; rw [e1,hnone]; exact nofun
   rw [e2,decide_eq_false this]
   have:=zev (ah:=aheadOf (wk C row 0 k:Int)) (ts := []) zcD (by simp) d
   have e:decide ((d:Int)∈afterOf (aheadOf (wk C row 0 k:Int)) [])=decide (((d + 1:Nat):Int)∈aheadOf (wk C row 0 k:Int)):=by
    rw [decide_eq_decide,this]; simp
   rw [e]
   rfl
  ·have ht:tkOf C (wn C row 0 k)=c.2:=by unfold tkOf; rw [e1,zcc nd hc]; rfl
   rw [e2,ht]
   have hm:=zev (ah:=aheadOf (wk C row 0 k:Int)) (ts:=c.2) zcD (zdw (g c hc)) d
   have hx:=meets_false.mp hmt
   by_cases b1:((d + 1:Nat):Int)∈aheadOf (wk C row 0 k:Int)
   ·have b2:((d + 1:Nat):Int) ∉ c.2:=fun z=>hx _ z b1
    rw [decide_eq_true (hm.mpr (.inl b1)),decide_eq_true b1,decide_eq_false b2]
    rfl
   ·by_cases b2:((d + 1:Nat):Int)∈c.2
    ·rw [decide_eq_true (hm.mpr (.inr b2)),decide_eq_false b1,decide_eq_true b2]
     rfl
    ·rw [decide_eq_false (fun z=>by rcases hm.mp z with z | z; exact b1 z; exact b2 z),decide_eq_false b1,decide_eq_false b2]
     rfl
noncomputable def ov (al:Nat->Nat->Bool) (i p:Nat):Nat:=if p < i then 1 else ind (al i (p - i))
section
variable {al ta:Nat->Nat->Bool}
theorem Walk.step (W:Walk al ta) (i p:Nat):ov al (i + 1) p=ov al i p + if i<=p then ind (ta i (p - i)) else 0:=by
 unfold ov
 rcases Nat.lt_trichotomy p i with h | h | h
 ·rw [if_pos (by omega),if_pos h,if_neg (by omega)]
 ·subst h
  rw [if_pos (by omega),if_neg (by omega),if_pos (Nat.le_refl _),Nat.sub_self,W.one]
 ·rw [if_neg (by omega),if_neg (by omega),if_pos (by omega),show p - i=(p - (i + 1)) + 1 by omega]
  exact W.next i (p - (i + 1))
theorem Walk.zero (W:Walk al ta) (p:Nat):ov al 0 p=0:=by
 unfold ov
 rw [if_neg (by omega),W.al0]
 rfl
theorem ov_le (al:Nat->Nat->Bool) (i p:Nat):ov al i p<=1:=by
 unfold ov ind
 repeat' split
 all_goals omega
noncomputable def cn (nm:Nat->Str) (i:Nat):Nat:=(laid nm i).length
theorem ze4 (nm:Nat->Str) (i:Nat):cn nm (i + 1)=cn nm i + if nm i≠Str.ofString "" then 1 else 0:=by
 unfold cn laid
 rw [List.range_succ,List.filter_append,List.length_append,List.filter_cons,List.filter_nil]
 by_cases h:nm i≠Str.ofString ""
 ·rw [if_pos (by simpa using h),if_pos h]; rfl
 ·rw [if_neg (by simpa using h),if_neg h]; rfl
theorem zgr (nm:Nat->Str) (i:Nat):∀ k,cn nm i<=cn nm (i + k)
 | 0=>Nat.le_refl _
 | k + 1=>by
  have:=zgr nm i k
  rw [<- Nat.add_assoc,ze4]
  omega
theorem Walk.same (W:Walk al ta) {nm:Nat->Str} (hn:∀ i t,nm i=Str.ofString "" -> ta i t=false):∀ {i k:Nat},cn nm i=cn nm (i + k)->∀ p,ov al (i + k) p=ov al i p
 | i,0,_,p=>rfl
 | i,k + 1,h,p=>by
  have h1:=zgr nm i k
  have h2:=ze4 nm (i + k)
  rw [<- Nat.add_assoc] at h ⊢
  have e:nm (i + k)=Str.ofString "" := by
   apply Classical.byContradiction
   intro z
   rw [if_pos z] at h2
   omega
  rw [W.step,W.same hn (by rw [if_neg (by simpa using e)] at h2; omega)]
  split
  ·rw [hn _ _ e]; rfl
  ·rfl
theorem Walk.same' (W:Walk al ta) {nm:Nat->Str} (hn:∀ i t,nm i=Str.ofString "" -> ta i t=false) {i j:Nat} (h:cn nm i=cn nm j) (p:Nat):ov al i p=ov al j p:=by
 rcases Nat.le_total i j with z | z
 ·obtain ⟨k,rfl⟩:=Nat.exists_eq_add_of_le z
  exact (W.same hn h p).symm
 ·obtain ⟨k,rfl⟩:=Nat.exists_eq_add_of_le z
  exact W.same hn h.symm p
end
theorem laid_at {nm:Nat->Str} {i n:Nat} (h:i < n) (hp:nm i≠Str.ofString ""):(laid nm n)[cn nm i]?=some i:=by
 unfold cn laid
 have e:List.range n=List.range i ++ i :: (List.range (n - i - 1)).map fun k=>i + 1 + k:=by
  have h1:List.range n=List.range ((i + 1) + (n - i - 1)):=by congr 1; omega
  rw [h1,List.range_add,List.range_succ,List.append_assoc]
  rfl
 rw [e,List.filter_append,List.filter_cons,if_pos (by simpa using hp),List.getElem?_append_right (Nat.le_refl _),Nat.sub_self]
 rfl
theorem laid_nd (nm:Nat->Str) (n:Nat):(laid nm n).Nodup:=List.nodup_range.sublist List.filter_sublist
theorem laid_idx {nm:Nat->Str} {n q j:Nat} (h:(laid nm n)[q]?=some j):j < n/\nm j≠Str.ofString "" /\ cn nm j=q:=by
 obtain ⟨h1,h2⟩:=List.mem_filter.mp (List.mem_of_getElem? h)
 have h1:=List.mem_range.mp h1
 have h2:nm j≠Str.ofString "" := of_decide_eq_true h2
 refine ⟨h1,h2,?_⟩
 have:=laid_at h1 h2
 exact (List.getElem?_inj (List.getElem?_eq_some_iff.mp this).1 (laid_nd nm n)).mp (by rw [this,h])
theorem zgc (nm:Nat->Str) (n:Nat):(laid nm n).Pairwise (· < ·):=List.Pairwise.sublist List.filter_sublist List.pairwise_lt_range
theorem zgA {C:Combs} {row:List Bool} {s0 st n:Nat} (h:wk C row s0 n=wk C row s0 st) (hst:st<=n) (j:Nat) (hj:st<=j):∀ k,wk C row s0 (j + k * (n - st))=wk C row s0 j
 | 0=>by rw [Nat.zero_mul,Nat.add_zero]
 | k + 1=>by
  have:=zfc h (j + k * (n - st) - st)
  rw [show n + (j + k * (n - st) - st)=j + (k + 1) * (n - st) by rw [Nat.succ_mul]; omega,show st + (j + k * (n - st) - st)=j + k * (n - st) by omega] at this
  rw [this,zgA h hst j hj k]
theorem zgz {C:Combs} {row:List Bool} {s0 st n:Nat} (h:wk C row s0 n=wk C row s0 st) (hst:st<=n) (j:Nat) (hj:st<=j) (k:Nat):wn C row s0 (j + k * (n - st))=wn C row s0 j:=by
 unfold wn
 rw [zgA h hst j hj k]
theorem laid_more {nm:Nat->Str} {st n k:Nat} (hst:st<=n) (per:∀ j,st<=j->nm (j + k * (n - st))=nm j):laid nm (st + (k + 1) * (n - st))=laid nm (st + k * (n - st)) ++ ((laid nm n).filter fun j=>decide (st<=j)).map fun j=>j + k * (n - st):=by
 have e1:st + (k + 1) * (n - st)=(st + k * (n - st)) + (n - st):=by rw [Nat.succ_mul]; omega
 have e2:(laid nm n).filter (fun j=>decide (st<=j))=((List.range (n - st)).filter fun i=>decide (nm (st + i)≠Str.ofString "")).map fun i=>st + i:=by
  unfold laid
  have e:List.range n=List.range st ++ (List.range (n - st)).map fun i=>st + i:=by
   rw [<- List.range_add]; congr 1; omega
  rw [List.filter_filter,e,List.filter_append]
  have h1:(List.range st).filter (fun a=>decide (st<=a) && decide (nm a≠Str.ofString "")) = []:=by
   rw [List.filter_eq_nil_iff]
   intro a ha
   have:=List.mem_range.mp ha
   simp
   intro z
   omega
  rw [h1,List.nil_append,List.filter_map]
  congr 1
  refine List.filter_congr fun i _ => ?_
  show (decide (st<=st + i) && decide (nm (st + i)≠Str.ofString ""))=_
  rw [decide_eq_true (by omega),Bool.true_and]
 rw [e2,e1]
 unfold laid
 rw [List.range_add,List.filter_append,List.filter_map,List.map_map]
 congr 1
 have h3:((fun j=>decide (nm j≠Str.ofString "")) ∘ fun i=>st + k * (n - st) + i)=fun i=>decide (nm (st + i)≠Str.ofString ""):=funext fun i=>by
  show decide (nm (st + k * (n - st) + i)≠_)=_
  rw [show st + k * (n - st) + i=(st + i) + k * (n - st) by omega,per _ (by omega)]
 rw [h3]
 refine List.map_congr_left fun i _ => ?_
 show st + k * (n - st) + i=st + i + k * (n - st)
 omega
noncomputable def PL (H:Hp) (vs:List V) (nm:Nat->Str) (L:List Nat):Prop:=Paired (fun (j:Nat) (v:V)=>∃ q,v = .ref q/\H q=some (.tup [.int (j:Int),.str (nm j)])) L vs
theorem PL.mono {H H':Hp} {vs:List V} {nm:Nat->Str} {L:List Nat} (m:∀ q xs,H q=some (.tup xs)->H' q=some (.tup xs)) (r:PL H vs nm L):PL H' vs nm L:=Paired.mapP r fun _ _ ⟨q,a,b⟩=>⟨q,a,m _ _ b⟩
theorem map_set {n j:Nat} (f:Nat->V) (v:V) (h:j < n):((List.range n).map f).set j v=(List.range n).map fun p=>if p=j then v else f p:=by
 refine List.ext_getElem? fun i => ?_
 rw [List.getElem?_set,List.getElem?_map,List.length_map,List.length_range]
 by_cases e:j=i
 ·subst e
  rw [if_pos rfl,if_pos h,List.getElem?_map,List.getElem?_range h,Option.map_some,if_pos rfl]
 ·rw [if_neg e,List.getElem?_map]
  by_cases hi:i < n
  ·rw [List.getElem?_range hi,Option.map_some,Option.map_some,if_neg (fun z=>e z.symm)]
  ·rw [List.getElem?_eq_none (by rw [List.length_range]; omega)]
   rfl
theorem count_teeth {ts:List Int} (nd:ts.Nodup) (h0:∀ t∈ts,0<=t) (i p:Nat):(ts.map fun t=>i + t.toNat).count p=if i<=p then ind (decide (((p - i:Nat):Int)∈ts)) else 0:=by
 have nd2:(ts.map fun t=>i + t.toNat).Nodup:=by
  rw [List.nodup_iff_pairwise_ne,List.pairwise_map]
  rw [List.nodup_iff_pairwise_ne] at nd
  refine List.Pairwise.imp_of_mem (fun {a b} ha hb hab e=>hab ?_) nd
  have:=h0 a ha
  have:=h0 b hb
  omega
 have hm:p∈(ts.map fun t=>i + t.toNat) ↔ i<=p/\((p - i:Nat):Int)∈ts:=by
  rw [List.mem_map]
  constructor
  ·rintro ⟨t,ht,rfl⟩
   have:=h0 t ht
   exact ⟨by omega,by rw [show ((i + t.toNat - i:Nat):Int)=t by omega]; exact ht⟩
  ·rintro ⟨h,ht⟩
   exact ⟨_,ht,by omega⟩
 rw [nd2.count]
 by_cases h:i<=p
 ·rw [if_pos h]
  by_cases h2:((p - i:Nat):Int)∈ts
  ·rw [if_pos (hm.mpr ⟨h,h2⟩),decide_eq_true h2]; rfl
  ·rw [if_neg (fun z=>h2 (hm.mp z).2),decide_eq_false h2]; rfl
 ·rw [if_neg h,if_neg (fun z=>h (hm.mp z).1)]
end L2
namespace L2
open PySem PySem.Spec PyProof.Rows PySem.W
section
variable {prog:Program} {w:World} {A:Around} {E:Value->Shared->Prop} {s:Shared}
end
section
variable {prog:Program} {w:World} {A:Around} {E:Value->Shared->Prop} {s:Shared}
end
section
variable {prog:Program} {w:World} {A:Around} {E:Value->Shared->Prop} {s:Shared} {d:Addr} {o:Obj} {es:Array DictEntry} {ep:Nat}
end
section
variable {X:Cx}
end
section
variable {X:Cx}
theorem call_sortedIL:CallR X (.builtin "sorted") (fun xs H Q=>∃ (a:Addr) (ns:List Int),xs = [V.ref a]/\SqL X.K H a (ns.map V.int)/\∀ p (ns':List Int),H p=none->ns'.Perm ns->ns'.Pairwise (· <= ·)->Q (.ref p) (upd H p (.lst (ns'.map V.int)))):=by
 intro pins s σ H xs us Q I r h
 obtain ⟨a,ns,rfl,hq,q⟩:=h
 obtain ⟨u,rfl,ru⟩:=zbJ r
 cases ru
 obtain ⟨its,rv,pl,hz⟩:=I.list hq
 have hl:ns.length=its.length:=by have:=rv.length; rwa [List.length_map] at this
 rw [List.length_map] at hz
 refine Calls.call_function_entry kind_sorted plain_sorted entry_sorted (args_sorted1 _) (show wpAny _ _ (Builtin.«sorted» _) _ _ _ from ?_)
 unfold Builtin.«sorted»
 refine wpAny_bind (m:=checkCount "sorted" 1 1 _) (wpAny_pure (wpAny_bind (collect_list (vs:=its) pl.isList (wpAny_bind (wpAny_newList ?_ (by omega))) (by omega))))
 have hsz:((s.heap.push (seqObj "list" #[] 0)).update s.heap.objs.size (Obj.mapSeq (· ++ its.toArray))).objs.size=s.heap.objs.size + 1:=(Heap.size_update ..).trans (size_push' ..)
 have hoL:(((s.heap.push (seqObj "list" #[] 0)).update s.heap.objs.size (Obj.mapSeq (· ++ its.toArray))).push (seqObj "list" its.toArray 0)).get? (s.heap.objs.size + 1)=some (seqObj "list" its.toArray 0):=by rw [<- hsz]; exact Heap.get?_push_size _ rfl
 show wpAny _ _ _ _ _ { s with heap:=((s.heap.push (seqObj "list" #[] 0)).update s.heap.objs.size (Obj.mapSeq (· ++ its.toArray))).push (seqObj "list" its.toArray 0) }; rw [hsz]
 refine wpAny_bind (wpAny_holding (wpAny_call_entry slot_list_sort ⟨_,hoL,rfl⟩ entry_list_sort (zgY hoL (zcV rv) (by omega) fun out ns' a1 a2 a3=>⟨_,rfl,?_⟩) (args_list_sort _)))
 refine wpAny_pure ⟨_,rfl,?_⟩
 exact zdF I (ys:=ns'.map V.int) (by rw [List.length_map,a2.length_eq]; omega) (zbT a1) (q _ ns' (I.hok.fresh (Nat.le_succ _)) a2 a3)
end
theorem behN_perm {C C':Combs} (p:C.Perm C') (l:List Nat):behN C l=behN C' l:=by
 unfold behN
 refine List.filter_congr fun s _ => ?_
 congr 1
 funext t
 exact any_perm (steps_perm p _) _
theorem zde {C C':Combs} (p:C.Perm C'):∀ k,rowN C k=rowN C' k
 | 0=>rfl
 | k + 1=>by
  show behN C (rowN C k)=behN C' (rowN C' k)
  rw [zde p k,behN_perm p]
end L2
set_option maxHeartbeats 4000000
namespace L2
open PySem PySem.Spec PyProof.Rows PySem.W
theorem lk_list_keys:typeLookup (.type "list") "keys" = pure none:=am_miss_of_fast (by decide +kernel)
theorem lk_list_getattr:typeLookup (.type "list") "__getattr__" = pure none:=am_miss_of_fast (by decide +kernel)
theorem miss_list (l:Addr) (its:Array Value) (n:Nat) (u:Tok) :
  Meets (Builtin.«object.__getattribute__» ⟨[.ref l,.str "keys" u],[]⟩) (fun A R s=>s.heap.get? l=some { cls := .type "list",dict:=none,data := .seq its n,slots := #[] }/\raisesAttr (.ref l) "keys" A R s) :=
 Meets.of_wp fun prog w A R s hs=>by
  obtain ⟨hp,g,d,tk,os⟩:=s
  obtain ⟨hl,hs⟩:=hs
  have hT:(⟨hp,g,d,tk,os⟩:Shared).TypeIs (.ref l) "list" := ⟨_,hl,rfl⟩
  have hm:=lk_list_keys
  unfold Builtin.«object.__getattribute__»
  repeat (any_goals (first | assumption | wp_step))
  exact wpAny_raiseAttrError hs.1 hs.2 (attrMsg_fits (by decide +kernel) (by decide))
section
variable {prog:Program} {w:World} {A:Around} {E:Value->Shared->Prop} {s:Shared}
theorem no_keys {l:Addr} {its:Array Value} {n:Nat} {Q:Option Value->Shared->Prop} (hl:s.heap.get? l=some { cls := .type "list",dict:=none,data := .seq its n,slots := #[] }) (hA:A.handled=none)
  (h:∀ h' tk,(∀ b o,s.heap.get? b=some o->h'.get? b=some o)->Q none { s with heap:=h',toks:=tk }):wpAny (model prog w) A (getAttr? (.ref l) "keys") Q E s:=by
 obtain ⟨hp,g,d,tk,os⟩:=s
 have hT:∀ tk':Nat,(⟨hp,g,d,tk',os⟩:Shared).TypeIs (.ref l) "list" := fun _=>⟨_,hl,rfl⟩
 have f1:=sub_AttributeError
 have f3:=PySem.F.slot_list_getattribute.lookup
 have f4:=PySem.F.slot_list_getattribute.bind (.ref l)
 have f5:=lk_list_getattr
 unfold getAttr? getAttrBy? getAttrBy
 repeat (any_goals (first | assumption | ((with_reducible show wpAny _ _ (call (Value.builtin "list.__getattribute__") _ _) _ _ _); refine call_meets PySem.F.slot_list_getattribute (hT _) PySem.F.entry_list_ga (PySem.F.args_list_getattribute_2 _ _) (miss_list l its n _) ⟨hl,hA,fun h' tk' e hx => ?_⟩) | wp_step))
 obtain ⟨t',u',he⟩:=hx.there
 show wpAny _ _ (getattributeRaised _ _ _ _ _ _ _) _ _ _
 unfold getattributeRaised
 repeat (any_goals (first | assumption | wp_step))
 exact h _ _ hx.keeps
end
theorem zeH:entryFor table "dict.update.loop" = some Builtin.«dict.update.loop» := entryFor_of_tree (by kernel_rfl)
theorem zcw:plainId "dict.update.loop" = true:=by decide +kernel
noncomputable def storeAll (kvs:List (Key×Value)):List (Key×Value):=kvs.foldl (fun m p=>stored m p.1 p.2) []
theorem storeAll_snoc (kvs:List (Key×Value)) (p:Key×Value):storeAll (kvs ++ [p])=stored (storeAll kvs) p.1 p.2:=by
 unfold storeAll
 rw [List.foldl_append]
 rfl
theorem stored_le (m:List (Key×Value)) (k:Key) (v:Value):(stored m k v).length<=m.length + 1:=by
 unfold stored
 split
 ·rw [List.length_map]; omega
 ·rw [List.length_append]; simp
theorem zc7 (kvs:List (Key×Value)):(storeAll kvs).length<=kvs.length:=by
 have:∀ (kvs m:List (Key×Value)),(kvs.foldl (fun m p=>stored m p.1 p.2) m).length<=m.length + kvs.length:=by
  intro kvs
  induction kvs with
  | nil=>intro m; simp
  | cons p kvs ih =>
   intro m
   have h1:=ih (stored m p.1 p.2)
   have h2:=stored_le m p.1 p.2
   rw [List.foldl_cons,List.length_cons]
   omega
 unfold storeAll
 simpa using this kvs []
section
variable {prog:Program} {w:World} {A:Around} {E:Value->Shared->Prop} {s:Shared}
noncomputable def PairAt (prog:Program) (w:World) (h:Heap) (item:Value) (p:Key×Value):Prop:=∃ q o key n,item = .ref q/\h.get? q=some o/\o.cls = .type "tuple" /\ o.data = .seq #[key,p.2] n/\(mixKind prog w).is p.1 key=true
theorem zdg {h h':Heap} {item:Value} {p:Key×Value} {d I:Addr} (x:PairAt prog w h item p) (hd:∀ o,h.get? d=some o->o.cls ≠ .type "tuple") (hI:∀ o,h.get? I=some o->o.cls ≠ .type "tuple") (k:∀ b o,b≠d->b≠I->h.get? b=some o->h'.get? b=some o):PairAt prog w h' item p:=by
 obtain ⟨q,o,key,n,e,ho,hc,r⟩:=x
 exact ⟨q,o,key,n,e,k q o (fun z=>hd o (by rw [<- z]; exact ho) hc) (fun z=>hI o (by rw [<- z]; exact ho) hc) ho,hc,r⟩
theorem upd_loop {R:Result->Shared->Prop} {l I d:Addr} {items:Array Value} {kv:List (Key×Value)} (res:Value) (hh:A.in1.handled=none) (hlI:l≠I) (hld:l≠d) (hdI:d≠I) (hn:kv.length=items.size) (hsz:items.size<=sizeLine) :
  ∀ (k i:Nat) (s:Shared),items.size - i=k->i<=items.size->s.heap.IsListIter I l i->s.heap.IsList l items->s.heap.DictOf (mixKind prog w) d (storeAll (kv.take i))->(∀ (j:Nat) item p,items[j]?=some item->kv[j]?=some p->PairAt prog w s.heap item p) ->
   (∀ h' tk,(∀ b o,b≠d->b≠I->s.heap.get? b=some o->h'.get? b=some o)->h'.DictOf (mixKind prog w) d (storeAll kv)->R (.ok (.ret res)) { s with heap:=h',toks:=tk }) ->
   codeAny (model prog w) A (.builtin "dict.update.loop" ⟨[.ref d,.ref I,rawInt (i:Int),res],[]⟩) R s:=by
 intro k
 induction k with
 | zero =>
  intro i s hk hi st hl hd hp hR
  have hin:i=items.size:=by omega
  refine codeAny_builtin zeH ?_
  rw [Around.under_plainId zcw _]
  show wpAny _ A.in1 (pyNext (.ref I) >>= _) _ _ s
  refine wpAny_bind (wpAny_pyNext_list_end hh st hl (by simp [hin]) fun h' eb => ?_)
  dsimp only
  show wpAny _ A.in1 (Builtin.Dict.addKeywords d [] >>= _) _ _ _
  refine wpAny_bind (wpAny_pure ?_)
  refine wpAny_pure (hR h' s.toks (fun b o _ hb e=>eb b o hb e) ?_)
  rw [hin,<- hn,List.take_length] at hd
  exact hd.extBut eb hdI
 | succ k ih =>
  intro i s hk hi st hl hd hp hR
  have hlt:i < items.size:=by omega
  obtain ⟨p,hkp⟩:∃ p,kv[i]?=some p:=⟨kv[i]'(by omega),by simp⟩
  have hit:items[i]?=some items[i]:=by simp [hlt]
  refine codeAny_builtin zeH ?_
  rw [Around.under_plainId zcw _]
  show wpAny _ A.in1 (pyNext (.ref I) >>= _) _ _ s
  refine wpAny_bind (wpAny_pyNext_list_item st hl hit fun h1 st1 sb1 => ?_)
  dsimp only
  have kI:∀ o,s.heap.get? I=some o->o.cls ≠ .type "tuple" := fun o e=>by
   obtain ⟨o',e',c',_⟩:=st
   rw [e] at e'
   cases e'
   rw [c']
   decide
  have kd:∀ o,s.heap.get? d=some o->o.cls ≠ .type "tuple" := fun o e=>by
   obtain ⟨o',_,_,e',c',_⟩:=hd
   rw [e] at e'
   cases e'
   rw [c'.1]
   decide
  have k1:∀ b o,b≠d->b≠I->s.heap.get? b=some o->h1.get? b=some o:=fun b o _ hb e=>(sb1.2 b hb).trans e
  have hd1:=hd.sameBut sb1 hdI
  have hl1:h1.IsList l items:=hl.extBut sb1.extBut hlI
  obtain ⟨q,o,key,n,eit,ho,hc,hdat,hkey⟩:=zdg (hp i _ p hit hkp) kd kI k1
  rw [eit]
  refine wpAny_bind (wpAny_holding (wpAny_bind ?_))
  refine wpAny_tryCatch ?_
  unfold Builtin.Dict.pairItems
  refine wpAny_bind (wpAny_typeOf (s:={ s with heap:=h1 }) (show Shared.TypeIs { s with heap:=h1 } (.ref q) "tuple" from ⟨o,ho,hc⟩) ?_)
  rw [if_pos (by decide)]
  refine wpAny_bind (wpAny_seqItems (s:={ s with heap:=h1 }) ho hdat (wpAny_pure ?_))
  refine wpAny_holding ?_
  refine wpAny_dictSet_pairs (s:={ s with heap:=h1 }) hkey hd1 (fun h2 hd2 sb2 => ?_) (by have:=zc7 (kv.take i); rw [List.length_take] at this; omega)
  refine wpAny_pure ⟨plainId_quiet zcw _,?_⟩
  have hI2:h2.IsListIter I l (i + 1):=st1.extBut sb2.extBut (Ne.symm hdI)
  have k2:∀ b o,b≠d->b≠I->s.heap.get? b=some o->h2.get? b=some o:=fun b o hb hb' e=>(sb2.2 b hb).trans (k1 b o hb hb' e)
  refine ih (i + 1) _ (by omega) hlt hI2 (hl1.extBut sb2.extBut hld) ?_ (fun j item p' e1 e2=>zdg (hp j item p' e1 e2) kd kI k2) fun h' tk hk' hd' => ?_
  ·rw [zaB hkp,storeAll_snoc]
   exact hd2
  ·exact hR h' tk (fun b o hb hb' e=>hk' b o hb hb' (k2 b o hb hb' e)) hd'
end
section
variable {prog:Program} {w:World} {A:Around} {E:Value->Shared->Prop} {s:Shared}
theorem dict_pairs {Q:Value->Shared->Prop} {l:Addr} {items:Array Value} {n:Nat} {kv:List (Key×Value)} (hh:A.handled=none) (hl:s.heap.get? l=some { cls := .type "list",dict:=none,data := .seq items n,slots := #[] }) (hn:kv.length=items.size) (hsz:items.size<=sizeLine)
  (hp:∀ (j:Nat) item p,items[j]?=some item->kv[j]?=some p->PairAt prog w s.heap item p)
  (h:∀ h' tk,(∀ b o,s.heap.get? b=some o->h'.get? b=some o)->h'.DictOf (mixKind prog w) s.heap.objs.size (storeAll kv)->Q (.ref s.heap.objs.size) { s with heap:=h',toks:=tk }) :
  wpAny (model prog w) A (call (.type "dict") [.ref l]) Q E s:=by
 refine callType_codes (Q₁ := fun obj s₁ => obj = .ref s.heap.objs.size/\s₁ = { s with heap:=s.heap.push { cls := .type "dict",data := .dict #[] } }) F.kt_called_dict (F.kt_typeCall_dict_1 _) F.entry_dict_init (kt_code_dict_new _ ⟨rfl,rfl⟩) fun obj s₁ hq => ?_
 obtain ⟨rfl,rfl⟩:=hq
 have hnw:(s.heap.push { cls := .type "dict",data := .dict #[] }).get? s.heap.objs.size=some { cls := .type "dict",data := .dict #[] }:=Heap.get?_push_size _ rfl
 have hl':(s.heap.push { cls := .type "dict",data := .dict #[] }).get? l=some { cls := .type "list",dict:=none,data := .seq items n,slots := #[] }:=Heap.get?_push_of_some _ hl
 have hT:({ s with heap:=s.heap.push { cls := .type "dict",data := .dict #[] } }:Shared).TypeIs (.ref l) "list" := ⟨_,hl',rfl⟩
 have hTn:({ s with heap:=s.heap.push { cls := .type "dict",data := .dict #[] } }:Shared).TypeIs (.ref s.heap.objs.size) "dict" := ⟨_,hnw,rfl⟩
 have hld:l≠s.heap.objs.size:=Nat.ne_of_lt (Heap.lt_size hl)
 refine ⟨hTn,F.args_dict_init_2 _ _,?_⟩
 unfold Builtin.«dict.__init__»; refine wpAny_bind ?_
 unfold Builtin.Dict.selfAndRest; refine wpAny_bind (wpAny_notOrdered_dict hTn (show wpAny _ _ (pure (s.heap.objs.size,[Value.ref l])) _ _ _ from wpAny_pure (show wpAny _ _ (Builtin.Dict.updateFrom "dict.__init__" s.heap.objs.size (.ref l) [] .none) _ _ _ from ?_)))
 unfold Builtin.Dict.updateFrom; refine wpAny_bind (wpAny_typeOf hT ?_)
 rw [if_pos (by decide)]
 refine wpAny_bind (no_keys hl' hh fun h1 tk1 k1 => ?_)
 rw [if_pos (show (none:Option Value).isNone=true from rfl)]
 refine wpAny_bind (wpAny_rule ?_)
 have hl1:h1.IsList l items:=⟨_,k1 _ _ hl',rfl,n,rfl⟩
 refine wpAny_bind (wpAny_pyIter_list (s:={ s with heap:=h1,toks:=tk1 }) hl1 ?_)
 have hd1:h1.get? s.heap.objs.size=some { cls := .type "dict",data := .dict #[] }:=k1 _ _ hnw
 have hlt:=Heap.lt_size hd1
 have hlt2:=Heap.lt_size (k1 _ _ hl')
 have kp:∀ b o,s.heap.get? b=some o->h1.get? b=some o:=fun b o e=>k1 _ _ (Heap.get?_push_of_some _ e)
 refine wpAny_pure ⟨plainId_quiet zcw _,?_⟩
 refine upd_loop (A:=A.in1) (items:=items) (kv:=kv) .none (show A.in1.in1.handled=none from hh) (Nat.ne_of_lt hlt2) hld (Nat.ne_of_lt hlt) hn hsz items.size 0 { s with heap:=h1.push { cls := .type "list_iterator",data := .fields #[.ref l,.int 0 0] },toks:=tk1 } (by omega) (Nat.zero_le _) ⟨_,Heap.get?_push_size _ rfl,rfl,rfl⟩ (hl1.push _) ?_ (fun j item p e1 e2 => ?_) fun h' tk hk hd=>show _/\_ from ⟨rfl,h h' tk (fun b o e => ?_) hd⟩
 ·exact Heap.DictOf.push ⟨_,#[],0,hd1,⟨rfl,rfl,rfl⟩,rfl,fun _ he=>by simp at he,Pairs.nil,List.nodup_nil⟩ _
 ·obtain ⟨q,o,key,m,e,ho,r⟩:=hp j item p e1 e2
  exact ⟨q,o,key,m,e,Heap.get?_push_of_some _ (kp _ _ ho),r⟩
 ·have lt:=Heap.lt_size e
  exact hk b o (Nat.ne_of_lt lt) (Nat.ne_of_lt (Nat.lt_trans lt hlt)) (Heap.get?_push_of_some _ (kp _ _ e))
end
section
variable {X:Cx}
theorem call_dictP (hc:X.calm=true):CallR X (.type "dict") (fun xs H Q=>∃ (a:Addr) (ws:List V) (ps:List (Key×V)),xs = [V.ref a]/\H a=some (.lst ws)/\Paired (fun (p:Key×V) (v:V)=>∃ q,v = .ref q/\H q=some (.tup [kV p.1,p.2])) ps ws/\∀ d,H d=none->Q (.ref d) (upd H d (.dK (ps.foldl (fun m p=>putK m p.1 p.2) [])))):=by
 intro pins s σ H xs us Q I r h
 obtain ⟨a,ws,ps,rfl,ha,pr,q⟩:=h
 obtain ⟨u,rfl,ru⟩:=zbJ r
 cases ru
 obtain ⟨z,its,n,rv,hl,e⟩:=I.lstM ha
 have hlp:ps.length=ws.length:=Paired.length pr
 have hx:∃ kv:List (Key×Value),KV ps kv/\∀ (j:Nat) item p,its.toArray[j]?=some item->kv[j]?=some p->PairAt X.prog X.w s.heap item p:=by
  have:∀ {ps:List (Key×V)} {ws:List V} {its:List Value},Paired (fun (p:Key×V) (v:V)=>∃ q,v = .ref q/\H q=some (.tup [kV p.1,p.2])) ps ws->Vals ws its->∃ kv:List (Key×Value),KV ps kv/\∀ (j:Nat) item p,its[j]?=some item->kv[j]?=some p->PairAt X.prog X.w s.heap item p:=by
   intro ps ws its pr
   induction pr generalizing its with
   | nil =>
    intro rv
    exact ⟨[],.nil,fun j item p e=>by cases rv; simp at e⟩
   | @cons p v ps ws hh hr ih =>
    intro rv
    obtain ⟨qa,rfl,hq⟩:=hh
    cases rv with
    | cons ru rr =>
     cases ru
     obtain ⟨kv,k1,k2⟩:=ih rr
     obtain ⟨_,it2,rv2,o,ho,hco,m,hdo⟩:=(show ObjOk X.prog X.w H s.heap qa (.tup [kV p.1,p.2]) from I.hok _ _ hq)
     obtain ⟨w1,w2,rfl,r1,r2⟩:=rv2.two
     refine ⟨(p.1,w2) :: kv,.cons ⟨rfl,r2⟩ k1,fun j item p' e1 e2 => ?_⟩
     cases j with
     | zero =>
      simp at e1 e2
      subst e1 e2
      exact ⟨qa,o,w1,m,rfl,ho,hco,hdo,zfG r1⟩
     | succ j=>exact k2 j item p' (by simpa using e1) (by simpa using e2)
  obtain ⟨kv,k1,k2⟩:=this pr rv
  exact ⟨kv,k1,fun j item p e1 e2=>k2 j item p (by simpa using e1) e2⟩
 obtain ⟨kv,k1,k2⟩:=hx
 have hkl:kv.length=its.length:=by rw [<- k1.length,hlp,<- hl]
 refine dict_pairs (I.ok.hd hc) e (by rw [List.size_toArray]; exact hkl) (by rw [List.size_toArray]; omega) k2 fun h' tk hk hd => ?_
 have rel:KV (ps.foldl (fun m p=>putK m p.1 p.2) []) (storeAll kv):=by
  have:∀ {ps:List (Key×V)} {kv:List (Key×Value)},KV ps kv->∀ {m:List (Key×V)} {mv:List (Key×Value)},KV m mv->KV (ps.foldl (fun m p=>putK m p.1 p.2) m) (kv.foldl (fun m p=>stored m p.1 p.2) mv):=by
   intro ps kv z
   induction z with
   | nil=>exact fun h=>h
   | @cons p v ps kv hh hr ih =>
    intro m mv hm
    obtain ⟨h1,h2⟩:=hh
    rw [List.foldl_cons,List.foldl_cons,<- h1]
    exact ih (hm.put p.1 h2)
  exact this k1 .nil
 have hz:(ps.foldl (fun m p=>putK m p.1 p.2) []).length<=sizeLine:=by
  rw [rel.length]
  have:=zc7 kv
  omega
 refine ⟨.ref s.heap.objs.size,_,I.laid (a:=s.heap.objs.size) (o := .dK (ps.foldl (fun m p=>putK m p.1 p.2) [])) (h':=h') (t':=tk) hk (Nat.le_refl _) (show ObjOk X.prog X.w _ _ _ (.dK _) from ⟨hz,beq_eq_false_iff_ne.mpr (Ne.symm (Nat.ne_of_lt I.big)),_,rel,hd⟩),rfl,q _ (I.hok.fresh (Nat.le_refl _))⟩
end
end L2
namespace L2
open PySem PySem.Spec PyProof.Rows
section
variable {X:Cx} {pins:List (Addr×Obj)} {σ : St} {H:Hp} {s:Shared} {h':Heap}
theorem Inv.turnedL {t':Nat} {fp:List Addr} (I:Inv X pins σ H s) (k:∀ b o,b ∉ fp->s.heap.get? b=some o->h'.get? b=some o) (hf:∀ b∈fp,FpOk X pins H b):Inv X pins σ H { s with heap:=h',toks:=t' }:=by
 have nit:∀ b u,H b=some u->b ∉ fp:=fun b u e z=>by rw [(hf b z).1] at e; cases e
 have hL:X.env.locals ∉ fp:=fun z=>(hf _ z).2.1 rfl
 refine I.step (g':=s.gens) (d':=s.drawn) (ch:=fp) (fun b hb => ?_) (fun b o _ _ hc e _=>k b o hc e) (fun b o _ _ hc e _=>⟨o.slots,k b o hc e⟩) (fun _ _ _ _ n=>n)
  (fun b o hc e=>⟨o,k b o hc e⟩) (fun _ _ e=>e) (fun _ _ _ e=>e) (fun b ps e=>⟨#[],by rw [e]; simp⟩) (fun m hm => ?_) (fun b u e => ?_) I.bare
 ·obtain ⟨f0,f1,f2,f3,f4,f5⟩:=hf b hb
  exact ⟨f3,f1,f4,f5⟩
 ·obtain ⟨o,es,ep,ho,r⟩:=hm
  exact ⟨o,es,ep,k _ o hL ho,r⟩
 ·refine (I.hok b u e).stay (fun c v hc q=>k c v ?_ q) (fun _ q=>q) fun _ _ q=>q
  rcases hc with z | z
  ·rw [z]; exact nit b u e
  ·exact nit c _ z
end
noncomputable def Ite (K:PySem.W.Frag) (a:Addr):It :=
 ⟨fun i H=>∃ xs x,SqL K H a xs/\xs[i]?=some x,fun i H x H'=>∃ q y,x = .ref q/\H q=none/\H'=upd H q (.tup [.int (i:Nat),y])/\∀ xs,SqL K H a xs->xs[i]?=some y,fun i H=>∃ xs,SqL K H a xs/\xs.length<=i⟩
theorem turn_enum {P:Program} {w:World} {K:PySem.W.Frag} {es:List Expr} {x1} {tp:Pos} (a e it:Addr) (hne:e≠it):Turn P w K (.Tuple es x1 tp) (Ite K a) [e,it] e (fun i h=>(∃ old,IsEnum h e it i old)/\h.IsListIter it a i) where
 mem:=by simp
 obj:=fun i h st b hb=>by
  obtain ⟨⟨old,e1⟩,o2,e2,c2,d2⟩:=st
  have hb:b=e\/b=it:=by simpa using hb
  rcases hb with rfl | rfl
  ·exact ⟨_,e1,fun v z=>by cases z⟩
  ·exact ⟨_,e2,fun v z=>by rw [d2] at z; cases z⟩
 keep:=fun i h h' st k=>⟨let ⟨old,e1⟩:=st.1; ⟨old,k e (by simp) _ e1⟩,st.2.at fun o e=>k it (by simp) o e⟩
 item:=by
  intro X hP hw hK hc i pins s σ H E I hf st hg
  subst hP hw hK
  obtain ⟨⟨old,he⟩,st⟩:=st
  obtain ⟨xs,x,hq,hx⟩:=hg
  obtain ⟨its,rv,p,hz⟩:=I.list hq
  obtain ⟨u,hu,ru⟩:=rv.get hx
  have lte:=Heap.lt_size he
  have lti:it < s.heap.objs.size:=by obtain ⟨o,e,_⟩:=st; exact Heap.lt_size e
  refine wpAny_pyNext_enum_item he st p.isList (x:=u) (by simpa using hu) hne fun h1 he1 st1 ht1 hz1 k1 => ?_
  refine ⟨.ref s.heap.objs.size,rfl,wpAny_letOwnedTupleGo_enum (s:={ s with heap:=h1,toks:=s.toks + 1 }) he1 fun h2 he2 sb2 => ?_⟩
  have st2:h2.IsListIter it a (i + 1):=st1.extBut sb2.extBut (Ne.symm hne)
  have ht2:h2.get? s.heap.objs.size=some { cls := .type "tuple",data := .seq #[.int i s.toks,u] }:=(sb2.2 _ (Nat.ne_of_gt lte)).trans ht1
  obtain ⟨oi,ei,ci,di⟩:=id st2
  obtain ⟨oi0,ei0,ci0,di0⟩:=id st
  let oe:Obj:={ cls := .type "enumerate",dict:=none,data := .fields #[.none,.bool false,.ref it,rawInt ((i:Int) + 1),.none,u],slots := #[] }
  let hA:Heap:=(s.heap.update e fun _=>oe).update it fun _=>oi
  have g1:(s.heap.update e fun _=>oe).get? e=some oe:=Heap.get?_update_self _ he rfl
  have g2:(s.heap.update e fun _=>oe).get? it=some oi0:=by rw [Heap.get?_update_ne _ _ _ _ (Ne.symm hne)]; exact ei0
  have fr:oi.isFreed=false:=Obj.isFreed_of_fields di
  have g3:hA.get? it=some oi:=Heap.get?_update_self _ g2 fr
  have g4:hA.get? e=some oe:=by show ((s.heap.update e fun _=>oe).update it fun _=>oi).get? e=_; rw [Heap.get?_update_ne _ _ _ _ hne]; exact g1
  have g5:∀ b,b≠e->b≠it->hA.get? b=s.heap.get? b:=fun b hb hb'=>by
   show ((s.heap.update e fun _=>oe).update it fun _=>oi).get? b=_
   rw [Heap.get?_update_ne _ _ _ _ hb',Heap.get?_update_ne _ _ _ _ hb]
  have zA:hA.objs.size=s.heap.objs.size:=(Heap.size_update ..).trans (Heap.size_update ..)
  have I1:Inv X pins σ H { s with heap:=hA,toks:=s.toks + 1 }:=I.turnedL (t':=s.toks + 1) (fun b o hb e'=>by
   have:b≠e/\b≠it:=by simpa using hb
   rw [g5 b this.1 this.2]; exact e') hf
  have hq0:H s.heap.objs.size=none:=I.hok.fresh (Nat.le_refl _)
  have I2:Inv X pins σ (upd H s.heap.objs.size (.tup [.int (i:Nat),x])) { s with heap:=h2,toks:=s.toks + 1 }:=by
   have:=Inv.laid (o := .tup [.int (i:Nat),x]) (a:=s.heap.objs.size) (h':=h2) (t':=s.toks + 1) I1 (fun b o e' => ?_) (by show hA.objs.size<=_; rw [zA]; exact Nat.le_refl _) (show ObjOk X.prog X.w _ _ _ (.tup [.int (i:Nat),x]) from ⟨show 2<=sizeLine from by decide,[.int i s.toks,u],.cons ⟨_,rfl⟩ (.cons ru .nil),_,ht2,rfl,_,rfl⟩)
   ·exact this
   ·by_cases b1:b=e
    ·subst b1
     rw [g4] at e'
     cases e'
     exact he2
    ·by_cases b2:b=it
     ·subst b2
      rw [g3] at e'
      cases e'
      exact ei
     ·rw [g5 b b1 b2] at e'
      exact (sb2.2 b b1).trans (k1 b o b1 b2 e')
  refine ⟨.ref s.heap.objs.size,_,I2,rfl,⟨_,x,rfl,hq0,rfl,fun ys hy=>by rw [I.list_inj hy hq]; exact hx⟩,⟨⟨u,by simpa using he2⟩,st2⟩,fun b hb => ?_⟩
  have hb:b=e\/b=it:=by simpa using hb
  have hlt:b≠s.heap.objs.size:=by
   rcases hb with rfl | rfl
   ·exact Nat.ne_of_lt lte
   ·exact Nat.ne_of_lt lti
  rw [zai hlt]
  exact (hf b (by simpa using hb)).1
 done:=by
  intro X hP hw hK hc i pins s σ H E I hf st hg
  subst hP hw hK
  obtain ⟨⟨old,he⟩,st⟩:=st
  obtain ⟨xs,hq,hx⟩:=hg
  obtain ⟨its,rv,p,hz⟩:=I.list hq
  have hl:=rv.length
  obtain ⟨f0,f1,f2,f3,f4,f5⟩:=hf it (by simp)
  exact wpAny_pyNext_enum_end (I.ok.hd hc) he st p.isList (by simp; omega) fun h' eb=>⟨rfl,I.turned (t':=s.toks) (fun b o hb e=>eb b o hb e) f0 f1 f3 f4 f5⟩
 self:=fun _ _ _ _ _ st h=>let ⟨_,e1⟩:=st.1; wpAny_pyIter_enum e1 h
noncomputable def iEnum (K:PySem.W.Frag) (ta:TA):TI:=fun σ H R=>ta σ H fun vs H1=>∃ a,vs = [.ref a]/\(∃ xs,SqL K H1 a xs)/\R (Ite K a) H1
theorem boot_enum:bootBuiltins "enumerate" = some (.type "enumerate"):=by decide +kernel
theorem pi_enum {X:Cx} {a:Expr} {ta:TA} {p pos:Pos} {es:List Expr} {x1} {tp:Pos} (hg:Gl X "enumerate") (hm:X.mg "enumerate" = none) (ha:PA X [a] ta) (hs:starEach [a] X.env = [(false,eval a X.env)]:=by rfl):PI X (.Tuple es x1 tp) (.Call (.Name "enumerate" p) [a] [] pos) (iEnum X.K ta):=by
 intro pins s σ H R I h
 refine Call_ (zdm I hg hm boot_enum (PyProof.Rows.callWith_type1 (thn (ha pos pins s σ H _ I h) fun us s1 ⟨vs,H1,I1,r1,q1⟩ => ?_) hs rfl))
 obtain ⟨a,e,⟨xs,hq⟩,q⟩:=q1
 subst e
 obtain ⟨u,rfl,ru⟩:=zbJ r1
 cases ru
 obtain ⟨its,rv,pl,hz⟩:=I1.list hq
 refine call_enumerate_list pl.isList fun h' he st hz' k => ?_
 refine wpAny_pyIter_enum (s:={ s1 with heap:=h' }) he ?_
 have I2:Inv X pins σ H1 { s1 with heap:=h' }:=I1.kept (t':=s1.toks) k
 refine ⟨_,[s1.heap.objs.size + 1,s1.heap.objs.size],_,_,H1,rfl,I2,turn_enum a _ _ (by show s1.heap.objs.size + 1≠s1.heap.objs.size; omega),⟨⟨_,he⟩,st⟩,fun b hb => ?_,q⟩
 have hb:b=s1.heap.objs.size + 1\/b=s1.heap.objs.size:=by simpa using hb
 have hle:s1.heap.objs.size<=b:=by rcases hb with rfl | rfl; exact Nat.le_succ _; exact Nat.le_refl _
 exact I1.fpOk hle (I1.hok.fresh hle)
theorem comp_e2 {K:PySem.W.Frag} {a:Addr} {L:List V} {tf:TT} {te:TE} {D:Addr} {σ0 capv:St} {H1:Hp} {Q:VK} (hσ : σ0=none :: none :: capv) (ha:H1 a=some (.lst L)) (hL:L.length<=sizeLine) (hD:H1 D=none) (p:Nat->Bool) (Rel:Hp->Nat->V->Prop)
  (hm:∀ H H' i v,Same H H'->Rel H i v->Rel H' i v) (hw:∀ H i v l l',v ≠ .ref D->H D=some (.lst l)->Rel H i v->Rel (upd H D (.lst l')) i v)
  (ht:∀ (i:Nat) x,L[i]?=some x->∀ H R,Same H1 H->(∀ H',Same H H'->R (p i) H')->tf (some (.int (i:Nat)) :: some x :: capv) H R)
  (he:∀ (i:Nat) x,L[i]?=some x->p i=true->∀ H R,Same H1 H->H D≠none->(∀ H' v,Same H H'->v ≠ .ref D->Rel H' i v->R v H')->te (some (.int (i:Nat)) :: some x :: capv) H R)
  (hd:∀ H ys,Same H1 H->H D=some (.lst ys)->Paired (fun i y=>y ≠ .ref D/\Rel H i y) ((List.range L.length).filter p) ys->Q (.ref D) H) :
  CompW (Ite K a) D σ0 H1 (gTup K 2 (gCons (gName 0) (gCons (gName 1) gNil))) tf te Q:=by
 subst hσ
 refine ⟨fun i m σ H=>m=L.length - i/\i<=L.length/\(∃ o1 o2,σ = o1 :: o2 :: capv)/\Same H1 H/\∃ xs,H D=some (.lst xs)/\Paired (fun i y=>y ≠ .ref D/\Rel H i y) ((List.range i).filter p) xs,⟨L.length,by simp,Nat.zero_le _,⟨none,none,rfl⟩,Same.new hD,[],zad,.nil⟩,?_⟩
 rintro i m σ H ⟨rfl,hi,⟨o1,o2,rfl⟩,s,xs,e,hr⟩
 by_cases hlt:i < L.length
 ·refine .inr ⟨⟨L,L[i],SqL.of (s _ _ ha),by simp [hlt]⟩,?_⟩
  rintro x H2 ⟨q,y,rfl,hq,rfl,hy⟩
  have hy:L[i]?=some y:=hy L (SqL.of (s _ _ ha))
  have sq:Same H (upd H q (.tup [.int (i:Nat),y])):=Same.new hq
  refine ⟨q,_,rfl,SqT.of zad,rfl,_,_,rfl,_,_,rfl,rfl,?_⟩
  have e:=sq _ _ e
  have hr:Paired (fun i y=>y ≠ .ref D/\Rel (upd H q (.tup [.int (i:Nat),y])) i y) ((List.range i).filter p) xs->True:=fun _=>trivial
  have hr:=Paired.mapP ‹Paired (fun i y=>y≠V.ref D/\Rel H i y) ((List.range i).filter p) xs› fun j z w=>(⟨w.1,hm _ _ _ _ sq w.2⟩:z≠V.ref D/\Rel (upd H q (.tup [.int (i:Nat),y])) j z)
  have s:=s.trans sq
  generalize upd H q (.tup [.int (i:Nat),y])=H3 at e hr s
  refine ht i y hy H3 _ s fun H' s' => ?_
  have hxl:xs.length<=i:=by
   rw [<- Paired.length hr]
   exact Nat.le_trans (List.length_filter_le _ _) (by rw [List.length_range]; omega)
  have efil:(List.range (i + 1)).filter p=(List.range i).filter p ++ if p i=true then [i] else []:=by
   rw [List.range_succ,List.filter_append]
   congr 1
   rw [List.filter_cons,List.filter_nil]
  cases hp:p i with
  | true =>
   rw [if_pos rfl]
   refine he i y hy hp H' _ (s.trans s') (by rw [s' _ _ e]; exact nofun) fun H4 v s2 hv rv => ?_
   have e2:=s2 _ _ (s' _ _ e)
   refine ⟨xs,e2,by omega,L.length - (i + 1),by omega,rfl,hlt,⟨_,_,rfl⟩,((s.trans s').trans s2).put hD,_,zad,?_⟩
   rw [efil,if_pos hp]
   exact Paired.snoc (Paired.mapP hr fun j y z=>⟨z.1,hw _ _ _ _ _ z.1 e2 (hm _ _ _ _ (s'.trans s2) z.2)⟩) ⟨hv,hw _ _ _ _ _ hv e2 rv⟩
  | false =>
   rw [if_neg Bool.false_ne_true]
   refine ⟨L.length - (i + 1),by omega,rfl,hlt,⟨_,_,rfl⟩,s.trans s',xs,s' _ _ e,?_⟩
   rw [efil,if_neg (by rw [hp]; exact Bool.false_ne_true),List.append_nil]
   exact Paired.mapP hr fun j y z=>⟨z.1,hm _ _ _ _ s' z.2⟩
 ·have hie:i=L.length:=by omega
  subst hie
  exact .inl ⟨⟨L,SqL.of (s _ _ ha),Nat.le_refl _⟩,hd H xs s e hr⟩
theorem zfY {κ : Type} [DecidableEq κ]:∀ (ps:List (κ × V)) (m:List (κ × V)),((m ++ ps).map (·.1)).Nodup->ps.foldl (fun m p=>putK m p.1 p.2) m=m ++ ps
 | [],m,_=>by simp
 | p :: ps,m,nd=>by
  have hno:valV m p.1=none:=by
   rw [<- Option.isNone_iff_eq_none,<- Bool.not_eq_false]
   intro z
   have h1:(valV m p.1).isSome=true:=by
    cases e:valV m p.1 with
    | none=>rw [e] at z; cases z
    | some _=>rfl
   rw [<- zbu] at h1
   obtain ⟨kv,hkv,e⟩:=List.any_eq_true.mp h1
   rw [List.map_append,List.nodup_append] at nd
   exact nd.2.2 kv.1 (List.mem_map.mpr ⟨kv,hkv,rfl⟩) p.1 (by simp) (of_decide_eq_true e)
  rw [List.foldl_cons,zfu _ hno,zfY ps (m ++ [(p.1,p.2)]) (by simpa using nd)]
  simp
noncomputable def layK (nm:Nat->Str) (n:Nat):List (Key×V):=(laid nm n).map fun (j:Nat)=>((Sum.inl (j:Int):Key),V.str (nm j))
theorem layK_all (nm:Nat->Str) (n:Nat):(layK nm n).foldl (fun m p=>putK m p.1 p.2) []=layK nm n:=by
 refine zfY _ [] ?_
 rw [List.nil_append]
 unfold layK
 rw [List.map_map,List.nodup_iff_pairwise_ne,List.pairwise_map]
 exact (zgc nm n).imp fun {a b} h z=>by
  have z:(Sum.inl (a:Int):Key)=Sum.inl (b:Int):=z
  injection z with z
  omega
theorem zfA (nm:Nat->Str) (n:Nat) (x:Int):valV (layK nm n) (Sum.inl x)=if 0<=x/\x.toNat < n/\nm x.toNat≠Str.ofString "" then some (.str (nm x.toNat)) else none:=by
 unfold valV layK
 rw [List.find?_map]
 by_cases h:0<=x/\x.toNat < n/\nm x.toNat≠Str.ofString ""
 ·rw [if_pos h]
  have hm:x.toNat∈laid nm n:=List.mem_filter.mpr ⟨List.mem_range.mpr h.2.1,decide_eq_true h.2.2⟩
  cases hf:(laid nm n).find? ((fun kv:Key×V=>decide (kv.1=Sum.inl x)) ∘ fun (j:Nat)=>((Sum.inl (j:Int):Key),V.str (nm j))) with
  | none =>
   have:=List.find?_eq_none.mp hf _ hm
   exact absurd (decide_eq_true (by show (Sum.inl ((x.toNat:Nat):Int):Key)=Sum.inl x; rw [show ((x.toNat:Nat):Int)=x by omega])) this
  | some j =>
   have:=List.find?_some hf
   have e:(Sum.inl (j:Int):Key)=Sum.inl x:=of_decide_eq_true this
   injection e with e
   rw [Option.map_some,Option.map_some]
   show some (V.str (nm j))=_
   rw [show j=x.toNat by omega]
 ·rw [if_neg h]
  cases hf:(laid nm n).find? ((fun kv:Key×V=>decide (kv.1=Sum.inl x)) ∘ fun (j:Nat)=>((Sum.inl (j:Int):Key),V.str (nm j))) with
  | none=>rfl
  | some j =>
   exfalso
   have:=List.find?_some hf
   have e:(Sum.inl (j:Int):Key)=Sum.inl x:=of_decide_eq_true this
   injection e with e
   obtain ⟨h1,h2⟩:=List.mem_filter.mp (List.mem_of_find?_eq_some hf)
   exact h ⟨by omega,by rw [show x.toNat=j by omega]; exact List.mem_range.mp h1,by rw [show x.toNat=j by omega]; exact of_decide_eq_true h2⟩
theorem layK_pairs {H:Hp} {ws:List V} {nm:Nat->Str} {n:Nat} (r:LaysR H ws nm n):Paired (fun (p:Key×V) (v:V)=>∃ q,v = .ref q/\H q=some (.tup [kV p.1,p.2])) (layK nm n) ws:=by
 have:∀ {l:List Nat} {ws:List V},Paired (fun (j:Nat) (v:V)=>∃ q,v = .ref q/\H q=some (.tup [.int (j:Int),.str (nm j)])) l ws->Paired (fun (p:Key×V) (v:V)=>∃ q,v = .ref q/\H q=some (.tup [kV p.1,p.2])) (l.map fun (j:Nat)=>((Sum.inl (j:Int):Key),V.str (nm j))) ws:=by
  intro l ws z
  induction z with
  | nil=>exact .nil
  | cons h _ ih=>exact .cons h ih
 exact this r
end L2
namespace L2
open PySem PySem.Spec PyProof.Rows
theorem zfN {P:Nat->Bool}:∀ {n:Nat},sumR n (fun t=>ind (P t))=1->∃ t,t < n/\P t=true/\∀ u,u < n->P u=true->u=t
 | 0,h=>by simp [sumR_zero] at h
 | n + 1,h=>by
  rw [zc5] at h
  cases e:P n with
  | true =>
   rw [e] at h
   have h0:sumR n (fun t=>ind (P t))=0:=by simpa [ind] using h
   refine ⟨n,by omega,e,fun u hu pu => ?_⟩
   rcases Nat.lt_or_ge u n with z | z
   ·exfalso
    have:∀ m,u < m->1<=sumR m (fun t=>ind (P t)):=by
     intro m
     induction m with
     | zero=>intro z; omega
     | succ m ih =>
      intro z
      rw [zc5]
      by_cases e2:u=m
      ·subst e2; rw [pu]; simp [ind]
      ·have:=ih (by omega); omega
    have:=this n z
    omega
   ·omega
  | false =>
   rw [e] at h
   obtain ⟨t,h1,h2,h3⟩:=zfN (P:=P) (n:=n) (by simpa [ind] using h)
   refine ⟨t,by omega,h2,fun u hu pu => ?_⟩
   rcases Nat.lt_or_ge u n with z | z
   ·exact h3 u z pu
   ·rw [show u=n by omega,e] at pu; cases pu
theorem zgX {C:Combs} (ne:∀ c∈C,c.1≠Str.ofString "") {x:Str} {t:Int} (h:t∈tkOf C x):x≠Str.ofString "" := fun z=>by
 unfold tkOf at h
 rw [z,get_none.mpr fun z=>by obtain ⟨c,hc,e⟩:=List.mem_map.mp z; exact ne c hc e] at h
 cases h
theorem bits_of_lay {ns:List Int} (h:PySem.W.WData.layableAll [.list (ns.map .int)]=true):∀ n∈ns,Builtin.Int.intBits n<=2 ^ 20:=by
 have h1:PySem.W.WData.layable (.list (ns.map .int))=true:=by simpa [PySem.W.WData.layableAll] using h
 have h2:PySem.W.WData.weight (.list (ns.map .int))<=2 ^ 20:=by
  unfold PySem.W.WData.layable at h1
  rw [Bool.and_eq_true,decide_eq_true_eq] at h1
  exact h1.2
 have h3:PySem.W.WData.weightAll (ns.map .int)<=2 ^ 20:=by simpa [PySem.W.WData.weight] using h2
 have:∀ (ns:List Int) (n:Int),n∈ns->Builtin.Int.intBits n<=PySem.W.WData.weightAll (ns.map .int):=by
  intro ns
  induction ns with
  | nil=>intro n hn; cases hn
  | cons m ns ih =>
   intro n hn
   rw [List.map_cons,PySem.W.WData.weightAll]
   rcases List.mem_cons.mp hn with rfl | hn
   ·have:Builtin.Int.intBits n=PySem.W.WData.weight (.int n):=by simp [PySem.W.WData.weight,Builtin.Int.intBits]
    omega
   ·have:=ih n hn
    omega
 exact fun n hn=>Nat.le_trans (this ns n hn) h3
end L2
namespace Att
open PySem PySem.W PySem.Calls PyProof.Rows
theorem attach_callB {l:OpenLaw} {n:Nat} {q:Program} {loose:List Str} {XP:(Str->Option Value)->Heap->Prop} {YP:World->Heap->Prop} {d:DefRec}
  (hn:l.most=some n) (hdf:d.params.defaults = [])
  (call:∀ (w:World) (s₀ s₁ : Shared) (mg mb:Str->Option Value) (fa:Addr) (o:Obj) (pm cd doc:Value) (a:Addr) (vs:List Value) (ns:List Int),
   Ground q loose [] XP w s₀ mg mb s₁.heap->YP w s₁.heap ->
   s₁.heap.get? fa=some o->o.data = .func (docDef d.name d.params d.body d.scope pm cd doc)->s₁.heap.CodeRec cd d.name->mg d.name=some (.ref fa) ->
   s₁.heap.get? a=some { cls := .type "list",data := .seq vs.toArray }->IntsAre vs ns->ns.length<=n->(∀ m∈ns,Builtin.Int.intBits m<=2 ^ 20)->s₁.gens = #[] ->
   codeAny (model l.prog w) callerA (.call (.ref fa) ⟨[.ref a],[]⟩) (fun r s'=>r = .ok (.ret (.bool true))/\OldK s₁.heap s'.heap/\s'.os=s₁.os/\AllBare s'.gens) s₁) :
  WalkO q loose XP YP l.row.toRowW d [] (fun f vs=>PySem.call f vs):=by
 intro w s₀ s₁ mg mb G Y fa o pm cd doc dV kV ho hd hcd hD hmg hg args vals as hpre hlay hrd hwl hlo
 obtain rfl:dV = .none:=Dflts.none hD hdf
 obtain rfl:kV = .none:=Dflts.noKw hD
 obtain ⟨a,vs,ns,rfl,rfl,hobj,hints,hlen⟩:=script_of hn hpre hwl
 refine enter_call (codeAny_mono (call w s₀ s₁ mg mb fa o pm cd doc a vs ns G Y ho (fd_plain hd) hcd hmg hobj hints hlen (L2.bits_of_lay hlay) hg) fun r s' hq => ?_)
 obtain ⟨rfl,h2,h3,h4⟩:=hq
 exact ⟨.inl ⟨.bool true,.bool true,[],rfl,fun _=>rfl,.bool true,post_true l _,fun _=>⟨List.Pairwise.nil,fun _ hm=>(nomatch hm)⟩⟩,h2,h3,h4⟩
end Att
namespace L2
open PySem PySem.Spec PyProof.Rows
theorem walk_ofB {l:PySem.W.OpenLaw} {n k:Nat} {q:Program} {loose:List Str} {XP:(Str->Option Value)->Heap->Prop} {YP:World->Heap->Prop} {d:DefRec} {K:Params->PySem.W.Frag} {CX:World->CXT} {sp:World->Sp} {x:Str}
  (hn:l.most=some n) (hn2:n<=sizeLine) (hdf:d.params.defaults = []) (hr:Room k callerA)
  (hY:∀ (w:World) (h:Heap),YP w h->(K w.params).In h)
  (F:∀ (w:World) (mg:Str->Option Value) (fa:Addr) (h:Heap),(K w.params).In h->h.Ns mainGlobals mg->mg d.name=some (.ref fa) ->
   ∃ fd:FuncData,(∀ (s:Shared) (u:Value),BindsTo s fd ⟨[u],[]⟩ [(x,u)]) /\
    ∀ base:Heap,(K w.params).In base->base.Ns mainGlobals mg->FnOk l.prog w (K w.params) mg base (CX w) k fa fd [x] (sp w))
  (hsp:∀ (w:World) (H:Hp) (a:Addr) (ns:List Int),ns.length<=n->(∀ m∈ns,Builtin.Int.intBits m<=2 ^ 20)->Only H->SqL (K w.params) H a (ns.map V.int)->sp w [.ref a] H (fun v _=>v = .bl true) fun _ _ _=>False)
  (hCX:∀ (w:World) (H:Hp) (s:Shared) (e:Value) (s':Shared),CX w [] H s (fun _ _ _=>False) e s'->False) :
  PySem.W.WalkO q loose XP YP l.row.toRowW d [] (fun f vs=>PySem.call f vs):=by
 refine Att.attach_callB hn hdf fun w s₀ s₁ mg mb fa o pm cd doc a vs ns G Y ho hd hcd hmg hobj hints hlen hbits hg => ?_
 have KX:=hY w _ Y
 obtain ⟨fd,hb,hF⟩:=F w mg fa _ KX G.T.g hmg
 exact law_call KX G.T.g G.T.b G.T.builtins G.T.nolimit hg hobj hints (Nat.le_trans hlen hn2) hr hF hb (fun H hO hS=>hsp w H a ns hlen hbits hO hS) fun H e s'=>hCX w H s₁ e s'
noncomputable def spLawB (K:PySem.W.Frag):Sp:=fun vs H Q _=>∃ (a:Addr) (ns:List Int),vs = [.ref a]/\SqL K H a (ns.map V.int)/\ns.length<=63/\(∀ m∈ns,Builtin.Int.intBits m<=2 ^ 20)/\∀ H',Q (.bl true) H'
section
variable {X:Cx}
theorem zeX:OpR X (binaryOp .Mult) (rI IntMulOk fun i j => .int (i * j)):=opI fun _ _ _ _ _ _ _ hc q=>mul_int q hc
noncomputable def rInD (K:PySem.W.Frag) (neg:Bool):R2:=fun x y H Q=>∃ d es,VD K H x d/\VD K H y (.list es)/\d.canLay0=true/\PyData.canLayAll0 es=true/\d.depth<=50/\Q (.bl (if neg then !es.any (fun e=>PyData.eqv e d) else es.any fun e=>PyData.eqv e d)) H
theorem op_notInD (hu:X.A.units + 64 < cLine):OpR X (compareOp .NotIn) (rInD X.K true):=by
 intro pins s σ H x y v u Q I rx ry h
 obtain ⟨d,es,hd,he,c1,c2,dp,q⟩:=h
 obtain ⟨a1,r1⟩:=hd.reads I rx
 obtain ⟨a2,r2⟩:=he.reads I ry
 exact SeqAt.notIn_list_reads r2 r1 c2 c1 (by have:=Nat.min_le_right (PyData.depthAll es) d.depth; omega) ⟨.bl _,H,I,rfl,q⟩
end
theorem bits_at {ns:List Int} (h:∀ m∈ns,Builtin.Int.intBits m<=2 ^ 20) (i:Nat):Builtin.Int.intBits (ns.getD i 0)<=2 ^ 20:=by
 rw [List.getD_eq_getElem?_getD]
 cases e:ns[i]? with
 | none=>exact (by decide:Builtin.Int.intBits 0<=2 ^ 20)
 | some x=>exact h x (List.mem_of_getElem? e)
end L2
namespace L2
open PySem PySem.Spec PyProof.Rows
theorem Walk.sum {al ta:Nat->Nat->Bool} (W:Walk al ta) (p:Nat):∀ i,sumR i (fun j=>ind (decide (j<=p) && ta j (p - j)))=ov al i p
 | 0=>by rw [W.zero]; rfl
 | i + 1=>by
  rw [zc5,Walk.sum W p i,W.step]
  by_cases h:i<=p
  ·rw [if_pos h,decide_eq_true h,Bool.true_and]
  ·rw [if_neg h,decide_eq_false h,Bool.false_and]; rfl
theorem Walk.over {al ta:Nat->Nat->Bool} (W:Walk al ta) (p:Nat):∃ t,t < 8/\t<=p/\ta (p - t) t=true/\∀ u,u<=p->ta (p - u) u=true->u=t:=by
 obtain ⟨j,h1,h2,h3⟩:=zfN (P:=fun j=>decide (j<=p) && ta j (p - j)) (n:=p + 1) (by rw [Walk.sum W p]; unfold ov; rw [if_pos (by omega)])
 rw [Bool.and_eq_true,decide_eq_true_eq] at h2
 obtain ⟨ha,hb⟩:=h2
 refine ⟨p - j,?_,by omega,by rw [show p - (p - j)=j by omega]; exact hb,fun u hu he => ?_⟩
 ·exact Decidable.byContradiction fun z=>by rw [W.ta8 j (p - j) (by omega)] at hb; cases hb
 ·have:=h3 (p - u) (by omega) (by show (decide (p - u<=p) && ta (p - u) (p - (p - u)))=true; rw [show p - (p - u)=u by omega,he,decide_eq_true (by omega)]; rfl)
  omega
theorem zdA {C:Combs} (g:GC C) (nd:(C.map (·.1)).Nodup) (ne:∀ c∈C,c.1≠Str.ofString "") {row:List Bool} (hr:nxtRow C row=row) (ht:tr row 0=true) {x:Int} (hx:0<=x) :
  ∃ t:Nat,t < 8/\(t:Int)<=x/\(t:Int)∈tkOf C (wn C row 0 (x - (t:Int)).toNat)/\∀ u:Nat,u < 8->(u:Int)<=x->(u:Int)∈tkOf C (wn C row 0 (x - (u:Int)).toNat)->u=t:=by
 obtain ⟨t,h1,h2,h3,h4⟩:=(zfH g nd ne hr ht).over x.toNat
 refine ⟨t,h1,by omega,?_,fun u _ hu hm=>h4 u (by omega) (decide_eq_true ?_)⟩
 ·have:=of_decide_eq_true h3
  rw [show (x - (t:Int)).toNat=x.toNat - t by omega]
  exact this
 ·rw [show (x - (u:Int)).toNat=x.toNat - u by omega] at hm
  exact hm
noncomputable def homeS (st sp:Nat) (y:Int):Int:=if y < (st:Int) then y else (st:Int) + (y - (st:Int)) % (sp:Int)
theorem zeZ {C:Combs} {row:List Bool} {st n:Nat} (h:wk C row 0 n=wk C row 0 st) (hst:st < n) {y:Int} (hy:0<=y):0<=homeS st (n - st) y/\(homeS st (n - st) y).toNat < n/\wn C row 0 (homeS st (n - st) y).toNat=wn C row 0 y.toNat:=by
 unfold homeS
 by_cases c:y < (st:Int)
 ·rw [if_pos c]; exact ⟨hy,by omega,rfl⟩
 ·rw [if_neg c]
  have psp:(0:Int) < ((n - st:Nat):Int):=by omega
  have m0:=Int.emod_nonneg (y - (st:Int)) (show ((n - st:Nat):Int)≠0 by omega)
  have m1:=Int.emod_lt_of_pos (y - (st:Int)) psp
  refine ⟨by omega,by omega,?_⟩
  have hd:(y - (st:Int))=(y - (st:Int)) % ((n - st:Nat):Int) + ((n - st:Nat):Int) * ((y - (st:Int)) / ((n - st:Nat):Int)):=(Int.emod_add_mul_ediv _ _).symm
  have q0:0<=(y - (st:Int)) / ((n - st:Nat):Int):=Int.ediv_nonneg (by omega) (by omega)
  obtain ⟨k,hk⟩:=Int.eq_ofNat_of_zero_le q0
  rw [hk] at hd
  have hw:=zgz h (Nat.le_of_lt hst) ((st:Int) + (y - (st:Int)) % ((n - st:Nat):Int)).toNat (by omega) k
  rw [<- hw]
  congr 1
  have:((n - st:Nat):Int) * ((k:Nat):Int)=((k * (n - st):Nat):Int):=by rw [Int.mul_comm]; push_cast; rfl
  rw [this] at hd
  omega
theorem home_neg {st sp:Nat} {y:Int} (h:y < 0):homeS st sp y < 0:=by
 unfold homeS
 rw [if_pos (by omega)]
 exact h
end L2
namespace L2
open PySem PySem.Spec PyProof.Rows
noncomputable def hit (C:Combs) (x:Nat×Str) (q:Nat):Bool:=decide (x.1<=q) && decide (((q - x.1:Nat):Int)∈tkOf C x.2)
end L2
set_option maxHeartbeats 4000000
namespace K29
open PySem L2 PyProof.Rows
noncomputable def top (i:Nat):Stmt:=PySem.Challenge.pw_combstrip_k29_whole_strip.main.body.getD i (.Pass ⟨0,0,0,0⟩)
noncomputable abbrev s__wall:Stmt:=top 0
noncomputable abbrev s_shape_steps:Stmt:=top 26
noncomputable abbrev s_teeth_worth:Stmt:=top 27
noncomputable abbrev s_step_table:Stmt:=top 28
noncomputable abbrev s_shapes_behind:Stmt:=top 29
noncomputable abbrev s_rows_going_on:Stmt:=top 31
noncomputable abbrev s_narrow_row:Stmt:=top 32
noncomputable abbrev s_leads_on:Stmt:=top 33
noncomputable abbrev s_walk_round:Stmt:=top 34
noncomputable abbrev s_first_lasting_step:Stmt:=top 35
noncomputable abbrev s_fill_strip:Stmt:=top 37
noncomputable abbrev s_filled_strip:Stmt:=top 38
noncomputable abbrev s_rows_to_the_end:Stmt:=top 39
noncomputable abbrev s_is_name:Stmt:=top 41
noncomputable abbrev s_is_small_letter:Stmt:=top 42
noncomputable abbrev s_are_teeth:Stmt:=top 43
noncomputable abbrev s_Book___init__:Stmt:=inClass (top 45) 0
noncomputable abbrev s_Book_put:Stmt:=inClass (top 45) 1
noncomputable abbrev s_Book_drop:Stmt:=inClass (top 45) 2
noncomputable abbrev s_Book_add_tooth:Stmt:=inClass (top 45) 3
noncomputable abbrev s_Book_take_off:Stmt:=inClass (top 45) 4
noncomputable abbrev s_Book_undo:Stmt:=inClass (top 45) 5
noncomputable abbrev s_Book_deeds:Stmt:=inClass (top 45) 6
noncomputable abbrev s_Book_names:Stmt:=inClass (top 45) 7
noncomputable abbrev s_Book_teeth:Stmt:=inClass (top 45) 8
noncomputable abbrev s_Book_check_comb:Stmt:=inClass (top 45) 9
noncomputable abbrev s_Book_set_comb:Stmt:=inClass (top 45) 10
noncomputable abbrev s_Book_do_deed:Stmt:=inClass (top 45) 11
noncomputable abbrev s_comb_over_strip:Stmt:=top 47
noncomputable abbrev s_check_filled:Stmt:=top 48
noncomputable abbrev s_reaching_places:Stmt:=top 49
noncomputable abbrev s_strip_home:Stmt:=top 50
noncomputable abbrev s_laying_over:Stmt:=top 51
noncomputable abbrev s_at:Stmt:=top 53
noncomputable abbrev s_mixed:Stmt:=top 54
noncomputable abbrev s_word:Stmt:=top 55
noncomputable abbrev s_spare:Stmt:=top 56
noncomputable abbrev s_menu:Stmt:=top 57
noncomputable abbrev s_combs:Stmt:=top 58
noncomputable abbrev s_book:Stmt:=top 59
noncomputable abbrev s_unrolled:Stmt:=top 60
noncomputable abbrev s_teeth:Stmt:=top 61
noncomputable abbrev s_coversto:Stmt:=top 62
noncomputable abbrev s_whole:Stmt:=top 63
noncomputable abbrev s_laying:Stmt:=top 64
noncomputable abbrev s_layings:Stmt:=top 65
noncomputable abbrev s_stripform:Stmt:=top 66
noncomputable abbrev s_after:Stmt:=top 67
noncomputable abbrev s_goes:Stmt:=top 68
noncomputable abbrev s_number:Stmt:=top 69
noncomputable abbrev s_ahead:Stmt:=top 70
noncomputable abbrev s_numbers:Stmt:=top 71
noncomputable abbrev s_kind:Stmt:=top 72
noncomputable abbrev s_refused:Stmt:=top 73
noncomputable abbrev s_over:Stmt:=top 74
noncomputable abbrev s_shape:Stmt:=top 75
noncomputable abbrev s_far:Stmt:=top 76
noncomputable abbrev s_stuck:Stmt:=top 77
noncomputable abbrev s_law:Stmt:=top 78
section
variable {P:Program} {w:World} {K:PySem.W.Frag} {mg:Str->Option Value} {base:Heap}
noncomputable def sp_at (K:PySem.W.Frag):Sp:=fun vs H Q _=>∃ (a:Addr) (ns:List Int) (k:Int),vs = [.ref a,.int k]/\SqL K H a (ns.map V.int)/\0<=k/\Q (.int (ns.getD k.toNat 0)) H
theorem zgZ:FnScope ["_law_script","_law_k"] ["_law_script","_law_k"] (defScope s_at):=⟨rfl,rfl,rfl,by decide +kernel,rfl,by decide +kernel,by decide +kernel⟩
theorem ok_at (D:DefAt K mg "_law_at" s_at) (T:Bn mg):Callee P w K mg base "_law_at" 1 ["_law_script","_law_k"] (sp_at K):=by
 refine D.callee zgZ (fun _ _ _ _ _ _ us hl=>match us,hl with | [_,_],_=>rfl) (fun vs H Q E h => ?_) (fun f cdv A outer s H vs Q E hr h => ?_)
 ·obtain ⟨a,ns,k,rfl,_⟩:=h
  rfl
 ·obtain ⟨a,ns,k,rfl,hS,h0,q⟩:=h
  have S:=zgZ
  refine ⟨_,zae (zaG (zak zeY (pv 1) (zah zap rfl T.n_len PySem.boot_len (zaa (pv 0) zac)) (zat _))
   (zaf (zaj (zar zaM (pv 0) (pv 1) (fun _ _=>rfl))))
   (zao))
  (zaf (zaj (zab))),?_⟩
  refine ⟨_,rfl,_,rfl,_,_,rfl,.inl hS,_,_,rfl,rfl,_,rfl,?_⟩
  refine ite2 (fun hc => ?_) (fun hc => ?_)
  ·have hc:=of_decide_eq_true hc
   rw [List.length_map] at hc
   exact ⟨_,rfl,_,rfl,_,_,_,_,rfl,rfl,hS,zgU h0 hc,q⟩
  ·have hc:¬ k < (ns.length:Int):=fun z=>hc (decide_eq_true (by rw [List.length_map]; exact z))
   rw [getD_big hc] at q
   exact q
noncomputable def mixed (c k:Int):Int:=((c + 7919 * k + 1) * 48271 % 2147483647 + 104729 * k + 3) * 69621 % 2147483647
noncomputable def sp_mixed:Sp:=fun vs H Q _=>∃ (c k:Int),vs = [.int c,.int k]/\Q (.int (mixed c k)) H
theorem zfm:FnScope ["_law_cell","_law_k","_law_once"] ["_law_cell","_law_k"] (defScope s_mixed):=⟨rfl,rfl,rfl,by decide +kernel,rfl,by decide +kernel,by decide +kernel⟩
theorem ok_mixed (D:DefAt K mg "_law_mixed" s_mixed) (T:Bn mg):Callee P w K mg base "_law_mixed" 1 ["_law_cell","_law_k"] sp_mixed:=by
 refine D.callee zfm (fun _ _ _ _ _ _ us hl=>match us,hl with | [_,_],_=>rfl) (fun vs H Q E h => ?_) (fun f cdv A outer s H vs Q E hr h => ?_)
 ·obtain ⟨c,k,rfl,_⟩:=h
  rfl
 ·obtain ⟨c,k,rfl,q⟩:=h
  have S:=zfm
  refine ⟨_,zae (zau (i:=2) S.nd rfl (Or.inl rfl) (zav zbh (zav zdQ (zav zaO (zav zaO (pv 0) (zav zdQ (zab) (pv 1))) (zab)) (zab)) (zab)))
  (zaf (zaj (zav zbh (zav zdQ (zav zaO (zav zaO (pv 2) (zav zdQ (zab) (pv 1))) (zab)) (zab)) (zab)))),?_⟩
  refine ⟨_,rfl,_,rfl,_,_,rfl,rfl,.inl ⟨by decide,by decide⟩,_,_,rfl,rfl,_,_,rfl,rfl,_,_,rfl,rfl,.inr ⟨by decide,by decide⟩,_,_,rfl,rfl,by show (0:Int) < 2147483647; decide,?_⟩
  exact ⟨_,rfl,_,rfl,_,_,rfl,rfl,.inl ⟨by decide,by decide⟩,_,_,rfl,rfl,_,_,rfl,rfl,_,_,rfl,rfl,.inr ⟨by decide,by decide⟩,_,_,rfl,rfl,by show (0:Int) < 2147483647; decide,q⟩
noncomputable def sp_whole:Sp:=fun vs H Q _=>∃ (i:Int),vs = [.int i]/\Q (.bl true) H
theorem zfh:FnScope ["_law_found"] ["_law_found"] (defScope s_whole):=⟨rfl,rfl,rfl,by decide +kernel,rfl,by decide +kernel,by decide +kernel⟩
theorem ok_whole (D:DefAt K mg "_law_whole" s_whole) (T:Bn mg):Callee P w K mg base "_law_whole" 1 ["_law_found"] sp_whole:=by
 refine D.callee zfh (fun _ _ _ _ _ _ us hl=>match us,hl with | [_],_=>rfl) (fun vs H Q E h => ?_) (fun f cdv A outer s H vs Q E hr h => ?_)
 ·obtain ⟨i,rfl,_⟩:=h
  rfl
 ·obtain ⟨i,rfl,q⟩:=h
  have S:=zfh
  refine ⟨_,zaf (zaj (zcQ (zah (zbf "int") rfl T.n_isinstance boot_isinstance (zaa (pv 0) (zaa (zbF (v := .ty "int") rfl T.n_int boot_int rfl) zac))) (zdP (pe_not (zah (zbf "bool") rfl T.n_isinstance boot_isinstance (zaa (pv 0) (zaa (zbF (v := .ty "bool") rfl T.n_bool boot_bool rfl) zac))))))),?_⟩
  refine ⟨_,rfl,_,_,true,rfl,.int i,rfl,_,rfl,?_⟩
  refine iteT ?_
  exact ⟨_,rfl,_,_,false,rfl,.int i,rfl,_,rfl,q⟩
noncomputable def sp_word:Sp:=fun vs H Q _=>∃ (c b:Int),vs = [.int c,.int b]/\(b=26\/b=2)/\∀ x:Str,isName x=true->Q (.str x) H
theorem zfP:FnScope ["_law_cell","_law_base","_law_word_here","_law_rest","_law_k"] ["_law_cell","_law_base"] (defScope s_word):=⟨rfl,rfl,rfl,by decide +kernel,rfl,by decide +kernel,by decide +kernel⟩
theorem ok_word (D:DefAt K mg "_law_word" s_word) (T:Bn mg):Callee P w K mg base "_law_word" 1 ["_law_cell","_law_base"] sp_word:=by
 refine D.callee zfP (fun _ _ _ _ _ _ us hl=>match us,hl with | [_,_],_=>rfl) (fun vs H Q E h => ?_) (fun f cdv A outer s H vs Q E hr h => ?_)
 ·obtain ⟨c,b,rfl,_⟩:=h
  rfl
 ·obtain ⟨c,b,rfl,hb,q⟩:=h
  have S:=zfP
  have b0:0 < b:=by omega
  have b1:b<=26:=by omega
  have m0:=Int.emod_nonneg c (show (6:Int)≠0 by decide)
  have m1:=Int.emod_lt_of_pos c p6
  refine ⟨_,zae (zau (i:=2) S.nd rfl (Or.inl rfl) (zay))
  (zae (zau (i:=3) S.nd rfl (Or.inl rfl) (zav zcb (pv 0) (zab)))
  (zae (zaZ PassesOwn.never rfl (za7 rfl T.n_range (zaa (zav zaO (zab) (zav zbh (pv 0) (zab))) zac)) (zal (i:=4) S.nd rfl (Or.inl rfl))
   (zae (zau (i:=2) S.nd rfl (Or.inl rfl) (zav op_add_str (pv 2) (zar ix_str (zay) (zav zbh (pv 3) (pv 1)) (fun _ _=>rfl))))
   (zaf (zau (i:=3) S.nd rfl (Or.inl rfl) (zav zcb (pv 3) (pv 1))))))
  (zaf (zaj (pv 2))))),?_⟩
  refine ⟨_,rfl,_,_,rfl,rfl,⟨p6,by decide⟩,?_⟩
  refine ⟨_,rfl,_,_,rfl,rfl,p6,_,_,rfl,rfl,_,rfl,?_,?_,?_⟩
  ·show -(2 ^ 62)<=1 + c % 6
   omega
  ·show 1 + c % 6 < 2 ^ 62
   omega
  refine zbG (zaK 0 (1 + c % 6).toNat) (fun i σ H'=>H'=H/\∃ (x:Str) (r:Int) (x4:Option V),σ = [some (.int c),some (.int b),some (.str x),some (.int r),x4]/\x.length=i/\x.cps.toList.all small=true) ⟨rfl,Str.ofString "",_,_,rfl,by decide,by decide⟩ (fun _ _ _ _ _=>trivial) ?_ ?_
  ·rintro i x σ H2 hx ⟨rfl,y,r,x4,rfl,hl,ha⟩
   obtain ⟨hi,rfl⟩:=zbp hx
   obtain ⟨ch,hch,hs⟩:=abc_at (k:=r % b) (Int.emod_nonneg _ (by omega)) (by have:=Int.emod_lt_of_pos r b0; omega)
   refine ⟨_,rfl,_,rfl,_,rfl,_,_,rfl,rfl,b0,_,_,_,rfl,rfl,?_,hch,_,_,rfl,rfl,?_,?_⟩
   ·show abc.length<=sizeLine
    rw [ze9]; decide
   ·rw [zec]
    exact big (by omega)
   refine ⟨_,rfl,_,rfl,_,_,rfl,rfl,⟨b0,by omega⟩,?_⟩
   refine ⟨rfl,_,_,_,rfl,by rw [len_app,hl,zec],?_⟩
   rw [app_list,List.all_append,ha]
   show (true && [ch].all small)=true
   simp [hs]
  ·rintro σ H2 ⟨rfl,y,r,x4,rfl,hl,ha⟩
   rw [List.length_map,List.length_range] at hl
   exact ⟨_,rfl,q y (zf9 (by omega) (by omega) ha)⟩
noncomputable def sp_spare (K:PySem.W.Frag):Sp:=fun vs H Q _=>∃ (x:Str) (u:Addr) (us:List Str),vs = [.str x,.ref u]/\isName x=true/\SqL K H u (us.map V.str)/\us.length<=25/\∀ y H',Same H H'->isName y=true->y ∉ us->Q (.str y) H'
noncomputable def notUsed (us:List Str) (v:V):Bool:=match v with
 | .str y => !decide (y∈us)
 | _=>false
theorem zfk:FnScope ["_law_word_here","_law_used"] ["_law_word_here","_law_used"] (defScope s_spare):=⟨rfl,rfl,rfl,by decide +kernel,rfl,by decide +kernel,by decide +kernel⟩
theorem ok_spare (D:DefAt K mg "_law_spare" s_spare) (T:Bn mg):Callee P w K mg base "_law_spare" 1 ["_law_word_here","_law_used"] (sp_spare K):=by
 refine D.callee zfk (fun _ _ _ _ _ _ us hl=>match us,hl with | [_,_],_=>rfl) (fun vs H Q E h => ?_) (fun f cdv A outer s H vs Q E hr h => ?_)
 ·obtain ⟨x,u,us,rfl,_⟩:=h
  rfl
 ·obtain ⟨x,u,us,rfl,hx,hS,hl,q⟩:=h
  have S:=zfk
  refine ⟨_,zae (zaG (zak zbB (pv 0) (pv 1) (by with_unfolding_all rfl))
   (zaf (zaj (pv 0)))
   (zao))
  (zaf (zaj (zar zaM (zaT (own := ["_law_one"]) (caps := [(1,"_law_used")]) rfl ⟨rfl,rfl,rfl,rfl,⟨⟨rfl,rfl,.inl rfl⟩,trivial⟩⟩ (zgE (zay)) (fun _ _ _ _ _ _=>zal (i:=0) (zaH (by decide +kernel)) rfl (Or.inl rfl)) (fun _ _ _ _ _ _=>zbD (zak (op_notIn_seq' K rfl) (pv 0) (pv 1) (by with_unfolding_all rfl))) (fun _ _ _ _ _ _=>pv 0)) (zab) (fun _ _=>rfl)))),?_⟩
  refine ⟨_,rfl,_,rfl,_,_,rfl,.inl hS,rfl,zeG us,_,rfl,?_⟩
  rw [if_pos rfl,zge]
  refine ite2 (fun hc => ?_) (fun hc => ?_)
  ·have h0:x ∉ us:=by simpa using hc
   exact ⟨_,rfl,q x H (Same.refl H) hx h0⟩
  ·refine ⟨_,rfl,fun D hD => ?_⟩
   refine zb9 (capv := [some (.ref u)]) (L:=abc.cps.toList.map sgn) (by rfl) (zeD abc) (by rw [List.length_map,zcF,ze9]; decide) hD ?_ (notUsed us) (fun v=>v) ?_ ?_ ?_
   ·exact fun _ _=>trivial
   ·intro v hv H' R s' h
    obtain ⟨c,hc,rfl⟩:=List.mem_map.mp hv
    refine ⟨_,rfl,_,rfl,_,_,rfl,.inl (s'.seq hS),rfl,zeG us,_,rfl,?_⟩
    rw [if_pos rfl]
    show R (!inV (V.str ⟨#[c]⟩) (us.map V.str)) H'
    rw [zge]
    exact h H' (Same.refl _)
   ·intro v hv hp H' R s' h
    exact ⟨_,rfl,h H' (Same.refl _)⟩
   ·intro H' s' e
    obtain ⟨c,hc,hn⟩:=spare_some us hl
    have hm:sgn c∈((abc.cps.toList.map sgn).filter (notUsed us)).map fun v=>v:=by
     rw [List.map_id']
     exact List.mem_filter.mpr ⟨List.mem_map.mpr ⟨c,hc,rfl⟩,by show (!decide ((⟨#[c]⟩:Str)∈us))=true; simp [hn]⟩
    have hall:∀ v∈((abc.cps.toList.map sgn).filter (notUsed us)).map fun v=>v,∃ d,v=sgn d/\small d=true/\(⟨#[d]⟩:Str) ∉ us:=fun v hv=>by
     rw [List.map_id'] at hv
     obtain ⟨h1,h2⟩:=List.mem_filter.mp hv
     obtain ⟨d,hd,rfl⟩:=List.mem_map.mp h1
     have h2:(!decide ((⟨#[d]⟩:Str)∈us))=true:=h2
     exact ⟨d,rfl,abc_small hd,by simpa using h2⟩
    generalize (((abc.cps.toList.map sgn).filter (notUsed us)).map fun v=>v)=l at e hm hall
    cases l with
    | nil=>cases hm
    | cons v l =>
     obtain ⟨d,rfl,hs,hd⟩:=hall v List.mem_cons_self
     exact ⟨_,_,_,_,rfl,rfl,SqL.of e,(show atI (sgn d :: l) ((0:Nat):Int)=some (sgn d) from zax rfl),q _ H' s' (name_one hs) hd⟩
noncomputable def Rows (H:Hp):List V->List (List Int)->Prop
 | [],[]=>True
 | v :: vs,r :: rs=>(∃ p,v = .ref p/\H p=some (.tup (r.map V.int)))/\Rows H vs rs
 | _,_=>False
theorem Rows.same {H H':Hp} (s:Same H H'):∀ {vs:List V} {rs:List (List Int)},Rows H vs rs->Rows H' vs rs
 | [],[],_=>trivial
 | _ :: _,_ :: _,⟨⟨p,e,h⟩,r⟩=>⟨⟨p,e,s _ _ h⟩,Rows.same s r⟩
 | [],_ :: _,h=>h.elim
 | _ :: _,[],h=>h.elim
theorem Rows.snoc {H:Hp} {p:Addr} {r:List Int} (h:H p=some (.tup (r.map V.int))):∀ {vs:List V} {rs:List (List Int)},Rows H vs rs->Rows H (vs ++ [.ref p]) (rs ++ [r])
 | [],[],_=>⟨⟨p,rfl,h⟩,trivial⟩
 | _ :: _,_ :: _,⟨a,b⟩=>⟨a,Rows.snoc h b⟩
 | [],_ :: _,x=>x.elim
 | _ :: _,[],x=>x.elim
theorem Rows.get {H:Hp}:∀ {vs:List V} {rs:List (List Int)} {i:Nat} {r:List Int},Rows H vs rs->rs[i]?=some r->∃ p,vs[i]?=some (.ref p)/\H p=some (.tup (r.map V.int))
 | [],[],_,_,_,e=>by simp at e
 | _ :: _,_ :: _,0,_,⟨⟨p,e,h⟩,_⟩,z=>by
  simp at z
  subst z
  exact ⟨p,by rw [e]; rfl,h⟩
 | _ :: _,_ :: _,i + 1,_,⟨_,b⟩,z=>Rows.get (i:=i) b (by simpa using z)
 | [],_ :: _,_,_,x,_=>x.elim
 | _ :: _,[],_,_,x,_=>x.elim
structure Mr (H0 H:Hp) (vs:List V) (rs:List (List Int)):Prop where
 same:Same H0 H
 rows:Rows H vs rs
theorem Mr.add {H0 H:Hp} {vs:List V} {rs:List (List Int)} (m:Mr H0 H vs rs) (r:List Int) {p:Addr} (n:H p=none):Mr H0 (upd H p (.tup (r.map V.int))) (vs ++ [.ref p]) (rs ++ [r]) :=
 ⟨m.same.put (m.same.free n),Rows.snoc zad (m.rows.same (Same.new n))⟩
theorem Mr.lstE {H0 H:Hp} {vs:List V} {rs:List (List Int)} (m:Mr H0 H vs rs) {o:HO} {p:Addr} (n:H p=none):Mr H0 (upd H p o) vs rs/\upd H p o p=some o:=⟨⟨m.same.put (m.same.free n),m.rows.same (Same.new n)⟩,zad⟩
theorem Mr.lst {H0 H:Hp} {vs:List V} {rs:List (List Int)} (m:Mr H0 H vs rs) {o:HO} {p:Addr} (n:H p=none):Mr H0 (upd H p o) vs rs:=⟨m.same.put (m.same.free n),m.rows.same (Same.new n)⟩
noncomputable def menuRows:List (List Int) := [[45],[131,133],[193,65],[71,161,99],[77,131,133],[13,49],[153,111,131],[197,131,173,53],[83,125,137,173,243],[185,193,215,87,243],[5],[175,209,67,129,21,229,49,83],[203,243,129,167,153,223,207,243],[197,147,131],[197,131,177],[31,255],[3,3],[119,225,131,109]]
noncomputable def MenuRow (xs:List Int):Prop:=(1<=xs.length/\xs.length<=8)/\∀ x∈xs,x % 2=1/\0<=x/\x < 256
theorem menu_ok {i:Nat} {r:List Int} (h:menuRows[i]?=some r):MenuRow r:=by
 have all:∀ r∈menuRows,(1<=r.length/\r.length<=8)/\∀ x∈r,x % 2=1/\0<=x/\x < 256:=by decide
 exact all r (List.mem_of_getElem? h)
noncomputable def sp_menu:Sp:=fun vs H Q _=>∃ (k:Int),vs = [.int k]/\∀ p xs H',Same H H'->H' p=some (.tup (xs.map V.int))->MenuRow xs->Q (.ref p) H'
theorem zfR:FnScope ["_law_k","_law_rows"] ["_law_k"] (defScope s_menu):=⟨rfl,rfl,rfl,by decide +kernel,rfl,by decide +kernel,by decide +kernel⟩
theorem ok_menu (D:DefAt K mg "_law_menu" s_menu) (T:Bn mg):Callee P w K mg base "_law_menu" 1 ["_law_k"] sp_menu:=by
 refine D.calleeQ zfR (fun _ _ _ _ _ _ us hl=>match us,hl with | [_],_=>rfl) (fun vs H Q E h => ?_) (fun f cdv A outer s H vs Q E hr h => ?_)
 ·obtain ⟨k,rfl,_⟩:=h
  rfl
 ·obtain ⟨k,rfl,q⟩:=h
  have S:=zfR
  refine ⟨_,zaF (za9 (i:=1) S.nd rfl (Or.inl rfl) (zbl (zag (zba (zag (qe (zab)) (zaC))) (zag (zba (zag (qe (zab)) (zag (qe (zab)) (zaC)))) (zag (zba (zag (qe (zab)) (zag (qe (zab)) (zaC)))) (zag (zba (zag (qe (zab)) (zag (qe (zab)) (zag (qe (zab)) (zaC))))) (zag (zba (zag (qe (zab)) (zag (qe (zab)) (zag (qe (zab)) (zaC))))) (zag (zba (zag (qe (zab)) (zag (qe (zab)) (zaC)))) (zag (zba (zag (qe (zab)) (zag (qe (zab)) (zag (qe (zab)) (zaC))))) (zaC))))))))))
  (zaF (za9 (i:=1) S.nd rfl (Or.inl rfl) (zdu zb1 (qe (pv 1)) (zbl (zag (zba (zag (qe (zab)) (zag (qe (zab)) (zag (qe (zab)) (zag (qe (zab)) (zaC)))))) (zag (zba (zag (qe (zab)) (zag (qe (zab)) (zag (qe (zab)) (zag (qe (zab)) (zag (qe (zab)) (zaC))))))) (zag (zba (zag (qe (zab)) (zag (qe (zab)) (zag (qe (zab)) (zag (qe (zab)) (zag (qe (zab)) (zaC))))))) (zag (zba (zag (qe (zab)) (zaC))) (zaC))))))))
  (zaF (za9 (i:=1) S.nd rfl (Or.inl rfl) (zdu zb1 (qe (pv 1)) (zbl (zag (zba (zag (qe (zab)) (zag (qe (zab)) (zag (qe (zab)) (zag (qe (zab)) (zag (qe (zab)) (zag (qe (zab)) (zag (qe (zab)) (zag (qe (zab)) (zaC)))))))))) (zag (zba (zag (qe (zab)) (zag (qe (zab)) (zag (qe (zab)) (zag (qe (zab)) (zag (qe (zab)) (zag (qe (zab)) (zag (qe (zab)) (zag (qe (zab)) (zaC)))))))))) (zaC))))))
  (zaF (za9 (i:=1) S.nd rfl (Or.inl rfl) (zdu zb1 (qe (pv 1)) (zbl (zag (zba (zag (qe (zab)) (zag (qe (zab)) (zag (qe (zab)) (zaC))))) (zag (zba (zag (qe (zab)) (zag (qe (zab)) (zag (qe (zab)) (zaC))))) (zag (zba (zag (qe (zab)) (zag (qe (zab)) (zaC)))) (zag (zba (zag (qe (zab)) (zag (qe (zab)) (zaC)))) (zag (zba (zag (qe (zab)) (zag (qe (zab)) (zag (qe (zab)) (zag (qe (zab)) (zaC)))))) (zaC)))))))))
  (zeS (zfW (qe (zar zaM (pv 1) (zav zbh (pv 0) (zah zap rfl T.n_len PySem.boot_len (zaa (pv 1) zac))) (fun _ _=>rfl)))))))),?_⟩
  have M:Mr H H [] []:=⟨Same.refl H,trivial⟩
  refine ⟨bigr rfl,fun a1 na => ?_⟩
  replace M:=M.add [45] na
  clear na
  refine ⟨bigr rfl,fun a2 na => ?_⟩
  replace M:=M.add [131,133] na
  clear na
  refine ⟨bigr rfl,fun a3 na => ?_⟩
  replace M:=M.add [193,65] na
  clear na
  refine ⟨bigr rfl,fun a4 na => ?_⟩
  replace M:=M.add [71,161,99] na
  clear na
  refine ⟨bigr rfl,fun a5 na => ?_⟩
  replace M:=M.add [77,131,133] na
  clear na
  refine ⟨bigr rfl,fun a6 na => ?_⟩
  replace M:=M.add [13,49] na
  clear na
  refine ⟨bigr rfl,fun a7 na => ?_⟩
  replace M:=M.add [153,111,131] na
  clear na
  refine ⟨bigr rfl,fun b0 nb => ?_⟩
  obtain ⟨M,e⟩:=M.lstE (o := .lst [V.ref a1,V.ref a2,V.ref a3,V.ref a4,V.ref a5,V.ref a6,V.ref a7]) nb
  clear nb
  refine ⟨_,rfl,?_⟩
  refine ⟨bigr rfl,fun a8 na => ?_⟩
  replace M:=M.add [197,131,173,53] na
  replace e:=zbi (o := .tup (([197,131,173,53]:List Int).map V.int)) e na
  clear na
  refine ⟨bigr rfl,fun a9 na => ?_⟩
  replace M:=M.add [83,125,137,173,243] na
  replace e:=zbi (o := .tup (([83,125,137,173,243]:List Int).map V.int)) e na
  clear na
  refine ⟨bigr rfl,fun a10 na => ?_⟩
  replace M:=M.add [185,193,215,87,243] na
  replace e:=zbi (o := .tup (([185,193,215,87,243]:List Int).map V.int)) e na
  clear na
  refine ⟨bigr rfl,fun a11 na => ?_⟩
  replace M:=M.add [5] na
  replace e:=zbi (o := .tup (([5]:List Int).map V.int)) e na
  clear na
  refine ⟨bigr rfl,fun b1 nb => ?_⟩
  obtain ⟨M,e2⟩:=M.lstE (o := .lst [V.ref a8,V.ref a9,V.ref a10,V.ref a11]) nb
  replace e:=zbi (o := .lst [V.ref a8,V.ref a9,V.ref a10,V.ref a11]) e nb
  clear nb
  refine ⟨_,_,_,_,rfl,rfl,e,e2,bigr rfl,fun c1 nc => ?_⟩
  obtain ⟨M,e⟩:=M.lstE (o := .lst [V.ref a1,V.ref a2,V.ref a3,V.ref a4,V.ref a5,V.ref a6,V.ref a7,V.ref a8,V.ref a9,V.ref a10,V.ref a11]) nc
  clear nc e2
  refine ⟨_,rfl,?_⟩
  refine ⟨bigr rfl,fun a12 na => ?_⟩
  replace M:=M.add [175,209,67,129,21,229,49,83] na
  replace e:=zbi (o := .tup (([175,209,67,129,21,229,49,83]:List Int).map V.int)) e na
  clear na
  refine ⟨bigr rfl,fun a13 na => ?_⟩
  replace M:=M.add [203,243,129,167,153,223,207,243] na
  replace e:=zbi (o := .tup (([203,243,129,167,153,223,207,243]:List Int).map V.int)) e na
  clear na
  refine ⟨bigr rfl,fun b2 nb => ?_⟩
  obtain ⟨M,e2⟩:=M.lstE (o := .lst [V.ref a12,V.ref a13]) nb
  replace e:=zbi (o := .lst [V.ref a12,V.ref a13]) e nb
  clear nb
  refine ⟨_,_,_,_,rfl,rfl,e,e2,bigr rfl,fun c2 nc => ?_⟩
  obtain ⟨M,e⟩:=M.lstE (o := .lst [V.ref a1,V.ref a2,V.ref a3,V.ref a4,V.ref a5,V.ref a6,V.ref a7,V.ref a8,V.ref a9,V.ref a10,V.ref a11,V.ref a12,V.ref a13]) nc
  clear nc e2
  refine ⟨_,rfl,?_⟩
  refine ⟨bigr rfl,fun a14 na => ?_⟩
  replace M:=M.add [197,147,131] na
  replace e:=zbi (o := .tup (([197,147,131]:List Int).map V.int)) e na
  clear na
  refine ⟨bigr rfl,fun a15 na => ?_⟩
  replace M:=M.add [197,131,177] na
  replace e:=zbi (o := .tup (([197,131,177]:List Int).map V.int)) e na
  clear na
  refine ⟨bigr rfl,fun a16 na => ?_⟩
  replace M:=M.add [31,255] na
  replace e:=zbi (o := .tup (([31,255]:List Int).map V.int)) e na
  clear na
  refine ⟨bigr rfl,fun a17 na => ?_⟩
  replace M:=M.add [3,3] na
  replace e:=zbi (o := .tup (([3,3]:List Int).map V.int)) e na
  clear na
  refine ⟨bigr rfl,fun a18 na => ?_⟩
  replace M:=M.add [119,225,131,109] na
  replace e:=zbi (o := .tup (([119,225,131,109]:List Int).map V.int)) e na
  clear na
  refine ⟨bigr rfl,fun b3 nb => ?_⟩
  obtain ⟨M,e2⟩:=M.lstE (o := .lst [V.ref a14,V.ref a15,V.ref a16,V.ref a17,V.ref a18]) nb
  replace e:=zbi (o := .lst [V.ref a14,V.ref a15,V.ref a16,V.ref a17,V.ref a18]) e nb
  clear nb
  refine ⟨_,_,_,_,rfl,rfl,e,e2,bigr rfl,fun c3 nc => ?_⟩
  obtain ⟨M,e⟩:=M.lstE (o := .lst [V.ref a1,V.ref a2,V.ref a3,V.ref a4,V.ref a5,V.ref a6,V.ref a7,V.ref a8,V.ref a9,V.ref a10,V.ref a11,V.ref a12,V.ref a13,V.ref a14,V.ref a15,V.ref a16,V.ref a17,V.ref a18]) nc
  clear nc e2
  have p18:(0:Int) < 18:=by decide
  have k0:=Int.emod_nonneg k (show (18:Int)≠0 by decide)
  have k1:=Int.emod_lt_of_pos k p18
  have hi:(k % 18).toNat < menuRows.length:=by
   show (k % 18).toNat < 18
   omega
  obtain ⟨p,hp,ht⟩:=Rows.get (rs:=menuRows) M.rows (List.getElem?_eq_getElem hi)
  have ek:(((k % 18).toNat:Nat):Int)=k % 18:=by omega
  refine ⟨_,rfl,_,rfl,_,rfl,_,_,rfl,.inl (SqL.of e),_,_,rfl,rfl,p18,_,_,_,_,rfl,rfl,SqL.of e,?_,q p _ _ M.same ht (menu_ok (List.getElem?_eq_getElem hi))⟩
  show atI _ (k % 18)=_
  rw [<- ek]
  exact zax hp
theorem p3:(0:Int) < 3:=by decide
theorem p14:(0:Int) < 14:=by decide
theorem p42:(0:Int) < 42:=by decide
theorem zgV:(0:Int) < 128:=by decide
noncomputable def manyL:List Int := [2,3,1,2,4,3,1,5,2,0,8,7,6,1]
theorem manyL_at {k:Int} (h0:0<=k) (h1:k < 14):∃ m:Int,atI (manyL.map V.int) k=some (V.int m)/\0<=m/\m<=8:=by
 refine ⟨_,zgU h0 (by show k < 14; exact h1),?_⟩
 have all:∀ x∈manyL,0<=x/\x<=8:=by decide
 refine all _ ?_
 have hk:k.toNat < manyL.length:=by show k.toNat < 14; omega
 rw [List.getD_eq_getElem?_getD,List.getElem?_eq_getElem hk]
 exact List.getElem_mem hk
theorem base_at {k:Int} (h0:0<=k) (h1:k < 2):∃ b:Int,atI [V.int 26,V.int 2] k=some (V.int b)/\(b=26\/b=2):=by
 rcases (by omega:k=0\/k=1) with h | h <;> subst h
 ·exact ⟨26,rfl,.inl rfl⟩
 ·exact ⟨2,rfl,.inr rfl⟩
noncomputable def bitOf (b:Int) (v:V):Bool:=match v with
 | .int t=>decide (Builtin.bitAnd (b / 2 ^ t.toNat) 1=1)
 | _=>false
noncomputable def sp_combs (K:PySem.W.Frag):Sp:=fun vs H Q _=>∃ (a:Addr) (ns:List Int),vs = [.ref a]/\SqL K H a (ns.map V.int)/\∀ p ks vs H',Same H H'->H p=none->H' p=some (.lst vs)->Drawn (fun _=>True) H' vs ks->ks.length<=8->Q (.ref p) H'
theorem zfn:FnScope ["_law_script","_law_head","_law_menu_here","_law_many","_law_found","_law_used","_law_k","_law_cell","_law_bits","_law_word_here"] ["_law_script"] (defScope s_combs):=⟨rfl,rfl,rfl,by decide +kernel,rfl,by decide +kernel,by decide +kernel⟩
theorem ok_combs (D:DefAt K mg "_law_combs" s_combs) (T:Bn mg) (C_at:Callee P w K mg base "_law_at" 1 ["_law_script","_law_k"] (sp_at K)) (C_mixed:Callee P w K mg base "_law_mixed" 1 ["_law_cell","_law_k"] sp_mixed) (C_word:Callee P w K mg base "_law_word" 1 ["_law_cell","_law_base"] sp_word)
  (C_spare:Callee P w K mg base "_law_spare" 1 ["_law_word_here","_law_used"] (sp_spare K)) (C_menu:Callee P w K mg base "_law_menu" 1 ["_law_k"] sp_menu):Callee P w K mg base "_law_combs" 2 ["_law_script"] (sp_combs K):=by
 refine D.calleeQ zfn (fun _ _ _ _ _ _ us hl=>match us,hl with | [_],_=>rfl) (fun vs H Q E h => ?_) (fun f cdv A outer s H vs Q E hr h => ?_)
 ·obtain ⟨a,ns,rfl,_⟩:=h
  rfl
 ·obtain ⟨a,ns,rfl,hS,q⟩:=h
  have S:=zfn
  refine ⟨_,zaF (za9 (i:=1) S.nd rfl (Or.inl rfl) (qe (zaA C_at (hr.mono (by decide)) rfl (zaa (pv 0) (zaa (zab) zac)))))
  (zaF (za9 (i:=2) S.nd rfl (Or.inl rfl) (qe (zaA C_menu (hr.mono (by decide)) rfl (zaa (zaA C_at (hr.mono (by decide)) rfl (zaa (pv 0) (zaa (zab) zac))) zac))))
  (zaF (za9 (i:=3) S.nd rfl (Or.inl rfl) (qe_ix zaM (zbl (zag (qe (zab)) (zag (qe (zab)) (zag (qe (zab)) (zag (qe (zab)) (zag (qe (zab)) (zag (qe (zab)) (zag (qe (zab)) (zag (qe (zab)) (zag (qe (zab)) (zag (qe (zab)) (zag (qe (zab)) (zag (qe (zab)) (zag (qe (zab)) (zag (qe (zab)) (zaC)))))))))))))))) (qe (zav zbh (zav zcb (pv 1) (zab)) (zab))) (fun _ _=>rfl)))
  (qss_cut (qs (zaG (zak zcx (zav zbh (pv 1) (zab)) (zab) (zat _))
   (zaf (zau (i:=3) S.nd rfl (Or.inl rfl) (zah zap rfl T.n_len PySem.boot_len (zaa (pv 2) zac))))
   (zao)))
  (zaF (za9 (i:=4) S.nd rfl (Or.inl rfl) (zbl (zaC)))
  (zaF (za9 (i:=5) S.nd rfl (Or.inl rfl) (zbl (zaC)))
  (zaF (qs (zaZ PassesOwn.never rfl (za7 rfl T.n_range (zaa (pv 3) zac)) (zal (i:=6) S.nd rfl (Or.inl rfl))
   (zae (zau (i:=7) S.nd rfl (Or.inl rfl) (zaA C_at (hr.mono (by decide)) rfl (zaa (pv 0) (zaa (zav zaO (zab) (pv 6)) zac))))
   (zcH (zaG (zak zgy (zav zbh (pv 1) (zab)) (zab) (zat _))
    (zaf (zau (i:=7) S.nd rfl (Or.inl rfl) (zaA C_mixed (hr.mono (by decide)) rfl (zaa (pv 7) (zaa (pv 6) zac)))))
    (zao))
   (zae (zau (i:=8) S.nd rfl (Or.inr rfl) (zav zaO (zav zdQ (zav zbh (pv 7) (zab)) (zab)) (zab)))
   (zcH (zaG (zak zcx (zav zbh (pv 1) (zab)) (zab) (zat _))
    (zaf (zau (i:=8) S.nd rfl (Or.inr rfl) (zar zas (pv 2) (pv 6) (fun _ _=>rfl))))
    (zao))
   (zae (zau (i:=9) S.nd rfl (Or.inl rfl) (zaA C_spare (hr.mono (by decide)) rfl (zaa (zaA C_word (hr.mono (by decide)) rfl (zaa (zav zcb (pv 7) (zab)) (zaa (zar zaM (za0 (zaa (zab) (zaa (zab) zac))) (zav zbh (zav zcb (pv 1) (zab)) (zab)) (fun _ _=>rfl)) zac))) (zaa (pv 5) zac))))
   (zae (zbe (zdv PySem.F.plainAttrs_list PySem.F.slot_list_append PySem.F.type_list_append zaV (pv 5) (zaa (pv 9) zac)))
   (zaf (zbe (zdv PySem.F.plainAttrs_list PySem.F.slot_list_append PySem.F.type_list_append zaV (pv 4) (zaa (za0 (zaa (pv 9) (zaa (zaT (own := ["_law_t"]) (caps := [(8,"_law_bits")]) rfl ⟨rfl,rfl,rfl,rfl,⟨⟨rfl,rfl,.inl rfl⟩,trivial⟩⟩ (za7 rfl T.n_range (zaa (zab) zac)) (fun _ _ _ _ _ _=>zal (i:=0) (zaH (by decide +kernel)) rfl (Or.inl rfl)) (fun _ _ _ _ _ _=>zbD (zak zcx (zav zf6 (zav zgH (pv 1) (pv 0)) (zab)) (zab) (zat _))) (fun _ _ _ _ _ _=>pv 0)) zac))) zac))))))))))))
  (zeS (zfW (qe (pv 4)))))))))),?_⟩
  refine ⟨_,rfl,a,ns,0,rfl,hS,by decide,?_⟩
  generalize ns.getD (Int.toNat 0) 0=head
  refine ⟨_,rfl,a,ns,1,rfl,hS,by decide,_,rfl,fun pm xs H1 s1 em hm => ?_⟩
  obtain ⟨m,hma,hm0,hm8⟩:=manyL_at (k:=head / 3 % 14) (Int.emod_nonneg _ (by decide)) (Int.emod_lt_of_pos _ p14)
  refine ⟨bigr rfl,fun b nb=>⟨_,rfl,_,_,rfl,rfl,⟨p3,by decide⟩,_,_,rfl,rfl,p14,_,_,_,_,rfl,rfl,SqL.of zad,hma,?_⟩⟩
  have s2:Same H (upd H1 b (.lst (manyL.map V.int))):=s1.put (s1.free nb)
  have em2:upd H1 b (.lst (manyL.map V.int)) pm=some (.tup (xs.map V.int)):=by rw [zai (zaq em nb)]; exact em
  refine ⟨fun σ H'=>Same H H'/\H' pm=some (.tup (xs.map V.int))/\∃ m:Int,σ = [some (.ref a),some (.int head),some (.ref pm),some (.int m),none,none,none,none,none,none]/\0<=m/\m<=8/\(head % 3=2->m=xs.length),?_,?_⟩
  ·refine ⟨_,rfl,_,_,rfl,rfl,p3,rfl,_,rfl,?_⟩
   refine ite2 (fun hc => ?_) (fun hc => ?_)
   ·refine ⟨_,rfl,_,_,rfl,.inr (SqT.of em2),?_⟩
    rw [List.length_map]
    exact ⟨s2,em2,_,rfl,by omega,by have:=hm.1.2; omega,fun _=>rfl⟩
   ·have hc:¬ head % 3=2:=by simpa using hc
    exact ⟨s2,em2,_,rfl,hm0,hm8,fun z=>absurd z hc⟩
  clear s2 em2 hma hm0 hm8 nb b m s1 em H1
  rintro σ H1 ⟨s1,em,m,rfl,hm0,hm8,hm2⟩
  refine ⟨bigr rfl,fun pf nf => ?_⟩
  refine ⟨bigr rfl,fun pu nu => ?_⟩
  have nfu:pf≠pu:=fun z=>by rw [<- z,zad] at nu; cases nu
  have fH:H pf=none:=s1.free nf
  have s2:=(s1.put (o := .lst []) fH)
  have uH:H pu=none:=s2.free nu
  have s3:=s2.put (o := .lst []) uH
  have em3:upd (upd H1 pf (.lst [])) pu (.lst []) pm=some (.tup (xs.map V.int)):=by
   rw [zai (zaq (by rw [zai (zaq em nf)]; exact em) nu),zai (zaq em nf)]; exact em
  refine ⟨_,rfl,_,rfl,by omega,by omega,?_⟩
  refine zbG (zaK 0 m.toNat) (fun i σ H'=>Same H H'/\H' pm=some (.tup (xs.map V.int))/\∃ (vs:List V) (ks:List (Str×List Int)) (x6 x7 x8 x9:Option V),σ = [some (.ref a),some (.int head),some (.ref pm),some (.int m),some (.ref pf),some (.ref pu),x6,x7,x8,x9] /\
   H' pf=some (.lst vs)/\H' pu=some (.lst ((ks.map (·.1)).map V.str))/\Drawn (fun x=>x≠pf/\x≠pu) H' vs ks/\ks.length=i) ⟨s3,em3,[],[],_,_,_,_,rfl,by rw [zai nfu,zad],by rw [zad]; rfl,⟨trivial,List.nodup_nil,by simp⟩,rfl⟩ (fun _ _ _ _ _=>trivial) ?_ ?_
  ·rintro i x σ H2 hx ⟨s2,em2,vs,ks,x6,x7,x8,x9,rfl,ef,eu,dr,hl⟩
   obtain ⟨hi,rfl⟩:=zbp hx
   have hi8:i < 8:=by omega
   have hS2:=s2.seq hS
   refine ⟨_,rfl,_,rfl,_,_,rfl,rfl,a,ns,_,rfl,hS2,?_,?_⟩
   ·show (0:Int)<=1 + (0 + ((i:Nat):Int))
    omega
   generalize ns.getD (1 + (0 + ((i:Nat):Int))).toNat 0=cell0
   refine ⟨fun σ H'=>H'=H2/\∃ (c:Int),σ = [some (.ref a),some (.int head),some (.ref pm),some (.int m),some (.ref pf),some (.ref pu),some (.int (0 + ((i:Nat):Int))),some (.int c),x8,x9],?_,?_⟩
   ·refine ⟨_,rfl,_,_,rfl,rfl,p3,_,_,rfl,rfl,_,rfl,?_⟩
    refine ite2 (fun _ => ?_) (fun _ => ?_)
    ·exact ⟨_,rfl,_,rfl,_,_,rfl,rfl,_,rfl⟩
    ·exact ⟨rfl,_,rfl⟩
   rintro σ H3 ⟨rfl,c,rfl⟩
   have c0:=Int.emod_nonneg c (show (128:Int)≠0 by decide)
   have c1:=Int.emod_lt_of_pos c zgV
   refine ⟨_,rfl,_,_,rfl,rfl,zgV,_,_,rfl,rfl,.inr ⟨by decide,by decide⟩,_,_,rfl,rfl,?_⟩
   refine ⟨fun σ H'=>H'=H3/\∃ (bt:Int),σ = [some (.ref a),some (.int head),some (.ref pm),some (.int m),some (.ref pf),some (.ref pu),some (.int (0 + ((i:Nat):Int))),some (.int c),some (.int bt),x9]/\bt % 2=1/\0<=bt,?_,?_⟩
   ·refine ⟨_,rfl,_,_,rfl,rfl,p3,rfl,_,rfl,?_⟩
    refine ite2 (fun hc => ?_) (fun hc => ?_)
    ·have hc:head % 3=2:=by simpa using hc
     have hix:i < xs.length:=by have:=hm2 hc; omega
     have hat:atI (xs.map V.int) (0 + ((i:Nat):Int))=some (V.int xs[i]):=by
      rw [Int.zero_add]
      refine zax ?_
      rw [List.getElem?_map,List.getElem?_eq_getElem hix]
      rfl
     have:=hm.2 xs[i] (List.getElem_mem hix)
     exact ⟨_,rfl,_,rfl,_,_,_,_,rfl,rfl,SqT.of em2,hat,rfl,_,rfl,this.1,this.2.1⟩
    ·exact ⟨rfl,_,rfl,by omega,by omega⟩
   rintro σ H4 ⟨rfl,bt,rfl,hb1,hb0⟩
   obtain ⟨bs,hbs,hb2⟩:=base_at (k:=head / 42 % 2) (Int.emod_nonneg _ (by decide)) (Int.emod_lt_of_pos _ p2)
   refine ⟨_,rfl,_,_,rfl,rfl,⟨zgV,by decide⟩,bigr rfl,fun b nb=>⟨_,rfl,_,_,rfl,rfl,⟨p42,by decide⟩,_,_,rfl,rfl,p2,_,_,_,_,rfl,rfl,SqL.of zad,hbs,_,_,rfl,hb2,fun y hy => ?_⟩⟩
   have s4:=s2.put (o := .lst [V.int 26,V.int 2]) (s2.free nb)
   have t4:Same H4 (upd H4 b (.lst [V.int 26,V.int 2])):=Same.new nb
   have eu4:=t4 _ _ eu
   refine ⟨_,rfl,y,pu,ks.map (·.1),rfl,hy,SqL.of eu4,by rw [List.length_map]; omega,fun z H5 s5 hz hzn => ?_⟩
   have s5H:=s4.trans s5
   have t5:=t4.trans s5
   have eu5:=t5 _ _ eu
   have ef5:=t5 _ _ ef
   have em5:=t5 _ _ em2
   have dr5:=dr.same t5
   refine ⟨_,rfl,.inl ⟨rfl,_,SqL.of eu5⟩,_,rfl,_,_,_,rfl,rfl,eu5,?_,?_⟩
   ·rw [List.length_map,List.length_map]
    exact Nat.lt_of_lt_of_le (by omega:ks.length < 1000) zbj
   have s6:=s5H.put (o := .lst ((ks.map (·.1)).map V.str ++ [V.str z])) uH
   have dr6:Drawn (fun x=>x≠pf/\x≠pu) (upd H5 pu (.lst ((ks.map (·.1)).map V.str ++ [V.str z]))) vs ks:=dr5.upd fun z=>z.2 rfl
   have em6:upd H5 pu (.lst ((ks.map (·.1)).map V.str ++ [V.str z])) pm=some (.tup (xs.map V.int)):=by
    rw [zai (fun w=>by rw [w,eu5] at em5; cases em5)]; exact em5
   have ef6:upd H5 pu (.lst ((ks.map (·.1)).map V.str ++ [V.str z])) pf=some (.lst vs):=by rw [zai nfu]; exact ef5
   have eu6:upd H5 pu (.lst ((ks.map (·.1)).map V.str ++ [V.str z])) pu=some (.lst ((ks.map (·.1)).map V.str ++ [V.str z])):=zad
   generalize upd H5 pu (.lst ((ks.map (·.1)).map V.str ++ [V.str z]))=H6 at s6 dr6 em6 ef6 eu6
   refine ⟨_,rfl,.inl ⟨rfl,_,SqL.of ef6⟩,_,rfl,_,rfl,by decide,by decide,fun Dc hD => ?_⟩
   refine zb9 (capv := [some (.int bt)]) (by rfl) (zaK 0 (8:Int).toNat) (bigr rfl) hD ?_ (bitOf bt) (fun v=>v) ?_ ?_ ?_
   ·exact fun _ _=>trivial
   ·intro v hv H' R s' h
    obtain ⟨t,ht,rfl⟩:=List.mem_map.mp hv
    refine ⟨_,rfl,_,rfl,_,_,rfl,rfl,?_,_,_,rfl,rfl,rfl,_,rfl,?_⟩
    ·show (0:Int)<=0 + ((t:Nat):Int)
     omega
    rw [zgP]
    exact h H' (Same.refl _)
   ·intro v hv hp H' R s' h
    exact ⟨_,rfl,h H' (Same.refl _)⟩
   intro H7 s7 e7
   have ets:(((((List.range (8:Int).toNat).map fun i=>V.int (0 + ((i:Nat):Int))).filter (bitOf bt)).map fun v=>v))=(((List.range 8).filter fun i=>bitOf bt (.int (0 + ((i:Nat):Int)))).map fun i=>((i:Nat):Int)).map V.int:=by
    rw [List.map_id',List.filter_map,List.map_map]
    show List.map _ (List.filter _ (List.range 8))=_
    congr 1
    funext i
    show V.int (0 + ((i:Nat):Int))=V.int ((i:Nat):Int)
    rw [Int.zero_add]
   have gt:GT (((List.range 8).filter fun i=>bitOf bt (.int (0 + ((i:Nat):Int)))).map fun i=>((i:Nat):Int)):=by
    refine ⟨_,rfl,?_⟩
    show decide (Builtin.bitAnd (bt / 2 ^ (0 + ((0:Nat):Int)).toNat) 1=1)=true
    rw [bitAnd_m1]
    apply decide_eq_true
    show bt / 1 % 2=1
    rw [Int.ediv_one]
    exact hb1
   rw [ets] at e7
   generalize (((List.range 8).filter fun i=>bitOf bt (.int (0 + ((i:Nat):Int)))).map fun i=>((i:Nat):Int))=ts at e7 gt
   refine ⟨bigr rfl,fun q' nq => ?_⟩
   have t7:Same H6 H7:=s7
   have n7:∀ {x o},H6 x=some o->x≠Dc:=fun e z=>by rw [z,hD] at e; cases e
   have n8:∀ {x o},H7 x=some o->x≠q':=fun e z=>by rw [z,nq] at e; cases e
   have ef8:upd H7 q' (.lst [V.str z,V.ref Dc]) pf=some (.lst vs):=by rw [zai (n8 (t7 _ _ ef6))]; exact t7 _ _ ef6
   refine ⟨_,_,_,rfl,rfl,ef8,?_,?_⟩
   ·rw [dr6.rows.length]
    exact Nat.lt_of_lt_of_le (by omega:ks.length < 1000) zbj
   have s8:=((s6.trans s7).put (o := .lst [V.str z,V.ref Dc]) ((s6.trans s7).free nq)).put (o := .lst (vs ++ [V.ref q'])) fH
   have fq:q'≠pf:=(n8 (t7 _ _ ef6)).symm
   have uq:q'≠pu:=(n8 (t7 _ _ eu6)).symm
   refine ⟨s8,?_,vs ++ [.ref q'],ks ++ [(z,ts)],_,_,_,_,rfl,zad,?_,?_,by rw [List.length_append,hl]; rfl⟩
   ·have fm:pm≠pf:=fun w=>by rw [w,ef6] at em6; cases em6
    rw [zai fm,zai (n8 (t7 _ _ em6))]
    exact t7 _ _ em6
   ·rw [zai nfu.symm,zai (n8 (t7 _ _ eu6)),t7 _ _ eu6,List.map_append,List.map_append]
    rfl
   ·refine Drawn.snoc (q:=q') (t:=Dc) (((dr6.same t7).same (Same.new nq)).upd fun w=>w.1 rfl) ?_ ?_ ⟨fq,uq⟩ ⟨(n7 ef6).symm,(n7 eu6).symm⟩ hzn ⟨hz,gt⟩
    ·rw [zai fq,zad]
    ·rw [zai (n7 ef6).symm,zai (n8 e7)]
     exact e7
  ·rintro σ H2 ⟨s2,em2,vs,ks,x6,x7,x8,x9,rfl,ef,eu,dr,hl⟩
   rw [List.length_map,List.length_range] at hl
   exact ⟨_,rfl,q pf ks vs H2 s2 fH ef dr.any (by omega)⟩
structure Ea (mg:Str->Option Value) (ea:Nat->Addr):Prop where
 n0:mg "BadName" = some (.ref (ea 0))
 n1:mg "BadTeeth" = some (.ref (ea 1))
 n2:mg "NameTaken" = some (.ref (ea 2))
 n3:mg "BookFull" = some (.ref (ea 3))
 n4:mg "NoComb" = some (.ref (ea 4))
 n5:mg "BadTooth" = some (.ref (ea 5))
 n6:mg "ToothThere" = some (.ref (ea 6))
 n7:mg "FirstTooth" = some (.ref (ea 7))
 n8:mg "ToothMissing" = some (.ref (ea 8))
 n9:mg "DeedsFull" = some (.ref (ea 9))
 n10:mg "NothingDone" = some (.ref (ea 10))
 n11:mg "BadShape" = some (.ref (ea 11))
 n12:mg "BadPlace" = some (.ref (ea 12))
 n13:mg "BadLength" = some (.ref (ea 13))
 n14:mg "NoFilling" = some (.ref (ea 14))
noncomputable def spKind (K:PySem.W.Frag) (ea:Nat->Addr):Addr->Value->Sp:=fun e c vs H Q _=>vs = [.ref e]/\∃ D j,c = .ref D/\KindF K ea D j/\∀ p H',Same H H'->H p=none->H' p=some (.lst [.str (errName j)])->Q (.ref p) H'
noncomputable def kb (j i:Nat):V := .bl (decide (i=j))
noncomputable def kBools (j:Nat):List V:=(List.range 15).map (kb j)
theorem kBools_eq (j:Nat):kBools j = [kb j 0,kb j 1,kb j 2,kb j 3,kb j 4,kb j 5,kb j 6,kb j 7,kb j 8,kb j 9,kb j 10,kb j 11,kb j 12,kb j 13,kb j 14]:=rfl
noncomputable def isJ (j:Nat) (v:V):Bool:=match v with
 | .int t=>decide (t.toNat=j)
 | _=>false
noncomputable def wordJ (v:V):V:=match v with
 | .int t => .str (errName t.toNat)
 | _ => .non
theorem kind_res {j:Nat} (h:j < 15):(((List.range (15:Int).toNat).map fun i=>V.int (0 + ((i:Nat):Int))).filter (isJ j)).map wordJ = [.str (errName j)]:=by
 have all:∀ j∈List.range 15,(((List.range (15:Int).toNat).map fun i=>V.int (0 + ((i:Nat):Int))).filter (isJ j)).map wordJ = [.str (errName j)]:=by decide +kernel
 exact all j (List.mem_range.mpr h)
theorem zfS:FnScope ["_law_e","_law_is_one","_law_words"] ["_law_e"] (defScope s_kind):=⟨rfl,rfl,rfl,by decide +kernel,rfl,by decide +kernel,by decide +kernel⟩
theorem ok_kind (D:DefAt K mg "_law_kind" s_kind) (T:Bn mg) {ea:Nat->Addr} (EA:Ea mg ea):HCallee P w K mg base "_law_kind" 1 ["_law_e"] (spKind K ea):=by
 have V_BadName:=EA.n0
 have V_BadTeeth:=EA.n1
 have V_NameTaken:=EA.n2
 have V_BookFull:=EA.n3
 have V_NoComb:=EA.n4
 have V_BadTooth:=EA.n5
 have V_ToothThere:=EA.n6
 have V_FirstTooth:=EA.n7
 have V_ToothMissing:=EA.n8
 have V_DeedsFull:=EA.n9
 have V_NothingDone:=EA.n10
 have V_BadShape:=EA.n11
 have V_BadPlace:=EA.n12
 have V_BadLength:=EA.n13
 have V_NoFilling:=EA.n14
 refine D.hcalleeQ zfS (fun _ _ _ _ _ _ us hl=>match us,hl with | [_],_=>rfl) (fun e c vs H Q E h => ?_) (fun f cdv A outer s H vs Q e oe c ws hc hd hq h => ?_)
 ·obtain ⟨rfl,_⟩:=h
  rfl
 ·obtain ⟨rfl,D,j,rfl,F,q⟩:=h
  have S:=zfS
  have pin:(e,oe)∈(cxH P w K mg base ["_law_e","_law_is_one","_law_words"] "_law_kind" (defScope s_kind) f cdv A outer s H e oe).pn/\(oe.cls = .ref D/\oe.dict=none)/\∃ vs,oe.data = .fields vs:=⟨List.mem_singleton.mpr rfl,hc,ws,hd⟩
  refine ⟨_,zaF (za9 (i:=1) S.nd rfl (Or.inr rfl) (zbl (zag (qe (zah zaS rfl T.n_isinstance boot_isinstance (zaa (pv 0) (zaa (zbm rfl V_BadName) zac)))) (zag (qe (zah zaS rfl T.n_isinstance boot_isinstance (zaa (pv 0) (zaa (zbm rfl V_BadTeeth) zac)))) (zag (qe (zah zaS rfl T.n_isinstance boot_isinstance (zaa (pv 0) (zaa (zbm rfl V_NameTaken) zac)))) (zaC))))))
  (zaF (za9 (i:=1) S.nd rfl (Or.inr rfl) (zdu zb1 (qe (pv 1)) (zbl (zag (qe (zah zaS rfl T.n_isinstance boot_isinstance (zaa (pv 0) (zaa (zbm rfl V_BookFull) zac)))) (zag (qe (zah zaS rfl T.n_isinstance boot_isinstance (zaa (pv 0) (zaa (zbm rfl V_NoComb) zac)))) (zag (qe (zah zaS rfl T.n_isinstance boot_isinstance (zaa (pv 0) (zaa (zbm rfl V_BadTooth) zac)))) (zaC)))))))
  (zaF (za9 (i:=1) S.nd rfl (Or.inr rfl) (zdu zb1 (qe (pv 1)) (zbl (zag (qe (zah zaS rfl T.n_isinstance boot_isinstance (zaa (pv 0) (zaa (zbm rfl V_ToothThere) zac)))) (zag (qe (zah zaS rfl T.n_isinstance boot_isinstance (zaa (pv 0) (zaa (zbm rfl V_FirstTooth) zac)))) (zaC))))))
  (zaF (za9 (i:=1) S.nd rfl (Or.inr rfl) (zdu zb1 (qe (pv 1)) (zbl (zag (qe (zah zaS rfl T.n_isinstance boot_isinstance (zaa (pv 0) (zaa (zbm rfl V_ToothMissing) zac)))) (zag (qe (zah zaS rfl T.n_isinstance boot_isinstance (zaa (pv 0) (zaa (zbm rfl V_DeedsFull) zac)))) (zaC))))))
  (zaF (za9 (i:=1) S.nd rfl (Or.inr rfl) (zdu zb1 (qe (pv 1)) (zbl (zag (qe (zah zaS rfl T.n_isinstance boot_isinstance (zaa (pv 0) (zaa (zbm rfl V_NothingDone) zac)))) (zag (qe (zah zaS rfl T.n_isinstance boot_isinstance (zaa (pv 0) (zaa (zbm rfl V_BadShape) zac)))) (zaC))))))
  (zaF (za9 (i:=1) S.nd rfl (Or.inr rfl) (zdu zb1 (qe (pv 1)) (zbl (zag (qe (zah zaS rfl T.n_isinstance boot_isinstance (zaa (pv 0) (zaa (zbm rfl V_BadPlace) zac)))) (zag (qe (zah zaS rfl T.n_isinstance boot_isinstance (zaa (pv 0) (zaa (zbm rfl V_BadLength) zac)))) (zag (qe (zah zaS rfl T.n_isinstance boot_isinstance (zaa (pv 0) (zaa (zbm rfl V_NoFilling) zac)))) (zaC)))))))
  (zaF (za9 (i:=2) S.nd rfl (Or.inr rfl) (zbl (zag (qe (zay)) (zag (qe (zay)) (zag (qe (zay)) (zag (qe (zay)) (zag (qe (zay)) (zag (qe (zay)) (zag (qe (zay)) (zaC))))))))))
  (zaF (za9 (i:=2) S.nd rfl (Or.inr rfl) (zdu zb1 (qe (pv 2)) (zbl (zag (qe (zay)) (zag (qe (zay)) (zag (qe (zay)) (zag (qe (zay)) (zag (qe (zay)) (zaC)))))))))
  (zaF (za9 (i:=2) S.nd rfl (Or.inr rfl) (zdu zb1 (qe (pv 2)) (zbl (zag (qe (zay)) (zag (qe (zay)) (zag (qe (zay)) (zaC)))))))
  (zeS (zfW (qe (pe_compq (own := ["_law_k"]) (caps := [(1,"_law_is_one"),(2,"_law_words")]) (QH e oe) (fun _ _ _ _ _ _=>hq.comp) ⟨rfl,rfl,rfl,rfl,⟨⟨rfl,rfl,.inl rfl⟩,⟨rfl,rfl,.inl rfl⟩,trivial⟩⟩ (pi_range1q rfl T.n_range (zaa (zab) zac)) (fun _ _ _ _ _ _=>zal (i:=0) (zaH (by decide +kernel)) rfl (Or.inl rfl)) (fun _ _ _ _ _ _=>zbD (zaX (zar (zcz K rfl) (pv 1) (pv 0) (fun _ _=>rfl)))) (fun _ _ _ _ _ _=>zar (zcz K rfl) (pv 2) (pv 0) (fun _ _=>rfl)))))))))))))),?_⟩
  have M:Same H H:=Same.refl H
  refine ⟨_,rfl,_,_,D,oe,_,rfl,pin,F.cls,F.kit 0 (by decide),_,rfl,_,_,D,oe,_,rfl,pin,F.cls,F.kit 1 (by decide),_,rfl,_,_,D,oe,_,rfl,pin,F.cls,F.kit 2 (by decide),bigr rfl,fun a0 na => ?_⟩
  obtain ⟨M,e1⟩:=M.lstE (o := .lst [kb j 0,kb j 1,kb j 2]) na
  clear na
  refine ⟨_,rfl,_,rfl,_,_,D,oe,_,rfl,pin,F.cls,F.kit 3 (by decide),_,rfl,_,_,D,oe,_,rfl,pin,F.cls,F.kit 4 (by decide),_,rfl,_,_,D,oe,_,rfl,pin,F.cls,F.kit 5 (by decide),bigr rfl,fun a1 na => ?_⟩
  obtain ⟨M,e2⟩:=M.lstE (o := .lst [kb j 3,kb j 4,kb j 5]) na
  replace e1:=zbi (o := .lst [kb j 3,kb j 4,kb j 5]) e1 na
  clear na
  refine ⟨_,_,_,_,rfl,rfl,e1,e2,bigr rfl,fun c1 nc => ?_⟩
  obtain ⟨M,e1⟩:=M.lstE (o := .lst [kb j 0,kb j 1,kb j 2,kb j 3,kb j 4,kb j 5]) nc
  clear nc e2
  refine ⟨_,rfl,_,rfl,_,_,D,oe,_,rfl,pin,F.cls,F.kit 6 (by decide),_,rfl,_,_,D,oe,_,rfl,pin,F.cls,F.kit 7 (by decide),bigr rfl,fun a2 na => ?_⟩
  obtain ⟨M,e2⟩:=M.lstE (o := .lst [kb j 6,kb j 7]) na
  replace e1:=zbi (o := .lst [kb j 6,kb j 7]) e1 na
  clear na
  refine ⟨_,_,_,_,rfl,rfl,e1,e2,bigr rfl,fun c2 nc => ?_⟩
  obtain ⟨M,e1⟩:=M.lstE (o := .lst [kb j 0,kb j 1,kb j 2,kb j 3,kb j 4,kb j 5,kb j 6,kb j 7]) nc
  clear nc e2
  refine ⟨_,rfl,_,rfl,_,_,D,oe,_,rfl,pin,F.cls,F.kit 8 (by decide),_,rfl,_,_,D,oe,_,rfl,pin,F.cls,F.kit 9 (by decide),bigr rfl,fun a3 na => ?_⟩
  obtain ⟨M,e2⟩:=M.lstE (o := .lst [kb j 8,kb j 9]) na
  replace e1:=zbi (o := .lst [kb j 8,kb j 9]) e1 na
  clear na
  refine ⟨_,_,_,_,rfl,rfl,e1,e2,bigr rfl,fun c3 nc => ?_⟩
  obtain ⟨M,e1⟩:=M.lstE (o := .lst [kb j 0,kb j 1,kb j 2,kb j 3,kb j 4,kb j 5,kb j 6,kb j 7,kb j 8,kb j 9]) nc
  clear nc e2
  refine ⟨_,rfl,_,rfl,_,_,D,oe,_,rfl,pin,F.cls,F.kit 10 (by decide),_,rfl,_,_,D,oe,_,rfl,pin,F.cls,F.kit 11 (by decide),bigr rfl,fun a4 na => ?_⟩
  obtain ⟨M,e2⟩:=M.lstE (o := .lst [kb j 10,kb j 11]) na
  replace e1:=zbi (o := .lst [kb j 10,kb j 11]) e1 na
  clear na
  refine ⟨_,_,_,_,rfl,rfl,e1,e2,bigr rfl,fun c4 nc => ?_⟩
  obtain ⟨M,e1⟩:=M.lstE (o := .lst [kb j 0,kb j 1,kb j 2,kb j 3,kb j 4,kb j 5,kb j 6,kb j 7,kb j 8,kb j 9,kb j 10,kb j 11]) nc
  clear nc e2
  refine ⟨_,rfl,_,rfl,_,_,D,oe,_,rfl,pin,F.cls,F.kit 12 (by decide),_,rfl,_,_,D,oe,_,rfl,pin,F.cls,F.kit 13 (by decide),_,rfl,_,_,D,oe,_,rfl,pin,F.cls,F.kit 14 (by decide),bigr rfl,fun a5 na => ?_⟩
  obtain ⟨M,e2⟩:=M.lstE (o := .lst [kb j 12,kb j 13,kb j 14]) na
  replace e1:=zbi (o := .lst [kb j 12,kb j 13,kb j 14]) e1 na
  clear na
  refine ⟨_,_,_,_,rfl,rfl,e1,e2,bigr rfl,fun c5 nc => ?_⟩
  obtain ⟨M,e1⟩:=M.lstE (o := .lst [kb j 0,kb j 1,kb j 2,kb j 3,kb j 4,kb j 5,kb j 6,kb j 7,kb j 8,kb j 9,kb j 10,kb j 11,kb j 12,kb j 13,kb j 14]) nc
  clear nc e2
  refine ⟨bigr rfl,fun w0 nw => ?_⟩
  obtain ⟨M,f1⟩:=M.lstE (o := .lst [V.str (Str.ofString "BadName"),V.str (Str.ofString "BadTeeth"),V.str (Str.ofString "NameTaken"),V.str (Str.ofString "BookFull"),V.str (Str.ofString "NoComb"),V.str (Str.ofString "BadTooth"),V.str (Str.ofString "ToothThere")]) nw
  replace e1:=zbi (o := .lst [V.str (Str.ofString "BadName"),V.str (Str.ofString "BadTeeth"),V.str (Str.ofString "NameTaken"),V.str (Str.ofString "BookFull"),V.str (Str.ofString "NoComb"),V.str (Str.ofString "BadTooth"),V.str (Str.ofString "ToothThere")]) e1 nw
  clear nw
  refine ⟨_,rfl,bigr rfl,fun w1 nw => ?_⟩
  obtain ⟨M,f2⟩:=M.lstE (o := .lst [V.str (Str.ofString "FirstTooth"),V.str (Str.ofString "ToothMissing"),V.str (Str.ofString "DeedsFull"),V.str (Str.ofString "NothingDone"),V.str (Str.ofString "BadShape")]) nw
  replace e1:=zbi (o := .lst [V.str (Str.ofString "FirstTooth"),V.str (Str.ofString "ToothMissing"),V.str (Str.ofString "DeedsFull"),V.str (Str.ofString "NothingDone"),V.str (Str.ofString "BadShape")]) e1 nw
  replace f1:=zbi (o := .lst [V.str (Str.ofString "FirstTooth"),V.str (Str.ofString "ToothMissing"),V.str (Str.ofString "DeedsFull"),V.str (Str.ofString "NothingDone"),V.str (Str.ofString "BadShape")]) f1 nw
  clear nw
  refine ⟨_,_,_,_,rfl,rfl,f1,f2,bigr rfl,fun x1 nx => ?_⟩
  obtain ⟨M,f1⟩:=M.lstE (o := .lst [V.str (Str.ofString "BadName"),V.str (Str.ofString "BadTeeth"),V.str (Str.ofString "NameTaken"),V.str (Str.ofString "BookFull"),V.str (Str.ofString "NoComb"),V.str (Str.ofString "BadTooth"),V.str (Str.ofString "ToothThere"),V.str (Str.ofString "FirstTooth"),V.str (Str.ofString "ToothMissing"),V.str (Str.ofString "DeedsFull"),V.str (Str.ofString "NothingDone"),V.str (Str.ofString "BadShape")]) nx
  replace e1:=zbi (o := .lst [V.str (Str.ofString "BadName"),V.str (Str.ofString "BadTeeth"),V.str (Str.ofString "NameTaken"),V.str (Str.ofString "BookFull"),V.str (Str.ofString "NoComb"),V.str (Str.ofString "BadTooth"),V.str (Str.ofString "ToothThere"),V.str (Str.ofString "FirstTooth"),V.str (Str.ofString "ToothMissing"),V.str (Str.ofString "DeedsFull"),V.str (Str.ofString "NothingDone"),V.str (Str.ofString "BadShape")]) e1 nx
  clear nx f2
  refine ⟨_,rfl,bigr rfl,fun w2 nw => ?_⟩
  obtain ⟨M,f2⟩:=M.lstE (o := .lst [V.str (Str.ofString "BadPlace"),V.str (Str.ofString "BadLength"),V.str (Str.ofString "NoFilling")]) nw
  replace e1:=zbi (o := .lst [V.str (Str.ofString "BadPlace"),V.str (Str.ofString "BadLength"),V.str (Str.ofString "NoFilling")]) e1 nw
  replace f1:=zbi (o := .lst [V.str (Str.ofString "BadPlace"),V.str (Str.ofString "BadLength"),V.str (Str.ofString "NoFilling")]) f1 nw
  clear nw
  refine ⟨_,_,_,_,rfl,rfl,f1,f2,bigr rfl,fun x2 nx => ?_⟩
  obtain ⟨M,f1⟩:=M.lstE (o := .lst [V.str (Str.ofString "BadName"),V.str (Str.ofString "BadTeeth"),V.str (Str.ofString "NameTaken"),V.str (Str.ofString "BookFull"),V.str (Str.ofString "NoComb"),V.str (Str.ofString "BadTooth"),V.str (Str.ofString "ToothThere"),V.str (Str.ofString "FirstTooth"),V.str (Str.ofString "ToothMissing"),V.str (Str.ofString "DeedsFull"),V.str (Str.ofString "NothingDone"),V.str (Str.ofString "BadShape"),V.str (Str.ofString "BadPlace"),V.str (Str.ofString "BadLength"),V.str (Str.ofString "NoFilling")]) nx
  replace e1:=zbi (o := .lst [V.str (Str.ofString "BadName"),V.str (Str.ofString "BadTeeth"),V.str (Str.ofString "NameTaken"),V.str (Str.ofString "BookFull"),V.str (Str.ofString "NoComb"),V.str (Str.ofString "BadTooth"),V.str (Str.ofString "ToothThere"),V.str (Str.ofString "FirstTooth"),V.str (Str.ofString "ToothMissing"),V.str (Str.ofString "DeedsFull"),V.str (Str.ofString "NothingDone"),V.str (Str.ofString "BadShape"),V.str (Str.ofString "BadPlace"),V.str (Str.ofString "BadLength"),V.str (Str.ofString "NoFilling")]) e1 nx
  clear nx f2
  refine ⟨_,rfl,by decide,by decide,fun Dc hD => ?_⟩
  refine zb9 (capv := [some (.ref c5),some (.ref x2)]) (by rfl) (zaK 0 (15:Int).toNat) (bigr rfl) hD ?_ (isJ j) wordJ ?_ ?_ ?_
  ·exact fun _ _=>trivial
  ·intro v hv H' R s' h
   obtain ⟨t,ht,rfl⟩:=List.mem_map.mp hv
   have ht15:t < 15:=List.mem_range.mp ht
   refine ⟨_,rfl,_,rfl,_,_,_,_,rfl,rfl,SqL.of (s' _ _ e1),(?_:atI (kBools j) (0 + ((t:Nat):Int))=some (kb j t)),_,rfl,?_⟩
   ·rw [Int.zero_add]
    refine zax ?_
    unfold kBools
    rw [List.getElem?_map,List.getElem?_range ht15]
    rfl
   ·have e:isJ j (.int (0 + ((t:Nat):Int)))=decide (t=j):=by
     show decide ((0 + ((t:Nat):Int)).toNat=j)=_
     rw [Int.zero_add,Int.toNat_natCast]
    have h:=h H' (Same.refl _)
    rw [e] at h
    exact h
  ·intro v hv hp H' R s' h
   obtain ⟨t,ht,rfl⟩:=List.mem_map.mp hv
   have ht15:t < 15:=List.mem_range.mp ht
   refine ⟨_,rfl,_,rfl,_,_,_,_,rfl,rfl,SqL.of (s' _ _ f1),(?_:atI (errNames.map V.str) (0 + ((t:Nat):Int))=some (wordJ (.int (0 + ((t:Nat):Int))))),h H' (Same.refl _)⟩
   rw [Int.zero_add]
   refine zax ?_
   have hl:t < errNames.length:=ht15
   show (errNames.map V.str)[t]?=some (.str (errName ((t:Nat):Int).toNat))
   rw [List.getElem?_map,List.getElem?_eq_getElem hl,Int.toNat_natCast]
   unfold errName
   rw [List.getD_eq_getElem?_getD,List.getElem?_eq_getElem hl]
   rfl
  ·intro H' s' e
   rw [kind_res F.lt] at e
   exact q _ H' (M.trans s') (M.free hD) e
theorem zgK {a b:Nat}:([a] < [b]) ↔ a < b:=by
 rw [List.cons_lt_cons_iff]
 simp
theorem le_a (c:Nat):(!decide ((⟨#[c]⟩:Str).cps.toList < (Str.ofString "a").cps.toList))=decide (97<=c):=by
 have e:(Str.ofString "a").cps.toList = [97]:=by decide +kernel
 rw [e]
 show (!decide ([c] < [97]))=_
 rw [Bool.eq_iff_iff]
 simp only [Bool.not_eq_true',decide_eq_false_iff_not,decide_eq_true_eq,zgK]
 omega
theorem le_z (c:Nat):(!decide ((Str.ofString "z").cps.toList < (⟨#[c]⟩:Str).cps.toList))=decide (c<=122):=by
 have e:(Str.ofString "z").cps.toList = [122]:=by decide +kernel
 rw [e]
 show (!decide ([122] < [c]))=_
 rw [Bool.eq_iff_iff]
 simp only [Bool.not_eq_true',decide_eq_false_iff_not,decide_eq_true_eq,zgK]
 omega
noncomputable def sp_small:Sp:=fun vs H Q _=>∃ c:Nat,vs = [sgn c]/\Q (.bl (small c)) H
theorem zbx:FnScope ["sign"] ["sign"] (defScope s_is_small_letter):=⟨rfl,rfl,rfl,by decide +kernel,rfl,by decide +kernel,by decide +kernel⟩
theorem ok_small (D:DefAt K mg "is_small_letter" s_is_small_letter) (T:Bn mg):Callee P w K mg base "is_small_letter" 1 ["sign"] sp_small:=by
 refine D.callee zbx (fun _ _ _ _ _ _ us hl=>match us,hl with | [_],_=>rfl) (fun vs H Q E h => ?_) (fun f cdv A outer s H vs Q E hr h => ?_)
 ·obtain ⟨c,rfl,_⟩:=h
  rfl
 ·obtain ⟨c,rfl,q⟩:=h
  have S:=zbx
  refine ⟨_,zaf (zaj (zfw zeu zeu (zay) (pv 0) (zay))),?_⟩
  refine ⟨_,rfl,_,_,rfl,rfl,_,rfl,?_⟩
  rw [le_a]
  have q':Q (.bl (decide (97<=c) && decide (c<=122))) H:=q
  cases e:decide (97<=c) with
  | false =>
   rw [if_neg Bool.false_ne_true]
   rw [e] at q'
   exact q'
  | true =>
   rw [if_pos rfl]
   refine ⟨_,_,rfl,rfl,?_⟩
   rw [le_z]
   rw [e] at q'
   exact q'
noncomputable def sp_name:Sp:=fun vs H Q _=>∃ x:Str,vs = [.str x]/\x.length<=sizeLine/\∀ H',Same H H'->Q (.bl (isName x)) H'
theorem zdL:FnScope ["text"] ["text"] (defScope s_is_name):=⟨rfl,rfl,rfl,by decide +kernel,rfl,by decide +kernel,by decide +kernel⟩
theorem ok_name (D:DefAt K mg "is_name" s_is_name) (T:Bn mg) (V_MOST_NAME:∃ t,mg "MOST_NAME" = some (.int 6 t)) (C_is_small_letter:Callee P w K mg base "is_small_letter" 1 ["sign"] sp_small):Callee P w K mg base "is_name" 2 ["text"] sp_name:=by
 refine D.callee zdL (fun _ _ _ _ _ _ us hl=>match us,hl with | [_],_=>rfl) (fun vs H Q E h => ?_) (fun f cdv A outer s H vs Q E hr h => ?_)
 ·obtain ⟨c,rfl,_⟩:=h
  rfl
 ·obtain ⟨x,rfl,hx,q⟩:=h
  have S:=zdL
  refine ⟨_,zae (zaG (zaY (zd4 zd8 zd8 (zab) (zah call_len_str rfl T.n_len PySem.boot_len (zaa (pv 0) zac)) (zbY rfl V_MOST_NAME)))
   (zaf (zaj (za8)))
   (zao))
  (zaf (zaj (zah (zcZ rfl) rfl T.n_all boot_all (zaa (zaT (own := ["sign"]) (caps := []) rfl ⟨rfl,rfl,rfl,rfl,trivial⟩ (zgE (pv 0)) (fun _ _ _ _ _ _=>zal (i:=0) (zaH (by decide +kernel)) rfl (Or.inl rfl)) (fun _ _ _ _ _ _=>zbk) (fun _ _ _ _ _ _=>zaA C_is_small_letter (hr.mono (by decide)) rfl (zaa (pv 0) zac))) zac)))),?_⟩
  have fin:∀ H',Same H H'->(decide (1<=x.length) && decide (x.length<=6))=false->Q (.bl false) H':=fun H' s' e=>by
   have:=q H' s'
   unfold isName at this
   rw [e] at this
   exact this
  refine ⟨_,rfl,_,rfl,hx,_,_,rfl,rfl,_,rfl,?_⟩
  refine ite2 (fun h1 => ?_) (fun h1 => ?_)
  ·refine ⟨_,_,rfl,rfl,_,rfl,?_⟩
   refine ite2 (fun h2 => ?_) (fun h2 => ?_)
   ·refine fin H (Same.refl H) ?_
    have:¬ (x.length:Int)<=6:=by simpa using h2
    rw [Bool.and_eq_false_iff]
    exact .inr (decide_eq_false (by omega))
   ·refine ⟨_,rfl,_,rfl,fun D hD => ?_⟩
    refine zb9 (capv := []) (L:=x.cps.toList.map sgn) (by rfl) (zeD x) (by rw [List.length_map,zcF]; exact hx) hD ?_ (fun _=>true) (fun v=>match v with | .str y => .bl (small (y.cps.getD 0 0)) | _ => .non) ?_ ?_ ?_
    ·exact fun _ _=>trivial
    ·exact fun v hv H' R s' h=>h H' (Same.refl _)
    ·intro v hv _ H' R s' h
     obtain ⟨c,hc,rfl⟩:=List.mem_map.mp hv
     exact ⟨_,rfl,c,rfl,h H' (Same.refl _)⟩
    ·intro H' s' e
     refine ⟨_,x.cps.toList.map small,rfl,?_,?_⟩
     ·refine SqL.of ?_
      rw [e]
      congr 2
      rw [List.filter_eq_self.mpr (fun _ _=>rfl),List.map_map,List.map_map]
      rfl
     ·have:=q H' s'
      unfold isName at this
      have h3:¬ ¬ (x.length:Int)<=6:=by simpa using h2
      have h1':(1:Int)<=x.length:=by simpa using h1
      rw [decide_eq_true (show 1<=x.length by omega),decide_eq_true (show x.length<=6 by omega)] at this
      rw [List.all_map]
      exact this
  ·refine ⟨_,rfl,?_⟩
   refine fin H (Same.refl H) ?_
   have h1':¬ (1:Int)<=x.length:=by simpa using h1
   rw [Bool.and_eq_false_iff]
   exact .inl (decide_eq_false (by omega))
noncomputable def sp_teeth (K:PySem.W.Frag):Sp:=fun vs H Q _=>∃ (a:Addr) (ts:List Int),vs = [.ref a]/\SqL K H a (ts.map V.int)/\ts.length<=1000/\∀ H',Same H H'->Q (.bl (areTeeth ts)) H'
theorem zcP:FnScope ["teeth"] ["teeth"] (defScope s_are_teeth):=⟨rfl,rfl,rfl,by decide +kernel,rfl,by decide +kernel,by decide +kernel⟩
theorem ok_teeth (D:DefAt K mg "are_teeth" s_are_teeth) (T:Bn mg) (V_MOST_TOOTH:∃ t,mg "MOST_TOOTH" = some (.int 7 t)):Callee P w K mg base "are_teeth" 1 ["teeth"] (sp_teeth K):=by
 refine D.callee zcP (fun _ _ _ _ _ _ us hl=>match us,hl with | [_],_=>rfl) (fun vs H Q E h => ?_) (fun f cdv A outer s H vs Q E hr h => ?_)
 ·obtain ⟨a,ts,rfl,_⟩:=h
  rfl
 ·obtain ⟨a,ts,rfl,ha,hl,q⟩:=h
  have S:=zcP
  unfold areTeeth at q
  refine ⟨_,zae (zaG (zak zbB (zab) (pv 0) (by with_unfolding_all rfl))
   (zaf (zaj (za8)))
   (zao))
  (zae (zaG (zak zcI (zah call_lenS rfl T.n_len PySem.boot_len (zaa (za1 (call_set1 rfl) rfl T.n_set boot_set (zaa (pv 0) zac)) zac)) (zah zap rfl T.n_len PySem.boot_len (zaa (pv 0) zac)) (zat _))
   (zaf (zaj (za8)))
   (zao))
  (zaf (zaj (zah (zcZ rfl) rfl T.n_all boot_all (zaa (zaT (own := ["tooth"]) (caps := []) rfl ⟨rfl,rfl,rfl,rfl,trivial⟩ (zaz (pv 0)) (fun _ _ _ _ _ _=>zal (i:=0) (zaH (by decide +kernel)) rfl (Or.inl rfl)) (fun _ _ _ _ _ _=>zbk) (fun _ _ _ _ _ _=>zfw zd8 zd8 (zab) (pv 0) (zbY rfl V_MOST_TOOTH))) zac))))),?_⟩
  refine ⟨_,rfl,_,_,rfl,.inl ha,rfl,zgj ts,_,rfl,?_⟩
  rw [if_pos rfl,in_zero]
  refine ite2 (fun hc => ?_) (fun hc => ?_)
  ·have h0:decide (0∈ts)=false:=by simpa using hc
   rw [h0] at q
   exact q H (Same.refl H)
  ·have h0:decide (0∈ts)=true:=by simpa using hc
   rw [h0,Bool.true_and] at q
   refine ⟨_,rfl,_,ts,rfl,ha,?_,fun p np => ?_⟩
   ·show ts.length + 1 < 4096
    omega
   have s1:Same H (upd H p (.set (fun k=>(firstMet (fun i=>ts.getD i 0) ts.length).any (· == k)) (many ts))):=Same.new np
   refine ⟨_,_,_,rfl,zad,_,rfl,_,_,rfl,.inl (s1.seq ha),rfl,_,rfl,?_⟩
   rw [List.length_map]
   refine ite2 (fun hm => ?_) (fun hm => ?_)
   ·have h1:¬ many ts=ts.length:=fun z=>by simp [z] at hm
    rw [decide_eq_false h1,Bool.false_and] at q
    exact q _ s1
   ·have h1:many ts=ts.length:=by
     have:(many ts:Int)=(ts.length:Int):=by simpa using hm
     omega
    rw [decide_eq_true h1,Bool.true_and] at q
    refine ⟨_,rfl,_,rfl,⟨_,s1.seq ha⟩,fun D hD => ?_⟩
    refine zb9 (capv := []) (L:=ts.map V.int) (by rfl) (zam K a (ts.map V.int)) (by rw [List.length_map]; exact big hl) hD ?_ (fun _=>true) (fun v=>match v with | .int t => .bl (inR t) | _ => .non) ?_ ?_ ?_
    ·exact fun H' s'=>(s1.trans s').seq ha
    ·exact fun v hv H' R s' h=>h H' (Same.refl _)
    ·intro v hv _ H' R s' h
     obtain ⟨t,ht,rfl⟩:=List.mem_map.mp hv
     have h:=h H' (Same.refl _)
     have h:R (.bl (decide (0<=t) && decide (t<=7))) H':=h
     refine ⟨_,rfl,_,_,rfl,rfl,_,rfl,?_⟩
     cases e:decide (0<=t) with
     | false =>
      rw [e] at h
      exact iteF h
     | true =>
      rw [e] at h
      exact iteT ⟨_,_,rfl,rfl,h⟩
    ·intro H' s' e
     refine ⟨_,ts.map inR,rfl,?_,?_⟩
     ·refine SqL.of ?_
      rw [e]
      congr 2
      rw [List.filter_eq_self.mpr (fun _ _=>rfl),List.map_map,List.map_map]
      rfl
     ·have:=q H' (s1.trans s')
      rw [List.all_map]
      exact this
theorem zbN {d l:V}:([("combs",d),("past",l)]:List (Str×V)).lookup (Str.ofString "combs")=some d:=rfl
theorem zeb {d l:V}:([("combs",d),("past",l)]:List (Str×V)).lookup (Str.ofString "past")=some l:=rfl
theorem putF_combs {y d l:V}:putF (Str.ofString "combs") y [("combs",d),("past",l)] = [(Str.ofString "combs",y),(Str.ofString "past",l)]:=by
 unfold putF
 rw [if_pos rfl]
theorem putF_new {y:V}:putF (Str.ofString "combs") y [] = [(Str.ofString "combs",y)]:=rfl
theorem putF_past {y d:V}:putF (Str.ofString "past") y [("combs",d)] = [(Str.ofString "combs",d),(Str.ofString "past",y)]:=by
 have h:¬ (Str.ofString "combs" = Str.ofString "past"):=by decide +kernel
 unfold putF
 rw [if_neg h]
 rfl
theorem two_len {a b:Str×V} : [a,b].length < 1000:=show 2 < 1000 by decide
noncomputable def sp_check (ea:Nat->Addr) (C:Addr):Sp:=fun vs H Q E=>∃ b l G cs past x,vs = [.ref b,.str x]/\Bk C G H b l cs past/\(if (cGet cs x).isSome=true then Q .non H else E (.ref (ea 4)) none H)
theorem zbz:FnScope ["self","name"] ["self","name"] (defScope s_Book_check_comb):=⟨rfl,rfl,rfl,by decide +kernel,rfl,by decide +kernel,by decide +kernel⟩
theorem ok_check {ea:Nat->Addr} {C:Addr} (D:MethAt K C "Book" "check_comb" s_Book_check_comb) (T:Bn mg) (BA:BookAt K C) (O_NoComb:Err K mg "NoComb" (ea 4)):Method P w K mg base C "check_comb" (CX1 P w) 1 ["self","name"] (sp_check ea C):=by
 refine D.meth1 zbz (fun _ _ _ _ _ _ us hl=>match us,hl with | [_,_],_=>rfl) (fun vs H Q E h => ?_) (fun f cdv A outer s H vs Q E hr h => ?_)
 ·obtain ⟨b,l,G,cs,past,x,rfl,_⟩:=h
  rfl
 ·obtain ⟨b,l,G,cs,past,x,rfl,B,q⟩:=h
  have S:=zbz
  have hu:=zcf hr
  obtain ⟨dx,d,hb,gd,kvs,hd,kr⟩:=B.ins
  refine ⟨_,zaf (zaG (zfv (zet hu (pv 1) (zbZ (pv 0) rfl)))
   (zaf (zbo O_NoComb rfl (zaa (zay) zac)))
   (zao)),?_⟩
  refine ⟨_,rfl,_,rfl,_,_,_,_,_,rfl,hb,BA.cls,BA.nc,zbN,d,_,rfl,DGet.k (k:=Sum.inr x) hd,_,rfl,?_⟩
  rw [kr.some]
  cases e:(cGet cs x).isSome with
  | false =>
   rw [e] at q
   exact iteT ⟨bigr rfl,q⟩
  | true =>
   rw [e] at q
   exact iteF q
noncomputable def sp_do (ea:Nat->Addr) (C:Addr):Sp:=fun vs H Q E=>∃ b l G cs past d D cs',vs = [.ref b,.ref d]/\Bk C G H b l cs past/\DictR D H d cs'/\Good cs'/\(∀ x,D x->x≠b/\x≠l/\H x≠none) /\
 (if 300<=past.length then E (.ref (ea 9)) none H else ∀ H',(∀ a,a≠b->a≠l->H' a=H a)->Bk C (fun a=>G a\/D a) H' b l cs' (past ++ [cs])->Q (.int ((past.length:Int) + 1)) H')
theorem zbX:FnScope ["self","combs"] ["self","combs"] (defScope s_Book_do_deed):=⟨rfl,rfl,rfl,by decide +kernel,rfl,by decide +kernel,by decide +kernel⟩
theorem ok_do {ea:Nat->Addr} {C:Addr} (D:MethAt K C "Book" "do_deed" s_Book_do_deed) (T:Bn mg) (BA:BookAt K C) (V_MOST_DEEDS:∃ t,mg "MOST_DEEDS" = some (.int 300 t)) (O_DeedsFull:Err K mg "DeedsFull" (ea 9)):Method P w K mg base C "do_deed" (CX1 P w) 1 ["self","combs"] (sp_do ea C):=by
 refine D.meth1 zbX (fun _ _ _ _ _ _ us hl=>match us,hl with | [_,_],_=>rfl) (fun vs H Q E h => ?_) (fun f cdv A outer s H vs Q E hr h => ?_)
 ·obtain ⟨b,l,G,cs,past,d,D,cs',rfl,_⟩:=h
  rfl
 ·obtain ⟨b,l,G,cs,past,d1,Dd,cs',rfl,B,dr,gd',nD,q⟩:=h
  have S:=zbX
  have hu:=zcf hr
  obtain ⟨dx,d,hb,dr0⟩:=B.ins
  obtain ⟨vs,hl,pr⟩:=B.lst
  have hlen:=pr.length
  have hbl:b≠l:=zg2 hb hl (by intro z; cases z)
  refine ⟨_,zae (zaG (zak zd9 (zah zap rfl T.n_len PySem.boot_len (zaa (zbZ (pv 0) rfl) zac)) (zbY rfl V_MOST_DEEDS) (zat _))
   (zaf (zbo O_DeedsFull rfl (zaa (zay) zac)))
   (zao))
  (zae (zbe (zdv PySem.F.plainAttrs_list PySem.F.slot_list_append PySem.F.type_list_append zaV (zbZ (pv 0) rfl) (zaa (zbZ (pv 0) rfl) zac)))
  (zae (zfZ (pv 0) (pv 1) rfl)
  (zaf (zaj (zah zap rfl T.n_len PySem.boot_len (zaa (zbZ (pv 0) rfl) zac)))))),?_⟩
  refine ⟨_,rfl,_,_,_,_,_,rfl,hb,BA.cls,BA.np,zeb,_,_,rfl,.inl (SqL.of hl),_,_,rfl,rfl,_,rfl,?_⟩
  refine ite2 (fun hc => ?_) (fun hc => ?_)
  ·have h300:300<=past.length:=by
    have:(300:Int)<=(vs.length:Int):=by simpa using hc
    omega
   rw [if_pos h300] at q
   exact ⟨bigr rfl,q⟩
  ·have h300:¬ 300<=past.length:=by
    have:¬ (300:Int)<=(vs.length:Int):=by simpa using hc
    omega
   rw [if_neg h300] at q
   refine ⟨_,rfl,_,_,_,_,_,rfl,hb,BA.cls,BA.np,zeb,.inl ⟨rfl,_,SqL.of hl⟩,_,rfl,_,_,_,_,_,rfl,hb,BA.cls,BA.nc,zbN,_,_,_,rfl,rfl,hl,?_,?_⟩
   ·exact Nat.lt_of_lt_of_le (by omega:vs.length < 1000) zbj
   have hb1:upd H l (.lst (vs ++ [.ref d])) b=some (.ins C dx [("combs",.ref d),("past",.ref l)]):=by rw [zai hbl]; exact hb
   refine ⟨_,rfl,_,rfl,_,_,_,_,rfl,hb1,BA.cls,BA.nc,two_len,?_⟩
   rw [putF_combs]
   have hb2:upd (upd H l (.lst (vs ++ [.ref d]))) b (.ins C dx [("combs",.ref d1),("past",.ref l)]) b=some (.ins C dx [("combs",.ref d1),("past",.ref l)]):=zad
   have hl2:upd (upd H l (.lst (vs ++ [.ref d]))) b (.ins C dx [("combs",.ref d1),("past",.ref l)]) l=some (.lst (vs ++ [.ref d])):=by rw [zai (Ne.symm hbl),zad]
   have off:∀ a,a≠b->a≠l->upd (upd H l (.lst (vs ++ [.ref d]))) b (.ins C dx [("combs",.ref d1),("past",.ref l)]) a=H a:=fun a n1 n2=>by rw [zai n1,zai n2]
   generalize upd (upd H l (.lst (vs ++ [.ref d]))) b (.ins C dx [("combs",.ref d1),("past",.ref l)])=H2 at hb2 hl2 off
   refine ⟨_,rfl,_,_,_,_,_,rfl,hb2,BA.cls,BA.np,zeb,_,_,rfl,.inl (SqL.of hl2),?_⟩
   rw [List.length_append,List.length_singleton,hlen]
   have sG:∀ a o,G a->H a=some o->H2 a=some o:=fun a o g e=>(off a (fun z=>B.nb (z ▸ g)) (fun z=>B.nl (z ▸ g))).trans e
   have sD:∀ a o,Dd a->H a=some o->H2 a=some o:=fun a o g e=>(off a (nD a g).1 (nD a g).2.1).trans e
   refine q H2 off ⟨?_,?_,?_,⟨dx,d1,hb2,dr.mono sD fun _ g => .inr g⟩,⟨_,hl2,?_⟩,gd',?_,?_⟩
   ·rintro x (g | g)
    ·rw [off x (fun z=>B.nb (z ▸ g)) (fun z=>B.nl (z ▸ g))]; exact B.live x g
    ·rw [off x (nD x g).1 (nD x g).2.1]; exact (nD x g).2.2
   ·rintro (g | g)
    ·exact B.nb g
    ·exact (nD b g).1 rfl
   ·rintro (g | g)
    ·exact B.nl g
    ·exact (nD l g).2.1 rfl
   ·exact Paired.snoc (Paired.mono (fun _ _ ⟨d,e,r⟩=>⟨d,e,r.mono sG fun _ g => .inl g⟩) pr) ⟨d,rfl,dr0.mono sG fun _ g => .inl g⟩
   ·intro p hp
    rcases List.mem_append.mp hp with z | z
    ·exact B.goods p z
    ·rw [List.mem_singleton.mp z]; exact B.good
   ·rw [List.length_append,List.length_singleton]; omega
noncomputable def sp_deeds (C:Addr):Sp:=fun vs H Q _=>∃ b l G cs past,vs = [.ref b]/\Bk C G H b l cs past/\Q (.int (past.length:Int)) H
theorem zcv:FnScope ["self"] ["self"] (defScope s_Book_deeds):=⟨rfl,rfl,rfl,by decide +kernel,rfl,by decide +kernel,by decide +kernel⟩
theorem ok_deeds {C:Addr} (D:MethAt K C "Book" "deeds" s_Book_deeds) (T:Bn mg) (BA:BookAt K C):Method P w K mg base C "deeds" CX0 1 ["self"] (sp_deeds C):=by
 refine D.meth0 zcv (fun _ _ _ _ _ _ us hl=>match us,hl with | [_],_=>rfl) (fun vs H Q E h => ?_) (fun f cdv A outer s H vs Q E hr h => ?_)
 ·obtain ⟨b,l,G,cs,past,rfl,_⟩:=h
  rfl
 ·obtain ⟨b,l,G,cs,past,rfl,B,q⟩:=h
  have S:=zcv
  obtain ⟨dx,d,hb,dr0⟩:=B.ins
  obtain ⟨vs,hl,pr⟩:=B.lst
  refine ⟨_,zaf (zaj (zah zap rfl T.n_len PySem.boot_len (zaa (zbZ (pv 0) rfl) zac))),?_⟩
  refine ⟨_,rfl,_,_,_,_,_,rfl,hb,BA.cls,BA.np,zeb,_,_,rfl,.inl (SqL.of hl),?_⟩
  rw [pr.length]
  exact q
noncomputable def sp_names (C:Addr):Sp:=fun vs H Q _=>∃ b l G cs past,vs = [.ref b]/\Bk C G H b l cs past/\∀ p (nm:List Str),H p=none->nm.Perm (cs.map (·.1))->sortedS nm=true->Q (.ref p) (upd H p (.lst (nm.map V.str)))
theorem zcu:FnScope ["self"] ["self"] (defScope s_Book_names):=⟨rfl,rfl,rfl,by decide +kernel,rfl,by decide +kernel,by decide +kernel⟩
theorem ok_names {C:Addr} (D:MethAt K C "Book" "names" s_Book_names) (T:Bn mg) (BA:BookAt K C):Method P w K mg base C "names" CX0 1 ["self"] (sp_names C):=by
 refine D.meth0 zcu (fun _ _ _ _ _ _ us hl=>match us,hl with | [_],_=>rfl) (fun vs H Q E h => ?_) (fun f cdv A outer s H vs Q E hr h => ?_)
 ·obtain ⟨b,l,G,cs,past,rfl,_⟩:=h
  rfl
 ·obtain ⟨b,l,G,cs,past,rfl,B,q⟩:=h
  have S:=zcu
  obtain ⟨dx,d,hb,gd,kvs,hd,kr⟩:=B.ins
  refine ⟨_,zaf (zaj (zah (call_sortedD rfl) rfl T.n_sorted boot_sorted (zaa (zbZ (pv 0) rfl) zac))),?_⟩
  refine ⟨_,rfl,_,_,_,_,_,rfl,hb,BA.cls,BA.nc,zbN,d,kvs,cs.map (·.1),rfl,.inl hd,kr.keys,?_,q⟩
  rw [List.length_map]
  have:=B.good.len
  omega
noncomputable def sp_bteeth (ea:Nat->Addr) (C:Addr):Sp:=fun vs H Q E=>∃ b l G cs past x,vs = [.ref b,.str x]/\Bk C G H b l cs past/\(match cGet cs x with | some ts=>∀ p,H p=none->Q (.ref p) (upd H p (.lst (ts.map V.int))) | none=>E (.ref (ea 4)) none H)
theorem zct:FnScope ["self","name"] ["self","name"] (defScope s_Book_teeth):=⟨rfl,rfl,rfl,by decide +kernel,rfl,by decide +kernel,by decide +kernel⟩
theorem ok_bteeth {ea:Nat->Addr} {C:Addr} (D:MethAt K C "Book" "teeth" s_Book_teeth) (T:Bn mg) (BA:BookAt K C) (M_check_comb:Method P w K mg base C "check_comb" (CX1 P w) 1 ["self","name"] (sp_check ea C)):Method P w K mg base C "teeth" (CX1 P w) 2 ["self","name"] (sp_bteeth ea C):=by
 refine D.meth1 zct (fun _ _ _ _ _ _ us hl=>match us,hl with | [_,_],_=>rfl) (fun vs H Q E h => ?_) (fun f cdv A outer s H vs Q E hr h => ?_)
 ·obtain ⟨b,l,G,cs,past,x,rfl,_⟩:=h
  rfl
 ·obtain ⟨b,l,G,cs,past,x,rfl,B,q⟩:=h
  have S:=zct
  have hu:=zcf hr
  have B_cls:=BA.cls
  obtain ⟨dx,d,hb,gd,kvs,hd,kr⟩:=id B.ins
  refine ⟨_,zae (zbe (zfF (pv 0) B_cls M_check_comb (hr.mono (by decide)) (by first | exact zd7 | exact zaQ | exact zca | exact za5) (zaa (pv 1) zac)))
  (zaf (zaj (za1 zbC rfl T.n_list boot_list (zaa (zeW hu (zbZ (pv 0) rfl) (pv 1) (fun _ _=>rfl)) zac)))),?_⟩
  refine ⟨_,rfl,_,_,_,rfl,hb,rfl,_,rfl,b,l,G,cs,past,x,rfl,B,?_⟩
  rcases kr.val (x:=x) with ⟨e1,e2⟩ | ⟨ts,t,e1,e2,e3,e4⟩
  ·rw [e1] at q ⊢
   exact q
  ·rw [e1] at q ⊢
   refine iteT ?_
   refine ⟨_,rfl,_,_,_,_,_,rfl,hb,BA.cls,BA.nc,zbN,_,rfl,d,_,rfl,?_,_,_,rfl,.inl (SqL.of e3),q⟩
   rw [<- e2]
   exact DGet.k (k:=Sum.inr x) hd
noncomputable def sp_init (C:Addr):Sp:=fun vs H Q _=>∃ b dx,vs = [.ref b]/\H b=some (.ins C dx [])/\∀ H' l d,Mv b b (fun _=>False) (fun a=>a=d) H H'->H l=none->H d=none->Bk C (fun a=>a=d) H' b l [] []->Q .non H'
theorem zbS:FnScope ["self"] ["self"] (defScope s_Book___init__):=⟨rfl,rfl,rfl,by decide +kernel,rfl,by decide +kernel,by decide +kernel⟩
theorem ok_init {C:Addr} {f:Addr} {fd:FuncData} (F:Fun K "__init__" "Book.__init__" s_Book___init__ f fd) (T:Bn mg) (BA:BookAt K C):FnOk P w K mg base CX0 1 f fd ["self"] (sp_init C):=by
 refine F.ok zbS (fun vs H Q E h => ?_) (fun cdv A outer s H vs Q E hr h => ?_)
 ·obtain ⟨b,dx,rfl,_⟩:=h
  rfl
 ·obtain ⟨b,dx,rfl,hb,q⟩:=h
  have S:=zbS
  refine ⟨_,zae (zfZ (pv 0) (zcU) rfl)
  (zaf (zfZ (pv 0) (za0 (zac)) rfl)),?_⟩
  refine fun d nd => ?_
  have hbd:b≠d:=zaq hb nd
  have hb1:upd H d (.dK []) b=some (.ins C dx []):=by rw [zai hbd]; exact hb
  refine ⟨_,rfl,_,_,_,_,rfl,hb1,BA.cls,BA.nc,by decide,?_⟩
  rw [putF_new]
  refine ⟨bigr rfl,fun l nl => ?_⟩
  have hbl:b≠l:=fun z=>by rw [<- z,zad] at nl; cases nl
  have nl1:upd H d (.dK []) l=none:=by rw [zai (Ne.symm hbl)] at nl; exact nl
  have hdl:d≠l:=fun z=>by rw [<- z,zad] at nl1; cases nl1
  have hln:H l=none:=by rw [zai (Ne.symm hdl)] at nl1; exact nl1
  have hb2:upd (upd (upd H d (.dK [])) b (.ins C dx [(Str.ofString "combs",V.ref d)])) l (.lst []) b=some (.ins C dx [("combs",.ref d)]):=by rw [zai hbl,zad]
  refine ⟨_,rfl,_,_,_,_,rfl,hb2,BA.cls,BA.np,(show 1 < 1000 by decide),?_⟩
  rw [putF_past]
  have hb3:upd (upd (upd (upd H d (.dK [])) b (.ins C dx [(Str.ofString "combs",V.ref d)])) l (.lst [])) b (.ins C dx [(Str.ofString "combs",V.ref d),(Str.ofString "past",V.ref l)]) b=some (.ins C dx [("combs",.ref d),("past",.ref l)]):=zad
  have hd3:upd (upd (upd (upd H d (.dK [])) b (.ins C dx [(Str.ofString "combs",V.ref d)])) l (.lst [])) b (.ins C dx [(Str.ofString "combs",V.ref d),(Str.ofString "past",V.ref l)]) d=some (.dK []):=by
   rw [zai (Ne.symm hbd),zai hdl,zai (Ne.symm hbd),zad]
  have hl3:upd (upd (upd (upd H d (.dK [])) b (.ins C dx [(Str.ofString "combs",V.ref d)])) l (.lst [])) b (.ins C dx [(Str.ofString "combs",V.ref d),(Str.ofString "past",V.ref l)]) l=some (.lst []):=by
   rw [zai (Ne.symm hbl),zad]
  have off:∀ a o,H a=some o->a≠b->upd (upd (upd (upd H d (.dK [])) b (.ins C dx [(Str.ofString "combs",V.ref d)])) l (.lst [])) b (.ins C dx [(Str.ofString "combs",V.ref d),(Str.ofString "past",V.ref l)]) a=some o:=fun a o e n=>by
   rw [zai n,zai (zaq e hln),zai n,zai (zaq e nd)]; exact e
  generalize upd (upd (upd (upd H d (.dK [])) b (.ins C dx [(Str.ofString "combs",V.ref d)])) l (.lst [])) b (.ins C dx [(Str.ofString "combs",V.ref d),(Str.ofString "past",V.ref l)])=H3 at hb3 hd3 hl3 off
  refine q H3 l d ⟨fun a o e n _=>off a o e n,fun a h => ?_,fun a g => .inr (by rw [g]; exact nd)⟩ hln nd ⟨fun x g => ?_,hbd,fun z=>hdl z.symm,⟨dx,d,hb3,rfl,[],hd3,.nil⟩,⟨[],hl3,.nil⟩,good_nil,by simp,by decide⟩
  ·by_cases z:a=b
   ·rw [z,hb3]; simp
   ·cases e:H a with
    | none=>exact absurd e h
    | some o=>rw [off a o e z]; simp
  ·rw [show x=d from g,hd3]; simp
noncomputable def sp_set (ea:Nat->Addr) (C:Addr):Sp:=fun vs H Q E=>∃ b l G cs past x a ts,vs = [.ref b,.str x,.ref a]/\Bk C G H b l cs past/\SqL K H a (ts.map V.int)/\areTeeth ts=true/\isName x=true/\(cs.length < 8\/(cGet cs x).isSome=true)/\Deed ea C G H b l cs past Q E (full past (cPut cs x (canon ts)))
theorem zbR:FnScope ["self","name","teeth","combs"] ["self","name","teeth"] (defScope s_Book_set_comb):=⟨rfl,rfl,rfl,by decide +kernel,rfl,by decide +kernel,by decide +kernel⟩
theorem ok_set {ea:Nat->Addr} {C:Addr} (D:MethAt K C "Book" "set_comb" s_Book_set_comb) (T:Bn mg) (BA:BookAt K C) (M_do_deed:Method P w K mg base C "do_deed" (CX1 P w) 1 ["self","combs"] (sp_do ea C)):Method P w K mg base C "set_comb" (CX1 P w) 2 ["self","name","teeth"] (sp_set (K:=K) ea C):=by
 refine D.meth1 zbR (fun _ _ _ _ _ _ us hl=>match us,hl with | [_,_,_],_=>rfl) (fun vs H Q E h => ?_) (fun f cdv A outer s H vs Q E hr h => ?_)
 ·obtain ⟨b,l,G,cs,past,x,a,ts,rfl,_⟩:=h
  rfl
 ·obtain ⟨b,l,G,cs,past,x,a,ts,rfl,B,ha,ht,hx,hn,q⟩:=h
  have S:=zbR
  have hu:=zcf hr
  have B_cls:=BA.cls
  obtain ⟨t0,tn,tr⟩:=teeth_iff.mp ht
  obtain ⟨dx,d,hb,gd,kvs,hd,kr⟩:=id B.ins
  refine ⟨_,zae (zau (i:=3) S.nd rfl (Or.inl rfl) (za1 call_dictD rfl T.n_dict boot_dict (zaa (zbZ (pv 0) rfl) zac)))
  (zae (zd6 hu (pv 3) (pv 1) (zah zcR rfl T.n_sorted boot_sorted (zaa (pv 2) zac)) rfl)
  (zaf (zaj (zfF (pv 0) B_cls M_do_deed (hr.mono (by decide)) (by first | exact zd7 | exact zaQ | exact zca | exact za5) (zaa (pv 3) zac))))),?_⟩
  refine ⟨_,rfl,_,_,_,_,_,rfl,hb,BA.cls,BA.nc,zbN,d,kvs,rfl,.inl hd,fun p np => ?_⟩
  have s1:Same H (upd H p (.dK kvs)):=Same.new np
  refine ⟨_,rfl,a,ts,rfl,s1.seq ha,?_,fun r ns nr hp hs => ?_⟩
  ·have:=zc4 tn tr
   omega
  have hc:=zeh hp hs tn tr
  subst hc
  have npr:p≠r:=fun z=>by rw [<- z,zad] at nr; cases nr
  have hr0:H r=none:=s1.free nr
  have s2:Same H (upd (upd H p (.dK kvs)) r (.lst ((canon ts).map V.int))):=s1.put hr0
  have hp2:upd (upd H p (.dK kvs)) r (.lst ((canon ts).map V.int)) p=some (.dK kvs):=by rw [zai npr,zad]
  have hkl:kvs.length < sizeLine:=by
   have:=kr.length
   have:=B.good.len
   exact Nat.lt_of_lt_of_le (by omega:kvs.length < 1000) zbj
  refine ⟨_,rfl,_,rfl,p,_,rfl,DPut.k (k:=Sum.inr x) hp2 hkl,?_⟩
  have s3:Same H (upd (upd (upd H p (.dK kvs)) r (.lst ((canon ts).map V.int))) p (.dK (putK kvs (Sum.inr x) (.ref r)))):=s2.put np
  have hr3:upd (upd (upd H p (.dK kvs)) r (.lst ((canon ts).map V.int))) p (.dK (putK kvs (Sum.inr x) (.ref r))) r=some (.lst ((canon ts).map V.int)):=by rw [zai (Ne.symm npr),zad]
  have hp3:upd (upd (upd H p (.dK kvs)) r (.lst ((canon ts).map V.int))) p (.dK (putK kvs (Sum.inr x) (.ref r))) p=some (.dK (putK kvs (Sum.inr x) (.ref r))):=zad
  generalize upd (upd (upd H p (.dK kvs)) r (.lst ((canon ts).map V.int))) p (.dK (putK kvs (Sum.inr x) (.ref r)))=H3 at s3 hr3 hp3
  have B3:=B.same s3
  obtain ⟨lb,ll⟩:=B.liveB
  refine ⟨_,rfl,b,dx,_,rfl,s3 _ _ hb,rfl,_,rfl,b,l,G,cs,past,p,fun a=>G a\/a=p\/a=r,cPut cs x (canon ts),rfl,B3,⟨.inr (.inl rfl),_,hp3,?_⟩,B.good.put hx (gt_canon t0) hn,?_,?_⟩
  ·exact (kr.mono (fun a o _ e=>s3 a o e) fun _ g => .inl g).put hr3 (.inr (.inr rfl))
  ·rintro y (g | g | g)
   ·exact ⟨fun z=>B.nb (z ▸ g),fun z=>B.nl (z ▸ g),B3.live y g⟩
   ·subst g
    exact ⟨fun z=>lb (z ▸ np),fun z=>ll (z ▸ np),by rw [hp3]; simp⟩
   ·subst g
    exact ⟨fun z=>lb (z ▸ hr0),fun z=>ll (z ▸ hr0),by rw [hr3]; simp⟩
  ·unfold full at q
   by_cases h3:300<=past.length
   ·rw [if_pos h3] at q ⊢
    exact q H3 s3
   ·rw [if_neg h3] at q ⊢
    intro H4 off B4
    refine q H4 _ ⟨fun a o e n1 n2=>(off a n1 n2).trans (s3 a o e),fun a h => ?_,fun a g => ?_⟩ B4
    ·obtain ⟨lb4,ll4⟩:=B4.liveB
     by_cases z:a=b
     ·rw [z]; exact lb4
     ·by_cases z2:a=l
      ·rw [z2]; exact ll4
      ·rw [off a z z2]; exact zex s3 a h
    ·rcases g with g | g | g | g
     ·exact .inl g
     ·exact .inl g
     ·rw [g]; exact .inr np
     ·rw [g]; exact .inr hr0
noncomputable def sp_put (ea:Nat->Addr) (C:Addr):Sp:=fun vs H Q E=>∃ b l G cs past x a ts,vs = [.ref b,.str x,.ref a]/\Bk C G H b l cs past/\SqL K H a (ts.map V.int)/\x.length<=sizeLine/\ts.length<=1000/\Deed ea C G H b l cs past Q E (putD cs past x ts)
theorem zdc:FnScope ["self","name","teeth"] ["self","name","teeth"] (defScope s_Book_put):=⟨rfl,rfl,rfl,by decide +kernel,rfl,by decide +kernel,by decide +kernel⟩
theorem ok_put {ea:Nat->Addr} {C:Addr} (D:MethAt K C "Book" "put" s_Book_put) (T:Bn mg) (BA:BookAt K C) (V_MOST_COMBS:∃ t,mg "MOST_COMBS" = some (.int 8 t)) (O_BadName:Err K mg "BadName" (ea 0)) (O_BadTeeth:Err K mg "BadTeeth" (ea 1)) (O_NameTaken:Err K mg "NameTaken" (ea 2)) (O_BookFull:Err K mg "BookFull" (ea 3))
  (C_is_name:Callee P w K mg base "is_name" 2 ["text"] sp_name) (C_are_teeth:Callee P w K mg base "are_teeth" 1 ["teeth"] (sp_teeth K)) (M_set_comb:Method P w K mg base C "set_comb" (CX1 P w) 2 ["self","name","teeth"] (sp_set (K:=K) ea C)):Method P w K mg base C "put" (CX1 P w) 3 ["self","name","teeth"] (sp_put (K:=K) ea C):=by
 refine D.meth1 zdc (fun _ _ _ _ _ _ us hl=>match us,hl with | [_,_,_],_=>rfl) (fun vs H Q E h => ?_) (fun f cdv A outer s H vs Q E hr h => ?_)
 ·obtain ⟨b,l,G,cs,past,x,a,ts,rfl,_⟩:=h
  rfl
 ·obtain ⟨b,l,G,cs,past,x,a,ts,rfl,B,ha,hxl,htl,q⟩:=h
  have S:=zdc
  have hu:=zcf hr
  have B_cls:=BA.cls
  unfold putD at q
  refine ⟨_,zae (zaG (zaY (zaX (zaA C_is_name (hr.mono (by decide)) rfl (zaa (pv 1) zac))))
   (zaf (zbo O_BadName rfl (zaa (zay) zac)))
   (zao))
  (zae (zaG (zaY (zaX (zaA C_are_teeth (hr.mono (by decide)) rfl (zaa (pv 2) zac))))
   (zaf (zbo O_BadTeeth rfl (zaa (zay) zac)))
   (zao))
  (zae (zaG (zfv (zgG hu (pv 1) (zbZ (pv 0) rfl)))
   (zaf (zbo O_NameTaken rfl (zaa (zay) zac)))
   (zao))
  (zae (zaG (zak zd9 (zah zeK rfl T.n_len PySem.boot_len (zaa (zbZ (pv 0) rfl) zac)) (zbY rfl V_MOST_COMBS) (zat _))
   (zaf (zbo O_BookFull rfl (zaa (zay) zac)))
   (zao))
  (zaf (zaj (zfF (pv 0) B_cls M_set_comb (hr.mono (by decide)) (by first | exact zd7 | exact zaQ | exact zca | exact za5) (zaa (pv 1) (zaa (pv 2) zac)))))))),?_⟩
  refine ⟨_,rfl,x,rfl,hxl,fun H1 s1=>⟨_,rfl,?_⟩⟩
  cases e1:isName x with
  | false =>
   rw [e1,if_pos rfl] at q
   exact iteT ⟨bigr rfl,q H1 s1⟩
  | true =>
   rw [e1,if_neg (by decide)] at q
   refine iteF ?_
   refine ⟨_,rfl,a,ts,rfl,s1.seq ha,htl,fun H2 s2=>⟨_,rfl,?_⟩⟩
   have s12:=s1.trans s2
   cases e2:areTeeth ts with
   | false =>
    rw [e2,if_pos rfl] at q
    exact iteT ⟨bigr rfl,q H2 s12⟩
   | true =>
    rw [e2,if_neg (by decide)] at q
    refine iteF ?_
    have B2:=B.same s12
    obtain ⟨dx,d,hb,gd,kvs,hd,kr⟩:=id B2.ins
    refine ⟨_,rfl,_,rfl,_,_,_,_,_,rfl,hb,BA.cls,BA.nc,zbN,d,_,rfl,DGet.k (k:=Sum.inr x) hd,_,rfl,?_⟩
    rw [kr.some]
    cases e3:(cGet cs x).isSome with
    | true =>
     rw [e3,if_pos rfl] at q
     exact iteT ⟨bigr rfl,q H2 s12⟩
    | false =>
     rw [e3,if_neg (by decide)] at q
     refine iteF ?_
     refine ⟨_,rfl,_,_,_,_,_,rfl,hb,BA.cls,BA.nc,zbN,_,_,rfl,hd,_,_,rfl,rfl,_,rfl,?_⟩
     rw [kr.length]
     refine ite2 (fun hc => ?_) (fun hc => ?_)
     ·have h8:8<=cs.length:=by
       have:(8:Int)<=(cs.length:Int):=by simpa using hc
       omega
      rw [if_pos h8] at q
      exact ⟨bigr rfl,q H2 s12⟩
     ·have h8:¬ 8<=cs.length:=by
       have:¬ (8:Int)<=(cs.length:Int):=by simpa using hc
       omega
      rw [if_neg h8] at q
      exact ⟨_,rfl,b,dx,_,rfl,hb,rfl,_,rfl,_,rfl,b,l,G,cs,past,x,a,ts,rfl,B2,s12.seq ha,e2,e1,.inl (by omega),q.from s12⟩
noncomputable def worths:List Int := [1,2,4,8,16,32,64,128]
theorem at_worths {t:Int} (h0:0<=t) (h7:t<=7):atI (worths.map V.int) t=some (.int (pw t)):=by
 have:t=0\/t=1\/t=2\/t=3\/t=4\/t=5\/t=6\/t=7:=by omega
 rcases this with h | h | h | h | h | h | h | h <;> subst h <;> rfl
noncomputable def sp_worth (K:PySem.W.Frag):Sp:=fun vs H Q _=>∃ (a:Addr) (ts:List Int),vs = [.ref a]/\SqL K H a (ts.map V.int)/\(∀ t∈ts,0<=t/\t<=7)/\ts.length<=1000/\∀ H',Same H H'->Q (.int (worth ts)) H'
theorem zb6:FnScope ["teeth"] ["teeth"] (defScope s_teeth_worth):=⟨rfl,rfl,rfl,by decide +kernel,rfl,by decide +kernel,by decide +kernel⟩
theorem ok_worth {tw:Addr} (D:DefAt K mg "teeth_worth" s_teeth_worth) (T:Bn mg) (G_TOOTH_WORTH:mg "TOOTH_WORTH" = some (.ref tw)) (HTW:∀ H,SqT K H tw (worths.map V.int)):Callee P w K mg base "teeth_worth" 1 ["teeth"] (sp_worth K):=by
 refine D.callee zb6 (fun _ _ _ _ _ _ us hl=>match us,hl with | [_],_=>rfl) (fun vs H Q E h => ?_) (fun f cdv A outer s H vs Q E hr h => ?_)
 ·obtain ⟨a,ts,rfl,_⟩:=h
  rfl
 ·obtain ⟨a,ts,rfl,ha,hr7,hl,q⟩:=h
  have S:=zb6
  refine ⟨_,zaf (zaj (zah (zeJ rfl) rfl T.n_sum boot_sum (zaa (zaT (own := ["tooth"]) (caps := []) rfl ⟨rfl,rfl,rfl,rfl,trivial⟩ (zaz (pv 0)) (fun _ _ _ _ _ _=>zal (i:=0) (zaH (by decide +kernel)) rfl (Or.inl rfl)) (fun _ _ _ _ _ _=>zbk) (fun _ _ _ _ _ _=>zar (zce K rfl) (zbm rfl G_TOOTH_WORTH) (pv 0) (fun _ _=>rfl))) zac))),?_⟩
  refine ⟨_,rfl,_,rfl,⟨_,ha⟩,fun D hD => ?_⟩
  refine zb9 (capv := []) (L:=ts.map V.int) (by rfl) (zam K a (ts.map V.int)) (by rw [List.length_map]; exact big hl) hD ?_ (fun _=>true) (fun v=>match v with | .int t => .int (pw t) | _ => .non) ?_ ?_ ?_
  ·exact fun H' s'=>s'.seq ha
  ·exact fun v hv H' R s' h=>h H' (Same.refl _)
  ·intro v hv _ H' R s' h
   obtain ⟨t,ht,rfl⟩:=List.mem_map.mp hv
   have h:R (.int (pw t)) H':=h H' (Same.refl _)
   obtain ⟨h0,h7⟩:=hr7 t ht
   exact ⟨_,rfl,_,_,_,_,rfl,rfl,HTW H',at_worths h0 h7,h⟩
  ·intro H' s' e
   refine ⟨_,ts.map pw,rfl,?_,q H' s'⟩
   refine SqL.of ?_
   rw [e]
   congr 2
   rw [List.filter_eq_self.mpr (fun _ _=>rfl),List.map_map,List.map_map]
   rfl
noncomputable def sp_steps (ea:Nat->Addr) (C:Addr):Sp:=fun vs H Q E=>∃ b l G cs past n,vs = [.ref b,.int n]/\Bk C G H b l cs past /\
 (if 0<=n/\n < 128 then ∀ p H' ws,Same H H'->H p=none->H' p=some (.lst ws)->(∀ nm:List Str,nm.Perm (cs.map (·.1))->sortedS nm=true->StepsR H' ws (stepsOf (byNames cs nm) n))->Q (.ref p) H' else E (.ref (ea 11)) none H)
theorem zb7:FnScope ["book","shape","steps","name","worth"] ["book","shape"] (defScope s_shape_steps):=⟨rfl,rfl,rfl,by decide +kernel,rfl,by decide +kernel,by decide +kernel⟩
theorem ok_steps {ea:Nat->Addr} {C:Addr} (D:DefAt K mg "shape_steps" s_shape_steps) (T:Bn mg) (BA:BookAt K C) (V_SHAPES:∃ t,mg "SHAPES" = some (.int 128 t)) (O_BadShape:Err K mg "BadShape" (ea 11)) (C_teeth_worth:Callee P w K mg base "teeth_worth" 1 ["teeth"] (sp_worth K))
  (M_names:Method P w K mg base C "names" CX0 1 ["self"] (sp_names C)) (M_teeth:Method P w K mg base C "teeth" (CX1 P w) 2 ["self","name"] (sp_bteeth ea C)):Callee1 P w K mg base "shape_steps" 3 ["book","shape"] (sp_steps ea C):=by
 refine D.callee1 zb7 (fun _ _ _ _ _ _ us hl=>match us,hl with | [_,_],_=>rfl) (fun vs H Q E h => ?_) (fun f cdv A outer s H vs Q E hr h => ?_)
 ·obtain ⟨b,l,G,cs,past,n,rfl,_⟩:=h
  rfl
 ·obtain ⟨b,l,G,cs,past,n,rfl,B,q⟩:=h
  have S:=zb7
  have hu:=zcf hr
  have B_cls:=BA.cls
  refine ⟨_,zae (zaG (zaY (zd4 zd8 zeY (zab) (pv 1) (zbY rfl V_SHAPES)))
   (zaf (zbo O_BadShape rfl (zaa (zay) zac)))
   (zao))
  (zae (zaG (zak zcx (zav zbh (pv 1) (zab)) (zab) (zat _))
   (zaf (zaj (za0 (zaa (zbq (zaa (zay) (zaa (zav zcb (pv 1) (zab)) zac))) zac))))
   (zao))
  (zae (zau (i:=2) S.nd rfl (Or.inl rfl) (za0 (zac)))
  (zae (zaZ PassesOwn.leaving rfl (zaz (pe_mt0 (pv 0) B_cls M_names (hr.mono (by decide)) (by first | exact zd7 | exact zaQ | exact zca | exact za5))) (zal (i:=3) S.nd rfl (Or.inl rfl))
   (zae (zau (i:=4) S.nd rfl (Or.inl rfl) (zaA C_teeth_worth (hr.mono (by decide)) rfl (zaa (zfF (pv 0) B_cls M_teeth (hr.mono (by decide)) (by first | exact zd7 | exact zaQ | exact zca | exact za5) (zaa (pv 3) zac)) zac)))
   (zaf (zaG (zak zcx (zav zf6 (pv 1) (pv 4)) (zab) (zat _))
    (zaf (zbe (zdv PySem.F.plainAttrs_list PySem.F.slot_list_append PySem.F.type_list_append zaV (pv 2) (zaa (zbq (zaa (pv 3) (zaa (zav zcb (zav zaO (pv 1) (pv 4)) (zab)) zac))) zac))))
    (zao)))))
  (zaf (zaj (pv 2)))))),?_⟩
  refine ⟨_,rfl,_,_,rfl,rfl,_,rfl,?_⟩
  refine ite2 (fun h0 => ?_) (fun h0 => ?_)
  rotate_left
  ·have h0:¬ (0:Int)<=n:=by simpa using h0
   rw [if_neg (fun z=>h0 z.1)] at q
   exact ⟨_,rfl,iteT ⟨bigr rfl,q⟩⟩
  have h0:(0:Int)<=n:=by simpa using h0
  refine ⟨_,_,rfl,rfl,_,rfl,?_⟩
  by_cases h1:n < 128
  case neg =>
   rw [if_neg (fun z=>h1 z.2)] at q
   rw [decide_eq_false h1]
   exact iteT ⟨bigr rfl,q⟩
  rw [if_pos ⟨h0,h1⟩] at q
  rw [decide_eq_true h1]
  refine iteF ?_
  have p2:(0:Int) < 2:=by decide
  refine ⟨_,rfl,_,_,rfl,rfl,p2,rfl,_,rfl,?_⟩
  refine ite2 (fun hc => ?_) (fun hc => ?_)
  ·have hc:n % 2=1:=by simpa using hc
   refine ⟨_,rfl,_,_,rfl,rfl,⟨p2,by decide⟩,bigr rfl,fun t nt=>⟨bigr rfl,fun p np => ?_⟩⟩
   have s1:Same H (upd H t (.tup [.str "",.int (n / 2)])):=Same.new nt
   refine q p _ [.ref t] (s1.trans (Same.new np)) (s1.free np) zad fun nm _ _ => ?_
   rw [zeo hc]
   refine ⟨⟨t,rfl,?_⟩,trivial⟩
   rw [zai (fun z=>by rw [<- z,zad] at np; cases np)]
   exact zad
  ·have hc:¬ n % 2=1:=by simpa using hc
   refine ⟨bigr rfl,fun pl npl => ?_⟩
   have s1:Same H (upd H pl (.lst [])):=Same.new npl
   obtain ⟨dx,d,hb,_⟩:=id (B.same s1).ins
   refine ⟨_,rfl,b,dx,_,rfl,hb,rfl,b,l,G,cs,past,rfl,B.same s1,fun pn nm npn hnp hns=>⟨_,rfl,⟨_,SqL.of zad⟩,?_⟩⟩
   have nlp:pn≠pl:=fun z=>by rw [z,zad] at npn; cases npn
   have s2:Same H (upd (upd H pl (.lst [])) pn (.lst (nm.map V.str))):=s1.trans (Same.new npn)
   have hnl:nm.length<=8:=by
    have:=hnp.length_eq
    rw [List.length_map] at this
    have:=B.good.len
    omega
   refine zbG (zam K pn (nm.map V.str)) (fun i σ Hx=>Same H Hx/\Hx pn=some (.lst (nm.map V.str))/\∃ ws x3 x4,σ = [some (.ref b),some (.int n),some (.ref pl),x3,x4]/\Hx pl=some (.lst ws)/\ws.length<=i/\StepsR Hx ws (stepsOf (byNames cs (nm.take i)) n)) ⟨s2,zad,[],_,_,rfl,(by rw [zai nlp.symm]; exact zad),Nat.le_refl _,?_⟩ (fun i σ Hx _ h=>SqL.of h.2.1) ?_ ?_
   ·rw [List.take_zero]
    show StepsR _ [] (stepsOf [] n)
    rw [steps_nil hc]
    trivial
   ·rintro i x σ Hx hx ⟨sx,hpn,ws,x3,x4,rfl,hpl,hwl,hst⟩
    rw [List.getElem?_map] at hx
    cases hk:nm[i]? with
    | none=>rw [hk] at hx; cases hx
    | some y =>
     rw [hk] at hx
     cases hx
     have hi:i < nm.length:=(List.getElem?_eq_some_iff.mp hk).1
     have hy:y∈cs.map (·.1):=hnp.mem_iff.mp (List.mem_of_getElem? hk)
     cases hts:cGet cs y with
     | none=>exact absurd hy (get_none.mp hts)
     | some ts =>
      have gts:GT ts:=(B.good.ok _ (zcg hts)).2
      obtain ⟨dx2,d2,hb2,_⟩:=id (B.same sx).ins
      refine ⟨_,rfl,b,dx2,_,rfl,hb2,rfl,_,rfl,b,l,G,cs,past,y,rfl,B.same sx,?_⟩
      rw [hts]
      intro p3 np3
      refine ⟨p3,ts,rfl,SqL.of zad,zdw gts,by have:=zgf gts; omega,fun H4 s4 => ?_⟩
      have s34:Same Hx H4:=(Same.new np3).trans s4
      have eN:byNames cs (nm.take (i + 1))=byNames cs (nm.take i) ++ [(y,ts)]:=by
       rw [zaB hk,byNames_snoc hts]
      refine ⟨_,rfl,_,rfl,_,_,rfl,rfl,rfl,_,rfl,?_⟩
      refine ite2 (fun hz => ?_) (fun hz => ?_)
      ·have hz:Builtin.bitAnd n (worth ts)=0:=by simpa using hz
       refine ⟨_,rfl,.inl ⟨rfl,_,SqL.of (s34 _ _ hpl)⟩,_,rfl,_,rfl,_,rfl,_,_,rfl,rfl,_,_,rfl,rfl,⟨p2,by decide⟩,bigr rfl,fun t nt => ?_⟩
       have s5:Same Hx (upd H4 t (.tup [.str y,.int ((n + worth ts) / 2)])):=s34.trans (Same.new nt)
       have nplt:t≠pl:=fun z=>by rw [z,s34 _ _ hpl] at nt; cases nt
       refine ⟨pl,_,_,rfl,rfl,s5 _ _ hpl,Nat.lt_of_lt_of_le (by omega:ws.length < 1000) zbj,?_⟩
       refine ⟨(sx.trans s5).put npl,(by rw [zai nlp]; exact s5 _ _ hpn),_,_,_,rfl,zad,(by rw [List.length_append,List.length_singleton]; omega),?_⟩
       rw [eN,zdB hc,if_pos hz]
       refine StepsR.snoc ?_ (hst.mono fun q' xs hq' => ?_)
       ·rw [zai nplt]; exact zad
       ·have:q'≠pl:=fun z=>by rw [z,hpl] at hq'; cases hq'
        rw [zai this]; exact s5 _ _ hq'
      ·have hz:¬ Builtin.bitAnd n (worth ts)=0:=by simpa using hz
       refine ⟨sx.trans s34,s34 _ _ hpn,ws,_,_,rfl,s34 _ _ hpl,by omega,?_⟩
       rw [eN,zdB hc,if_neg hz,List.append_nil]
       exact hst.mono fun q' xs hq'=>s34 _ _ hq'
   ·rintro σ Hx ⟨sx,hpn,ws,x3,x4,rfl,hpl,hwl,hst⟩
    rw [List.length_map,List.take_length] at hst
    refine ⟨_,rfl,q pl Hx ws sx npl hpl fun nm' hp' hs' => ?_⟩
    rw [strs_same (hp'.trans hnp.symm) hs' hns]
    exact hst
noncomputable def TabR (H:Hp) (ts:List V) (C:Combs):Prop:=ts.length=128/\∀ s:Nat,s < 128->∃ q ws,ts[s]?=some (.ref q)/\H q=some (.lst ws)/\StepsR H ws (stp C s)
theorem TabR.same {H H':Hp} {ts:List V} {C:Combs} (t:TabR H ts C) (s:Same H H'):TabR H' ts C :=
 ⟨t.1,fun i h=>let ⟨q,ws,a,b,c⟩:=t.2 i h; ⟨q,ws,a,s _ _ b,c.mono fun _ _ e=>s _ _ e⟩⟩
noncomputable def sp_table (C:Addr):Sp:=fun vs H Q _=>∃ b l G cs past,vs = [.ref b]/\Bk C G H b l cs past/\∀ p H' ts,Same H H'->H p=none->H' p=some (.lst ts)->TabR H' ts (srt cs)->Q (.ref p) H'
theorem zcq:FnScope ["book"] ["book"] (defScope s_step_table):=⟨rfl,rfl,rfl,by decide +kernel,rfl,by decide +kernel,by decide +kernel⟩
theorem ok_table {ea:Nat->Addr} {C:Addr} (D:DefAt K mg "step_table" s_step_table) (T:Bn mg) (V_SHAPES:∃ t,mg "SHAPES" = some (.int 128 t)) (C_shape_steps:Callee1 P w K mg base "shape_steps" 3 ["book","shape"] (sp_steps ea C)):Callee1 P w K mg base "step_table" 4 ["book"] (sp_table C):=by
 refine D.callee1 zcq (fun _ _ _ _ _ _ us hl=>match us,hl with | [_],_=>rfl) (fun vs H Q E h => ?_) (fun f cdv A outer s H vs Q E hr h => ?_)
 ·obtain ⟨b,l,G,cs,past,rfl,_⟩:=h
  rfl
 ·obtain ⟨b,l,G,cs,past,rfl,B,q⟩:=h
  have S:=zcq
  refine ⟨_,zaf (zaj (zaT (own := ["shape"]) (caps := [(0,"book")]) rfl ⟨rfl,rfl,rfl,rfl,⟨⟨rfl,rfl,.inl rfl⟩,trivial⟩⟩ (za7 rfl T.n_range (zaa (zbY rfl V_SHAPES) zac)) (fun _ _ _ _ _ _=>zal (i:=0) (zaH (by decide +kernel)) rfl (Or.inl rfl)) (fun _ _ _ _ _ _=>zbk) (fun _ _ _ _ _ _=>zdf C_shape_steps (hr.mono (by decide)) (by first | exact zaQ | exact zca | exact za5) rfl (zaa (pv 1) (zaa (pv 0) zac))))),?_⟩
  refine ⟨_,rfl,by decide,by decide,fun D hD => ?_⟩
  refine zgR (capv := [some (.ref b)]) (by rfl) (zaK 0 (128:Int).toNat) (by rw [zbH]; exact big (by decide)) hD (fun _ _=>trivial) (fun _=>true) (fun H i v=>∃ (q:Addr) (ws:List V),v = .ref q/\H q=some (.lst ws)/\StepsR H ws (stp (srt cs) i)) ?_ ?_ (fun i x hx H R s' h=>h H (Same.refl _)) ?_ ?_
  ·rintro H H' i v s' ⟨qa,ws,e2,e3,e4⟩
   exact ⟨qa,ws,e2,s' _ _ e3,e4.mono fun _ _ e=>s' _ _ e⟩
  ·rintro H i v l' l'' hv hH ⟨qa,ws,e2,e3,e4⟩
   subst e2
   have hne:qa≠D:=fun z=>hv (by rw [z])
   refine ⟨qa,ws,rfl,(by rw [zai hne]; exact e3),e4.mono fun q' xs e => ?_⟩
   rw [zai (fun z=>by rw [z,hH] at e; cases e)]
   exact e
  ·intro i x hx _ H' R s' hDn h
   obtain ⟨hi,rfl⟩:=zbp hx
   rw [Int.zero_add]
   refine ⟨_,rfl,_,rfl,b,l,G,cs,past,((i:Nat):Int),rfl,B.same s',?_⟩
   rw [if_pos ⟨by omega,by have:i < 128:=hi; omega⟩]
   intro p H2 ws s2 np hp st
   exact h H2 _ s2 (fun z=>hDn (by injection z with z; rw [<- z]; exact np)) ⟨p,ws,rfl,hp,st _ (zf7 cs) (nm_sorted cs)⟩
  ·intro H' ys s' hD' pr
   rw [zbH,List.filter_eq_self.mpr (fun _ _=>rfl)] at pr
   refine q _ H' ys s' hD hD' ⟨by rw [<- Paired.length pr,List.length_range]; rfl,fun i hi => ?_⟩
   obtain ⟨y,ey,_,qa,ws,rfl,e3,e4⟩:=Paired.at pr (List.getElem?_range (show i < (128:Int).toNat from hi))
   exact ⟨qa,ws,ey,e3,e4⟩
noncomputable def sp_leads:Sp:=fun vs H Q _=>∃ (a r:Addr) (ws:List V) (ps:List (Str×Int)) (row:List Bool),vs = [.ref a,.ref r]/\H a=some (.lst ws)/\StepsR H ws ps/\ps.length<=1000/\(∀ p∈ps,0<=p.2/\p.2.toNat < row.length)/\H r=some (.lst (row.map V.bl))/\∀ H',Same H H'->Q (.bl (ps.any fun p=>tr row p.2.toNat)) H'
theorem ze6 {row:List Bool} {t:Int} (h0:0<=t) (h:t.toNat < row.length):atI (row.map V.bl) t=some (.bl (tr row t.toNat)):=by
 refine zgs h0 ?_
 rw [List.getElem?_map,List.getElem?_eq_getElem h]
 simp [tr,h]
theorem any_range {α : Type} (ps:List α) (f : α -> Bool) (d : α):((List.range ps.length).map fun i=>f (ps.getD i d)).any (fun b=>b)=ps.any f:=by
 rw [List.any_map]
 rw [Bool.eq_iff_iff,List.any_eq_true,List.any_eq_true]
 constructor
 ·rintro ⟨i,hi,h⟩
  have hi:=List.mem_range.mp hi
  refine ⟨ps[i],List.getElem_mem hi,?_⟩
  have h:f (ps.getD i d)=true:=h
  simpa [hi] using h
 ·rintro ⟨x,hx,h⟩
  obtain ⟨i,hi,rfl⟩:=List.getElem_of_mem hx
  exact ⟨i,List.mem_range.mpr hi,by show f (ps.getD i d)=true; simpa [hi] using h⟩
theorem zda:FnScope ["steps","row"] ["steps","row"] (defScope s_leads_on):=⟨rfl,rfl,rfl,by decide +kernel,rfl,by decide +kernel,by decide +kernel⟩
theorem ok_leads (D:DefAt K mg "leads_on" s_leads_on) (T:Bn mg):Callee P w K mg base "leads_on" 1 ["steps","row"] sp_leads:=by
 refine D.callee zda (fun _ _ _ _ _ _ us hl=>match us,hl with | [_,_],_=>rfl) (fun vs H Q E h => ?_) (fun f cdv A outer s H vs Q E hr h => ?_)
 ·obtain ⟨a,r,ws,ps,row,rfl,_⟩:=h
  rfl
 ·obtain ⟨a,r,ws,ps,row,rfl,ha,st,hl,hlt,hrow,q⟩:=h
  have S:=zda
  refine ⟨_,zaf (zaj (zah (call_any rfl) rfl T.n_any boot_any (zaa (zaT (own := ["step"]) (caps := [(1,"row")]) rfl ⟨rfl,rfl,rfl,rfl,⟨⟨rfl,rfl,.inl rfl⟩,trivial⟩⟩ (zaz (pv 0)) (fun _ _ _ _ _ _=>zal (i:=0) (zaH (by decide +kernel)) rfl (Or.inl rfl)) (fun _ _ _ _ _ _=>zbk) (fun _ _ _ _ _ _=>zar (zcz K rfl) (pv 1) (zar (zce K rfl) (pv 0) (zab) (fun _ _=>rfl)) (fun _ _=>rfl))) zac))),?_⟩
  have hlw:=st.length
  refine ⟨_,rfl,_,rfl,⟨_,SqL.of ha⟩,fun D hD => ?_⟩
  refine zcA (capv := [some (.ref r)]) (by rfl) (zam K a ws) (big (by omega)) hD (fun H' s'=>SqL.of (s' _ _ ha)) (fun _=>true) (fun i => .bl (tr row (ps.getD i ("",0)).2.toNat)) (fun _ _ _=>nofun) (fun i x hx H R s' h=>h H (Same.refl _)) ?_ ?_
  ·intro i x hx _ H' R s' h
   have hi:i < ps.length:=by rw [<- hlw]; exact (List.getElem?_eq_some_iff.mp hx).1
   obtain ⟨qa,e1,e2⟩:=st.get (List.getElem?_eq_getElem hi)
   rw [hx] at e1
   cases e1
   obtain ⟨h0,h1⟩:=hlt ps[i] (List.getElem_mem hi)
   refine ⟨_,rfl,_,rfl,_,_,_,_,rfl,rfl,SqT.of (s' _ _ e2),at1,_,_,_,_,rfl,rfl,SqL.of (s' _ _ hrow),ze6 h0 h1,?_⟩
   have:=h H' (Same.refl _)
   simpa [hi] using this
  ·intro H' s' e
   refine ⟨_,(List.range ws.length).map fun i=>tr row (ps.getD i ("",0)).2.toNat,rfl,SqL.of ?_,?_⟩
   ·rw [e,List.filter_eq_self.mpr (fun _ _=>rfl),List.map_map]
    rfl
   ·have:=q H' s'
    rw [<- any_range ps _ ("",0)] at this
    rw [hlw]
    exact this
noncomputable def sp_narrow:Sp:=fun vs H Q _=>∃ (a r:Addr) (ts:List V) (C:Combs) (row:List Bool),vs = [.ref a,.ref r]/\H a=some (.lst ts)/\TabR H ts C/\GC C/\C.length<=8/\H r=some (.lst (row.map V.bl))/\row.length=128/\∀ p H',Same H H'->H p=none->H' p=some (.lst ((nxtRow C row).map V.bl))->Q (.ref p) H'
theorem zcr:FnScope ["table","row"] ["table","row"] (defScope s_narrow_row):=⟨rfl,rfl,rfl,by decide +kernel,rfl,by decide +kernel,by decide +kernel⟩
theorem ok_narrow (D:DefAt K mg "narrow_row" s_narrow_row) (T:Bn mg) (C_leads_on:Callee P w K mg base "leads_on" 1 ["steps","row"] sp_leads):Callee P w K mg base "narrow_row" 2 ["table","row"] sp_narrow:=by
 refine D.callee zcr (fun _ _ _ _ _ _ us hl=>match us,hl with | [_,_],_=>rfl) (fun vs H Q E h => ?_) (fun f cdv A outer s H vs Q E hr h => ?_)
 ·obtain ⟨a,r,ts,C,row,rfl,_⟩:=h
  rfl
 ·obtain ⟨a,r,ts,C,row,rfl,ha,tb,gc,h8,hrow,hrl,q⟩:=h
  have S:=zcr
  refine ⟨_,zaf (zaj (zaT (own := ["steps"]) (caps := [(1,"row")]) rfl ⟨rfl,rfl,rfl,rfl,⟨⟨rfl,rfl,.inl rfl⟩,trivial⟩⟩ (zaz (pv 0)) (fun _ _ _ _ _ _=>zal (i:=0) (zaH (by decide +kernel)) rfl (Or.inl rfl)) (fun _ _ _ _ _ _=>zbk) (fun _ _ _ _ _ _=>zaA C_leads_on (hr.mono (by decide)) rfl (zaa (pv 0) (zaa (pv 1) zac))))),?_⟩
  refine ⟨_,rfl,_,rfl,⟨_,SqL.of ha⟩,fun D hD => ?_⟩
  refine zcA (capv := [some (.ref r)]) (by rfl) (zam K a ts) (by rw [tb.1]; exact big (by decide)) hD (fun H' s'=>SqL.of (s' _ _ ha)) (fun _=>true) (fun i => .bl ((stp C i).any fun p=>tr row p.2.toNat)) (fun _ _ _=>nofun) (fun i x hx H R s' h=>h H (Same.refl _)) ?_ ?_
  ·intro i x hx _ H' R s' h
   have hi:i < 128:=by rw [<- tb.1]; exact (List.getElem?_eq_some_iff.mp hx).1
   obtain ⟨qa,ws,e1,e2,e3⟩:=(tb.same s').2 i hi
   rw [hx] at e1
   cases e1
   exact ⟨_,rfl,_,rfl,qa,r,ws,_,row,rfl,e2,e3,Nat.le_trans (zc6 h8 i) (by decide),fun p hp=>by rw [hrl]; exact zcM gc hi hp,s' _ _ hrow,fun H2 s2=>h H2 s2⟩
  ·intro H' s' e
   refine q D H' s' hD ?_
   rw [e,List.filter_eq_self.mpr (fun _ _=>rfl),tb.1]
   unfold nxtRow
   rw [List.map_map]
   rfl
noncomputable def sp_first:Sp:=fun vs H Q _=>∃ (a r:Addr) (ws:List V) (ps:List (Str×Int)) (row:List Bool) (p:Str×Int),vs = [.ref a,.ref r]/\H a=some (.lst ws)/\StepsR H ws ps/\ps.length<=1000/\(∀ p∈ps,0<=p.2/\p.2.toNat < row.length)/\H r=some (.lst (row.map V.bl))/\ps.find? (fun p=>tr row p.2.toNat)=some p/\∀ x H',Same H H'->H' x=some (.tup [.str p.1,.int p.2])->Q (.ref x) H'
theorem find_filter {α : Type} {ps:List α} {f : α -> Bool} {p d : α} (h:ps.find? f=some p):∃ i,((List.range ps.length).filter fun i=>f (ps.getD i d))[0]?=some i/\ps[i]?=some p:=by
 induction ps with
 | nil=>cases h
 | cons x ps ih =>
  rw [List.length_cons,List.range_succ_eq_map,List.filter_cons]
  by_cases e:f x=true
  ·rw [List.find?_cons_of_pos e] at h
   cases h
   exact ⟨0,by rw [if_pos (by simpa using e)]; rfl,rfl⟩
  ·rw [List.find?_cons_of_neg e] at h
   obtain ⟨i,h1,h2⟩:=ih h
   refine ⟨i + 1,?_,by simpa using h2⟩
   rw [if_neg (by simpa using e),List.filter_map,List.getElem?_map]
   show (((List.range ps.length).filter fun i=>f (ps.getD i d))[0]?).map _=_
   rw [h1]
   rfl
theorem zbg:FnScope ["steps","lasting"] ["steps","lasting"] (defScope s_first_lasting_step):=⟨rfl,rfl,rfl,by decide +kernel,rfl,by decide +kernel,by decide +kernel⟩
theorem ok_first (D:DefAt K mg "first_lasting_step" s_first_lasting_step) (T:Bn mg):Callee P w K mg base "first_lasting_step" 1 ["steps","lasting"] sp_first:=by
 refine D.callee zbg (fun _ _ _ _ _ _ us hl=>match us,hl with | [_,_],_=>rfl) (fun vs H Q E h => ?_) (fun f cdv A outer s H vs Q E hr h => ?_)
 ·obtain ⟨a,r,ws,ps,row,p,rfl,_⟩:=h
  rfl
 ·obtain ⟨a,r,ws,ps,row,p,rfl,ha,st,hl,hlt,hrow,hf,q⟩:=h
  have S:=zbg
  refine ⟨_,zaf (zaj (zar zaM (zaT (own := ["step"]) (caps := [(1,"lasting")]) rfl ⟨rfl,rfl,rfl,rfl,⟨⟨rfl,rfl,.inl rfl⟩,trivial⟩⟩ (zaz (pv 0)) (fun _ _ _ _ _ _=>zal (i:=0) (zaH (by decide +kernel)) rfl (Or.inl rfl)) (fun _ _ _ _ _ _=>zbD (zaX (zar (zcz K rfl) (pv 1) (zar (zce K rfl) (pv 0) (zab) (fun _ _=>rfl)) (fun _ _=>rfl)))) (fun _ _ _ _ _ _=>pv 0)) (zab) (fun _ _=>rfl))),?_⟩
  have hlw:=st.length
  refine ⟨_,rfl,_,rfl,⟨_,SqL.of ha⟩,fun D hD => ?_⟩
  have hne:∀ i,i < ws.length->ws.getD i .non ≠ .ref D:=fun i hi z=>by
   obtain ⟨qa,e1,e2⟩:=st.get (List.getElem?_eq_getElem (show i < ps.length by omega))
   rw [List.getD_eq_getElem?_getD,e1] at z
   cases z
   rw [hD] at e2
   cases e2
  refine zcA (capv := [some (.ref r)]) (by rfl) (zam K a ws) (big (by omega)) hD (fun H' s'=>SqL.of (s' _ _ ha)) (fun i=>tr row (ps.getD i ("",0)).2.toNat) (fun i=>ws.getD i .non) (fun i hi _=>hne i hi) ?_ ?_ ?_
  ·intro i x hx H' R s' h
   have hi:i < ps.length:=by rw [<- hlw]; exact (List.getElem?_eq_some_iff.mp hx).1
   obtain ⟨qa,e1,e2⟩:=st.get (List.getElem?_eq_getElem hi)
   rw [hx] at e1
   cases e1
   obtain ⟨h0,h1⟩:=hlt ps[i] (List.getElem_mem hi)
   refine ⟨_,rfl,_,rfl,_,_,_,_,rfl,rfl,SqT.of (s' _ _ e2),at1,_,_,_,_,rfl,rfl,SqL.of (s' _ _ hrow),ze6 h0 h1,_,rfl,?_⟩
   have:=h H' (Same.refl _)
   simpa [hi] using this
  ·intro i x hx _ H' R s' h
   refine ⟨_,rfl,?_⟩
   have:=h H' (Same.refl _)
   rw [List.getD_eq_getElem?_getD,hx] at this
   exact this
  ·intro H' s' e
   obtain ⟨i,h1,h2⟩:=find_filter (d:=(("",0):Str×Int)) hf
   rw [hlw] at e
   obtain ⟨qa,e1,e2⟩:=st.get h2
   refine ⟨_,_,_,_,rfl,rfl,SqL.of e,zax (j:=0) ?_,q qa H' s' (s' _ _ e2)⟩
   rw [List.getElem?_map,h1,Option.map_some,List.getD_eq_getElem?_getD,e1]
   rfl
noncomputable def sp_rows:Sp:=fun vs H Q _=>∃ (a:Addr) (ts:List V) (C:Combs),vs = [.ref a]/\H a=some (.lst ts)/\TabR H ts C/\GC C/\C.length<=8/\∀ p H' ws m,Same H H'->H p=none->H' p=some (.lst ws)->RowsR H' ws C m->nxtRow C (rowAt C m)=rowAt C m->m<=128->Q (.ref p) H'
theorem zbQ:FnScope ["table","rows","narrowed"] ["table"] (defScope s_rows_going_on):=⟨rfl,rfl,rfl,by decide +kernel,rfl,by decide +kernel,by decide +kernel⟩
theorem ok_rows (D:DefAt K mg "rows_going_on" s_rows_going_on) (T:Bn mg) (C_narrow_row:Callee P w K mg base "narrow_row" 2 ["table","row"] sp_narrow):Callee P w K mg base "rows_going_on" 3 ["table"] sp_rows:=by
 refine D.callee zbQ (fun _ _ _ _ _ _ us hl=>match us,hl with | [_],_=>rfl) (fun vs H Q E h => ?_) (fun f cdv A outer s H vs Q E hr h => ?_)
 ·obtain ⟨a,ts,C,rfl,_⟩:=h
  rfl
 ·obtain ⟨a,ts,C,rfl,ha,tb,gc,h8,q⟩:=h
  have S:=zbQ
  refine ⟨_,zae (zau (i:=1) S.nd rfl (Or.inl rfl) (za0 (zaa (zaT (own := ["steps"]) (caps := []) rfl ⟨rfl,rfl,rfl,rfl,trivial⟩ (zaz (pv 0)) (fun _ _ _ _ _ _=>zal (i:=0) (zaH (by decide +kernel)) rfl (Or.inl rfl)) (fun _ _ _ _ _ _=>zbk) (fun _ _ _ _ _ _=>za8)) zac)))
  (zae (zau (i:=2) S.nd rfl (Or.inl rfl) (zaA C_narrow_row (hr.mono (by decide)) rfl (zaa (pv 0) (zaa (zar zaM (pv 1) (zeV zc2 (zab)) (fun _ _=>rfl)) zac))))
  (zae (zd5 PassesOwn.never (zak (zf4 hr.units) (pv 2) (zar zaM (pv 1) (zeV zc2 (zab)) (fun _ _=>rfl)) (zat _))
   (zae (zbe (zdv PySem.F.plainAttrs_list PySem.F.slot_list_append PySem.F.type_list_append zaV (pv 1) (zaa (pv 2) zac)))
   (zaf (zau (i:=2) S.nd rfl (Or.inl rfl) (zaA C_narrow_row (hr.mono (by decide)) rfl (zaa (pv 0) (zaa (zar zaM (pv 1) (zeV zc2 (zab)) (fun _ _=>rfl)) zac)))))))
  (zaf (zaj (pv 1))))),?_⟩
  refine ⟨_,rfl,_,rfl,⟨_,SqL.of ha⟩,fun D hD => ?_⟩
  refine zcA (capv := []) (by rfl) (zam K a ts) (by rw [tb.1]; exact big (by decide)) hD (fun H' s'=>SqL.of (s' _ _ ha)) (fun _=>true) (fun _ => .bl true) (fun _ _ _=>nofun) (fun i x hx H R s' h=>h H (Same.refl _)) (fun i x hx _ H R s' h=>h H (Same.refl _)) ?_
  intro H1 s1 e1
  have e1:H1 D=some (.lst ((rowAt C 0).map V.bl)):=by
   rw [e1,List.filter_eq_self.mpr (fun _ _=>rfl),tb.1]
   rfl
  refine ⟨bigr rfl,fun p np => ?_⟩
  have s2:Same H1 (upd H1 p (.lst [.ref D])):=Same.new np
  have rr:RowsR (upd H1 p (.lst [.ref D])) [.ref D] C 0:=⟨rfl,fun i hi=>⟨D,by rw [show i=0 by omega]; rfl,by rw [show i=0 by omega]; exact s2 _ _ e1⟩⟩
  have s02:=s1.trans s2
  have np0:H p=none:=s1.free np
  have hp2:upd H1 p (.lst [.ref D]) p=some (.lst [.ref D]):=zad
  generalize upd H1 p (.lst [.ref D])=H2 at s2 rr s02 hp2
  refine ⟨_,rfl,_,rfl,_,rfl,_,_,_,_,rfl,rfl,SqL.of hp2,zdX rr.1 rfl,?_⟩
  refine ⟨a,D,ts,C,rowAt C 0,rfl,s02 _ _ ha,tb.same s02,gc,h8,s2 _ _ e1,za6 C 0,fun p3 H3 s3 np3 hp3 => ?_⟩
  refine ⟨fun k σ Hx=>∃ m ws qn,σ = [some (.ref a),some (.ref p),some (.ref qn)]/\Same H Hx/\Hx p=some (.lst ws)/\RowsR Hx ws C m/\(rowAt C m).count true + m<=128/\Hx qn=some (.lst ((rowAt C (m + 1)).map V.bl))/\k=(rowAt C m).count true,⟨_,0,_,p3,rfl,s02.trans s3,s3 _ _ hp2,rr.same s3,?_,hp3,rfl⟩,?_⟩
  ·have:=List.count_le_length (a:=true) (l:=rowAt C 0)
   rw [za6] at this
   omega
  rintro k σ Hx ⟨m,ws,qn,rfl,sx,hpx,rx,hcx,hqn,rfl⟩
  obtain ⟨ql,el1,el2⟩:=rx.2 m (Nat.le_refl _)
  refine ⟨_,rfl,_,rfl,_,rfl,_,_,_,_,rfl,rfl,SqL.of hpx,zdX rx.1 el1,_,_,zfd hqn,zfd el2,zcN _,zcN _,_,rfl,?_⟩
  rw [if_pos rfl,eqv_bools]
  by_cases e:rowAt C (m + 1)=rowAt C m
  ·rw [decide_eq_true e]
   refine iteF ?_
   exact ⟨_,rfl,q p Hx ws m sx np0 hpx rx e (by omega)⟩
  ·rw [decide_eq_false e]
   refine iteT ?_
   have less:=row_less gc e
   refine ⟨fun σ' H'=>∃ m',m' < (rowAt C m).count true/\∃ mm ws qn,σ' = [some (.ref a),some (.ref p),some (.ref qn)]/\Same H H'/\H' p=some (.lst ws)/\RowsR H' ws C mm/\(rowAt C mm).count true + mm<=128/\H' qn=some (.lst ((rowAt C (mm + 1)).map V.bl))/\m'=(rowAt C mm).count true,fun σ' H' h=>h,?_⟩
   have hwl:=rx.1
   refine ⟨_,rfl,.inl ⟨rfl,_,SqL.of hpx⟩,_,rfl,p,ws,_,rfl,rfl,hpx,Nat.lt_of_lt_of_le (by omega:ws.length < 1000) zbj,?_⟩
   have rs:=rx.snoc hpx hqn
   have sp:=sx.put (o := .lst (ws ++ [.ref qn])) np0
   have hp4:upd Hx p (.lst (ws ++ [.ref qn])) p=some (.lst (ws ++ [.ref qn])):=zad
   generalize upd Hx p (.lst (ws ++ [.ref qn]))=H4 at rs sp hp4
   obtain ⟨ql',el1',el2'⟩:=rs.2 (m + 1) (Nat.le_refl _)
   refine ⟨_,rfl,_,rfl,_,rfl,_,_,_,_,rfl,rfl,SqL.of hp4,zdX rs.1 el1',?_⟩
   refine ⟨a,ql',ts,C,rowAt C (m + 1),rfl,sp _ _ ha,tb.same sp,gc,h8,el2',za6 C _,fun p5 H5 s5 np5 hp5 => ?_⟩
   exact ⟨_,less,m + 1,_,p5,rfl,sp.trans s5,s5 _ _ hp4,rs.same s5,by omega,hp5,rfl⟩
noncomputable def sp_walk:Sp:=fun vs H Q _=>∃ (a r:Addr) (ts:List V) (C:Combs) (row:List Bool) (s:Nat),vs = [.ref a,.ref r,.int (s:Int)]/\H a=some (.lst ts)/\TabR H ts C/\GC C/\C.length<=8/\H r=some (.lst (row.map V.bl))/\row.length=128/\nxtRow C row=row/\s < 128/\tr row s=true /\
 ∀ t ls pl start n ws H',Same H H'->start < n->n<=128->wk C row s n=wk C row s start->((List.range n).map (wk C row s)).Nodup->H' t=some (.tup [.int (start:Nat),.ref ls,.ref pl])->H' ls=some (.lst ((List.range n).map fun j=>V.int (wk C row s j:Nat)))->H' pl=some (.lst ws)->LaysR H' ws (wn C row s) n->Q (.ref t) H'
theorem zco:FnScope ["table","lasting","shape","seen","layings","place","step"] ["table","lasting","shape"] (defScope s_walk_round):=⟨rfl,rfl,rfl,by decide +kernel,rfl,by decide +kernel,by decide +kernel⟩
theorem ok_walk (D:DefAt K mg "walk_round" s_walk_round) (T:Bn mg) (C_first_lasting_step:Callee P w K mg base "first_lasting_step" 1 ["steps","lasting"] sp_first):Callee P w K mg base "walk_round" 2 ["table","lasting","shape"] sp_walk:=by
 refine D.callee zco (fun _ _ _ _ _ _ us hl=>match us,hl with | [_,_,_],_=>rfl) (fun vs H Q E h => ?_) (fun f cdv A outer s H vs Q E hr h => ?_)
 ·obtain ⟨a,r,ts,C,row,s0,rfl,_⟩:=h
  rfl
 ·obtain ⟨a,r,ts,C,row,s0,rfl,ha,tb,gc,h8,hrow,hrl,hst,hs0,ht0,q⟩:=h
  have S:=zco
  have hu:=zcf hr
  have wok:=zgv gc hst hs0 ht0
  refine ⟨_,zae (zau (i:=3) S.nd rfl (Or.inl rfl) (zcU))
  (zae (zau (i:=4) S.nd rfl (Or.inl rfl) (za0 (zac)))
  (zae (zd5 PassesOwn.never (zfv (zet hu (pv 2) (pv 3)))
   (zae (zau (i:=5) S.nd rfl (Or.inl rfl) (zah zeK rfl T.n_len PySem.boot_len (zaa (pv 3) zac)))
   (zae (zd6 hu (pv 3) (pv 2) (pv 5) rfl)
   (zae (zau (i:=6) S.nd rfl (Or.inl rfl) (zaA C_first_lasting_step (hr.mono (by decide)) rfl (zaa (zar zaM (pv 0) (pv 2) (fun _ _=>rfl)) (zaa (pv 1) zac))))
   (zcH (zaG (zak zcI (zar zas (pv 6) (zab) (fun _ _=>rfl)) (zay) (zat _))
    (zaf (zbe (zdv PySem.F.plainAttrs_list PySem.F.slot_list_append PySem.F.type_list_append zaV (pv 4) (zaa (zbq (zaa (pv 5) (zaa (zar zas (pv 6) (zab) (fun _ _=>rfl)) zac))) zac))))
    (zao))
   (zaf (zau (i:=2) S.nd rfl (Or.inl rfl) (zar zas (pv 6) (zab) (fun _ _=>rfl)))))))))
  (zaf (zaj (zbq (zaa (zeW hu (pv 3) (pv 2) (fun _ _=>rfl)) (zaa (za1 (call_listD rfl) rfl T.n_list boot_list (zaa (pv 3) zac)) (zaa (pv 4) zac)))))))),?_⟩
  refine fun sd nsd=>⟨bigr rfl,fun pl npl => ?_⟩
  have s1:Same H (upd H sd (.dK [])):=Same.new nsd
  have npl0:H pl=none:=s1.free npl
  have nps:pl≠sd:=fun z=>by rw [z,zad] at npl; cases npl
  have s2:Same H (upd (upd H sd (.dK [])) pl (.lst [])):=s1.trans (Same.new npl)
  refine ⟨fun k σ Hx=>∃ i ws x5 x6,σ = [some (.ref a),some (.ref r),some (.int (wk C row s0 i:Nat)),some (.ref sd),some (.ref pl),x5,x6]/\Same H Hx/\Hx sd=some (.dK (seenK (wk C row s0) i))/\Hx pl=some (.lst ws)/\LaysR Hx ws (wn C row s0) i/\((List.range i).map (wk C row s0)).Nodup/\k=128 - i,⟨128,0,[],_,_,rfl,s2,(by rw [zai nps.symm]; exact zad),zad,.nil,List.nodup_nil,rfl⟩,?_⟩
  rintro k σ Hx ⟨i,ws,x5,x6,rfl,sx,hsd,hpl,lr,nd,rfl⟩
  refine ⟨_,rfl,_,rfl,sd,_,rfl,DGet.k (k:=Sum.inl _) hsd,_,rfl,?_⟩
  rw [zc8]
  have h128:i<=128:=by
   have:=zbM 128 _ nd (fun x hx=>by obtain ⟨j,_,rfl⟩:=List.mem_map.mp hx; exact (wok j).1)
   rwa [List.length_map,List.length_range] at this
  cases ef:(List.range i).find? fun j=>decide (wk C row s0 j=wk C row s0 i) with
  | some j =>
   refine iteF ?_
   have hj:j < i:=List.mem_range.mp (List.mem_of_find?_eq_some ef)
   have ej:wk C row s0 j=wk C row s0 i:=by have:=List.find?_some ef; simpa using this
   have ev:valV (seenK (wk C row s0) i) (Sum.inl ((wk C row s0 i:Nat):Int))=some (.int (j:Int)):=by rw [zc8,ef]; rfl
   have dg:DGet Hx sd (kV (Sum.inl ((wk C row s0 i:Nat):Int))) (some (.int (j:Int))):=by rw [<- ev]; exact DGet.k hsd
   refine ⟨_,rfl,_,rfl,sd,_,rfl,dg,_,rfl,sd,_,rfl,.inl hsd,fun ls nls => ?_⟩
   have s3:Same Hx (upd Hx ls (.lst ((seenK (wk C row s0) i).map fun kv=>kV kv.1))):=Same.new nls
   refine ⟨_,rfl,bigr rfl,fun t nt => ?_⟩
   refine q t ls pl j i ws _ ((sx.trans s3).trans (Same.new nt)) hj h128 ej.symm nd zad ?_ ?_ ?_
   ·rw [zai (zaq (zad (H:=Hx) (a:=ls)) nt),zad]
    unfold seenK
    rw [List.map_map]
    rfl
   ·exact Same.new nt _ _ (s3 _ _ hpl)
   ·exact lr.mono fun qa xs e=>Same.new nt _ _ (s3 _ _ e)
  | none =>
   refine iteT ?_
   have hno:∀ j,j < i->wk C row s0 j≠wk C row s0 i:=fun j hj=>by
    have:=List.find?_eq_none.mp ef j (List.mem_range.mpr hj)
    simpa using this
   have nd':((List.range (i + 1)).map (wk C row s0)).Nodup:=by
    rw [List.range_succ,List.map_append]
    refine List.nodup_append.mpr ⟨nd,by simp,fun x hx y hy => ?_⟩
    obtain ⟨j,hj,rfl⟩:=List.mem_map.mp hx
    rw [List.map_cons,List.map_nil,List.mem_singleton] at hy
    rw [hy]
    exact hno j (List.mem_range.mp hj)
   have h129:i + 1<=128:=by
    have:=zbM 128 _ nd' (fun x hx=>by obtain ⟨j,_,rfl⟩:=List.mem_map.mp hx; exact (wok j).1)
    rwa [List.length_map,List.length_range] at this
   have ev:valV (seenK (wk C row s0) i) (Sum.inl ((wk C row s0 i:Nat):Int))=none:=by rw [zc8,ef]; rfl
   refine ⟨fun σ' H'=>∃ m',m' < 128 - i/\∃ i ws x5 x6,σ' = [some (.ref a),some (.ref r),some (.int (wk C row s0 i:Nat)),some (.ref sd),some (.ref pl),x5,x6]/\Same H H'/\H' sd=some (.dK (seenK (wk C row s0) i))/\H' pl=some (.lst ws)/\LaysR H' ws (wn C row s0) i/\((List.range i).map (wk C row s0)).Nodup/\m'=128 - i,fun _ _ h=>h,?_⟩
   refine ⟨_,rfl,_,_,rfl,hsd,?_⟩
   rw [zep]
   refine ⟨_,rfl,_,rfl,_,rfl,sd,_,rfl,DPut.k (k:=Sum.inl _) hsd ?_,?_⟩
   ·rw [zep]; exact Nat.lt_of_lt_of_le (by omega:i < 1000) zbj
   rw [zfu _ ev,<- seenK_succ]
   have s3:=sx.put (o := .dK (seenK (wk C row s0) (i + 1))) nsd
   have hsd3:upd Hx sd (.dK (seenK (wk C row s0) (i + 1))) sd=some (.dK (seenK (wk C row s0) (i + 1))):=zad
   have hpl3:upd Hx sd (.dK (seenK (wk C row s0) (i + 1))) pl=some (.lst ws):=by rw [zai nps]; exact hpl
   have lr3:LaysR (upd Hx sd (.dK (seenK (wk C row s0) (i + 1)))) ws (wn C row s0) i:=lr.mono fun qa xs e=>by rw [zai (fun z=>by rw [z,hsd] at e; cases e)]; exact e
   generalize upd Hx sd (.dK (seenK (wk C row s0) (i + 1)))=H3 at s3 hsd3 hpl3 lr3
   obtain ⟨qs,wss,e1,e2,e3⟩:=(tb.same s3).2 _ (wok i).1
   refine ⟨_,rfl,_,rfl,_,_,_,_,rfl,rfl,SqL.of (s3 _ _ ha),zax e1,_,rfl,?_⟩
   refine ⟨qs,r,wss,stp C (wk C row s0 i),row,_,rfl,e2,e3,Nat.le_trans (zc6 h8 _) (by decide),fun p hp=>by rw [hrl]; exact zcM gc (wok i).1 hp,s3 _ _ hrow,zfI gc hst hs0 ht0 i,fun x H4 s4 hx => ?_⟩
   have s04:=s3.trans s4
   refine ⟨fun σ' H'=>∃ ws,σ' = [some (.ref a),some (.ref r),some (.int (wk C row s0 i:Nat)),some (.ref sd),some (.ref pl),some (.int (i:Int)),some (.ref x)]/\Same H H'/\H' sd=some (.dK (seenK (wk C row s0) (i + 1)))/\H' pl=some (.lst ws)/\LaysR H' ws (wn C row s0) (i + 1)/\H' x=some (.tup [.str (wn C row s0 i),.int (wk C row s0 (i + 1):Nat)]),?_,?_⟩
   ·refine ⟨_,rfl,_,_,_,_,rfl,rfl,SqT.of hx,at0,rfl,_,rfl,?_⟩
    by_cases e:wn C row s0 i=Str.ofString ""
    ·rw [decide_eq_true (by rw [e])]
     refine iteF ?_
     exact ⟨ws,rfl,s04,s4 _ _ hsd3,s4 _ _ hpl3,(lr3.mono fun qa xs e=>s4 _ _ e).skip e,hx⟩
    ·rw [decide_eq_false (fun z=>e (by injection z))]
     refine iteT ?_
     refine ⟨_,rfl,.inl ⟨rfl,_,SqL.of (s4 _ _ hpl3)⟩,_,rfl,_,rfl,_,_,_,_,rfl,rfl,SqT.of hx,at0,bigr rfl,fun t nt => ?_⟩
     have s5:Same H4 (upd H4 t (.tup [.int (i:Int),.str (wn C row s0 i)])):=Same.new nt
     have hpl5:=s5 _ _ (s4 _ _ hpl3)
     have hsd5:=s5 _ _ (s4 _ _ hsd3)
     have hx5:=s5 _ _ hx
     have lr5:=lr3.mono fun qa xs e=>s5 _ _ (s4 _ _ e)
     have ht5:upd H4 t (.tup [.int (i:Int),.str (wn C row s0 i)]) t=some (.tup [.int (i:Int),.str (wn C row s0 i)]):=zad
     have s05:=s04.trans s5
     generalize upd H4 t (.tup [.int (i:Int),.str (wn C row s0 i)])=H5 at hpl5 hsd5 hx5 lr5 ht5 s05
     have hlen:=lr5.len
     refine ⟨pl,ws,_,rfl,rfl,hpl5,Nat.lt_of_lt_of_le (by omega:ws.length < 1000) zbj,?_⟩
     have ne:∀ {qa:Addr} {xs:List V},H5 qa=some (.tup xs)->qa≠pl:=fun e z=>by rw [z,hpl5] at e; cases e
     refine ⟨ws ++ [.ref t],rfl,s05.put npl0,(by rw [zai nps.symm]; exact hsd5),zad,?_,(by rw [zai (ne hx5)]; exact hx5)⟩
     exact (lr5.mono fun qa xs e=>by rw [zai (ne e)]; exact e).snoc e (by rw [zai (ne ht5)]; exact ht5)
   ·rintro σ' H5 ⟨ws',rfl,s5,hsd5,hpl5,lr5,hx5⟩
    refine ⟨_,rfl,_,_,_,_,rfl,rfl,SqT.of hx5,at1,?_⟩
    exact ⟨_,(by omega:128 - (i + 1) < 128 - i),i + 1,ws',_,_,rfl,s5,hsd5,hpl5,lr5,nd',rfl⟩
noncomputable def sp_behind:Sp:=fun vs H Q _=>∃ (a l:Addr) (ts:List V) (C:Combs) (ns:List Nat),vs = [.ref a,.ref l]/\H a=some (.lst ts)/\TabR H ts C/\GC C/\C.length<=8/\H l=some (.lst (ns.map fun s=>V.int (s:Nat)))/\(∀ s∈ns,s < 128)/\ns.length<=128/\∀ p H',Same H H'->H p=none->H' p=some (.lst ((behN C ns).map fun s=>V.int (s:Nat)))->Q (.ref p) H'
theorem zbP:FnScope ["table","shapes","reached","shape","step"] ["table","shapes"] (defScope s_shapes_behind):=⟨rfl,rfl,rfl,by decide +kernel,rfl,by decide +kernel,by decide +kernel⟩
theorem ok_behind (D:DefAt K mg "shapes_behind" s_shapes_behind) (T:Bn mg):Callee P w K mg base "shapes_behind" 1 ["table","shapes"] sp_behind:=by
 refine D.callee zbP (fun _ _ _ _ _ _ us hl=>match us,hl with | [_,_],_=>rfl) (fun vs H Q E h => ?_) (fun f cdv A outer s H vs Q E hr h => ?_)
 ·obtain ⟨a,l,ts,C,ns,rfl,_⟩:=h
  rfl
 ·obtain ⟨a,l,ts,C,ns,rfl,ha,tb,gc,h8,hl,hlt,hnl,q⟩:=h
  have S:=zbP
  have hu:=zcf hr
  refine ⟨_,zae (zau (i:=2) S.nd rfl (Or.inl rfl) (zcU))
  (zae (zaZ PassesOwn.never rfl (zaz (pv 1)) (zal (i:=3) S.nd rfl (Or.inl rfl))
   (zaf (zaZ PassesOwn.never rfl (zaz (zar zaM (pv 0) (pv 3) (fun _ _=>rfl))) (zal (i:=4) S.nd rfl (Or.inl rfl))
    (zaf (zd6 hu (pv 2) (zar zas (pv 4) (zab) (fun _ _=>rfl)) (za8) rfl)))))
  (zaf (zaj (zah (zcC rfl) rfl T.n_sorted boot_sorted (zaa (pv 2) zac))))),?_⟩
  refine fun d nd => ?_
  have s1:Same H (upd H d (.dK [])):=Same.new nd
  refine ⟨_,rfl,_,rfl,⟨_,SqL.of (s1 _ _ hl)⟩,?_⟩
  refine zbG (zam K l _) (fun i σ Hx=>Same H Hx/\∃ kvs rs x3 x4,σ = [some (.ref a),some (.ref l),some (.ref d),x3,x4]/\Hx d=some (.dK kvs)/\kvs.map (·.1)=rs.map Sum.inl/\rs.Nodup/\kvs.length<=8 * i/\∀ n:Int,n∈rs ↔ ∃ t∈ns.take i,∃ p∈stp C t,p.2=n) ⟨s1,[],[],_,_,rfl,zad,rfl,List.nodup_nil,Nat.zero_le _,fun n=>by simp⟩ (fun i σ Hx _ h=>SqL.of (h.1 _ _ hl)) ?_ ?_
  ·rintro i x σ Hx hx ⟨sx,kvs,rs,x3,x4,rfl,hd,hk,rn,hkl,hm⟩
   rw [List.getElem?_map] at hx
   cases ht:ns[i]? with
   | none=>rw [ht] at hx; cases hx
   | some t =>
    rw [ht] at hx
    cases hx
    have hti:i < ns.length:=(List.getElem?_eq_some_iff.mp ht).1
    have t128:=hlt t (List.mem_of_getElem? ht)
    obtain ⟨qs,wss,e1,e2,e3⟩:=(tb.same sx).2 t t128
    have hwl:=e3.length
    have hw8:=zc6 h8 t
    refine ⟨_,rfl,_,rfl,_,_,_,_,rfl,rfl,SqL.of (sx _ _ ha),zax e1,_,rfl,⟨_,SqL.of e2⟩,?_⟩
    have ek:ns.take (i + 1)=ns.take i ++ [t]:=zaB ht
    refine zbG (zam K qs wss) (fun j σ Hy=>Same Hx (upd Hy d (.dK kvs))/\Same H Hy/\(∀ q o,q≠d->Hx q=some o->Hy q=some o)/\∃ kvs' rs' x4,σ = [some (.ref a),some (.ref l),some (.ref d),some (.int (t:Nat)),x4]/\Hy d=some (.dK kvs')/\kvs'.map (·.1)=rs'.map Sum.inl/\rs'.Nodup/\kvs'.length<=8 * i + j/\∀ n:Int,n∈rs' ↔ (∃ t∈ns.take i,∃ p∈stp C t,p.2=n)\/∃ p∈(stp C t).take j,p.2=n) ⟨?_,sx,fun _ _ _ e=>e,kvs,rs,_,rfl,hd,hk,rn,by omega,fun n=>by rw [hm]; simp⟩ (fun j σ Hy _ h=>SqL.of (h.2.2.1 _ _ (fun z=>by rw [z,hd] at e2; cases e2) e2)) ?_ ?_
    ·intro q o e
     by_cases z:q=d
     ·rw [z,zad,<- hd,<- z,e]
     ·rw [zai z]; exact e
    ·rintro j y σ Hy hy ⟨s0,sy,ky,kvs',rs',x4',rfl,hd',hk',rn',hkl',hm'⟩
     have hj:j < (stp C t).length:=by rw [<- hwl]; exact (List.getElem?_eq_some_iff.mp hy).1
     obtain ⟨qa,e4,e5⟩:=e3.get (List.getElem?_eq_getElem hj)
     rw [hy] at e4
     cases e4
     have e5':=ky _ _ (fun z=>by rw [z,hd] at e5; cases e5) e5
     refine ⟨_,rfl,_,rfl,_,_,_,_,rfl,rfl,SqT.of e5',at1,_,_,rfl,DPut.k (k:=Sum.inl _) hd' (Nat.lt_of_lt_of_le (by omega:kvs'.length < 2000) (by decide)),?_⟩
     refine ⟨?_,sy.put nd,fun q o z e=>(by rw [zai z]; exact ky q o z e),_,if (stp C t)[j].2∈rs' then rs' else rs' ++ [(stp C t)[j].2],_,rfl,zad,?_,?_,?_,?_⟩
     ·intro q o e
      by_cases z:q=d
      ·rw [z,zad,<- hd,<- z,e]
      ·rw [zai z,zai z]; exact ky q o z e
     ·rw [zes,hk']
      have:(Sum.inl (stp C t)[j].2:Key)∈rs'.map Sum.inl ↔ (stp C t)[j].2∈rs':=by
       rw [List.mem_map]
       exact ⟨fun ⟨z,hz,e⟩=>by injection e with e; rwa [<- e],fun h=>⟨_,h,rfl⟩⟩
      by_cases z:(stp C t)[j].2∈rs'
      ·rw [if_pos (this.mpr z),if_pos z]
      ·rw [if_neg (fun h=>z (this.mp h)),if_neg z,List.map_append]
       rfl
     ·split
      ·exact rn'
      ·rename_i z
       refine List.nodup_append.mpr ⟨rn',by simp,fun u hu v hv e => ?_⟩
       rw [List.mem_singleton.mp hv] at e
       exact z (e ▸ hu)
     ·have:=zbO kvs' (Sum.inl (stp C t)[j].2:Key) (.bl true)
      omega
     ·intro n
      rw [List.take_succ_eq_append_getElem hj]
      have:n∈(if (stp C t)[j].2∈rs' then rs' else rs' ++ [(stp C t)[j].2]) ↔ n∈rs'\/(stp C t)[j].2=n:=by
       split
       ·rename_i z
        exact ⟨.inl,fun h=>h.elim id fun e=>e ▸ z⟩
       ·rw [List.mem_append,List.mem_singleton]
        exact ⟨fun h=>h.elim .inl fun e => .inr e.symm,fun h=>h.elim .inl fun e => .inr e.symm⟩
      rw [this,hm']
      constructor
      ·rintro ((h | ⟨p,hp,e⟩) | e)
       ·exact .inl h
       ·exact .inr ⟨p,List.mem_append_left _ hp,e⟩
       ·exact .inr ⟨_,List.mem_append_right _ (List.mem_singleton.mpr rfl),e⟩
      ·rintro (h | ⟨p,hp,e⟩)
       ·exact .inl (.inl h)
       ·rcases List.mem_append.mp hp with z | z
        ·exact .inl (.inr ⟨p,z,e⟩)
        ·rw [List.mem_singleton.mp z] at e
         exact .inr e
    ·rintro σ Hy ⟨s0,sy,ky,kvs',rs',x4',rfl,hd',hk',rn',hkl',hm'⟩
     refine ⟨sy,kvs',rs',_,_,rfl,hd',hk',rn',by omega,fun n => ?_⟩
     rw [hm',hwl,List.take_length,ek]
     constructor
     ·rintro (⟨t',ht',p,hp,e⟩ | ⟨p,hp,e⟩)
      ·exact ⟨t',List.mem_append_left _ ht',p,hp,e⟩
      ·exact ⟨t,List.mem_append_right _ (List.mem_singleton.mpr rfl),p,hp,e⟩
     ·rintro ⟨t',ht',p,hp,e⟩
      rcases List.mem_append.mp ht' with z | z
      ·exact .inl ⟨t',z,p,hp,e⟩
      ·rw [List.mem_singleton.mp z] at hp
       exact .inr ⟨p,hp,e⟩
  ·rintro σ Hx ⟨sx,kvs,rs,x3,x4,rfl,hd,hk,rn,hkl,hm⟩
   rw [List.length_map] at hkl hm
   rw [List.take_length] at hm
   have pm:=zfE gc hlt rn hm
   have hrl:rs.length<=128:=by
    rw [pm.length_eq,List.length_map]
    exact ze5 C ns
   refine ⟨_,rfl,d,kvs,rs,rfl,.inl hd,hk,by omega,fun p ns' np pp pw => ?_⟩
   have e:=zbd (pp.trans pm) pw (zdW C ns)
   refine q p _ (sx.trans (Same.new np)) (sx.free np) ?_
   rw [zad,e,List.map_map]
   rfl
theorem zd2 {C:Addr} {G:Addr->Prop} {H:Hp} {b l:Addr} {cs:Combs} {past:List Combs} (B:Bk C G H b l cs past):GC (srt cs)/\(srt cs).length<=8:=by
 have g:=B.good
 have p:=zbn g.nd
 exact ⟨fun c hc=>(g.ok c (p.mem_iff.mp hc)).2,by rw [p.length_eq]; exact g.len⟩
noncomputable def sp_toend:Sp:=fun vs H Q _=>∃ (a:Addr) (ts:List V) (C:Combs) (m:Nat),vs = [.ref a]/\H a=some (.lst ts)/\TabR H ts C/\GC C/\C.length<=8/\tr (rowAt C m) 0=false/\m<=128/\∀ p k ws H',Same H H'->H' p=some (.lst ws)->RowsN H' ws C k->rowN C k = []->(∀ j,j < k->rowN C j ≠ [])->k<=m->Q (.ref p) H'
theorem zbv:FnScope ["table","rows"] ["table"] (defScope s_rows_to_the_end):=⟨rfl,rfl,rfl,by decide +kernel,rfl,by decide +kernel,by decide +kernel⟩
theorem ok_toend (D:DefAt K mg "rows_to_the_end" s_rows_to_the_end) (T:Bn mg) (C_shapes_behind:Callee P w K mg base "shapes_behind" 1 ["table","shapes"] sp_behind):Callee P w K mg base "rows_to_the_end" 2 ["table"] sp_toend:=by
 refine D.callee zbv (fun _ _ _ _ _ _ us hl=>match us,hl with | [_],_=>rfl) (fun vs H Q E h => ?_) (fun f cdv A outer s H vs Q E hr h => ?_)
 ·obtain ⟨a,ts,C,m,rfl,_⟩:=h
  rfl
 ·obtain ⟨a,ts,C,m,rfl,ha,tb,gc,h8,hz,hm,q⟩:=h
  have S:=zbv
  refine ⟨_,zae (zau (i:=1) S.nd rfl (Or.inl rfl) (za0 (zaa (za0 (zaa (zab) zac)) zac)))
  (zae (zd5 PassesOwn.never (zak zgy (zah zap rfl T.n_len PySem.boot_len (zaa (zar zaM (pv 1) (zeV zc2 (zab)) (fun _ _=>rfl)) zac)) (zab) (zat _))
   (zaf (zbe (zdv PySem.F.plainAttrs_list PySem.F.slot_list_append PySem.F.type_list_append zaV (pv 1) (zaa (zaA C_shapes_behind (hr.mono (by decide)) rfl (zaa (pv 0) (zaa (zar zaM (pv 1) (zeV zc2 (zab)) (fun _ _=>rfl)) zac))) zac)))))
  (zaf (zaj (pv 1)))),?_⟩
  refine ⟨bigr rfl,fun r0 nr0=>⟨bigr rfl,fun p np => ?_⟩⟩
  have s1:Same H (upd H r0 (.lst [.int 0])):=Same.new nr0
  have s2:Same (upd H r0 (.lst [.int 0])) (upd (upd H r0 (.lst [.int 0])) p (.lst [.ref r0])):=Same.new np
  have np0:H p=none:=s1.free np
  have rr:RowsN (upd (upd H r0 (.lst [.int 0])) p (.lst [.ref r0])) [.ref r0] C 0:=⟨rfl,fun i hi=>⟨r0,by rw [show i=0 by omega]; rfl,by rw [show i=0 by omega]; exact s2 _ _ zad⟩⟩
  refine ⟨fun k σ Hx=>∃ i ws,σ = [some (.ref a),some (.ref p)]/\Same H Hx/\Hx p=some (.lst ws)/\RowsN Hx ws C i/\(∀ j,j < i->rowN C j ≠ [])/\k=m - i,⟨_,0,_,rfl,s1.trans s2,zad,rr,fun j hj=>by omega,rfl⟩,?_⟩
  rintro k σ Hx ⟨i,ws,rfl,sx,hp,rx,hne,rfl⟩
  obtain ⟨ql,el1,el2⟩:=rx.2 i (Nat.le_refl _)
  have him:i<=m:=by
   cases i with
   | zero=>omega
   | succ i=>have:=zfr gc hz (hne i (by omega)); omega
  refine ⟨_,rfl,_,rfl,_,_,_,_,rfl,rfl,SqL.of hp,zdX rx.1 el1,_,_,rfl,.inl (SqL.of el2),_,_,rfl,rfl,_,rfl,?_⟩
  rw [List.length_map]
  by_cases e:rowN C i = []
  ·rw [e,decide_eq_false (show ¬ (0:Int) < (([]:List Nat).length:Nat) by decide)]
   refine iteF ?_
   exact ⟨_,rfl,q p i ws Hx sx hp rx e hne him⟩
  ·have hpos:0 < (rowN C i).length:=List.length_pos_iff.mpr e
   rw [decide_eq_true (show (0:Int) < ((rowN C i).length:Nat) by omega)]
   refine iteT ?_
   have hlt:=zfr gc hz e
   refine ⟨fun σ' H'=>∃ m',m' < m - i/\∃ i ws,σ' = [some (.ref a),some (.ref p)]/\Same H H'/\H' p=some (.lst ws)/\RowsN H' ws C i/\(∀ j,j < i->rowN C j ≠ [])/\m'=m - i,fun _ _ h=>h,?_⟩
   refine ⟨_,rfl,.inl ⟨rfl,_,SqL.of hp⟩,_,rfl,_,rfl,_,rfl,_,_,_,_,rfl,rfl,SqL.of hp,zdX rx.1 el1,?_⟩
   refine ⟨a,ql,ts,C,rowN C i,rfl,sx _ _ ha,tb.same sx,gc,h8,el2,(zcG C i).1,(zcG C i).2,fun p2 H2 s2 np2 hp2 => ?_⟩
   have hwl:=rx.1
   refine ⟨p,ws,_,rfl,rfl,s2 _ _ hp,Nat.lt_of_lt_of_le (by omega:ws.length < 1000) zbj,?_⟩
   refine ⟨_,(by omega:m - (i + 1) < m - i),i + 1,_,rfl,(sx.trans s2).put np0,zad,(rx.same s2).snoc (s2 _ _ hp) hp2,fun j hj => ?_,rfl⟩
   by_cases ej:j=i
   ·rw [ej]; exact e
   ·exact hne j (by omega)
noncomputable def sp_fstrip:Sp:=fun vs H Q _=>∃ (t ls pl:Addr) (st n:Nat) (f:Nat->Nat) (ws:List V),vs = [.ref t]/\H t=some (.tup [.int (st:Nat),.ref ls,.ref pl])/\H ls=some (.lst ((List.range n).map fun j=>V.int (f j:Nat)))/\H pl=some (.lst ws)/\st < n/\n<=128 /\
 ∀ p H',Same H H'->H' p=some (.tup [.str (Str.ofString "filled"),.int (st:Nat),.int ((n - st:Nat):Int),.ref pl])->Q (.ref p) H'
theorem at3s {x y z:V}:atI [x,y,z] 0=some x/\atI [x,y,z] 1=some y/\atI [x,y,z] 2=some z:=⟨show atI _ ((0:Nat):Int)=_ from zax rfl,show atI _ ((1:Nat):Int)=_ from zax rfl,show atI _ ((2:Nat):Int)=_ from zax rfl⟩
theorem zbV:FnScope ["walk","start"] ["walk"] (defScope s_filled_strip):=⟨rfl,rfl,rfl,by decide +kernel,rfl,by decide +kernel,by decide +kernel⟩
theorem ok_fstrip (D:DefAt K mg "filled_strip" s_filled_strip) (T:Bn mg):Callee P w K mg base "filled_strip" 1 ["walk"] sp_fstrip:=by
 refine D.callee zbV (fun _ _ _ _ _ _ us hl=>match us,hl with | [_],_=>rfl) (fun vs H Q E h => ?_) (fun f cdv A outer s H vs Q E hr h => ?_)
 ·obtain ⟨t,ls,pl,st,n,f,ws,rfl,_⟩:=h
  rfl
 ·obtain ⟨t,ls,pl,st,n,fs,ws,rfl,ht,hls,hpl,hst,hn,q⟩:=h
  have S:=zbV
  refine ⟨_,zae (zau (i:=1) S.nd rfl (Or.inl rfl) (zar zas (pv 0) (zab) (fun _ _=>rfl)))
  (zaf (zaj (zbq (zaa (zay) (zaa (pv 1) (zaa (zav zb0 (zah zap rfl T.n_len PySem.boot_len (zaa (zar zas (pv 0) (zab) (fun _ _=>rfl)) zac)) (pv 1)) (zaa (zar zas (pv 0) (zab) (fun _ _=>rfl)) zac))))))),?_⟩
  refine ⟨_,rfl,_,_,_,_,rfl,rfl,SqT.of ht,at3s.1,?_⟩
  refine ⟨_,rfl,_,rfl,_,_,_,_,rfl,rfl,SqT.of ht,at3s.2.1,_,_,rfl,.inl (SqL.of hls),_,rfl,_,_,rfl,rfl,_,rfl,_,_,_,_,rfl,rfl,SqT.of ht,at3s.2.2,bigr rfl,fun p np => ?_⟩
  refine q p _ (Same.new np) ?_
  rw [zad,List.length_map,List.length_range]
  show some (HO.tup [V.str (Str.ofString "filled"),V.int (st:Nat),V.int (((n:Nat):Int) - ((st:Nat):Int)),V.ref pl])=_
  rw [show ((n:Nat):Int) - ((st:Nat):Int)=((n - st:Nat):Int) by omega]
noncomputable def StripD (C:Combs) (m start n:Nat):Prop:=nxtRow C (rowAt C m)=rowAt C m/\tr (rowAt C m) 0=true/\start < n/\n<=128/\wk C (rowAt C m) 0 n=wk C (rowAt C m) 0 start/\((List.range n).map (wk C (rowAt C m) 0)).Nodup
noncomputable def StripR (H:Hp) (t:Addr) (C:Combs):Prop :=
 (∃ m start n pl ws,StripD C m start n/\H t=some (.tup [.str (Str.ofString "filled"),.int (start:Nat),.int ((n - start:Nat):Int),.ref pl])/\H pl=some (.lst ws)/\LaysR H ws (wn C (rowAt C m) 0) n) \/
 (∃ m k pr ws,nxtRow C (rowAt C m)=rowAt C m/\tr (rowAt C m) 0=false/\rowN C k = []/\(∀ j,j < k->rowN C j ≠ [])/\k<=128/\H t=some (.tup [.str (Str.ofString "stuck"),.int (((k + 1:Nat):Int) - 2),.ref pr])/\H pr=some (.lst ws)/\RowsN H ws C k)
theorem StripR.same {H H':Hp} {t:Addr} {C:Combs} (h:StripR H t C) (s:Same H H'):StripR H' t C:=by
 rcases h with ⟨m,st,n,pl,ws,a,b,c,d⟩ | ⟨m,k,pr,ws,a,b,c,d,e,f,g,i⟩
 ·exact .inl ⟨m,st,n,pl,ws,a,s _ _ b,s _ _ c,d.mono fun _ _ z=>s _ _ z⟩
 ·exact .inr ⟨m,k,pr,ws,a,b,c,d,e,s _ _ f,s _ _ g,i.same s⟩
noncomputable def sp_strip (C:Addr):Sp:=fun vs H Q _=>∃ b l G cs past,vs = [.ref b]/\Bk C G H b l cs past/\∀ t H',Same H H'->StripR H' t (srt cs)->Q (.ref t) H'
theorem zcs:FnScope ["book","table","lasting","rows"] ["book"] (defScope s_fill_strip):=⟨rfl,rfl,rfl,by decide +kernel,rfl,by decide +kernel,by decide +kernel⟩
theorem ok_strip {C:Addr} (D:DefAt K mg "fill_strip" s_fill_strip) (T:Bn mg) (C_step_table:Callee1 P w K mg base "step_table" 4 ["book"] (sp_table C)) (C_rows_going_on:Callee P w K mg base "rows_going_on" 3 ["table"] sp_rows) (C_walk_round:Callee P w K mg base "walk_round" 2 ["table","lasting","shape"] sp_walk)
  (C_filled_strip:Callee P w K mg base "filled_strip" 1 ["walk"] sp_fstrip) (C_rows_to_the_end:Callee P w K mg base "rows_to_the_end" 2 ["table"] sp_toend):Callee1 P w K mg base "fill_strip" 5 ["book"] (sp_strip C):=by
 refine D.callee1 zcs (fun _ _ _ _ _ _ us hl=>match us,hl with | [_],_=>rfl) (fun vs H Q E h => ?_) (fun f cdv A outer s H vs Q E hr h => ?_)
 ·obtain ⟨b,l,G,cs,past,rfl,_⟩:=h
  rfl
 ·obtain ⟨b,l,G,cs,past,rfl,B,q⟩:=h
  have S:=zcs
  have hu:=zcf hr
  obtain ⟨gc,h8⟩:=zd2 B
  refine ⟨_,zae (zau (i:=1) S.nd rfl (Or.inl rfl) (zdf C_step_table (hr.mono (by decide)) (by first | exact zaQ | exact zca | exact za5) rfl (zaa (pv 0) zac)))
  (zae (zau (i:=2) S.nd rfl (Or.inl rfl) (zar zaM (zaA C_rows_going_on (hr.mono (by decide)) rfl (zaa (pv 1) zac)) (zeV zc2 (zab)) (fun _ _=>rfl)))
  (zae (zaG (zaX (zar zaM (pv 2) (zab) (fun _ _=>rfl)))
   (zaf (zaj (zaA C_filled_strip (hr.mono (by decide)) rfl (zaa (zaA C_walk_round (hr.mono (by decide)) rfl (zaa (pv 1) (zaa (pv 2) (zaa (zab) zac)))) zac))))
   (zao))
  (zae (zau (i:=3) S.nd rfl (Or.inl rfl) (zaA C_rows_to_the_end (hr.mono (by decide)) rfl (zaa (pv 1) zac)))
  (zaf (zaj (zbq (zaa (zay) (zaa (zav zb0 (zah zap rfl T.n_len PySem.boot_len (zaa (pv 3) zac)) (zab)) (zaa (pv 3) zac))))))))),?_⟩
  refine ⟨_,rfl,b,l,G,cs,past,rfl,B,fun a H1 ts s1 na ha tb => ?_⟩
  refine ⟨_,rfl,a,ts,srt cs,rfl,ha,tb,gc,h8,fun p H2 ws m s2 np hp rr hfix hm => ?_⟩
  obtain ⟨ql,el1,el2⟩:=rr.2 m (Nat.le_refl _)
  refine ⟨_,rfl,_,_,_,_,rfl,rfl,SqL.of hp,zdX rr.1 el1,?_⟩
  refine ⟨_,rfl,_,_,_,_,rfl,rfl,SqL.of el2,ze6 (t:=0) (by decide) (by rw [za6]; decide),_,rfl,?_⟩
  show if tr (rowAt (srt cs) m) 0=true then _ else _
  refine ite2 (fun ht => ?_) (fun ht => ?_)
  ·refine ⟨_,rfl,_,rfl,a,ql,ts,srt cs,rowAt (srt cs) m,0,rfl,s2 _ _ ha,tb.same s2,gc,h8,el2,za6 _ _,hfix,by decide,ht,fun t ls pl st n wl H3 s3 hst hn hw nd ht3 hls hpl lr => ?_⟩
   refine ⟨t,ls,pl,st,n,_,wl,rfl,ht3,hls,hpl,hst,hn,fun p4 H4 s4 hp4 => ?_⟩
   exact q p4 H4 (((s1.trans s2).trans s3).trans s4) (.inl ⟨m,st,n,pl,wl,⟨hfix,ht,hst,hn,hw,nd⟩,hp4,s4 _ _ hpl,lr.mono fun _ _ e=>s4 _ _ e⟩)
  ·have ht:tr (rowAt (srt cs) m) 0=false:=by simpa using ht
   refine ⟨_,rfl,a,ts,srt cs,m,rfl,s2 _ _ ha,tb.same s2,gc,h8,ht,hm,fun p3 k wr H3 s3 hp3 rn e1 e2 e3 => ?_⟩
   refine ⟨_,rfl,_,_,rfl,.inl (SqL.of hp3),_,_,rfl,rfl,_,rfl,bigr rfl,fun t nt => ?_⟩
   have s4:Same H3 (upd H3 t (.tup [.str (Str.ofString "stuck"),.int (((wr.length:Nat):Int) - 2),.ref p3])):=Same.new nt
   refine q t _ (((s1.trans s2).trans s3).trans s4) (.inr ⟨m,k,p3,wr,hfix,ht,e1,e2,by omega,?_,s4 _ _ hp3,rn.same s4⟩)
   rw [zad,rn.1]
noncomputable def sp_reach:Sp:=fun vs H Q _=>∃ (x:Int),vs = [.int x]/\∀ p H',Same H H'->H p=none->H' p=some (.lst (((List.range 8).map fun (t:Nat)=>x - (t:Int)).map V.int))->Q (.ref p) H'
theorem zbw:FnScope ["place"] ["place"] (defScope s_reaching_places):=⟨rfl,rfl,rfl,by decide +kernel,rfl,by decide +kernel,by decide +kernel⟩
theorem ok_reach (D:DefAt K mg "reaching_places" s_reaching_places) (T:Bn mg) (V_MOST_TOOTH:∃ t,mg "MOST_TOOTH" = some (.int 7 t)):Callee P w K mg base "reaching_places" 1 ["place"] sp_reach:=by
 refine D.callee zbw (fun _ _ _ _ _ _ us hl=>match us,hl with | [_],_=>rfl) (fun vs H Q E h => ?_) (fun f cdv A outer s H vs Q E hr h => ?_)
 ·obtain ⟨x,rfl,_⟩:=h
  rfl
 ·obtain ⟨x,rfl,q⟩:=h
  have S:=zbw
  refine ⟨_,zaf (zaj (zaT (own := ["tooth"]) (caps := [(0,"place")]) rfl ⟨rfl,rfl,rfl,rfl,⟨⟨rfl,rfl,.inl rfl⟩,trivial⟩⟩ (za7 rfl T.n_range (zaa (zav zaO (zbY rfl V_MOST_TOOTH) (zab)) zac)) (fun _ _ _ _ _ _=>zal (i:=0) (zaH (by decide +kernel)) rfl (Or.inl rfl)) (fun _ _ _ _ _ _=>zbk) (fun _ _ _ _ _ _=>zav zb0 (pv 1) (pv 0)))),?_⟩
  refine ⟨_,_,rfl,rfl,_,rfl,by decide,by decide,fun D hD => ?_⟩
  refine zcA (capv := [some (.int x)]) (by rfl) (zaK 0 (7 + 1:Int).toNat) (by rw [zbH]; exact big (by decide)) hD (fun _ _=>trivial) (fun _=>true) (fun i=>V.int (x - (i:Nat))) (fun _ _ _=>nofun) (fun i y hy H' R s' h=>h H' (Same.refl _)) ?_ ?_
  ·intro i y hy _ H' R s' h
   obtain ⟨hi,rfl⟩:=zbp hy
   rw [Int.zero_add]
   exact ⟨_,rfl,_,rfl,_,_,rfl,rfl,h H' (Same.refl _)⟩
  ·intro H' s' e
   refine q D H' s' hD ?_
   rw [e,zbH,List.filter_eq_self.mpr (fun _ _=>rfl),List.map_map]
   rfl
noncomputable def sp_chkf (ea:Nat->Addr):Sp:=fun vs H Q E=>∃ (t:Addr) (x:Str) (xs:List V),vs = [.ref t]/\H t=some (.tup (.str x :: xs))/\if x=Str.ofString "stuck" then E (.ref (ea 14)) none H else Q .non H
theorem zbW:FnScope ["answer"] ["answer"] (defScope s_check_filled):=⟨rfl,rfl,rfl,by decide +kernel,rfl,by decide +kernel,by decide +kernel⟩
theorem ok_chkf {ea:Nat->Addr} (D:DefAt K mg "check_filled" s_check_filled) (T:Bn mg) (O_NoFilling:Err K mg "NoFilling" (ea 14)):Callee1 P w K mg base "check_filled" 1 ["answer"] (sp_chkf ea):=by
 refine D.callee1 zbW (fun _ _ _ _ _ _ us hl=>match us,hl with | [_],_=>rfl) (fun vs H Q E h => ?_) (fun f cdv A outer s H vs Q E hr h => ?_)
 ·obtain ⟨t,x,xs,rfl,_⟩:=h
  rfl
 ·obtain ⟨t,x,xs,rfl,ht,q⟩:=h
  have S:=zbW
  refine ⟨_,zaf (zaG (zak zcx (zar zas (pv 0) (zab) (fun _ _=>rfl)) (zay) (zat _))
   (zaf (zbo O_NoFilling rfl (zaa (zay) zac)))
   (zao)),?_⟩
  refine ⟨_,rfl,_,_,_,_,rfl,rfl,SqT.of ht,zax (j:=0) rfl,rfl,_,rfl,?_⟩
  by_cases e:x=Str.ofString "stuck"
  ·rw [if_pos e] at q
   rw [decide_eq_true (by rw [e])]
   exact iteT ⟨bigr rfl,q⟩
  ·rw [if_neg e] at q
   rw [decide_eq_false (fun z=>e (by injection z))]
   exact iteF q
noncomputable def sp_over (C:Addr):Sp:=fun vs H Q _=>∃ (b l0 l h:Addr) (G:Addr->Prop) (cs:Combs) (past:List Combs) (x:Int) (n:Nat) (nm:Nat->Str) (wl:List V) (hs:Nat->Int) (t0:Nat),vs = [.ref b,.int x,.ref l,.ref h]/\Bk C G H b l0 cs past/\H l=some (.lst wl)/\LaysR H wl nm n/\n<=1000/\H h=some (.lst (((List.range 8).map hs).map V.int)) /\
 (∀ j,nm j≠Str.ofString "" -> (cGet cs (nm j)).isSome=true)/\t0 < 8/\(0<=hs t0/\(hs t0).toNat < n/\nm (hs t0).toNat≠Str.ofString "" /\ (t0:Int)∈tkOf cs (nm (hs t0).toNat))/\(∀ t,t < t0->0<=hs t->(hs t).toNat < n->nm (hs t).toNat≠Str.ofString "" -> (t:Int) ∉ tkOf cs (nm (hs t).toNat)) /\
 ∀ p H',Same H H'->H' p=some (.tup [.int (x - t0),.str (nm (hs t0).toNat)])->Q (.ref p) H'
theorem head_filter {P:Nat->Bool} {n t0:Nat} (h:t0 < n) (hp:P t0=true) (hb:∀ t,t < t0->P t=false):((List.range n).filter P)[0]?=some t0:=by
 have e:List.range n=List.range t0 ++ t0 :: (List.range (n - t0 - 1)).map fun k=>t0 + 1 + k:=by
  have h1:List.range n=List.range ((t0 + 1) + (n - t0 - 1)):=by congr 1; omega
  rw [h1,List.range_add,List.range_succ,List.append_assoc]
  rfl
 rw [e,List.filter_append,List.filter_eq_nil_iff.mpr (fun t ht=>by rw [hb t (List.mem_range.mp ht)]; exact Bool.false_ne_true),List.filter_cons,if_pos hp]
 rfl
theorem zb8:FnScope ["book","place","layings","homes","names","laid"] ["book","place","layings","homes"] (defScope s_laying_over):=⟨rfl,rfl,rfl,by decide +kernel,rfl,by decide +kernel,by decide +kernel⟩
theorem ok_over {ea:Nat->Addr} {C:Addr} (D:DefAt K mg "laying_over" s_laying_over) (T:Bn mg) (BA:BookAt K C) (M_teeth:Method P w K mg base C "teeth" (CX1 P w) 2 ["self","name"] (sp_bteeth ea C)):Callee1 P w K mg base "laying_over" 3 ["book","place","layings","homes"] (sp_over C):=by
 refine D.callee1 zb8 (fun _ _ _ _ _ _ us hl=>match us,hl with | [_,_,_,_],_=>rfl) (fun vs H Q E h => ?_) (fun f cdv A outer s H vs Q E hr h => ?_)
 ·obtain ⟨b,l0,l,h,G,cs,past,x,n,nm,wl,hs,t0,rfl,_⟩:=h
  rfl
 ·obtain ⟨b,l0,l,h,G,cs,past,x,n,nm,wl,hs,t0,rfl,B,hl,lr,hn,hh,hnm,ht8,⟨z1,z2,z3,z4⟩,hbef,q⟩:=h
  have S:=zb8
  have hu:=zcf hr
  have B_cls:=BA.cls
  refine ⟨_,zae (zau (i:=4) S.nd rfl (Or.inr rfl) (za1 (call_dictP rfl) rfl T.n_dict boot_dict (zaa (pv 2) zac)))
  (zae (zeU (i:=5) S.nd rfl (Or.inl rfl) (own := ["tooth","home"]) (caps := [(4,"names")]) rfl ⟨rfl,rfl,rfl,rfl,⟨⟨rfl,rfl,.inl rfl⟩,trivial⟩⟩ (pi_enum rfl T.n_enumerate (zaa (pv 3) zac)) (fun _ _ _ _ _ _=>zf0 K rfl (n:=2) rfl (zaD (zal (i:=0) (zaH (by decide +kernel)) rfl (Or.inl rfl)) (zaD (zal (i:=1) (zaH (by decide +kernel)) rfl (Or.inl rfl)) (zbE)))) (fun _ _ _ _ _ _=>zbD (zfv (zgG hu (pv 1) (pv 2)))) (fun _ _ _ _ _ _=>zbq (zaa (pv 0) (zaa (zeW hu (pv 2) (pv 1) (fun _ _=>rfl)) zac))))
  (zaf (zaj (zar zaM (zaT (own := ["tooth","name"]) (caps := [(0,"book"),(1,"place")]) rfl ⟨rfl,rfl,rfl,rfl,⟨⟨rfl,rfl,.inl rfl⟩,⟨rfl,rfl,.inl rfl⟩,trivial⟩⟩ (zaz (pv 5)) (fun _ _ _ _ _ _=>zf0 K rfl (n:=2) rfl (zaD (zal (i:=0) (zaH (by decide +kernel)) rfl (Or.inl rfl)) (zaD (zal (i:=1) (zaH (by decide +kernel)) rfl (Or.inl rfl)) (zbE)))) (fun _ _ _ _ _ _=>zbD (zak (op_in_seq' K rfl) (pv 0) (zfF (pv 2) B_cls M_teeth (hr.mono (by decide)) (by first | exact zd7 | exact zaQ | exact zca | exact za5) (zaa (pv 1) zac)) (by with_unfolding_all rfl))) (fun _ _ _ _ _ _=>zbq (zaa (zav zb0 (pv 3) (pv 0)) (zaa (pv 1) zac)))) (zab) (fun _ _=>rfl))))),?_⟩
  refine ⟨_,rfl,l,wl,layK nm n,rfl,hl,layK_pairs lr,fun d nd => ?_⟩
  rw [layK_all]
  have s1:Same H (upd H d (.dK (layK nm n))):=Same.new nd
  have hd:upd H d (.dK (layK nm n)) d=some (.dK (layK nm n)):=zad
  generalize upd H d (.dK (layK nm n))=H1 at s1 hd ⊢
  refine ⟨_,rfl,h,rfl,⟨_,SqL.of (s1 _ _ hh)⟩,fun D1 hD1 => ?_⟩
  have hget:∀ i (hi:i < 8),(((List.range 8).map hs).map V.int)[i]?=some (.int (hs i)):=fun i hi=>by
   rw [List.getElem?_map,List.getElem?_map,List.getElem?_range hi]
   rfl
  have hlen8:(((List.range 8).map hs).map V.int).length=8:=by rw [List.length_map,List.length_map,List.length_range]
  have hsome:∀ i,(valV (layK nm n) (Sum.inl (hs i))).isSome=decide (0<=hs i/\(hs i).toNat < n/\nm (hs i).toNat≠Str.ofString ""):=fun i=>by
   rw [zfA]
   by_cases e:0<=hs i/\(hs i).toNat < n/\nm (hs i).toNat≠Str.ofString ""
   ·rw [if_pos e,decide_eq_true e]; rfl
   ·rw [if_neg e,decide_eq_false e]; rfl
  refine comp_e2 (K:=K) (capv := [some (.ref d)]) (by rfl) (s1 _ _ hh) (by rw [hlen8]; decide) hD1 (fun i=>decide (0<=hs i/\(hs i).toNat < n/\nm (hs i).toNat≠Str.ofString "")) (fun H' i v=>∃ q',v = .ref q'/\H' q'=some (.tup [.int (i:Nat),.str (nm (hs i).toNat)])) ?_ ?_ ?_ ?_ ?_
  ·rintro H' H'' i v s' ⟨q',e1,e2⟩
   exact ⟨q',e1,s' _ _ e2⟩
  ·rintro H' i v l1 l2 hv hH ⟨q',rfl,e2⟩
   exact ⟨q',rfl,by rw [zai (fun z=>hv (by rw [z]))]; exact e2⟩
  ·intro i y hy H' R s' h'
   have hi:i < 8:=by rw [<- hlen8]; exact (List.getElem?_eq_some_iff.mp hy).1
   rw [hget i hi] at hy
   cases hy
   refine ⟨_,rfl,_,rfl,d,_,rfl,DGet.k (k:=Sum.inl (hs i)) (s' _ _ hd),_,rfl,?_⟩
   rw [hsome]
   exact h' H' (Same.refl _)
  ·intro i y hy hp H' R s' hDn h'
   have hi:i < 8:=by rw [<- hlen8]; exact (List.getElem?_eq_some_iff.mp hy).1
   rw [hget i hi] at hy
   cases hy
   have hp:=of_decide_eq_true hp
   have dg:DGet H' d (.int (hs i)) (some (.str (nm (hs i).toNat))):=by
    have:=DGet.k (k:=Sum.inl (hs i)) (s' _ _ hd)
    rw [zfA,if_pos hp] at this
    exact this
   refine ⟨_,rfl,_,rfl,_,rfl,_,_,rfl,dg,bigr rfl,fun t nt => ?_⟩
   refine h' _ _ (Same.new nt) (fun z=>hDn (by injection z with z; rw [<- z]; exact nt)) ⟨t,rfl,zad⟩
  intro H2 ys s2 e2 pr
  rw [hlen8] at pr
  have hyl:=Paired.length pr
  have hF8:((List.range 8).filter fun i=>decide (0<=hs i/\(hs i).toNat < n/\nm (hs i).toNat≠Str.ofString "")).length<=8:=Nat.le_trans (List.length_filter_le _ _) (by rw [List.length_range]; exact Nat.le_refl _)
  generalize hFd:((List.range 8).filter fun i=>decide (0<=hs i/\(hs i).toNat < n/\nm (hs i).toNat≠Str.ofString ""))=F at pr hyl hF8
  have hFm:∀ t,t∈F ↔ t < 8/\0<=hs t/\(hs t).toNat < n/\nm (hs t).toNat≠Str.ofString "" := fun t=>by
   rw [<- hFd,List.mem_filter,List.mem_range,decide_eq_true_eq]
  refine ⟨_,rfl,_,rfl,⟨_,SqL.of e2⟩,fun D2 hD2 => ?_⟩
  have s12:=s1.trans s2
  refine comp_x2 (K:=K) (capv := [some (.ref b),some (.int x)]) (by rfl) (zam K D1 ys) (big (by omega)) hD2 (fun H' s'=>SqL.of (s' _ _ e2)) (fun k=>V.int ((F.getD k 0:Nat):Int)) (fun k=>V.str (nm (hs (F.getD k 0)).toNat)) ?_ (fun k=>decide (((F.getD k 0:Nat):Int)∈tkOf cs (nm (hs (F.getD k 0)).toNat))) (fun H' k v=>∃ q',v = .ref q'/\H' q'=some (.tup [.int (x - ((F.getD k 0:Nat):Int)),.str (nm (hs (F.getD k 0)).toNat)])) ?_ ?_ ?_ ?_ ?_
  ·intro k v hv
   obtain ⟨t,et,_,q',rfl,eq'⟩:=Paired.rev pr hv
   refine ⟨q',rfl,?_⟩
   rw [List.getD_eq_getElem?_getD,et]
   exact eq'
  ·rintro H' H'' i v s' ⟨q',e1,e2⟩
   exact ⟨q',e1,s' _ _ e2⟩
  ·rintro H' i v l1 l2 hv hH ⟨q',rfl,e2⟩
   exact ⟨q',rfl,by rw [zai (fun z=>hv (by rw [z]))]; exact e2⟩
  ·intro k hk H' R s' h'
   have hkF:k < F.length:=by rw [hyl]; exact hk
   have hmem:F.getD k 0∈F:=by rw [List.getD_eq_getElem?_getD,List.getElem?_eq_getElem hkF]; exact List.getElem_mem hkF
   obtain ⟨m8,m1,m2,m3⟩:=(hFm _).mp hmem
   obtain ⟨ts,hts⟩:=Option.isSome_iff_exists.mp (hnm _ m3)
   have etk:tkOf cs (nm (hs (F.getD k 0)).toNat)=ts:=by unfold tkOf; rw [hts]; rfl
   have B':=B.same (s12.trans s')
   obtain ⟨dx2,d2,hb2,_⟩:=id B'.ins
   refine ⟨_,rfl,_,rfl,b,dx2,_,rfl,hb2,rfl,_,rfl,b,l0,G,cs,past,_,rfl,B',?_⟩
   rw [hts]
   intro p3 np3
   have s3:Same H' (upd H' p3 (.lst (ts.map V.int))):=Same.new np3
   refine ⟨_,_,rfl,.inl (SqL.of zad),rfl,zgj ts,_,rfl,?_⟩
   rw [if_neg (by decide),zeg]
   rw [etk] at h'
   exact h' _ s3
  ·intro k hk hp H' R s' hDn h'
   refine ⟨_,rfl,_,rfl,_,_,rfl,rfl,_,rfl,bigr rfl,fun t nt => ?_⟩
   exact h' _ _ (Same.new nt) (fun z=>hDn (by injection z with z; rw [<- z]; exact nt)) ⟨t,rfl,zad⟩
  ·intro H3 zs s3 e3 pz
   rw [<- hyl] at pz
   have eF:=zdV F (fun t=>decide ((t:Int)∈tkOf cs (nm (hs t).toNat))) 0
   have hhd:(F.filter fun t=>decide ((t:Int)∈tkOf cs (nm (hs t).toNat)))[0]?=some t0:=by
    rw [<- hFd,List.filter_filter]
    refine head_filter ht8 ?_ fun t ht => ?_
    ·rw [Bool.and_eq_true,decide_eq_true_eq,decide_eq_true_eq]
     exact ⟨z4,z1,z2,z3⟩
    ·rw [Bool.and_eq_false_iff]
     by_cases c:0<=hs t/\(hs t).toNat < n/\nm (hs t).toNat≠Str.ofString ""
     ·exact .inl (decide_eq_false (hbef t ht c.1 c.2.1 c.2.2))
     ·exact .inr (decide_eq_false c)
   rw [<- eF,List.getElem?_map] at hhd
   cases hk0:((List.range F.length).filter fun i=>decide (((F.getD i 0:Nat):Int)∈tkOf cs (nm (hs (F.getD i 0)).toNat)))[0]? with
   | none=>rw [hk0] at hhd; cases hhd
   | some k0 =>
    rw [hk0] at hhd
    have hhd:F.getD k0 0=t0:=Option.some.inj hhd
    obtain ⟨y,ey,_,q',rfl,eq'⟩:=Paired.at pz hk0
    rw [hhd] at eq'
    exact ⟨_,_,_,_,rfl,rfl,SqL.of e3,zax (j:=0) ey,q q' H3 (s12.trans s3) eq'⟩
noncomputable def sp_home:Sp:=fun vs H Q _=>∃ (y:Int) (st sp:Nat),vs = [.int y,.int (st:Nat),.int (sp:Nat)]/\1<=sp/\Q (.int (homeS st sp y)) H
theorem zcp:FnScope ["spot","start","span"] ["spot","start","span"] (defScope s_strip_home):=⟨rfl,rfl,rfl,by decide +kernel,rfl,by decide +kernel,by decide +kernel⟩
theorem ok_home (D:DefAt K mg "strip_home" s_strip_home) (T:Bn mg):Callee P w K mg base "strip_home" 1 ["spot","start","span"] sp_home:=by
 refine D.callee zcp (fun _ _ _ _ _ _ us hl=>match us,hl with | [_,_,_],_=>rfl) (fun vs H Q E h => ?_) (fun f cdv A outer s H vs Q E hr h => ?_)
 ·obtain ⟨y,st,sp,rfl,_⟩:=h
  rfl
 ·obtain ⟨y,st,sp,rfl,h1,q⟩:=h
  have S:=zcp
  have psp:(0:Int) < ((sp:Nat):Int):=by omega
  unfold homeS at q
  refine ⟨_,zae (zaG (zak zeY (pv 0) (pv 1) (zat _))
   (zaf (zaj (pv 0)))
   (zao))
  (zaf (zaj (zav zaO (pv 1) (zav zbh (zav zb0 (pv 0) (pv 1)) (pv 2))))),?_⟩
  refine ⟨_,rfl,_,rfl,_,_,rfl,rfl,_,rfl,?_⟩
  by_cases c:y < (st:Int)
  ·rw [if_pos c] at q
   rw [decide_eq_true c]
   exact iteT ⟨_,rfl,q⟩
  ·rw [if_neg c] at q
   rw [decide_eq_false c]
   exact iteF ⟨_,rfl,_,rfl,_,rfl,_,_,rfl,rfl,_,rfl,_,_,rfl,rfl,psp,_,_,rfl,rfl,q⟩
noncomputable def sp_cstrip (ea:Nat->Addr) (C:Addr):Sp:=fun vs H Q E=>∃ b l G cs past x,vs = [.ref b,.int x]/\Bk C G H b l cs past /\
 (if 0<=x/\x<=1000000000000000000 then (∀ m H',Same H H'->nxtRow (srt cs) (rowAt (srt cs) m)=rowAt (srt cs) m->tr (rowAt (srt cs) m) 0=false->E (.ref (ea 14)) none H')/\∀ p m t0 H',Same H H'->nxtRow (srt cs) (rowAt (srt cs) m)=rowAt (srt cs) m->tr (rowAt (srt cs) m) 0=true->t0 < 8->((t0:Nat):Int)<=x->((t0:Nat):Int)∈tkOf (srt cs) (wn (srt cs) (rowAt (srt cs) m) 0 (x - ((t0:Nat):Int)).toNat)->H' p=some (.tup [.int (x - (t0:Nat)),.str (wn (srt cs) (rowAt (srt cs) m) 0 (x - ((t0:Nat):Int)).toNat)])->Q (.ref p) H' else E (.ref (ea 12)) none H)
theorem zgS {C:Addr} {G:Addr->Prop} {H:Hp} {b l:Addr} {cs:Combs} {past:List Combs} (B:Bk C G H b l cs past):((srt cs).map (·.1)).Nodup/\(∀ c∈srt cs,c.1≠Str.ofString ""):=by
 have pm:=zbn B.good.nd
 exact ⟨(pm.map _).nodup_iff.mpr B.good.nd,fun c hc z=>by
  have h:=(B.good.ok c (pm.mem_iff.mp hc)).1
  rw [z] at h
  revert h
  decide⟩
theorem at4S {x y z u:V}:atI [x,y,z,u] 1=some y/\atI [x,y,z,u] 2=some z/\atI [x,y,z,u] 3=some u:=⟨show atI _ ((1:Nat):Int)=_ from zax rfl,show atI _ ((2:Nat):Int)=_ from zax rfl,show atI _ ((3:Nat):Int)=_ from zax rfl⟩
theorem zby:FnScope ["book","place","answer","homes"] ["book","place"] (defScope s_comb_over_strip):=⟨rfl,rfl,rfl,by decide +kernel,rfl,by decide +kernel,by decide +kernel⟩
theorem ok_cstrip {ea:Nat->Addr} {C:Addr} (D:DefAt K mg "comb_over_strip" s_comb_over_strip) (T:Bn mg) (V_MOST_PLACE:∃ t,mg "MOST_PLACE" = some (.int 1000000000000000000 t)) (O_BadPlace:Err K mg "BadPlace" (ea 12)) (C_fill_strip:Callee1 P w K mg base "fill_strip" 5 ["book"] (sp_strip C)) (C_check_filled:Callee1 P w K mg base "check_filled" 1 ["answer"] (sp_chkf ea)) (C_reaching_places:Callee P w K mg base "reaching_places" 1 ["place"] sp_reach)
  (C_strip_home:Callee P w K mg base "strip_home" 1 ["spot","start","span"] sp_home) (C_laying_over:Callee1 P w K mg base "laying_over" 3 ["book","place","layings","homes"] (sp_over C)):Callee1 P w K mg base "comb_over_strip" 6 ["book","place"] (sp_cstrip ea C):=by
 refine D.callee1 zby (fun _ _ _ _ _ _ us hl=>match us,hl with | [_,_],_=>rfl) (fun vs H Q E h => ?_) (fun f cdv A outer s H vs Q E hr h => ?_)
 ·obtain ⟨b,l,G,cs,past,x,rfl,_⟩:=h
  rfl
 ·obtain ⟨b,l,G,cs,past,x,rfl,B,q⟩:=h
  have S:=zby
  obtain ⟨gc,h8⟩:=zd2 B
  obtain ⟨nds,nes⟩:=zgS B
  refine ⟨_,zae (zaG (zaY (zd4 zd8 zd8 (zab) (pv 1) (zbY rfl V_MOST_PLACE)))
   (zaf (zbo O_BadPlace rfl (zaa (zay) zac)))
   (zao))
  (zae (zau (i:=2) S.nd rfl (Or.inr rfl) (zdf C_fill_strip (hr.mono (by decide)) (by first | exact zaQ | exact zca | exact za5) rfl (zaa (pv 0) zac)))
  (zae (zbe (zdf C_check_filled (hr.mono (by decide)) (by first | exact zaQ | exact zca | exact za5) rfl (zaa (pv 2) zac)))
  (zae (zeU (i:=3) S.nd rfl (Or.inl rfl) (own := ["spot"]) (caps := [(2,"answer")]) rfl ⟨rfl,rfl,rfl,rfl,⟨⟨rfl,rfl,.inl rfl⟩,trivial⟩⟩ (zaz (zaA C_reaching_places (hr.mono (by decide)) rfl (zaa (pv 1) zac))) (fun _ _ _ _ _ _=>zal (i:=0) (zaH (by decide +kernel)) rfl (Or.inl rfl)) (fun _ _ _ _ _ _=>zbk) (fun _ _ _ _ _ _=>zaA C_strip_home (hr.mono (by decide)) rfl (zaa (pv 0) (zaa (zar (zce K rfl) (pv 1) (zab) (fun _ _=>rfl)) (zaa (zar (zce K rfl) (pv 1) (zab) (fun _ _=>rfl)) zac)))))
  (zaf (zaj (zdf C_laying_over (hr.mono (by decide)) (by first | exact zaQ | exact zca | exact za5) rfl (zaa (pv 0) (zaa (pv 1) (zaa (zar zas (pv 2) (zab) (fun _ _=>rfl)) (zaa (pv 3) zac)))))))))),?_⟩
  refine ⟨_,rfl,_,_,rfl,rfl,_,rfl,?_⟩
  by_cases h0:0<=x
  case neg =>
   rw [if_neg (fun z=>h0 z.1)] at q
   rw [decide_eq_false h0]
   exact iteF ⟨_,rfl,iteT ⟨bigr rfl,q⟩⟩
  rw [decide_eq_true h0]
  refine iteT ?_
  refine ⟨_,_,rfl,rfl,_,rfl,?_⟩
  by_cases h1:x<=1000000000000000000
  case neg =>
   rw [if_neg (fun z=>h1 z.2)] at q
   rw [decide_eq_false h1]
   exact iteT ⟨bigr rfl,q⟩
  rw [if_pos ⟨h0,h1⟩] at q
  obtain ⟨q1,q2⟩:=q
  rw [decide_eq_true h1]
  refine iteF ?_
  refine ⟨_,rfl,b,l,G,cs,past,rfl,B,fun t H1 s1 lr => ?_⟩
  rcases lr with ⟨m,st,n,pl,wl,sd,ht,hpl,la⟩ | ⟨m,k,pr,ws,hfix,hz,_,_,_,ht,_⟩
  rotate_left
  ·refine ⟨_,rfl,t,_,_,rfl,ht,?_⟩
   rw [if_pos rfl]
   exact q1 m H1 s1 hfix hz
  refine ⟨_,rfl,t,_,_,rfl,ht,?_⟩
  rw [if_neg (by decide)]
  obtain ⟨hfix,ht0,hst,hn,hper,_⟩:=sd
  refine ⟨_,rfl,x,rfl,fun p1 H2 s2 np1 hp1=>⟨_,rfl,⟨_,SqL.of hp1⟩,fun D1 hD1 => ?_⟩⟩
  refine zcA (capv := [some (.ref t)]) (by rfl) (zam K p1 _) (by rw [List.length_map,List.length_map,List.length_range]; exact big (by decide)) hD1 (fun H' s'=>SqL.of (s' _ _ hp1)) (fun _=>true) (fun i=>V.int (homeS st (n - st) (x - ((i:Nat):Int)))) (fun _ _ _=>nofun) (fun i y hy H' R s' h=>h H' (Same.refl _)) ?_ ?_
  ·intro i y hy _ H' R s' h
   have hi:i < 8:=by have:=(List.getElem?_eq_some_iff.mp hy).1; simpa using this
   rw [List.getElem?_map,List.getElem?_map,List.getElem?_range hi] at hy
   cases hy
   exact ⟨_,rfl,_,rfl,_,_,_,_,rfl,rfl,SqT.of (s' _ _ (s2 _ _ ht)),at4S.1,_,rfl,_,_,_,_,rfl,rfl,SqT.of (s' _ _ (s2 _ _ ht)),at4S.2.1,_,st,n - st,rfl,by omega,h H' (Same.refl _)⟩
  intro H3 s3 e3
  have s23:=s2.trans s3
  have s13:=s1.trans s23
  refine ⟨_,rfl,_,rfl,_,rfl,_,_,_,_,rfl,rfl,SqT.of (s23 _ _ ht),at4S.2.2,_,rfl,?_⟩
  obtain ⟨t0,o1,o2,o3,o4⟩:=zdA gc nds nes hfix ht0 h0
  have hcs:∀ y,tkOf (srt cs) y=tkOf cs y:=fun y=>by
   unfold tkOf
   rw [zfM (zbn B.good.nd) nds]
  have hh:=zeZ hper hst (y:=x - ((t0:Nat):Int)) (by omega)
  refine ⟨b,l,pl,D1,G,cs,past,x,n,wn (srt cs) (rowAt (srt cs) m) 0,wl,(fun t=>homeS st (n - st) (x - (t:Int))),t0,rfl,B.same s13,s23 _ _ hpl,la.mono fun _ _ e=>s23 _ _ e,by omega,?_,fun j hne => ?_,o1,?_,fun u hu hu0 _ _ hmu => ?_,fun p H4 s4 hp4 => ?_⟩
  ·rw [e3,List.filter_eq_self.mpr (fun _ _=>rfl),List.length_map,List.length_map,List.length_range,List.map_map]
   rfl
  ·rcases zgw gc hfix (show 0 < 128 by decide) ht0 j with ⟨_,e1,_⟩ | ⟨_,c,hc,e1,_⟩
   ·exact absurd e1 hne
   ·rw [e1,zcc B.good.nd ((zbn B.good.nd).mem_iff.mp hc)]; rfl
  ·refine ⟨hh.1,hh.2.1,?_,?_⟩
   ·rw [hh.2.2]; exact zgX nes o3
   ·rw [hh.2.2,<- hcs]; exact o3
  ·have hle:((u:Nat):Int)<=x:=Decidable.byContradiction fun z=>by
    have:=home_neg (st:=st) (sp:=n - st) (y:=x - ((u:Nat):Int)) (by omega)
    omega
   have hu2:=zeZ hper hst (y:=x - ((u:Nat):Int)) (by omega)
   rw [hu2.2.2,<- hcs] at hmu
   have:=o4 u (by omega) hle hmu
   omega
  ·refine q2 p m t0 H4 (s13.trans s4) hfix ht0 o1 o2 o3 ?_
   rw [hp4,hh.2.2]
noncomputable def posV (v:V):Bool:=match v with
 | .int t=>decide (0 < t)
 | _=>false
noncomputable def decV (v:V):V:=match v with
 | .int t => .int (t - 1)
 | _ => .non
noncomputable def sp_after (K:PySem.W.Frag):Sp:=fun vs H Q _=>∃ (a t:Addr) (ah ts:List Int),vs = [.ref a,.ref t]/\SqT K H a (ah.map V.int)/\H t=some (.lst (ts.map V.int))/\ah.Nodup/\(∀ d∈ah,0<=d/\d<=6)/\ts.Nodup/\(∀ d∈ts,0<=d/\d<=7) /\
 (if meets ah ts=true then Q .non H else ∀ p H',Same H H'->H p=none->H' p=some (.tup ((afterOf ah ts).map V.int))->Q (.ref p) H')
theorem zfp:FnScope ["_law_ahead_here","_law_teeth_here","_law_t"] ["_law_ahead_here","_law_teeth_here"] (defScope s_after):=⟨rfl,rfl,rfl,by decide +kernel,rfl,by decide +kernel,by decide +kernel⟩
theorem ok_after (D:DefAt K mg "_law_after" s_after) (T:Bn mg):Callee P w K mg base "_law_after" 1 ["_law_ahead_here","_law_teeth_here"] (sp_after K):=by
 refine D.callee zfp (fun _ _ _ _ _ _ us hl=>match us,hl with | [_,_],_=>rfl) (fun vs H Q E h => ?_) (fun f cdv A outer s H vs Q E hr h => ?_)
 ·obtain ⟨a,t,ah,ts,rfl,_⟩:=h
  rfl
 ·obtain ⟨a,t,ah,ts,rfl,ha,ht,an,ar,tn,tr,q⟩:=h
  have S:=zfp
  have hal:ah.length<=8:=zc4 an fun d hd=>by have:=ar d hd; omega
  have htl:ts.length<=8:=zc4 tn tr
  refine ⟨_,zae (zaZ PassesOwn.never rfl (zaz (pv 1)) (zal (i:=2) S.nd rfl (Or.inl rfl))
   (zaf (zaG (zak zdh (pv 2) (pv 0) (by with_unfolding_all rfl))
    (zaf (zaj (zgF)))
    (zao))))
  (zaf (zaj (za1 zcB rfl T.n_tuple boot_tuple (zaa (zaT (own := ["_law_d"]) (caps := []) rfl ⟨rfl,rfl,rfl,rfl,trivial⟩ (zaz (zah zcR rfl T.n_sorted boot_sorted (zaa (zav zb1 (za1 zbC rfl T.n_list boot_list (zaa (pv 0) zac)) (pv 1)) zac))) (fun _ _ _ _ _ _=>zal (i:=0) (zaH (by decide +kernel)) rfl (Or.inl rfl)) (fun _ _ _ _ _ _=>zbD (zak zgy (pv 0) (zab) (zat _))) (fun _ _ _ _ _ _=>zav zb0 (pv 0) (zab))) zac)))),?_⟩
  refine ⟨_,rfl,_,rfl,⟨_,SqL.of ht⟩,?_⟩
  refine zbG (zam K t (ts.map V.int)) (fun i σ Hx=>Hx=H/\meets ah (ts.take i)=false/\∃ x2,σ = [some (.ref a),some (.ref t),x2]) ⟨rfl,rfl,_,rfl⟩ (fun i σ Hx _ h=>by rw [h.1]; exact SqL.of ht) ?_ ?_
  ·rintro i x σ Hx hx ⟨rfl,hm,x2,rfl⟩
   rw [List.getElem?_map] at hx
   cases hk:ts[i]? with
   | none=>rw [hk] at hx; cases hx
   | some y =>
    rw [hk] at hx
    cases hx
    refine ⟨_,rfl,_,rfl,_,_,rfl,.inr ha,rfl,zgj ah,_,rfl,?_⟩
    rw [if_neg (by decide),zeg]
    refine ite2 (fun hc => ?_) (fun hc => ?_)
    ·have hc:y∈ah:=by simpa using hc
     have:meets ah ts=true:=by
      unfold meets
      exact List.any_eq_true.mpr ⟨y,List.mem_of_getElem? hk,decide_eq_true hc⟩
     rw [if_pos this] at q
     exact q
    ·have hc:y ∉ ah:=by simpa using hc
     refine ⟨rfl,?_,_,rfl⟩
     rw [zaB hk]
     rw [meets_false] at hm ⊢
     intro z hz
     rcases List.mem_append.mp hz with h | h
     ·exact hm z h
     ·rw [List.mem_singleton.mp h]; exact hc
  ·rintro σ Hx ⟨rfl,hm,x2,rfl⟩
   rw [List.length_map,List.take_length] at hm
   rw [if_neg (by rw [hm]; decide)] at q
   refine ⟨_,rfl,a,_,rfl,.inr ha,fun p np=>⟨_,rfl,p,t,_,ts.map V.int,rfl,rfl,zad,?_,?_,fun p2 np2 => ?_⟩⟩
   ·rw [zai (zaq ht np)]; exact ht
   ·rw [List.length_map,List.length_map]
    exact Nat.le_of_lt (Nat.lt_of_lt_of_le (by omega:ah.length + ts.length < 1000) zbj)
   refine ⟨p2,ah ++ ts,rfl,SqL.of (by rw [List.map_append]; exact zad),by rw [List.length_append]; omega,fun p3 ns np3 hp hs => ?_⟩
   have hc:=after_canon an ar tn tr hm hp hs
   have s1:Same Hx (upd Hx p (.lst (ah.map V.int))):=Same.new np
   have s2:=s1.trans (Same.new (o := .lst (ah.map V.int ++ ts.map V.int)) np2)
   have s3:=s2.trans (Same.new (o := .lst (ns.map V.int)) np3)
   refine ⟨_,rfl,⟨_,SqL.of zad⟩,fun Dc hD => ?_⟩
   have hnl:ns.length<=1000:=by
    have:=hp.length_eq
    rw [List.length_append] at this
    omega
   refine zb9 (capv := []) (L:=ns.map V.int) (by rfl) (zam K p3 (ns.map V.int)) (by rw [List.length_map]; exact big hnl) hD (fun H' s'=>SqL.of (s' _ _ zad)) posV decV ?_ ?_ ?_
   ·intro v hv H' R s' h
    obtain ⟨d,hd,rfl⟩:=List.mem_map.mp hv
    exact ⟨_,rfl,_,_,rfl,rfl,_,rfl,h H' (Same.refl _)⟩
   ·intro v hv _ H' R s' h
    obtain ⟨d,hd,rfl⟩:=List.mem_map.mp hv
    exact ⟨_,rfl,_,_,rfl,rfl,h H' (Same.refl _)⟩
   ·intro H7 s7 e7
    have ets:(((ns.map V.int).filter posV).map decV)=(afterOf ah ts).map V.int:=by
     unfold afterOf
     rw [<- hc,List.filter_map,List.map_map,List.map_map]
     rfl
    rw [ets] at e7
    have s07:=s3.trans s7
    exact ⟨_,_,rfl,.inl ⟨SqL.of e7,fun l nl=>q l _ (s07.put (s07.free nl)) (s07.free nl) zad⟩⟩
noncomputable def sp_goes (K:PySem.W.Frag):Sp:=fun vs H Q _=>∃ (k a:Addr) (ws:List V) (ks:Combs) (ah:List Int),vs = [.ref k,.ref a]/\H k=some (.lst ws)/\KindsL (fun _=>True) H ws ks/\ks.length<=100/\(∀ c∈ks,GT c.2)/\SqT K H a (ah.map V.int)/\ah.Nodup/\(∀ d∈ah,0<=d/\d<=6) /\
 ∀ p H' vs',Same H H'->H p=none->H' p=some (.lst vs')->GoesR H' vs' (goesOf ks ah)->Q (.ref p) H'
theorem zfT:FnScope ["_law_kinds","_law_ahead_here","_law_found","_law_word_here","_law_teeth_here","_law_further"] ["_law_kinds","_law_ahead_here"] (defScope s_goes):=⟨rfl,rfl,rfl,by decide +kernel,rfl,by decide +kernel,by decide +kernel⟩
theorem ok_goes (D:DefAt K mg "_law_goes" s_goes) (T:Bn mg) (C_after:Callee P w K mg base "_law_after" 1 ["_law_ahead_here","_law_teeth_here"] (sp_after K)):Callee P w K mg base "_law_goes" 2 ["_law_kinds","_law_ahead_here"] (sp_goes K):=by
 refine D.callee zfT (fun _ _ _ _ _ _ us hl=>match us,hl with | [_,_],_=>rfl) (fun vs H Q E h => ?_) (fun f cdv A outer s H vs Q E hr h => ?_)
 ·obtain ⟨k,a,ws,ks,ah,rfl,_⟩:=h
  rfl
 ·obtain ⟨k,a,ws,ks,ah,rfl,hk,kr,hkl,hg,ha,an,ar,q⟩:=h
  have S:=zfT
  have hlen:=kr.length
  refine ⟨_,zae (zaG (zak zdh (zab) (pv 1) (by with_unfolding_all rfl))
   (zaf (zaj (za0 (zaa (zbq (zaa (zay) (zaa (zaA C_after (hr.mono (by decide)) rfl (zaa (pv 1) (zaa (za0 (zac)) zac))) zac))) zac))))
   (zao))
  (zae (zau (i:=2) S.nd rfl (Or.inl rfl) (za0 (zac)))
  (zae (zaZ PassesOwn.never rfl (zaz (pv 0)) (zf1 rfl (zaD (zal (i:=3) S.nd rfl (Or.inl rfl)) (zaD (zal (i:=4) S.nd rfl (Or.inl rfl)) (zbE))))
   (zae (zau (i:=5) S.nd rfl (Or.inl rfl) (zaA C_after (hr.mono (by decide)) rfl (zaa (pv 1) (zaa (pv 4) zac))))
   (zaf (zaG (zak op_notN (pv 5) (zgF) (zat _))
    (zaf (zbe (zdv PySem.F.plainAttrs_list PySem.F.slot_list_append PySem.F.type_list_append zaV (pv 2) (zaa (zbq (zaa (pv 3) (zaa (pv 5) zac))) zac))))
    (zao)))))
  (zaf (zaj (pv 2))))),?_⟩
  refine ⟨_,rfl,_,_,rfl,.inr ha,rfl,zgj ah,_,rfl,?_⟩
  rw [if_neg (by decide),zeg]
  refine ite2 (fun hc => ?_) (fun hc => ?_)
  ·have hc:(0:Int)∈ah:=by simpa using hc
   refine ⟨_,rfl,bigr rfl,fun p0 np0=>⟨a,p0,ah,[],rfl,(Same.new np0).tup ha,zad,an,ar,List.nodup_nil,by simp,?_⟩⟩
   rw [if_neg (show ¬ meets ah []=true from Bool.false_ne_true)]
   intro p1 H1 s1 n1 e1
   refine ⟨bigr rfl,fun p2 np2=>⟨bigr rfl,fun p3 np3 => ?_⟩⟩
   have s01:Same H H1:=(Same.new np0).trans s1
   have s2:=s01.trans (Same.new (o := .tup [.str "",.ref p1]) np2)
   refine q p3 _ [.ref p2] (s2.trans (Same.new np3)) (s2.free np3) zad ?_
   rw [goes_in hc]
   have e2:upd H1 p2 (.tup [.str "",.ref p1]) p2=some (.tup [.str "",.ref p1]):=zad
   have e1':upd H1 p2 (.tup [.str "",.ref p1]) p1=some (.tup ((afterOf ah []).map V.int)):=by rw [zai (zaq e1 np2)]; exact e1
   refine ⟨⟨p2,p1,rfl,?_,?_⟩,trivial⟩
   ·rw [zai (zaq e2 np3)]; exact e2
   ·rw [zai (zaq e1' np3)]; exact e1'
  ·have hc:(0:Int) ∉ ah:=by simpa using hc
   refine ⟨bigr rfl,fun pf npf => ?_⟩
   have s1:Same H (upd H pf (.lst [])):=Same.new npf
   refine ⟨_,rfl,_,rfl,⟨_,SqL.of (s1 _ _ hk)⟩,?_⟩
   refine zbG (zam K k ws) (fun i σ Hx=>Same H Hx/\∃ vs x3 x4 x5,σ = [some (.ref k),some (.ref a),some (.ref pf),x3,x4,x5]/\Hx pf=some (.lst vs)/\vs.length<=i/\GoesR Hx vs (goesOf (ks.take i) ah)) ⟨s1,[],_,_,_,rfl,zad,Nat.le_refl _,?_⟩ (fun i σ Hx _ h=>SqL.of (h.1 _ _ hk)) ?_ ?_
   ·rw [List.take_zero,goes_nil hc]
    trivial
   ·rintro i x σ Hx hx ⟨sx,vs,x3,x4,x5,rfl,hpf,hvl,hgr⟩
    obtain ⟨c,qa,t,hkc,rfl,hq,ht⟩:=(kr.same sx).get hx
    have hi:i < ks.length:=(List.getElem?_eq_some_iff.mp hkc).1
    have gc:=hg c (List.mem_of_getElem? hkc)
    refine ⟨qa,_,rfl,SqL.of hq,rfl,_,_,rfl,_,_,rfl,rfl,?_⟩
    refine ⟨_,rfl,_,rfl,a,t,ah,c.2,rfl,sx.tup ha,ht,an,ar,zaU (ze1 gc),zdw gc,?_⟩
    by_cases hm:meets ah c.2=true
    ·rw [if_pos hm]
     refine ⟨_,rfl,rfl,_,rfl,iteF ?_⟩
     refine ⟨sx,vs,_,_,_,rfl,hpf,by omega,?_⟩
     rw [zaB hkc,zeC hc,if_pos hm,List.append_nil]
     exact hgr
    ·rw [if_neg hm]
     intro p1 H1 s1' n1 e1
     refine ⟨_,rfl,rfl,_,rfl,iteT ?_⟩
     have sx1:=s1'
     refine ⟨_,rfl,.inl ⟨rfl,_,SqL.of (s1' _ _ hpf)⟩,_,rfl,_,rfl,bigr rfl,fun p2 np2 => ?_⟩
     have s2:Same Hx (upd H1 p2 (.tup [.str c.1,.ref p1])):=s1'.trans (Same.new np2)
     have e2:upd H1 p2 (.tup [.str c.1,.ref p1]) p2=some (.tup [.str c.1,.ref p1]):=zad
     have e1':upd H1 p2 (.tup [.str c.1,.ref p1]) p1=some (.tup ((afterOf ah c.2).map V.int)):=by rw [zai (zaq e1 np2)]; exact e1
     have hpf2:=s2 _ _ hpf
     refine ⟨pf,_,_,rfl,rfl,hpf2,Nat.lt_of_lt_of_le (by omega:vs.length < 1000) zbj,?_⟩
     have tn:∀ q' xs,upd H1 p2 (.tup [.str c.1,.ref p1]) q'=some (.tup xs)->upd (upd H1 p2 (.tup [.str c.1,.ref p1])) pf (.lst (vs ++ [.ref p2])) q'=some (.tup xs):=fun q' xs h=>by
      have:q'≠pf:=fun z=>by rw [z,hpf2] at h; cases h
      rw [zai this]; exact h
     refine ⟨(sx.trans s2).put npf,_,_,_,_,rfl,zad,(by rw [List.length_append,List.length_singleton]; omega),?_⟩
     rw [zaB hkc,zeC hc,if_neg hm]
     exact GoesR.snoc (s:=(c.1,afterOf ah c.2)) (tn _ _ e2) (tn _ _ e1') (hgr.mono fun q' xs h=>tn _ _ (s2 _ _ h))
   ·rintro σ Hx ⟨sx,vs,x3,x4,x5,rfl,hpf,hvl,hgr⟩
    rw [hlen,List.take_length] at hgr
    exact ⟨_,rfl,q pf Hx vs sx npf hpf hgr⟩
theorem goes_lenS {ks:Combs} (h8:ks.length<=8) (s:Nat) (hs:s < 128) (g:GC ks):(goesOf ks (aheadOf (s:Int))).length<=8:=by
 rw [<- List.length_map (f:=fun p:Str×List Int=>(p.1,worth p.2)),zb4 hs g]
 exact zc6 h8 s
theorem zgM {ks:List (Str×List Int)} (nd:(ks.map (·.1)).Nodup) {i:Nat} {k:Str×List Int} (h:ks[i]?=some k):cGet (ks.take i) k.1=none:=by
 rw [get_none]
 intro hm
 obtain ⟨c,hc,e⟩:=List.mem_map.mp hm
 obtain ⟨j,hj,ej⟩:=List.getElem_of_mem hc
 have hi:=(List.getElem?_eq_some_iff.mp h).1
 have hj':j < i:=by
  have:=hj
  rw [List.length_take] at this
  omega
 have e1:(ks.map (·.1))[j]?=some k.1:=by
  rw [List.getElem?_map,List.getElem?_eq_getElem (by omega)]
  rw [List.getElem_take] at ej
  rw [ej]
  exact congrArg some e
 have e2:(ks.map (·.1))[i]?=some k.1:=by rw [List.getElem?_map,h]; rfl
 have:=(List.getElem?_inj (by rw [List.length_map]; omega) nd).mp (e1.trans e2.symm)
 omega
noncomputable def sp_mkbook (C:Addr):Sp:=fun vs H Q _=>∃ (a:Addr) (ws:List V) (ks:List (Str×List Int)),vs = [.ref a]/\H a=some (.lst ws)/\Drawn (fun _=>True) H ws ks/\ks.length<=8 /\
 ∀ b l G past H',Same H H'->H b=none->H l=none->(∀ x,G x->H x=none)->Bk C G H' b l ks past->past.length=ks.length->Q (.ref b) H'
theorem zfU:FnScope ["_law_kinds","_law_book_here","_law_word_here","_law_teeth_here"] ["_law_kinds"] (defScope s_book):=⟨rfl,rfl,rfl,by decide +kernel,rfl,by decide +kernel,by decide +kernel⟩
theorem ok_mkbook {ea:Nat->Addr} {C:Addr} (D:DefAt K mg "_law_book" s_book) (T:Bn mg) (BA:BookAt K C) (C_Book:Maker P w K mg base "Book" C CX0 1 ["self"] (sp_init C)) (M_put:Method P w K mg base C "put" (CX1 P w) 3 ["self","name","teeth"] (sp_put (K:=K) ea C)):Callee P w K mg base "_law_book" 4 ["_law_kinds"] (sp_mkbook C):=by
 refine D.callee zfU (fun _ _ _ _ _ _ us hl=>match us,hl with | [_],_=>rfl) (fun vs H Q E h => ?_) (fun f cdv A outer s H vs Q E hr h => ?_)
 ·obtain ⟨a,ws,ks,rfl,_⟩:=h
  rfl
 ·obtain ⟨a,ws,ks,rfl,ha,dr,hk8,q⟩:=h
  have S:=zfU
  have hu:=zcf hr
  have B_cls:=BA.cls
  have hlen:=dr.rows.length
  refine ⟨_,zae (zau (i:=1) S.nd rfl (Or.inl rfl) (pe_mk0 C_Book (hr.mono (by decide)) (by first | exact zd7 | exact zaQ | exact zca | exact za5) rfl))
  (zae (zaZ PassesOwn.never rfl (zaz (pv 0)) (zf1 rfl (zaD (zal (i:=2) S.nd rfl (Or.inl rfl)) (zaD (zal (i:=3) S.nd rfl (Or.inl rfl)) (zbE))))
   (zaf (zbe (zfF (pv 1) B_cls M_put (hr.mono (by decide)) (by first | exact zd7 | exact zaQ | exact zca | exact za5) (zaa (pv 2) (zaa (za1 zbC rfl T.n_list boot_list (zaa (pv 3) zac)) zac))))))
  (zaf (zaj (pv 1)))),?_⟩
  refine fun b dx nb ndx ndb=>⟨b,dx,rfl,zad,fun H1 l d m nl nd B=>⟨rfl,?_⟩⟩
  have hlb:l≠b:=fun z=>by rw [z,zad] at nl; cases nl
  have nl0:H l=none:=by
   rw [zai hlb] at nl
   by_cases z:l=dx
   ·rw [z]; exact ndx
   ·rw [zai z] at nl; exact nl
  have hdb:d≠b:=fun z=>by rw [z,zad] at nd; cases nd
  have nd0:H d=none:=by
   rw [zai hdb] at nd
   by_cases z:d=dx
   ·rw [z]; exact ndx
   ·rw [zai z] at nd; exact nd
  have s1:Same H H1:=fun x o e=>m.keep x o (by rw [zai (zaq e nb),zai (zaq e ndx)]; exact e) (zaq e nb) (zaq e nb)
  refine ⟨_,rfl,_,rfl,⟨_,SqL.of (s1 _ _ ha)⟩,?_⟩
  refine zbG (zam K a ws) (fun i σ H2=>Same H H2/\∃ G past x2 x3,σ = [some (.ref a),some (.ref b),x2,x3]/\Bk C G H2 b l (ks.take i) past/\past.length=i/\∀ x,G x->H x=none) ⟨s1,_,[],_,_,rfl,B,rfl,fun x g=>by rw [show x=d from g]; exact nd0⟩ (fun i σ H2 _ h=>SqL.of (h.1 _ _ ha)) ?_ ?_
  ·rintro i x σ H2 hx ⟨s2,G,past,x2,x3,rfl,B2,hp,hG⟩
   obtain ⟨k,qa,t,hk,rfl,hq,ht⟩:=(dr.same s2).rows.get hx
   have hi:i < ks.length:=(List.getElem?_eq_some_iff.mp hk).1
   obtain ⟨hkn,hkg⟩:=dr.good k (List.mem_of_getElem? hk)
   obtain ⟨dx2,d2,hb2,_⟩:=id B2.ins
   refine ⟨qa,_,rfl,SqL.of hq,rfl,_,_,rfl,_,_,rfl,rfl,?_⟩
   refine ⟨_,rfl,b,dx2,_,rfl,hb2,rfl,_,rfl,_,rfl,t,_,rfl,.inl (SqL.of ht),fun p np => ?_⟩
   have s3:Same H2 (upd H2 p (.lst (k.2.map V.int))):=Same.new np
   refine ⟨b,l,G,_,past,k.1,p,k.2,rfl,B2.same s3,SqL.of zad,?_,?_,?_⟩
   ·exact big (by have:=name_len hkn; omega)
   ·have:=zgf hkg; omega
   have hlt:(ks.take i).length=i:=by rw [List.length_take]; omega
   have e:putD (ks.take i) past k.1 k.2 = .ok (ks.take (i + 1)):=by
    unfold putD full
    rw [if_neg (by rw [hkn]; decide),if_neg (by rw [gt_teeth hkg]; decide),zgM dr.nd hk,if_neg (by simp),if_neg (by omega),if_neg (by omega),zfX (zgM dr.nd hk),gt_eq hkg,zaB hk]
   rw [e]
   intro H4 G4 m4 B4
   refine ⟨fun x o e'=>m4.keep x o (s3 _ _ (s2 _ _ e')) (zaq e' nb) (zaq e' nl0),G4,_,_,_,rfl,B4,by rw [List.length_append,List.length_singleton,hp],fun x g => ?_⟩
   rcases m4.new x g with g | g
   ·exact hG x g
   ·exact (s2.trans s3).free g
  ·rintro σ H2 ⟨s2,G,past,x2,x3,rfl,B2,hp,hG⟩
   rw [List.take_of_length_le (by omega)] at B2
   exact ⟨_,rfl,q b l G past H2 s2 nb nl0 hG B2 (by omega)⟩
theorem at0 {x y:V}:atI [x,y] 0=some x:=show atI [x,y] ((0:Nat):Int)=_ from zax rfl
theorem at1 {x y:V}:atI [x,y] 1=some y:=show atI [x,y] ((1:Nat):Int)=_ from zax rfl
noncomputable def sp_refused (K:PySem.W.Frag):Sp:=fun vs H Q _=>∃ (a l:Addr) (x:Str),vs = [.ref a,.str x]/\PyData.strOk x=true/\H a=some (.tup [.str (Str.ofString "refused"),.ref l])/\H l=some (.lst [.str x])/\∀ H',Same H H'->Q (.bl true) H'
theorem zdH {x:Str} (h:PyData.strOk x=true):SeqAt.shaped (.list [.str x])=true:=by simp [h,SeqAt.shaped,PyData.canLay0,PyData.canLayAll0,PyData.depth,PyData.depthAll]
theorem eqv_one (x:Str):PyData.eqv (.list [.str x]) (.list [.str x])=true:=by simp [PyData.eqv,PyData.eqvAll]
theorem zdI:FnScope ["_law_found","_law_due"] ["_law_found","_law_due"] (defScope s_refused):=⟨rfl,rfl,rfl,by decide +kernel,rfl,by decide +kernel,by decide +kernel⟩
theorem ok_refused (D:DefAt K mg "_law_refused" s_refused) (T:Bn mg):Callee P w K mg base "_law_refused" 2 ["_law_found","_law_due"] (sp_refused K):=by
 refine D.callee zdI (fun _ _ _ _ _ _ us hl=>match us,hl with | [_,_],_=>rfl) (fun vs H Q E h => ?_) (fun f cdv A outer s H vs Q E hr h => ?_)
 ·obtain ⟨a,l,x,rfl,_⟩:=h
  rfl
 ·obtain ⟨a,l,x,rfl,hok,ha,hl,q⟩:=h
  have S:=zdI
  have a0:atI [V.str (Str.ofString "refused"),V.ref l] 0=some (V.str (Str.ofString "refused")):=at0
  have a1:atI [V.str (Str.ofString "refused"),V.ref l] 1=some (V.ref l):=at1
  refine ⟨_,zae (zaG (PW.pt (zbK (zaY (zaX (zah (zbf "tuple") rfl T.n_isinstance boot_isinstance (zaa (pv 0) (zaa (zbF (v := .ty "tuple") rfl T.n_tuple boot_tuple rfl) zac))))) (zbK (zak zcI (zah zap rfl T.n_len PySem.boot_len (zaa (pv 0) zac)) (zab) (zat _)) (zbA (zak zcI (zar zas (pv 0) (zab) (fun _ _=>rfl)) (zay) (zat _))))))
   (zaf (zaj (za8)))
   (zao))
  (zaf (zaj (zbL (zf5 hr.units) (zar zas (pv 0) (zab) (fun _ _=>rfl)) (za0 (zaa (pv 1) zac)) (zat _)))),?_⟩
  refine ⟨_,rfl,_,_,true,rfl,.tup ha,rfl,_,rfl,?_⟩
  refine iteF ?_
  refine ⟨_,rfl,_,_,rfl,.inr (SqT.of ha),rfl,_,rfl,?_⟩
  refine iteF ?_
  refine ⟨_,rfl,_,_,_,_,rfl,rfl,SqT.of ha,a0,rfl,_,rfl,?_⟩
  refine iteF ?_
  refine ⟨_,rfl,_,_,_,_,rfl,rfl,SqT.of ha,a1,_,rfl,bigr rfl,fun p np => ?_⟩
  have s1:Same H (upd H p (.lst [.str x])):=Same.new np
  refine ⟨_,_,.lst (SqL.of (s1 _ _ hl)) (.cons (.str x) .nil),.lst (SqL.of zad) (.cons (.str x) .nil),zdH hok,zdH hok,?_⟩
  rw [if_neg Bool.false_ne_true,eqv_one]
  exact q _ s1
theorem at_worths7 {t:Int} (h0:0<=t) (h6:t<=6):atI (([1,2,4,8,16,32,64]:List Int).map V.int) t=some (.int (pw t)):=by
 have:t=0\/t=1\/t=2\/t=3\/t=4\/t=5\/t=6:=by omega
 rcases this with h | h | h | h | h | h | h <;> subst h <;> rfl
noncomputable def sp_number (K:PySem.W.Frag):Sp:=fun vs H Q _=>∃ (a:Addr) (ds:List Int),vs = [.ref a]/\SqT K H a (ds.map V.int)/\(∀ d∈ds,0<=d/\d<=6)/\ds.length<=1000/\∀ H',Same H H'->Q (.int (worth ds)) H'
theorem zeq:FnScope ["_law_ahead_here"] ["_law_ahead_here"] (defScope s_number):=⟨rfl,rfl,rfl,by decide +kernel,rfl,by decide +kernel,by decide +kernel⟩
theorem ok_number (D:DefAt K mg "_law_number" s_number) (T:Bn mg):Callee P w K mg base "_law_number" 1 ["_law_ahead_here"] (sp_number K):=by
 refine D.callee zeq (fun _ _ _ _ _ _ us hl=>match us,hl with | [_],_=>rfl) (fun vs H Q E h => ?_) (fun f cdv A outer s H vs Q E hr h => ?_)
 ·obtain ⟨a,ds,rfl,_⟩:=h
  rfl
 ·obtain ⟨a,ds,rfl,ha,hr6,hl,q⟩:=h
  have S:=zeq
  refine ⟨_,zaf (zaj (zah (zeJ rfl) rfl T.n_sum boot_sum (zaa (zaT (own := ["_law_d"]) (caps := []) rfl ⟨rfl,rfl,rfl,rfl,trivial⟩ (pi_tup (pv 0)) (fun _ _ _ _ _ _=>zal (i:=0) (zaH (by decide +kernel)) rfl (Or.inl rfl)) (fun _ _ _ _ _ _=>zbk) (fun _ _ _ _ _ _=>zar (zcz K rfl) (za0 (zaa (zab) (zaa (zab) (zaa (zab) (zaa (zab) (zaa (zab) (zaa (zab) (zaa (zab) zac)))))))) (pv 0) (fun _ _=>rfl))) zac))),?_⟩
  refine ⟨_,rfl,_,rfl,⟨_,ha⟩,fun D hD => ?_⟩
  refine zb9 (capv := []) (L:=ds.map V.int) (by rfl) (gives_tup K a (ds.map V.int)) (by rw [List.length_map]; exact big hl) hD ?_ (fun _=>true) (fun v=>match v with | .int t => .int (pw t) | _ => .non) ?_ ?_ ?_
  ·exact fun H' s'=>s'.tup ha
  ·exact fun v hv H' R s' h=>h H' (Same.refl _)
  ·intro v hv _ H' R s' h
   obtain ⟨t,ht,rfl⟩:=List.mem_map.mp hv
   obtain ⟨h0,h6⟩:=hr6 t ht
   refine ⟨bigr rfl,fun p np => ?_⟩
   have h:R (.int (pw t)) _:=h (upd H' p (.lst (([1,2,4,8,16,32,64]:List Int).map V.int))) (Same.new np)
   exact ⟨_,rfl,_,_,_,_,rfl,rfl,SqL.of zad,at_worths7 h0 h6,h⟩
  ·intro H' s' e
   refine ⟨_,ds.map pw,rfl,?_,q H' s'⟩
   refine SqL.of ?_
   rw [e]
   congr 2
   rw [List.filter_eq_self.mpr (fun _ _=>rfl),List.map_map,List.map_map]
   rfl
theorem bit_test {n:Int} (h:0<=n) (i:Nat):decide (Builtin.bitAnd (n / 2 ^ (0 + ((i:Nat):Int)).toNat) 1=1)=n.toNat.testBit i:=by
 rw [bitAnd_m1,show (0 + ((i:Nat):Int)).toNat=i by omega,Bool.eq_iff_iff,decide_eq_true_eq,Nat.testBit_eq_decide_div_mod_eq,decide_eq_true_eq]
 obtain ⟨m,rfl⟩:=Int.eq_ofNat_of_zero_le h
 rw [Int.toNat_natCast,show ((m:Int) / 2 ^ i)=((m / 2 ^ i:Nat):Int) by push_cast; rfl]
 omega
noncomputable def sp_ahead:Sp:=fun vs H Q _=>∃ (n:Int),vs = [.int n]/\0<=n/\∀ p H',Same H H'->H' p=some (.tup ((aheadOf n).map V.int))->Q (.ref p) H'
theorem zfo:FnScope ["_law_number_here"] ["_law_number_here"] (defScope s_ahead):=⟨rfl,rfl,rfl,by decide +kernel,rfl,by decide +kernel,by decide +kernel⟩
theorem ok_ahead (D:DefAt K mg "_law_ahead" s_ahead) (T:Bn mg):Callee P w K mg base "_law_ahead" 1 ["_law_number_here"] sp_ahead:=by
 refine D.callee zfo (fun _ _ _ _ _ _ us hl=>match us,hl with | [_],_=>rfl) (fun vs H Q E h => ?_) (fun f cdv A outer s H vs Q E hr h => ?_)
 ·obtain ⟨n,rfl,_⟩:=h
  rfl
 ·obtain ⟨n,rfl,h0,q⟩:=h
  have S:=zfo
  refine ⟨_,zaf (zaj (za1 zcB rfl T.n_tuple boot_tuple (zaa (zaT (own := ["_law_d"]) (caps := [(0,"_law_number_here")]) rfl ⟨rfl,rfl,rfl,rfl,⟨⟨rfl,rfl,.inl rfl⟩,trivial⟩⟩ (za7 rfl T.n_range (zaa (zab) zac)) (fun _ _ _ _ _ _=>zal (i:=0) (zaH (by decide +kernel)) rfl (Or.inl rfl)) (fun _ _ _ _ _ _=>zbD (zak zcx (zav zf6 (zav zgH (pv 1) (pv 0)) (zab)) (zab) (zat _))) (fun _ _ _ _ _ _=>pv 0)) zac))),?_⟩
  refine ⟨_,rfl,by decide,by decide,fun Dc hD => ?_⟩
  refine zb9 (capv := [some (.int n)]) (by rfl) (zaK 0 (7:Int).toNat) (bigr rfl) hD ?_ (bitOf n) (fun v=>v) ?_ ?_ ?_
  ·exact fun _ _=>trivial
  ·intro v hv H' R s' h
   obtain ⟨t,ht,rfl⟩:=List.mem_map.mp hv
   refine ⟨_,rfl,_,rfl,_,_,rfl,rfl,?_,_,_,rfl,rfl,rfl,_,rfl,?_⟩
   ·show (0:Int)<=0 + ((t:Nat):Int)
    omega
   rw [zgP]
   exact h H' (Same.refl _)
  ·intro v hv hp H' R s' h
   exact ⟨_,rfl,h H' (Same.refl _)⟩
  ·intro H7 s7 e7
   have ets:(((((List.range (7:Int).toNat).map fun i=>V.int (0 + ((i:Nat):Int))).filter (bitOf n)).map fun v=>v))=(aheadOf n).map V.int:=by
    rw [List.map_id',List.filter_map]
    unfold aheadOf
    rw [List.map_map]
    have:(List.filter (bitOf n ∘ fun i=>V.int (0 + ((i:Nat):Int))) (List.range (7:Int).toNat))=(List.range 7).filter fun d=>n.toNat.testBit d:=List.filter_congr fun i _=>bit_test h0 i
    rw [this]
    refine List.map_congr_left fun i _ => ?_
    show V.int (0 + ((i:Nat):Int))=V.int ((i:Nat):Int)
    rw [Int.zero_add]
   rw [ets] at e7
   exact ⟨_,_,rfl,.inl ⟨SqL.of e7,fun l nl=>q l _ (s7.put (s7.free nl)) zad⟩⟩
noncomputable def sp_numbers (K:PySem.W.Frag):Sp:=fun vs H Q _=>∃ (a b:Addr) (xs ys:List Int),vs = [.ref a,.ref b]/\H a=some (.lst (xs.map V.int))/\SqL K H b (ys.map V.int)/\ys.length<=100000/\Q (.bl (decide (xs=ys))) H
theorem list_neq {xs ys:List Int} (hl:xs.length=ys.length) {i:Nat} {x y:Int} (hx:xs[i]?=some x) (hy:ys[i]?=some y) (h:¬ x=y):¬ xs=ys:=by
 intro z
 subst z
 rw [hx] at hy
 cases hy
 exact h rfl
theorem zdJ:FnScope ["_law_found","_law_due","_law_k"] ["_law_found","_law_due"] (defScope s_numbers):=⟨rfl,rfl,rfl,by decide +kernel,rfl,by decide +kernel,by decide +kernel⟩
theorem ok_numbers (D:DefAt K mg "_law_numbers" s_numbers) (T:Bn mg) (C_whole:Callee P w K mg base "_law_whole" 1 ["_law_found"] sp_whole):Callee P w K mg base "_law_numbers" 2 ["_law_found","_law_due"] (sp_numbers K):=by
 refine D.callee zdJ (fun _ _ _ _ _ _ us hl=>match us,hl with | [_,_],_=>rfl) (fun vs H Q E h => ?_) (fun f cdv A outer s H vs Q E hr h => ?_)
 ·obtain ⟨a,b,xs,ys,rfl,_⟩:=h
  rfl
 ·obtain ⟨a,b,xs,ys,rfl,ha,hb,hl,q⟩:=h
  have S:=zdJ
  refine ⟨_,zae (zaG (PW.pt (zbK (zaY (zaX (zah (zbf "list") rfl T.n_isinstance boot_isinstance (zaa (pv 0) (zaa (zbF (v := .ty "list") rfl T.n_list boot_list rfl) zac))))) (zbA (zak zcI (zah zap rfl T.n_len PySem.boot_len (zaa (pv 0) zac)) (zah zap rfl T.n_len PySem.boot_len (zaa (pv 1) zac)) (zat _)))))
   (zaf (zaj (za8)))
   (zao))
  (zae (zaZ PassesOwn.never rfl (za7 rfl T.n_range (zaa (zah zap rfl T.n_len PySem.boot_len (zaa (pv 1) zac)) zac)) (zal (i:=2) S.nd rfl (Or.inl rfl))
   (zaf (zaG (PW.pt (zbK (zaY (zaX (zaA C_whole (hr.mono (by decide)) rfl (zaa (zar zaM (pv 0) (pv 2) (fun _ _=>rfl)) zac)))) (zbA (zak zcI (zar zaM (pv 0) (pv 2) (fun _ _=>rfl)) (zar zaM (pv 1) (pv 2) (fun _ _=>rfl)) (zat _)))))
    (zaf (zaj (za8)))
    (zao))))
  (zaf (zaj (za8)))),?_⟩
  refine ⟨_,rfl,_,_,true,rfl,.lst ha,rfl,_,rfl,?_⟩
  refine iteF ?_
  refine ⟨_,rfl,_,_,rfl,.inl (SqL.of ha),_,rfl,_,_,rfl,.inl hb,rfl,_,rfl,?_⟩
  rw [List.length_map,List.length_map]
  refine ite2 (fun hc => ?_) (fun hc => ?_)
  ·have:¬ xs=ys:=fun z=>by
    subst z
    simp at hc
   rw [decide_eq_false this] at q
   exact q
  ·have hxy:xs.length=ys.length:=by
    have:(xs.length:Int)=ys.length:=by simpa using hc
    omega
   refine ⟨_,rfl,_,_,rfl,.inl hb,_,rfl,?_,?_,?_⟩
   ·rw [List.length_map]; omega
   ·rw [List.length_map]; omega
   rw [List.length_map]
   refine zbG (zaK 0 (ys.length:Int).toNat) (fun i σ H2=>H2=H/\xs.take i=ys.take i/\∃ x2,σ = [some (.ref a),some (.ref b),x2]) ⟨rfl,by simp,_,rfl⟩ (fun _ _ _ _ _=>trivial) ?_ ?_
   ·rintro i x σ H2 hx ⟨rfl,ht,x2,rfl⟩
    have hi:i < (ys.length:Int).toNat:=by
     have:=(List.getElem?_eq_some_iff.mp hx).1
     simpa using this
    rw [List.getElem?_map,List.getElem?_range hi] at hx
    cases hx
    have hiy:i < ys.length:=by omega
    have hix:i < xs.length:=by omega
    have atx:atI (xs.map V.int) (0 + ((i:Nat):Int))=some (V.int xs[i]):=by
     rw [Int.zero_add]
     refine zax ?_
     rw [List.getElem?_map,List.getElem?_eq_getElem hix]
     rfl
    have aty:atI (ys.map V.int) (0 + ((i:Nat):Int))=some (V.int ys[i]):=by
     rw [Int.zero_add]
     refine zax ?_
     rw [List.getElem?_map,List.getElem?_eq_getElem hiy]
     rfl
    refine ⟨_,rfl,_,rfl,_,_,_,_,rfl,rfl,SqL.of ha,atx,_,rfl,_,rfl,?_⟩
    refine iteF ?_
    refine ⟨_,rfl,_,rfl,_,_,_,_,rfl,rfl,SqL.of ha,atx,_,rfl,_,rfl,_,_,_,_,rfl,rfl,hb,aty,rfl,_,rfl,?_⟩
    refine ite2 (fun hc => ?_) (fun hc => ?_)
    ·have hne:¬ xs[i]=ys[i]:=by simpa using hc
     rw [decide_eq_false (list_neq hxy (List.getElem?_eq_getElem hix) (List.getElem?_eq_getElem hiy) hne)] at q
     exact q
    ·have he:xs[i]=ys[i]:=by simpa using hc
     refine ⟨rfl,?_,_,rfl⟩
     rw [zaB (List.getElem?_eq_getElem hix),zaB (List.getElem?_eq_getElem hiy),ht,he]
   ·rintro σ H2 ⟨rfl,ht,x2,rfl⟩
    have:xs=ys:=by
     rw [List.length_map,List.length_range] at ht
     rwa [List.take_of_length_le (by omega),List.take_of_length_le (by omega)] at ht
    rw [decide_eq_true this] at q
    exact q
noncomputable def sp_laying:Sp:=fun vs H Q _=>∃ (q:Addr) (a:Int) (x:Str),vs = [.ref q]/\H q=some (.tup [.int a,.str x])/\Q (.bl true) H
theorem zer:FnScope ["_law_one"] ["_law_one"] (defScope s_laying):=⟨rfl,rfl,rfl,by decide +kernel,rfl,by decide +kernel,by decide +kernel⟩
theorem ok_laying (D:DefAt K mg "_law_laying" s_laying) (T:Bn mg) (C_whole:Callee P w K mg base "_law_whole" 1 ["_law_found"] sp_whole):Callee P w K mg base "_law_laying" 2 ["_law_one"] sp_laying:=by
 refine D.callee zer (fun _ _ _ _ _ _ us hl=>match us,hl with | [_],_=>rfl) (fun vs H Q E h => ?_) (fun f cdv A outer s H vs Q E hr h => ?_)
 ·obtain ⟨qa,a,x,rfl,_⟩:=h
  rfl
 ·obtain ⟨qa,a,x,rfl,hq,q⟩:=h
  have S:=zer
  refine ⟨_,zae (zaG (PW.pt (zbK (zaY (zaX (zah (zbf "tuple") rfl T.n_isinstance boot_isinstance (zaa (pv 0) (zaa (zbF (v := .ty "tuple") rfl T.n_tuple boot_tuple rfl) zac))))) (zbA (zak zcI (zah zap rfl T.n_len PySem.boot_len (zaa (pv 0) zac)) (zab) (zat _)))))
   (zaf (zaj (za8)))
   (zao))
  (zaf (zaj (zcQ (zaA C_whole (hr.mono (by decide)) rfl (zaa (zar zas (pv 0) (zab) (fun _ _=>rfl)) zac)) (zdP (zah (zbf "str") rfl T.n_isinstance boot_isinstance (zaa (zar zas (pv 0) (zab) (fun _ _=>rfl)) (zaa (zbF (v := .ty "str") rfl T.n_str boot_str rfl) zac))))))),?_⟩
  refine ⟨_,rfl,_,_,true,rfl,.tup hq,rfl,_,rfl,?_⟩
  refine iteF ?_
  refine ⟨_,rfl,_,_,rfl,.inr (SqT.of hq),rfl,_,rfl,?_⟩
  refine iteF ?_
  refine ⟨_,rfl,_,_,_,_,rfl,rfl,SqT.of hq,at0,a,rfl,_,rfl,?_⟩
  refine iteT ?_
  exact ⟨_,rfl,_,_,_,_,rfl,rfl,SqT.of hq,at1,_,_,true,rfl,.str x,rfl,q⟩
noncomputable def sp_layings:Sp:=fun vs H Q _=>∃ (p:Addr) (ws:List V),vs = [.ref p]/\H p=some (.lst ws)/\(∀ (i:Nat) x,ws[i]?=some x->∃ q a s,x = .ref q/\H q=some (.tup [.int a,.str s]))/\Q (.bl true) H
theorem zdK:FnScope ["_law_found","_law_one"] ["_law_found"] (defScope s_layings):=⟨rfl,rfl,rfl,by decide +kernel,rfl,by decide +kernel,by decide +kernel⟩
theorem ok_layings (D:DefAt K mg "_law_layings" s_layings) (T:Bn mg) (C_laying:Callee P w K mg base "_law_laying" 2 ["_law_one"] sp_laying):Callee P w K mg base "_law_layings" 3 ["_law_found"] sp_layings:=by
 refine D.callee zdK (fun _ _ _ _ _ _ us hl=>match us,hl with | [_],_=>rfl) (fun vs H Q E h => ?_) (fun f cdv A outer s H vs Q E hr h => ?_)
 ·obtain ⟨p,ws,rfl,_⟩:=h
  rfl
 ·obtain ⟨p,ws,rfl,hp,hw,q⟩:=h
  have S:=zdK
  refine ⟨_,zae (zaG (zaY (zaX (zah (zbf "list") rfl T.n_isinstance boot_isinstance (zaa (pv 0) (zaa (zbF (v := .ty "list") rfl T.n_list boot_list rfl) zac)))))
   (zaf (zaj (za8)))
   (zao))
  (zae (zaZ PassesOwn.never rfl (zaz (pv 0)) (zal (i:=1) S.nd rfl (Or.inl rfl))
   (zaf (zaG (zaY (zaX (zaA C_laying (hr.mono (by decide)) rfl (zaa (pv 1) zac))))
    (zaf (zaj (za8)))
    (zao))))
  (zaf (zaj (za8)))),?_⟩
  refine ⟨_,rfl,_,_,true,rfl,.lst hp,rfl,_,rfl,?_⟩
  refine iteF ?_
  refine ⟨_,rfl,_,rfl,⟨_,SqL.of hp⟩,?_⟩
  refine zbG (zam K p ws) (fun i σ Hx=>Hx=H/\∃ x1,σ = [some (.ref p),x1]) ⟨rfl,_,rfl⟩ (fun i σ Hx _ h=>by rw [h.1]; exact SqL.of hp) ?_ ?_
  ·rintro i x σ Hx hx ⟨rfl,x1,rfl⟩
   obtain ⟨qa,a,x',rfl,e⟩:=hw i x hx
   refine ⟨_,rfl,qa,a,x',rfl,e,_,rfl,?_⟩
   refine iteF ?_
   exact ⟨rfl,_,rfl⟩
  ·rintro σ Hx ⟨rfl,x1,rfl⟩
   exact q
theorem at4 {x y z u:V}:atI [x,y,z,u] 0=some x/\atI [x,y,z,u] 1=some y/\atI [x,y,z,u] 2=some z/\atI [x,y,z,u] 3=some u:=⟨show atI _ ((0:Nat):Int)=_ from zax rfl,show atI _ ((1:Nat):Int)=_ from zax rfl,show atI _ ((2:Nat):Int)=_ from zax rfl,show atI _ ((3:Nat):Int)=_ from zax rfl⟩
theorem lays_each {H:Hp} {ws:List V} {nm:Nat->Str} {n:Nat} (r:LaysR H ws nm n):∀ (i:Nat) x,ws[i]?=some x->∃ q a s,x = .ref q/\H q=some (.tup [.int a,.str s]):=fun i x h=>by
 obtain ⟨j,_,q,e1,e2⟩:=Paired.rev r h
 exact ⟨q,_,_,e1,e2⟩
noncomputable def sp_stripform:Sp:=fun vs H Q _=>∃ (t:Addr) (C:Combs),vs = [.ref t]/\StripR H t C/\∀ H',Same H H'->Q (.bl true) H'
theorem zcO:FnScope ["_law_told"] ["_law_told"] (defScope s_stripform):=⟨rfl,rfl,rfl,by decide +kernel,rfl,by decide +kernel,by decide +kernel⟩
theorem ok_stripform (D:DefAt K mg "_law_stripform" s_stripform) (T:Bn mg) (C_whole:Callee P w K mg base "_law_whole" 1 ["_law_found"] sp_whole) (C_layings:Callee P w K mg base "_law_layings" 3 ["_law_found"] sp_layings):Callee P w K mg base "_law_stripform" 4 ["_law_told"] sp_stripform:=by
 refine D.callee zcO (fun _ _ _ _ _ _ us hl=>match us,hl with | [_],_=>rfl) (fun vs H Q E h => ?_) (fun f cdv A outer s H vs Q E hr h => ?_)
 ·obtain ⟨t,C,rfl,_⟩:=h
  rfl
 ·obtain ⟨t,C,rfl,lr,q⟩:=h
  have S:=zcO
  refine ⟨_,zae (zaG (PW.pt (zbK (zaY (zaX (zah (zbf "tuple") rfl T.n_isinstance boot_isinstance (zaa (pv 0) (zaa (zbF (v := .ty "tuple") rfl T.n_tuple boot_tuple rfl) zac))))) (zbK (zak zeY (zah zap rfl T.n_len PySem.boot_len (zaa (pv 0) zac)) (zab) (zat _)) (zbA (zaY (zaX (zah (zbf "str") rfl T.n_isinstance boot_isinstance (zaa (zar zas (pv 0) (zab) (fun _ _=>rfl)) (zaa (zbF (v := .ty "str") rfl T.n_str boot_str rfl) zac)))))))))
   (zaf (zaj (za8)))
   (zao))
  (zae (zaG (zak zcx (zar zas (pv 0) (zab) (fun _ _=>rfl)) (zay) (zat _))
   (zaf (zaj (zcQ (zbL zcx (zah zap rfl T.n_len PySem.boot_len (zaa (pv 0) zac)) (zab) (zat _)) (zcQ (zaA C_whole (hr.mono (by decide)) rfl (zaa (zar zas (pv 0) (zab) (fun _ _=>rfl)) zac)) (zdP (zah (zbf "list") rfl T.n_isinstance boot_isinstance (zaa (zar zas (pv 0) (zab) (fun _ _=>rfl)) (zaa (zbF (v := .ty "list") rfl T.n_list boot_list rfl) zac))))))))
   (zao))
  (zae (zaG (PW.pt (zbK (zak zcI (zar zas (pv 0) (zab) (fun _ _=>rfl)) (zay) (zat _)) (zbK (zak zcI (zah zap rfl T.n_len PySem.boot_len (zaa (pv 0) zac)) (zab) (zat _)) (zbA (zaY (zaX (zaA C_layings (hr.mono (by decide)) rfl (zaa (zar zas (pv 0) (zab) (fun _ _=>rfl)) zac))))))))
   (zaf (zaj (za8)))
   (zao))
  (zae (zaG (PW.pt (zbK (zaY (zaX (zaA C_whole (hr.mono (by decide)) rfl (zaa (zar zas (pv 0) (zab) (fun _ _=>rfl)) zac)))) (zbA (zaY (zaX (zaA C_whole (hr.mono (by decide)) rfl (zaa (zar zas (pv 0) (zab) (fun _ _=>rfl)) zac)))))))
   (zaf (zaj (za8)))
   (zao))
  (zaf (zaj (zcQ (zbL zd9 (zar zas (pv 0) (zab) (fun _ _=>rfl)) (zab) (zat _)) (zcQ (zbL zd9 (zar zas (pv 0) (zab) (fun _ _=>rfl)) (zab) (zat _)) (zdP (zbL zd8 (zav zaO (zar zas (pv 0) (zab) (fun _ _=>rfl)) (zar zas (pv 0) (zab) (fun _ _=>rfl))) (zab) (zat _)))))))))),?_⟩
  rcases lr with ⟨m,st,n,pl,ws,sd,ht,hpl,la⟩ | ⟨m,k,pr,ws,hfix,hz,e1,e2,e3,ht,hpr,rn⟩
  ·obtain ⟨_,_,h1,h128,_⟩:=sd
   refine ⟨_,rfl,_,_,true,rfl,.tup ht,rfl,_,rfl,?_⟩
   refine iteF ?_
   refine ⟨_,rfl,_,_,rfl,.inr (SqT.of ht),_,_,rfl,rfl,_,rfl,?_⟩
   refine iteF ?_
   refine ⟨_,rfl,_,_,_,_,rfl,rfl,SqT.of ht,at4.1,_,_,true,rfl,.str _,rfl,_,rfl,?_⟩
   refine iteF ?_
   refine ⟨_,rfl,_,_,_,_,rfl,rfl,SqT.of ht,at4.1,rfl,_,rfl,?_⟩
   refine iteF ?_
   refine ⟨_,rfl,_,_,_,_,rfl,rfl,SqT.of ht,at4.1,rfl,_,rfl,?_⟩
   refine iteF ?_
   refine ⟨_,rfl,_,_,rfl,.inr (SqT.of ht),rfl,_,rfl,?_⟩
   refine iteF ?_
   refine ⟨_,rfl,_,_,_,_,rfl,rfl,SqT.of ht,at4.2.2.2,pl,ws,rfl,hpl,lays_each la,_,rfl,?_⟩
   refine iteF ?_
   refine ⟨_,rfl,_,_,_,_,rfl,rfl,SqT.of ht,at4.2.1,_,rfl,_,rfl,?_⟩
   refine iteF ?_
   refine ⟨_,rfl,_,_,_,_,rfl,rfl,SqT.of ht,at4.2.2.1,_,rfl,_,rfl,?_⟩
   refine iteF ?_
   refine ⟨_,rfl,_,_,_,_,rfl,rfl,SqT.of ht,at4.2.1,_,_,rfl,rfl,_,rfl,?_⟩
   rw [decide_eq_true (show (0:Int)<=((st:Nat):Int) by omega)]
   refine iteT ?_
   refine ⟨_,rfl,_,_,_,_,rfl,rfl,SqT.of ht,at4.2.2.1,_,_,rfl,rfl,_,rfl,?_⟩
   rw [decide_eq_true (show (1:Int)<=((n - st:Nat):Int) by omega)]
   refine iteT ?_
   refine ⟨_,rfl,_,_,_,_,rfl,rfl,SqT.of ht,at4.2.1,_,rfl,_,_,_,_,rfl,rfl,SqT.of ht,at4.2.2.1,_,_,rfl,rfl,_,_,rfl,rfl,?_⟩
   show Q (.bl (decide (((st:Nat):Int) + ((n - st:Nat):Int)<=128))) H
   rw [decide_eq_true (show ((st:Nat):Int) + ((n - st:Nat):Int)<=128 by omega)]
   exact q H (Same.refl H)
  ·refine ⟨_,rfl,_,_,true,rfl,.tup ht,rfl,_,rfl,?_⟩
   refine iteF ?_
   refine ⟨_,rfl,_,_,rfl,.inr (SqT.of ht),_,_,rfl,rfl,_,rfl,?_⟩
   refine iteF ?_
   refine ⟨_,rfl,_,_,_,_,rfl,rfl,SqT.of ht,at3s.1,_,_,true,rfl,.str _,rfl,_,rfl,?_⟩
   refine iteF ?_
   refine ⟨_,rfl,_,_,_,_,rfl,rfl,SqT.of ht,at3s.1,rfl,_,rfl,?_⟩
   refine iteT ?_
   refine ⟨_,rfl,_,_,rfl,.inr (SqT.of ht),rfl,_,rfl,?_⟩
   refine iteT ?_
   refine ⟨_,rfl,_,_,_,_,rfl,rfl,SqT.of ht,at3s.2.1,_,rfl,_,rfl,?_⟩
   refine iteT ?_
   exact ⟨_,rfl,_,_,_,_,rfl,rfl,SqT.of ht,at3s.2.2,_,_,true,rfl,.lst hpr,rfl,q H (Same.refl H)⟩
noncomputable def tellT (Q:VK):VK:=fun v H1=>(2:Nat)<=sizeLine/\∀ p,H1 p=none->Q (.ref p) (upd H1 p (.tup [.str (Str.ofString "told"),v]))
noncomputable def refuT (K:PySem.W.Frag) (ea:Nat->Addr) (ce:Value) (Q:VK):XK:=fun c _ H1=>∃ D j,c = .ref D/\KindF K ea D j/\PySem.W.exmOne K (.ref D) ce=some true/\∀ p l H2,Same H1 H2->H1 l=none->H2 l=some (.lst [.str (errName j)])->H2 p=none->Q (.ref p) (upd H2 p (.tup [.str (Str.ofString "refused"),.ref l]))
noncomputable def spTry1 (K:PySem.W.Frag) (ea:Nat->Addr) (ce:Value) (C:Addr) (m:Str) (sp:Sp):Sp:=fun vs H Q _=>∃ b x dx fs,vs = [.ref b,x]/\H b=some (.ins C dx fs)/\fs.lookup m=none/\sp [.ref b,x] H (tellT Q) (refuT K ea ce Q)
noncomputable def spTry2 (K:PySem.W.Frag) (ea:Nat->Addr) (ce:Value) (C:Addr) (m:Str) (sp:Sp):Sp:=fun vs H Q _=>∃ b x y dx fs,vs = [.ref b,x,y]/\H b=some (.ins C dx fs)/\fs.lookup m=none/\sp [.ref b,x,y] H (tellT Q) (refuT K ea ce Q)
noncomputable def spTry0 (K:PySem.W.Frag) (ea:Nat->Addr) (ce:Value) (C:Addr) (m:Str) (sp:Sp):Sp:=fun vs H Q _=>∃ b dx fs,vs = [.ref b]/\H b=some (.ins C dx fs)/\fs.lookup m=none/\sp [.ref b] H (tellT Q) (refuT K ea ce Q)
noncomputable def spTryF (K:PySem.W.Frag) (ea:Nat->Addr) (ce:Value) (sp:Sp):Sp:=fun vs H Q _=>∃ x y,vs = [x,y]/\sp [x,y] H (tellT Q) (refuT K ea ce Q)
theorem zfQ:FnScope ["_law_book_here","_law_place","_law_e"] ["_law_book_here","_law_place"] (defScope s_over):=⟨rfl,rfl,rfl,by decide +kernel,rfl,by decide +kernel,by decide +kernel⟩
theorem ok_tover (D:DefAt K mg "_law_over" s_over) (T:Bn mg) {ea:Nat->Addr} {ce:Value} {sp:Sp} (V_CombError:mg "CombError" = some ce) (C_kind:HCallee P w K mg base "_law_kind" 1 ["_law_e"] (spKind K ea))
  (C_comb_over_strip:Callee1 P w K mg base "comb_over_strip" 6 ["book","place"] sp):Callee P w K mg base "_law_over" 7 ["_law_book_here","_law_place"] (spTryF K ea ce sp):=by
 refine D.callee zfQ (fun _ _ _ _ _ _ us hl=>match us,hl with | [_,_],_=>rfl) (fun vs H Q E h => ?_) (fun f cdv A outer s H vs Q E hr h => ?_)
 ·obtain ⟨x,y,rfl,_⟩:=h
  rfl
 ·obtain ⟨x,y,rfl,h⟩:=h
  have S:=zfQ
  refine ⟨_,zaf (ps_try (i:=2) rfl rfl S.nd rfl rfl rfl V_CombError (fun E pn=>zaf (zaj (zbq (zaa (zay) (zaa (zdf C_comb_over_strip (hr.mono (by decide)) (by first | exact zaQ | exact zca | exact za5) rfl (zaa (pv 0) (zaa (pv 1) zac))) zac)))))
   (fun x c ox pn vs hc hd h2 hx=>zaf (zaj (zbq (zaa (zay) (zaa (pe_hand C_kind hr hx hc hd h2 (by decide) rfl (zaa (pv 2) zac)) zac)))))),?_⟩
  refine ⟨refuT K ea ce Q,⟨_,rfl,_,rfl,h⟩,fun c H' x' hE hx' => ?_⟩
  obtain ⟨Dd,j,rfl,kf,he,q⟩:=hE
  refine ⟨he,_,rfl,rfl,Dd,j,rfl,kf,fun p H2 s2 n2 e2=>⟨bigr rfl,fun p' np' => ?_⟩⟩
  exact q p' p H2 s2 n2 e2 np'
theorem ej_re {K:PySem.W.Frag} {ea:Nat->Addr} {ce:Value} {j:Nat} (e:EJ K ea ce j) {Q:VK} {H:Hp} (q:∀ p l H2,Same H H2->H l=none->H2 l=some (.lst [.str (errName j)])->H2 p=none->Q (.ref p) (upd H2 p (.tup [.str (Str.ofString "refused"),.ref l]))):refuT K ea ce Q (.ref (ea j)) none H:=⟨ea j,j,rfl,e.kf,e.ex,q⟩
noncomputable def Ans (H:Hp) (fd:Addr):Except Nat Int->Prop
 | .ok n=>H fd=some (.tup [.str (Str.ofString "told"),.int n])
 | .error j=>∃ le,H fd=some (.tup [.str (Str.ofString "refused"),.ref le])/\H le=some (.lst [.str (errName j)])
theorem Ans.same {H H':Hp} {fd:Addr} {r:Except Nat Int} (a:Ans H fd r) (s:Same H H'):Ans H' fd r:=by
 cases r with
 | ok n=>exact s _ _ a
 | error j=>obtain ⟨le,h1,h2⟩:=a; exact ⟨le,s _ _ h1,s _ _ h2⟩
theorem zgk {K:PySem.W.Frag} {ea:Nat->Addr} {ce:Value} {j:Nat} (e:EJ K ea ce j) {Q:VK} {H:Hp} (q:∀ fd H2,Same H H2->Ans H2 fd (.error j)->Q (.ref fd) H2):refuT K ea ce Q (.ref (ea j)) none H :=
 ej_re e fun p le H2 s nle hle np=>q p _ (s.put (s.free np)) ⟨le,zad,by rw [zai (zaq hle np)]; exact hle⟩
noncomputable def csOf (r:Except Nat Combs) (cs:Combs):Combs:=match r with
 | .ok c=>c
 | .error _=>cs
noncomputable def pastOf (r:Except Nat Combs) (cs:Combs) (past:List Combs):List Combs:=match r with
 | .ok _=>past ++ [cs]
 | .error _=>past
noncomputable def ansOf (r:Except Nat Combs) (past:List Combs):Except Nat Int:=match r with
 | .ok _ => .ok ((past.length:Int) + 1)
 | .error j => .error j
theorem deed_try {K:PySem.W.Frag} {ea:Nat->Addr} {ce:Value} {C b l:Addr} {G:Addr->Prop} {H:Hp} {cs:Combs} {past:List Combs} {Q:VK} {r:Except Nat Combs} (B:Bk C G H b l cs past) (ej:∀ j,r = .error j->EJ K ea ce j)
  (q:∀ Hx fd Gx,Mv b l G Gx H Hx->Bk C Gx Hx b l (csOf r cs) (pastOf r cs past)->Ans Hx fd (ansOf r past)->Q (.ref fd) Hx):Deed ea C G H b l cs past (tellT Q) (refuT K ea ce Q) r:=by
 cases r with
 | error j =>
  intro H' s
  exact zgk (ej j rfl) fun fd H2 s2 a=>q H2 fd G (Mv.ofSame (s.trans s2)) (B.same (s.trans s2)) a
 | ok cs' =>
  intro H' G' m B'
  refine ⟨bigr rfl,fun p np => ?_⟩
  have s2:Same H' (upd H' p (.tup [.str (Str.ofString "told"),.int ((past.length:Int) + 1)])):=Same.new np
  exact q _ p G' (m.trans (Mv.ofSame s2)) (B'.same s2) zad
noncomputable def spLaw (K:PySem.W.Frag):Sp:=fun vs H Q _=>∃ (a:Addr) (ns:List Int),vs = [.ref a]/\SqL K H a (ns.map V.int)/\ns.length<=63/\∀ H',Q (.bl true) H'
noncomputable def sp_unrolled:Sp:=fun vs H Q _=>∃ (pl:Addr) (st n:Nat) (nm:Nat->Str) (ws:List V),vs = [.ref pl,.int (st:Nat),.int ((n - st:Nat):Int),.int 5]/\H pl=some (.lst ws)/\LaysR H ws nm n/\st < n/\n<=128/\(∀ j k,st<=j->nm (j + k * (n - st))=nm j)/\∀ p vs' H',Same H H'->H' p=some (.lst vs')->LaysR H' vs' nm (st + 5 * (n - st))->Q (.ref p) H'
theorem zc9:FnScope ["_law_layings_here","_law_begin","_law_span","_law_many","_law_found","_law_turns","_law_k","_law_place","_law_word_here"] ["_law_layings_here","_law_begin","_law_span","_law_many"] (defScope s_unrolled):=⟨rfl,rfl,rfl,by decide +kernel,rfl,by decide +kernel,by decide +kernel⟩
theorem ok_unrolled (D:DefAt K mg "_law_unrolled" s_unrolled) (T:Bn mg):Callee P w K mg base "_law_unrolled" 1 ["_law_layings_here","_law_begin","_law_span","_law_many"] sp_unrolled:=by
 refine D.callee zc9 (fun _ _ _ _ _ _ us hl=>match us,hl with | [_,_,_,_],_=>rfl) (fun vs H Q E h => ?_) (fun f cdv A outer s H vs Q E hr h => ?_)
 ·obtain ⟨pl,st,n,nm,ws,rfl,_⟩:=h
  rfl
 ·obtain ⟨pl,st,n,nm,ws,rfl,hpl,la,hst,hn,per,q⟩:=h
  have S:=zc9
  refine ⟨_,zae (zau (i:=4) S.nd rfl (Or.inl rfl) (za1 zbC rfl T.n_list boot_list (zaa (pv 0) zac)))
  (zae (zeU (i:=5) S.nd rfl (Or.inl rfl) (own := ["_law_one"]) (caps := [(1,"_law_begin")]) rfl ⟨rfl,rfl,rfl,rfl,⟨⟨rfl,rfl,.inl rfl⟩,trivial⟩⟩ (zaz (pv 0)) (fun _ _ _ _ _ _=>zal (i:=0) (zaH (by decide +kernel)) rfl (Or.inl rfl)) (fun _ _ _ _ _ _=>zbD (zak zd9 (zar (zce K rfl) (pv 0) (zab) (fun _ _=>rfl)) (pv 1) (zat _))) (fun _ _ _ _ _ _=>pv 0))
  (zae (zaZ PassesOwn.never rfl (pi_range2 rfl T.n_range (zaa (zab) (zaa (pv 3) zac))) (zal (i:=6) S.nd rfl (Or.inl rfl))
   (zaf (zaZ PassesOwn.never rfl (zaz (pv 5)) (zdO rfl (zaD (zal (i:=7) S.nd rfl (Or.inl rfl)) (zaD (zal (i:=8) S.nd rfl (Or.inl rfl)) (zbE))))
    (zaf (zbe (zdv PySem.F.plainAttrs_list PySem.F.slot_list_append PySem.F.type_list_append zaV (pv 4) (zaa (zbq (zaa (zav zaO (pv 7) (zav zdQ (pv 6) (pv 2))) (zaa (pv 8) zac))) zac)))))))
  (zaf (zaj (pv 4))))),?_⟩
  refine ⟨_,rfl,_,_,rfl,.inl (SqL.of hpl),fun fo nfo => ?_⟩
  have s1:Same H (upd H fo (.lst ws)):=Same.new nfo
  have hfo1:upd H fo (.lst ws) fo=some (.lst ws):=zad
  have la1:LaysR (upd H fo (.lst ws)) ws nm n:=la.mono fun _ _ e=>s1 _ _ e
  generalize hH1:upd H fo (.lst ws)=H1 at s1 hfo1 la1 ⊢
  have hlen:=la.len
  have hll:=Paired.length la
  refine ⟨_,rfl,_,rfl,⟨_,SqL.of (s1 _ _ hpl)⟩,fun D hD => ?_⟩
  have hDf:D≠fo:=fun z=>by rw [z,hfo1] at hD; cases hD
  have hvD:∀ j,j < ws.length->ws.getD j .non ≠ .ref D:=fun j hj z=>by
   obtain ⟨y,ey,qa,rfl,e2⟩:=Paired.at la1 (List.getElem?_eq_getElem (show j < _ by rw [hll]; exact hj))
   rw [List.getD_eq_getElem?_getD,ey,Option.getD_some] at z
   injection z with z
   rw [z,hD] at e2
   cases e2
  refine zcA (capv := [some (.int (st:Nat))]) (by rfl) (zam K pl ws) (big (by omega)) hD (fun H' s'=>SqL.of (s' _ _ (s1 _ _ hpl))) (fun j=>decide (st<=(laid nm n).getD j 0)) (fun j=>ws.getD j .non) (fun j hj _=>hvD j hj) ?_ ?_ ?_
  ·intro j x hx H' R s' h
   have hj:j < (laid nm n).length:=by unfold laid; rw [hll]; exact (List.getElem?_eq_some_iff.mp hx).1
   obtain ⟨y,ey,qa,rfl,e2⟩:=Paired.at la1 (List.getElem?_eq_getElem hj)
   rw [hx] at ey
   cases ey
   refine ⟨_,rfl,_,_,_,_,rfl,rfl,SqT.of (s' _ _ e2),at0,_,rfl,_,_,rfl,rfl,_,rfl,?_⟩
   have:=h H' (Same.refl _)
   rw [List.getD_eq_getElem?_getD,List.getElem?_eq_getElem hj,Option.getD_some] at this
   have e3:(decide ((st:Int)<=(((laid nm n)[j]:Nat):Int)))=decide (st<=(laid nm n)[j]):=by
    rw [decide_eq_decide]; omega
   rw [<- e3] at this
   exact this
  ·intro j x hx _ H' R s' h
   refine ⟨_,rfl,?_⟩
   have:=h H' (Same.refl _)
   rw [List.getD_eq_getElem?_getD,hx] at this
   exact this
  intro H2 s2 e2
  have eT:((List.range ws.length).filter fun j=>decide (st<=(laid nm n).getD j 0)).map (fun j=>(laid nm n).getD j 0)=(laid nm n).filter fun j=>decide (st<=j):=by
   have:=zdV (laid nm n) (fun j=>decide (st<=j)) 0
   rwa [show (laid nm n).length=ws.length from hll] at this
  have tu:PL H2 (((List.range ws.length).filter fun j=>decide (st<=(laid nm n).getD j 0)).map fun j=>ws.getD j .non) nm ((laid nm n).filter fun j=>decide (st<=j)):=by
   rw [<- eT]
   have:∀ {l:List Nat},(∀ j∈l,j < ws.length)->PL H2 (l.map fun j=>ws.getD j .non) nm (l.map fun j=>(laid nm n).getD j 0):=by
    intro l
    induction l with
    | nil=>exact fun _ => .nil
    | cons j l ih =>
     intro h
     have hj:=h j List.mem_cons_self
     obtain ⟨y,ey,qa,rfl,e3⟩:=Paired.at la1 (List.getElem?_eq_getElem (show j < (laid nm n).length by unfold laid; rw [hll]; exact hj))
     refine .cons ⟨qa,?_,?_⟩ (ih fun i hi=>h i (List.mem_cons_of_mem _ hi))
     ·show ws.getD j .non=_
      rw [List.getD_eq_getElem?_getD,ey]; rfl
     ·show H2 qa=some (HO.tup [V.int (((laid nm n).getD j 0:Nat):Int),V.str (nm ((laid nm n).getD j 0))])
      rw [List.getD_eq_getElem?_getD,List.getElem?_eq_getElem (show j < (laid nm n).length by unfold laid; rw [hll]; exact hj)]
      exact s2 _ _ e3
   exact this fun j hj=>List.mem_range.mp (List.mem_filter.mp hj).1
  have la2:=la1.mono fun _ _ e=>s2 _ _ e
  have hfo2:=s2 _ _ hfo1
  have sx0:=s1.trans s2
  have hDx0:=e2
  generalize htl:(((List.range ws.length).filter fun j=>decide (st<=(laid nm n).getD j 0)).map fun j=>ws.getD j .non)=tv at tu e2
  have htl2:=Paired.length tu
  have htb:tv.length<=128:=by
   rw [<- htl2]
   refine Nat.le_trans (List.length_filter_le _ _) ?_
   unfold laid
   rw [hll]
   omega
  refine ⟨_,rfl,1,5,rfl,by decide,?_⟩
  refine zbG (zaK 1 4) (fun i σ Hx=>Same H Hx/\∃ vs' x6 x7 x8,σ = [some (.ref pl),some (.int (st:Nat)),some (.int ((n - st:Nat):Int)),some (.int 5),some (.ref fo),some (.ref D),x6,x7,x8]/\Hx fo=some (.lst vs')/\Hx D=some (.lst tv)/\PL Hx tv nm ((laid nm n).filter fun j=>decide (st<=j))/\PL Hx vs' nm (laid nm (st + (1 + i) * (n - st)))) ⟨sx0,ws,_,_,_,rfl,hfo2,e2,tu,?_⟩ (fun _ _ _ _ _=>trivial) ?_ ?_
  ·rw [show st + (1 + 0) * (n - st)=n by omega]
   exact la2
  ·rintro i x σ Hx hx ⟨sx,vs',x6,x7,x8,rfl,hfo,hDx,tux,pvx⟩
   obtain ⟨hi,rfl⟩:=zbp hx
   have hi:i < 4:=hi
   refine ⟨_,rfl,_,rfl,⟨_,SqL.of hDx⟩,?_⟩
   have hvl:=Paired.length pvx
   have hlb:vs'.length<=1200:=by
    rw [<- hvl]
    unfold laid
    refine Nat.le_trans (List.length_filter_le _ _) ?_
    rw [List.length_range]
    have:(1 + i) * (n - st)<=8 * 128:=Nat.mul_le_mul (by omega) (by omega)
    omega
   refine zbG (zam K D tv) (fun j σ Hy=>Same H Hy/\∃ vs'' x7 x8,σ = [some (.ref pl),some (.int (st:Nat)),some (.int ((n - st:Nat):Int)),some (.int 5),some (.ref fo),some (.ref D),some (.int (1 + (i:Nat))),x7,x8]/\Hy fo=some (.lst vs'')/\Hy D=some (.lst tv)/\PL Hy tv nm ((laid nm n).filter fun j=>decide (st<=j))/\PL Hy vs'' nm (laid nm (st + (1 + i) * (n - st)) ++ (((laid nm n).filter fun j=>decide (st<=j)).take j).map fun a=>a + (1 + i) * (n - st))) ⟨sx,vs',_,_,rfl,hfo,hDx,tux,by simpa using pvx⟩ (fun j σ Hy _ h=>by obtain ⟨_,_,_,_,_,_,h,_⟩:=h; exact SqL.of h) ?_ ?_
   ·rintro j y σ Hy hy ⟨sy,vs'',x7,x8,rfl,hfoy,hDy,tuy,pvy⟩
    have hj:j < ((laid nm n).filter fun j=>decide (st<=j)).length:=by rw [htl2]; exact (List.getElem?_eq_some_iff.mp hy).1
    obtain ⟨y',ey,qa,rfl,e3⟩:=Paired.at tuy (List.getElem?_eq_getElem hj)
    rw [hy] at ey
    cases ey
    have hvl2:=Paired.length pvy
    rw [List.length_append,hvl,List.length_map,List.length_take] at hvl2
    refine ⟨qa,_,rfl,SqT.of e3,rfl,_,_,rfl,_,_,rfl,rfl,?_⟩
    refine ⟨_,rfl,.inl ⟨rfl,_,SqL.of hfoy⟩,_,rfl,_,rfl,_,rfl,_,_,rfl,rfl,.inl ⟨by omega,by omega⟩,_,_,rfl,rfl,_,rfl,bigr rfl,fun t nt => ?_⟩
    have hge:st<=((laid nm n).filter fun j=>decide (st<=j))[j]:=of_decide_eq_true (List.mem_filter.mp (List.getElem_mem hj)).2
    have s3:Same Hy _:=Same.new (o:=HO.tup [V.int ((((laid nm n).filter fun j=>decide (st<=j))[j]:Nat) + (1 + ((i:Nat):Int)) * ((n - st:Nat):Int)),V.str (nm ((laid nm n).filter fun j=>decide (st<=j))[j])]) nt
    have ht3:upd Hy t (HO.tup [V.int ((((laid nm n).filter fun j=>decide (st<=j))[j]:Nat) + (1 + ((i:Nat):Int)) * ((n - st:Nat):Int)),V.str (nm ((laid nm n).filter fun j=>decide (st<=j))[j])]) t=_:=zad
    have hfo3:=s3 _ _ hfoy
    have hD3:=s3 _ _ hDy
    have tu3:=tuy.mono fun _ _ e=>s3 _ _ e
    have pv3:=pvy.mono fun _ _ e=>s3 _ _ e
    have sy3:=sy.trans s3
    generalize upd Hy t (HO.tup [V.int ((((laid nm n).filter fun j=>decide (st<=j))[j]:Nat) + (1 + ((i:Nat):Int)) * ((n - st:Nat):Int)),V.str (nm ((laid nm n).filter fun j=>decide (st<=j))[j])])=H3 at ht3 hfo3 hD3 tu3 pv3 sy3 ⊢
    refine ⟨fo,vs'',_,rfl,rfl,hfo3,Nat.lt_of_lt_of_le (by omega:vs''.length < 2000) (by decide),?_⟩
    have kt:∀ qa xs,H3 qa=some (.tup xs)->upd H3 fo (.lst (vs'' ++ [.ref t])) qa=some (.tup xs):=fun qa xs z=>by rw [zai (fun z2=>by rw [z2,hfo3] at z; cases z)]; exact z
    refine ⟨sy3.put nfo,_,_,_,rfl,zad,(by rw [zai hDf]; exact hD3),tu3.mono kt,?_⟩
    rw [List.take_succ_eq_append_getElem hj,List.map_append,<- List.append_assoc]
    refine Paired.snoc (pv3.mono kt) ⟨t,rfl,kt _ _ ?_⟩
    rw [ht3,per _ _ hge]
    congr 3
   ·rintro σ Hy ⟨sy,vs'',x7,x8,rfl,hfoy,hDy,tuy,pvy⟩
    rw [<- htl2,List.take_length,<- laid_more (by omega) (fun j hj=>per j (1 + i) hj)] at pvy
    exact ⟨sy,vs'',_,_,_,rfl,hfoy,hDy,tuy,by rw [show 1 + (i + 1)=1 + i + 1 by omega]; exact pvy⟩
  ·rintro σ Hx ⟨sx,vs',x6,x7,x8,rfl,hfo,hDx,tux,pvx⟩
   rw [zbH] at pvx
   exact ⟨_,rfl,q fo vs' Hx sx hfo pvx⟩
noncomputable def sp_lteeth:Sp:=fun vs H Q _=>∃ (k:Addr) (x:Str) (ws:List V) (ks:Combs) (ts:List Int) (G:Addr->Prop),vs = [.ref k,.str x]/\H k=some (.lst ws)/\Drawn G H ws ks/\cGet ks x=some ts/\∀ t,G t->H t=some (.lst (ts.map V.int))->Q (.ref t) H
theorem zfi:FnScope ["_law_kinds","_law_word_here","_law_name","_law_teeth_here"] ["_law_kinds","_law_word_here"] (defScope s_teeth):=⟨rfl,rfl,rfl,by decide +kernel,rfl,by decide +kernel,by decide +kernel⟩
theorem ok_lteeth (D:DefAt K mg "_law_teeth" s_teeth) (T:Bn mg):Callee P w K mg base "_law_teeth" 1 ["_law_kinds","_law_word_here"] sp_lteeth:=by
 refine D.callee zfi (fun _ _ _ _ _ _ us hl=>match us,hl with | [_,_],_=>rfl) (fun vs H Q E h => ?_) (fun f cdv A outer s H vs Q E hr h => ?_)
 ·obtain ⟨k,x,ws,ks,ts,G,rfl,_⟩:=h
  rfl
 ·obtain ⟨k,x,ws,ks,ts,G,rfl,hk,dr,hg,q⟩:=h
  have S:=zfi
  have hlen:=dr.rows.length
  refine ⟨_,zae (zaZ PassesOwn.never rfl (zaz (pv 0)) (zf1 rfl (zaD (zal (i:=2) S.nd rfl (Or.inl rfl)) (zaD (zal (i:=3) S.nd rfl (Or.inl rfl)) (zbE))))
   (zaf (zaG (zak zcx (pv 2) (pv 1) (zat _))
    (zaf (zaj (pv 3)))
    (zao))))
  (zaf (zaj (za0 (zac)))),?_⟩
  refine ⟨_,rfl,_,rfl,⟨_,SqL.of hk⟩,?_⟩
  refine zbG (zam K k ws) (fun i σ Hx=>Hx=H/\(∀ c∈ks.take i,c.1≠x)/\∃ x2 x3,σ = [some (.ref k),some (.str x),x2,x3]) ⟨rfl,by simp,_,_,rfl⟩ (fun i σ Hx _ h=>by rw [h.1]; exact SqL.of hk) ?_ ?_
  ·rintro i y σ Hx hx ⟨rfl,hno,x2,x3,rfl⟩
   obtain ⟨c,qa,t,hc,rfl,hq,ht,hgt⟩:=dr.rows.getG hx
   refine ⟨qa,_,rfl,SqL.of hq,rfl,_,_,rfl,_,_,rfl,rfl,?_⟩
   refine ⟨_,rfl,_,rfl,rfl,_,rfl,?_⟩
   by_cases e:c.1=x
   ·rw [decide_eq_true (by rw [e])]
    refine iteT ?_
    have:=zcc dr.nd (List.mem_of_getElem? hc)
    rw [e,hg] at this
    refine ⟨_,rfl,q t hgt ?_⟩
    rw [ht,Option.some.inj this]
   ·rw [decide_eq_false (fun z=>e (by injection z))]
    refine iteF ?_
    refine ⟨rfl,fun c' hc' => ?_,_,_,rfl⟩
    rw [zaB hc] at hc'
    rcases List.mem_append.mp hc' with z | z
    ·exact hno c' z
    ·rw [List.mem_singleton.mp z]; exact e
  ·rintro σ Hx ⟨rfl,hno,x2,x3,rfl⟩
   rw [List.take_of_length_le (by omega)] at hno
   exact absurd rfl (hno _ (zcg hg))
noncomputable def ovL (al:Nat->Nat->Bool) (i m:Nat):List V:=(List.range m).map fun p=>V.int ((ov al i p:Nat):Int)
noncomputable def sp_coversto:Sp:=fun vs H Q _=>∃ (k l:Addr) (n:Nat) (nm:Nat->Str) (ws wl:List V) (ks:Combs) (al:Nat->Nat->Bool),vs = [.ref k,.ref l,.int (n:Nat)]/\H k=some (.lst ws)/\Drawn (fun _=>True) H ws ks/\H l=some (.lst wl)/\LaysR H wl nm n/\n<=1500/\Walk al (fun i t=>decide ((t:Int)∈tkOf ks (nm i)))/\(∀ j,nm j≠Str.ofString "" -> (cGet ks (nm j)).isSome=true)/\cGet ks (Str.ofString "")=none/\∀ H',Same H H'->Q (.bl true) H'
theorem eqv_nilL {d:PyData} {ds:List PyData}:PyData.eqv (.list (d :: ds)) (.list [])=false:=by simp [PyData.eqv,PyData.eqvAll]
theorem zbU (a:List Int):SeqAt.shaped (.list (a.map PyData.int))=true:=by
 have h1:PyData.canLayAll0 (a.map PyData.int)=true:=by
  induction a with
  | nil=>rfl
  | cons x a ih=>rw [List.map_cons,PyData.canLayAll0,ih]; rfl
 have h2:∀ a:List Int,PyData.depthAll (a.map PyData.int)=0:=by
  intro a
  induction a with
  | nil=>rfl
  | cons x a ih=>rw [List.map_cons,PyData.depthAll,ih]; rfl
 simp [SeqAt.shaped,PyData.canLay0,PyData.depth,h1,h2]
theorem zed {H:Hp} {ws:List V} {nm:Nat->Str} {n:Nat} (r:LaysR H ws nm n) {i:Nat} {x:V} (h:ws[i]?=some x):∃ j q,(laid nm n)[i]?=some j/\x = .ref q/\H q=some (.tup [.int (j:Int),.str (nm j)])/\j < n/\nm j≠Str.ofString "" := by
 obtain ⟨j,e0,q,e1,e2⟩:=Paired.rev r h
 obtain ⟨h1,h2⟩:=List.mem_filter.mp (List.mem_of_getElem? e0)
 exact ⟨j,q,e0,e1,e2,List.mem_range.mp h1,by simpa using h2⟩
theorem cut_toL (ws:List V) (n:Nat):cutV ws none (some (n:Int))=ws.take n:=by
 unfold cutV
 rw [HT.sIx_none,HT.sIx_nat,List.drop_zero,Nat.sub_zero]
 by_cases h:n<=ws.length
 ·rw [Nat.min_eq_left h]
 ·rw [Nat.min_eq_right (by omega),List.take_of_length_le (Nat.le_refl _),List.take_of_length_le (by omega)]
theorem rep_one (m:Nat) (v:V):(List.replicate m [v]).flatten=List.replicate m v:=by
 induction m with
 | zero=>rfl
 | succ m ih=>rw [List.replicate_succ,List.flatten_cons,ih,List.replicate_succ]; rfl
theorem zdb:FnScope ["_law_kinds","_law_layings_here","_law_many","_law_over_here","_law_last","_law_place","_law_word_here","_law_teeth_here","_law_t"] ["_law_kinds","_law_layings_here","_law_many"] (defScope s_coversto):=⟨rfl,rfl,rfl,by decide +kernel,rfl,by decide +kernel,by decide +kernel⟩
theorem ok_coversto (D:DefAt K mg "_law_coversto" s_coversto) (T:Bn mg) (C_teeth:Callee P w K mg base "_law_teeth" 1 ["_law_kinds","_law_word_here"] sp_lteeth):Callee P w K mg base "_law_coversto" 2 ["_law_kinds","_law_layings_here","_law_many"] sp_coversto:=by
 refine D.callee zdb (fun _ _ _ _ _ _ us hl=>match us,hl with | [_,_,_],_=>rfl) (fun vs H Q E h => ?_) (fun f cdv A outer s H vs Q E hr h => ?_)
 ·obtain ⟨k,l,n,nm,ws,wl,ks,al,rfl,_⟩:=h
  rfl
 ·obtain ⟨k,l,n,nm,ws,wl,ks,al,rfl,hk,dr,hl,lr,hn,W,hnm,hno,q⟩:=h
  have S:=zdb
  have hsz:(2000:Nat)<=sizeLine:=by decide
  have gc:GC ks:=fun c hc=>(dr.good c hc).2
  have hll:=Paired.length lr
  have hemp:∀ (i t:Nat),nm i=Str.ofString "" -> decide ((t:Int)∈tkOf ks (nm i))=false:=fun i t e=>by
   unfold tkOf
   rw [e,hno]
   exact decide_eq_false nofun
  refine ⟨_,zae (zau (i:=3) S.nd rfl (Or.inl rfl) (zav op_rep (za0 (zaa (zab) zac)) (zav zaO (pv 2) (zab))))
  (zae (zau (i:=4) S.nd rfl (Or.inl rfl) (zeV zc2 (zab)))
  (zae (zaZ PassesOwn.never rfl (zaz (pv 1)) (zdO rfl (zaD (zal (i:=5) S.nd rfl (Or.inl rfl)) (zaD (zal (i:=6) S.nd rfl (Or.inl rfl)) (zbE))))
   (zae (zau (i:=7) S.nd rfl (Or.inl rfl) (zaA C_teeth (hr.mono (by decide)) rfl (zaa (pv 0) (zaa (pv 6) zac))))
   (zae (zaG (PW.pt (zbK (zak zd8 (pv 5) (pv 4) (zat _)) (zbK (zak zd9 (pv 5) (pv 2) (zat _)) (zbA (zak (zf5 hr.units) (pv 7) (za0 (zac)) (zat _))))))
    (zaf (zaj (za8)))
    (zao))
   (zae (zau (i:=4) S.nd rfl (Or.inl rfl) (pv 5))
   (zaf (zaZ PassesOwn.never rfl (zaz (pv 7)) (zal (i:=8) S.nd rfl (Or.inl rfl))
    (zaf (zgD (zav zaO (zar zaM (pv 3) (zav zaO (pv 5) (pv 8)) (fun _ _=>rfl)) (zab)) (pg_sub (pv 3) (zav zaO (pv 5) (pv 8)) set_list)))))))))
  (zaf (zaj (zcQ (zah (zcZ rfl) rfl T.n_all boot_all (zaa (zaT (own := ["_law_one"]) (caps := []) rfl ⟨rfl,rfl,rfl,rfl,trivial⟩ (zaz (pe_slice sl_list (pv 3) (po_none) (po_some (pv 2)))) (fun _ _ _ _ _ _=>zal (i:=0) (zaH (by decide +kernel)) rfl (Or.inl rfl)) (fun _ _ _ _ _ _=>zbk) (fun _ _ _ _ _ _=>zbL zcx (pv 0) (zab) (zat _))) zac)) (zdP (zbL zeY (zah (call_max1 rfl) rfl T.n_max boot_max (zaa (pv 3) zac)) (zab) (zat _)))))))),?_⟩
  refine ⟨bigr rfl,fun z nz=>⟨_,rfl,_,_,rfl,rfl,_,_,_,rfl,rfl,zad,by omega,by omega,?_,fun po npo => ?_⟩⟩
  ·rw [List.length_singleton]; omega
  have s1:Same H (upd (upd H z (.lst [.int 0])) po (.lst (List.replicate (((n:Nat):Int) + 8).toNat [V.int 0]).flatten)):=(Same.new nz).trans (Same.new npo)
  have hpo:upd (upd H z (.lst [.int 0])) po (.lst (List.replicate (((n:Nat):Int) + 8).toNat [V.int 0]).flatten) po=some (.lst (ovL al 0 (n + 8))):=by
   rw [zad,rep_one,show (((n:Nat):Int) + 8).toNat=n + 8 by omega]
   congr 2
   refine (List.eq_replicate_iff.mpr ⟨by unfold ovL; rw [List.length_map,List.length_range],fun b hb => ?_⟩).symm
   obtain ⟨p,_,rfl⟩:=List.mem_map.mp hb
   rw [W.zero]
   rfl
  have npo0:H po=none:=(Same.new nz).free npo
  generalize upd (upd H z (.lst [.int 0])) po (.lst (List.replicate (((n:Nat):Int) + 8).toNat [V.int 0]).flatten)=H1 at s1 hpo ⊢
  refine ⟨_,rfl,?_⟩
  refine ⟨_,rfl,_,rfl,⟨_,SqL.of (s1 _ _ hl)⟩,?_⟩
  refine zbG (zam K l wl) (fun i σ Hx=>Same H Hx/\∃ (a:Nat) (last:Int) (x5 x6 x7 x8:Option V),σ = [some (.ref k),some (.ref l),some (.int (n:Nat)),some (.ref po),some (.int last),x5,x6,x7,x8]/\cn nm a=i/\Hx po=some (.lst (ovL al a (n + 8)))/\∀ i' j:Nat,i<=i'->(laid nm n)[i']?=some j->last < (j:Int)) ⟨s1,0,-1,_,_,_,_,rfl,rfl,hpo,fun i' j _ _=>by omega⟩ (fun i σ Hx _ h=>SqL.of (h.1 _ _ hl)) ?_ ?_
  ·rintro i x σ Hx hx ⟨sx,a,last,x5,x6,x7,x8,rfl,hca,hpx,hlast⟩
   obtain ⟨j,qa,ej,rfl,hqa,hj,hne⟩:=zed lr hx
   obtain ⟨ts,hts⟩:=Option.isSome_iff_exists.mp (hnm j hne)
   have gts:GT ts:=gc _ (zcg hts)
   have hlt:=hlast i j (Nat.le_refl _) ej
   have hcj:=(laid_idx ej).2.2
   have etks:tkOf ks (nm j)=ts:=by unfold tkOf; rw [hts]; rfl
   refine ⟨qa,_,rfl,SqT.of (sx _ _ hqa),rfl,_,_,rfl,_,_,rfl,rfl,?_⟩
   refine ⟨_,rfl,_,rfl,k,nm j,ws,ks,ts,_,rfl,sx _ _ hk,dr.live.same sx,hts,fun t ht0 ht => ?_⟩
   refine ⟨_,rfl,_,rfl,_,_,rfl,rfl,_,rfl,?_⟩
   rw [decide_eq_false (show ¬ ((j:Nat):Int)<=last by omega)]
   refine iteF ?_
   refine ⟨_,rfl,_,rfl,_,_,rfl,rfl,_,rfl,?_⟩
   rw [decide_eq_false (show ¬ ((n:Nat):Int)<=((j:Nat):Int) by omega)]
   refine iteF ?_
   refine ⟨_,rfl,bigr rfl,fun pn npn => ?_⟩
   have s7:Same Hx (upd Hx pn (.lst [])):=Same.new npn
   refine ⟨.list (ts.map PyData.int),.list [],.lst (SqL.of (s7 _ _ ht)) (VDs.map fun u _ => .int u),.lst (SqL.of zad) .nil,zbU ts,by decide,_,rfl,?_⟩
   have hz:PyData.eqv (.list (ts.map PyData.int)) (.list [])=false:=by
    cases ts with
    | nil=>exact absurd (ze0 gts) (by simp)
    | cons u us=>exact eqv_nilL
   rw [if_neg Bool.false_ne_true,hz]
   refine iteF ?_
   refine ⟨_,rfl,?_⟩
   refine ⟨_,rfl,_,rfl,⟨_,SqL.of (s7 _ _ ht)⟩,?_⟩
   have hpx7:=s7 _ _ hpx
   have ht7:=s7 _ _ ht
   have sx7:=sx.trans s7
   have htp:t≠po:=fun e=>ht0 (by rw [e]; exact npo0)
   generalize upd Hx pn (.lst [])=H7 at hpx7 ht7 sx7
   refine zbG (zam K t (ts.map V.int)) (fun i' σ Hy=>Same H Hy/\Hy t=some (.lst (ts.map V.int))/\∃ x8,σ = [some (.ref k),some (.ref l),some (.int (n:Nat)),some (.ref po),some (.int (j:Nat)),some (.int (j:Nat)),some (.str (nm j)),some (.ref t),x8]/\Hy po=some (.lst ((List.range (n + 8)).map fun p=>V.int (((ov al j p + ((ts.take i').map fun t=>j + t.toNat).count p:Nat)):Int)))) ⟨sx7,ht7,_,rfl,?_⟩ (fun i' σ Hy _ h=>SqL.of h.2.1) ?_ ?_
   ·rw [hpx7]
    congr 2
    unfold ovL
    refine List.map_congr_left fun p _ => ?_
    rw [W.same' hemp (show cn nm a=cn nm j by omega) p]
    simp
   ·rintro i' y σ Hy hy ⟨sy,hty,x8,rfl,hpy⟩
    rw [List.getElem?_map] at hy
    cases hu:ts[i']? with
    | none=>rw [hu] at hy; cases hy
    | some u =>
     rw [hu] at hy
     cases hy
     have hub:=zdw gts u (List.mem_of_getElem? hu)
     have hjn:j + u.toNat < n + 8:=by omega
     have hix:ixN ((List.range (n + 8)).map fun p=>V.int (((ov al j p + ((ts.take i').map fun t=>j + t.toNat).count p:Nat)):Int)).length (((j:Nat):Int) + u)=some (j + u.toNat):=by
      unfold ixN
      rw [List.length_map,List.length_range,if_pos (by omega),if_pos (by omega)]
      congr 1
      omega
     refine ⟨_,rfl,_,rfl,_,rfl,_,_,rfl,rfl,_,_,_,_,rfl,rfl,SqL.of hpy,zgs (by omega) (v:=V.int (((ov al j (j + u.toNat) + ((ts.take i').map fun t=>j + t.toNat).count (j + u.toNat):Nat)):Int)) ?_,_,_,rfl,rfl,?_⟩
     ·rw [show (((j:Nat):Int) + u).toNat=j + u.toNat by omega,List.getElem?_map,List.getElem?_range hjn]
      rfl
     refine ⟨_,rfl,_,rfl,_,rfl,_,_,rfl,rfl,po,_,_,_,rfl,rfl,hpy,hix,?_⟩
     refine ⟨sy.put npo0,(by rw [zai htp]; exact hty),_,rfl,?_⟩
     rw [zad,map_set _ _ hjn]
     congr 2
     refine List.map_congr_left fun p _ => ?_
     rw [zaB hu,List.map_append,List.count_append]
     by_cases e:p=j + u.toNat
     ·subst e
      rw [if_pos rfl]
      simp
      omega
     ·rw [if_neg e]
      simp [Ne.symm e]
   ·rintro σ Hy ⟨sy,hty,x8,rfl,hpy⟩
    rw [List.length_map,List.take_length] at hpy
    refine ⟨sy,j + 1,_,_,_,_,_,rfl,?_,?_,fun i' j' hi' ej' => ?_⟩
    ·rw [ze4,if_pos hne,hcj]
    ·rw [hpy]
     congr 2
     unfold ovL
     refine List.map_congr_left fun p _ => ?_
     rw [W.step j p,count_teeth (zaU (ze1 gts)) (fun t ht=>(zdw gts t ht).1),etks]
    ·have hp':=zgc nm n
     rw [List.pairwise_iff_getElem] at hp'
     obtain ⟨h2a,h2b⟩:=List.getElem?_eq_some_iff.mp ej
     obtain ⟨h3a,h3b⟩:=List.getElem?_eq_some_iff.mp ej'
     have:=hp' i i' h2a h3a (by omega)
     rw [h2b,h3b] at this
     omega
  ·rintro σ Hx ⟨sx,a,last,x5,x6,x7,x8,rfl,hca,hpx,_⟩
   have eov:ovL al a (n + 8)=ovL al n (n + 8):=by
    unfold ovL
    refine List.map_congr_left fun p _ => ?_
    rw [W.same' hemp (show cn nm a=cn nm n by rw [hca]; exact hll.symm) p]
   rw [eov] at hpx
   refine ⟨_,rfl,_,rfl,_,rfl,_,_,rfl,SqL.of hpx,fun ps nps => ?_⟩
   have s2:Same Hx (upd Hx ps (.lst (cutV (ovL al n (n + 8)) none (some ((n:Nat):Int))))):=Same.new nps
   have hps:upd Hx ps (.lst (cutV (ovL al n (n + 8)) none (some ((n:Nat):Int)))) ps=some (.lst ((List.range n).map fun _=>V.int 1)):=by
    rw [zad,cut_toL]
    unfold ovL
    congr 2
    rw [<- List.map_take,List.take_range,Nat.min_eq_left (by omega)]
    refine List.map_congr_left fun p hp => ?_
    unfold ov
    rw [if_pos (List.mem_range.mp hp)]
    rfl
   have hpx2:=s2 _ _ hpx
   have sx2:=sx.trans s2
   generalize upd Hx ps (.lst (cutV (ovL al n (n + 8)) none (some ((n:Nat):Int))))=H2 at hps hpx2 sx2 ⊢
   refine ⟨_,rfl,⟨_,SqL.of hps⟩,fun D hD => ?_⟩
   refine zb9 (capv := []) (by rfl) (zam K ps _) (by rw [List.length_map,List.length_range]; omega) hD (fun H' s'=>SqL.of (s' _ _ hps)) (fun _=>true) (fun _ => .bl true) ?_ ?_ ?_
   ·intro x hx H' R s' h
    exact h H' (Same.refl _)
   ·intro x hx _ H' R s' h
    obtain ⟨p,hp,rfl⟩:=List.mem_map.mp hx
    exact ⟨_,rfl,rfl,h H' (Same.refl _)⟩
   intro H3 s3 e3
   refine ⟨D,((List.range n).map fun _=>V.int 1).map fun _=>true,rfl,SqL.of ?_,_,rfl,?_⟩
   ·rw [e3,List.filter_eq_self.mpr (fun _ _=>rfl),List.map_map,List.map_map,List.map_map]
    rfl
   rw [List.all_eq_true.mpr (fun b hb=>by obtain ⟨_,_,rfl⟩:=List.mem_map.mp hb; rfl)]
   refine iteT ?_
   refine ⟨_,rfl,po,(List.range (n + 8)).map fun p=>((ov al n p:Nat):Int),rfl,SqL.of (by rw [List.map_map]; exact s3 _ _ hpx2),by rw [List.length_map,List.length_range]; omega,fun M hM hMx=>⟨_,_,rfl,rfl,?_⟩⟩
   obtain ⟨p,_,rfl⟩:=List.mem_map.mp hM
   have:=ov_le al n p
   show Q (V.bl (decide (((ov al n p:Nat):Int) < 2))) H3
   rw [decide_eq_true (show ((ov al n p:Nat):Int) < 2 by omega)]
   exact q _ (sx2.trans s3)
theorem at3k {x y z:V}:atI [x,y,z] 0=some x/\atI [x,y,z] 1=some y/\atI [x,y,z] 2=some z:=⟨show atI _ ((0:Nat):Int)=_ from zax rfl,show atI _ ((1:Nat):Int)=_ from zax rfl,show atI _ ((2:Nat):Int)=_ from zax rfl⟩
theorem eqv_nilI {ls:List Nat}:PyData.eqv (.list (ls.map fun s:Nat=>PyData.int (s:Int))) (.list [])=decide (ls = []):=by
 cases ls with
 | nil=>decide
 | cons a l=>rw [decide_eq_false nofun]; simp [PyData.eqv,PyData.eqvAll]
theorem shaped_intsN (a:List Nat):SeqAt.shaped (.list (a.map fun s:Nat=>PyData.int (s:Int)))=true:=by
 have h1:PyData.canLayAll0 (a.map fun s:Nat=>PyData.int (s:Int))=true:=by
  induction a with
  | nil=>rfl
  | cons x a ih=>rw [List.map_cons,PyData.canLayAll0,ih]; rfl
 have h2:∀ a:List Nat,PyData.depthAll (a.map fun s:Nat=>PyData.int (s:Int))=0:=by
  intro a
  induction a with
  | nil=>rfl
  | cons x a ih=>rw [List.map_cons,PyData.depthAll,ih]; rfl
 simp [SeqAt.shaped,PyData.canLay0,PyData.depth,h1,h2]
theorem goes_oneS {cs:Combs} {ah:List Int} {g:Str×List Int} (h:g∈goesOf cs ah):(∀ d∈g.2,0<=d/\d<=6)/\g.2.length<=1000:=by
 have:∃ a b,g.2=afterOf a b:=by
  unfold goesOf at h
  split at h
  ·rw [List.mem_singleton.mp h]; exact ⟨_,_,rfl⟩
  ·obtain ⟨c,_,rfl⟩:=List.mem_map.mp h; exact ⟨_,_,rfl⟩
 obtain ⟨a,b,e⟩:=this
 rw [e]
 refine ⟨zej,?_⟩
 unfold afterOf
 rw [List.length_map]
 refine Nat.le_trans (List.length_filter_le _ _) ?_
 unfold canon
 rw [List.length_map]
 exact Nat.le_trans (List.length_filter_le _ _) (Nat.le_of_ble_eq_true rfl)
noncomputable def sp_stuckS:Sp:=fun vs H Q _=>∃ (k t pr:Addr) (ws wr:List V) (ks cz:Combs) (kk:Nat),vs = [.ref k,.ref t]/\H k=some (.lst ws)/\KindsL (fun _=>True) H ws ks/\ks.length<=8/\GC ks/\cz.Perm ks/\H t=some (.tup [.str (Str.ofString "stuck"),.int (((kk + 1:Nat):Int) - 2),.ref pr])/\H pr=some (.lst wr)/\RowsN H wr cz kk/\rowN cz kk = []/\(∀ j,j < kk->rowN cz j ≠ [])/\kk<=128/\∀ H',Same H H'->Q (.bl true) H'
theorem zfj:FnScope ["_law_kinds","_law_told","_law_due","_law_k","_law_met","_law_one","_law_word_here","_law_further"] ["_law_kinds","_law_told"] (defScope s_stuck):=⟨rfl,rfl,rfl,by decide +kernel,rfl,by decide +kernel,by decide +kernel⟩
theorem ok_stuckS (D:DefAt K mg "_law_stuck" s_stuck) (T:Bn mg) (C_numbers:Callee P w K mg base "_law_numbers" 2 ["_law_found","_law_due"] (sp_numbers K)) (C_ahead:Callee P w K mg base "_law_ahead" 1 ["_law_number_here"] sp_ahead) (C_goes:Callee P w K mg base "_law_goes" 2 ["_law_kinds","_law_ahead_here"] (sp_goes K)) (C_number:Callee P w K mg base "_law_number" 1 ["_law_ahead_here"] (sp_number K)):Callee P w K mg base "_law_stuck" 3 ["_law_kinds","_law_told"] sp_stuckS:=by
 refine D.callee zfj (fun _ _ _ _ _ _ us hl=>match us,hl with | [_,_],_=>rfl) (fun vs H Q E h => ?_) (fun f cdv A outer s H vs Q E hr h => ?_)
 ·obtain ⟨k,t,pr,ws,wr,ks,cz,kk,rfl,_⟩:=h
  rfl
 ·obtain ⟨k,t,pr,ws,wr,ks,cz,kk,rfl,hk,kr,hk8,gc,pz,ht,hpr,rn,hend,hne,h128,q⟩:=h
  have S:=zfj
  have hu:=zcf hr
  have h1:1<=kk:=by
   cases kk with
   | zero=>exact absurd hend nofun
   | succ n=>omega
  have hrl:=rn.1
  refine ⟨_,zae (zaG (PW.pt (zbK (zak zcI (zah zap rfl T.n_len PySem.boot_len (zaa (zar zas (pv 1) (zab) (fun _ _=>rfl)) zac)) (zav zaO (zar zas (pv 1) (zab) (fun _ _=>rfl)) (zab)) (zat _)) (zbA (zak zeY (zar zas (pv 1) (zab) (fun _ _=>rfl)) (zab) (zat _)))))
   (zaf (zaj (za8)))
   (zao))
  (zae (zau (i:=2) S.nd rfl (Or.inl rfl) (za0 (zaa (zab) zac)))
  (zae (zaZ PassesOwn.never rfl (za7 rfl T.n_range (zaa (zah zap rfl T.n_len PySem.boot_len (zaa (zar zas (pv 1) (zab) (fun _ _=>rfl)) zac)) zac)) (zal (i:=3) S.nd rfl (Or.inl rfl))
   (zae (zaG (PW.pt (zbK (zaY (zaX (zaA C_numbers (hr.mono (by decide)) rfl (zaa (zar zaM (zar zas (pv 1) (zab) (fun _ _=>rfl)) (pv 3) (fun _ _=>rfl)) (zaa (pv 2) zac))))) (zbA (zak zcI (zbL (zf5 hr.units) (pv 2) (za0 (zac)) (zat _)) (zbL zcx (pv 3) (zav zaO (zar zas (pv 1) (zab) (fun _ _=>rfl)) (zab)) (zat _)) (zat _)))))
    (zaf (zaj (za8)))
    (zao))
   (zae (zau (i:=4) S.nd rfl (Or.inl rfl) (zcU))
   (zae (zaZ PassesOwn.never rfl (zaz (pv 2)) (zal (i:=5) S.nd rfl (Or.inl rfl))
    (zaf (zaZ PassesOwn.never rfl (zaz (zaA C_goes (hr.mono (by decide)) rfl (zaa (pv 0) (zaa (zaA C_ahead (hr.mono (by decide)) rfl (zaa (pv 5) zac)) zac)))) (zdO rfl (zaD (zal (i:=6) S.nd rfl (Or.inl rfl)) (zaD (zal (i:=7) S.nd rfl (Or.inl rfl)) (zbE))))
     (zaf (zd6 hu (pv 4) (zaA C_number (hr.mono (by decide)) rfl (zaa (pv 7) zac)) (za8) rfl)))))
   (zaf (zau (i:=2) S.nd rfl (Or.inl rfl) (zah (zcC rfl) rfl T.n_sorted boot_sorted (zaa (pv 4) zac))))))))
  (zaf (zaj (za8))))),?_⟩
  refine ⟨_,rfl,_,_,_,_,rfl,rfl,SqT.of ht,at3k.2.2,_,_,rfl,.inl (SqL.of hpr),_,rfl,_,_,_,_,rfl,rfl,SqT.of ht,at3k.2.1,_,_,rfl,rfl,rfl,_,rfl,?_⟩
  have etw:(fun i j:Int=>V.int (i + j)) (((kk + 1:Nat):Int) - 2) 2=V.int ((kk + 1:Nat):Int):=by
   show V.int (((kk + 1:Nat):Int) - 2 + 2)=_
   rw [show ((kk + 1:Nat):Int) - 2 + 2=((kk + 1:Nat):Int) by omega]
  rw [hrl,etw,decide_eq_true rfl]
  refine iteF ?_
  refine ⟨_,rfl,_,_,_,_,rfl,rfl,SqT.of ht,at3k.2.1,_,_,rfl,rfl,_,rfl,?_⟩
  rw [decide_eq_false (by omega)]
  refine iteF ?_
  refine ⟨bigr rfl,fun d0 nd0 => ?_⟩
  have s0:Same H (upd H d0 (.lst [.int 0])):=Same.new nd0
  refine ⟨_,rfl,_,_,_,_,rfl,rfl,SqT.of (s0 _ _ ht),at3k.2.2,_,_,rfl,.inl (SqL.of (s0 _ _ hpr)),_,rfl,by omega,by omega,?_⟩
  rw [hrl]
  refine zbG (zaK 0 ((kk + 1:Nat):Int).toNat) (fun i σ Hx=>Same H Hx/\∃ du x3 x4 x5 x6 x7,σ = [some (.ref k),some (.ref t),some (.ref du),x3,x4,x5,x6,x7]/\Hx du=some (.lst ((rowN ks i).map fun s=>V.int (s:Nat)))) ⟨s0,d0,_,_,_,_,_,rfl,zad⟩ (fun _ _ _ _ _=>trivial) ?_ ?_
  ·rintro i x σ Hx hx ⟨sx,du,x3,x4,x5,x6,x7,rfl,hdu⟩
   obtain ⟨hi,rfl⟩:=zbp hx
   have hi:i < kk + 1:=by simpa using hi
   rw [Int.zero_add]
   obtain ⟨qr,er1,er2⟩:=rn.2 i (by omega)
   rw [zde pz] at er2
   have hrow128:=(zcG ks i).2
   have emp:(rowN ks i = []) ↔ i=kk:=by
    rw [<- zde pz]
    constructor
    ·intro z
     exact Decidable.byContradiction fun c=>hne i (by omega) z
    ·intro z; rw [z]; exact hend
   have emi:(rowN ks i).map (fun s=>V.int (s:Nat))=((rowN ks i).map fun s=>((s:Nat):Int)).map V.int:=by rw [List.map_map]; rfl
   refine ⟨_,rfl,_,_,_,_,rfl,rfl,SqT.of (sx _ _ ht),at3k.2.2,_,rfl,_,_,_,_,rfl,rfl,SqL.of (sx _ _ hpr),zax er1,_,rfl,qr,du,(rowN ks i).map fun s=>((s:Nat):Int),(rowN ks i).map fun s=>((s:Nat):Int),rfl,(by rw [<- emi]; exact sx _ _ er2),(by rw [<- emi]; exact SqL.of hdu),(by rw [List.length_map]; omega),?_⟩
   rw [decide_eq_true rfl]
   refine ⟨_,rfl,iteF ?_⟩
   refine ⟨_,rfl,bigr rfl,fun en nen => ?_⟩
   have s1:Same Hx (upd Hx en (.lst [])):=Same.new nen
   refine ⟨_,_,.lst (SqL.of (s1 _ _ hdu)) (VDs.map (g:=fun s:Nat=>PyData.int (s:Int)) fun u _ => .int _),.lst (SqL.of zad) .nil,shaped_intsN _,by decide,_,rfl,_,rfl,_,_,_,_,rfl,rfl,SqT.of (s1 _ _ (sx _ _ ht)),at3k.2.1,_,_,rfl,rfl,rfl,rfl,_,rfl,?_⟩
   have eb:V.bl (decide (V.int ((i:Nat):Int)=(fun i j:Int=>V.int (i + j)) (((kk + 1:Nat):Int) - 2) 1))=V.bl (decide (rowN ks i = [])):=by
    congr 1
    rw [decide_eq_decide,emp]
    show (V.int _=V.int _) ↔ _
    constructor
    ·intro z; injection z with z; omega
    ·intro z; congr 1; omega
   rw [if_neg Bool.false_ne_true,eqv_nilI,eb,decide_eq_true rfl]
   refine iteF ?_
   have hdu1:=s1 _ _ hdu
   have sx1:=sx.trans s1
   generalize upd Hx en (.lst [])=Hy at s1 hdu1 sx1 ⊢
   refine fun d ndy => ?_
   have nd:H d=none:=sx1.free ndy
   have s2:Same Hy (upd Hy d (.dK [])):=Same.new ndy
   have hdd:du≠d:=fun z=>by rw [z,ndy] at hdu1; cases hdu1
   refine ⟨_,rfl,_,rfl,⟨_,SqL.of (s2 _ _ hdu1)⟩,?_⟩
   have hlt:=(zcG ks i).1
   refine zbG (zam K du _) (fun j σ Hx=>Same H Hx/\Hx du=some (.lst ((rowN ks i).map fun s=>V.int (s:Nat)))/\∃ kvs rs x5 x6 x7,σ = [some (.ref k),some (.ref t),some (.ref du),some (.int (i:Nat)),some (.ref d),x5,x6,x7]/\Hx d=some (.dK kvs)/\kvs.map (·.1)=rs.map Sum.inl/\rs.Nodup/\kvs.length<=8 * j/\∀ n:Int,n∈rs ↔ ∃ t∈(rowN ks i).take j,∃ p∈stp ks t,p.2=n) ⟨sx1.trans s2,s2 _ _ hdu1,[],[],_,_,_,rfl,zad,rfl,List.nodup_nil,Nat.zero_le _,fun n=>by simp⟩ (fun j σ Hx _ h=>SqL.of h.2.1) ?_ ?_
   ·rintro j x σ Hz hx ⟨sz,hduz,kvs,rs,x5,x6,x7,rfl,hd,hk',rn',hkl,hm⟩
    rw [List.getElem?_map] at hx
    cases hto:(rowN ks i)[j]? with
    | none=>rw [hto] at hx; cases hx
    | some o =>
    rw [hto] at hx
    cases hx
    have hji:j < (rowN ks i).length:=(List.getElem?_eq_some_iff.mp hto).1
    have o128:=hlt o (List.mem_of_getElem? hto)
    have ek:(rowN ks i).take (j + 1)=(rowN ks i).take j ++ [o]:=zaB hto
    refine ⟨_,rfl,_,rfl,((o:Nat):Int),rfl,by omega,fun pa H2 s2 ha => ?_⟩
    refine ⟨k,pa,ws,ks,aheadOf (o:Int),rfl,s2 _ _ (sz _ _ hk),kr.same (sz.trans s2),by omega,gc,SqT.of ha,zck _,zcD,fun pv H3 vv s3 npv hpv gv=>⟨_,rfl,⟨_,SqL.of hpv⟩,?_⟩⟩
    have s23:=s2.trans s3
    have hd3:=s23 _ _ hd
    have hpd:pv≠d:=fun z=>by rw [z,hd3] at hpv; cases hpv
    have hgl:=gv.length
    have hst:=zb4 o128 gc
    have hw8:=zc6 hk8 o
    have hgs:(goesOf ks (aheadOf (o:Int))).length=(stp ks o).length:=by rw [<- hst,List.length_map]
    refine zbG (zam K pv vv) (fun j' σ Hw=>Same H Hw/\(∀ q o,q≠d->H3 q=some o->Hw q=some o)/\∃ kvs' rs' x6 x7,σ = [some (.ref k),some (.ref t),some (.ref du),some (.int (i:Nat)),some (.ref d),some (.int (o:Nat)),x6,x7]/\Hw d=some (.dK kvs')/\kvs'.map (·.1)=rs'.map Sum.inl/\rs'.Nodup/\kvs'.length<=8 * j + j'/\∀ n:Int,n∈rs' ↔ (∃ t∈(rowN ks i).take j,∃ p∈stp ks t,p.2=n)\/∃ p∈(stp ks o).take j',p.2=n) ⟨sz.trans s23,fun _ _ _ e=>e,kvs,rs,_,_,rfl,hd3,hk',rn',by omega,fun n=>by rw [hm]; simp⟩ (fun j' σ Hw _ h=>SqL.of (h.2.1 _ _ hpd hpv)) ?_ ?_
    ·rintro j' y σ Hw hy ⟨sw,kw,kvs',rs',x6',x7',rfl,hd',hk2,rn2,hkl',hm'⟩
     obtain ⟨q1,t1,rfl,e2,e3,hlt'⟩:=gv.nth hy
     have hmg:(goesOf ks (aheadOf (o:Int))).getD j' ("",[])∈goesOf ks (aheadOf (o:Int)):=by rw [List.getD_eq_getElem?_getD,List.getElem?_eq_getElem hlt']; exact List.getElem_mem hlt'
     obtain ⟨g1,g2⟩:=goes_oneS hmg
     have hj:j' < (stp ks o).length:=by omega
     have ew:worth ((goesOf ks (aheadOf (o:Int))).getD j' ("",[])).2=(stp ks o)[j'].2:=by
      have e:(stp ks o)[j']?=some ((goesOf ks (aheadOf (o:Int)))[j'].1,worth (goesOf ks (aheadOf (o:Int)))[j'].2):=by rw [<- hst,List.getElem?_map,List.getElem?_eq_getElem hlt']; rfl
      rw [List.getElem?_eq_getElem hj] at e
      rw [Option.some.inj e,List.getD_eq_getElem?_getD,List.getElem?_eq_getElem hlt']
      rfl
     have e2':=kw _ _ (fun z=>by rw [z,hd3] at e2; cases e2) e2
     have e3':=kw _ _ (fun z=>by rw [z,hd3] at e3; cases e3) e3
     refine ⟨q1,_,rfl,SqT.of e2',rfl,_,_,rfl,_,_,rfl,rfl,?_⟩
     refine ⟨_,rfl,_,rfl,t1,_,rfl,SqT.of e3',g1,g2,fun Hv sv=>⟨d,_,rfl,DPut.k (k:=Sum.inl _) (sv _ _ hd') (Nat.lt_of_lt_of_le (by omega:kvs'.length < 2000) (by decide)),?_⟩⟩
     rw [ew]
     refine ⟨(sw.trans sv).put nd,fun q o z e=>(by rw [zai z]; exact sv _ _ (kw q o z e)),_,if (stp ks o)[j'].2∈rs' then rs' else rs' ++ [(stp ks o)[j'].2],_,_,rfl,zad,?_,?_,?_,?_⟩
     ·rw [zes,hk2]
      have:(Sum.inl (stp ks o)[j'].2:Key)∈rs'.map Sum.inl ↔ (stp ks o)[j'].2∈rs':=by
       rw [List.mem_map]
       exact ⟨fun ⟨z,hz,e⟩=>by injection e with e; rwa [<- e],fun h=>⟨_,h,rfl⟩⟩
      by_cases z:(stp ks o)[j'].2∈rs'
      ·rw [if_pos (this.mpr z),if_pos z]
      ·rw [if_neg (fun h=>z (this.mp h)),if_neg z,List.map_append]
       rfl
     ·split
      ·exact rn2
      ·rename_i z
       refine List.nodup_append.mpr ⟨rn2,by simp,fun u hu v hv e => ?_⟩
       rw [List.mem_singleton.mp hv] at e
       exact z (e ▸ hu)
     ·have:=zbO kvs' (Sum.inl (stp ks o)[j'].2:Key) (.bl true)
      omega
     ·intro n
      rw [List.take_succ_eq_append_getElem hj]
      have:n∈(if (stp ks o)[j'].2∈rs' then rs' else rs' ++ [(stp ks o)[j'].2]) ↔ n∈rs'\/(stp ks o)[j'].2=n:=by
       split
       ·rename_i z
        exact ⟨.inl,fun h=>h.elim id fun e=>e ▸ z⟩
       ·rw [List.mem_append,List.mem_singleton]
        exact ⟨fun h=>h.elim .inl fun e => .inr e.symm,fun h=>h.elim .inl fun e => .inr e.symm⟩
      rw [this,hm']
      constructor
      ·rintro ((h | ⟨p,hp,e⟩) | e)
       ·exact .inl h
       ·exact .inr ⟨p,List.mem_append_left _ hp,e⟩
       ·exact .inr ⟨_,List.mem_append_right _ (List.mem_singleton.mpr rfl),e⟩
      ·rintro (h | ⟨p,hp,e⟩)
       ·exact .inl (.inl h)
       ·rcases List.mem_append.mp hp with z | z
        ·exact .inl (.inr ⟨p,z,e⟩)
        ·rw [List.mem_singleton.mp z] at e
         exact .inr e
    ·rintro σ Hw ⟨sw,kw,kvs',rs',x6',x7',rfl,hd',hk2,rn2,hkl',hm'⟩
     refine ⟨sw,kw _ _ hdd (s23 _ _ hduz),kvs',rs',_,_,_,rfl,hd',hk2,rn2,by omega,fun n => ?_⟩
     rw [hm',hgl,hgs,List.take_length,ek]
     constructor
     ·rintro (⟨t',ht',p,hp,e⟩ | ⟨p,hp,e⟩)
      ·exact ⟨t',List.mem_append_left _ ht',p,hp,e⟩
      ·exact ⟨o,List.mem_append_right _ (List.mem_singleton.mpr rfl),p,hp,e⟩
     ·rintro ⟨t',ht',p,hp,e⟩
      rcases List.mem_append.mp ht' with z | z
      ·exact .inl ⟨t',z,p,hp,e⟩
      ·rw [List.mem_singleton.mp z] at hp
       exact .inr ⟨p,hp,e⟩
   ·rintro σ Hz ⟨sz,hduz,kvs,rs,x5,x6,x7,rfl,hd,hk',rn',hkl,hm⟩
    rw [List.length_map] at hkl hm
    rw [List.take_length] at hm
    have pm:=zfE gc hlt rn' hm
    have hrl:rs.length<=128:=by
     rw [pm.length_eq,List.length_map]
     exact ze5 ks (rowN ks i)
    refine ⟨_,rfl,d,kvs,rs,rfl,.inl hd,hk',by omega,fun p ns' np pp pw => ?_⟩
    have e:=zbd (pp.trans pm) pw (zdW ks (rowN ks i))
    refine ⟨sz.trans (Same.new np),p,_,_,_,_,_,rfl,?_⟩
    rw [zad,e,List.map_map]
    rfl
  ·rintro σ Hx ⟨sx,du,x3,x4,x5,x6,x7,rfl,hdu⟩
   exact q Hx sx
noncomputable def leftOf (ks:Combs) (nm:Nat->Str) (p j:Nat):List Int:=((tkOf ks (nm j)).filter fun t=>decide (j < p/\(p:Int)<=(j:Int) + t)).map fun t=>(j:Int) + t - (p:Int)
noncomputable def leftAll (ks:Combs) (nm:Nat->Str) (p:Nat) (L:List Nat):List Int:=L.flatMap (leftOf ks nm p)
noncomputable def alL (al:Nat->Nat->Bool) (p:Nat):List Int:=((List.range 7).filter fun d=>al p d).map fun d=>((d:Nat):Int)
theorem zeI {f:Int->Int} (inj:∀ a b,f a=f b->a=b) (a:Int):∀ l:List Int,(l.map f).count (f a)=l.count a
 | []=>rfl
 | b :: l=>by
  rw [List.map_cons,List.count_cons,List.count_cons,zeI inj a l]
  congr 1
  by_cases e:b=a
  ·rw [e]; simp
  ·have:f b≠f a:=fun z=>e (inj _ _ z)
   simp [e,this]
theorem left_count {ks:Combs} {nm:Nat->Str} (nd:∀ j,(tkOf ks (nm j)).Nodup) (p j d:Nat):(leftOf ks nm p j).count ((d:Nat):Int)=if j < p then ind (decide (((p + d - j:Nat):Int)∈tkOf ks (nm j))) else 0:=by
 unfold leftOf
 by_cases h:j < p
 ·rw [if_pos h]
  have inj:∀ a b:Int,(fun t:Int=>(j:Int) + t - (p:Int)) a=(fun t:Int=>(j:Int) + t - (p:Int)) b->a=b:=fun a b e=>by
   have e:(j:Int) + a - (p:Int)=(j:Int) + b - (p:Int):=e
   omega
  have e:((d:Nat):Int)=(fun t:Int=>(j:Int) + t - (p:Int)) ((p + d - j:Nat):Int):=by
   show ((d:Nat):Int)=(j:Int) + ((p + d - j:Nat):Int) - (p:Int)
   omega
  rw [e,zeI inj,List.count_filter (by rw [decide_eq_true_eq]; omega),(nd j).count]
  unfold ind
  by_cases m:((p + d - j:Nat):Int)∈tkOf ks (nm j)
  ·rw [if_pos m,decide_eq_true m]; rfl
  ·rw [if_neg m,decide_eq_false m]; rfl
 ·rw [if_neg h,List.filter_eq_nil_iff.mpr (fun t _=>by rw [decide_eq_true_eq]; exact fun z=>h z.1)]
  rfl
theorem left_nn {ks:Combs} {nm:Nat->Str} {p:Nat} {L:List Nat} {a:Int} (h:a∈leftAll ks nm p L):0<=a:=by
 obtain ⟨j,_,hj⟩:=List.mem_flatMap.mp h
 obtain ⟨t,ht,rfl⟩:=List.mem_map.mp hj
 have:=of_decide_eq_true (List.mem_filter.mp ht).2
 omega
theorem laid_two (nm:Nat->Str) (i:Nat):laid nm (i + 1)=laid nm i ++ if nm i=Str.ofString "" then [] else [i]:=by
 unfold laid
 rw [List.range_succ,List.filter_append]
 congr 1
 by_cases h:nm i=Str.ofString ""
 ·rw [if_pos h]; simp [h]
 ·rw [if_neg h]; simp [h]
theorem zfy {ks:Combs} {nm:Nat->Str} {al:Nat->Nat->Bool} (W:Walk al (fun i t=>decide ((t:Int)∈tkOf ks (nm i)))) (nd:∀ j,(tkOf ks (nm j)).Nodup) (hemp:∀ j,nm j=Str.ofString "" -> tkOf ks (nm j) = []) (p d:Nat) :
  ∀ i,(leftAll ks nm p (laid nm i)).count ((d:Nat):Int)=ov al (min i p) (p + d)
 | 0=>by rw [Nat.zero_min,W.zero]; rfl
 | i + 1=>by
  have ih:=zfy W nd hemp p d i
  have e1:(leftAll ks nm p (laid nm (i + 1))).count ((d:Nat):Int)=(leftAll ks nm p (laid nm i)).count ((d:Nat):Int) + (leftOf ks nm p i).count ((d:Nat):Int):=by
   unfold leftAll
   rw [laid_two]
   by_cases h:nm i=Str.ofString ""
   ·rw [if_pos h,List.append_nil]
    have:leftOf ks nm p i = []:=by unfold leftOf; rw [hemp i h]; rfl
    rw [this]
    rfl
   ·rw [if_neg h,List.flatMap_append,List.count_append]
    simp
  rw [e1,ih,left_count nd]
  by_cases h:i < p
  ·rw [if_pos h,show min i p=i by omega,show min (i + 1) p=i + 1 by omega,W.step i (p + d),if_pos (by omega)]
  ·rw [if_neg h,show min i p=p by omega,show min (i + 1) p=p by omega]
   rfl
theorem left_perm {ks:Combs} {nm:Nat->Str} {al:Nat->Nat->Bool} (W:Walk al (fun i t=>decide ((t:Int)∈tkOf ks (nm i)))) (nd:∀ j,(tkOf ks (nm j)).Nodup) (hemp:∀ j,nm j=Str.ofString "" -> tkOf ks (nm j) = []) {p n:Nat} (hp:p<=n):(leftAll ks nm p (laid nm n)).Perm (alL al p):=by
 rw [List.perm_iff_count]
 intro a
 have nda:(alL al p).Nodup:=by
  refine zaU ?_
  unfold alL
  rw [List.pairwise_map]
  exact (List.pairwise_lt_range.sublist List.filter_sublist).imp fun h=>by omega
 rw [nda.count]
 by_cases h:0<=a
 ·obtain ⟨d,rfl⟩:=Int.eq_ofNat_of_zero_le h
  rw [zfy W nd hemp p d n,show min n p=p by omega]
  unfold ov
  rw [if_neg (by omega),Nat.add_sub_cancel_left]
  have:((d:Nat):Int)∈alL al p ↔ al p d=true:=by
   unfold alL
   rw [List.mem_map]
   constructor
   ·rintro ⟨x,hx,e⟩
    have:x=d:=by omega
    rw [<- this]
    exact (List.mem_filter.mp hx).2
   ·intro z
    refine ⟨d,List.mem_filter.mpr ⟨List.mem_range.mpr ?_,z⟩,rfl⟩
    exact Decidable.byContradiction fun c=>by rw [W.al7 p d (by omega)] at z; cases z
  unfold ind
  by_cases z:al p d=true
  ·rw [if_pos (this.mpr z),z]; rfl
  ·rw [if_neg (fun c=>z (this.mp c))]
   have:al p d=false:=by simpa using z
   rw [this]; rfl
 ·rw [List.count_eq_zero.mpr (fun z=>h (left_nn z)),if_neg]
  intro z
  obtain ⟨x,_,e⟩:=List.mem_map.mp z
  omega
theorem alL_sorted (al:Nat->Nat->Bool) (p:Nat):(alL al p).Pairwise (· <= ·):=by
 unfold alL
 rw [List.pairwise_map]
 exact (List.pairwise_lt_range.sublist List.filter_sublist).imp fun h=>by omega
noncomputable def sp_shapeS:Sp:=fun vs H Q _=>∃ (k l:Addr) (p n:Nat) (nm:Nat->Str) (ws wl:List V) (ks:Combs) (al:Nat->Nat->Bool),vs = [.ref k,.ref l,.int (p:Nat)]/\H k=some (.lst ws)/\Drawn (fun _=>True) H ws ks/\H l=some (.lst wl)/\LaysR H wl nm n/\n<=1500/\p<=n/\Walk al (fun i t=>decide ((t:Int)∈tkOf ks (nm i)))/\(∀ j,nm j≠Str.ofString "" -> (cGet ks (nm j)).isSome=true)/\cGet ks (Str.ofString "")=none/\∀ r H',Same H H'->H' r=some (.lst ((alL al p).map V.int))->Q (.ref r) H'
theorem zfl:FnScope ["_law_kinds","_law_layings_here","_law_place","_law_found","_law_spot","_law_word_here","_law_t"] ["_law_kinds","_law_layings_here","_law_place"] (defScope s_shape):=⟨rfl,rfl,rfl,by decide +kernel,rfl,by decide +kernel,by decide +kernel⟩
theorem ok_shapeS (D:DefAt K mg "_law_shape" s_shape) (T:Bn mg) (C_teeth:Callee P w K mg base "_law_teeth" 1 ["_law_kinds","_law_word_here"] sp_lteeth):Callee P w K mg base "_law_shape" 2 ["_law_kinds","_law_layings_here","_law_place"] sp_shapeS:=by
 refine D.callee zfl (fun _ _ _ _ _ _ us hl=>match us,hl with | [_,_,_],_=>rfl) (fun vs H Q E h => ?_) (fun f cdv A outer s H vs Q E hr h => ?_)
 ·obtain ⟨k,l,p,n,nm,ws,wl,ks,al,rfl,_⟩:=h
  rfl
 ·obtain ⟨k,l,p,n,nm,ws,wl,ks,al,rfl,hk,dr,hl,lr,hn,hpn,W,hnm,hno,q⟩:=h
  have S:=zfl
  have hu:=zcf hr
  have hll:=Paired.length lr
  have hemp:∀ j,nm j=Str.ofString "" -> tkOf ks (nm j) = []:=fun j e=>by unfold tkOf; rw [e,hno]; rfl
  have gts:∀ {x:Str} {ts:List Int},cGet ks x=some ts->GT ts:=fun h=>(dr.good _ (zcg h)).2
  have ndt:∀ j,(tkOf ks (nm j)).Nodup:=fun j=>by
   unfold tkOf
   cases e:cGet ks (nm j) with
   | none=>exact List.nodup_nil
   | some ts=>exact zaU (ze1 (gts e))
  have pmf:=left_perm W ndt hemp hpn
  refine ⟨_,zae (zau (i:=3) S.nd rfl (Or.inl rfl) (za0 (zac)))
  (zae (zaZ PassesOwn.never rfl (zaz (pv 1)) (zdO rfl (zaD (zal (i:=4) S.nd rfl (Or.inl rfl)) (zaD (zal (i:=5) S.nd rfl (Or.inl rfl)) (zbE))))
   (zaf (zaZ PassesOwn.never rfl (zaz (zaA C_teeth (hr.mono (by decide)) rfl (zaa (pv 0) (zaa (pv 5) zac)))) (zal (i:=6) S.nd rfl (Or.inl rfl))
    (zaf (zaG (PW.pt (pw_and (zak zeY (pv 4) (pv 2) (zat _)) (pw_and1 (zak zd9 (zav zaO (pv 4) (pv 6)) (pv 2) (zat _)))))
     (zaf (zbe (zdv PySem.F.plainAttrs_list PySem.F.slot_list_append PySem.F.type_list_append zaV (pv 3) (zaa (zav zb0 (zav zaO (pv 4) (pv 6)) (pv 2)) zac))))
     (zao))))))
  (zaf (zaj (zah call_sortedIL rfl T.n_sorted boot_sorted (zaa (pv 3) zac))))),?_⟩
  refine ⟨bigr rfl,fun fo nfo => ?_⟩
  have s1:Same H (upd H fo (.lst [])):=Same.new nfo
  refine ⟨_,rfl,_,rfl,⟨_,SqL.of (s1 _ _ hl)⟩,?_⟩
  refine zbG (zam K l wl) (fun i σ Hx=>Same H Hx/\∃ x4 x5 x6,σ = [some (.ref k),some (.ref l),some (.int (p:Nat)),some (.ref fo),x4,x5,x6]/\Hx fo=some (.lst ((leftAll ks nm p ((laid nm n).take i)).map V.int))/\(leftAll ks nm p ((laid nm n).take i)).length<=8 * i) ⟨s1,_,_,_,rfl,zad,Nat.zero_le _⟩ (fun i σ Hx _ h=>SqL.of (h.1 _ _ hl)) ?_ ?_
  ·rintro i x σ Hx hx ⟨sx,x4,x5,x6,rfl,hfo,hfl⟩
   obtain ⟨j,qa,ej,rfl,hqa,hj,hne⟩:=zed lr hx
   obtain ⟨ts,hts⟩:=Option.isSome_iff_exists.mp (hnm j hne)
   have etk:tkOf ks (nm j)=ts:=by unfold tkOf; rw [hts]; rfl
   have g8:=zgf (gts hts)
   have hil:i < wl.length:=(List.getElem?_eq_some_iff.mp hx).1
   have hlb:wl.length<=1500:=by
    rw [<- hll]
    refine Nat.le_trans (List.length_filter_le _ _) ?_
    rw [List.length_range]; exact hn
   refine ⟨qa,_,rfl,SqT.of (sx _ _ hqa),rfl,_,_,rfl,_,_,rfl,rfl,?_⟩
   refine ⟨_,rfl,_,rfl,k,_,ws,ks,ts,_,rfl,sx _ _ hk,dr.live.same sx,hts,fun t1 hl1 ht1=>⟨_,rfl,⟨_,SqL.of ht1⟩,?_⟩⟩
   have htf:t1≠fo:=fun e=>hl1 (by rw [e]; exact nfo)
   have ek:(laid nm n).take (i + 1)=(laid nm n).take i ++ [j]:=zaB ej
   refine zbG (zam K t1 _) (fun i' σ Hy=>Same H Hy/\Hy t1=some (.lst (ts.map V.int))/\∃ x6,σ = [some (.ref k),some (.ref l),some (.int (p:Nat)),some (.ref fo),some (.int (j:Nat)),some (.str (nm j)),x6]/\Hy fo=some (.lst ((leftAll ks nm p ((laid nm n).take i) ++ ((ts.take i').filter fun t=>decide (j < p/\(p:Int)<=(j:Int) + t)).map fun t=>(j:Int) + t - (p:Int)).map V.int))) ⟨sx,ht1,_,rfl,by simpa using hfo⟩ (fun i' σ Hy _ h=>SqL.of h.2.1) ?_ ?_
   ·rintro i' y σ Hy hy ⟨sy,hty,x6',rfl,hfoy⟩
    rw [List.getElem?_map] at hy
    cases eu:ts[i']? with
    | none=>rw [eu] at hy; cases hy
    | some u =>
    rw [eu] at hy
    cases hy
    have et:ts.take (i' + 1)=ts.take i' ++ [u]:=zaB eu
    have hi8:i' < ts.length:=(List.getElem?_eq_some_iff.mp eu).1
    have hskip:¬ (j < p/\(p:Int)<=(j:Int) + u)->(ts.take (i' + 1)).filter (fun t=>decide (j < p/\(p:Int)<=(j:Int) + t))=(ts.take i').filter fun t=>decide (j < p/\(p:Int)<=(j:Int) + t):=fun z=>by
     rw [et,List.filter_append,List.filter_cons,if_neg (by rw [decide_eq_true_eq]; exact z),List.filter_nil,List.append_nil]
    refine ⟨_,rfl,_,rfl,_,_,rfl,rfl,_,rfl,?_⟩
    by_cases c1:j < p
    ·rw [decide_eq_true (by omega)]
     refine iteT ⟨_,rfl,_,rfl,_,_,rfl,rfl,_,rfl,_,_,rfl,rfl,_,rfl,?_⟩
     by_cases c2:(p:Int)<=(j:Int) + u
     ·rw [decide_eq_true c2]
      refine iteT ?_
      have hlen:((leftAll ks nm p ((laid nm n).take i) ++ ((ts.take i').filter fun t=>decide (j < p/\(p:Int)<=(j:Int) + t)).map fun t=>(j:Int) + t - (p:Int)).map V.int).length < sizeLine:=by
       rw [List.length_map,List.length_append,List.length_map]
       have:=List.length_filter_le (fun t=>decide (j < p/\(p:Int)<=(j:Int) + t)) (ts.take i')
       rw [List.length_take] at this
       exact Nat.lt_of_lt_of_le (by omega:_ < 20000) (by decide)
      refine ⟨_,rfl,.inl ⟨rfl,_,SqL.of hfoy⟩,_,rfl,_,rfl,_,_,rfl,rfl,_,rfl,_,_,rfl,rfl,fo,_,_,rfl,rfl,hfoy,hlen,?_⟩
      refine ⟨sy.put nfo,by rw [zai htf]; exact hty,_,rfl,?_⟩
      rw [zad,et,List.filter_append,List.filter_cons,if_pos (by rw [decide_eq_true_eq]; exact ⟨c1,c2⟩),List.filter_nil]
      simp only [List.map_append,List.append_assoc]
      rfl
     ·rw [decide_eq_false c2]
      refine iteF ?_
      refine ⟨sy,hty,_,rfl,?_⟩
      rw [hskip (fun z=>c2 z.2)]
      exact hfoy
    ·rw [decide_eq_false (by omega)]
     refine iteF ?_
     refine ⟨sy,hty,_,rfl,?_⟩
     rw [hskip (fun z=>c1 z.1)]
     exact hfoy
   ·rintro σ Hy ⟨sy,hty,x6',rfl,hfoy⟩
    rw [List.length_map,List.take_length] at hfoy
    have e:leftAll ks nm p ((laid nm n).take (i + 1))=leftAll ks nm p ((laid nm n).take i) ++ leftOf ks nm p j:=by
     unfold leftAll
     rw [ek,List.flatMap_append]
     simp
    have e2:leftOf ks nm p j=(ts.filter fun t=>decide (j < p/\(p:Int)<=(j:Int) + t)).map fun t=>(j:Int) + t - (p:Int):=by unfold leftOf; rw [etk]
    refine ⟨sy,_,_,_,rfl,by rw [e,e2]; exact hfoy,?_⟩
    rw [e,e2,List.length_append,List.length_map]
    have:=List.length_filter_le (fun t=>decide (j < p/\(p:Int)<=(j:Int) + t)) ts
    omega
  ·rintro σ Hx ⟨sx,x4,x5,x6,rfl,hfo,hfl⟩
   have ell:(laid nm n).take wl.length=laid nm n:=by rw [<- hll]; exact List.take_length
   rw [ell] at hfo
   refine ⟨_,rfl,_,_,rfl,SqL.of hfo,fun r ns' nr pp pw => ?_⟩
   refine q r _ (sx.trans (Same.new nr)) ?_
   rw [zad,zbd (pp.trans pmf) pw (alL_sorted al p)]
noncomputable def FoundS (H:Hp) (fd:Addr) (C:Combs) (x:Int):Prop:=(∃ m le,nxtRow C (rowAt C m)=rowAt C m/\tr (rowAt C m) 0=false/\H fd=some (.tup [.str (Str.ofString "refused"),.ref le])/\H le=some (.lst [.str (errName 14)])) \/
 ∃ m t0 p,nxtRow C (rowAt C m)=rowAt C m/\tr (rowAt C m) 0=true/\t0 < 8/\((t0:Nat):Int)<=x/\((t0:Nat):Int)∈tkOf C (wn C (rowAt C m) 0 (x - ((t0:Nat):Int)).toNat)/\H fd=some (.tup [.str (Str.ofString "told"),.ref p])/\H p=some (.tup [.int (x - (t0:Nat)),.str (wn C (rowAt C m) 0 (x - ((t0:Nat):Int)).toNat)])
theorem FoundS.same {H H':Hp} {fd:Addr} {C:Combs} {x:Int} (h:FoundS H fd C x) (s:Same H H'):FoundS H' fd C x:=by
 rcases h with ⟨m,le,a,b,c,d⟩ | ⟨m,t0,p,a,b,c,d,e,f,g⟩
 ·exact .inl ⟨m,le,a,b,s _ _ c,s _ _ d⟩
 ·exact .inr ⟨m,t0,p,a,b,c,d,e,s _ _ f,s _ _ g⟩
theorem zc3 {K:PySem.W.Frag} {ea:Nat->Addr} {ce:Value} (E14:EJ K ea ce 14) {C b l:Addr} {G:Addr->Prop} {H:Hp} {cs:Combs} {past:List Combs} {x:Int} {Q:VK} (B:Bk C G H b l cs past) (h0:0<=x) (h1:x<=1000000000000000000)
  (q:∀ fd H',Same H H'->FoundS H' fd (srt cs) x->Q (.ref fd) H'):spTryF K ea ce (sp_cstrip ea C) [.ref b,.int x] H Q E0:=by
 refine ⟨.ref b,.int x,rfl,b,l,G,cs,past,x,rfl,B,?_⟩
 rw [if_pos ⟨h0,h1⟩]
 refine ⟨fun m Hk sk a1 a2 => ?_,fun p m t0 Hk sk a1 a2 a3 a4 a5 hp=>⟨bigr rfl,fun fd nfd => ?_⟩⟩
 ·refine zgk E14 fun fd H3 s3 an => ?_
  obtain ⟨le,hfd,hle⟩:=an
  exact q fd H3 (sk.trans s3) (.inl ⟨m,le,a1,a2,hfd,hle⟩)
 ·have s3:Same Hk (upd Hk fd (.tup [.str (Str.ofString "told"),.ref p])):=Same.new nfd
  exact q fd _ (sk.trans s3) (.inr ⟨m,t0,p,a1,a2,a3,a4,a5,zad,s3 _ _ hp⟩)
theorem try_strip_bad {K:PySem.W.Frag} {ea:Nat->Addr} {ce:Value} (E12:EJ K ea ce 12) {C b l:Addr} {G:Addr->Prop} {H:Hp} {cs:Combs} {past:List Combs} {x:Int} {Q:VK} (B:Bk C G H b l cs past) (h0:¬ (0<=x/\x<=1000000000000000000))
  (q:∀ fd H',Same H H'->Ans H' fd (.error 12)->Q (.ref fd) H'):spTryF K ea ce (sp_cstrip ea C) [.ref b,.int x] H Q E0:=by
 refine ⟨.ref b,.int x,rfl,b,l,G,cs,past,x,rfl,B,?_⟩
 rw [if_neg h0]
 exact zgk E12 q
theorem name_ok {x:Str} (h:isName x=true):PyData.strOk x=true:=by
 unfold isName at h
 rw [Bool.and_eq_true] at h
 unfold PyData.strOk
 rw [Array.all_eq_true_iff_forall_mem]
 intro c hc
 have:=List.all_eq_true.mp h.2 c (by simpa using hc)
 unfold small at this
 simp at this ⊢
 omega
noncomputable def layD (nm:Nat->Str) (j:Nat):PyData := .tuple [.int (j:Nat),.str (nm j)]
theorem lays_vd {K:PySem.W.Frag} {H:Hp} {ws:List V} {nm:Nat->Str} {n:Nat} (r:LaysR H ws nm n):VDs K H ws ((laid nm n).map (layD nm)):=by
 have:∀ {l:List Nat} {ws:List V},Paired (fun (j:Nat) (v:V)=>∃ q,v = .ref q/\H q=some (.tup [.int (j:Int),.str (nm j)])) l ws->VDs K H ws (l.map (layD nm)):=by
  intro l ws z
  induction z with
  | nil=>exact .nil
  | cons h _ ih =>
   obtain ⟨q,rfl,e⟩:=h
   exact .cons (.tup (SqT.of e) (.cons (.int _) (.cons (.str _) .nil))) ih
 exact this r
theorem zfz {nm:Nat->Str}:∀ {l:List Nat},(∀ j∈l,PyData.strOk (nm j)=true)->PyData.canLayAll0 (l.map (layD nm))=true
 | [],_=>rfl
 | j :: l,h=>by
  have i:=zfz fun k hk=>h k (List.mem_cons_of_mem _ hk)
  have:=h j List.mem_cons_self
  rw [List.map_cons,PyData.canLayAll0,i]
  simp [layD,PyData.canLay0,PyData.canLayAll0,this]
theorem lay_one (a:Int) {x:Str} (h:PyData.strOk x=true):PyData.canLay0 (.tuple [.int a,.str x])=true/\PyData.depth (.tuple [.int a,.str x])<=50:=by
 simp [h,PyData.canLay0,PyData.canLayAll0,PyData.depth,PyData.depthAll]
theorem lays_any {nm:Nat->Str} {n:Nat} {x:Int} (h0:0<=x) (h1:x.toNat < n) (h2:nm x.toNat≠Str.ofString ""):((laid nm n).map (layD nm)).any (fun e=>PyData.eqv e (.tuple [.int x,.str (nm x.toNat)]))=true:=by
 rw [List.any_eq_true]
 refine ⟨layD nm x.toNat,List.mem_map.mpr ⟨_,List.mem_filter.mpr ⟨List.mem_range.mpr h1,decide_eq_true h2⟩,rfl⟩,?_⟩
 unfold layD
 rw [show ((x.toNat:Nat):Int)=x by omega]
 simp [PyData.eqv,PyData.eqvAll]
theorem zdZ {ks:Combs} (nd:(ks.map (·.1)).Nodup) (x:Str):tkOf (srt ks) x=tkOf ks x:=by
 unfold tkOf
 rw [zfM (zbn nd) (((zbn nd).map _).nodup_iff.mpr nd)]
theorem zdG {a:Int} {x:Str} (h:PyData.strOk x=true):SeqAt.shaped (.tuple [.int a,.str x])=true:=by simp [h,SeqAt.shaped,PyData.canLay0,PyData.canLayAll0,PyData.depth,PyData.depthAll]
theorem eqv_two (a:Int) (x:Str):PyData.eqv (.tuple [.int a,.str x]) (.tuple [.int a,.str x])=true:=by simp [PyData.eqv,PyData.eqvAll]
noncomputable def sp_farS (C:Addr):Sp:=fun vs H Q _=>∃ (b l k t:Addr) (x:Int) (G:Addr->Prop) (past:List Combs) (ws:List V) (ks:Combs) (m st n:Nat) (pl:Addr) (wl:List V),vs = [.ref b,.ref k,.ref t,.int x]/\Bk C G H b l ks past/\H k=some (.lst ws)/\Drawn (fun _=>True) H ws ks/\StripD (srt ks) m st n /\
 H t=some (.tup [.str (Str.ofString "filled"),.int (st:Nat),.int ((n - st:Nat):Int),.ref pl])/\H pl=some (.lst wl)/\LaysR H wl (wn (srt ks) (rowAt (srt ks) m) 0) n/\0<=x/\x<=1000000000000000000 - 8/\∀ H',Same H H'->Q (.bl true) H'
theorem zgC:FnScope ["_law_book_here","_law_kinds","_law_told","_law_place","_law_found","_law_spot","_law_word_here","_law_t","_law_beside"] ["_law_book_here","_law_kinds","_law_told","_law_place"] (defScope s_far):=⟨rfl,rfl,rfl,by decide +kernel,rfl,by decide +kernel,by decide +kernel⟩
theorem ok_farS {ea:Nat->Addr} {ce:Value} {C:Addr} (D:DefAt K mg "_law_far" s_far) (T:Bn mg) (E14:EJ K ea ce 14) (C_over:Callee P w K mg base "_law_over" 7 ["_law_book_here","_law_place"] (spTryF K ea ce (sp_cstrip ea C))) (C_laying:Callee P w K mg base "_law_laying" 2 ["_law_one"] sp_laying) (C_teeth:Callee P w K mg base "_law_teeth" 1 ["_law_kinds","_law_word_here"] sp_lteeth):Callee P w K mg base "_law_far" 8 ["_law_book_here","_law_kinds","_law_told","_law_place"] (sp_farS C):=by
 refine D.callee zgC (fun _ _ _ _ _ _ us hl=>match us,hl with | [_,_,_,_],_=>rfl) (fun vs H Q E h => ?_) (fun f cdv A outer s H vs Q E hr h => ?_)
 ·obtain ⟨b,l,k,t,x,G,past,ws,ks,m,st,n,pl,wl,rfl,_⟩:=h
  rfl
 ·obtain ⟨b,l,k,t,x,G,past,ws,ks,m,st,n,pl,wl,rfl,B,hk,dr,sd,ht,hpl,la,x0,x1,q⟩:=h
  have S:=zgC
  have hu:=zcf hr
  have pm:=zbn dr.nd
  obtain ⟨gcs,hs8⟩:=zd2 B
  obtain ⟨nds,nes⟩:=zgS B
  obtain ⟨hfix,htr,hst,hn,hper,_⟩:=sd
  have psp:(0:Int) < ((n - st:Nat):Int):=by omega
  have hstr:∀ j,wn (srt ks) (rowAt (srt ks) m) 0 j≠Str.ofString "" -> PyData.strOk (wn (srt ks) (rowAt (srt ks) m) 0 j)=true:=fun j hj=>by
   rcases zgw gcs hfix (show 0 < 128 by decide) htr j with ⟨_,e1,_⟩ | ⟨_,c,hc,e1,_⟩
   ·exact absurd e1 hj
   ·rw [e1]; exact name_ok (dr.good c (pm.mem_iff.mp hc)).1
  have same:∀ {m'},nxtRow (srt ks) (rowAt (srt ks) m')=rowAt (srt ks) m'->rowAt (srt ks) m'=rowAt (srt ks) m:=fun h=>zfq h hfix
  refine ⟨_,zae (zau (i:=4) S.nd rfl (Or.inl rfl) (zaA C_over (hr.mono (by decide)) rfl (zaa (pv 0) (zaa (pv 3) zac))))
  (zae (zaG (PW.pt (zbK (zak zcI (zar zas (pv 4) (zab) (fun _ _=>rfl)) (zay) (zat _)) (zbA (zaY (zaX (zaA C_laying (hr.mono (by decide)) rfl (zaa (zar zas (pv 4) (zab) (fun _ _=>rfl)) zac)))))))
   (zaf (zaj (za8)))
   (zao))
  (zae (zgD (zar zas (pv 4) (zab) (fun _ _=>rfl)) (zdO rfl (zaD (zal (i:=5) S.nd rfl (Or.inl rfl)) (zaD (zal (i:=6) S.nd rfl (Or.inl rfl)) (zbE)))))
  (zcH (zaG (zak zd9 (pv 5) (zar zas (pv 2) (zab) (fun _ _=>rfl)) (zat _))
   (zaf (zau (i:=5) S.nd rfl (Or.inl rfl) (zav zaO (zar zas (pv 2) (zab) (fun _ _=>rfl)) (zav zbh (zav zb0 (pv 5) (zar zas (pv 2) (zab) (fun _ _=>rfl))) (zar zas (pv 2) (zab) (fun _ _=>rfl))))))
   (zao))
  (zae (zaG (PW.pt (zbK (zak (op_notInD hr.units) (zbq (zaa (pv 5) (zaa (pv 6) zac))) (zar zas (pv 2) (zab) (fun _ _=>rfl)) (by with_unfolding_all rfl)) (zbA (zak zbB (zav zb0 (pv 3) (zar zas (zar zas (pv 4) (zab) (fun _ _=>rfl)) (zab) (fun _ _=>rfl))) (zaA C_teeth (hr.mono (by decide)) rfl (zaa (pv 1) (zaa (pv 6) zac))) (by with_unfolding_all rfl)))))
   (zaf (zaj (za8)))
   (zao))
  (zae (zaZ PassesOwn.never rfl (zaz (zaA C_teeth (hr.mono (by decide)) rfl (zaa (pv 1) (zaa (pv 6) zac)))) (zal (i:=7) S.nd rfl (Or.inl rfl))
   (zae (zau (i:=8) S.nd rfl (Or.inl rfl) (zaA C_over (hr.mono (by decide)) rfl (zaa (pv 0) (zaa (zav zaO (zar zas (zar zas (pv 4) (zab) (fun _ _=>rfl)) (zab) (fun _ _=>rfl)) (pv 7)) zac))))
   (zaf (zaG (PW.pt (zbK (zak zcI (zar zas (pv 8) (zab) (fun _ _=>rfl)) (zay) (zat _)) (zbK (zaY (zaX (zaA C_laying (hr.mono (by decide)) rfl (zaa (zar zas (pv 8) (zab) (fun _ _=>rfl)) zac)))) (zbA (zak (zf4 hr.units) (zar zas (pv 8) (zab) (fun _ _=>rfl)) (zar zas (pv 4) (zab) (fun _ _=>rfl)) (zat _))))))
    (zaf (zaj (za8)))
    (zao)))))
  (zaf (zaj (za8)))))))),?_⟩
  refine ⟨_,rfl,_,rfl,zc3 E14 B x0 (by omega) fun fd H3 sk3 fr => ?_⟩
  rcases fr with ⟨m',le,f1,f2,_⟩ | ⟨m',t0,p,f1,f2,o1,o2,ht0,hfd,hp3⟩
  ·rw [same f1,htr] at f2; cases f2
  rw [same f1] at ht0 hp3
  generalize hnmd:wn (srt ks) (rowAt (srt ks) m) 0=nm at *
  have hne:=zgX nes ht0
  obtain ⟨hh1,hh2,hh3⟩:=zeZ hper hst (y:=x - ((t0:Nat):Int)) (by omega)
  rw [hnmd] at hh3
  have hone:=lay_one (homeS st (n - st) (x - ((t0:Nat):Int))) (hstr _ hne)
  refine ⟨_,rfl,_,_,_,_,rfl,rfl,SqT.of hfd,at0,rfl,_,rfl,?_⟩
  refine iteF ?_
  refine ⟨_,rfl,_,_,_,_,rfl,rfl,SqT.of hfd,at1,p,_,_,rfl,hp3,_,rfl,?_⟩
  refine iteF ?_
  refine ⟨_,rfl,_,_,_,_,rfl,rfl,SqT.of hfd,at1,?_⟩
  refine ⟨p,_,rfl,SqT.of hp3,rfl,_,_,rfl,_,_,rfl,rfl,?_⟩
  have ht3:=sk3 _ _ ht
  refine ⟨fun σ Hx=>Hx=H3 /\ σ = [some (.ref b),some (.ref k),some (.ref t),some (.int x),some (.ref fd),some (.int (homeS st (n - st) (x - (t0:Nat)))),some (.str (nm (x - ((t0:Nat):Int)).toNat)),none,none],?_,?_⟩
  ·refine ⟨_,rfl,_,rfl,_,_,_,_,rfl,rfl,SqT.of ht3,at4.2.1,_,_,rfl,rfl,_,rfl,?_⟩
   unfold homeS
   by_cases c:x - ((t0:Nat):Int) < ((st:Nat):Int)
   ·rw [if_pos c,decide_eq_false (by omega)]
    refine iteF ?_
    exact ⟨rfl,rfl⟩
   ·rw [if_neg c,decide_eq_true (by omega)]
    refine iteT ?_
    exact ⟨_,rfl,_,_,_,_,rfl,rfl,SqT.of ht3,at4.2.1,_,rfl,_,rfl,_,_,_,_,rfl,rfl,SqT.of ht3,at4.2.1,_,_,rfl,rfl,_,rfl,_,_,_,_,rfl,rfl,SqT.of ht3,at4.2.2.1,_,_,rfl,rfl,psp,_,_,rfl,rfl,rfl,rfl⟩
  rintro σ Hx ⟨rfl,rfl⟩
  refine ⟨_,rfl,_,rfl,bigr rfl,fun pt npt => ?_⟩
  have s9:Same Hx (upd Hx pt (.tup [.int (homeS st (n - st) (x - (t0:Nat))),.str (nm (x - ((t0:Nat):Int)).toNat)])):=Same.new npt
  have s79:=sk3.trans s9
  refine ⟨_,rfl,_,_,_,_,rfl,rfl,SqT.of (s79 _ _ ht),at4.2.2.2,_,_,.tup (SqT.of zad) (.cons (.int _) (.cons (.str _) .nil)),.lst (SqL.of (s79 _ _ hpl)) (lays_vd (la.mono fun _ _ e=>s79 _ _ e)),hone.1,zfz (fun j hj=>hstr j (of_decide_eq_true (List.mem_filter.mp hj).2)),hone.2,_,rfl,?_⟩
  have hany:=lays_any (nm:=nm) hh1 hh2 (by rw [hh3]; exact hne)
  rw [hh3] at hany
  rw [if_pos rfl,hany]
  refine iteF ?_
  have hfd9:=s9 _ _ hfd
  have hp9:=s9 _ _ hp3
  have ht0s:=ht0
  rw [zdZ dr.nd] at ht0
  generalize upd Hx pt (.tup [.int (homeS st (n - st) (x - (t0:Nat))),.str (nm (x - ((t0:Nat):Int)).toNat)])=H9 at hfd9 hp9 s79 ⊢
  obtain ⟨ts,hts⟩:∃ ts,cGet ks (nm (x - ((t0:Nat):Int)).toNat)=some ts:=by
   unfold tkOf at ht0
   cases e:cGet ks (nm (x - ((t0:Nat):Int)).toNat) with
   | none=>rw [e] at ht0; cases ht0
   | some ts=>exact ⟨ts,rfl⟩
  have etk:tkOf (srt ks) (nm (x - ((t0:Nat):Int)).toNat)=ts:=by rw [zdZ dr.nd]; unfold tkOf; rw [hts]; rfl
  have ht0':((t0:Nat):Int)∈ts:=by rw [<- etk]; exact ht0s
  have gts:GT ts:=(dr.good _ (zcg hts)).2
  refine ⟨_,rfl,_,rfl,_,_,_,_,rfl,rfl,SqT.of hfd9,at1,_,_,_,_,rfl,rfl,SqT.of hp9,at0,_,_,rfl,rfl,_,rfl,_,rfl,k,_,ws,ks,ts,_,rfl,s79 _ _ hk,dr.same s79,hts,fun t1 _ ht1 => ?_⟩
  refine ⟨_,_,rfl,.inl (SqL.of ht1),rfl,zgj ts,_,rfl,?_⟩
  rw [if_pos rfl,zeg,show x - (x - ((t0:Nat):Int))=((t0:Nat):Int) by omega,decide_eq_true ht0']
  refine iteF ?_
  refine ⟨_,rfl,_,rfl,k,_,ws,ks,ts,_,rfl,s79 _ _ hk,dr.same s79,hts,fun t2 _ ht2=>⟨_,rfl,⟨_,SqL.of ht2⟩,?_⟩⟩
  refine zbG (zam K t2 _) (fun i σ Hx=>Same H9 Hx/\∃ x7 x8,σ = [some (.ref b),some (.ref k),some (.ref t),some (.int x),some (.ref fd),some (.int (homeS st (n - st) (x - (t0:Nat)))),some (.str (nm (x - ((t0:Nat):Int)).toNat)),x7,x8]) ⟨Same.refl _,_,_,rfl⟩ (fun i σ Hx _ h=>SqL.of (h.1 _ _ ht2)) ?_ ?_
  ·rintro i y σ Hx hx ⟨sx,x7,x8,rfl⟩
   rw [List.getElem?_map] at hx
   cases ei:ts[i]? with
   | none=>rw [ei] at hx; cases hx
   | some u =>
   rw [ei] at hx
   cases hx
   have hmu:=List.mem_of_getElem? ei
   obtain ⟨u0,u7⟩:=zdw gts u hmu
   have s9x:=s79.trans sx
   refine ⟨_,rfl,_,rfl,_,_,_,_,rfl,rfl,SqT.of (sx _ _ hfd9),at1,_,_,_,_,rfl,rfl,SqT.of (sx _ _ hp9),at0,_,rfl,_,_,rfl,rfl,zc3 E14 (B.same s9x) (show 0<=x - ((t0:Nat):Int) + u by omega) (by omega) fun fd2 H4 sk2 fr2 => ?_⟩
   rcases fr2 with ⟨m2,le,f1,f2,_⟩ | ⟨m2,t2',p2,f1,f2,a1,a2,a3,hfd2,hp24⟩
   ·rw [same f1,htr] at f2; cases f2
   rw [same f1,hnmd] at a3 hp24
   obtain ⟨tt,_,_,_,huniq⟩:=zdA gcs nds nes hfix htr (show 0<=x - ((t0:Nat):Int) + u by omega)
   rw [hnmd] at huniq
   have ett:t2'=u.toNat:=by
    rw [huniq t2' a1 a2 a3]
    refine (huniq u.toNat (by omega) (by omega) ?_).symm
    rw [show ((u.toNat:Nat):Int)=u by omega,show x - (t0:Nat) + u - u=x - (t0:Nat) by omega,etk]
    exact hmu
   have ez:x - (t0:Nat) + u - (t2':Nat)=x - (t0:Nat):=by omega
   rw [ez] at hp24
   have sx4:=sx.trans sk2
   refine ⟨_,rfl,_,_,_,_,rfl,rfl,SqT.of hfd2,at0,rfl,_,rfl,?_⟩
   refine iteF ?_
   refine ⟨_,rfl,_,_,_,_,rfl,rfl,SqT.of hfd2,at1,p2,_,_,rfl,hp24,_,rfl,?_⟩
   refine iteF ?_
   refine ⟨_,rfl,_,_,_,_,rfl,rfl,SqT.of hfd2,at1,_,rfl,_,_,_,_,rfl,rfl,SqT.of (sx4 _ _ hfd9),at1,?_⟩
   refine ⟨_,_,.tup (SqT.of hp24) (.cons (.int _) (.cons (.str _) .nil)),.tup (SqT.of (sx4 _ _ hp9)) (.cons (.int _) (.cons (.str _) .nil)),zdG (hstr _ hne),zdG (hstr _ hne),_,rfl,?_⟩
   rw [if_pos rfl,eqv_two]
   refine iteF ?_
   exact ⟨sx4,_,_,rfl⟩
  ·rintro σ Hx ⟨sx,x7,x8,rfl⟩
   exact q Hx (s79.trans sx)
theorem errs_ok:∀ j,j < 15->PyData.strOk (errName j)=true/\errName j≠Str.ofString "" := by decide +kernel
theorem zga {x:Str} (h:isName x=true):x≠Str.ofString "" := fun z=>by rw [z] at h; revert h; decide
theorem eqv_sameI (a:List Int):PyData.eqv (.list (a.map PyData.int)) (.list (a.map PyData.int))=true:=by
 have:∀ a:List Int,PyData.eqvAll (a.map PyData.int) (a.map PyData.int)=true:=by
  intro a
  induction a with
  | nil=>rfl
  | cons x a ih=>rw [List.map_cons,PyData.eqvAll,ih]; simp [PyData.eqv]
 rw [PyData.eqv,this]
theorem strip_walk {G:Addr->Prop} {H:Hp} {ws:List V} {ks:Combs} (dr:Drawn G H ws ks) (gcs:GC (srt ks)) {m:Nat} (hfix:nxtRow (srt ks) (rowAt (srt ks) m)=rowAt (srt ks) m) (ht:tr (rowAt (srt ks) m) 0=true) :
  Walk (fun k d=>decide ((d:Int)∈aheadOf (wk (srt ks) (rowAt (srt ks) m) 0 k:Int))) (fun k t=>decide ((t:Int)∈tkOf ks (wn (srt ks) (rowAt (srt ks) m) 0 k)))/\(∀ j,wn (srt ks) (rowAt (srt ks) m) 0 j≠Str.ofString "" -> (cGet ks (wn (srt ks) (rowAt (srt ks) m) 0 j)).isSome=true)/\cGet ks (Str.ofString "")=none:=by
 have pm:=zbn dr.nd
 have nds:((srt ks).map (·.1)).Nodup:=(pm.map _).nodup_iff.mpr dr.nd
 have nes:∀ c∈srt ks,c.1≠Str.ofString "" := fun c hc=>zga (dr.good c (pm.mem_iff.mp hc)).1
 have W:=zfH gcs nds nes hfix ht
 refine ⟨?_,fun j hne => ?_,?_⟩
 ·have e:(fun (k t:Nat)=>decide ((t:Int)∈tkOf ks (wn (srt ks) (rowAt (srt ks) m) 0 k)))=fun (k t:Nat)=>decide ((t:Int)∈tkOf (srt ks) (wn (srt ks) (rowAt (srt ks) m) 0 k)):=funext fun k=>funext fun t=>by rw [zdZ dr.nd]
  rw [e]
  exact W
 ·rcases zgw gcs hfix (show 0 < 128 by decide) ht j with ⟨_,e1,_⟩ | ⟨_,c,hc,e1,_⟩
  ·exact absurd e1 hne
  ·rw [e1,zcc dr.nd (pm.mem_iff.mp hc)]; rfl
 ·exact get_none.mpr fun z=>by
   obtain ⟨c,hc,e⟩:=List.mem_map.mp z
   exact zga (dr.good c hc).1 e
theorem zgB:FnScope ["_law_script","_law_kinds","_law_book_here","_law_told","_law_place","_law_begin","_law_end","_law_every"] ["_law_script"] (defScope s_law):=⟨rfl,rfl,rfl,by decide +kernel,rfl,by decide +kernel,by decide +kernel⟩
theorem ok_law {ea:Nat->Addr} {ce:Value} {C:Addr} (D:DefAt K mg "law" s_law) (T:Bn mg) (E14:EJ K ea ce 14) (C_at:Callee P w K mg base "_law_at" 1 ["_law_script","_law_k"] (sp_at K)) (C_combs:Callee P w K mg base "_law_combs" 2 ["_law_script"] (sp_combs K)) (C_book:Callee P w K mg base "_law_book" 4 ["_law_kinds"] (sp_mkbook C))
  (C_over:Callee P w K mg base "_law_over" 7 ["_law_book_here","_law_place"] (spTryF K ea ce (sp_cstrip ea C))) (C_fill_strip:Callee1 P w K mg base "fill_strip" 5 ["book"] (sp_strip C)) (C_stripform:Callee P w K mg base "_law_stripform" 4 ["_law_told"] sp_stripform) (C_stuck:Callee P w K mg base "_law_stuck" 3 ["_law_kinds","_law_told"] sp_stuckS) (C_refused:Callee P w K mg base "_law_refused" 2 ["_law_found","_law_due"] (sp_refused K))
  (C_unrolled:Callee P w K mg base "_law_unrolled" 1 ["_law_layings_here","_law_begin","_law_span","_law_many"] sp_unrolled) (C_coversto:Callee P w K mg base "_law_coversto" 2 ["_law_kinds","_law_layings_here","_law_many"] sp_coversto) (C_shape:Callee P w K mg base "_law_shape" 2 ["_law_kinds","_law_layings_here","_law_place"] sp_shapeS) (C_far:Callee P w K mg base "_law_far" 8 ["_law_book_here","_law_kinds","_law_told","_law_place"] (sp_farS C)):Callee P w K mg base "law" 9 ["_law_script"] (spLawB K):=by
 refine D.callee zgB (fun _ _ _ _ _ _ us hl=>match us,hl with | [_],_=>rfl) (fun vs H Q E h => ?_) (fun f cdv A outer s H vs Q E hr h => ?_)
 ·obtain ⟨a,ns,rfl,_⟩:=h
  rfl
 ·obtain ⟨a,ns,rfl,hS,hl,hbits,q⟩:=h
  have S:=zgB
  have hu:=zcf hr
  have e18:(10:Int) ^ (18:Int).toNat=1000000000000000000:=by decide
  have p2:(0:Int) < 2:=by decide
  have pbig:(0:Int) < 10 ^ (18:Int).toNat - 19:=by decide
  have cp:CPow 10 18:=⟨by decide,by decide,by decide⟩
  refine ⟨_,zae (zau (i:=1) S.nd rfl (Or.inr rfl) (zaA C_combs (hr.mono (by decide)) rfl (zaa (pv 0) zac)))
  (zae (zau (i:=2) S.nd rfl (Or.inr rfl) (zaA C_book (hr.mono (by decide)) rfl (zaa (pv 1) zac)))
  (zae (zau (i:=3) S.nd rfl (Or.inr rfl) (zdf C_fill_strip (hr.mono (by decide)) (by first | exact zaQ | exact zca | exact za5) rfl (zaa (pv 2) zac)))
  (zae (zau (i:=4) S.nd rfl (Or.inr rfl) (zav zbh (zaA C_at (hr.mono (by decide)) rfl (zaa (pv 0) (zaa (zab) zac))) (zav zb0 (zav zgI (zab) (zab)) (zab))))
  (zcH (zaG (zak zcx (zav zbh (zaA C_at (hr.mono (by decide)) rfl (zaa (pv 0) (zaa (zab) zac))) (zab)) (zab) (zat _))
   (zaf (zau (i:=4) S.nd rfl (Or.inr rfl) (zav zbh (zav zeX (zav zeX (pv 4) (zab)) (zav zaO (zab) (zaA C_at (hr.mono (by decide)) rfl (zaa (pv 0) (zaa (zab) zac))))) (zav zb0 (zav zgI (zab) (zab)) (zab)))))
   (zao))
  (zae (zaG (zaY (zaX (zaA C_stripform (hr.mono (by decide)) rfl (zaa (pv 3) zac))))
   (zaf (zaj (za8)))
   (zao))
  (zae (zaG (zak zcx (zar zas (pv 3) (zab) (fun _ _=>rfl)) (zay) (zat _))
   (zaf (zaj (zcQ (zaA C_stuck (hr.mono (by decide)) rfl (zaa (pv 1) (zaa (pv 3) zac))) (zdP (zaA C_refused (hr.mono (by decide)) rfl (zaa (zaA C_over (hr.mono (by decide)) rfl (zaa (pv 2) (zaa (pv 4) zac))) (zaa (zay) zac)))))))
   (zao))
  (zae (zau (i:=5) S.nd rfl (Or.inl rfl) (zar zas (pv 3) (zab) (fun _ _=>rfl)))
  (zae (zau (i:=6) S.nd rfl (Or.inr rfl) (zav zaO (zar zas (pv 3) (zab) (fun _ _=>rfl)) (zar zas (pv 3) (zab) (fun _ _=>rfl))))
  (zae (zau (i:=7) S.nd rfl (Or.inl rfl) (zaA C_unrolled (hr.mono (by decide)) rfl (zaa (zar zas (pv 3) (zab) (fun _ _=>rfl)) (zaa (pv 5) (zaa (zar zas (pv 3) (zab) (fun _ _=>rfl)) (zaa (zab) zac))))))
  (zae (zaG (PW.pt (zbK (zak zgy (zah zap rfl T.n_len PySem.boot_len (zaa (zaT (own := ["_law_one"]) (caps := [(6,"_law_end")]) rfl ⟨rfl,rfl,rfl,rfl,⟨⟨rfl,rfl,.inl rfl⟩,trivial⟩⟩ (zaz (zar zas (pv 3) (zab) (fun _ _=>rfl))) (fun _ _ _ _ _ _=>zal (i:=0) (zaH (by decide +kernel)) rfl (Or.inl rfl)) (fun _ _ _ _ _ _=>zbD (zak zd9 (zar (zce K rfl) (pv 0) (zab) (fun _ _=>rfl)) (pv 1) (zat _))) (fun _ _ _ _ _ _=>pv 0)) zac)) (zab) (zat _)) (zbA (zaY (zaX (zaA C_coversto (hr.mono (by decide)) rfl (zaa (pv 1) (zaa (pv 7) (zaa (zav zaO (pv 5) (zav zeX (zab) (zar zas (pv 3) (zab) (fun _ _=>rfl)))) zac)))))))))
   (zaf (zaj (za8)))
   (zao))
  (zae (zaG (zak (zf4 hr.units) (zaA C_shape (hr.mono (by decide)) rfl (zaa (pv 1) (zaa (pv 7) (zaa (pv 5) zac)))) (zaA C_shape (hr.mono (by decide)) rfl (zaa (pv 1) (zaa (zar zas (pv 3) (zab) (fun _ _=>rfl)) (zaa (pv 6) zac)))) (zat _))
   (zaf (zaj (za8)))
   (zao))
  (zaf (zaj (zah (zcZ rfl) rfl T.n_all boot_all (zaa (zaT (own := ["_law_k"]) (caps := [(2,"_law_book_here"),(1,"_law_kinds"),(3,"_law_told"),(4,"_law_place")]) rfl ⟨rfl,rfl,rfl,rfl,⟨⟨rfl,rfl,.inl rfl⟩,⟨rfl,rfl,.inl rfl⟩,⟨rfl,rfl,.inl rfl⟩,⟨rfl,rfl,.inl rfl⟩,trivial⟩⟩ (za7 rfl T.n_range (zaa (zab) zac)) (fun _ _ _ _ _ _=>zal (i:=0) (zaH (by decide +kernel)) rfl (Or.inl rfl)) (fun _ _ _ _ _ _=>zbk) (fun _ _ _ _ _ _=>zaA C_far (hr.mono (by decide)) rfl (zaa (pv 1) (zaa (pv 2) (zaa (pv 3) (zaa (zav zaO (pv 4) (pv 0)) zac)))))) zac))))))))))))))),?_⟩
  refine ⟨_,rfl,a,ns,rfl,hS,fun pk ks ws H1 s1 npk hpk dr hk8 => ?_⟩
  have gc:GC ks:=fun c hc=>(dr.good c hc).2
  have pm:=zbn dr.nd
  refine ⟨_,rfl,pk,ws,ks,rfl,hpk,dr,hk8,fun b l G past H2 s2 nb nl nG B hpl => ?_⟩
  refine ⟨_,rfl,b,l,G,ks,past,rfl,B,fun t H3 s3 lr3 => ?_⟩
  obtain ⟨gcs,hs8⟩:=zd2 B
  have s13:=s1.trans (s2.trans s3)
  have m0:=fun z:Int=>Int.emod_nonneg z (show (10 ^ (18:Int).toNat - 19:Int)≠0 by decide)
  have m1:=fun z:Int=>Int.emod_lt_of_pos z pbig
  rw [e18] at m0 m1
  refine ⟨_,rfl,a,ns,9,rfl,s13.seq hS,by decide,_,_,rfl,rfl,cp,_,_,rfl,rfl,_,_,rfl,rfl,pbig,?_⟩
  refine ⟨fun σ Hx=>Hx=H3/\∃ n:Int,0<=n/\n < 999999999999999981 /\ σ = [some (.ref a),some (.ref pk),some (.ref b),some (.ref t),some (.int n),none,none,none],?_,?_⟩
  ·refine ⟨_,rfl,a,ns,10,rfl,s13.seq hS,by decide,_,_,rfl,rfl,p2,rfl,_,rfl,?_⟩
   have m2:=m0 (ns.getD (9:Int).toNat 0)
   have m3:=m1 (ns.getD (9:Int).toNat 0)
   refine ite2 (fun _ => ?_) (fun _ => ?_)
   ·have hb:=intBits_le_64 (show -(2 ^ 64) < ns.getD (9:Int).toNat 0 % (10 ^ (18:Int).toNat - 19) by rw [e18]; omega) (by rw [e18]; omega)
    refine ⟨_,rfl,_,_,rfl,rfl,.of_left hb,_,rfl,a,ns,11,rfl,s13.seq hS,by decide,_,_,rfl,rfl,_,_,rfl,rfl,?_,_,_,rfl,rfl,cp,_,_,rfl,rfl,_,_,rfl,rfl,pbig,rfl,_,?_,?_,rfl⟩
    ·exact IntMulOk.of_le (intBits_mul_le hb (intBits_le_64 (show -(2 ^ 64) < (48271:Int) by decide) (by decide))) (intBits_add_le (intBits_le_64 (show -(2 ^ 64) < (7919:Int) by decide) (by decide)) (bits_at hbits _)) (by decide)
    ·rw [e18]; exact m0 _
    ·rw [e18]; exact m1 _
   ·refine ⟨rfl,_,?_,?_,rfl⟩
    ·rw [e18]; exact m2
    ·rw [e18]; exact m3
  rintro σ Hx ⟨rfl,x,n0,n1,rfl⟩
  refine ⟨_,rfl,t,srt ks,rfl,lr3,fun H4 s4=>⟨_,rfl,?_⟩⟩
  refine iteF ?_
  have lr4:=lr3.same s4
  have s24:=s2.trans (s3.trans s4)
  have B4:=B.same (s3.trans s4)
  rcases lr4 with ⟨m,st,n,pl,wl,sd,ht,hpl',la⟩ | ⟨m,k,pr,wl,hfix,hz,e1,e2,e3,ht,hpr,rn⟩
  rotate_left
  ·refine ⟨_,rfl,_,_,_,_,rfl,rfl,SqT.of ht,at3s.1,rfl,_,rfl,?_⟩
   refine iteT ?_
   refine ⟨_,rfl,_,rfl,pk,t,pr,ws,wl,ks,srt ks,k,rfl,s24 _ _ hpk,(dr.same s24).rows,hk8,gc,pm,ht,hpr,rn,e1,e2,e3,fun H5 s5=>⟨_,rfl,?_⟩⟩
   refine iteT ?_
   refine ⟨_,rfl,_,rfl,zc3 E14 (B4.same s5) n0 (by omega) fun fd H6 s6 fr => ?_⟩
   rcases fr with ⟨m',le,f1,f2,hfd,hle⟩ | ⟨m',t0,p,f1,f2,_⟩
   ·exact ⟨fd,le,errName 14,rfl,(errs_ok 14 (by decide)).1,hfd,hle,fun H7 _=>q H7⟩
   ·rw [zfq f1 hfix,hz] at f2; cases f2
  have sd':=sd
  obtain ⟨hfix,htr,hst,hn,hper,_⟩:=sd
  obtain ⟨W,hnm,hemp⟩:=strip_walk dr gcs hfix htr
  refine ⟨_,rfl,_,_,_,_,rfl,rfl,SqT.of ht,at4.1,rfl,_,rfl,?_⟩
  refine iteF ?_
  refine ⟨_,rfl,_,_,_,_,rfl,rfl,SqT.of ht,at4.2.1,?_⟩
  refine ⟨_,rfl,_,_,_,_,rfl,rfl,SqT.of ht,at4.2.1,_,rfl,_,_,_,_,rfl,rfl,SqT.of ht,at4.2.2.1,_,_,rfl,rfl,?_⟩
  refine ⟨_,rfl,_,_,_,_,rfl,rfl,SqT.of ht,at4.2.2.2,_,rfl,_,rfl,_,_,_,_,rfl,rfl,SqT.of ht,at4.2.2.1,pl,st,n,_,wl,rfl,hpl',la,hst,hn,fun j k hj=>zgz hper (by omega) j hj k,fun pu vs' Hu su hpu lu => ?_⟩
  have htu:=su _ _ ht
  have hplu:=su _ _ hpl'
  have lau:=la.mono fun _ _ e=>su _ _ e
  refine ⟨_,rfl,_,_,_,_,rfl,rfl,SqT.of htu,at4.2.2.2,_,rfl,⟨_,SqL.of hplu⟩,fun D1 hD1 => ?_⟩
  refine zcA (capv := [some (.int (((st:Nat):Int) + ((n - st:Nat):Int)))]) (by rfl) (zam K pl wl) (big (by have:=la.len; omega)) hD1 (fun H' s'=>SqL.of (s' _ _ hplu)) (fun _=>false) (fun _ => .non) (fun _ _ _=>nofun) ?_ (fun _ _ _ z=>by cases z) ?_
  ·intro j y hy H' R s' h
   obtain ⟨y',qa,_,rfl,hqa,hy',_⟩:=zed lau hy
   refine ⟨_,rfl,_,_,_,_,rfl,rfl,SqT.of (s' _ _ hqa),at0,_,rfl,_,_,rfl,rfl,_,rfl,?_⟩
   rw [decide_eq_false (show ¬ ((st:Nat):Int) + ((n - st:Nat):Int)<=((y':Nat):Int) by omega)]
   exact h H' (Same.refl _)
  intro H9 s9 e9
  refine ⟨_,_,rfl,.inl (SqL.of e9),_,_,rfl,rfl,_,rfl,?_⟩
  rw [List.length_map,List.filter_eq_nil_iff.mpr (fun _ _=>Bool.false_ne_true)]
  refine iteF ?_
  have s29:=s24.trans (su.trans s9)
  have ht9:=s9 _ _ htu
  have hpu9:=s9 _ _ hpu
  have lu9:=lu.mono fun _ _ e=>s9 _ _ e
  refine ⟨_,rfl,_,rfl,_,rfl,_,rfl,_,_,_,_,rfl,rfl,SqT.of ht9,at4.2.2.1,_,_,rfl,rfl,.of_left (intBits_le_64 (by decide) (by decide)),_,_,rfl,rfl,?_⟩
  refine ⟨pk,pu,st + 5 * (n - st),_,ws,vs',ks,_,?_,s29 _ _ hpk,dr.same s29,hpu9,lu9,by omega,W,hnm,hemp,fun H10 s10=>⟨_,rfl,iteF ?_⟩⟩
  ·have e:((st:Nat):Int) + 5 * ((n - st:Nat):Int)=((st + 5 * (n - st):Nat):Int):=by omega
   show [V.ref pk,V.ref pu,V.int (((st:Nat):Int) + 5 * ((n - st:Nat):Int))]=_
   rw [e]
  have s2a:=s29.trans s10
  refine ⟨_,rfl,_,rfl,_,rfl,pk,pu,st,st + 5 * (n - st),_,ws,vs',ks,_,rfl,s2a _ _ hpk,dr.same s2a,s10 _ _ hpu9,lu9.mono fun _ _ e=>s10 _ _ e,by omega,by omega,W,hnm,hemp,fun r1 H11 s11 hr1 => ?_⟩
  have s2b:=s2a.trans s11
  have hpl11:=s11 _ _ (s10 _ _ (s9 _ _ hplu))
  have la11:=lau.mono fun _ _ e=>s11 _ _ (s10 _ _ (s9 _ _ e))
  have ht11:=s11 _ _ (s10 _ _ ht9)
  refine ⟨_,rfl,_,rfl,_,_,_,_,rfl,rfl,SqT.of ht11,at4.2.2.2,_,rfl,pk,pl,n,n,_,ws,wl,ks,_,?_,s2b _ _ hpk,dr.same s2b,hpl11,la11,by omega,Nat.le_refl _,W,hnm,hemp,fun r2 H12 s12 hr2 => ?_⟩
  ·have e:((st:Nat):Int) + ((n - st:Nat):Int)=((n:Nat):Int):=by omega
   show [V.ref pk,V.ref pl,V.int (((st:Nat):Int) + ((n - st:Nat):Int))]=_
   rw [e]
  have eal:alL (fun k d=>decide ((d:Int)∈aheadOf (wk (srt ks) (rowAt (srt ks) m) 0 k:Int))) n=alL (fun k d=>decide ((d:Int)∈aheadOf (wk (srt ks) (rowAt (srt ks) m) 0 k:Int))) st:=by
   unfold alL
   show (List.filter (fun d:Nat=>decide ((d:Int)∈aheadOf (wk (srt ks) (rowAt (srt ks) m) 0 n:Int))) (List.range 7)).map _=_
   rw [hper]
  rw [eal] at hr2
  refine ⟨_,_,.lst (SqL.of (s12 _ _ hr1)) (VDs.map fun u _ => .int u),.lst (SqL.of hr2) (VDs.map fun u _ => .int u),zbU _,zbU _,_,rfl,?_⟩
  rw [if_pos rfl,eqv_sameI]
  refine iteF ?_
  have s2c:=s2b.trans s12
  have s4c:=su.trans (s9.trans (s10.trans (s11.trans s12)))
  refine ⟨3,rfl,by decide,by decide,fun D2 hD2 => ?_⟩
  refine zcA (capv := [some (.ref b),some (.ref pk),some (.ref t),some (.int x)]) (by rfl) (zaK 0 (3:Int).toNat) (by rw [zbH]; exact big (by decide)) hD2 (fun _ _=>trivial) (fun _=>true) (fun _ => .bl true) (fun _ _ _=>nofun) (fun i x hx H R s' h=>h H (Same.refl _)) ?_ ?_
  ·intro i y hy _ H' R s' h
   obtain ⟨hi,rfl⟩:=zbp hy
   have hi:i < 3:=hi
   have s4d:=s4c.trans s'
   refine ⟨_,rfl,_,rfl,_,rfl,_,rfl,_,rfl,_,_,rfl,rfl,b,l,pk,t,_,G,past,ws,ks,m,st,n,pl,wl,rfl,B4.same s4d,s' _ _ (s2c _ _ hpk),dr.same (s2c.trans s'),sd',s4d _ _ ht,s4d _ _ hpl',la.mono fun _ _ e=>s4d _ _ e,by omega,by omega,fun H6 s6=>h H6 s6⟩
  ·intro H' s' e
   refine ⟨_,[true,true,true],rfl,SqL.of ?_,q H'⟩
   rw [e]
   rfl
end
theorem walk {l:PySem.W.OpenLaw} {q:Program} {loose:List Str} {XP:(Str->Option Value)->Heap->Prop} {YP:World->Heap->Prop} {d:DefRec} {K:Params->PySem.W.Frag} (hn:l.most=some 63) (hdf:d.params.defaults = [])
  (hY:∀ (w:World) (h:Heap),YP w h->(K w.params).In h)
  (F:∀ (w:World) (mg:Str->Option Value) (fa:Addr) (h:Heap),(K w.params).In h->h.Ns mainGlobals mg->mg d.name=some (.ref fa) ->
   ∃ fd:FuncData,(∀ (s:Shared) (u:Value),BindsTo s fd ⟨[u],[]⟩ [("_law_script",u)])/\∀ base:Heap,(K w.params).In base->base.Ns mainGlobals mg->FnOk l.prog w (K w.params) mg base CX0 9 fa fd ["_law_script"] (spLawB (K w.params))) :
  PySem.W.WalkO q loose XP YP l.row.toRowW d [] (fun f vs=>PySem.call f vs) :=
 L2.walk_ofB (n:=63) (k:=9) (x := "_law_script") (CX:=fun _=>CX0) (sp:=fun w=>spLawB (K w.params)) hn (by decide) hdf ⟨rfl,by decide,by decide⟩ hY F (fun _ _ a ns hl hb _ hS=>⟨a,ns,rfl,hS,hl,hb,fun _=>rfl⟩) fun _ _ _ _ _ z=>z
theorem all {l:PySem.W.OpenLaw} {w:World} {K:PySem.W.Frag} {h:Heap} {mg:Str->Option Value} {fa:Addr} (X:K.In h) (G:h.Ns mainGlobals mg) (hfa:mg "law" = some (.ref fa)) (T:Bn mg)
  (V_MOST_COMBS:∃ t,mg "MOST_COMBS" = some (.int 8 t))
  (V_MOST_NAME:∃ t,mg "MOST_NAME" = some (.int 6 t))
  (V_MOST_TOOTH:∃ t,mg "MOST_TOOTH" = some (.int 7 t))
  (V_MOST_DEEDS:∃ t,mg "MOST_DEEDS" = some (.int 300 t))
  (V_SHAPES:∃ t,mg "SHAPES" = some (.int 128 t))
  (V_MOST_PLACE:∃ t,mg "MOST_PLACE" = some (.int 1000000000000000000 t))
  {t_TOOTH_WORTH:Addr} (G_TOOTH_WORTH:mg "TOOTH_WORTH" = some (.ref t_TOOTH_WORTH)) (TC_TOOTH_WORTH:tupChk K t_TOOTH_WORTH [1,2,4,8,16,32,64,128]=true)
  {C ce a0 a1 a2 a3 a4 a5 a6 a7 a8 a9 a10 a11 a12 a13 a14:Addr}
  (R0:mg "BadName" = some (.ref a0))
  (R1:mg "BadTeeth" = some (.ref a1))
  (R2:mg "NameTaken" = some (.ref a2))
  (R3:mg "BookFull" = some (.ref a3))
  (R4:mg "NoComb" = some (.ref a4))
  (R5:mg "BadTooth" = some (.ref a5))
  (R6:mg "ToothThere" = some (.ref a6))
  (R7:mg "FirstTooth" = some (.ref a7))
  (R8:mg "ToothMissing" = some (.ref a8))
  (R9:mg "DeedsFull" = some (.ref a9))
  (R10:mg "NothingDone" = some (.ref a10))
  (R11:mg "BadShape" = some (.ref a11))
  (R12:mg "BadPlace" = some (.ref a12))
  (R13:mg "BadLength" = some (.ref a13))
  (R14:mg "NoFilling" = some (.ref a14))
  (RCE:mg "CombError" = some (.ref ce)) (HCHK:errChk K [a0,a1,a2,a3,a4,a5,a6,a7,a8,a9,a10,a11,a12,a13,a14] ce [0,1,2,3,4,9,11,12,14]=true)
  (INIT:InitAt K mg C "Book" "Book.__init__" s_Book___init__) (BCHK:bookChk K C=true)
  (N_put:MethAt K C "Book" "put" s_Book_put)
  (N_names:MethAt K C "Book" "names" s_Book_names)
  (N_teeth:MethAt K C "Book" "teeth" s_Book_teeth)
  (N_check_comb:MethAt K C "Book" "check_comb" s_Book_check_comb)
  (N_set_comb:MethAt K C "Book" "set_comb" s_Book_set_comb)
  (N_do_deed:MethAt K C "Book" "do_deed" s_Book_do_deed)
  (D_shape_steps:DefAt K mg "shape_steps" s_shape_steps)
  (D_teeth_worth:DefAt K mg "teeth_worth" s_teeth_worth)
  (D_step_table:DefAt K mg "step_table" s_step_table)
  (D_rows_going_on:DefAt K mg "rows_going_on" s_rows_going_on)
  (D_narrow_row:DefAt K mg "narrow_row" s_narrow_row)
  (D_leads_on:DefAt K mg "leads_on" s_leads_on)
  (D_walk_round:DefAt K mg "walk_round" s_walk_round)
  (D_first_lasting_step:DefAt K mg "first_lasting_step" s_first_lasting_step)
  (D_shapes_behind:DefAt K mg "shapes_behind" s_shapes_behind)
  (D_rows_to_the_end:DefAt K mg "rows_to_the_end" s_rows_to_the_end)
  (D_filled_strip:DefAt K mg "filled_strip" s_filled_strip)
  (D_fill_strip:DefAt K mg "fill_strip" s_fill_strip)
  (D_comb_over_strip:DefAt K mg "comb_over_strip" s_comb_over_strip)
  (D_strip_home:DefAt K mg "strip_home" s_strip_home)
  (D_check_filled:DefAt K mg "check_filled" s_check_filled)
  (D_reaching_places:DefAt K mg "reaching_places" s_reaching_places)
  (D_laying_over:DefAt K mg "laying_over" s_laying_over)
  (D_is_name:DefAt K mg "is_name" s_is_name)
  (D_is_small_letter:DefAt K mg "is_small_letter" s_is_small_letter)
  (D_are_teeth:DefAt K mg "are_teeth" s_are_teeth)
  (D_at:DefAt K mg "_law_at" s_at)
  (D_mixed:DefAt K mg "_law_mixed" s_mixed)
  (D_word:DefAt K mg "_law_word" s_word)
  (D_spare:DefAt K mg "_law_spare" s_spare)
  (D_menu:DefAt K mg "_law_menu" s_menu)
  (D_combs:DefAt K mg "_law_combs" s_combs)
  (D_book:DefAt K mg "_law_book" s_book)
  (D_unrolled:DefAt K mg "_law_unrolled" s_unrolled)
  (D_teeth:DefAt K mg "_law_teeth" s_teeth)
  (D_coversto:DefAt K mg "_law_coversto" s_coversto)
  (D_whole:DefAt K mg "_law_whole" s_whole)
  (D_laying:DefAt K mg "_law_laying" s_laying)
  (D_layings:DefAt K mg "_law_layings" s_layings)
  (D_stripform:DefAt K mg "_law_stripform" s_stripform)
  (D_after:DefAt K mg "_law_after" s_after)
  (D_goes:DefAt K mg "_law_goes" s_goes)
  (D_number:DefAt K mg "_law_number" s_number)
  (D_ahead:DefAt K mg "_law_ahead" s_ahead)
  (D_numbers:DefAt K mg "_law_numbers" s_numbers)
  (D_kind:DefAt K mg "_law_kind" s_kind)
  (D_refused:DefAt K mg "_law_refused" s_refused)
  (D_over:DefAt K mg "_law_over" s_over)
  (D_shape:DefAt K mg "_law_shape" s_shape)
  (D_far:DefAt K mg "_law_far" s_far)
  (D_stuck:DefAt K mg "_law_stuck" s_stuck)
  (D_law:DefAt K mg "law" s_law) :
  ∃ fd:FuncData,(∀ (s:Shared) (v:Value),BindsTo s fd ⟨[v],[]⟩ [("_law_script",v)])/\∀ base:Heap,K.In base->base.Ns mainGlobals mg->FnOk l.prog w K mg base CX0 9 fa fd ["_law_script"] (spLawB K):=by
 have BA:=book_of BCHK
 have E (j:Nat) (hj:j ∈ [0,1,2,3,4,9,11,12,14]) (h15:j < 15):=ej_of HCHK hj h15
 have E4:=E 4 (by decide) (by decide)
 refine D_law.entry hfa (fun _ _ _ _ _ _ v=>rfl) fun base => ?_
 have c_kind:=ok_kind (P:=l.prog) (w:=w) (base:=base) D_kind T (ea:=fun i => [a0,a1,a2,a3,a4,a5,a6,a7,a8,a9,a10,a11,a12,a13,a14].getD i 0) ⟨R0,R1,R2,R3,R4,R5,R6,R7,R8,R9,R10,R11,R12,R13,R14⟩
 have m_check:=ok_check (P:=l.prog) (w:=w) (base:=base) (ea:=fun i => [a0,a1,a2,a3,a4,a5,a6,a7,a8,a9,a10,a11,a12,a13,a14].getD i 0) N_check_comb T BA (E4.err R4)
 have m_do:=ok_do (P:=l.prog) (w:=w) (base:=base) (ea:=fun i => [a0,a1,a2,a3,a4,a5,a6,a7,a8,a9,a10,a11,a12,a13,a14].getD i 0) N_do_deed T BA V_MOST_DEEDS ((E 9 (by decide) (by decide)).err R9)
 have m_set:=ok_set (ea:=fun i => [a0,a1,a2,a3,a4,a5,a6,a7,a8,a9,a10,a11,a12,a13,a14].getD i 0) N_set_comb T BA m_do
 have m_put:=ok_put (ea:=fun i => [a0,a1,a2,a3,a4,a5,a6,a7,a8,a9,a10,a11,a12,a13,a14].getD i 0) N_put T BA V_MOST_COMBS ((E 0 (by decide) (by decide)).err R0) ((E 1 (by decide) (by decide)).err R1) ((E 2 (by decide) (by decide)).err R2) ((E 3 (by decide) (by decide)).err R3) (ok_name D_is_name T V_MOST_NAME (ok_small D_is_small_letter T)) (ok_teeth D_are_teeth T V_MOST_TOOTH) m_set
 have m_names:=ok_names (P:=l.prog) (w:=w) (base:=base) N_names T BA
 have m_teeth:=ok_bteeth N_teeth T BA m_check
 have c_at:=ok_at (P:=l.prog) (w:=w) (base:=base) D_at T
 have c_whole:=ok_whole (P:=l.prog) (w:=w) (base:=base) D_whole T
 have c_word:=ok_word (P:=l.prog) (w:=w) (base:=base) D_word T
 have c_combs:=ok_combs D_combs T c_at (ok_mixed D_mixed T) c_word (ok_spare D_spare T) (ok_menu D_menu T)
 have c_book:L2.Callee l.prog w K mg base "_law_book" 4 ["_law_kinds"] (sp_mkbook C):=by
  obtain ⟨fi,fdi,mk,fu⟩:=INIT.ex
  exact ok_mkbook D_book T BA ⟨fi,fdi,mk,ok_init fu T BA,INIT.m,fu.binds (fun _ _ _ _ _ _ us hl=>match us,hl with | [_],_=>rfl)⟩ m_put
 have f_steps:=ok_steps (ea:=fun i => [a0,a1,a2,a3,a4,a5,a6,a7,a8,a9,a10,a11,a12,a13,a14].getD i 0) D_shape_steps T BA V_SHAPES ((E 11 (by decide) (by decide)).err R11) (ok_worth D_teeth_worth T G_TOOTH_WORTH (tup_chk TC_TOOTH_WORTH)) m_names m_teeth
 have f_strip:=ok_strip D_fill_strip T (ok_table D_step_table T V_SHAPES f_steps) (ok_rows D_rows_going_on T (ok_narrow D_narrow_row T (ok_leads D_leads_on T))) (ok_walk D_walk_round T (ok_first D_first_lasting_step T)) (ok_fstrip D_filled_strip T) (ok_toend D_rows_to_the_end T (ok_behind D_shapes_behind T))
 have f_over:=ok_over (ea:=fun i => [a0,a1,a2,a3,a4,a5,a6,a7,a8,a9,a10,a11,a12,a13,a14].getD i 0) D_laying_over T BA m_teeth
 have f_cstrip:=ok_cstrip (ea:=fun i => [a0,a1,a2,a3,a4,a5,a6,a7,a8,a9,a10,a11,a12,a13,a14].getD i 0) D_comb_over_strip T V_MOST_PLACE ((E 12 (by decide) (by decide)).err R12) f_strip (ok_chkf (ea:=fun i => [a0,a1,a2,a3,a4,a5,a6,a7,a8,a9,a10,a11,a12,a13,a14].getD i 0) D_check_filled T ((E 14 (by decide) (by decide)).err R14)) (ok_reach D_reaching_places T V_MOST_TOOTH) (ok_home D_strip_home T) f_over
 have c_laying:=ok_laying (P:=l.prog) (w:=w) (base:=base) D_laying T c_whole
 have c_teeth:=ok_lteeth (P:=l.prog) (w:=w) (base:=base) D_teeth T
 have c_goes:=ok_goes (P:=l.prog) (w:=w) (base:=base) D_goes T (ok_after D_after T)
 have c_number:=ok_number (P:=l.prog) (w:=w) (base:=base) D_number T
 have c_ahead:=ok_ahead (P:=l.prog) (w:=w) (base:=base) D_ahead T
 have c_over:=ok_tover D_over T RCE c_kind f_cstrip
 exact ok_law D_law T (E 14 (by decide) (by decide)) c_at c_combs c_book c_over f_strip (ok_stripform D_stripform T c_whole (ok_layings D_layings T c_laying)) (ok_stuckS D_stuck T (ok_numbers D_numbers T c_whole) c_ahead c_goes c_number) (ok_refused D_refused T) (ok_unrolled D_unrolled T) (ok_coversto D_coversto T c_teeth) (ok_shapeS D_shape T c_teeth) (ok_farS D_far T (E 14 (by decide) (by decide)) c_over c_laying c_teeth)
end K29
open PySem PySem.W PyProof.Rows
namespace PySem.W.Fast
def tw8721244081667249948:=True
def tw12688710368979878679:=True
def tw17202692545168130404:=True
def tw7581699873925084782:=True
def tw17721032855169187997:=True
def tw12776723667471236515:=True
def tw3031377508434728540:=True
def tw16319862346586444156:=True
def tw4990648411926972551:=True
def tw1921222264554760444:=True
def tw14556950765430858241:=True
def tw1269747718058547423:=True
def tw13853472238068186968:=True
def tw11063874926376812798:=True
def tw2533430465870832017:=True
def tw7846487223976406342:=True
def tw4904619860105734366:=True
def tw1850508399733185390:=True
def tw15560327739901442068:=True
def tw15847993746761662472:=True
def tw13090355588287718826:=True
def tw8216292613870644404:=True
def tw7374608786100412080:=True
def tw1453704771457388062:=True
def tw7082882075484390563:=True
def tw3611978427551181948:=True
def tw14528314804567384678:=True
def tw8330996930852243045:=True
def tw9785409798916428284:=True
def tw4431249778227350013:=True
def tw623466988066752822:=True
def tw15510641952691607976:=True
def tw1499124200340922366:=True
def tw791672365507294809:=True
def tw2835288884465967835:=True
def tw830381992074068707:=True
def tw8612232652848434917:=True
def tw5788681795218665021:=True
def tw13894168536071076414:=True
def tw582971045933939842:=True
def tw15708409467344874846:=True
def tw6543927030334833199:=True
def tw7544905868524473812:=True
def tw18009172695665660133:=True
def tw13972615114333753116:=True
def tw7387197269485503902:=True
def tw8626633719197744775:=True
def tw16368833298854388665:=True
def tw13046080049286470480:=True
def tw3706862456938314655:=True
def tw7312247788678233880:=True
def tw17472118184126344460:=True
def tw7439547391265465173:=True
def tw9566111560377838269:=True
def tw5763240660127303461:=True
def tw13560787950286411109:=True
def tw4866857650234921578:=True
def tw9302967946543054786:=True
def tw8343026468820827803:=True
def tw1250570859729770280:=True
def tw479795988045847614:=True
def tw7657071946952895863:=True
def tw2586591793197755752:=True
def tw12890440938466750089:=True
def tw12106458566210908162:=True
def tw7621615781296501365:=True
def tw9790933333654472049:=True
def tw9625240207418495616:=True
def tw6083457076764803091:=True
def tw7371886771517786258:=True
def tw6311409689369968057:=True
def tw2020566952277362070:=True
def tw2096273395310796708:=True
def tw8829536123269655132:=True
def tw8139476899314724932:=True
def tw1071090037824556813:=True
def tw15250749474663068805:=True
def tw3457432257231720245:=True
def tw5382238466720683266:=True
def tw7212245310600056767:=True
def tw16573364901210255725:=True
def tw13515434944518979849:=True
def tw2838706703685261511:=True
def tw2255005651092351387:=True
def tw11326544529519474396:=True
def tw10405133760956144622:=True
def tw16307629321962237319:=True
def tw11071453914360484807:=True
def tw8469206483205390347:=True
def tw15606988034547829135:=True
def tw16117144489641656153:=True
def tw7336923697747968487:=True
def tw17321808981593835263:=True
def tw8423405081387233350:=True
def tw4075799232602578621:=True
def tw300494471789361175:=True
def tw4102525586585268815:=True
def tw13995680102571265274:=True
def tw7484832087832419999:=True
def tw419911550943979485:=True
def tw13547392243611572619:=True
def tw7479764742300518893:=True
def tw8146380483257454960:=True
def tw2548596449783782935:=True
def tw12524030873956651042:=True
def tw9502738059391658306:=True
def tw4060527888470992580:=True
def tw12924606569696201573:=True
def tw3571759806411004885:=True
def tw3189625505350660121:=True
def tw14920821026234501073:=True
def tw4321703815742838352:=True
def tw1497087258983355705:=True
def tw8249130323272982017:=True
def tw3987397337848532128:=True
def tw14974877346050107714:=True
def tw12794529046149697208:=True
def tw15225820540063247727:=True
def tw5697402029468586503:=True
def tw5117554070770263669:=True
def tw2262692841273505908:=True
def tw2028694410768030775:=True
def tw3036662661049100500:=True
def tw14755051320066582731:=True
def tw16218353071066950850:=True
def tw9644020281968627437:=True
def tw1480552598022047442:=True
def tw14026289243480466249:=True
def tw10236686526664043506:=True
def tw6446364626720064187:=True
def tw14911048589046745153:=True
def tw10889188103721203552:=True
def tw8193209672778601159:=True
def tw15527505419426262456:=True
def tw12917966514129733019:=True
def tw7977910705813807972:=True
def tw5180826941747131429:=True
def tw5760061260438739494:=True
def tw17779614655349829696:=True
def tw7011335106038208298:=True
def tw11905062107051615916:=True
def tw8820568317719422761:=True
def tw4651836647585290128:=True
def tw4061220715649387967:=True
def tw632430572014941644:=True
def tw17856394342792092059:=True
def tw7459960524477863569:=True
def tw5737400471497773028:=True
def tw6178103781155110625:=True
def tw15509803019501613455:=True
def tw3363333350200871588:=True
def tw2588002687554842262:=True
def tw12339238716985836926:=True
def tw2080336871644695487:=True
def tw13585444868877845565:=True
def tw12977663355664523689:=True
def tw12213484846099260144:=True
def tw2939282170478160994:=True
def tw6177093176039445842:=True
def tw17102608880294066408:=True
def tw18247272687531971577:=True
def tw2153089190250112939:=True
def tw14124587054276430070:=True
def tw15474439418400618673:=True
def tw800116823227634239:=True
def tw1656531810530662997:=True
def tw14729801247302647242:=True
def tw718923294012808420:=True
def tw10453435034239420223:=True
def tw7027808687267144440:=True
def tw18147595753087925693:=True
def tw387825922204794223:=True
def tw6249922879678042826:=True
def tw7910435148979252044:=True
def tw9597467125657038165:=True
def tw15608505721823702352:=True
def tw11100438840226802033:=True
def tw6091720531995607225:=True
def tw9555060779148548095:=True
def tw3182629012251699000:=True
def tw18203910863578785272:=True
def tw9806401678448016410:=True
def tw9695151798482294384:=True
def tw9085074977321741857:=True
def tw13327624592209596031:=True
def tw1347312404547769037:=True
def tw17525290078738513681:=True
def tw11368086988002211696:=True
def tw16531556701365355124:=True
def tw4079497922554582661:=True
def tw11001521049503382434:=True
def tw1502179850420096984:=True
def tw12768926108298572071:=True
def tw632328542117591430:=True
def tw14355831506629335807:=True
def tw13386768719020910228:=True
def tw5280475094272384136:=True
def tw1490877290910206233:=True
def tw14581988923907133563:=True
def tw3463040153076652072:=True
def tw11720880295385134170:=True
def tw5321511636586125239:=True
def tw13108309238001671440:=True
def tw2646613467493484128:=True
def tw12901413608203240500:=True
def tw12629765016609516379:=True
def tw10224793865258756802:=True
def tw14693629127514981324:=True
def tw2978083183846689601:=True
def tw13989186509929032696:=True
def tw13243035557447234457:=True
def tw15619900809495384625:=True
def tw17550551634040458287:=True
def tw17681640025636455761:=True
def tw2519214615731302876:=True
def tw4670007734870512959:=True
def tw15141798069257323361:=True
def tw3100218511634986902:=True
def tw17213050706363983482:=True
def tw17297103879928396249:=True
def tw15037491153567894315:=True
def tw9986726804805270292:=True
def tw13010096486172385762:=True
def tw9393472539451707937:=True
def tw1294111237340848052:=True
def tw13054153431327476569:=True
def tw11278131518268695802:=True
def tw13390620310231966470:=True
def tw5831136014070296214:=True
def tw2567491967184283777:=True
def tw9897165699012146131:=True
def tw9753484725275031820:=True
def tw7109088318482374579:=True
def tw14228468379970272475:=True
def tw2803929435673498676:=True
def tw18154204222422944940:=True
def tw215785270633554652:=True
def tw8634198665817621608:=True
def tw11822349975162907132:=True
def tw1634038353547596377:=True
def tw11231772500477353801:=True
def tw12693997584476488700:=True
def tw7725752001340337889:=True
def tw15581853497247263478:=True
def tw18175377639443333306:=True
def tw13504993371998505201:=True
def tw11608482163026513485:=True
def tw4855723200405452138:=True
def tw17196600575848632881:=True
def tw15253131777611903020:=True
def tw4264669002567375096:=True
def tw1583272272336691567:=True
def tw15864135567843289130:=True
def tw17706167525098013581:=True
def tw18099495440201039838:=True
def tw15858901760733764745:=True
def tw12783864062643857975:=True
def tw5988198307860976637:=True
def tw7291363291078258939:=True
def tw7946343981880056966:=True
def tw11349788030230198607:=True
def tw13934764583231413218:=True
def tw10044359588025153319:=True
def tw6473676797305648659:=True
def tw14712769270119326815:=True
def tw13177899824444090645:=True
def tw14483286648669158964:=True
def tw1096689353676936519:=True
def tw11767193098824362053:=True
def tw707778874894343366:=True
def tw4555843046538056354:=True
def tw2921833139584552102:=True
def tw16961792486854295541:=True
def tw8827525723816294437:=True
def tw1612490592989974280:=True
def tw7669284313201154510:=True
def tw3409092971554087525:=True
def tw7533927915056823384:=True
def tw2957038861022567407:=True
def tw11426047956769916451:=True
def tw3623282304965310970:=True
def tw14589353672128286842:=True
def tw17335242317138823479:=True
def tw8747143744640071428:=True
def tw11765682390640984563:=True
def tw7198114307030891631:=True
def tw6588003939139792700:=True
def tw3499260192601646887:=True
def tw15876206612881429100:=True
def tw17692625841575486597:=True
def tw14884565946183113297:=True
def tw4343653290592903557:=True
def tw6042153234182741123:=True
def tw4559455678342189771:=True
def tw931341493775231642:=True
def tw15119107771294312994:=True
def tw3200749599332608858:=True
def tw13373758816572330583:=True
def tw10880768807121837376:=True
def tw4439443508426723585:=True
def tw16863508445710440452:=True
def tw14944866809313761661:=True
def tw6160105777757971563:=True
def tw9948302617229434671:=True
def tw1358505692541550694:=True
def tw2684407439646009038:=True
def tw2453064669248995959:=True
def tw10504326742163211657:=True
def tw5821847914975834191:=True
def tw16829092211924612411:=True
def tw3948717122880807518:=True
def tw4206193861927429505:=True
def tw3385050095516702014:=True
def tw15314501524243471344:=True
def tw8103734486858836142:=True
def tw99438000415659621:=True
def tw585343731950954515:=True
def tw9543008231170024763:=True
def tw14961696471603193044:=True
def tw1119495729619933236:=True
def tw3685725718121869466:=True
def tw14671970037979585088:=True
def tw13484212483033990675:=True
def tw12554402406220654402:=True
def tw12965235662669427379:=True
def tw8592812853552512058:=True
def tw17699213991194395989:=True
def tw5774540317574331513:=True
def tw6145368162055225433:=True
def tw8110051845425313670:=True
def tw2355791800578584200:=True
def tw3477900528691389883:=True
def tw7599616327831729483:=True
def tw11113897250139437872:=True
def tw2230422483832257576:=True
def tw1906184298232904600:=True
def tw9590913209884340934:=True
def tw16999244816502414329:=True
def tw6683083653215915550:=True
def tw9779436699437392178:=True
def tw14172208756302066312:=True
def tw9272812296842668434:=True
def tw347499051245377658:=True
def tw16323011535341504172:=True
def tw2353842459463472025:=True
def tw13442673765753013087:=True
def tw17445320098137641541:=True
def tw7182144342691911929:=True
def tw4472435157114993942:=True
def tw16880097098791374586:=True
def tw14798107158754151193:=True
def tw195715944983369202:=True
def tw8677238754267359662:=True
def tw8948931826511765502:=True
def tw1699313199112153209:=True
def tw1851929135601697442:=True
def tw14349706903818657499:=True
def tw7277303237850629822:=True
def tw14518004227721245608:=True
def tw1627409165113446704:=True
def tw13345376806023340420:=True
def tw4701068894042065998:=True
def tw4121191668579977880:=True
def tw1359560429311314107:=True
def tw6836019759779551448:=True
def tw6154286511457091883:=True
def tw508002928884195481:=True
def tw9719847957778432131:=True
def tw4705009411142984415:=True
def tw10432905221573303352:=True
def tw5100865512143573396:=True
def tw13365772867116444645:=True
def tw13913681890599131519:=True
def tw16284450036453797248:=True
def tw7654119481904509407:=True
def tw462481981380099019:=True
def tw4334833768488160677:=True
def tw11202325092265099024:=True
def tw13451597751610785860:=True
def tw2289519656784802826:=True
def tw15539893192694311997:=True
def tw1635286820624248999:=True
def tw11334310366971103672:=True
def tw9671526291155663449:=True
def tw12934432049817407651:=True
def tw5312803610366912583:=True
def tw4464838971561498822:=True
def tw7629867701199593806:=True
def tw12015728932375175136:=True
def tw16660858586350085918:=True
def tw16391444032404995635:=True
def tw3080151388008457204:=True
def tw5382908034593079141:=True
def tw6872678968521469698:=True
def tw10044156173976588842:=True
def tw3768964159255239228:=True
def tw9151548276460967048:=True
def tw15247555080978924897:=True
def tw14450385961095866873:=True
def tw6526033291418782969:=True
def tw13529893332867147411:=True
def tw12865326557113600999:=True
def tw3729003724889411239:=True
def tw7425390353152058969:=True
def tw17957363269167334397:=True
def tw10949517769006568151:=True
def tw5559520730694816164:=True
def tw16752359162399816666:=True
def tw9150276420029469192:=True
def tw5225502130816901680:=True
def tw5998892687666362512:=True
def tw870661475563697983:=True
def tw11522429104215562720:=True
def tw7382977969450330623:=True
def tw17315587690074086723:=True
def tw6030220972441761312:=True
def tw15253802966395637126:=True
def tw4137481658000919281:=True
def tw8275105966583604242:=True
def tw17503234376472770516:=True
def tw12063226635286163045:=True
def tw4108361731756095435:=True
def tw3399575251975920880:=True
def tw3798959944414495290:=True
def tw10933975991927956581:=True
def tw9116465720167001003:=True
def tw11065251169956155293:=True
def tw11245971487010086692:=True
def tw12182518184662600420:=True
def tw8743269619315826857:=True
def tw13900588075182260232:=True
def tw3108007739222908251:=True
def tw9472301298081870506:=True
def tw3049335559643261823:=True
def tw3356361679880991416:=True
def tw8234722204530616448:=True
def tw6179286819423023077:=True
def tw18092618520290318907:=True
def tw11037869505238309376:=True
def tw15962900856583082304:=True
def tw9054816899479214271:=True
def tw12874061557331391234:=True
def tw2413392688266609907:=True
def tw10597792332045970379:=True
def tw12624708084061488289:=True
def tw6288030979806532937:=True
def tw3845696494438364024:=True
def tw2763205187572262169:=True
def tw16153426903825037138:=True
def tw10940620796290584768:=True
def tw7284112069511314645:=True
def tw5563440385041149415:=True
def tw5939588682125914864:=True
def tw9405339135336693228:=True
def tw1263750689967563634:=True
def tw8816919486086937551:=True
def tw13862447405922060265:=True
def tw11490258855800700442:=True
def tw11837765310995548209:=True
def tw16328549742318176071:=True
def tw15077602985931818056:=True
def tw4266694124416490888:=True
def tw17023886734067303937:=True
def tw321057869105124496:=True
def tw17577017631557580606:=True
def tw16657779394933988933:=True
def tw15277668433520685403:=True
def tw6977407584776475230:=True
def tw6582816433364561384:=True
def tw11535538752411268381:=True
def tw13783295962800194787:=True
def tw15173475580601530855:=True
def tw12029807680298264396:=True
def tw5496927246966742556:=True
def tw11174332146966410825:=True
def tw7729403915265364533:=True
def tw15504446419974552349:=True
def tw13829155809413797071:=True
def tw16029458838776792250:=True
def tw10318256760171250367:=True
def tw14480370426057976284:=True
def tw13099654884097940333:=True
def tw15413072569492366878:=True
def tw9481765322301332976:=True
def tw18196670852453269477:=True
def tw8127921080255408023:=True
def tw17872622457043132287:=True
def tw7575871964617671757:=True
def tw5989123833980924576:=True
def tw5212761826271953444:=True
def tw11024345704637467942:=True
def tw1068190776363672406:=True
def tw13332703965628104731:=True
def tw14983147629127173073:=True
def tw9156655704545223567:=True
def tw14268973688345630213:=True
def tw8361253951710720708:=True
def tw6565193589960988433:=True
def tw2955255651988640825:=True
def tw12569489733279785406:=True
def tw6857746648639664058:=True
def tw10937621746830423411:=True
def tw6388636295043287190:=True
def tw13341398465318980945:=True
def tw9700215435392297607:=True
def tw12476921932723052601:=True
def tw9545509506316084945:=True
def tw10124198161102563012:=True
def tw3852857093594899160:=True
def tw16146461479049008204:=True
def tw9430596379960630905:=True
def tw7810203638139645009:=True
def tw14017739952766395969:=True
def tw7451738258822145513:=True
def tw11781871641497121030:=True
def tw14253412080179745394:=True
def tw10366498216297955385:=True
def tw10329096118446648620:=True
def tw8275605821706253195:=True
def tw11153756644181856740:=True
def tw13100163159079639292:=True
def tw9570432389607459094:=True
def tw5013495621905478902:=True
def tw8223418995586626038:=True
def tw9275234067133543039:=True
def tw7149717325964350713:=True
def tw3848261340681976661:=True
def tw9231946426327357197:=True
def tw11513048360185817209:=True
def tw14098030139864239533:=True
def tw13067870593241318171:=True
def tw17854380747682046788:=True
def tw11727806570379081266:=True
def tw3577486083396575922:=True
def tw4839489285563111334:=True
def tw9699001663889832608:=True
def tw9560697700739297216:=True
def tw7262178263765152662:=True
def tw4947278052729936399:=True
def tw9446706700359560425:=True
def tw3528039039595719318:=True
def tw5132430588435361482:=True
def tw7503494285274063198:=True
def tw16986886565470864666:=True
def tw3254634929900700773:=True
def tw12178193047271293444:=True
def tw4232566726540990230:=True
def tw4365416165718150889:=True
def tw3599206923673932120:=True
def tw11460821617163798893:=True
def tw12258749577475386983:=True
def tw332888936111293500:=True
def tw4528440123640608233:=True
def tw7743939215925361946:=True
def tw17996743970480530095:=True
def tw13322729890623362178:=True
def tw5372410440607472279:=True
def tw3159674921892129891:=True
def tw17655996386730263188:=True
def tw12891476036788832788:=True
def tw15523983489631198516:=True
def tw4303543953315459836:=True
def tw972433753636320028:=True
def tw6242921891895068233:=True
def tw2897243630176122888:=True
def tw873358567807729443:=True
def tw2934806400343688057:=True
def tw658532354040528577:=True
def tw2716081819380831754:=True
def tw14704003460323940141:=True
def tw18376833821164736919:=True
def tw41408739001934142:=True
def tw16690379579833505972:=True
def tw13719786642151267230:=True
def tw2246890044671129753:=True
def tw3533035574945849687:=True
def tw18262910005708505514:=True
def tw17396314855657359528:=True
def tw13535333431101928737:=True
def tw13409458268394526795:=True
def tw1713807978344222020:=True
def tw9878182041629576352:=True
def tw16205912429746567364:=True
def tw1980760474316191380:=True
def tw2911306339832803334:=True
def tw5092344879207410226:=True
def tw9008518415113521784:=True
def tw11567479030026046598:=True
def tw16974475736104435924:=True
def tw5723035366222114433:=True
def tw8489441389124192452:=True
def tw1396857248742852120:=True
def tw331500383126518659:=True
def tw10623454193440011274:=True
def tw3587772802484445001:=True
def tw16304093302422327140:=True
def tw15045614322709021649:=True
def tw5116700746992621344:=True
def tw6568007440552639984:=True
def tw16092468419039346002:=True
def tw3969961924442184874:=True
def tw5598612599434492285:=True
def tw8249364365150723812:=True
def tw15385983852298351600:=True
def tw1205377484775945527:=True
def tw9924787218701571151:=True
def tw15468536957848230917:=True
def tw15513829624625240593:=True
def tw7581050051013321900:=True
def tw17822764115304249569:=True
def tw9844356353813562026:=True
def tw11512311551482565294:=True
def tw17632807583527815110:=True
def tw10555803729427795975:=True
def tw17920656116034810368:=True
def tw10976911073924113406:=True
def tw5444608300663674205:=True
def tw4153236113950484983:=True
def tw5739740135923141510:=True
def tw1995871126982975055:=True
def tw1647079502705930061:=True
def tw15321136212753864543:=True
def tw2925132762265930241:=True
def tw4952406692169488476:=True
def tw890632198351802917:=True
def tw5575852691769178673:=True
def tw9111444734114948027:=True
def tw6170027571787774352:=True
def tw14657388889873641647:=True
def tw10210018665297514198:=True
def tw5979203518666602831:=True
def tw10980235695527799875:=True
def tw316665606178399909:=True
def tw10276075108177478994:=True
def tw12286546846119184638:=True
def tw6890301511017854107:=True
def tw7897521824378066773:=True
def tw7212019720956331009:=True
def tw12108835682671956161:=True
def tw6387835357651574986:=True
def tw12884649623802212144:=True
def tw4798223715670164588:=True
def tw13567457201781208466:=True
def tw4510516302859329892:=True
def tw5388257663536174610:=True
def tw14444814840327953582:=True
def tw11184520516818278065:=True
def tw8539454929739081960:=True
def tw6046226816271078293:=True
def tw13203922340547012544:=True
def tw1700747158184383934:=True
def tw1317978773409399899:=True
def tw11419238681905857655:=True
def tw11106465399024957546:=True
def tw8657803683471033992:=True
def tw5798308678000602989:=True
def tw1826628614022625219:=True
def tw13293039261000943057:=True
def tw4916993703547290813:=True
def tw4375133397627734262:=True
def tw1997271994749810476:=True
def tw14216466009297124274:=True
def tw3021824539885790838:=True
def tw8680409576762269221:=True
def tw18003641627807625047:=True
def tw7276772404479712210:=True
def tw10404167972410031075:=True
def tw3050314771644352756:=True
def tw1606504737494628827:=True
def tw9975209215430094351:=True
def tw3760736597099955938:=True
def tw14792316116513646278:=True
def tw5384863005620235950:=True
def tw18030726810594643884:=True
def tw3142586325140200941:=True
def tw5254691409801256619:=True
def tw1982198354713991593:=True
def tw163322758284312955:=True
def tw16111890909941310154:=True
def tw16618234233087328812:=True
def tw4869303066027184516:=True
def tw13940293897026924752:=True
def tw3498866770257754238:=True
def tw16272215905800130870:=True
def tw9966996036375980910:=True
def tw430619819916011703:=True
def tw15520404301660603075:=True
def tw12648589877082325134:=True
def tw12848982181246735495:=True
def tw15989547523449953209:=True
def tw17319761517952165543:=True
def tw8455463363247097589:=True
def tw2844135304673744141:=True
def tw12516102274250519105:=True
def tw12812969196652626794:=True
def tw7179052377413544330:=True
def tw653337684260719805:=True
def tw16682792149177997261:=True
def tw1711941255119698507:=True
def tw11967209608159406963:=True
def tw2553836103919453790:=True
def tw7794814734056233808:=True
def tw2916495161309565375:=True
def tw2820345206114782080:=True
def tw3826559301490768579:=True
def tw9100473093868913903:=True
def tw17051930306997625242:=True
def tw9382831668256895254:=True
def tw13170913621080256370:=True
def tw14238485972192296676:=True
def tw363637443312225771:=True
def tw3640493339316634228:=True
def tw580775922887600001:=True
def tw17437916693845236341:=True
def tw13229594241502292902:=True
def tw16919294857197891006:=True
def tw14607157887379964292:=True
def tw16894305821781289276:=True
def tw14847988760130362225:=True
def tw17381486292528062492:=True
def tw215896408933599892:=True
def tw14474007011637260109:=True
def tw15602838608615606186:=True
def tw17295087232555253526:=True
def tw5026393765240200688:=True
def tw2773413656056931652:=True
def tw8323677039198517839:=True
def tw4461915592556645093:=True
def tw7119893714789600746:=True
def tw759900354268074585:=True
def tw733698298897720108:=True
def tw13789434511391912571:=True
def tw16396767701038295487:=True
def tw14587583440600961298:=True
def tw3316673173949036711:=True
def tw11424268003626740015:=True
def tw15776629685814522973:=True
def tw4634256140155688452:=True
def tw5886566276262168102:=True
def tw17156571965201089655:=True
def tw9520484137700231507:=True
def tw3952011593664768765:=True
def tw16830407979610834744:=True
def tw2776027902384667993:=True
def tw192150714248567092:=True
def tw3814414341579558964:=True
def tw4514212910236219093:=True
def tw15002247933831509086:=True
def tw16061251993739560162:=True
def tw5080405776847261246:=True
def tw18409501900212128482:=True
def tw13431587120898385654:=True
def tw14075932225290463126:=True
def tw13288019934531353115:=True
def tw15478666092048261587:=True
def tw8660556364335496273:=True
def tw9472077249805764242:=True
def tw10684565409360812174:=True
def tw13010052362945403152:=True
def tw12137659910870774579:=True
def tw16708173599398243414:=True
def tw13761300335226944426:=True
def tw15591414643936869325:=True
def tw6345219816559686899:=True
def tw8797685898375363805:=True
def tw8915073835402058216:=True
def tw6272167697020852437:=True
def tw11387765269712434325:=True
def tw2688448635563731933:=True
def tw10227942106687697807:=True
def tw8237631572660372042:=True
def tw11658211666231871798:=True
def tw5094196517065753989:=True
def tw3363957686650608543:=True
def tw7937129458114465396:=True
def tw14244079544520267709:=True
def tw6101118432068574441:=True
def tw18123978549351215380:=True
def tw11868099861595061214:=True
def tw15355483932236893343:=True
def tw4829541487928313253:=True
def tw59408665510167819:=True
def tw12659774537607605735:=True
def tw2801710669972257923:=True
def tw14234812352984598914:=True
def tw3470940968173729789:=True
def tw3969943902140109358:=True
def tw11628838241091014333:=True
def tw15087370383421155631:=True
def tw5009522365106292044:=True
def tw12252294794216411552:=True
def tw549279659872481843:=True
def tw7937960374597228198:=True
def tw14528207800284904333:=True
def tw14270221970647385469:=True
def tw13138888834575774193:=True
def tw14868825452484996270:=True
def tw14351328469864192513:=True
def tw3167061101826100575:=True
def tw10048075466755416997:=True
def tw10471520219064994503:=True
def tw10116723026154145290:=True
def tw7513946745406016420:=True
def tw177102947754818762:=True
def tw2982240331569827620:=True
def tw15721078531236695828:=True
def tw227671188226350083:=True
def tw9267321395578447055:=True
def tw13596572129487785086:=True
def tw12540516451357182846:=True
def tw7449599977652610696:=True
def tw8804032754360890437:=True
def tw6130789867140876868:=True
def tw45121907748691705:=True
def tw12113552176757385939:=True
def tw1354596748046999513:=True
def tw7532990166574704664:=True
def tw12498251324304752942:=True
def tw4565846832937102002:=True
def tw12107203984293916267:=True
def tw12628242921629872543:=True
def tw16517472052014221763:=True
def tw17792648024181561724:=True
def tw214883408514153912:=True
def tw17206867186969191530:=True
def tw3700447659983600505:=True
def tw18046480777259331905:=True
def tw14544690978097039246:=True
def tw11211980377068990979:=True
def tw10248780185006101150:=True
def tw18122551061456730495:=True
def tw12500178484452974808:=True
def tw9999889773554240626:=True
def tw16688520744517427691:=True
def tw3044118885330850275:=True
def tw7302664460485107314:=True
def tw13326332093093682266:=True
def tw3267223702756160704:=True
def tw11454436495884035658:=True
def tw10945043947013569529:=True
def tw14466094155854546894:=True
def tw592950610386767140:=True
def tw5928849649500020684:=True
def tw3723786698689490095:=True
def tw3017772361604706247:=True
def tw5266705022861799433:=True
def tw8360422291902117337:=True
def tw1910632823035104649:=True
def tw12154497158286922630:=True
def tw9004035406653080177:=True
def tw5823229735762782917:=True
def tw10311020750143978220:=True
def tw1064545570549080543:=True
def tw4332532526821712091:=True
def tw12827580726665798095:=True
def tw11061396485428841879:=True
def tw1335522637753697523:=True
def tw8320297628775823940:=True
def tw6317012374322904195:=True
def tw6249971161589342520:=True
def tw15089375810062969425:=True
def tw993702900622986279:=True
def tw4045612933657136367:=True
def tw4413438665867066687:=True
def tw8208329078287179440:=True
def tw8441565829364686999:=True
def tw8522894792926689632:=True
def tw2399975068140101518:=True
def tw15627719470236251910:=True
def tw4586074105419427902:=True
def tw9332244908616450741:=True
def tw4749314402216607716:=True
def tw9467241423696638705:=True
def tw16516066016160783846:=True
def tw7353306593710634123:=True
def tw18221701374608335732:=True
def tw2237154256932674341:=True
def tw13286276972901292187:=True
def tw1316588273301864746:=True
def tw15499154722424451476:=True
def tw16834538977089662816:=True
def tw9420240408810505704:=True
def tw130852962537388743:=True
def tw5918411572186761608:=True
def tw14398496911922881442:=True
def tw2722958204458553604:=True
end PySem.W.Fast
set_option maxRecDepth 100000 in
set_option maxHeartbeats 0 in
theorem PySem.Challenge.cw_combstrip_k29_whole_strip_holds : PySem.Challenge.rw_combstrip_k29_whole_strip.Holds := by
 w_on; o_law; k_head; (case hw=>w_witness2)
 k_fill
 refine K29.walk (l:=PySem.Challenge.rw_combstrip_k29_whole_strip) rfl rfl (fun w h Y=>PySem.W.kIn_of Y) ?F
 case F =>
  intro w mg fa h KX G hmg
  refine' K29.all KX G hmg (L2.bn_mk KX G ?n0 ?n1 ?n2 ?n3 ?n4 ?n5 ?n6 ?n7 ?n8 ?n9 ?n10 ?n11 ?n12 ?n13 ?n14 ?n15 ?n16 ?n17 ?n18 ?n19 ?n20) ?v0 ?v1 ?v2 ?v3 ?v4 ?v5 ?zgt0 ?ztc0 ?r0 ?r1 ?r2 ?r3 ?r4 ?r5 ?r6 ?r7 ?r8 ?r9 ?r10 ?r11 ?r12 ?r13 ?r14 ?zrce ?zhc ?zini ?zbc ?m0 ?m1 ?m2 ?m3 ?m4 ?m5 ?d0 ?d1 ?d2 ?d3 ?d4 ?d5 ?d6 ?d7 ?d8 ?d9 ?d10 ?d11 ?d12 ?d13 ?d14 ?d15 ?d16 ?d17 ?d18 ?d19 ?d20 ?d21 ?d22 ?d23 ?d24 ?d25 ?d26 ?d27 ?d28 ?d29 ?d30 ?d31 ?d32 ?d33 ?d34 ?d35 ?d36 ?d37 ?d38 ?d39 ?d40 ?d41 ?d42 ?d43 ?d44 ?d45
  (case n0=>k_is)
  (case n1=>k_is)
  (case n2=>k_is)
  (case n3=>k_is)
  (case n4=>k_is)
  (case n5=>k_is)
  (case n6=>k_is)
  (case n7=>k_is)
  (case n8=>k_is)
  (case n9=>k_is)
  (case n10=>k_is)
  (case n11=>k_is)
  (case n12=>k_is)
  (case n13=>k_is)
  (case n14=>k_is)
  (case n15=>k_is)
  (case n16=>k_is)
  (case n17=>k_is)
  (case n18=>k_is)
  (case n19=>k_is)
  (case n20=>k_is)
  (case v0=>refine' L2.int_mk KX G ?a; (case a=>k_is))
  (case v1=>refine' L2.int_mk KX G ?a; (case a=>k_is))
  (case v2=>refine' L2.int_mk KX G ?a; (case a=>k_is))
  (case v3=>refine' L2.int_mk KX G ?a; (case a=>k_is))
  (case v4=>refine' L2.int_mk KX G ?a; (case a=>k_is))
  (case v5=>refine' L2.int_mk KX G ?a; (case a=>k_is))
  (case zgt0=>refine' L2.ref_mk KX G ?a; (case a=>k_is))
  (case ztc0=>kernel_rfl)
  (case r0=>refine' L2.ref_mk KX G ?a; (case a=>k_is))
  (case r1=>refine' L2.ref_mk KX G ?a; (case a=>k_is))
  (case r2=>refine' L2.ref_mk KX G ?a; (case a=>k_is))
  (case r3=>refine' L2.ref_mk KX G ?a; (case a=>k_is))
  (case r4=>refine' L2.ref_mk KX G ?a; (case a=>k_is))
  (case r5=>refine' L2.ref_mk KX G ?a; (case a=>k_is))
  (case r6=>refine' L2.ref_mk KX G ?a; (case a=>k_is))
  (case r7=>refine' L2.ref_mk KX G ?a; (case a=>k_is))
  (case r8=>refine' L2.ref_mk KX G ?a; (case a=>k_is))
  (case r9=>refine' L2.ref_mk KX G ?a; (case a=>k_is))
  (case r10=>refine' L2.ref_mk KX G ?a; (case a=>k_is))
  (case r11=>refine' L2.ref_mk KX G ?a; (case a=>k_is))
  (case r12=>refine' L2.ref_mk KX G ?a; (case a=>k_is))
  (case r13=>refine' L2.ref_mk KX G ?a; (case a=>k_is))
  (case r14=>refine' L2.ref_mk KX G ?a; (case a=>k_is))
  (case zrce=>refine' L2.ref_mk KX G ?a; (case a=>k_is))
  (case zhc=>kernel_rfl)
  (case zini=>refine' L2.init_mk (L2.ref_mk KX G ?z) ?a ?l ?c ?k ?i ?k2 ?mk; (case z=>k_is); (case a=>k_is); (case l=>k_is); (case c=>k_is); (case k=>k_is); (case i=>k_is); (case k2=>k_is); (case mk=>k_is))
  (case zbc=>kernel_rfl)
  (case m0=>refine' L2.meth_mk ?a ?l ?c ?k ?i; (case a=>k_is); (case l=>k_is); (case c=>k_is); (case k=>k_is); (case i=>k_is))
  (case m1=>refine' L2.meth_mk ?a ?l ?c ?k ?i; (case a=>k_is); (case l=>k_is); (case c=>k_is); (case k=>k_is); (case i=>k_is))
  (case m2=>refine' L2.meth_mk ?a ?l ?c ?k ?i; (case a=>k_is); (case l=>k_is); (case c=>k_is); (case k=>k_is); (case i=>k_is))
  (case m3=>refine' L2.meth_mk ?a ?l ?c ?k ?i; (case a=>k_is); (case l=>k_is); (case c=>k_is); (case k=>k_is); (case i=>k_is))
  (case m4=>refine' L2.meth_mk ?a ?l ?c ?k ?i; (case a=>k_is); (case l=>k_is); (case c=>k_is); (case k=>k_is); (case i=>k_is))
  (case m5=>refine' L2.meth_mk ?a ?l ?c ?k ?i; (case a=>k_is); (case l=>k_is); (case c=>k_is); (case k=>k_is); (case i=>k_is))
  (case d0=>refine' L2.def_mk KX G ?a ?l ?c ?k; (case a=>k_is); (case l=>k_is); (case c=>k_is); (case k=>k_is))
  (case d1=>refine' L2.def_mk KX G ?a ?l ?c ?k; (case a=>k_is); (case l=>k_is); (case c=>k_is); (case k=>k_is))
  (case d2=>refine' L2.def_mk KX G ?a ?l ?c ?k; (case a=>k_is); (case l=>k_is); (case c=>k_is); (case k=>k_is))
  (case d3=>refine' L2.def_mk KX G ?a ?l ?c ?k; (case a=>k_is); (case l=>k_is); (case c=>k_is); (case k=>k_is))
  (case d4=>refine' L2.def_mk KX G ?a ?l ?c ?k; (case a=>k_is); (case l=>k_is); (case c=>k_is); (case k=>k_is))
  (case d5=>refine' L2.def_mk KX G ?a ?l ?c ?k; (case a=>k_is); (case l=>k_is); (case c=>k_is); (case k=>k_is))
  (case d6=>refine' L2.def_mk KX G ?a ?l ?c ?k; (case a=>k_is); (case l=>k_is); (case c=>k_is); (case k=>k_is))
  (case d7=>refine' L2.def_mk KX G ?a ?l ?c ?k; (case a=>k_is); (case l=>k_is); (case c=>k_is); (case k=>k_is))
  (case d8=>refine' L2.def_mk KX G ?a ?l ?c ?k; (case a=>k_is); (case l=>k_is); (case c=>k_is); (case k=>k_is))
  (case d9=>refine' L2.def_mk KX G ?a ?l ?c ?k; (case a=>k_is); (case l=>k_is); (case c=>k_is); (case k=>k_is))
  (case d10=>refine' L2.def_mk KX G ?a ?l ?c ?k; (case a=>k_is); (case l=>k_is); (case c=>k_is); (case k=>k_is))
  (case d11=>refine' L2.def_mk KX G ?a ?l ?c ?k; (case a=>k_is); (case l=>k_is); (case c=>k_is); (case k=>k_is))
  (case d12=>refine' L2.def_mk KX G ?a ?l ?c ?k; (case a=>k_is); (case l=>k_is); (case c=>k_is); (case k=>k_is))
  (case d13=>refine' L2.def_mk KX G ?a ?l ?c ?k; (case a=>k_is); (case l=>k_is); (case c=>k_is); (case k=>k_is))
  (case d14=>refine' L2.def_mk KX G ?a ?l ?c ?k; (case a=>k_is); (case l=>k_is); (case c=>k_is); (case k=>k_is))
  (case d15=>refine' L2.def_mk KX G ?a ?l ?c ?k; (case a=>k_is); (case l=>k_is); (case c=>k_is); (case k=>k_is))
  (case d16=>refine' L2.def_mk KX G ?a ?l ?c ?k; (case a=>k_is); (case l=>k_is); (case c=>k_is); (case k=>k_is))
  (case d17=>refine' L2.def_mk KX G ?a ?l ?c ?k; (case a=>k_is); (case l=>k_is); (case c=>k_is); (case k=>k_is))
  (case d18=>refine' L2.def_mk KX G ?a ?l ?c ?k; (case a=>k_is); (case l=>k_is); (case c=>k_is); (case k=>k_is))
  (case d19=>refine' L2.def_mk KX G ?a ?l ?c ?k; (case a=>k_is); (case l=>k_is); (case c=>k_is); (case k=>k_is))
  (case d20=>refine' L2.def_mk KX G ?a ?l ?c ?k; (case a=>k_is); (case l=>k_is); (case c=>k_is); (case k=>k_is))
  (case d21=>refine' L2.def_mk KX G ?a ?l ?c ?k; (case a=>k_is); (case l=>k_is); (case c=>k_is); (case k=>k_is))
  (case d22=>refine' L2.def_mk KX G ?a ?l ?c ?k; (case a=>k_is); (case l=>k_is); (case c=>k_is); (case k=>k_is))
  (case d23=>refine' L2.def_mk KX G ?a ?l ?c ?k; (case a=>k_is); (case l=>k_is); (case c=>k_is); (case k=>k_is))
  (case d24=>refine' L2.def_mk KX G ?a ?l ?c ?k; (case a=>k_is); (case l=>k_is); (case c=>k_is); (case k=>k_is))
  (case d25=>refine' L2.def_mk KX G ?a ?l ?c ?k; (case a=>k_is); (case l=>k_is); (case c=>k_is); (case k=>k_is))
  (case d26=>refine' L2.def_mk KX G ?a ?l ?c ?k; (case a=>k_is); (case l=>k_is); (case c=>k_is); (case k=>k_is))
  (case d27=>refine' L2.def_mk KX G ?a ?l ?c ?k; (case a=>k_is); (case l=>k_is); (case c=>k_is); (case k=>k_is))
  (case d28=>refine' L2.def_mk KX G ?a ?l ?c ?k; (case a=>k_is); (case l=>k_is); (case c=>k_is); (case k=>k_is))
  (case d29=>refine' L2.def_mk KX G ?a ?l ?c ?k; (case a=>k_is); (case l=>k_is); (case c=>k_is); (case k=>k_is))
  (case d30=>refine' L2.def_mk KX G ?a ?l ?c ?k; (case a=>k_is); (case l=>k_is); (case c=>k_is); (case k=>k_is))
  (case d31=>refine' L2.def_mk KX G ?a ?l ?c ?k; (case a=>k_is); (case l=>k_is); (case c=>k_is); (case k=>k_is))
  (case d32=>refine' L2.def_mk KX G ?a ?l ?c ?k; (case a=>k_is); (case l=>k_is); (case c=>k_is); (case k=>k_is))
  (case d33=>refine' L2.def_mk KX G ?a ?l ?c ?k; (case a=>k_is); (case l=>k_is); (case c=>k_is); (case k=>k_is))
  (case d34=>refine' L2.def_mk KX G ?a ?l ?c ?k; (case a=>k_is); (case l=>k_is); (case c=>k_is); (case k=>k_is))
  (case d35=>refine' L2.def_mk KX G ?a ?l ?c ?k; (case a=>k_is); (case l=>k_is); (case c=>k_is); (case k=>k_is))
  (case d36=>refine' L2.def_mk KX G ?a ?l ?c ?k; (case a=>k_is); (case l=>k_is); (case c=>k_is); (case k=>k_is))
  (case d37=>refine' L2.def_mk KX G ?a ?l ?c ?k; (case a=>k_is); (case l=>k_is); (case c=>k_is); (case k=>k_is))
  (case d38=>refine' L2.def_mk KX G ?a ?l ?c ?k; (case a=>k_is); (case l=>k_is); (case c=>k_is); (case k=>k_is))
  (case d39=>refine' L2.def_mk KX G ?a ?l ?c ?k; (case a=>k_is); (case l=>k_is); (case c=>k_is); (case k=>k_is))
  (case d40=>refine' L2.def_mk KX G ?a ?l ?c ?k; (case a=>k_is); (case l=>k_is); (case c=>k_is); (case k=>k_is))
  (case d41=>refine' L2.def_mk KX G ?a ?l ?c ?k; (case a=>k_is); (case l=>k_is); (case c=>k_is); (case k=>k_is))
  (case d42=>refine' L2.def_mk KX G ?a ?l ?c ?k; (case a=>k_is); (case l=>k_is); (case c=>k_is); (case k=>k_is))
  (case d43=>refine' L2.def_mk KX G ?a ?l ?c ?k; (case a=>k_is); (case l=>k_is); (case c=>k_is); (case k=>k_is))
  (case d44=>refine' L2.def_mk KX G ?a ?l ?c ?k; (case a=>k_is); (case l=>k_is); (case c=>k_is); (case k=>k_is))
  (case d45=>refine' L2.def_mk KX G ?a ?l ?c ?k; (case a=>k_is); (case l=>k_is); (case c=>k_is); (case k=>k_is))
