import PyProof.Rows.All
import Wide.All
import OpenK.AllK
import Wide.FinOn
import Lean
import PyProof.EqAt
import PyProof.EqKinds
import PyProof.TupleCall
import PySem.Challenge.RW_combstrip_k36_whole_one_comb_more
set_option Elab.async false
set_option linter.all false
set_option maxRecDepth 100000
set_option maxHeartbeats 40000000
open Array renaming toList_append->B6,length_toList->B7,toList_push->Cg,toList_reverse->Cm,getElem?_toList->Db,getElem_extract->Fs,getElem?_eq_some_iff->Gb,getElem?_eq_getElem->Gj,append_assoc->Iz,toList_setIfInBounds->K5,perm_iff_toList_perm->K6,toArray_toList->Ln,size_extract->M5,toList_inj->Ml,size_map->N6,toList->Np
open Array.Perm renaming refl->Gp
open Bool renaming false_ne_true->Aa,eq_iff_iff->Bi,and_eq_true->Bp,false_eq_true->Cv,true_and->Eg,false_and->El,not_eq_true'->Fm,and_eq_false_iff->Hu,or_false->Kt,not_true->Ku,or_true->Le,or_eq_true->N5,and_false->Ng
open Classical renaming byContradiction->Eu,not_not->Q8
open Decidable renaming byContradiction->Jr
open False renaming elim->E7
open ForInStep renaming yield->Dw,done->Q6
open Int renaming toNat_natCast->Da,le_refl->Do,eq_ofNat_of_zero_le->En,zero_add->Ga,emod_lt_of_pos->Gi,emod_nonneg->Hs,fdiv_eq_ediv_of_nonneg->Kh,le_trans->Lm
open List renaming length_map->A1,mem_singleton->A5,mem_map->A7,getElem?_eq_getElem->A8,length_append->Ab,getD_eq_getElem?_getD->Ac,getElem?_map->Ad,range->Af,getElem?_eq_some_iff->Ah,mem_cons_of_mem->Ak,map_cons->Al,mem_append->An,map_append->Ao,mem_cons_self->Ap,length_cons->As,filter_cons->Au,append_assoc->Aw,mem_range->Ax,mem_filter->Az,length_range->B0,size_toArray->B1,map_map->B5,pairwise_map->Bb,mem_cons->Bc,length_singleton->Bf,any_eq_true->Bj,filter_eq_self->Bo,mem_of_getElem?->Br,mem_append_right->Bt,nodup_append->Bz,filter_append->C0,pairwise_append->C1,replicate->C5,take_length->C6,map_congr_left->C7,mem_append_left->C9,take_append_drop->Cb,length_take->Cf,getElem?_range->Ch,filter_sublist->Ci,filter_nil->Ck,append_nil->Cq,getElem?_append_right->Cr,all_eq_true->Cs,sum_cons->Ct,getElem?_append_left->Cu,getElem_mem->Cy,take_succ_eq_append_getElem->Cz,perm_ext_iff_of_nodup->D1,nodup_nil->D3,pairwise_lt_range->D5,length_filter_le->Df,range_succ->Dh,nodup_cons->Di,pairwise_iff_getElem->Dr,perm_append_comm->Ds,getElem?_eq_none->Dt,replicate_succ->Dz,take_of_length_le->E1,filter_eq_nil_iff->E2,mem_flatMap->E4,lookup_cons->E5,nodup_iff_pairwise_ne->E8,mem_of_find?_eq_some->Ea,drop_eq_getElem_cons->Eb,find?_cons->Ec,getElem_of_mem->Ei,filter_map->Ep,filter_congr->Es,lookup->Ez,map_nil->F0,length_drop->F3,sum_append->Fa,Nodup->Fb,length->Fe,take_sublist->Fh,flatten_cons->Fi,flatMap_cons->Fj,drop_sublist->Fk,map_id->Fy,eq_nil_of_length_eq_zero->Fz,dropLast_concat_getLast->G3,take_succ_cons->G7,pairwise_cons->Gd,find?_eq_none->Ge,filter_filter->Gf,getElem_take->Gn,any_cons->Gu,getElem_map->Hb,drop_of_length_le->Hh,foldl_cons->Hq,find?_some->Hr,mem_of_mem_take->Ig,mem_iff_getElem->Ih,drop_zero->Ii,length_pos_iff->Is,filterMap_cons->Iu,mem_filterMap->J5,getElem_drop->Ja,ext_getElem?->Jb,any_map->Jc,any_eq_false->Jd,all_map->Je,ext_getElem->Jp,cons_append->Jq,of_mem_zip->Jv,forIn_cons->Jw,count_cons->Jx,foldl->K9,drop_drop->Ka,mem_take_iff_getElem->Kg,length_erase_of_mem->Kr,getElem?_take_of_lt->Ks,getLast_eq_getElem->Kz,getElem?_replicate->L0,range_succ_eq_map->L7,map_id'->L8,length_pos_of_mem->L9,getElem?_set_self->La,find?_cons_of_pos->Lb,find?_cons_of_neg->Lc,singleton_append->Ll,map->Lu,length_dropLast->Lv,getElem?_set_ne->Lw,getElem_range->M8,reverse_perm->Mg,reverse_cons->Mh,getElem?_inj->Mi,nodup_range->Mp,mem_reverse->Mq,le_antisymm->Ms,drop_length->Mt,nil_append->N2,length_set->N3,length_nil->N4,take_zero->Nf,take_add->Nl,le_trans->Nm,all_cons->No,not_lt->Oc
open List.Nodup renaming mem_erase_iff->Py
open List.Pairwise renaming sublist->Ba,imp->Ek,imp_of_mem->Et,nil->G0
open List.Perm renaming append_left->D6,append_right->Go,refl->Hd,map->Q5
open Nat renaming le_refl->A9,lt_of_lt_of_le->Ae,ne_of_lt->Bs,le_trans->Bv,zero_le->By,lt_irrefl->Dv,add_sub_cancel_left->Dy,lt_succ_self->Em,le_of_lt->F5,add_zero->F6,zero_add->Fp,zero_testBit->Fx,lt_trans->G9,lt_succ_of_lt->Gs,zero_mul->Hm,testBit_lt_two_pow->Hn,sub_self->Ho,pow_le_pow_right->Im,eq_of_testBit_eq->Io,add_assoc->J4,mul_comm->Jl,exists_eq_add_of_le->L6,sub_zero->Li,ne_of_gt->Lj,add_comm->Lk,le_of_ble_eq_true->Ls,one_mul->M3,le_succ->M4,sub_add_cancel->Md,lt_of_le_of_lt->Me,add_sub_cancel->Mf,testBit_zero->Mz,le_of_not_lt->N0,le_add_right->N1,testBit_and->Na,strongRecOn->Nb,min_eq_left->Nc,div_add_mod->Nd,le_of_eq->Ob,mul_one->P2,mul_add->P3,add_mod->P4
open Ne renaming symm->Dm
open Option renaming map_some->Dg,isSome_iff_exists->Gm,getD_some->Gr,isSome_map->J3,map_eq_some_iff->Kq,map->Lq,getD_none->M7,none->Nk
open Option.some renaming inj->C4
open Or renaming inl->Aj,inr->Gk
open Prod renaming ext->K8
open PyProof.Rows renaming wpS_bind->Ai,wpS_pure->Am,Keyed->Ay,SortSt->C3,wpS_forRange->D0,wpS_mono->E6,boot_isinstance->Ew,callWith_type1->Fq,AllBare->Gq,step_dedup->Gy,wpS_get->Hg,IntsAre->Hi,boot_list->Hv,SortKind->Hw,wpS_lift->J6,boot_sorted->J8,wpS_modify->Js,pairsOf_size->Jz,wpS_reverse->Kj,listUpdate_at->Lz,subscriptTail_builtinR->Ma,seqEpoch_at->Mx,getElem?_mirror_all->N7,Subscript_->Nj,getElem?_bubble->Of,entry_list_sort->Og,mirror->Oy,callWith_builtin1->Oz,bubble->P0,assign_Tuple->P1,sortedHeap_old->P7,slot_list_sort->P8,boot_all->P9,args_list_sort->Pa,sortedHeap_at->Pe,plain_sorted->Pz,entry_sorted->Q0,args_sorted1->Q2,StrsAre->Q3
open PyProof.Rows.SortSt renaming mk'->Nw
open PySem renaming Value->A0,Addr->A3,Shared->A4,wpAny_bind->A6,wpAny_pure->Aq,Program->Av,Around->Bd,World->Bu,boot_len->Bw,wpAny_loadPart'->C8,Expr->Cc,Stmt->Cd,Heap->Ce,Paired->Cw,wpAny_truthy_bool->Dp,wpAny_mono->Dq,FuncData->Ej,wpAny_typeNameOfWhole_keyiter->Er,wpAny_passesOwn->Ev,wpAny_holding->Ex,mem_of_lookup->F4,wpAny_typeNameOf_keyiter->Ff,Scope->Fg,tupleKind_room_in1->Fn,wpAny_newObj_type->Fu,wpAny_call_entry->G6,PyData->Gh,wpAny_setField->Gw,wpAny_Call_Name_kw->Gx,CmpOp->Ha,NameKind->Ib,wpAny_rule->Ij,richCompare_meets_room->Ik,Builtin->Ip,wpAny_execs_nil->Iq,codeAny_builtin->Ir,wpAny_isOneOf_keyiter->Iv,wpAny_fieldsOf->J7,DictEntry->Jf,wpAny_standAt->Jm,plainId_quiet->Jn,Model->Jo,wpAny_dictEntries->Jy,codeAny_mono->K0,BindsTo->K4,wpAny_execs_cons->Kc,wpAny_field->Kk,wpAny_dictEpoch->Kw,Within->Ky,call_meets->Lf,wpAny_newList->Lx,wpAny_attempt->Ly,call->M0,wpAny_callSpecial?_slot->M6,seqIndex_neg->Mb,Keyword->Mj,wpAny_isTrue_Compare1->Mm,sizeLine_eq->Mu,seqIndex_of->Mw,wpAny_Name->Nh,typeIs_int->Ni,wpAny_pyIter_list->Nq,wpAny_assign_Name->Nr,slot_list_getitem->Nt,wpAny_Dict_empty->Ny,PassesOwn->Oa,wpAny_Compare1->P6,Params->Pc,intBits_le_64->Pf,evalPart_none->Pg,call_list_seq->Ph,call_meetsIn->Q1
open PySem.Around renaming under_plainId->Ft,under->Kv
open PySem.AutoListH renaming list___mul___list_int_3->Q9
open PySem.AutoSeq1 renaming sub_list_list->Gv
open PySem.Builtin renaming bitAnd->Dn
open PySem.Builtin.Dict renaming showsAll->Ju,dictSlotNone->P5
open PySem.Builtin.Dict_items renaming ownsTuple->Hk
open PySem.Builtin.List renaming listTooLong->G5
open PySem.Builtin.Range renaming rangeSize->Oe
open PySem.Calls renaming callWith_builtin->Hf,evalArgs_plain->Ic,spliced_cons->Iy,Name_function_global->K3,call_function_entry->Kb,spliced_nil->M9
open PySem.Code renaming isFrame->Ld,frames->Od
open PySem.DictEntry renaming refKey->Q7
open PySem.EntryCells renaming newEntry->Ki
open PySem.EqMixed renaming ne_str_int->O2,ne_str_bool->O3,ne_int_str->O4,ne_bool_str->O5,eq_str_int->O6,eq_str_bool->O7,eq_int_str->O8,eq_bool_str->O9
open PySem.EqNone renaming ne_str_none->Oi,ne_none_str->Oj,ne_none_none->Ol,ne_none_int->Om,ne_none_bool->On,ne_int_none->Oo,ne_bool_none->Op,eq_str_none->Oq,eq_none_str->Os,eq_none_none->Ot,eq_none_int->Ou,eq_none_bool->Ov,eq_int_none->Ow,eq_bool_none->Ox
open PySem.F renaming plainAttrs_list->Bg,type_list_append->Bl,slot_list_append->Bm,slot_dict_get->Hc,args_dict_get_3->K7,entry_dict_get->Kf,type_list_pop->Ko,slot_list_pop->Kp
open PySem.Heap renaming get?_push_of_some->Ag,lt_size->Ar,get?_push_size->Bh,size_push->Fl,SameBut->G8,get?_update_other->Hj,get?_update_self->Ht
open PySem.Heap.DictOf renaming new->Pd
open PySem.Heap.IsSliceOf renaming new->Nx
open PySem.Heap.SameBut renaming update->K2
open PySem.IsL renaming update->Q4
open PySem.NameKind renaming free->Cn,cell->Ia
open PySem.Obj renaming mapFields->F9,data_mapFields->Fd,mapSeq->Fw,isFreed_of_fields->Lr,cls_mapFields->Mo
open PySem.P renaming le_str->Mc
open PySem.Paired renaming length->D9,snoc->F8,mono->Jk
open PySem.PassesOwn renaming never->B8,leaving->L5
open PySem.PyData renaming canLayAll0->Ca,depthAll->Cj,eqv->E3,int->Ed,canLay0->Eh,eqvAll->Eo,depth->Ey,bool->Gg,strOk->N9
open PySem.SeqAt renaming shaped->Du,EqAt->O0
open PySem.SeqAt.EqAt renaming str_int->Kl,int_str->Km,str_str->Pj,str_none->Pk,str_bool->Pl,same->Pm,none_str->Pn,none_int->Po,none_bool->Pp,int_none->Pq,int_int->Pr,int_bool->Ps,bool_str->Pt,bool_none->Pu,bool_int->Pw,bool_bool->Px
open PySem.SeqRoads2.EqGives renaming str->My
open PySem.Str renaming ofString->A2,length->Pb,empty->Pi
open PySem.Value renaming ref->Bq,none->Ee,bool->F7,notImplemented->Fv,int->Ie,str->Jg,float->Lg,isStrOf->N8,isInt->Nu,bytes->Nv,type->Nz
open PySem.W renaming Frag->At,mg_none_of->Be,nsIn->C2,findIn->Co,fnOf->D4,excIn->D7,kia_one->De,keepIn->Dj,emptyDict->Dk,hideAll->Dx,instObj->E9,codeIn->Fc,plainGet->Fo,hasDictIn->Gc,isFn->Gz,lookIn->Hl,plainGet_of->I0,of_hideAll->Il,plainOver->Iw,methodObj->Ix,kdl_dict->J9,takerIn->Jh,makesIn->Ji,OpenLaw->Jj,kitOne->Jt,mg_of->K1,cellsFrom_some->Kd,methodCall_KW->Kn,kdu_collect->L1,hideAll_get->L3,callWith_K0->L4,callWith_K->Lh,kitx_list->Lo,kitx_dict->Lp,handedIn->M1,WalkO->Mn
open PySem.W.KT renaming app_list->Ke
open PySem.W.Looks renaming here->O1
open PySem.Within renaming cons->Oh
open Sum renaming inl->Cp,inr->D8
open Sum.inr renaming inj->Kx
open True renaming intro->Ef
local macro_rules | `(tactic| omega) => `(tactic| first | lia | omega +splitDisjunctions)
namespace L2
open PySem PySem.Spec PyProof.Rows
noncomputable abbrev Key:=Sum Int Str
noncomputable def keyIs:Key->A0->Bool
 | .inl k,v=>Nu k v
 | .inr x,v=>N8 x v
noncomputable def keyH (w:Bu):Key->Int
 | .inl k=>hashInt k
 | .inr x=>hashStr w x
theorem zaC:∀ {k:Key} {v:A0},keyIs k v=true->(∃ i t,k=Cp i/\v=Ie i t)\/(∃ x t,k=D8 x/\v=Jg x t)
 | .inl i,v,h=>by
  obtain ⟨t,e⟩:=Value.isInt_shape (k:=i) (v:=v) h
  exact .inl ⟨i,t,rfl,e⟩
 | .inr x,v,h=>by
  obtain ⟨t,e⟩:=Value.isStrOf_shape (x:=x) (v:=v) h
  exact .inr ⟨x,t,rfl,e⟩
theorem keyIs_int (i:Int) (t:Tok):keyIs (.inl i) (.int i t)=true:=by simp [keyIs,Nu]
theorem keyIs_str (x:Str) (t:Tok):keyIs (.inr x) (.str x t)=true:=by simp [keyIs,N8]
theorem key_ll (a b:Int):decide ((Cp a:Key)=Cp b)=(a == b):=by
 by_cases e:a=b
 ·subst e; simp
 ·have h:¬ (Cp a:Key)=Cp b:=fun q=>e (Sum.inl.inj q)
  rw [decide_eq_false h]
  exact (beq_eq_false_iff_ne.mpr e).symm
theorem key_rr (a b:Str):decide ((D8 a:Key)=D8 b)=decide (a=b):=by
 by_cases e:a=b
 ·subst e; simp
 ·have h:¬ (D8 a:Key)=D8 b:=fun q=>e (Kx q)
  rw [decide_eq_false h,decide_eq_false e]
theorem key_lr (a:Int) (b:Str):decide ((Cp a:Key)=D8 b)=false:=decide_eq_false (fun q=>nomatch q)
theorem key_rl (a:Str) (b:Int):decide ((D8 a:Key)=Cp b)=false:=decide_eq_false (fun q=>nomatch q)
noncomputable def mixKind (prog:Av) (w:Bu):PySem.KeyKind prog w Key where
 is:=keyIs
 hash:=keyH w
 inj:=fun v a b ha hb=>by
  rcases zaC ha with ⟨i,t,rfl,rfl⟩ | ⟨x,t,rfl,rfl⟩
  ·rcases zaC hb with ⟨j,u,rfl,e⟩ | ⟨y,u,rfl,e⟩
   ·injection e with e1 _; rw [e1]
   ·exact nomatch e
  ·rcases zaC hb with ⟨j,u,rfl,e⟩ | ⟨y,u,rfl,e⟩
   ·exact nomatch e
   ·injection e with e1 _; rw [e1]
 byValue:=fun k v h=>by
  rcases zaC h with ⟨i,t,rfl,rfl⟩ | ⟨x,t,rfl,rfl⟩ <;> rfl
 pyHash:=fun hv h=>by
  rcases zaC hv with ⟨i,t,rfl,rfl⟩ | ⟨x,t,rfl,rfl⟩
  ·exact wpAny_pyHash_int h
  ·exact wpAny_pyHash_str h
 eqBool:=fun hu hv h=>by
  rcases zaC hu with ⟨i,t,rfl,rfl⟩ | ⟨x,t,rfl,rfl⟩
  ·rcases zaC hv with ⟨j,u,rfl,rfl⟩ | ⟨y,u,rfl,rfl⟩
   ·rw [key_ll] at h; exact wpAny_eqBool_int h
   ·rw [key_lr] at h; exact Km i t y u _ _ _ _ h
  ·rcases zaC hv with ⟨j,u,rfl,rfl⟩ | ⟨y,u,rfl,rfl⟩
   ·rw [key_rl] at h; exact Kl x t j u _ _ _ _ h
   ·rw [key_rr] at h; exact wpAny_eqBool_str h
 «strs» := fun k x t v h=>by
  rcases zaC h with ⟨i,u,rfl,e⟩ | ⟨y,u,rfl,e⟩
  ·exact nomatch e
  ·injection e with e1 _
   subst e1
   cases v <;> rfl
theorem mixKind_int (prog:Av) (w:Bu) (i:Int) (t:Tok):(mixKind prog w).is (.inl i) (.int i t)=true:=keyIs_int i t
theorem mixKind_str (prog:Av) (w:Bu) (x:Str) (t:Tok):(mixKind prog w).is (.inr x) (.str x t)=true:=keyIs_str x t
inductive V where
 | non | bl (b:Bool) | int (i:Int) | str (x:Str) | byt (b:Array UInt8) | flt (b:UInt64) | ref (a:A3) | ty (n:String)
 deriving DecidableEq
noncomputable def RelV:V->A0->Prop
 | .non,u=>u=Ee
 | .bl b,u=>u=F7 b
 | .int i,u=>∃ t,u=Ie i t
 | .str x,u=>∃ t,u=Jg x t
 | .byt b,u=>∃ t,u=Nv b t
 | .flt b,u=>∃ t,u=Lg b t
 | .ref a,u=>u=Bq a
 | .ty n,u=>u=Nz n
noncomputable abbrev Vals:List V->List A0->Prop:=Cw RelV
theorem Vals.length {xs:List V} {us:List A0} (r:Vals xs us):xs.length=us.length:=D9 r
theorem Vals.get:∀ {xs:List V} {us:List A0} {i:Nat} {x:V},Vals xs us->xs[i]?=some x->∃ u,us[i]?=some u/\RelV x u
 | _,_,_,_,.nil,e=>by simp at e
 | _,_,0,_,.cons r _,e=>by simp at e; subst e; exact ⟨_,rfl,r⟩
 | _,_,i + 1,x,.cons _ t,e=>by
  obtain ⟨u,h1,h2⟩:=Vals.get (i:=i) (x:=x) t (by simpa using e)
  exact ⟨u,by simpa using h1,h2⟩
theorem Vals.set {x:V} {u:A0} (r:RelV x u):∀ {xs:List V} {us:List A0} (i:Nat),Vals xs us->Vals (xs.set i x) (us.set i u)
 | _,_,_,.nil => .nil
 | _,_,0,.cons _ t => .cons r t
 | _,_,i + 1,.cons q t => .cons q (Vals.set r i t)
theorem Vals.append:∀ {xs ys:List V} {us ws:List A0},Vals xs us->Vals ys ws->Vals (xs ++ ys) (us ++ ws)
 | _,_,_,_,.nil,s=>s
 | _,_,_,_,.cons r t,s => .cons r (Vals.append t s)
theorem Vals.take:∀ {xs:List V} {us:List A0} (n:Nat),Vals xs us->Vals (xs.take n) (us.take n)
 | _,_,0,_ => .nil
 | _,_,_ + 1,.nil => .nil
 | _,_,n + 1,.cons r t => .cons r (Vals.take n t)
theorem Vals.drop:∀ {xs:List V} {us:List A0} (n:Nat),Vals xs us->Vals (xs.drop n) (us.drop n)
 | _,_,0,r=>r
 | _,_,_ + 1,.nil => .nil
 | _,_,n + 1,.cons _ t=>Vals.drop n t
noncomputable def RelO:Option V->Option A0->Prop
 | some v,some u=>RelV v u
 | none,none=>True
 | _,_=>False
noncomputable def KV {κ : Type}:List (κ × V)->List (κ × A0)->Prop:=Cw fun (p : κ × V) (q : κ × A0)=>p.1=q.1/\RelV p.2 q.2
noncomputable def kV:Key->V
 | .inl i => .int i
 | .inr x => .str x
inductive HO where
  | lst (xs:List V)
  | tup (xs:List V)
  | dK (kvs:List (Key×V)) | dT (kvs:List (List Key×V))
  | set (S:Int->Bool) (n:Nat)
  | ins (C dx:A3) (fs:List (Str×V))
  | own (x:A3)
  | xd (fs:List (Str×V))
  | met (f x:A3)
  | rng (lo hi:Int)
  | frz (o:Obj) (u:HO)
  | tbl (ps:Array A0)
  | ext (φ : Ce->Prop)
noncomputable abbrev Hp:=A3->Option HO
noncomputable def upd (H:Hp) (a:A3) (o:HO):Hp:=fun b=>if b=a then some o else H b
theorem upd_same {H:Hp} {a:A3} {o:HO}:upd H a o a=some o:=by unfold upd; rw [if_pos rfl]
theorem zaf {H:Hp} {a b:A3} {o:HO} (h:b≠a):upd H a o b=H b:=by unfold upd; rw [if_neg h]
theorem zhL {H:Hp} {a b:A3} {o u:HO} (h:H a=some o) (h':H b=some u) (d:o≠u):a≠b:=by
 intro e; subst e; rw [h] at h'; exact d (C4 h')
theorem zao {H:Hp} {a b:A3} {o:HO} (h:H a=some o) (h':H b=none):a≠b:=by
 intro e; subst e; rw [h] at h'; cases h'
section
variable (P:Av) (w:Bu)
noncomputable def ObjOk (H:Hp) (h:Ce) (a:A3):HO->Prop
 | .lst xs=>xs.length<=sizeLine/\∃ (its:List A0) (n:Nat),Vals xs its/\h.get? a=some { cls := .type "list",data := .seq its.toArray n }
 | .tup xs=>xs.length<=sizeLine/\∃ its:List A0,Vals xs its/\IsTup h a its.toArray
 | .dK kvs=>kvs.length<=sizeLine/\(a == sysModules)=false/\∃ vs,KV kvs vs/\h.DictOf (mixKind P w) a vs
 | .dT kvs=>kvs.length<=sizeLine/\(a == sysModules)=false/\∃ xs:List (List Key×A3×A0),
   Cw (fun (p:List Key×V) (q:List Key×A3×A0)=>p.1=q.1/\H q.2.1=some (.tup (p.1.map kV))/\RelV p.2 q.2.2) kvs xs /\
   ∃ o es ep,h.get? a=some o/\o.ExactDict/\o.data = .dict es ep/\es.toList=xs.map (entryOfKey (tupleKind (mixKind P w)))/\(xs.map (·.1)).Nodup
 | .set S n=>h.SetOf (intKind P w) a S n
 | .ins C dx fs=>H dx=some (.own a)/\fs.length<=1000/\dx≠a/\h.get? a=some (E9 C dx) /\
   ∃ mA,h.Ns1 dx mA/\(∀ f,RelO (fs.lookup f) (mA f))/\Ky mA (fs.map (·.1))
 | .own _=>∃ o,h.get? a=some o
 | .xd fs=>∃ mA,h.Ns1 a mA/\∀ f,RelO (fs.lookup f) (mA f)
 | .rng lo hi=>∃ t u v,h.get? a=some { cls := .type "range",data := .fields #[.int lo t,.int hi u,.int 1 v] }
 | .frz o u=>h.get? a=some o/\ObjOk H h a u
 | .tbl ps=>h.get? a=some { cls := .none,data := .fields ps }
 | .met f x=>h.get? a=some (Ix (.ref f) (.ref x))
 | .ext φ => φ h/\(∃ o,h.get? a=some o)/\∀ h1 h2:Ce,φ h1->(∀ o,h1.get? a=some o->h2.get? a=some o) -> φ h2
noncomputable def HOk (H:Hp) (h:Ce):Prop:=∀ a o,H a=some o->ObjOk P w H h a o
end
section
variable {P:Av} {w:Bu} {H H':Hp} {h h':Ce} {a:A3} {o:HO}
theorem ObjOk.lt (x:ObjOk P w H h a o):a < h.objs.size:=by
 cases o with
 | lst xs=>obtain ⟨_,_,_,_,e⟩:=x; exact Ar e
 | tup xs=>obtain ⟨_,_,_,p⟩:=x; exact p.lt
 | dK kvs=>obtain ⟨_,_,_,_,o,_,_,e,_⟩:=x; exact Ar e
 | dT kvs=>obtain ⟨_,_,_,_,o,_,_,e,_⟩:=x; exact Ar e
 | set S n=>obtain ⟨o,_,_,_,e,_⟩:=x; exact Ar e
 | ins C dx fs=>obtain ⟨_,_,_,e,_⟩:=x; exact Ar e
 | own y=>obtain ⟨_,e⟩:=x; exact Ar e
 | xd fs=>obtain ⟨_,⟨_,_,_,e,_⟩,_⟩:=x; exact Ar e
 | rng lo hi=>obtain ⟨_,_,_,e⟩:=x; exact Ar e
 | frz ob u=>obtain ⟨e,_⟩:=x; exact Ar e
 | tbl ps=>exact Ar (show h.get? a=some _ from x)
 | met f y=>exact Ar (show h.get? a=some _ from x)
 | ext φ => obtain ⟨_,⟨_,e⟩,_⟩:=x; exact Ar e
theorem Cw.mapP {α β : Type} {F G : α -> β -> Prop}:∀ {l₁ : List α} {l₂ : List β},Cw F l₁ l₂ -> (∀ a b,F a b->G a b)->Cw G l₁ l₂
 | _,_,.nil,_ => .nil
 | _,_,.cons r t,f => .cons (f _ _ r) (Cw.mapP t f)
theorem ObjOk.stay (x:ObjOk P w H h a o) (k:∀ b u,(b=a\/H b=some (.own a))->h.get? b=some u->h'.get? b=some u)
  (ho:∀ b,H b=some (.own a)->H' b=some (.own a)) (ht:∀ b xs,H b=some (.tup xs)->H' b=some (.tup xs)):ObjOk P w H' h' a o:=by
 induction o with
 | lst xs=>obtain ⟨z,its,n,r,e⟩:=x; exact ⟨z,its,n,r,k _ _ (.inl rfl) e⟩
 | tup xs=>obtain ⟨z,its,r,ob,e,c⟩:=x; exact ⟨z,its,r,ob,k _ _ (.inl rfl) e,c⟩
 | dK kvs=>obtain ⟨z,y,vs,r,ob,es,ep,e,c⟩:=x; exact ⟨z,y,vs,r,ob,es,ep,k _ _ (.inl rfl) e,c⟩
 | dT kvs =>
  obtain ⟨z,y,xs,r,ob,es,ep,e,c⟩:=x
  exact ⟨z,y,xs,Cw.mapP r fun p q z=>⟨z.1,ht _ _ z.2.1,z.2.2⟩,ob,es,ep,k _ _ (.inl rfl) e,c⟩
 | set S n=>obtain ⟨ob,es,ep,t,e,c⟩:=x; exact ⟨ob,es,ep,t,k _ _ (.inl rfl) e,c⟩
 | ins C dx fs =>
  obtain ⟨d,z,ne,e,mA,⟨od,es,ep,e2,c⟩,r⟩:=x
  exact ⟨ho _ d,z,ne,k _ _ (.inl rfl) e,mA,⟨od,es,ep,k _ _ (.inr d) e2,c⟩,r⟩
 | own y=>obtain ⟨ob,e⟩:=x; exact ⟨ob,k _ _ (.inl rfl) e⟩
 | xd fs=>obtain ⟨mA,⟨od,es,ep,e,c⟩,r⟩:=x; exact ⟨mA,⟨od,es,ep,k _ _ (.inl rfl) e,c⟩,r⟩
 | rng lo hi=>obtain ⟨t,u,v,e⟩:=x; exact ⟨t,u,v,k _ _ (.inl rfl) e⟩
 | frz ob u ih=>obtain ⟨e,q⟩:=x; exact ⟨k _ _ (.inl rfl) e,ih q⟩
 | tbl ps =>
  have e:h.get? a=some { cls := .none,data := .fields ps }:=x
  show h'.get? a=some { cls := .none,data := .fields ps }
  exact k a _ (.inl rfl) e
 | met f y =>
  have e:h.get? a=some (Ix (.ref f) (.ref y)):=x
  show h'.get? a=some (Ix (.ref f) (.ref y))
  exact k a _ (.inl rfl) e
 | ext φ => obtain ⟨p,⟨o,e⟩,st⟩:=x; exact ⟨st _ _ p fun o q=>k _ _ (.inl rfl) q,⟨o,k _ _ (.inl rfl) e⟩,st⟩
theorem HOk.lt (x:HOk P w H h) (e:H a=some o):a < h.objs.size:=(x a o e).lt
theorem HOk.fresh (x:HOk P w H h) (e:h.objs.size<=a):H a=none:=by
 cases q:H a with
 | none=>rfl
 | some u=>exact absurd (Ae (x.lt q) e) (Dv _)
theorem HOk.kept (x:HOk P w H h) (k:∀ b u,h.get? b=some u->h'.get? b=some u):HOk P w H h':=fun a o e =>
 (x a o e).stay (fun b u _ q=>k b u q) (fun _ q=>q) fun _ _ q=>q
theorem HOk.laid (x:HOk P w H h) (k:∀ b u,h.get? b=some u->h'.get? b=some u) (hp:h.objs.size<=a) (new:ObjOk P w (upd H a o) h' a o):HOk P w (upd H a o) h':=fun b u e=>by
 have hn:=x.fresh hp
 by_cases hb:b=a
 ·subst hb; rw [upd_same] at e; cases e; exact new
 ·rw [zaf hb] at e
  exact (x b u e).stay (fun c v _ q=>k c v q) (fun c q=>by rw [zaf (zao q hn)]; exact q) fun c xs q=>by rw [zaf (zao q hn)]; exact q
end
noncomputable def Rd (H:Hp) (a:A3) (u:HO):Prop:=H a=some u\/∃ o,H a=some (.frz o u)
theorem Rd.ok {P:Av} {w:Bu} {H:Hp} {h:Ce} {a:A3} {u:HO} (r:Rd H a u) (x:HOk P w H h):ObjOk P w H h a u:=by
 rcases r with r | ⟨o,r⟩
 ·exact x a u r
 ·obtain ⟨_,q⟩:=x a _ r
  exact q
noncomputable def Mut:Option HO->Prop
 | some (.lst _)=>True
 | some (.dK _)=>True
 | some (.dT _)=>True
 | some (.set _ _)=>True
 | some (.ins _ _ _)=>True
 | some (.ext _)=>True
 | _=>False
section
variable {P:Av} {w:Bu} {H:Hp} {h h':Ce} {x e:A3} {o':HO}
theorem HOk.write (ok:HOk P w H h) (mu:Mut (H x)) (he:e=x\/H e=some (.own x)) (k:∀ b u,b≠e->h.get? b=some u->h'.get? b=some u) (heo:∃ u,h'.get? e=some u)
  (new:ObjOk P w (upd H x o') h' x o'):HOk P w (upd H x o') h':=fun b u q=>by
 have nown:∀ c y,H c=some (.own y)->c≠x:=fun c y r z=>by subst z; rw [r] at mu; exact mu
 have ntup:∀ c xs,H c=some (.tup xs)->c≠x:=fun c xs r z=>by subst z; rw [r] at mu; exact mu
 by_cases hb:b=x
 ·subst hb; rw [upd_same] at q; cases q; exact new
 ·rw [zaf hb] at q
  by_cases hbe:b=e
  ·have q':H b=some (.own x):=by
    rcases he with z | z
    ·exact absurd (hbe.trans z) hb
    ·rw [hbe]; exact z
   rw [q] at q'; cases q'
   obtain ⟨v,hv⟩:=heo
   exact ⟨v,by rw [hbe]; exact hv⟩
  ·refine (ok b u q).stay (fun c v hc r=>k c v ?_ r) (fun c r=>by rw [zaf (nown c b r)]; exact r) fun c xs r=>by rw [zaf (ntup c xs r)]; exact r
   rcases hc with rfl | hc
   ·exact hbe
   ·rintro rfl
    rcases he with z | z
    ·exact nown c b hc z
    ·rw [hc] at z; cases z; exact hb rfl
end
structure Un (fs ex:List A3) (H H':Hp) (h h':Ce):Prop where
 keep:∀ b o,h.get? b=some o->H b=none->b ∉ fs->b ∉ ex->h'.get? b=some o
 slot:∀ b o,h.get? b=some o->H b=none->b∈fs->b ∉ ex->∃ sl,h'.get? b=some { o with slots:=sl }
 free:∀ b o,h.get? b=some o->H b=none->b ∉ ex->H' b=none
 there:∀ b o,h.get? b=some o->b ∉ ex->∃ o',h'.get? b=some o'
 tups:∀ b xs,H b=some (.tup xs)->H' b=some (.tup xs)
 frzs:∀ b o u,H b=some (.frz o u)->H' b=some (.frz o u)
 tbls:∀ b ps,H b=some (.tbl ps)->∃ more,H' b=some (.tbl (ps ++ more))
section
variable {fs fs' ex ex':List A3} {H H1 H2:Hp} {h h1 h2 h':Ce} {a x e:A3} {o:HO}
theorem Un.any (u:Un fs ex H H1 h h1) {b:A3} {ob:Obj} (q:h.get? b=some ob) (n:H b=none) (hx:b ∉ ex):∃ sl,h1.get? b=some { ob with slots:=sl }:=by
 by_cases hb:b∈fs
 ·exact u.slot b ob q n hb hx
 ·exact ⟨ob.slots,u.keep b ob q n hb hx⟩
theorem Un.trans (a:Un fs ex H H1 h h1) (b:Un fs ex H1 H2 h1 h2):Un fs ex H H2 h h2 where
 keep:=fun c ob q n hc hx=>b.keep c ob (a.keep c ob q n hc hx) (a.free c ob q n hx) hc hx
 slot:=fun c ob q n hc hx=>by
  obtain ⟨sl,e1⟩:=a.slot c ob q n hc hx
  obtain ⟨sl',e2⟩:=b.slot c _ e1 (a.free c ob q n hx) hc hx
  exact ⟨sl',e2⟩
 free:=fun c ob q n hx=>by
  obtain ⟨o',e1⟩:=a.there c ob q hx
  exact b.free c o' e1 (a.free c ob q n hx) hx
 there:=fun c ob q hx=>by
  obtain ⟨o',e1⟩:=a.there c ob q hx
  exact b.there c o' e1 hx
 tups:=fun c xs q=>b.tups c xs (a.tups c xs q)
 frzs:=fun c ob xs q=>b.frzs c ob xs (a.frzs c ob xs q)
 tbls:=fun c ps q=>by
  obtain ⟨m1,e1⟩:=a.tbls c ps q
  obtain ⟨m2,e2⟩:=b.tbls c _ e1
  exact ⟨m1 ++ m2,by rw [e2,Iz]⟩
theorem Un.kept (k:∀ b u,h.get? b=some u->h'.get? b=some u):Un fs ex H H h h' :=
 ⟨fun b ob q _ _ _=>k b ob q,fun b ob q _ _ _=>⟨ob.slots,k b ob q⟩,fun _ _ _ n _=>n,fun b ob q _=>⟨ob,k b ob q⟩,fun _ _ q=>q,fun _ _ _ q=>q,fun _ ps q=>⟨#[],by rw [q]; simp⟩⟩
theorem Un.refl:Un fs ex H H h h:=Un.kept fun _ _ q=>q
theorem Un.laid (k:∀ b u,h.get? b=some u->h'.get? b=some u) (hp:h.objs.size<=a) (hn:H a=none):Un fs ex H (upd H a o) h h' where
 keep:=fun b u q _ _ _=>k b u q
 slot:=fun b u q _ _ _=>⟨u.slots,k b u q⟩
 free:=fun b u q n _=>by rw [zaf (Bs (Ae (Ar q) hp))]; exact n
 there:=fun b u q _=>⟨u,k b u q⟩
 tups:=fun b xs q=>by rw [zaf (zao q hn)]; exact q
 frzs:=fun b u xs q=>by rw [zaf (zao q hn)]; exact q
 tbls:=fun b ps q=>⟨#[],by rw [zaf (zao q hn),q]; simp⟩
theorem Un.write (mu:Mut (H x)) (he:e=x\/H e=some (.own x)) (k:∀ b u,b≠e->h.get? b=some u->h'.get? b=some u) (heo:∃ u,h'.get? e=some u):Un fs ex H (upd H x o) h h':=by
 have hx:∀ b,H b=none->b≠x:=fun b n z=>by subst z; rw [n] at mu; exact mu
 have hb:∀ b,H b=none->b≠e:=fun b n z=>by
  subst z
  rcases he with r | r
  ·exact hx b n r
  ·rw [n] at r; cases r
 have hm:∀ b u,H b=some u->¬ Mut (some u)->b≠x:=fun b u q nm z=>by subst z; rw [q] at mu; exact nm mu
 refine ⟨fun b u q n _ _=>k b u (hb b n) q,fun b u q n _ _=>⟨u.slots,k b u (hb b n) q⟩,fun b u q n _=>by rw [zaf (hx b n)]; exact n,fun b u q _ => ?_,
  fun b xs q=>by rw [zaf (hm b _ q fun z=>z)]; exact q,fun b u xs q=>by rw [zaf (hm b _ q fun z=>z)]; exact q,fun b ps q=>⟨#[],by rw [zaf (hm b _ q fun z=>z),q]; simp⟩⟩
 by_cases hbe:b=e
 ·subst hbe; exact heo
 ·exact ⟨u,k b u hbe q⟩
end
noncomputable def trk (h:Ce) (H:Hp):List A3:=(Af h.objs.size).filter fun a=>(H a).isSome
noncomputable def hidT (h:Ce) (H:Hp):Ce:=Dx h (trk h H)
theorem hidT_size (h:Ce) (H:Hp):(hidT h H).objs.size=h.objs.size:=PySem.W.hideAll_size _ _
theorem hidT_get {h:Ce} {H:Hp} {b:A3} {o:Obj} (e:h.get? b=some o) (n:H b=none):(hidT h H).get? b=some o :=
 L3 _ e fun hm=>by
  have q:(H b).isSome=true:=(Az.mp hm).2
  rw [n] at q; simp at q
theorem of_hidT {h:Ce} {H:Hp} {b:A3} {o:Obj} (e:(hidT h H).get? b=some o):h.get? b=some o/\H b=none:=by
 have e':h.get? b=some o:=Il (trk h H) e
 refine ⟨e',?_⟩
 cases q:H b with
 | none=>rfl
 | some x =>
  have hm:b∈trk h H:=Az.mpr ⟨Ax.mpr (Ar e'),by simp [q]⟩
  have z:(hidT h H).get? b=none:=PySem.W.hideAll_none (trk h H) hm
  rw [z] at e; cases e
noncomputable def allNews (g h:Ce) (L:A3):List (A3×Obj):=(Af h.objs.size).filterMap fun a=>if a=L\/(g.get? a).isSome=true then none else (h.get? a).map fun o=>(a,o)
noncomputable def rest (g h:Ce) (L d:A3):List (A3×Obj):=(allNews g h L).filter fun p=>decide (p.1≠d)
structure Mod (K:At) (mg:Str->Option A0) (base:Ce):Prop where
 kin:K.In base
 glob:base.Ns mainGlobals mg
 blt:∃ mb,base.Ns builtinsNs mb/\∀ x:Str,x ≠ "__name__" -> mb x=bootBuiltins x
 nolimit:base.NoLimit
structure Cx where
 prog:Av
 w:Bu
 K:At
 mg:Str->Option A0
 base:Ce
 A:Bd
 N:List Str
 s₀ : A4
 H₀ : Hp
 env:Env
 outer:List Env
 stack:List Env
 ex:List A3
 fn:Str->Bool
 calm:Bool
 pn:List (A3×Obj)
 xe:A0->A4->Prop
noncomputable def frs (l:List Env):List A3:=l.filterMap (·.frame)
noncomputable abbrev Cx.fs (X:Cx):List A3:=frs X.outer
noncomputable def Vis (sc:Fg) (x:Str):Prop:=sc.names.lookup x=some .local\/sc.names.lookup x=some .cell\/sc.names.lookup x=some .free
noncomputable def Loc (sc:Fg) (x:Str):Prop:=sc.names.lookup x=some .local\/sc.names.lookup x=some .cell
noncomputable def Look (env:Env) (h:Ce) (m:Str->Option A0) (x:Str) (u:A0):Prop :=
 (env.kindOf x=some .local/\m x=some u)\/((env.kindOf x=some .cell\/env.kindOf x=some .free)/\∃ c,env.cells.lookup x=some c/\h.IsCell c (some u))
structure Cx.Ok (X:Cx):Prop where
 mod:Mod X.K X.mg X.base
 kind:X.env.scope.kind = .function
 glob:X.env.globals=mainGlobals
 blt:X.env.builtins=builtinsNs
 above:X.s₀.heap.objs.size<=X.env.locals
 inj:∀ x y c,X.env.cells.lookup x=some c->X.env.cells.lookup y=some c->x=y
 has:∀ x,(X.env.kindOf x=some .cell\/X.env.kindOf x=some .free)->∃ c,X.env.cells.lookup x=some c
 cab:∀ x c,X.fn x=true->X.env.cells.lookup x=some c->X.s₀.heap.objs.size<=c
 hd:X.calm=true->X.A.handled=none
 frames:X.A.frames=some X.stack
 stk:X.stack=X.outer\/(X.stack=X.env :: X.outer/\X.env.frame=some X.env.locals)
 exf:∀ b∈X.ex,b≠X.env.locals/\∀ x c,X.env.cells.lookup x=some c->c≠b
 bs:∀ b o,X.base.get? b=some o->X.s₀.heap.get? b=some o/\X.H₀ b=none
 bsz:X.base.objs.size<=X.s₀.heap.objs.size
 noex:∀ b o,X.base.get? b=some o->b ∉ X.ex
 exfs:∀ b∈X.ex,b ∉ X.fs
 funs:X.s₀.heap.FunFrames X.base X.outer
 frf:∀ b∈X.fs,X.H₀ b=none
structure Inv (X:Cx) (pins:List (A3×Obj)) (σ : List (Option V)) (H:Hp) (s:A4):Prop where
 ok:X.Ok
 os:s.os=X.s₀.os
 bare:Gq s.gens
 base:Un X.fs X.ex X.H₀ H X.s₀.heap s.heap
 loc:∃ m,s.heap.Ns X.env.locals m/\∀ (i:Nat) (x:Str) (v:V),X.N[i]?=some x -> σ[i]?=some (some v)->Vis X.env.scope x->∃ u,RelV v u/\Look X.env s.heap m x u
 cell:∀ x c,X.env.cells.lookup x=some c->∃ v,s.heap.IsCell c v
 free:H X.env.locals=none
 freeC:∀ x c,X.env.cells.lookup x=some c->H c=none
 pin:∀ p∈X.pn ++ pins,s.heap.get? p.1=some p.2/\H p.1=none/\p.1≠X.env.locals/\p.1 ∉ X.fs/\∀ v,p.2.data ≠ .cell v
 hok:HOk X.prog X.w H s.heap
 len : σ.length=X.N.length
section
variable {X:Cx} {pins:List (A3×Obj)} {σ : List (Option V)} {H H':Hp} {s:A4} {h':Ce}
theorem Cx.Ok.nofr (ok:X.Ok) {b:A3} {o:Obj} (e:X.base.get? b=some o):b ∉ X.fs:=fun hb=>by
 have:=(ok.funs.mem hb).1
 rw [e] at this; cases this
theorem Inv.bs (I:Inv X pins σ H s):∀ b o,X.base.get? b=some o->s.heap.get? b=some o/\H b=none:=fun b o e =>
 ⟨I.base.keep b o (I.ok.bs b o e).1 (I.ok.bs b o e).2 (I.ok.nofr e) (I.ok.noex b o e),I.base.free b o (I.ok.bs b o e).1 (I.ok.bs b o e).2 (I.ok.noex b o e)⟩
theorem Inv.bk (I:Inv X pins σ H s):∀ b o,X.base.get? b=some o->s.heap.get? b=some o:=fun b o e=>(I.bs b o e).1
theorem Inv.mod (I:Inv X pins σ H s):Mod X.K X.mg X.base:=I.ok.mod
theorem Inv.kIn (I:Inv X pins σ H s):X.K.In s.heap:=I.ok.mod.kin.keeps I.bk
theorem Inv.lt (I:Inv X pins σ H s):X.env.locals < s.heap.objs.size:=let ⟨_,hn,_⟩:=I.loc; hn.lt
theorem Inv.sz (I:Inv X pins σ H s):X.s₀.heap.objs.size<=s.heap.objs.size:=Bv I.ok.above (F5 I.lt)
theorem Inv.nofs (I:Inv X pins σ H s) {a:A3} (h:s.heap.objs.size<=a):a ∉ X.fs:=fun hb=>by
 obtain ⟨_,o,ho,_⟩:=I.ok.funs.mem hb
 exact absurd (Ae (Ar ho) (Bv I.sz h)) (Dv _)
theorem Inv.cne (I:Inv X pins σ H s):∀ x c,X.env.cells.lookup x=some c->c≠X.env.locals:=fun x c e z=>by
 obtain ⟨v,o,ho,hd⟩:=I.cell x c e
 obtain ⟨m,⟨o',es,ep,ho',hd',_⟩,_⟩:=I.loc
 rw [z,ho'] at ho; cases ho; rw [hd'] at hd; cases hd
theorem Inv.funs (I:Inv X pins σ H s):s.heap.FunFrames X.base X.outer:=by
 have all:∀ (l:List Env),(∀ b∈frs l,b∈X.fs)->X.s₀.heap.FunFrames X.base l->s.heap.FunFrames X.base l:=by
  intro l
  induction l with
  | nil=>intro _ _; trivial
  | cons env r ih =>
   intro hs hl
   obtain ⟨hk,⟨L,o,hf,hn,ho,hd⟩,hr⟩:=hl
   have hL:L∈X.fs:=hs L (by unfold frs; rw [Iu,hf]; exact Ap)
   obtain ⟨sl,e⟩:=I.base.slot L o ho (I.ok.frf L hL) hL fun z=>I.ok.exfs L z hL
   exact ⟨hk,⟨L,_,hf,hn,e,hd⟩,ih (fun b hb=>hs b (by unfold frs; rw [Iu,hf]; exact Ak _ hb)) hr⟩
 exact all X.outer (fun _ hb=>hb) I.ok.funs
theorem Inv.stack (I:Inv X pins σ H s):s.heap.FunFrames X.base X.stack:=by
 rcases I.ok.stk with e | ⟨e,hf⟩
 ·rw [e]; exact I.funs
 ·rw [e]
  obtain ⟨m,hn,_⟩:=I.loc
  refine .cons (by rw [I.ok.kind]; decide) hf hn ?_ I.funs
  exact Heap.get?_none_of_le (Bv I.ok.bsz I.ok.above)
theorem Inv.stkSub (I:Inv X pins σ H s):∀ b∈frs X.stack,b∈X.env.locals :: X.fs:=fun b hb=>by
 rcases I.ok.stk with e | ⟨e,hf⟩
 ·rw [e] at hb; exact Ak _ hb
 ·rw [e] at hb
  unfold frs at hb
  rw [Iu,hf] at hb
  exact hb
theorem Inv.stkFree (I:Inv X pins σ H s):∀ b∈frs X.stack,H b=none:=fun b hb=>by
 rcases Bc.mp (I.stkSub b hb) with e | hb
 ·rw [e]; exact I.free
 ·obtain ⟨_,o,ho,_⟩:=I.ok.funs.mem hb
  exact I.base.free b o ho (I.ok.frf b hb) fun z=>I.ok.exfs b z hb
theorem Inv.step {g':Array GenState} {t':Nat} {d':Drawn} {ch:List A3} (I:Inv X pins σ H s)
  (hch:∀ b∈ch,(b∈X.ex\/X.s₀.heap.objs.size<=b)/\b≠X.env.locals/\(∀ x c,X.env.cells.lookup x=some c->c≠b)/\∀ p∈X.pn ++ pins,p.1≠b)
  (keep:∀ b o,b≠X.env.locals->b ∉ X.fs->b ∉ ch->s.heap.get? b=some o->H b=none->h'.get? b=some o)
  (slot:∀ b o,b≠X.env.locals->b∈X.fs->b ∉ ch->s.heap.get? b=some o->H b=none->∃ sl,h'.get? b=some { o with slots:=sl }) (free:∀ b o,b ∉ ch->s.heap.get? b=some o->H b=none->H' b=none)
  (there:∀ b o,b ∉ ch->s.heap.get? b=some o->∃ o',h'.get? b=some o')
  (tups:∀ b xs,H b=some (.tup xs)->H' b=some (.tup xs)) (frzs:∀ b o u,H b=some (.frz o u)->H' b=some (.frz o u)) (tbls:∀ b ps,H b=some (.tbl ps)->∃ more,H' b=some (.tbl (ps ++ more)))
  (ns:∀ m,s.heap.Ns X.env.locals m->h'.Ns X.env.locals m) (hok:HOk X.prog X.w H' h') (hg:Gq g') :
  Inv X pins σ H' { s with heap:=h',gens:=g',drawn:=d',toks:=t' }:=by
 have neL:∀ b o,X.s₀.heap.get? b=some o->b≠X.env.locals:=fun b o e=>Bs (Ae (Ar e) I.ok.above)
 have neC:∀ b o,X.s₀.heap.get? b=some o->b ∉ X.ex->b ∉ ch:=fun b o e hx hb=>by
  rcases (hch b hb).1 with z | z
  ·exact hx z
  ·exact absurd (Ae (Ar e) z) (Dv _)
 have cellK:∀ x c,X.env.cells.lookup x=some c->∀ v,s.heap.IsCell c v->h'.IsCell c v:=fun x c e v ⟨o,ho,hd⟩=>by
  have nch:c ∉ ch:=fun z=>(hch c z).2.2.1 x c e rfl
  by_cases hc:c∈X.fs
  ·obtain ⟨sl,q⟩:=slot c o (I.cne x c e) hc nch ho (I.freeC x c e)
   exact ⟨_,q,hd⟩
  ·exact ⟨o,keep c o (I.cne x c e) hc nch ho (I.freeC x c e),hd⟩
 refine ⟨I.ok,I.os,hg,⟨fun b o e n hb hx => ?_,fun b o e n hb hx => ?_,fun b o e n hx => ?_,fun b o e hx => ?_,fun b xs e=>tups b xs (I.base.tups b xs e),fun b o xs e=>frzs b o xs (I.base.frzs b o xs e),fun b ps e => ?_⟩,?_,fun x c e => ?_,?_,fun x c e => ?_,fun p hp => ?_,hok,I.len⟩
 ·exact keep b o (neL b o e) hb (neC b o e hx) (I.base.keep b o e n hb hx) (I.base.free b o e n hx)
 ·obtain ⟨sl,e1⟩:=I.base.slot b o e n hb hx
  obtain ⟨sl',e2⟩:=slot b _ (neL b o e) hb (neC b o e hx) e1 (I.base.free b o e n hx)
  exact ⟨sl',e2⟩
 ·obtain ⟨o',e1⟩:=I.base.there b o e hx
  exact free b o' (neC b o e hx) e1 (I.base.free b o e n hx)
 ·obtain ⟨o',e1⟩:=I.base.there b o e hx
  exact there b o' (neC b o e hx) e1
 ·obtain ⟨m1,e1⟩:=I.base.tbls b ps e
  obtain ⟨m2,e2⟩:=tbls b _ e1
  exact ⟨m1 ++ m2,by rw [e2,Iz]⟩
 ·obtain ⟨m,hn,hl⟩:=I.loc
  refine ⟨m,ns m hn,fun i x v e1 e2 e3 => ?_⟩
  obtain ⟨u,r,l⟩:=hl i x v e1 e2 e3
  refine ⟨u,r,?_⟩
  rcases l with l | ⟨k,c,e,z⟩
  ·exact .inl l
  ·exact .inr ⟨k,c,e,cellK x c e _ z⟩
 ·obtain ⟨v,z⟩:=I.cell x c e
  exact ⟨v,cellK x c e v z⟩
 ·obtain ⟨m,⟨o,_,_,ho,_⟩,_⟩:=I.loc
  exact free _ o (fun z=>(hch _ z).2.1 rfl) ho I.free
 ·obtain ⟨v,o,ho,hd⟩:=I.cell x c e
  exact free c o (fun z=>(hch c z).2.2.1 x c e rfl) ho (I.freeC x c e)
 ·obtain ⟨e,n,ne,nf,d⟩:=I.pin p hp
  have nch:p.1 ∉ ch:=fun z=>(hch p.1 z).2.2.2 p hp rfl
  exact ⟨keep p.1 p.2 ne nf nch e n,free p.1 p.2 nch e n,ne,nf,d⟩
theorem Inv.un {t':Nat} (I:Inv X pins σ H s) (u:Un X.fs [] H H' s.heap h') (hok:HOk X.prog X.w H' h'):Inv X pins σ H' { s with heap:=h',toks:=t' }:=by
 obtain ⟨m,⟨o,es,ep,ho,r⟩,_⟩:=id I.loc
 obtain ⟨sl,hL⟩:=u.any ho I.free (by simp)
 exact I.step (g':=s.gens) (d':=s.drawn) (ch := []) (fun _ z=>nomatch z) (fun b o _ hb _ e n=>u.keep b o e n hb (by simp)) (fun b o _ hb _ e n=>u.slot b o e n hb (by simp)) (fun b o _ e n=>u.free b o e n (by simp)) (fun b o _ e=>u.there b o e (by simp)) u.tups u.frzs u.tbls (fun m' hm=>by
  obtain ⟨o',es',ep',ho',r'⟩:=hm
  rw [ho] at ho'; cases ho'
  exact ⟨_,es',ep',hL,r'⟩) hok I.bare
theorem Inv.call {g':Array GenState} {t':Nat} {d':Drawn} {ch:List A3} (I:Inv X pins σ H s) (u:Un (frs X.stack) ch H H' s.heap h') (hok:HOk X.prog X.w H' h') (hg:Gq g')
  (hch:∀ b∈ch,(b∈X.ex\/X.s₀.heap.objs.size<=b)/\b≠X.env.locals/\(∀ x c,X.env.cells.lookup x=some c->c≠b)/\∀ p∈X.pn ++ pins,p.1≠b) :
  Inv X pins σ H' { s with heap:=h',gens:=g',drawn:=d',toks:=t' }:=by
 obtain ⟨m,⟨o,es,ep,ho,r⟩,_⟩:=id I.loc
 obtain ⟨sl,hL⟩:=u.any ho I.free fun z=>(hch _ z).2.1 rfl
 exact I.step (ch:=ch) hch (fun b o hL hb hc e n=>u.keep b o e n (fun z=>(Bc.mp (I.stkSub b z)).elim hL hb) hc) (fun b o _ _ hc e n=>u.any e n hc) (fun b o hc e n=>u.free b o e n hc) (fun b o hc e=>u.there b o e hc) u.tups u.frzs u.tbls (fun m' hm=>by
  obtain ⟨o',es',ep',ho',r'⟩:=hm
  rw [ho] at ho'; cases ho'
  exact ⟨_,es',ep',hL,r'⟩) hok hg
theorem Inv.turned {t':Nat} {it:A3} (I:Inv X pins σ H s) (k:∀ b o,b≠it->s.heap.get? b=some o->h'.get? b=some o) (hn:H it=none) (hL:it≠X.env.locals)
  (h1:it∈X.ex\/X.s₀.heap.objs.size<=it) (h2:∀ x c,X.env.cells.lookup x=some c->c≠it) (h3:∀ p∈X.pn ++ pins,p.1≠it):Inv X pins σ H { s with heap:=h',toks:=t' }:=by
 have nit:∀ b u,H b=some u->b≠it:=fun b u e z=>by rw [z,hn] at e; cases e
 refine I.step (g':=s.gens) (d':=s.drawn) (ch := [it]) (fun b hb => ?_) (fun b o _ _ hc e _=>k b o (fun z=>hc (by simp [z])) e) (fun b o _ _ hc e _=>⟨o.slots,k b o (fun z=>hc (by simp [z])) e⟩) (fun _ _ _ _ n=>n)
  (fun b o hc e=>⟨o,k b o (fun z=>hc (by simp [z])) e⟩) (fun _ _ e=>e) (fun _ _ _ e=>e) (fun b ps e=>⟨#[],by rw [e]; simp⟩) (fun m hm => ?_) (fun b u e => ?_) I.bare
 ·have e:b=it:=by simpa using hb
  subst e
  exact ⟨h1,hL,h2,h3⟩
 ·obtain ⟨o,es,ep,ho,r⟩:=hm
  exact ⟨o,es,ep,k _ o (Dm hL) ho,r⟩
 ·refine (I.hok b u e).stay (fun c v hc q=>k c v ?_ q) (fun _ q=>q) fun _ _ q=>q
  rcases hc with z | z
  ·rw [z]; exact nit b u e
  ·exact nit c _ z
theorem Inv.tok (I:Inv X pins σ H s) (t:Nat):Inv X pins σ H { s with toks:=t }:=I.un (h':=s.heap) (t':=t) Un.refl I.hok
theorem Inv.kept {t':Nat} (I:Inv X pins σ H s) (k:∀ b u,s.heap.get? b=some u->h'.get? b=some u):Inv X pins σ H { s with heap:=h',toks:=t' }:=I.un (Un.kept k) (I.hok.kept k)
theorem Inv.laid {a:A3} {o:HO} {t':Nat} (I:Inv X pins σ H s) (k:∀ b u,s.heap.get? b=some u->h'.get? b=some u) (hp:s.heap.objs.size<=a) (new:ObjOk X.prog X.w (upd H a o) h' a o) :
  Inv X pins σ (upd H a o) { s with heap:=h',toks:=t' }:=I.un (Un.laid k hp (I.hok.fresh hp)) (I.hok.laid k hp new)
theorem Inv.write {x e:A3} {o:HO} {t':Nat} (I:Inv X pins σ H s) (mu:Mut (H x)) (he:e=x\/H e=some (.own x)) (k:∀ b u,b≠e->s.heap.get? b=some u->h'.get? b=some u) (heo:∃ u,h'.get? e=some u)
  (new:ObjOk X.prog X.w (upd H x o) h' x o):Inv X pins σ (upd H x o) { s with heap:=h',toks:=t' }:=I.un (Un.write mu he k heo) (I.hok.write mu he k heo new)
theorem Inv.pins_of {pins':List (A3×Obj)} (I:Inv X pins σ H s) (h:∀ p∈pins',s.heap.get? p.1=some p.2/\H p.1=none/\p.1≠X.env.locals/\p.1 ∉ X.fs/\∀ v,p.2.data ≠ .cell v):Inv X pins' σ H s :=
 ⟨I.ok,I.os,I.bare,I.base,I.loc,I.cell,I.free,I.freeC,fun p hp=>(An.mp hp).elim (fun z=>I.pin p (C9 _ z)) (h p),I.hok,I.len⟩
theorem zgv {N:List Str} (hN:N.Nodup) {i j:Nat} {x:Str} (a:N[i]?=some x) (b:N[j]?=some x):i=j:=by
 obtain ⟨h1,e1⟩:=Ah.mp a
 obtain ⟨h2,e2⟩:=Ah.mp b
 exact (List.getElem_inj hN).mp (e1.trans e2.symm)
theorem ze6 {M:Jo} {A:Bd} {E:A0->A4->Prop} {i:Nat} {x:Str} {v:V} {u:A0} {Q:Unit->A4->Prop} (I:Inv X pins σ H s) (hN:X.N.Nodup) (hi:X.N[i]?=some x) (hx:Loc X.env.scope x) (r:RelV v u)
  (h:∀ s',Inv X pins (σ.set i (some v)) H s'->(∃ a,G8 a s.heap s'.heap/\(a=X.env.locals\/X.env.cells.lookup x=some a))->Q () s') (hf:X.fn x=true\/X.env.scope.names.lookup x=some .local:=by first | exact .inl rfl | exact .inr rfl | assumption):wpAny M A (storeName X.env x u) Q E s:=by
 obtain ⟨m,hn,hl⟩:=id I.loc
 have hcls:(X.env.scope.kind == .class || (X.env.scope.kind == .module && X.env.locals != X.env.globals))=false:=by rw [I.ok.kind]; rfl
 have hiσ : i < σ.length:=by rw [I.len]; exact (Ah.mp hi).1
 have cne:=I.cne
 have tracked:∀ {a:A3} {h':Ce},(∃ o,s.heap.get? a=some o/\H a=none)->G8 a s.heap h'->HOk X.prog X.w H h':=fun {a h'} ha hs b ob e=>by
  obtain ⟨_,_,hfree⟩:=ha
  refine (I.hok b ob e).stay (fun c w' hc q=>(hs.2 c ?_).trans q) (fun _ q=>q) fun _ _ q=>q
  rintro rfl
  rcases hc with rfl | hc
  ·rw [hfree] at e; cases e
  ·rw [hfree] at hc; cases hc
 rcases hx with hk | hk
 ·refine wpAny_storeName_local hk hn (fun h' hn' hs => ?_) hcls
  obtain ⟨oL,_,_,hoL,_⟩:=id hn
  refine h _ ⟨I.ok,I.os,I.bare,⟨fun b o e n hb hx => ?_,fun b o e n hb hx => ?_,I.base.free,fun b o e hx => ?_,I.base.tups,I.base.frzs,I.base.tbls⟩,⟨_,hn',fun j y v' e1 e2 e3 => ?_⟩,fun y c e => ?_,I.free,I.freeC,fun p hp => ?_,tracked ⟨oL,hoL,I.free⟩ hs,by simpa using I.len⟩ ⟨_,hs,.inl rfl⟩
  ·exact (hs.2 b (Bs (Ae (Ar e) I.ok.above))).trans (I.base.keep b o e n hb hx)
  ·obtain ⟨sl,e1⟩:=I.base.slot b o e n hb hx
   exact ⟨sl,(hs.2 b (Bs (Ae (Ar e) I.ok.above))).trans e1⟩
  ·obtain ⟨o',e1⟩:=I.base.there b o e hx
   exact ⟨o',(hs.2 b (Bs (Ae (Ar e) I.ok.above))).trans e1⟩
  ·by_cases hj:j=i
   ·subst hj
    rw [hi] at e1; cases e1
    rw [La hiσ] at e2
    cases e2
    exact ⟨u,r,.inl ⟨hk,by simp⟩⟩
   ·rw [Lw (Dm hj)] at e2
    obtain ⟨u',r',q⟩:=hl j y v' e1 e2 e3
    refine ⟨u',r',?_⟩
    rcases q with ⟨k,e⟩ | ⟨k,c,e,z⟩
    ·refine .inl ⟨k,?_⟩
     have:y≠x:=fun e=>hj (zgv hN e1 (e ▸ hi))
     simp [this,e]
    ·exact .inr ⟨k,c,e,z.sameBut hs (cne y c e)⟩
  ·obtain ⟨w',z⟩:=I.cell y c e
   exact ⟨w',z.sameBut hs (cne y c e)⟩
  ·obtain ⟨e,n,ne,nf,d⟩:=I.pin p hp
   exact ⟨(hs.2 p.1 ne).trans e,n,ne,nf,d⟩
 ·have hfn:X.fn x=true:=by
   rcases hf with z | z
   ·exact z
   ·rw [z] at hk; cases hk
  obtain ⟨c,hc⟩:=I.ok.has x (.inl hk)
  obtain ⟨w',z⟩:=I.cell x c hc
  refine wpAny_storeName_cell I.ok.kind hk hc z (fun h' hc' hs => ?_)
  obtain ⟨oc,hoc,hocd⟩:=id z
  refine h { s with heap:=h' } ⟨I.ok,I.os,I.bare,⟨fun b o e n hb hx => ?_,fun b o e n hb hx => ?_,I.base.free,fun b o e hx => ?_,I.base.tups,I.base.frzs,I.base.tbls⟩,⟨m,hn.sameBut hs (Dm (cne x c hc)),fun j y v' e1 e2 e3 => ?_⟩,fun y c' e => ?_,I.free,I.freeC,fun p hp => ?_,tracked ⟨oc,hoc,I.freeC x c hc⟩ hs,by simpa using I.len⟩ ⟨c,hs,.inr hc⟩
  ·exact (hs.2 b (Bs (Ae (Ar e) (I.ok.cab x c hfn hc)))).trans (I.base.keep b o e n hb hx)
  ·obtain ⟨sl,e1⟩:=I.base.slot b o e n hb hx
   exact ⟨sl,(hs.2 b (Bs (Ae (Ar e) (I.ok.cab x c hfn hc)))).trans e1⟩
  ·obtain ⟨o',e1⟩:=I.base.there b o e hx
   exact ⟨o',(hs.2 b (Bs (Ae (Ar e) (I.ok.cab x c hfn hc)))).trans e1⟩
  ·by_cases hj:j=i
   ·subst hj
    rw [hi] at e1; cases e1
    rw [La hiσ] at e2
    cases e2
    exact ⟨u,r,.inr ⟨.inl hk,c,hc,hc'⟩⟩
   ·rw [Lw (Dm hj)] at e2
    obtain ⟨u',r',q⟩:=hl j y v' e1 e2 e3
    refine ⟨u',r',?_⟩
    rcases q with q | ⟨k,c',e,z'⟩
    ·exact .inl q
    ·refine .inr ⟨k,c',e,z'.sameBut hs ?_⟩
     rintro rfl
     exact hj (zgv hN e1 (I.ok.inj _ _ _ e hc ▸ hi))
  ·by_cases hcc:c'=c
   ·subst hcc; exact ⟨_,hc'⟩
   ·obtain ⟨w2,z2⟩:=I.cell y c' e
    exact ⟨w2,z2.sameBut hs hcc⟩
  ·obtain ⟨e,n,ne,nf,d⟩:=I.pin p hp
   refine ⟨(hs.2 p.1 ?_).trans e,n,ne,nf,d⟩
   intro q
   rw [q,hoc] at e
   have q':oc=p.2:=C4 e
   exact d w' (by rw [<- q']; exact hocd)
theorem zgd {M:Jo} {A:Bd} {E:A0->A4->Prop} {i:Nat} {x:Str} {v:V} {u:A0} {Q:Unit->A4->Prop} (I:Inv X pins σ H s) (hN:X.N.Nodup) (hi:X.N[i]?=some x) (hx:Loc X.env.scope x) (r:RelV v u)
  (h:∀ s',Inv X pins (σ.set i (some v)) H s'->Q () s') (hf:X.fn x=true\/X.env.scope.names.lookup x=some .local:=by first | exact .inl rfl | exact .inr rfl | assumption):wpAny M A (storeName X.env x u) Q E s :=
 ze6 I hN hi hx r (fun s' I' _=>h s' I') hf
theorem Inv.call' {s':A4} {ch:List A3} (I:Inv X pins σ H s) (ho:s'.os=s.os) (u:Un (frs X.stack) ch H H' s.heap s'.heap) (hok:HOk X.prog X.w H' s'.heap) (hg:Gq s'.gens)
  (hch:∀ b∈ch,(b∈X.ex\/X.s₀.heap.objs.size<=b)/\b≠X.env.locals/\(∀ x c,X.env.cells.lookup x=some c->c≠b)/\∀ p∈X.pn ++ pins,p.1≠b):Inv X pins σ H' s':=by
 obtain ⟨h',g',d',t',o'⟩:=s'
 have e:o'=s.os:=ho
 subst e
 exact I.call (g':=g') (t':=t') (d':=d') u hok hg hch
end
noncomputable abbrev XK:=A0->Option A3->Hp->Prop
noncomputable abbrev St:=List (Option V)
noncomputable abbrev VK:=V->Hp->Prop
noncomputable abbrev TE:=St->Hp->VK->Prop
noncomputable abbrev TT:=St->Hp->(Bool->Hp->Prop)->Prop
noncomputable abbrev TA:=St->Hp->(List V->Hp->Prop)->Prop
structure Ends where
 nx:St->Hp->Prop
 rt:VK
 bk:St->Hp->Prop:=fun _ _=>False
 ct:St->Hp->Prop:=fun _ _=>False
noncomputable abbrev TS:=Ends->St->Hp->Prop
noncomputable def EP (X:Cx) (pins:List (A3×Obj)) (σ : St) (Q:VK) (u:A0) (s':A4):Prop:=∃ v H',Inv X pins σ H' s'/\RelV v u/\Q v H'
noncomputable def TP (X:Cx) (pins:List (A3×Obj)) (σ : St) (Q:Bool->Hp->Prop) (b:Bool) (s':A4):Prop:=∃ H',Inv X pins σ H' s'/\Q b H'
noncomputable def AP (X:Cx) (pins:List (A3×Obj)) (σ : St) (Q:List V->Hp->Prop) (us:List A0) (s':A4):Prop:=∃ vs H',Inv X pins σ H' s'/\Vals vs us/\Q vs H'
noncomputable def SP (X:Cx) (pins:List (A3×Obj)) (D:Ends) (f:Flow) (s':A4):Prop :=
 match f with
 | .next=>∃ σ' H',Inv X pins σ' H' s'/\D.nx σ' H'
 | .brk=>∃ σ' H',Inv X pins σ' H' s'/\D.bk σ' H'
 | .cont=>∃ σ' H',Inv X pins σ' H' s'/\D.ct σ' H'
 | .ret u=>∃ v σ' H',Inv X pins σ' H' s'/\RelV v u/\D.rt v H'
noncomputable def PE (X:Cx) (e:Cc) (t:TE):Prop :=
 ∀ (pins:List (A3×Obj)) (s:A4) (σ : St) (H:Hp) (Q:VK),Inv X pins σ H s->t σ H Q->wpAny (model X.prog X.w) X.A (eval e X.env) (EP X pins σ Q) X.xe s
noncomputable def PT (X:Cx) (e:Cc) (t:TT):Prop :=
 ∀ (pins:List (A3×Obj)) (s:A4) (σ : St) (H:Hp) (Q:Bool->Hp->Prop),Inv X pins σ H s->t σ H Q->wpAny (model X.prog X.w) X.A (isTrue e X.env (eval e X.env)) (TP X pins σ Q) X.xe s
noncomputable def PW (X:Cx) (e:Cc) (t:TT):Prop :=
 ∀ (whole:Sem A0) (pins:List (A3×Obj)) (s:A4) (σ : St) (H:Hp) (Q:Bool->Hp->Prop),Inv X pins σ H s->t σ H Q->wpAny (model X.prog X.w) X.A (isTrue e X.env whole) (TP X pins σ Q) X.xe s
theorem PW.pt {X:Cx} {e:Cc} {t:TT} (h:PW X e t):PT X e t:=h _
noncomputable def PA (X:Cx) (es:List Cc) (t:TA):Prop :=
 ∀ (pos:Pos) (pins:List (A3×Obj)) (s:A4) (σ : St) (H:Hp) (Q:List V->Hp->Prop),Inv X pins σ H s->t σ H Q->wpAny (model X.prog X.w) X.A (spliced (backTo pos (starEach es X.env))) (AP X pins σ Q) X.xe s
noncomputable def PS (X:Cx) (st:Cd) (t:TS):Prop :=
 ∀ (pins:List (A3×Obj)) (s:A4) (σ : St) (H:Hp) (D:Ends),Inv X pins σ H s->t D σ H->wpAny (model X.prog X.w) X.A (exec st X.env) (SP X pins D) X.xe s
noncomputable def PSs (X:Cx) (st:List Cd) (t:TS):Prop :=
 ∀ (pins:List (A3×Obj)) (s:A4) (σ : St) (H:Hp) (D:Ends),Inv X pins σ H s->t D σ H->wpAny (model X.prog X.w) X.A (execs st X.env) (SP X pins D) X.xe s
theorem thn {α : Type} {t:Sem α} {Q Q' : α -> A4->Prop} {M:Jo} {A:Bd} {E:A0->A4->Prop} {s:A4} (h:wpAny M A t Q E s) (hQ:∀ a s,Q a s->Q' a s):wpAny M A t Q' E s:=Dq h hQ fun _ _ x=>x
theorem thnE {α β : Type} {Rl : β -> α -> Prop} {X:Cx} {pins:List (A3×Obj)} {σ : St} {R : β -> Hp->Prop} {t:Sem α} {Q' : α -> A4->Prop} {M:Jo} {A:Bd} {E:A0->A4->Prop} {s:A4} (h:wpAny M A t (fun u s'=>∃ v H',Inv X pins σ H' s'/\Rl v u/\R v H') E s) (k:∀ u s' v H',Inv X pins σ H' s'->Rl v u->R v H'->Q' u s'):wpAny M A t Q' E s:=Dq h (fun u s' z=>by
 obtain ⟨v,H',I,r,q⟩:=z
 exact k u s' v H' I r q) fun _ _ x=>x
section
variable {X:Cx}
noncomputable def tVar (i:Nat):TE:=fun σ H Q=>∃ v,σ[i]?=some (some v)/\Q v H
noncomputable def tC (v:V):TE:=fun _ H Q=>Q v H
theorem pe_var {i:Nat} {x:Str} {pos:Pos} (hN:X.N[i]?=some x) (hv:Vis X.env.scope x) (hd:(x == ("__debug__" : Str))=false:=by decide) (hcd:(x == ("__classdict__" : Str))=false:=by decide):PE X (.Name x pos) (tVar i):=by
 intro pins s σ H Q I h
 obtain ⟨v,e,h⟩:=h
 obtain ⟨m,hn,hl⟩:=I.loc
 obtain ⟨u,r,l⟩:=hl i x v hN e hv
 have fin:EP X pins σ Q u s:=⟨v,H,I,r,h⟩
 rcases l with ⟨hk,hm⟩ | ⟨hk,c,hc,hcell⟩
 ·exact Nh (wpAny_loadName_local I.ok.kind hk hn hm fin) hd
 ·rcases hk with hk | hk
  ·exact Nh (wpAny_loadName_cell I.ok.kind hk hc hcell fin) hd
  ·exact Nh (wpAny_loadName_free I.ok.kind hk hc hcell fin hcd) hd
theorem zac {i j pos}:PE X (.Constant (.int i) j pos) (tC (.int i)):=fun _ _ _ H _ I h=>wpAny_Constant_int ⟨.int i,H,I.tok _,⟨_,rfl⟩,h⟩
theorem zbJ {b j pos}:PE X (.Constant (.bool b) j pos) (tC (.bl b)):=fun _ _ _ H _ I h=>Constant_bool ⟨.bl b,H,I,rfl,h⟩
theorem zhW {j pos}:PE X (.Constant .none j pos) (tC .non):=fun _ _ _ H _ I h=>Constant_none ⟨.non,H,I,rfl,h⟩
theorem zaP {x j pos}:PE X (.Constant (.str x) j pos) (tC (.str x)):=fun _ _ _ H _ I h=>Calls.Constant_str ⟨.str x,H,I.tok _,⟨_,rfl⟩,h⟩
noncomputable def Gl (X:Cx) (x:Str):Prop:=X.env.kindOf x=some .globalImplicit
theorem zeQ {E:A0->A4->Prop} {pins:List (A3×Obj)} {s:A4} {σ : St} {H:Hp} {x:Str} {u:A0} {pos:Pos} {Q:A0->A4->Prop} (I:Inv X pins σ H s) (hg:Gl X x) (hm:X.mg x=some u) (h:Q u s)
  (hd:(x == ("__debug__" : Str))=false:=by decide):wpAny (model X.prog X.w) X.A (eval (.Name x pos) X.env) Q E s :=
 K3 I.ok.kind hg (Calls.loadGlobal_global (by rw [I.ok.glob]; exact I.mod.glob.keeps I.bk) hm h) hd
theorem zfk {E:A0->A4->Prop} {pins:List (A3×Obj)} {s:A4} {σ : St} {H:Hp} {x:Str} {u:A0} {pos:Pos} {Q:A0->A4->Prop} (I:Inv X pins σ H s) (hg:Gl X x) (hm:X.mg x=none) (hv:bootBuiltins x=some u) (h:Q u s)
  (hn:x ≠ "__name__" := by decide) (hd:(x == ("__debug__" : Str))=false:=by decide):wpAny (model X.prog X.w) X.A (eval (.Name x pos) X.env) Q E s:=by
 obtain ⟨mb,h1,h2⟩:=I.mod.blt
 exact K3 I.ok.kind hg (Calls.loadGlobal_builtin (by rw [I.ok.glob]; exact I.mod.glob.keeps I.bk) hm (by rw [I.ok.blt]; exact h1.keeps I.bk) ((h2 x hn).trans hv) h) hd
theorem zhg {x:Str} {v:V} {u:A0} {pos:Pos} (hg:Gl X x) (hm:X.mg x=some u) (r:RelV v u) (hd:(x == ("__debug__" : Str))=false:=by decide):PE X (.Name x pos) (tC v) :=
 fun _ _ _ H _ I h=>zeQ I hg hm ⟨v,H,I,r,h⟩ hd
theorem zcu {x:Str} {v:V} {u:A0} {pos:Pos} (hg:Gl X x) (hm:X.mg x=none) (hv:bootBuiltins x=some u) (r:RelV v u) (hn:x ≠ "__name__" := by decide) (hd:(x == ("__debug__" : Str))=false:=by decide):PE X (.Name x pos) (tC v) :=
 fun _ _ _ H _ I h=>zfk I hg hm hv ⟨v,H,I,r,h⟩ hn hd
variable {a b:Cc} {ta tb:TE} {pos:Pos}
noncomputable def PC (X:Cx) (op:Ha) (a b:Cc) (t:TE):Prop :=
 ∀ (pins:List (A3×Obj)) (s:A4) (σ : St) (H:Hp) (Q:VK),Inv X pins σ H s->t σ H Q ->
  wpAny (model X.prog X.w) X.A (eval a X.env) (fun v s₁ => wpAny (model X.prog X.w) X.A (eval b X.env) (fun u s₂ => wpAny (model X.prog X.w) X.A (compareOp op v u) (EP X pins σ Q) X.xe s₂) X.xe s₁) X.xe s
noncomputable def tB (t:TE):TT:=fun σ H Q=>t σ H fun x H1=>∃ c,x = .bl c/\Q c H1
theorem pe_cmp {op:Ha} {t:TE} (h:PC X op a b t) (h1:behindInMarks op b=false:=by first | exact nobehind _ (by decide) (by decide) | rfl):PE X (.Compare a [op] [b] pos) t:=fun pins s σ H Q I hw=>P6 (h pins s σ H Q I hw) h1
theorem zfd {op:Ha} {t:TE} (h:PC X op a b t) (h1:behindInMarks op b=false:=by first | exact nobehind _ (by decide) (by decide) | rfl):PT X (.Compare a [op] [b] pos) (tB t):=by
 intro pins s σ H Q I hw
 refine Mm (thn (h pins s σ H _ I hw) fun v s1 h1=>thn h1 fun u s2 h2=>thn h2 fun c s3 ⟨x,H1,I1,r1,q1⟩ => ?_) h1
 obtain ⟨d,rfl,q⟩:=q1
 cases r1
 exact Dp ⟨H1,I1,q⟩
theorem zbl {e:Cc} {t:TE} (h:PE X e t) (he:∀ whole,isTrue e X.env whole=(do let v <- whole; standAt e.pos; holding [v] (truthy v)):=by intro _; rfl):PT X e (tB t):=by
 intro pins s σ H Q I hw
 refine isTrue_plain (thnE (h pins s σ H _ I hw) fun v s1 x H1 I1 r1 q1 => ?_) (he _)
 obtain ⟨d,rfl,q⟩:=q1
 cases r1
 exact Dp ⟨H1,I1,q⟩
variable {tA tB':TT} {rest:List Cc}
noncomputable def tAnd (t u:TT):TT:=fun σ H Q=>t σ H fun c H1=>if c=true then u σ H1 Q else Q false H1
noncomputable def tOr (t u:TT):TT:=fun σ H Q=>t σ H fun c H1=>if c=true then Q true H1 else u σ H1 Q
noncomputable def tNot (t:TT):TT:=fun σ H Q=>t σ H fun c H1=>Q (!c) H1
theorem zfK (ha:PT X a tA):PW X (.BoolOp .And [a] pos) tA:=by
 intro wh pins s σ H Q I h
 refine isTrue_and (thn (ha pins s σ H Q I h) fun c s1 e => ?_)
 cases c with
 | true=>exact isTrue_and_nil e
 | false=>exact e
theorem zdF (ha:PT X a tA):PW X (.BoolOp .Or [a] pos) tA:=by
 intro wh pins s σ H Q I h
 refine isTrue_or (thn (ha pins s σ H Q I h) fun c s1 e => ?_)
 cases c with
 | false=>exact isTrue_or_nil e
 | true=>exact e
theorem zhd (ha:PT X a tA) (hb:PW X (.BoolOp .And (b :: rest) pos) tB'):PW X (.BoolOp .And (a :: b :: rest) pos) (tAnd tA tB'):=by
 intro wh pins s σ H Q I h
 refine isTrue_and (thn (ha pins s σ H _ I h) fun c s1 ⟨H1,I1,q1⟩ => ?_)
 cases c with
 | true=>exact hb wh pins s1 σ H1 Q I1 q1
 | false=>exact ⟨H1,I1,q1⟩
theorem zfJ (ha:PT X a tA) (hb:PW X (.BoolOp .Or (b :: rest) pos) tB'):PW X (.BoolOp .Or (a :: b :: rest) pos) (tOr tA tB'):=by
 intro wh pins s σ H Q I h
 refine isTrue_or (thn (ha pins s σ H _ I h) fun c s1 ⟨H1,I1,q1⟩ => ?_)
 cases c with
 | true=>exact ⟨H1,I1,q1⟩
 | false=>exact hb wh pins s1 σ H1 Q I1 q1
theorem za8 (ha:PT X a tA):PT X (.UnaryOp .Not a pos) (tNot tA):=by
 intro pins s σ H Q I h
 exact isTrue_not (ha pins s σ H (fun c H1=>Q (!c) H1) I h)
noncomputable def tAndV (ta tb:TE):TE:=fun σ H Q=>ta σ H fun x H1=>∃ c,x = .bl c/\if c=true then tb σ H1 Q else Q (.bl false) H1
noncomputable def tNotV (ta:TE):TE:=fun σ H Q=>ta σ H fun x H1=>∃ c,x = .bl c/\Q (.bl (!c)) H1
theorem zhf {op} {t:TE} (h:PE X a t):PE X (.BoolOp op [a] pos) t:=fun pins s σ H Q I hw=>BoolOp_one (h pins s σ H Q I hw)
theorem zhi (ha:PE X a ta) (hb:PE X (.BoolOp .And (b :: rest) pos) tb):PE X (.BoolOp .And (a :: b :: rest) pos) (tAndV ta tb):=by
 intro pins s σ H Q I h
 refine BoolOp_and (thnE (ha pins s σ H _ I h) fun v s1 x H1 I1 r1 q1 => ?_)
 obtain ⟨c,rfl,q1⟩:=q1
 cases r1
 refine Dp ?_
 cases c with
 | true=>exact hb pins s1 σ H1 Q I1 q1
 | false=>exact ⟨.bl false,H1,I1,rfl,q1⟩
theorem pe_not (ha:PE X a ta):PE X (.UnaryOp .Not a pos) (tNotV ta):=by
 intro pins s σ H Q I h
 refine UnaryOp_ (thnE (ha pins s σ H _ I h) fun v s1 x H1 I1 r1 q1 => ?_)
 obtain ⟨c,rfl,q1⟩:=q1
 cases r1
 exact not_of (Dp ⟨.bl (!c),H1,I1,rfl,q1⟩)
noncomputable def tIf (t:TT) (ta tb:TE):TE:=fun σ H Q=>t σ H fun c H1=>if c=true then ta σ H1 Q else tb σ H1 Q
theorem pe_ifExp {c:Cc} (hc:PT X c tA) (ha:PE X a ta) (hb:PE X b tb):PE X (.IfExp c a b pos) (tIf tA ta tb):=by
 intro pins s σ H Q I h
 refine wpAny_IfExp (thn (hc pins s σ H _ I h) fun d s1 ⟨H1,I1,q1⟩ => ?_)
 cases d with
 | true=>exact ha pins s1 σ H1 Q I1 q1
 | false=>exact hb pins s1 σ H1 Q I1 q1
end
noncomputable def SqL (K:At) (H:Hp) (a:A3) (xs:List V):Prop :=
 Rd H a (.lst xs) \/
  ∃ (o:Obj) (its:Array A0) (n:Nat),K.lookup a=some o/\o.cls = .type "list" /\ o.dict=none/\o.data = .seq its n/\its.size<=sizeLine/\Vals xs its.toList
noncomputable def SqT (K:At) (H:Hp) (a:A3) (xs:List V):Prop :=
 Rd H a (.tup xs) \/
  ∃ (o:Obj) (its:Array A0) (n:Nat),K.lookup a=some o/\o.cls = .type "tuple" /\ o.data = .seq its n/\its.size<=sizeLine/\Vals xs its.toList
noncomputable def absV:A0->Option V
 | .none=>some .non
 | .bool b=>some (.bl b)
 | .int i _=>some (.int i)
 | .str x _=>some (.str x)
 | .bytes b _=>some (.byt b)
 | .float b _=>some (.flt b)
 | .ref a=>some (.ref a)
 | .type n=>some (.ty n)
 | _=>none
theorem RelV.abs {x:V} {u:A0} (r:RelV x u):absV u=some x:=by
 cases x with
 | non=>cases r; rfl
 | bl _=>cases r; rfl
 | int _=>obtain ⟨t,rfl⟩:=r; rfl
 | str _=>obtain ⟨t,rfl⟩:=r; rfl
 | byt _=>obtain ⟨t,rfl⟩:=r; rfl
 | flt _=>obtain ⟨t,rfl⟩:=r; rfl
 | ref _=>cases r; rfl
 | ty _=>cases r; rfl
theorem RelV.inj {x y:V} {u:A0} (r:RelV x u) (q:RelV y u):x=y:=C4 (r.abs.symm.trans q.abs)
theorem Vals.inj:∀ {xs ys:List V} {us:List A0},Vals xs us->Vals ys us->xs=ys
 | _,_,_,.nil,.nil=>rfl
 | _,_,_,.cons r t,.cons r' t'=>by rw [r.inj r',Vals.inj t t']
section
variable {X:Cx} {pins:List (A3×Obj)} {σ : St} {H:Hp} {s:A4} {a:A3} {xs ys:List V}
theorem SqL.of {K:At} (h:H a=some (.lst xs)):SqL K H a xs := .inl (.inl h)
theorem SqT.of {K:At} (h:H a=some (.tup xs)):SqT K H a xs := .inl (.inl h)
theorem Inv.list (I:Inv X pins σ H s) (h:SqL X.K H a xs):∃ its:List A0,Vals xs its/\PlainL s.heap a its.toArray/\xs.length<=sizeLine:=by
 rcases h with h | ⟨o,its,n,hk,hc,hd,hs,hz,r⟩
 ·obtain ⟨z,its,n,r,e⟩:=h.ok I.hok
  exact ⟨its,r,⟨_,n,e,rfl,rfl,rfl⟩,z⟩
 ·refine ⟨its.toList,r,⟨o,n,I.kIn a o hk,hc,hd,by simpa using hs⟩,?_⟩
  have e:=r.length
  simp only [B7] at e
  omega
theorem Inv.tuple (I:Inv X pins σ H s) (h:SqT X.K H a xs):∃ its:List A0,Vals xs its/\IsTup s.heap a its.toArray/\xs.length<=sizeLine:=by
 rcases h with h | ⟨o,its,n,hk,hc,hs,hz,r⟩
 ·obtain ⟨z,its,r,p⟩:=h.ok I.hok
  exact ⟨its,r,p,z⟩
 ·refine ⟨its.toList,r,⟨o,I.kIn a o hk,hc,n,by simpa using hs⟩,?_⟩
  have e:=r.length
  simp only [B7] at e
  omega
theorem Inv.list_inj (I:Inv X pins σ H s) (h:SqL X.K H a xs) (h':SqL X.K H a ys):xs=ys:=by
 obtain ⟨its,r,⟨o,n,e,_,_,d⟩,_⟩:=I.list h
 obtain ⟨its',r',⟨o',n',e',_,_,d'⟩,_⟩:=I.list h'
 rw [e] at e'; cases e'
 rw [d] at d'
 injection d' with d1 _
 have:its=its':=by simpa using congrArg Np d1
 subst this
 exact r.inj r'
end
noncomputable abbrev Cx.wish (X:Cx) (E:A0->A4->Prop):Cx:={ X with xe:=E }
noncomputable abbrev Cx.nox (X:Cx):Cx:=X.wish fun _ _=>False
theorem Cx.Ok.wish {X:Cx} (ok:X.Ok) (E:A0->A4->Prop):(X.wish E).Ok :=
 ⟨ok.mod,ok.kind,ok.glob,ok.blt,ok.above,ok.inj,ok.has,ok.cab,ok.hd,ok.frames,ok.stk,ok.exf,ok.bs,ok.bsz,ok.noex,ok.exfs,ok.funs,ok.frf⟩
theorem Cx.Ok.unwish {X:Cx} {E:A0->A4->Prop} (ok:(X.wish E).Ok):X.Ok :=
 ⟨ok.mod,ok.kind,ok.glob,ok.blt,ok.above,ok.inj,ok.has,ok.cab,ok.hd,ok.frames,ok.stk,ok.exf,ok.bs,ok.bsz,ok.noex,ok.exfs,ok.funs,ok.frf⟩
section
variable {X:Cx} {pins:List (A3×Obj)} {σ : St} {H:Hp} {s:A4} {E:A0->A4->Prop}
theorem Inv.wish (I:Inv X pins σ H s) (E:A0->A4->Prop):Inv (X.wish E) pins σ H s:=⟨I.ok.wish E,I.os,I.bare,I.base,I.loc,I.cell,I.free,I.freeC,I.pin,I.hok,I.len⟩
theorem Inv.unwish (I:Inv (X.wish E) pins σ H s):Inv X pins σ H s:=⟨I.ok.unwish,I.os,I.bare,I.base,I.loc,I.cell,I.free,I.freeC,I.pin,I.hok,I.len⟩
theorem SP.unwish {D:Ends} {f:Flow} {s':A4} (h:SP (X.wish E) pins D f s'):SP X pins D f s':=by
 cases f with
 | next=>obtain ⟨σ',H',I,q⟩:=h; exact ⟨σ',H',I.unwish,q⟩
 | brk=>obtain ⟨σ',H',I,q⟩:=h; exact ⟨σ',H',I.unwish,q⟩
 | cont=>obtain ⟨σ',H',I,q⟩:=h; exact ⟨σ',H',I.unwish,q⟩
 | ret u=>obtain ⟨v,σ',H',I,r,q⟩:=h; exact ⟨v,σ',H',I.unwish,r,q⟩
theorem PSs.nox {st:List Cd} {t:TS} (h:PSs X.nox st t):PSs X st t:=fun pins s σ H D I hw =>
 Dq (h pins s σ H D (I.wish _) hw) (fun _ _ q=>q.unwish) fun _ _ z=>E7 z
end
section
variable {X:Cx} {st:Cd} {rest:List Cd} {t u:TS} {e:Cc} {te:TE} {pos:Pos}
noncomputable def tNext:TS:=fun D σ H=>D.nx σ H
noncomputable def tSeq (t u:TS):TS:=fun D σ H=>t { D with nx:=u D } σ H
theorem zan:PSs X [] tNext:=fun _ _ σ H _ I h=>Iq ⟨σ,H,I,h⟩
theorem zab (h1:PS X st t) (h2:PSs X rest u):PSs X (st :: rest) (tSeq t u):=by
 intro pins s σ H D I h
 refine Kc (thn (h1 pins s σ H { D with nx:=u D } I h) fun f s1 q => ?_)
 cases f with
 | next =>
  obtain ⟨σ',H',I',q⟩:=q
  exact h2 pins s1 σ' H' D I' q
 | ret v=>exact q
 | brk=>exact q
 | cont=>exact q
theorem zae (h1:PS X st t):PSs X [st] t:=by
 intro pins s σ H D I h
 refine Kc (thn (h1 pins s σ H D I h) fun f s1 q => ?_)
 cases f with
 | next=>exact Iq q
 | ret v=>exact q
 | brk=>exact q
 | cont=>exact q
theorem Inv.quiet {pins:List (A3×Obj)} {σ : St} {H:Hp} {s:A4} (I:Inv X pins σ H s):interactive X.env=false:=by simp [interactive,I.ok.kind]
noncomputable def tDrop (te:TE):TS:=fun D σ H=>te σ H fun _ H1=>D.nx σ H1
theorem zaJ (he:PE X e te) (hs:swapsWith e none pos.line X.env=pure false:=by rfl):PS X (.Expr e pos) (tDrop te):=by
 intro pins s σ H D I h
 exact wpAny_Expr_any (thnE (he pins s σ H _ I h) fun v s1 x H1 I1 r1 q1=>⟨σ,H1,I1,q1⟩) I.quiet hs
noncomputable def tRet (te:TE):TS:=fun D σ H=>te σ H D.rt
theorem zai (he:PE X e te):PS X (.Return (some e) pos) (tRet te):=by
 intro pins s σ H D I h
 exact wpAny_Return_some (thnE (he pins s σ H _ I h) fun v s1 x H1 I1 r1 q1=>⟨x,σ,H1,I1,r1,q1⟩)
noncomputable def tIfS (c:TT) (t u:TS):TS:=fun D σ H=>c σ H fun b H1=>if b=true then t D σ H1 else u D σ H1
theorem zaF {c:Cc} {a b:List Cd} {tc:TT} (hc:PT X c tc) (ha:PSs X a t) (hb:PSs X b u):PS X (.If c a b pos) (tIfS tc t u):=by
 intro pins s σ H D I h
 refine wpAny_If (thn (hc pins s σ H _ I h) fun d s1 ⟨H1,I1,q1⟩ => ?_)
 cases d with
 | true=>exact ha pins s1 σ H1 D I1 q1
 | false=>exact hb pins s1 σ H1 D I1 q1
end
noncomputable abbrev TG:=V->St->Hp->(St->Hp->Prop)->Prop
noncomputable abbrev TGs:=List V->St->Hp->(St->Hp->Prop)->Prop
noncomputable def PG (X:Cx) (target:Cc) (t:TG):Prop :=
 ∀ (pins:List (A3×Obj)) (s:A4) (σ : St) (H:Hp) (v:V) (u:A0) (Q:St->Hp->Prop),Inv X pins σ H s->RelV v u->t v σ H Q ->
  wpAny (model X.prog X.w) X.A (assign target X.env u) (fun _ s'=>∃ σ' H',Inv X pins σ' H' s'/\Q σ' H') X.xe s
noncomputable def PGs (X:Cx) (ts:List Cc) (t:TGs):Prop :=
 ∀ (pins:List (A3×Obj)) (s:A4) (σ : St) (H:Hp) (vs:List V) (us:List A0) (Q:St->Hp->Prop),Inv X pins σ H s->Vals vs us->t vs σ H Q ->
  wpAny (model X.prog X.w) X.A (assignInOrder ((assignEach ts X.env).map (·.2)) us) (fun _ s'=>∃ σ' H',Inv X pins σ' H' s'/\Q σ' H') X.xe s
noncomputable abbrev TSet:=V->V->V->Hp->(Hp->Prop)->Prop
noncomputable def PSet (X:Cx) (t:TSet):Prop :=
 ∀ (pins:List (A3×Obj)) (s:A4) (σ : St) (H:Hp) (o i v:V) (ov iv u:A0) (Q:Hp->Prop),Inv X pins σ H s->RelV o ov->RelV i iv->RelV v u->t o i v H Q ->
  wpAny (model X.prog X.w) X.A (setItem ov iv u) (fun _ s'=>∃ H',Inv X pins σ H' s'/\Q H') X.xe s
section
variable {X:Cx} {pos:Pos}
noncomputable def gName (i:Nat):TG:=fun v σ H Q=>Q (σ.set i (some v)) H
theorem zak {i:Nat} {x:Str} (hN:X.N.Nodup) (hi:X.N[i]?=some x) (hx:Loc X.env.scope x) (hf:X.fn x=true\/X.env.scope.names.lookup x=some .local:=by first | exact .inl rfl | exact .inr rfl | assumption):PG X (.Name x pos) (gName i):=by
 intro pins s σ H v u Q I r h
 exact Nr (zgd I hN hi hx r (fun s' I'=>⟨_,H,I',h⟩) hf)
noncomputable def gNil:TGs:=fun vs σ H Q=>vs = []/\Q σ H
noncomputable def gCons (t:TG) (u:TGs):TGs:=fun vs σ H Q=>∃ v r,vs=v :: r/\t v σ H fun σ' H'=>u r σ' H' Q
theorem zcs:PGs X [] gNil:=by
 intro pins s σ H vs us Q I r h
 obtain ⟨e,h⟩:=h
 subst e
 cases r
 exact assignInOrder_nil ⟨σ,H,I,h⟩
theorem zaX {e:Cc} {es:List Cc} {t:TG} {u:TGs} (h1:PG X e t) (h2:PGs X es u)
  (hs:(assignEach (e :: es) X.env).map (·.2)=assign e X.env :: (assignEach es X.env).map (·.2):=by rfl):PGs X (e :: es) (gCons t u):=by
 intro pins s σ H vs us Q I r h
 obtain ⟨v,vr,e1,h⟩:=h
 subst e1
 cases r with
 | cons r rr =>
  rw [hs]
  refine assignInOrder_cons (thn (h1 pins s σ H _ _ _ I r h) fun _ s1 ⟨σ1,H1,I1,q1⟩ => ?_)
  exact h2 pins s1 σ1 H1 _ _ Q I1 rr q1
noncomputable def gTup (K:At) (n:Nat) (t:TGs):TG:=fun v σ H Q=>∃ a xs,v = .ref a/\SqT K H a xs/\xs.length=n/\t xs σ H Q
theorem zhe {es:List Cc} {k:Nat} {t:TGs} {n:Nat} (hc:X.calm=true) (h:PGs X es t)
  (hn:(assignEach es X.env).length=n:=by rfl) (hst:(assignEach es X.env).findIdx? (·.1)=none:=by rfl):PG X (.Tuple es k pos) (gTup X.K n t):=by
 intro pins s σ H v u Q I r hw
 obtain ⟨a,xs,e1,hq,hl,hw⟩:=hw
 subst e1
 cases r
 obtain ⟨its,rv,ht,hz⟩:=I.tuple hq
 refine assign_Tuple_tuple (I.ok.hd hc) ht (by simp [hn,<- hl,rv.length]) hst fun h' hx => ?_
 have I1:Inv X pins σ H { s with heap:=h' }:=I.kept (t':=s.toks) fun b o e=>hx b o (Bs (Ar e)) e
 exact h pins _ σ H xs _ Q I1 (by simpa using rv) hw
noncomputable def gSub (to ti:TE) (t:TSet):TG:=fun v σ H Q=>to σ H fun o H1=>ti σ H1 fun i H2=>t o i v H2 fun H3=>Q σ H3
theorem zhV {o i:Cc} {to ti:TE} {t:TSet} (ho:PE X o to) (hi:PE X i ti) (hs:PSet X t)
  (ha:∀ v,assign (.Subscript o i pos) X.env v=(do
   let ov <- holding [v] (eval o X.env)
   let iv <- holding [v,ov] (eval i X.env)
   standAt pos
   holding [v,ov,iv] (setItem ov iv v)
   release [v,ov,iv] []):=by intro _; rfl):PG X (.Subscript o i pos) (gSub to ti t):=by
 intro pins s σ H v u Q I r h
 rw [ha]
 refine A6 (Ex (thnE (ho pins s σ H _ I h) fun ov s1 x H1 I1 r1 q1 => ?_))
 refine A6 (Ex (thnE (hi pins s1 σ H1 _ I1 q1) fun iv s2 y H2 I2 r2 q2 => ?_))
 refine A6 (Jm (A6 (Ex (thn (hs pins s2 σ H2 x y v ov iv u _ I2 r1 r2 r q2) fun _ s3 ⟨H3,I3,q3⟩ => ?_))))
 exact wpAny_release ⟨σ,H3,I3,q3⟩
noncomputable def tAsg (te:TE) (g:TG):TS:=fun D σ H=>te σ H fun x H1=>g x σ H1 D.nx
theorem zhT {tg e:Cc} {te:TE} {g:TG} (he:PE X e te) (hg:PG X tg g) (hs:swapsWithSole [tg] e pos.line X.env=pure false:=by rfl) (hw:swappedStores [tg] e X.env=pure none:=by rfl)
  (h1:(assignEach [tg] X.env).map (·.2) = [assign tg X.env]:=by rfl):PS X (.Assign [tg] e pos) (tAsg te g):=by
 intro pins s σ H D I h
 refine wpAny_Assign_stores (thnE (he pins s σ H _ I h) fun v s1 x H1 I1 r1 q1 => ?_) hs hw
 rw [h1]
 exact thn (hg pins s1 σ H1 x v _ I1 r1 q1) fun _ s2 q=>q
theorem zah {i:Nat} {x:Str} {e:Cc} {te:TE} {pos':Pos} (hN:X.N.Nodup) (hi:X.N[i]?=some x) (hx:Loc X.env.scope x) (he:PE X e te) (hs:swapsWith e (some (.Name x pos')) pos.line X.env=pure false:=by rfl) (hf:X.fn x=true\/X.env.scope.names.lookup x=some .local:=by first | exact .inl rfl | exact .inr rfl | assumption) :
  PS X (.Assign [.Name x pos'] e pos) (tAsg te (gName i)):=by
 intro pins s σ H D I h
 refine wpAny_Assign_Name (thnE (he pins s σ H _ I h) fun v s1 y H1 I1 r1 q1 => ?_) hs
 exact zgd I1 hN hi hx r1 (fun s2 I2=>⟨_,H1,I2,q1⟩) hf
end
section
variable {X:Cx} {pos:Pos}
noncomputable def tWhile (c:TT) (tb:TS):TS:=fun D σ H=>∃ W:Nat->St->Hp->Prop,(∃ m,W m σ H)/\∀ m σ H,W m σ H ->
 c σ H fun b H1=>if b=true then ∃ N:St->Hp->Prop,(∀ σ' H',N σ' H'->∃ m',m' < m/\W m' σ' H')/\tb { D with nx:=N,ct:=N,bk:=D.nx } σ H1 else D.nx σ H1
theorem zcd {c:Cc} {body:List Cd} {tc:TT} {tb:TS} (hp:Oa (model X.prog X.w) X.A X.env X.xe) (hc:PT X c tc) (hb:PSs X body tb):PS X (.While c body [] pos) (tWhile tc tb):=by
 intro pins s σ H D I h
 obtain ⟨W,⟨m0,w0⟩,turn⟩:=h
 refine wpAny_While (codeAny_whileLoop (fun n s'=>∃ σ' H',Inv X pins σ' H' s'/\W n σ' H') ?_ m0 ⟨σ,H,I,w0⟩)
 rintro n s1 ⟨σ1,H1,I1,w1⟩
 refine Ev hp (thn (hc pins s1 σ1 H1 _ I1 (turn n σ1 H1 w1)) fun b s2 ⟨H2,I2,q2⟩ => ?_)
 cases b with
 | true =>
  obtain ⟨N,hN,q2⟩:=q2
  rw [if_pos rfl]
  refine Ev hp (thn (hb pins s2 σ1 H2 _ I2 q2) fun f s3 q3 => ?_)
  cases f with
  | next =>
   obtain ⟨σ3,H3,I3,n3⟩:=q3
   obtain ⟨m',hm,w3⟩:=hN σ3 H3 n3
   exact ⟨m',hm,σ3,H3,I3,w3⟩
  | cont =>
   obtain ⟨σ3,H3,I3,n3⟩:=q3
   obtain ⟨m',hm,w3⟩:=hN σ3 H3 n3
   exact ⟨m',hm,σ3,H3,I3,w3⟩
  | brk=>exact q3
  | ret v=>exact q3
 | false =>
  rw [if_neg Aa]
  exact Iq ⟨σ1,H2,I2,q2⟩
end
structure It where
 go:Nat->Hp->Prop
 yld:Nat->Hp->V->Hp->Prop
 stop:Nat->Hp->Prop
noncomputable def FpOk (X:Cx) (pins:List (A3×Obj)) (H:Hp) (b:A3):Prop :=
 H b=none/\b≠X.env.locals/\b ∉ X.fs/\(b∈X.ex\/X.s₀.heap.objs.size<=b)/\(∀ x c,X.env.cells.lookup x=some c->c≠b)/\∀ p∈X.pn ++ pins,p.1≠b
theorem Inv.fpOk {X:Cx} {pins:List (A3×Obj)} {σ : St} {H H':Hp} {s:A4} {b:A3} (I:Inv X pins σ H s) (hb:s.heap.objs.size<=b) (hn:H' b=none):FpOk X pins H' b:=by
 refine ⟨hn,Lj (Ae I.lt hb),I.nofs hb,.inr (Bv I.sz hb),fun x c e z => ?_,fun p hp z => ?_⟩
 ·obtain ⟨v,q⟩:=I.cell x c e
  exact absurd (Ae q.lt (by rw [z]; exact hb)) (Dv _)
 ·exact absurd (Ae (Ar (I.pin p hp).1) (by rw [z]; exact hb)) (Dv _)
structure Turn (P:Av) (w:Bu) (K:At) (tg:Cc) (J:It) (fp:List A3) (it:A3) (tn:Nat->Ce->Prop):Prop where
 mem:it∈fp
 obj:∀ i h,tn i h->∀ b∈fp,∃ o,h.get? b=some o/\∀ v,o.data ≠ .cell v
 keep:∀ i h h',tn i h->(∀ b∈fp,∀ o,h.get? b=some o->h'.get? b=some o)->tn i h'
 item:∀ (X:Cx),X.prog=P->X.w=w->X.K=K->X.calm=true->∀ (i:Nat) (pins:List (A3×Obj)) (s:A4) (σ : St) (H:Hp) (E:A0->A4->Prop),Inv X pins σ H s->(∀ b∈fp,FpOk X pins H b)->tn i s.heap->J.go i H ->
  wpAny (model P w) X.A (pyNext (.ref it)) (fun r s1=>∃ u,r=some u /\
   wpAny (model P w) X.A (letOwnedTupleGo tg (.ref it) u) (fun _ s2=>∃ x H',Inv X pins σ H' s2/\RelV x u/\J.yld i H x H'/\tn (i + 1) s2.heap/\∀ b∈fp,H' b=none) E s1) E s
 done:∀ (X:Cx),X.prog=P->X.w=w->X.K=K->X.calm=true->∀ (i:Nat) (pins:List (A3×Obj)) (s:A4) (σ : St) (H:Hp) (E:A0->A4->Prop),Inv X pins σ H s->(∀ b∈fp,FpOk X pins H b)->tn i s.heap->J.stop i H ->
  wpAny (model P w) X.A (pyNext (.ref it)) (fun r s1=>r=none/\Inv X pins σ H s1) E s
 self:∀ (A:Bd) (i:Nat) (s:A4) (Q:A0->A4->Prop) (E:A0->A4->Prop),tn i s.heap->Q (.ref it) s->wpAny (model P w) A (pyIter (.ref it)) Q E s
noncomputable abbrev TI:=St->Hp->(It->Hp->Prop)->Prop
noncomputable def PIE (X:Cx) (pins:List (A3×Obj)) (σ : St) (tg:Cc) (R:It->Hp->Prop) (itv:A0) (s2:A4):Prop :=
 ∃ (it:A3) (fp:List A3) (tn:Nat->Ce->Prop) (J:It) (H':Hp),itv = .ref it/\Inv X pins σ H' s2/\Turn X.prog X.w X.K tg J fp it tn/\tn 0 s2.heap/\(∀ b∈fp,FpOk X pins H' b)/\R J H'
noncomputable def PI (X:Cx) (tg iter:Cc) (wi:TI):Prop :=
 ∀ (pins:List (A3×Obj)) (s:A4) (σ : St) (H:Hp) (R:It->Hp->Prop),Inv X pins σ H s->wi σ H R ->
  wpAny (model X.prog X.w) X.A (eval iter X.env) (fun v s1=>wpAny (model X.prog X.w) X.A (pyIter v) (PIE X pins σ tg R) X.xe s1) X.xe s
theorem zhM {M:Jo} {A:Bd} {E:A0->A4->Prop} {s:A4} {tg:Cc} {it:A3} {u:A0} {o:Obj} {n:String} {vs:Array A0} {Q:Unit->A4->Prop} (ho:s.heap.get? it=some o) (hc:o.cls = .type n) (hd:o.data = .fields vs)
  (hn : ["enumerate","zip","dict_itemiterator","dict_reverseitemiterator","odict_iterator","itertools.zip_longest","itertools.pairwise"].contains n=false) (hQ:Q () s):wpAny M A (letOwnedTupleGo tg (.ref it) u) Q E s:=by
 unfold letOwnedTupleGo
 cases tg <;> first
  | exact Aq hQ
  | (cases u <;> first
    | exact Aq hQ
    | (refine A6 (wpAny_load ho ?_)
       rw [hc,hd]
       show wpAny M A (if (["enumerate","zip","dict_itemiterator","dict_reverseitemiterator","odict_iterator","itertools.zip_longest","itertools.pairwise"].contains n && vs[0]? == some (rawInt _))=true then _ else _) Q E s
       rw [if_neg (by intro h; rw [hn,El] at h; cases h)]
       exact Aq hQ))
noncomputable def Itl (K:At) (a:A3):It :=
 ⟨fun i H=>∃ xs x,SqL K H a xs/\xs[i]?=some x,fun i H x H'=>H'=H/\∀ xs,SqL K H a xs->xs[i]?=some x,fun i H=>∃ xs,SqL K H a xs/\xs.length<=i⟩
noncomputable def Itr (lo:Int) (n:Nat):It:=⟨fun i _=>i < n,fun i H x H'=>H'=H/\x = .int (lo + i),fun i _=>n<=i⟩
theorem turn_list {P:Av} {w:Bu} {K:At} {tg:Cc} (a it:A3):Turn P w K tg (Itl K a) [it] it (fun i h=>h.IsListIter it a i) where
 mem:=by simp
 obj:=fun i h st b hb=>by
  have e:b=it:=by simpa using hb
  subst e
  obtain ⟨o,e,c,d⟩:=st
  exact ⟨o,e,fun v z=>by rw [d] at z; cases z⟩
 keep:=fun i h h' st k=>st.at fun o e=>k it (by simp) o e
 item:=by
  intro X hP hw hK hc i pins s σ H E I hf st hg
  subst hP hw hK
  obtain ⟨xs,x,hq,hx⟩:=hg
  obtain ⟨its,rv,p,hz⟩:=I.list hq
  obtain ⟨u,hu,ru⟩:=rv.get hx
  obtain ⟨f0,f1,f2,f3,f4,f5⟩:=hf it (by simp)
  refine wpAny_pyNext_list_item st p.isList (x:=u) (by simpa using hu) fun h' st' sb => ?_
  have I1:Inv X pins σ H { s with heap:=h' }:=I.turned (t':=s.toks) (fun b o hb e=>(sb.2 b hb).trans e) f0 f1 f3 f4 f5
  obtain ⟨o,e,c,d⟩:=id st'
  exact ⟨u,rfl,zhM (s:={ s with heap:=h' }) e c d (by decide) ⟨x,H,I1,ru,⟨rfl,fun ys hy=>by rw [I.list_inj hy hq]; exact hx⟩,st',fun b hb=>(hf b hb).1⟩⟩
 done:=by
  intro X hP hw hK hc i pins s σ H E I hf st hg
  subst hP hw hK
  obtain ⟨xs,hq,hx⟩:=hg
  obtain ⟨its,rv,p,hz⟩:=I.list hq
  obtain ⟨f0,f1,f2,f3,f4,f5⟩:=hf it (by simp)
  have hl:=rv.length
  exact wpAny_pyNext_list_end (I.ok.hd hc) st p.isList (by simp; omega) fun h' eb=>⟨rfl,I.turned (t':=s.toks) (fun b o hb e=>eb b o hb e) f0 f1 f3 f4 f5⟩
 self:=fun _ _ _ _ _ st h=>wpAny_pyIter_listiter st h
theorem turn_range {P:Av} {w:Bu} {K:At} {tg:Cc} (it:A3) (lo:Int) (n:Nat):Turn P w K tg (Itr lo n) [it] it (fun i h=>IsRangeIter h it (lo + (i:Nat) * 1) ((n:Int) - (i:Nat)) 1) where
 mem:=by simp
 obj:=fun i h st b hb=>by
  have e:b=it:=by simpa using hb
  subst e
  exact ⟨_,st,fun v z=>by
   have z':Data.fields _=Data.cell v:=z
   cases z'⟩
 keep:=fun i h h' st k=>k it (by simp) _ st
 item:=by
  intro X hP hw hK hc i pins s σ H E I hf st hg
  subst hP hw hK
  obtain ⟨f0,f1,f2,f3,f4,f5⟩:=hf it (by simp)
  have W:=Walks.range (prog:=X.prog) (w:=X.w) (I.ok.hd hc) it lo 1 n
  refine W.item i s _ _ hg st fun v h' tk hv st' kk => ?_
  obtain ⟨t,rfl⟩:=hv
  have I1:Inv X pins σ H { s with heap:=h',toks:=tk }:=I.turned (fun b o hb e=>kk b o (by simpa using hb) e) f0 f1 f3 f4 f5
  refine ⟨_,rfl,zhM (s:={ s with heap:=h',toks:=tk }) (n := "range_iterator") st' rfl rfl (by decide) ⟨.int (lo + i),H,I1,⟨t,?_⟩,⟨rfl,rfl⟩,st',fun b hb=>(hf b hb).1⟩⟩
  rw [Int.mul_one]
 done:=by
  intro X hP hw hK hc i pins s σ H E I hf st hg
  subst hP hw hK
  obtain ⟨f0,f1,f2,f3,f4,f5⟩:=hf it (by simp)
  exact wpAny_pyNext_range_end (I.ok.hd hc) st (by have:n<=i:=hg; omega) fun h' eb=>⟨rfl,I.turned (t':=s.toks) (fun b o hb e=>eb b o hb e) f0 f1 f3 f4 f5⟩
 self:=fun _ _ _ _ _ st h=>wpAny_pyIter_rangeiter st h
section
variable {X:Cx} {tg:Cc}
noncomputable def iList (K:At) (tl:TE):TI:=fun σ H R=>tl σ H fun x H1=>∃ a,x = .ref a/\(∃ xs,SqL K H1 a xs)/\R (Itl K a) H1
theorem zau {l:Cc} {tl:TE} (hl:PE X l tl):PI X tg l (iList X.K tl):=by
 intro pins s σ H R I h
 refine thnE (hl pins s σ H _ I h) fun v s1 x H1 I1 r1 q1 => ?_
 obtain ⟨a,e,⟨xs,hq⟩,q⟩:=q1
 subst e
 cases r1
 obtain ⟨its,rv,p,hz⟩:=I1.list hq
 refine Nq p.isList ?_
 refine ⟨s1.heap.objs.size,[s1.heap.objs.size],_,_,H1,rfl,I1.kept (t':=s1.toks) fun b o e=>Ag _ e,turn_list a _,⟨_,Bh _ rfl,rfl,rfl⟩,fun b hb => ?_,q⟩
 have e:b=s1.heap.objs.size:=by simpa using hb
 subst e
 exact I1.fpOk (A9 _) (I1.hok.fresh (A9 _))
theorem zgq {pins:List (A3×Obj)} {σ : St} {H:Hp} {s:A4} {R:It->Hp->Prop} {E:A0->A4->Prop} {lo hi:Int} {t u v:Tok} {tk:Nat} (I:Inv X pins σ H s) (h1 : -(2 ^ 62)<=lo) (h2:lo < 2 ^ 62) (h3 : -(2 ^ 62)<=hi) (h4:hi < 2 ^ 62)
  (q:R (Itr lo (hi - lo).toNat) H):wpAny (model X.prog X.w) X.A (pyIter (.ref s.heap.objs.size)) (PIE X pins σ tg R) E { s with heap:=s.heap.push { cls := .type "range",data := .fields #[.int lo t,.int hi u,.int 1 v] },toks:=tk }:=by
 refine wpAny_pyIter_range (IsRange.new ..) (small_one h1 h2 h3 h4) ?_
 have I1:Inv X pins σ H { s with heap:=s.heap.push { cls := .type "range",data := .fields #[.int lo t,.int hi u,.int 1 v] },toks:=tk }:=I.kept fun b o e=>Ag _ e
 refine ⟨(s.heap.push { cls := .type "range",data := .fields #[.int lo t,.int hi u,.int 1 v] }).objs.size,[(s.heap.push { cls := .type "range",data := .fields #[.int lo t,.int hi u,.int 1 v] }).objs.size],_,_,H,rfl,
  I1.kept (t':=tk) fun b o e=>Ag _ e,turn_range _ lo (hi - lo).toNat,?_,fun b hb => ?_,q⟩
 ·have e1:lo + ((0:Nat):Int) * 1=lo:=by simp
  have e2:(((hi - lo).toNat:Nat):Int) - ((0:Nat):Int)=Oe lo hi 1:=by rw [rangeSize_one]; split <;> omega
  show IsRangeIter _ _ (lo + ((0:Nat):Int) * 1) ((((hi - lo).toNat:Nat):Int) - ((0:Nat):Int)) 1
  rw [e1,e2]
  exact Bh _ rfl
 ·have e:b=(s.heap.push { cls := .type "range",data := .fields #[.int lo t,.int hi u,.int 1 v] }).objs.size:=by simpa using hb
  subst e
  exact I1.fpOk (A9 _) (I1.hok.fresh (A9 _))
noncomputable def iRng1 (ta:TA):TI:=fun σ H R=>ta σ H fun vs H1=>∃ j:Int,vs = [.int j] /\ -(2 ^ 62)<=j/\j < 2 ^ 62/\R (Itr 0 j.toNat) H1
noncomputable def iRng2 (ta:TA):TI:=fun σ H R=>ta σ H fun vs H1=>∃ i j:Int,vs = [.int i,.int j]/\(-(2 ^ 62)<=i/\i < 2 ^ 62 /\ -(2 ^ 62)<=j/\j < 2 ^ 62)/\R (Itr i (j - i).toNat) H1
theorem zbm {a:Cc} {ta:TA} {p pos:Pos} (hg:Gl X "range") (hm:X.mg "range" = none) (ha:PA X [a] ta) (hs:starEach [a] X.env = [(false,eval a X.env)]:=by rfl):PI X tg (.Call (.Name "range" p) [a] [] pos) (iRng1 ta):=by
 intro pins s σ H R I h
 refine Call_ (zfk I hg hm boot_range (Fq (thnE (ha pos pins s σ H _ I h) fun us s1 vs H1 I1 r1 q1 => ?_) hs rfl))
 obtain ⟨j,e,q1,q2,q⟩:=q1
 subst e
 cases r1 with
 | cons r rr =>
  cases rr
  obtain ⟨t,rfl⟩:=r
  exact call_range_1 (zgq I1 (by omega) (by omega) q1 q2 (by simpa using q))
theorem pi_range2 {a b:Cc} {ta:TA} {p pos:Pos} (hg:Gl X "range") (hm:X.mg "range" = none) (ha:PA X [a,b] ta) (hs:starEach [a,b] X.env = [(false,eval a X.env),(false,eval b X.env)]:=by rfl) (hs2:starEach [b] X.env = [(false,eval b X.env)]:=by rfl) :
  PI X tg (.Call (.Name "range" p) [a,b] [] pos) (iRng2 ta):=by
 intro pins s σ H R I h
 refine Call_ (zfk I hg hm boot_range (Fq (thnE (ha pos pins s σ H _ I h) fun us s1 vs H1 I1 r1 q1 => ?_) (by rw [hs,hs2]) (by rw [hs2]; rfl)))
 obtain ⟨i,j,e,⟨q1,q2,q3,q4⟩,q⟩:=q1
 subst e
 cases r1 with
 | cons r rr =>
  cases rr with
  | cons r' rr =>
   cases rr
   obtain ⟨t,rfl⟩:=r
   obtain ⟨t',rfl⟩:=r'
   exact call_range_2 (zgq I1 q1 q2 q3 q4 q)
noncomputable def tFor (wi:TI) (g:TG) (tb:TS):TS:=fun D σ H=>wi σ H fun J H1=>∃ W:Nat->Nat->St->Hp->Prop,(∃ m,W 0 m σ H1)/\∀ i m σ H,W i m σ H ->
 (J.stop i H/\D.nx σ H)\/(J.go i H/\∃ N:St->Hp->Prop,(∀ σ' H',N σ' H'->∃ m',m' < m/\W (i + 1) m' σ' H')/\∀ x H',J.yld i H x H'->g x σ H' fun σ2 H2=>tb { D with nx:=N,ct:=N,bk:=D.nx } σ2 H2)
noncomputable def pinsAt (fp:List A3) (h:Ce):List (A3×Obj):=fp.filterMap fun b=>(h.get? b).map fun o=>(b,o)
theorem zce {fp:List A3} {h:Ce} {b:A3} {o:Obj} (hb:b∈fp) (e:h.get? b=some o):(b,o)∈pinsAt fp h:=J5.mpr ⟨b,hb,by rw [e]; rfl⟩
theorem of_pinsAt {fp:List A3} {h:Ce} {p:A3×Obj} (hp:p∈pinsAt fp h):p.1∈fp/\h.get? p.1=some p.2:=by
 obtain ⟨b,hb,e⟩:=J5.mp hp
 cases q:h.get? b with
 | none=>rw [q] at e; cases e
 | some o =>
  rw [q] at e
  have e':(b,o)=p:=C4 e
  subst e'
  exact ⟨hb,q⟩
theorem Inv.pinned {pins:List (A3×Obj)} {σ : St} {H:Hp} {s:A4} {fp:List A3} (I:Inv X pins σ H s) (hf:∀ b∈fp,FpOk X pins H b) (ho:∀ b∈fp,∃ o,s.heap.get? b=some o/\∀ v,o.data ≠ .cell v):Inv X (pins ++ pinsAt fp s.heap) σ H s :=
 I.pins_of fun p hp=>(An.mp hp).elim (fun z=>I.pin p (Bt _ z)) fun z=>by
  obtain ⟨hb,e⟩:=of_pinsAt z
  obtain ⟨f0,f1,f2,_⟩:=hf p.1 hb
  obtain ⟨o,e',d⟩:=ho p.1 hb
  rw [e] at e'; cases e'
  exact ⟨e,f0,f1,f2,d⟩
theorem Inv.unpinned {pins pl:List (A3×Obj)} {σ : St} {H:Hp} {s:A4} (I:Inv X (pins ++ pl) σ H s):Inv X pins σ H s:=I.pins_of fun p hp=>I.pin p (Bt _ (C9 _ hp))
theorem zaZ {iter:Cc} {body:List Cd} {wi:TI} {g:TG} {tb:TS} {pos:Pos} (hp:Oa (model X.prog X.w) X.A X.env X.xe) (hc:X.calm=true) (hi:PI X tg iter wi) (hg:PG X tg g) (hb:PSs X body tb)
  (hs:∀ x,foldedSetIterable iter X.env x=pure x:=by intro _; rfl):PS X (.For tg iter body [] pos) (tFor wi g tb):=by
 intro pins s σ H D I h
 refine wpAny_For (thn (hi pins s σ H _ I h) fun v s1 h1=>thn h1 fun itv s2 h2 => ?_) hs
 obtain ⟨it,fp,tn,J,H2,e,I2,T,st2,f2,W,⟨m0,w0⟩,turn⟩:=h2
 subst e
 have stat:∀ {H':Hp},(∀ b∈fp,H' b=none)->∀ b∈fp,FpOk X pins H' b:=fun hn b hb=>⟨hn b hb,(f2 b hb).2⟩
 refine codeAny_forLoop_any (fun n s'=>∃ i σ' H',Inv X pins σ' H' s'/\tn i s'.heap/\(∀ b∈fp,H' b=none)/\W i n σ' H') ?_ m0 ⟨0,σ,H2,I2,st2,fun b hb=>(f2 b hb).1,w0⟩
 rintro n s3 ⟨i,σ3,H3,I3,st3,fr3,w3⟩
 rcases turn i n σ3 H3 w3 with ⟨stop,qn⟩ | ⟨go,N,hN,step⟩
 ·refine Ev hp (thn (T.done X rfl rfl rfl hc i pins s3 σ3 H3 X.xe I3 (stat fr3) st3 stop) fun r s4 ⟨hr,I4⟩ => ?_)
  subst hr
  exact Iq ⟨σ3,H3,I4,qn⟩
 ·refine Ev hp (thn (T.item X rfl rfl rfl hc i pins s3 σ3 H3 X.xe I3 (stat fr3) st3 go) fun r s4 ⟨u,hr,h4⟩ => ?_)
  subst hr
  refine Ev hp (thn h4 fun _ s5 ⟨x,H5,I5,r5,y5,st5,fr5⟩ => ?_)
  have I5':=I5.pinned (stat fr5) (T.obj _ _ st5)
  refine Ev hp (thn (hg _ s5 σ3 H5 x u _ I5' r5 (step x H5 y5)) fun _ s6 ⟨σ6,H6,I6,q6⟩ => ?_)
  refine Ev hp (thn (hb _ s6 σ6 H6 _ I6 q6) fun f s7 q7 => ?_)
  have again:∀ {σ7:St} {H7:Hp},Inv X (pins ++ pinsAt fp s5.heap) σ7 H7 s7->N σ7 H7->∃ m,m < n/\∃ i σ' H',Inv X pins σ' H' s7/\tn i s7.heap/\(∀ b∈fp,H' b=none)/\W i m σ' H':=fun {σ7 H7} I7 n7=>by
   obtain ⟨m',hm,w7⟩:=hN σ7 H7 n7
   refine ⟨m',hm,i + 1,σ7,H7,I7.unpinned,T.keep _ _ _ st5 fun b hb o e=>(I7.pin (b,o) (Bt _ (Bt _ (zce hb e)))).1,fun b hb => ?_,w7⟩
   obtain ⟨o,e,d⟩:=T.obj _ _ st5 b hb
   exact (I7.pin (b,o) (Bt _ (Bt _ (zce hb e)))).2.1
  cases f with
  | next=>obtain ⟨σ7,H7,I7,n7⟩:=q7; exact again I7 n7
  | cont=>obtain ⟨σ7,H7,I7,n7⟩:=q7; exact again I7 n7
  | brk=>obtain ⟨σ7,H7,I7,q7⟩:=q7; exact ⟨σ7,H7,I7.unpinned,q7⟩
  | ret v=>obtain ⟨x7,σ7,H7,I7,r7,q7⟩:=q7; exact ⟨x7,σ7,H7,I7.unpinned,r7,q7⟩
end
noncomputable abbrev R2:=V->V->Hp->VK->Prop
noncomputable def OpR (X:Cx) (f:A0->A0->Sem A0) (r:R2):Prop :=
 ∀ (pins:List (A3×Obj)) (s:A4) (σ : St) (H:Hp) (x y:V) (v u:A0) (Q:VK),Inv X pins σ H s->RelV x v->RelV y u->r x y H Q ->
  wpAny (model X.prog X.w) X.A (f v u) (EP X pins σ Q) X.xe s
noncomputable def UnR (X:Cx) (f:A0->Sem A0) (r:V->Hp->VK->Prop):Prop :=
 ∀ (pins:List (A3×Obj)) (s:A4) (σ : St) (H:Hp) (x:V) (v:A0) (Q:VK),Inv X pins σ H s->RelV x v->r x H Q ->
  wpAny (model X.prog X.w) X.A (f v) (EP X pins σ Q) X.xe s
noncomputable def CallR (X:Cx) (f:A0) (r:List V->Hp->VK->Prop):Prop :=
 ∀ (pins:List (A3×Obj)) (s:A4) (σ : St) (H:Hp) (xs:List V) (us:List A0) (Q:VK),Inv X pins σ H s->Vals xs us->r xs H Q ->
  wpAny (model X.prog X.w) X.A (call f us) (EP X pins σ Q) X.xe s
noncomputable def tOp (r:R2) (ta tb:TE):TE:=fun σ H Q=>ta σ H fun x H1=>tb σ H1 fun y H2=>r x y H2 Q
noncomputable def tUn (r:V->Hp->VK->Prop) (ta:TE):TE:=fun σ H Q=>ta σ H fun x H1=>r x H1 Q
noncomputable def rI (C:Int->Int->Prop) (g:Int->Int->V):R2:=fun x y H Q=>∃ i j,x = .int i/\y = .int j/\C i j/\Q (g i j) H
noncomputable def rI0 (g:Int->Int->V):R2:=fun x y H Q=>∃ i j,x = .int i/\y = .int j/\Q (g i j) H
noncomputable def rU (g:Int->V):V->Hp->VK->Prop:=fun x H Q=>∃ i,x = .int i/\Q (g i) H
section
variable {X:Cx} {a b c:Cc} {ta tb tc:TE} {pos:Pos}
theorem binT (ha:PE X a ta) (hb:PE X b tb) {pins:List (A3×Obj)} {s:A4} {σ : St} {H:Hp} {R:V->V->Hp->Prop} (I:Inv X pins σ H s)
  (h:ta σ H fun x H1=>tb σ H1 fun y H2=>R x y H2) {Q:A0->A4->Prop} {f:A0->A0->Sem A0}
  (hf:∀ v u s2 x y H2,Inv X pins σ H2 s2->RelV x v->RelV y u->R x y H2->wpAny (model X.prog X.w) X.A (f v u) Q X.xe s2) :
  wpAny (model X.prog X.w) X.A (eval a X.env) (fun v s₁ => wpAny (model X.prog X.w) X.A (eval b X.env) (fun u s₂ => wpAny (model X.prog X.w) X.A (f v u) Q X.xe s₂) X.xe s₁) X.xe s:=by
 refine thnE (ha pins s σ H _ I h) fun v s1 x H1 I1 r1 q1 => ?_
 refine thnE (hb pins s1 σ H1 _ I1 q1) fun u s2 y H2 I2 r2 q2 => ?_
 exact hf v u s2 x y H2 I2 r1 r2 q2
theorem zaw {op:Operator} {r:R2} (ho:OpR X (binaryOp op) r) (ha:PE X a ta) (hb:PE X b tb):PE X (.BinOp a op b pos) (tOp r ta tb):=by
 intro pins s σ H Q I h
 exact wpAny_BinOp (binT ha hb I h fun v u s2 x y H2 I2 rx ry q=>ho pins s2 σ H2 x y v u Q I2 rx ry q)
theorem zct {op:UnaryOp} {r:V->Hp->VK->Prop} (ho:UnR X (unaryOp op) r) (ha:PE X a ta):PE X (.UnaryOp op a pos) (tUn r ta):=by
 intro pins s σ H Q I h
 exact UnaryOp_ (thnE (ha pins s σ H _ I h) fun v s1 x H1 I1 r1 q1=>ho pins s1 σ H1 x v Q I1 r1 q1)
theorem opI {f:A0->A0->Sem A0} {C:Int->Int->Prop} {g:Int->Int->Int}
  (rule:∀ (i j:Int) (t u:Tok) (s:A4) (Q:A0->A4->Prop) (E:A0->A4->Prop),C i j->Q (.int (g i j) s.toks) { s with toks:=s.toks + 1 }->wpAny (model X.prog X.w) X.A (f (.int i t) (.int j u)) Q E s) :
  OpR X f (rI C fun i j => .int (g i j)):=by
 intro pins s σ H x y v u Q I rx ry h
 obtain ⟨i,j,rfl,rfl,hc,q⟩:=h
 obtain ⟨t,rfl⟩:=rx
 obtain ⟨t',rfl⟩:=ry
 exact rule i j t t' s _ _ hc ⟨.int (g i j),H,I.tok _,⟨_,rfl⟩,q⟩
theorem opI0 {f:A0->A0->Sem A0} {g:Int->Int->Int}
  (rule:∀ (i j:Int) (t u:Tok) (s:A4) (Q:A0->A4->Prop) (E:A0->A4->Prop),Q (.int (g i j) s.toks) { s with toks:=s.toks + 1 }->wpAny (model X.prog X.w) X.A (f (.int i t) (.int j u)) Q E s) :
  OpR X f (rI0 fun i j => .int (g i j)):=by
 intro pins s σ H x y v u Q I rx ry h
 obtain ⟨i,j,rfl,rfl,q⟩:=h
 obtain ⟨t,rfl⟩:=rx
 obtain ⟨t',rfl⟩:=ry
 exact rule i j t t' s _ _ ⟨.int (g i j),H,I.tok _,⟨_,rfl⟩,q⟩
theorem opB0 {f:A0->A0->Sem A0} {g:Int->Int->Bool}
  (rule:∀ (i j:Int) (t u:Tok) (s:A4) (Q:A0->A4->Prop) (E:A0->A4->Prop),Q (.bool (g i j)) s->wpAny (model X.prog X.w) X.A (f (.int i t) (.int j u)) Q E s) :
  OpR X f (rI0 fun i j => .bl (g i j)):=by
 intro pins s σ H x y v u Q I rx ry h
 obtain ⟨i,j,rfl,rfl,q⟩:=h
 obtain ⟨t,rfl⟩:=rx
 obtain ⟨t',rfl⟩:=ry
 exact rule i j t t' s _ _ ⟨.bl (g i j),H,I,rfl,q⟩
noncomputable def CDiv (i j:Int):Prop:=0 < j/\j < 1073741824
noncomputable def CMul (i j:Int):Prop:=(-(2 ^ 64) < i/\i < 2 ^ 64)\/(-(2 ^ 64) < j/\j < 2 ^ 64)
theorem CMul.ok {i j:Int} (h:CMul i j):IntMulOk i j:=by
 rcases h with ⟨h1,h2⟩ | ⟨h1,h2⟩
 ·exact .of_left (Pf h1 h2)
 ·exact .of_right (Pf h1 h2)
theorem two_pow_nn (k:Nat):(0:Int)<=2 ^ k:=by
 rw [two_pow_cast]
 exact Int.natCast_nonneg _
theorem zbw:OpR X (binaryOp .Add) (rI0 fun i j => .int (i + j)):=opI0 fun _ _ _ _ _ _ _ q=>add_int q
theorem zdm:OpR X (binaryOp .Sub) (rI0 fun i j => .int (i - j)):=opI0 fun _ _ _ _ _ _ _ q=>sub_int q
theorem zfe:OpR X (binaryOp .Mult) (rI CMul fun i j => .int (i * j)):=opI fun _ _ _ _ _ _ _ hc q=>mul_int q hc.ok
theorem zb5:OpR X (binaryOp .FloorDiv) (rI CDiv fun i j => .int (i / j)):=opI fun i j _ _ _ _ _ hc q=>by
 have h1:(0:Int) < j:=hc.1
 have h2:j < 1073741824:=hc.2
 exact floordiv_int (by omega) (by rw [Kh i (by omega)]; exact q) (.inl (PyProof.noPylong_small (by omega)))
theorem zbo:OpR X (binaryOp .Mod) (rI (fun _ j=>0 < j) fun i j => .int (i % j)):=opI fun i j _ _ _ _ _ hc q=>by
 have h1:(0:Int) < j:=hc
 exact mod_int' (by omega) (by rw [Int.fmod_eq_emod_of_nonneg i (by omega)]; exact q)
theorem op_shr:OpR X (binaryOp .RShift) (rI (fun _ j=>0<=j) fun i j => .int (i / 2 ^ j.toNat)):=opI fun i j _ _ _ _ _ hc q =>
 rshift_int hc (by rw [Kh i (two_pow_nn _)]; exact q)
theorem zh2:OpR X (binaryOp .BitAnd) (rI0 fun i j => .int (Dn i j)):=opI0 fun _ _ _ _ _ _ _ q=>and_int q
theorem unI {f:A0->Sem A0} {g:Int->Int}
  (rule:∀ (i:Int) (t:Tok) (s:A4) (Q:A0->A4->Prop) (E:A0->A4->Prop),Q (.int (g i) s.toks) { s with toks:=s.toks + 1 }->wpAny (model X.prog X.w) X.A (f (.int i t)) Q E s) :
  UnR X f (rU fun i => .int (g i)):=by
 intro pins s σ H x v Q I rx h
 obtain ⟨i,rfl,q⟩:=h
 obtain ⟨t,rfl⟩:=rx
 exact rule i t s _ _ ⟨.int (g i),H,I.tok _,⟨_,rfl⟩,q⟩
theorem zbr:UnR X (unaryOp .USub) (rU fun i => .int (-i)):=unI fun _ _ _ _ _ q=>neg_int q
end
noncomputable def scal:V->V->Bool
 | .non,.non=>true | .non,.int _=>true | .int _,.non=>true | .non,.bl _=>true | .bl _,.non=>true | .non,.str _=>true | .str _,.non=>true
 | .int _,.int _=>true | .bl _,.bl _=>true | .str _,.str _=>true | .byt _,.byt _=>true
 | .int _,.str _=>true | .str _,.int _=>true | .bl _,.str _=>true | .str _,.bl _=>true
 | _,_=>false
noncomputable def rEq:R2:=fun x y H Q=>scal x y=true/\Q (.bl (decide (x=y))) H
noncomputable def rNe:R2:=fun x y H Q=>scal x y=true/\Q (.bl (!decide (x=y))) H
theorem zhB {i j:Int}:decide (V.int i=V.int j)=(i == j):=by
 rw [Bi]
 simp
theorem zia {i j:Bool}:decide (V.bl i=V.bl j)=(i == j):=by
 rw [Bi]
 simp
theorem zhA {i j:Str}:decide (V.str i=V.str j)=(i == j):=by
 rw [Bi]
 simp
theorem zhD {i j:Array UInt8}:decide (V.byt i=V.byt j)=(i.toList == j.toList):=by
 rw [Bi]
 cases i
 cases j
 simp
section
variable {X:Cx} {a b c:Cc} {ta tb tc:TE} {pos:Pos}
theorem zaE {pins:List (A3×Obj)} {σ : St} {H:Hp} {s:A4} {Q:VK} {k k':Bool} (I:Inv X pins σ H s) (q:Q (.bl k) H) (e:k=k'):EP X pins σ Q (.bool k') s:=by
 subst e
 exact ⟨.bl k,H,I,rfl,q⟩
theorem zcj:OpR X (compareOp .Eq) rEq:=by
 intro pins s σ H x y v u Q I rx ry h
 obtain ⟨hs,q⟩:=h
 cases x with
 | non =>
  cases rx
  cases y with
  | non=>cases ry; exact Ot (zaE I q (by simp))
  | bl j=>cases ry; exact Ov (zaE I q (by simp))
  | int j=>obtain ⟨t',rfl⟩:=ry; exact Ou (zaE I q (by simp))
  | str j=>obtain ⟨t',rfl⟩:=ry; exact Os (zaE I q (by simp))
  | _=>exact absurd (show false=true from hs) Aa
 | bl i =>
  cases rx
  cases y with
  | non=>cases ry; exact Ox (zaE I q (by simp))
  | bl j=>cases ry; exact eq_bool (zaE I q zia)
  | str j=>obtain ⟨t',rfl⟩:=ry; exact O9 (zaE I q (by simp))
  | _=>exact absurd (show false=true from hs) Aa
 | int i =>
  obtain ⟨t,rfl⟩:=rx
  cases y with
  | non=>cases ry; exact Ow (zaE I q (by simp))
  | int j=>obtain ⟨t',rfl⟩:=ry; exact eq_int (zaE I q zhB)
  | str j=>obtain ⟨t',rfl⟩:=ry; exact O8 (zaE I q (by simp))
  | _=>exact absurd (show false=true from hs) Aa
 | str i =>
  obtain ⟨t,rfl⟩:=rx
  cases y with
  | non=>cases ry; exact Oq (zaE I q (by simp))
  | bl j=>cases ry; exact O7 (zaE I q (by simp))
  | int j=>obtain ⟨t',rfl⟩:=ry; exact O6 (zaE I q (by simp))
  | str j=>obtain ⟨t',rfl⟩:=ry; exact eq_str (zaE I q zhA)
  | _=>exact absurd (show false=true from hs) Aa
 | byt i =>
  obtain ⟨t,rfl⟩:=rx
  cases y with
  | byt j=>obtain ⟨t',rfl⟩:=ry; exact PySem.W.eq_bytes (zaE I q zhD)
  | _=>exact absurd (show false=true from hs) Aa
 | _=>cases y <;> exact absurd (show false=true from hs) Aa
theorem zfO:OpR X (compareOp .NotEq) rNe:=by
 intro pins s σ H x y v u Q I rx ry h
 obtain ⟨hs,q⟩:=h
 cases x with
 | non =>
  cases rx
  cases y with
  | non=>cases ry; exact Ol (zaE I q (by simp))
  | bl j=>cases ry; exact On (zaE I q (by simp))
  | int j=>obtain ⟨t',rfl⟩:=ry; exact Om (zaE I q (by simp))
  | str j=>obtain ⟨t',rfl⟩:=ry; exact Oj (zaE I q (by simp))
  | _=>exact absurd (show false=true from hs) Aa
 | bl i =>
  cases rx
  cases y with
  | non=>cases ry; exact Op (zaE I q (by simp))
  | bl j=>cases ry; exact ne_bool (zaE I q (congrArg not zia))
  | str j=>obtain ⟨t',rfl⟩:=ry; exact O5 (zaE I q (by simp))
  | _=>exact absurd (show false=true from hs) Aa
 | int i =>
  obtain ⟨t,rfl⟩:=rx
  cases y with
  | non=>cases ry; exact Oo (zaE I q (by simp))
  | int j=>obtain ⟨t',rfl⟩:=ry; exact ne_int (zaE I q (congrArg not zhB))
  | str j=>obtain ⟨t',rfl⟩:=ry; exact O4 (zaE I q (by simp))
  | _=>exact absurd (show false=true from hs) Aa
 | str i =>
  obtain ⟨t,rfl⟩:=rx
  cases y with
  | non=>cases ry; exact Oi (zaE I q (by simp))
  | bl j=>cases ry; exact O3 (zaE I q (by simp))
  | int j=>obtain ⟨t',rfl⟩:=ry; exact O2 (zaE I q (by simp))
  | str j=>obtain ⟨t',rfl⟩:=ry; exact ne_str (zaE I q (congrArg not zhA))
  | _=>exact absurd (show false=true from hs) Aa
 | byt i =>
  obtain ⟨t,rfl⟩:=rx
  cases y with
  | byt j=>obtain ⟨t',rfl⟩:=ry; exact PySem.W.ne_bytes (zaE I q (congrArg not zhD))
  | _=>exact absurd (show false=true from hs) Aa
 | _=>cases y <;> exact absurd (show false=true from hs) Aa
theorem ziq:OpR X (compareOp .Lt) (rI0 fun i j => .bl (decide (i < j))):=opB0 fun _ _ _ _ _ _ _ q=>lt_int q
theorem zdK:OpR X (compareOp .LtE) (rI0 fun i j => .bl (decide (i<=j))):=opB0 fun _ _ _ _ _ _ _ q=>le_int q
theorem zfP:OpR X (compareOp .Gt) (rI0 fun i j => .bl (decide (j < i))):=opB0 fun _ _ _ _ _ _ _ q=>gt_int q
theorem zil:OpR X (compareOp .GtE) (rI0 fun i j => .bl (decide (j<=i))):=opB0 fun _ _ _ _ _ _ _ q=>ge_int q
theorem op_notN:OpR X (compareOp .IsNot) (fun x y H Q=>y = .non/\Q (.bl (!decide (x = .non))) H):=by
 intro pins s σ H x y v u Q I rx ry h
 obtain ⟨rfl,q⟩:=h
 cases ry
 refine isnot_none_gen (zaE I q ?_)
 cases x <;> first
  | (cases rx; rfl)
  | (obtain ⟨t,rfl⟩:=rx; rfl)
theorem zav (b:Cc) {op:Ha} (h:op ≠ .In:=by decide) (h2:op ≠ .NotIn:=by decide):behindInMarks op b=false:=by
 have e1:(op == CmpOp.In)=false:=by cases op <;> first | rfl | exact absurd rfl h
 have e2:(op == CmpOp.NotIn)=false:=by cases op <;> first | rfl | exact absurd rfl h2
 cases b <;> simp [behindInMarks,e1,e2]
theorem zeK {op:Ha} {r:R2} (ho:OpR X (compareOp op) r) (ha:PE X a ta) (hb:PE X b tb) (hm:behindInMarks op b=false):PE X (.Compare a [op] [b] pos) (tOp r ta tb):=by
 intro pins s σ H Q I h
 exact P6 (binT ha hb I h fun v u s2 x y H2 I2 rx ry q=>ho pins s2 σ H2 x y v u Q I2 rx ry q) hm
noncomputable def tTest (t:TE):TT:=fun σ H Q=>t σ H fun x H'=>∃ k,x = .bl k/\Q k H'
theorem zap {op:Ha} {r:R2} (ho:OpR X (compareOp op) r) (ha:PE X a ta) (hb:PE X b tb) (hm:behindInMarks op b=false):PT X (.Compare a [op] [b] pos) (tTest (tOp r ta tb)):=by
 intro pins s σ H Q I h
 refine Mm (thnE (ha pins s σ H _ I h) fun v s1 x H1 I1 r1 q1=>thnE (hb pins s1 σ H1 _ I1 q1) fun u s2 y H2 I2 r2 q2 =>
  thnE (ho pins s2 σ H2 x y v u _ I2 r1 r2 q2) fun c s3 z H3 I3 r3 ⟨k,e,q3⟩ => ?_) hm
 subst e
 cases r3
 exact Dp ⟨H3,I3,q3⟩
noncomputable def tChain (r r':R2) (ta tb tc:TE):TE:=fun σ H Q=>ta σ H fun x H1=>tb σ H1 fun y H2=>r x y H2 fun z H3=>∃ k,z = .bl k /\
 (if k=true then tc σ H3 fun w' H4=>r' y w' H4 Q else Q (.bl false) H3)
theorem zgu {op op':Ha} {r r':R2} (ho:OpR X (compareOp op) r) (ho':OpR X (compareOp op') r') (ha:PE X a ta) (hb:PE X b tb) (hc:PE X c tc)
  (hm:lastMarks [op,op'] [b,c]=false:=by with_unfolding_all rfl):PE X (.Compare a [op,op'] [b,c] pos) (tChain r r' ta tb tc):=by
 intro pins s σ H Q I h
 refine Compare_chain (thnE (ha pins s σ H _ I h) fun v s1 x H1 I1 r1 q1=>chain_link (thnE (hb pins s1 σ H1 _ I1 q1) fun u s2 y H2 I2 r2 q2 =>
  thnE (ho pins s2 σ H2 x y v u _ I2 r1 r2 q2) fun d s3 z H3 I3 r3 ⟨k,e,q3⟩ => ?_)) hm
 subst e
 cases r3
 refine Dp ?_
 cases k with
 | false=>exact ite_ff ⟨.bl false,H3,I3,rfl,q3⟩
 | true=>exact ite_tt (chain_last (thnE (hc pins s3 σ H3 _ I3 q3) fun w' s4 z' H4 I4 r4 q4=>ho' pins s4 σ H4 y z' u w' Q I4 r2 r4 q4))
theorem zdq {op op':Ha} {r r':R2} (ho:OpR X (compareOp op) r) (ho':OpR X (compareOp op') r') (ha:PE X a ta) (hb:PE X b tb) (hc:PE X c tc)
  (hm:lastMarks [op,op'] [b,c]=false:=by with_unfolding_all rfl):PT X (.Compare a [op,op'] [b,c] pos) (tTest (tChain r r' ta tb tc)):=by
 intro pins s σ H Q I h
 refine isTrue_chain (thnE (ha pins s σ H _ I h) fun v s1 x H1 I1 r1 q1=>test_link (thnE (hb pins s1 σ H1 _ I1 q1) fun u s2 y H2 I2 r2 q2 =>
  thnE (ho pins s2 σ H2 x y v u _ I2 r1 r2 q2) fun d s3 z H3 I3 r3 ⟨k,e,q3⟩ => ?_)) hm
 subst e
 cases r3
 refine Dp ?_
 cases k with
 | false =>
  obtain ⟨k',e',q'⟩:=q3
  cases e'
  exact ite_ff ⟨H3,I3,q'⟩
 | true =>
  refine ite_tt (test_last (thnE (hc pins s3 σ H3 _ I3 q3) fun w' s4 z' H4 I4 r4 q4=>thnE (ho' pins s4 σ H4 y z' u w' _ I4 r2 r4 q4) fun d' s5 z2 H5 I5 r5 ⟨k2,e2,q5⟩ => ?_))
  subst e2
  cases r5
  exact Dp ⟨H5,I5,q5⟩
theorem zel:(sizeLine:Nat) < 2 ^ 63:=by rw [Mu]; decide
theorem op_add_str:OpR X (binaryOp .Add) (fun x y H Q=>∃ i j,x = .str i/\y = .str j/\i.length + j.length<=sizeLine/\Q (.str (i ++ j)) H):=by
 intro pins s σ H x y v u Q I rx ry h
 obtain ⟨i,j,rfl,rfl,hz,q⟩:=h
 obtain ⟨t,rfl⟩:=rx
 obtain ⟨t',rfl⟩:=ry
 exact add_str (fun t' tk=>⟨.str (i ++ j),H,I.tok _,⟨_,rfl⟩,q⟩) hz
theorem zci {x:V} {us:List A0} (r:Vals [x] us):∃ u,us = [u]/\RelV x u:=by
 cases r with
 | cons r1 r2=>cases r2; exact ⟨_,rfl,r1⟩
theorem vals2 {x y:V} {us:List A0} (r:Vals [x,y] us):∃ u w',us = [u,w']/\RelV x u/\RelV y w':=by
 cases r with
 | cons r1 r2 =>
  cases r2 with
  | cons r3 r4=>cases r4; exact ⟨_,_,rfl,r1,r3⟩
end
structure ObjM (h:Ce) (x dx C:A3) (mA:Str->Option A0):Prop where
 obj:h.get? x=some (E9 C dx)
 ns:h.Ns1 dx mA
 ne:dx≠x
theorem lookIn_ns {h:Ce} {dx:A3} {mA:Str->Option A0} (n:h.Ns1 dx mA):∃ od,h.get? dx=some od/\∀ name,Hl name od=some (mA name):=by
 obtain ⟨o,es,ep,ho,hd,hk,_,hm⟩:=n
 refine ⟨o,ho,fun name => ?_⟩
 have e:=hm name
 unfold nsFind findBy at e
 rw [<- Array.find?_toList] at e
 unfold Hl
 rw [hd]
 dsimp only
 split
 ·rename_i y q
  rw [q] at e
  exact congrArg some e
 ·rename_i q
  rw [q] at e
  have a:es.toList.any (·.refKey)=false:=by
   rw [Jd]
   intro y hy
   obtain ⟨z,t,hkey⟩:=hk y (Array.mem_toList_iff.mp hy)
   simp [Q7,hkey]
  have a':¬ es.toList.any (·.refKey)=true:=by rw [a]; exact Aa
  rw [if_neg a']
  exact congrArg some e
theorem ObjM.look {h:Ce} {x dx C:A3} {mA:Str->Option A0} (I:ObjM h x dx C mA):∃ od,PySem.W.InstAt h x (E9 C dx) C (some od)/\∀ name,Hl name od=some (mA name) :=
 let ⟨od,ho,hl⟩:=lookIn_ns I.ns
 ⟨od,⟨I.obj,rfl,rfl,ho⟩,hl⟩
section
variable {prog:Av} {w:Bu} {A:Bd} {E:A0->A4->Prop} {s:A4} {K:At} {x dx C f:A3} {mA:Str->Option A0} {name:Str} {v:A0}
theorem get_map {expr:Bool} {Q:A0->A4->Prop} (X:K.In s.heap) (I:ObjM s.heap x dx C mA) (hg:Fo K C name=true) (hh:Gc K C=true)
  (ha:Co K (.ref C) name=some none) (hv:mA name=some v) (hv':M1 v=true) (h:Q v { s with toks:=s.toks + 1 }) :
  wpAny (model prog w) A (getAttr (.ref x) name expr) Q E s:=by
 obtain ⟨od,J,hl⟩:=I.look
 exact PySem.W.get_value X J (I0 hg).1 (PySem.W.findObj_own hh ha rfl (by rw [hl,hv])) hv' h
theorem get_meth {pl:Sem Bool} {Q:A0×List A0->A4->Prop} (X:K.In s.heap) (I:ObjM s.heap x dx C mA) (hg:Fo K C name=true)
  (hf:Co K (.ref C) name=some (some (.ref f))) (ht:Gz K (.ref f)=true) (hv:mA name=none) (h:Q (.ref f,[.ref x]) s) :
  wpAny (model prog w) A (getMethod (.ref x) name pl) Q E s:=by
 obtain ⟨od,J,hl⟩:=I.look
 exact PySem.W.method_fn X J (I0 hg).1 (I0 hg).2 hf (beq_iff_eq.mp ht) (by show (Hl name od).map (·.isSome)=some false; rw [hl,hv]; rfl) h
theorem set_map {ns:List Str} {Q:Unit->A4->Prop} (X:K.In s.heap) (I:ObjM s.heap x dx C mA)
  (hs:Co K (.ref C) "__setattr__" = some (some (.builtin "object.__setattr__"))) (hp:Iw K C=true) (ht:Jh K C name=some none) (hh:Gc K C=true)
  (hw:Ky mA ns) (hsz:ns.length<=sizeLine)
  (h:∀ h',ObjM h' x dx C (fun y=>if y=name then some v else mA y)->G8 dx s.heap h'->Q () { s with heap:=h',toks:=s.toks + 2 }) :
  wpAny (model prog w) A (setAttr (.ref x) name v) Q E s:=by
 obtain ⟨od,J,hl⟩:=I.look
 refine PySem.W.set_plain X J hs (PySem.W.osa_open (s:={ s with toks:=s.toks + 1 }) (r:=none) X J hp ht fun b => ?_)
 obtain ⟨cd,hc,hd'⟩:=PySem.W.any_some hh
 have hx:s.heap.get? x=some ⟨.ref C,some dx,.plain,#[]⟩:=I.obj
 refine A6 (Aq (A6 (A6 (wpAny_loadPart hx (A6 (O1 (s:={ s with toks:=s.toks + 1 }) (PySem.W.looks_clsIn X hc) ?_))))))
 rw [hd']
 refine Aq (a:=some dx) (A6 (Aq (A6 ?_)))
 refine wpAny_nsSet1 (s:={ s with toks:=s.toks + 1 }) I.ns fun h' hn2 hs2 => ?_
 obtain ⟨oD,esD,epD,hoD,hdD,hcD⟩:=hn2.count (Oh name v hw)
 refine A6 (wpAny_lookBehind hoD (by rw [hdD]; exact pastItsLine_dict (Bv hcD (by rw [As]; omega))) ?_)
 exact Aq (h _ ⟨(hs2.2 _ (Dm I.ne)).trans I.obj,hn2,I.ne⟩ hs2)
theorem make_map {R:Result->A4->Prop} {vs:List A0} {kw:List (Str×A0)} (X:K.In s.heap) (hm:Ji K C=true)
  (hi:Co K (.ref C) "__init__" = some (some (.ref f))) (hf:PySem.W.typeIn K (.ref f)=some (.type "function"))
  (h:codeAny (model prog w) (A.under (.builtin "type.__call__" ⟨.ref C :: vs,kw⟩)) (.call (.ref f) ⟨.ref (s.heap.objs.size + 1) :: vs,kw⟩) (PySem.W.InitBack (s.heap.objs.size + 1) R)
   { s with heap:=(s.heap.push Dk).push (E9 C s.heap.objs.size) }) :
  codeAny (model prog w) A (.call (.ref C) ⟨vs,kw⟩) R s:=by
 obtain ⟨hh,g,d,t,os⟩:=s
 exact PySem.W.make_core (PySem.W.makes_of X hm) (PySem.W.looks_findIn X hi) (fun self=>PySem.W.bind_fn X self hf) (.inl rfl) h
end
noncomputable def putF (f:Str) (v:V):List (Str×V)->List (Str×V)
 | [] => [(f,v)]
 | (g,x) :: r=>if g=f then (g,v) :: r else (g,x) :: putF f v r
theorem zdR (f g:Str) (v:V):∀ fs:List (Str×V),(putF f v fs).lookup g=if g=f then some v else fs.lookup g
 | []=>by
  show Ez g [(f,v)]=_
  by_cases h:g=f
  ·have hb:(g == f)=true:=beq_iff_eq.mpr h
   simp only [Ez,hb,if_pos h]
  ·have hb:(g == f)=false:=beq_eq_false_iff_ne.mpr h
   simp only [Ez,hb,if_neg h]
 | (k,x) :: r=>by
  have ih:=zdR f g v r
  rw [show putF f v ((k,x) :: r)=(if k=f then (k,v) :: r else (k,x) :: putF f v r) from rfl]
  by_cases hk:k=f
  ·rw [if_pos hk]
   by_cases h:g=k
   ·have hb:(g == k)=true:=beq_iff_eq.mpr h
    simp only [Ez,hb,if_pos (h.trans hk)]
   ·have hb:(g == k)=false:=beq_eq_false_iff_ne.mpr h
    simp only [Ez,hb,if_neg (fun e:g=f=>h (e.trans hk.symm))]
  ·rw [if_neg hk]
   by_cases h:g=k
   ·have hb:(g == k)=true:=beq_iff_eq.mpr h
    simp only [Ez,hb,if_neg (fun e:g=f=>hk (h.symm.trans e))]
   ·have hb:(g == k)=false:=beq_eq_false_iff_ne.mpr h
    simp only [Ez,hb]
    exact ih
theorem zdU (f:Str) (v:V):∀ fs:List (Str×V),f∈(putF f v fs).map (·.1)/\∀ g,g∈fs.map (·.1)->g∈(putF f v fs).map (·.1)
 | []=>⟨by simp [putF],fun g h=>by simp at h⟩
 | (k,x) :: r=>by
  obtain ⟨i1,i2⟩:=zdU f v r
  rw [show putF f v ((k,x) :: r)=(if k=f then (k,v) :: r else (k,x) :: putF f v r) from rfl]
  by_cases hk:k=f
  ·rw [if_pos hk]
   subst hk
   exact ⟨by simp,fun g h=>by simpa using h⟩
  ·rw [if_neg hk]
   refine ⟨?_,fun g h => ?_⟩
   ·rw [Al]
    exact Ak _ i1
   ·rw [Al] at h ⊢
    rcases Bc.mp h with e | e
    ·exact Bc.mpr (.inl e)
    ·exact Ak _ (i2 g e)
theorem zdS (f:Str) (v:V):∀ fs:List (Str×V),(putF f v fs).length<=fs.length + 1
 | []=>by simp [putF]
 | (k,x) :: r=>by
  have ih:=zdS f v r
  rw [show putF f v ((k,x) :: r)=(if k=f then (k,v) :: r else (k,x) :: putF f v r) from rfl]
  by_cases hk:k=f
  ·rw [if_pos hk,As,As]; omega
  ·rw [if_neg hk,As,As]; omega
theorem RelO.some_of {v:V} {o:Option A0} (r:RelO (some v) o):∃ u,o=some u/\RelV v u:=by
 cases o with
 | none=>exact (show False from r).elim
 | some u=>exact ⟨u,rfl,r⟩
theorem RelO.none_of {o:Option A0} (r:RelO none o):o=none:=by
 cases o with
 | none=>rfl
 | some u=>exact (show False from r).elim
theorem handed_of {v:V} {u:A0} (r:RelV v u):M1 u=true:=by
 cases v with
 | non=>cases (show u=Ee from r); rfl
 | bl b=>cases (show u=F7 b from r); rfl
 | int i=>obtain ⟨t,e⟩:=(show ∃ t,u=Ie i t from r); cases e; rfl
 | str x=>obtain ⟨t,e⟩:=(show ∃ t,u=Jg x t from r); cases e; rfl
 | byt b=>obtain ⟨t,e⟩:=(show ∃ t,u=Nv b t from r); cases e; rfl
 | flt b=>obtain ⟨t,e⟩:=(show ∃ t,u=Lg b t from r); cases e; rfl
 | ref a=>cases (show u=Bq a from r); rfl
 | ty n=>cases (show u=Nz n from r); rfl
section
variable {P:Av} {w:Bu} {H H':Hp} {h h':Ce} {a C dx:A3} {fs fs':List (Str×V)}
theorem zeT (hok:HOk P w H h) (e:H a=some (.ins C dx fs)):∃ mA,ObjM h a dx C mA/\(∀ f,RelO (fs.lookup f) (mA f))/\Ky mA (fs.map (·.1))/\fs.length<=1000/\H dx=some (.own a):=by
 obtain ⟨d,z,ne,ob,mA,n,r,q⟩:=(show ObjOk P w H h a (.ins C dx fs) from hok a _ e)
 exact ⟨mA,⟨ob,n,ne⟩,r,q,z,d⟩
end
structure Cls (K:At) (C:A3):Prop where
 pg:Fo K C Pi=true
 hd:Gc K C=true
 po:Iw K C=true
 sa:Co K (.ref C) "__setattr__" = some (some (.builtin "object.__setattr__"))
theorem Cls.get {K:At} {C:A3} (c:Cls K C) (f:Str):Fo K C f=true:=c.pg
noncomputable def NoAttr (K:At) (C:A3) (f:Str):Prop:=Co K (.ref C) f=some none
theorem NoAttr.taker {K:At} {C:A3} {f:Str} (n:NoAttr K C f):Jh K C f=some none:=by
 unfold Jh
 rw [show Co K (.ref C) f=some none from n]
 rfl
structure Meth (K:At) (C:A3) (m:Str) (f:A3):Prop where
 at_:Co K (.ref C) m=some (some (.ref f))
 fn:Gz K (.ref f)=true
 kp:Dj K (.ref f)=true
section
variable {X:Cx} {pins:List (A3×Obj)} {σ : St} {H:Hp} {s:A4} {a C dx:A3} {fs:List (Str×V)} {f:Str} {v:V} {A:Bd} {E:A0->A4->Prop}
theorem getattr_ok {b:Bool} {Q:A0->A4->Prop} (I:Inv X pins σ H s) (e:H a=some (.ins C dx fs)) (c:Cls X.K C) (n:NoAttr X.K C f) (l:fs.lookup f=some v)
  (h:∀ u s',Inv X pins σ H s'->RelV v u->Q u s'):wpAny (model X.prog X.w) A (getAttr (.ref a) f b) Q E s:=by
 obtain ⟨mA,O,r,_,_,_⟩:=zeT I.hok e
 obtain ⟨u,hu,ru⟩:=RelO.some_of (v:=v) (o:=mA f) (by rw [<- l]; exact r f)
 exact get_map I.kIn O (c.get f) c.hd n hu (handed_of ru) (h u _ (I.tok _) ru)
theorem zer {m:Str} {g:A3} {pl:Sem Bool} {Q:A0×List A0->A4->Prop} (I:Inv X pins σ H s) (e:H a=some (.ins C dx fs)) (c:Cls X.K C) (k:Meth X.K C m g) (l:fs.lookup m=none)
  (h:Q (.ref g,[.ref a]) s):wpAny (model X.prog X.w) A (getMethod (.ref a) m pl) Q E s:=by
 obtain ⟨mA,O,r,_,_,_⟩:=zeT I.hok e
 have hn:mA m=none:=RelO.none_of (by rw [<- l]; exact r m)
 exact get_meth I.kIn O (c.get m) k.at_ k.fn hn h
theorem setattr_ok {y:V} {u:A0} {Q:Unit->A4->Prop} (I:Inv X pins σ H s) (e:H a=some (.ins C dx fs)) (c:Cls X.K C) (n:NoAttr X.K C f) (hl:fs.length < 1000) (ry:RelV y u)
  (h:∀ s',Inv X pins σ (upd H a (.ins C dx (putF f y fs))) s'->Q () s'):wpAny (model X.prog X.w) A (setAttr (.ref a) f u) Q E s:=by
 obtain ⟨mA,O,r,wi,_,ho⟩:=zeT I.hok e
 have hz:(fs.map (·.1)).length<=sizeLine:=by rw [A1,Mu]; omega
 refine set_map I.kIn O c.sa c.po n.taker c.hd wi hz fun h' O' sb=>h _ ?_
 have hd:∃ o,h'.get? dx=some o:=let ⟨o,_,_,e',_⟩:=O'.ns; ⟨o,e'⟩
 refine I.write (x:=a) (e:=dx) (by rw [e]; exact Ef) (.inr ho) (fun b q hb z=>(sb.2 b hb).trans z) hd ?_
 refine ⟨by rw [zaf O.ne]; exact ho,?_,O.ne,O'.obj,_,O'.ns,fun g => ?_,fun g hg => ?_⟩
 ·have:=zdS f y fs; omega
 ·show RelO ((putF f y fs).lookup g) (if g=f then some u else mA g)
  rw [zdR]
  by_cases q:g=f
  ·rw [if_pos q,if_pos q]; exact ry
  ·rw [if_neg q,if_neg q]; exact r g
 ·by_cases q:g=f
  ·rw [q]; exact (zdU f y fs).1
  ·refine (zdU f y fs).2 g (wi g fun z=>hg ?_)
   show (if g=f then some u else mA g)=none
   rw [if_neg q]; exact z
theorem Inv.made (I:Inv X pins σ H s):Inv X pins σ (upd (upd H s.heap.objs.size (.own (s.heap.objs.size + 1))) (s.heap.objs.size + 1) (.ins C s.heap.objs.size []))
  { s with heap:=(s.heap.push Dk).push (E9 C s.heap.objs.size) }:=by
 have e1:(s.heap.push Dk).get? s.heap.objs.size=some Dk:=Bh s.heap rfl
 have e2:((s.heap.push Dk).push (E9 C s.heap.objs.size)).get? (s.heap.objs.size + 1)=some (E9 C s.heap.objs.size):=by
  have:=Bh (s.heap.push Dk) (o:=E9 C s.heap.objs.size) rfl
  rwa [Fl] at this
 have e3:(s.heap.push Dk).Ns s.heap.objs.size (fun _=>none):=⟨Dk,#[],_,e1,rfl,(fun e he=>absurd he (by simp)),fun _=>rfl⟩
 have I1:=I.laid (a:=s.heap.objs.size) (o := .own (s.heap.objs.size + 1)) (h':=s.heap.push Dk) (t':=s.toks) (fun b u q=>Ag _ q) (A9 _) ⟨_,e1⟩
 refine I1.laid (a:=s.heap.objs.size + 1) (o := .ins C s.heap.objs.size []) (t':=s.toks) (fun b u q=>Ag _ q) (Ob (Fl _ _)) ?_
 have ne:s.heap.objs.size≠s.heap.objs.size + 1:=Bs (Em _)
 refine ⟨by rw [zaf ne,upd_same],By _,ne,e2,fun _=>none,(Heap.Ns1.of_empty e3).at fun o q=>Ag _ q,fun _=>Ef,fun y hy=>absurd rfl hy⟩
theorem attr_of {prog:Av} {w:Bu} {env:Env} {e:Cc} {f:Str} {pos:Pos} {s:A4} {Q:A0->A4->Prop} (hb:attributeBase e f env (eval e env)=eval e env)
  (h:wpAny (model prog w) A (eval e env) (fun o s₁ => wpAny (model prog w) A (getAttr o f true) Q E s₁) E s):wpAny (model prog w) A (eval (.Attribute e f pos) env) Q E s :=
 Attribute_any_ h (by rw [arm_eval_Attribute,hb])
end
noncomputable def tFld (K:At) (ta:TE) (f:Str):TE:=fun σ H Q=>ta σ H fun x H1=>∃ a C dx fs v,x = .ref a/\H1 a=some (.ins C dx fs)/\Cls K C/\NoAttr K C f/\fs.lookup f=some v/\Q v H1
noncomputable def sFld (K:At) (ta tv:TE) (f:Str):TS:=fun D σ H=>tv σ H fun y H1=>ta σ H1 fun x H2=>∃ a C dx fs,x = .ref a/\H2 a=some (.ins C dx fs)/\Cls K C/\NoAttr K C f/\fs.length < 1000 /\
 D.nx σ (upd H2 a (.ins C dx (putF f y fs)))
section
variable {X:Cx} {o e value:Cc} {f:Str} {pos pos' tpos:Pos} {ta tv:TE}
theorem zbG (he:PE X e ta) (hb:attributeBase e f X.env (eval e X.env)=eval e X.env):PE X (.Attribute e f pos) (tFld X.K ta f):=by
 intro pins s σ H Q I h
 refine attr_of hb (thnE (he pins s σ H _ I h) fun u s1 x H1 I1 rx ⟨a,C,dx,fs,v,ex,ea,c,n,l,q⟩ => ?_)
 subst ex
 obtain rfl:u=Bq a:=rx
 exact getattr_ok I1 ea c n l fun u' s2 I2 ru=>⟨v,H1,I2,ru,q⟩
theorem zgr (ha:PE X o ta) (hv:PE X value tv) (hs:swapsWith value (some (.Attribute o f pos')) pos.line X.env=pure false):PS X (.Assign [.Attribute o f pos'] value pos) (sFld X.K ta tv f):=by
 intro pins s σ H D I h
 refine plainObj_wpAny_Assign_Attribute (thnE (hv pins s σ H _ I h) fun u s1 y H1 I1 ry q=>thnE (ha pins s1 σ H1 _ I1 q) fun ov s2 x H2 I2 rx ⟨a,C,dx,fs,ex,ea,c,n,l,q2⟩ => ?_) hs
 subst ex
 obtain rfl:ov=Bq a:=rx
 exact setattr_ok I2 ea c n l ry fun s3 I3=>⟨σ,_,I3,q2⟩
end
section
variable {X:Cx} {pins:List (A3×Obj)} {σ : St} {H:Hp} {s:A4} {A:Bd} {E:A0->A4->Prop} {Q:A0->A4->Prop} {c:A0} {b:Bool}
inductive TyOf (K:At) (H:Hp):V->A0->Prop where
 | non:TyOf K H .non (.type "NoneType")
 | bl (x:Bool):TyOf K H (.bl x) (.type "bool")
 | int (i:Int):TyOf K H (.int i) (.type "int")
 | str (x:Str):TyOf K H (.str x) (.type "str")
 | flt (x:UInt64):TyOf K H (.flt x) (.type "float")
 | lst {a:A3} {xs:List V} (e:H a=some (.lst xs)):TyOf K H (.ref a) (.type "list")
 | frz {a:A3} {o:Obj} {xs:List V} (e:H a=some (.frz o (.lst xs))):TyOf K H (.ref a) (.type "list")
 | tup {a:A3} {xs:List V} (e:H a=some (.tup xs)):TyOf K H (.ref a) (.type "tuple")
 | dK {a:A3} {kvs:List (Key×V)} (e:H a=some (.dK kvs)):TyOf K H (.ref a) (.type "dict")
 | dT {a:A3} {kvs:List (List Key×V)} (e:H a=some (.dT kvs)):TyOf K H (.ref a) (.type "dict")
 | ins {a C dx:A3} {fs:List (Str×V)} (e:H a=some (.ins C dx fs)) (cl:Cls K C) (ha:Co K (.ref C) "__class__" = some (some (.builtin "object.__class__")))
   (hn:PySem.W.specialIn K (.builtin "object.__class__") "__get__" = some (some (.builtin "getset_descriptor.__get__"))) (htk:PySem.W.takesIn K (.builtin "object.__class__")=some true)
   (hm:PySem.W.mroIn K C (.type "object")=some true):TyOf K H (.ref a) (.ref C)
theorem isinst_ok {x:V} {u t:A0} (I:Inv X pins σ H s) (rx:RelV x u) (ty:TyOf X.K H x t) (e:Jt X.K t c=some b) (h:∀ tk,Q (.bool b) { s with toks:=tk }) :
  wpAny (model X.prog X.w) A (call (.builtin "isinstance") [u,c]) Q E s:=by
 cases ty with
 | non=>cases (show u=Ee from rx); exact De PySem.W.kitx_none I.kIn Ef e (fun z=>nomatch z) h
 | bl y=>cases (show u=F7 y from rx); exact De PySem.W.kitx_bool I.kIn Ef e (fun z=>nomatch z) h
 | int i=>obtain ⟨t,q⟩:=(show ∃ t,u=Ie i t from rx); cases q; exact De PySem.W.kitx_int I.kIn Ef e (fun z=>nomatch z) h
 | str y=>obtain ⟨t,q⟩:=(show ∃ t,u=Jg y t from rx); cases q; exact De PySem.W.kitx_str I.kIn Ef e (fun z=>nomatch z) h
 | flt y=>obtain ⟨t,q⟩:=(show ∃ t,u=Lg y t from rx); cases q; exact De PySem.W.kitx_float I.kIn Ef e (fun z=>nomatch z) h
 | @lst a xs ea =>
  cases (show u=Bq a from rx)
  obtain ⟨_,_,n,_,h1⟩:=(show ObjOk X.prog X.w H s.heap a (.lst xs) from I.hok a _ ea)
  exact De Lo I.kIn ⟨_,h1,rfl⟩ e (fun z=>nomatch z) h
 | @frz a ob xs ea =>
  cases (show u=Bq a from rx)
  obtain ⟨_,_,_,n,_,h1⟩:=(show ObjOk X.prog X.w H s.heap a (.frz ob (.lst xs)) from I.hok a _ ea)
  exact De Lo I.kIn ⟨_,h1,rfl⟩ e (fun z=>nomatch z) h
 | @tup a xs ea =>
  cases (show u=Bq a from rx)
  obtain ⟨_,_,_,p⟩:=(show ObjOk X.prog X.w H s.heap a (.tup xs) from I.hok a _ ea)
  obtain ⟨o,h1,h2,_⟩:=p
  exact De PySem.W.kitx_tuple I.kIn ⟨o,h1,h2⟩ e (fun z=>nomatch z) h
 | @dK a kvs ea =>
  cases (show u=Bq a from rx)
  obtain ⟨_,_,vs,_,p⟩:=(show ObjOk X.prog X.w H s.heap a (.dK kvs) from I.hok a _ ea)
  obtain ⟨o,es,ep,h1,h2,_⟩:=p
  exact De Lp I.kIn ⟨o,h1,h2.1⟩ e (fun z=>nomatch z) h
 | @dT a kvs ea =>
  cases (show u=Bq a from rx)
  obtain ⟨_,_,xs,_,o,es,ep,h1,h2,_⟩:=(show ObjOk X.prog X.w H s.heap a (.dT kvs) from I.hok a _ ea)
  exact De Lp I.kIn ⟨o,h1,h2.1⟩ e (fun z=>nomatch z) h
 | @ins a C dx fs ea cl ha hn htk hm =>
  cases (show u=Bq a from rx)
  obtain ⟨mA,O,_⟩:=zeT I.hok ea
  obtain ⟨od,J,_⟩:=O.look
  exact De (PySem.W.kitx_own (cl.get _) cl.hd ha hn htk hm) I.kIn J e (fun z=>nomatch z) h
end
structure Room (k:Nat) (A:Bd):Prop where
 hd:A.handled=none
 dp:A.depth + 3 * k + 5 < recursionLimit
 un:A.units + 16 * k + 200 < cLine
theorem Room.mono {j k:Nat} {A:Bd} (r:Room k A) (h:j<=k):Room j A:=⟨r.hd,by have:=r.dp; omega,by have:=r.un; omega⟩
theorem Room.deeper {k:Nat} {A:Bd} (r:Room (k + 1) A) (env:Env):Room k (A.deeper env) :=
 ⟨r.hd,by have:=r.dp; show A.depth + 1 + 3 * k + 5 < _; omega,by have:=r.un; show A.units + 3 + 16 * k + 200 < _; omega⟩
theorem make_depth {A:Bd} {C:A3} {us:List A0} {kw:List (Str×A0)}:(A.under (.builtin "type.__call__" ⟨.ref C :: us,kw⟩)).depth=A.depth + 1:=by
 first | rfl | simp [Kv,Code.weight,Code.isCreation,Code.isGuard,Code.isCaller,Od,Ld,guardIds]
theorem make_units {A:Bd} {C:A3} {us:List A0} {kw:List (Str×A0)}:(A.under (.builtin "type.__call__" ⟨.ref C :: us,kw⟩)).units=A.units + 1:=by
 first | rfl | simp [Kv,Code.cUnits,Od,Ld]
theorem Room.make {k:Nat} {A:Bd} (r:Room (k + 1) A) (C:A3) (us:List A0) (kw:List (Str×A0)):Room k (A.under (.builtin "type.__call__" ⟨.ref C :: us,kw⟩)) :=
 ⟨r.hd,by have:=r.dp; rw [make_depth]; omega,by have:=r.un; rw [make_units]; omega⟩
theorem Room.depth {k:Nat} {A:Bd} (r:Room k A):A.depth < recursionLimit:=by have:=r.dp; omega
theorem Room.units {k:Nat} {A:Bd} (r:Room k A):A.units + 64 < cLine:=by have:=r.un; omega
noncomputable def tNil:TA:=fun _ H Q=>Q [] H
noncomputable def tCons (ta:TE) (tr:TA):TA:=fun σ H Q=>ta σ H fun x H1=>tr σ H1 fun xs H2=>Q (x :: xs) H2
section
variable {X:Cx} {e:Cc} {es:List Cc} {te:TE} {t:TA} {pos:Pos}
theorem zad:PA X [] tNil:=fun _ _ _ _ H Q I h=>M9 ⟨[],H,I,.nil,h⟩
theorem zaa (ha:PE X e te) (hr:PA X es t) (hs:starEach (e :: es) X.env=(false,eval e X.env) :: starEach es X.env:=by rfl):PA X (e :: es) (tCons te t):=by
 intro pos pins s σ H Q I h
 rw [hs]
 show wpAny _ _ (spliced ((false,eval e X.env) :: backTo pos (starEach es X.env))) _ _ s
 refine Iy (thnE (ha pins s σ H _ I h) fun u s1 x H1 I1 r1 q1 => ?_)
 exact thnE (hr pos pins s1 σ H1 _ I1 q1) fun us s2 xs H2 I2 r2 q2=>⟨x :: xs,H2,I2,.cons r1 r2,q2⟩
noncomputable def tTup (t:TA):TE:=fun σ H Q=>t σ H fun xs H1=>xs.length<=sizeLine/\∀ p,H1 p=none->Q (.ref p) (upd H1 p (.tup xs))
noncomputable def tLst (t:TA):TE:=fun σ H Q=>t σ H fun xs H1=>xs.length<=sizeLine/\∀ p,H1 p=none->Q (.ref p) (upd H1 p (.lst xs))
theorem zbp {x1} (h:PA X es t):PE X (.Tuple es x1 pos) (tTup t):=by
 intro pins s σ H Q I hq
 refine wpAny_Tuple_spliced (thnE (h pos pins s σ H _ I hq) fun us s1 xs H1 I1 r ⟨z,q⟩=>⟨by rw [<- r.length]; exact z,?_⟩)
 have hf:H1 s1.heap.objs.size=none:=I1.hok.fresh (A9 _)
 refine ⟨.ref s1.heap.objs.size,upd H1 s1.heap.objs.size (.tup xs),I1.laid (t':=s1.toks) (fun b u e=>Ag _ e) (A9 _) ?_,rfl,q _ hf⟩
 exact ⟨z,us,r,⟨_,Bh _ rfl,rfl,_,rfl⟩⟩
theorem zaB (h:PA X es t):PE X (.List es pos) (tLst t):=by
 intro pins s σ H Q I hq
 refine wpAny_List_spliced (thnE (h pos pins s σ H _ I hq) fun us s1 xs H1 I1 r ⟨z,q⟩=>⟨by rw [<- r.length]; exact z,?_⟩)
 have hf:H1 s1.heap.objs.size=none:=I1.hok.fresh (A9 _)
 refine ⟨.ref s1.heap.objs.size,upd H1 s1.heap.objs.size (.lst xs),I1.laid (t':=s1.toks) (fun b u e=>Ag _ e) (A9 _) ?_,rfl,q _ hf⟩
 exact ⟨z,us,0,r,Bh _ rfl⟩
end
noncomputable abbrev Sp:=List V->Hp->VK->XK->Prop
noncomputable abbrev CXT:=List Env->Hp->A4->XK->A0->A4->Prop
structure Env0 (P:Av) (w:Bu) (K:At) (mg:Str->Option A0) (base:Ce) (A:Bd) (outer:List Env) (s:A4) (H:Hp):Prop where
 frames:A.frames=some outer
 mod:Mod K mg base
 bs:∀ b o,base.get? b=some o->s.heap.get? b=some o/\H b=none
 bsz:base.objs.size<=s.heap.objs.size
 funs:s.heap.FunFrames base outer
 frf:∀ b∈frs outer,H b=none
 hok:HOk P w H s.heap
 bare:Gq s.gens
noncomputable def CE (outer:List Env) (P:Av) (w:Bu) (H:Hp) (s:A4) (Q:VK) (u:A0) (s':A4):Prop :=
 ∃ v H',s'.os=s.os/\Gq s'.gens/\Un (frs outer) [] H H' s.heap s'.heap/\HOk P w H' s'.heap/\RelV v u/\Q v H'
noncomputable def CR (CX:CXT) (outer:List Env) (P:Av) (w:Bu) (H:Hp) (s:A4) (Q:VK) (E:XK) (r:Result) (s':A4):Prop :=
 match r with
 | .ok (.ret u)=>CE outer P w H s Q u s'
 | .ok _=>False
 | .error e=>CX outer H s E e s'
structure FnOk (P:Av) (w:Bu) (K:At) (mg:Str->Option A0) (base:Ce) (CX:CXT) (k:Nat) (f:A3) (fd:Ej) (ps:List Str) (sp:Sp):Prop where
 len:∀ vs H Q E,sp vs H Q E->vs.length=ps.length
 run:∀ (A:Bd) (outer:List Env) (s:A4) (H:Hp) (args:Args) (us:List A0) (vs:List V) (Q:VK) (E:XK),Room k A->Env0 P w K mg base A outer s H->K4 s fd args (ps.zip us)->Vals vs us->sp vs H Q E ->
  codeAny (model P w) A (.call (.ref f) args) (CR CX outer P w H s Q E) s
theorem Env0.make {P:Av} {w:Bu} {K:At} {mg:Str->Option A0} {base:Ce} {A:Bd} {outer:List Env} {s:A4} {H:Hp} (e:Env0 P w K mg base A outer s H) (C:A3) (us:List A0) (kw:List (Str×A0)) :
  Env0 P w K mg base (A.under (.builtin "type.__call__" ⟨.ref C :: us,kw⟩)) outer s H:=⟨by first | exact e.frames | (simpa [Kv,Code.envs,Ld,pushEnvs] using e.frames),e.mod,e.bs,e.bsz,e.funs,e.frf,e.hok,e.bare⟩
section
variable {X:Cx} {pins:List (A3×Obj)} {σ : St} {H:Hp} {s s':A4}
theorem Inv.env0 (I:Inv X pins σ H s):Env0 X.prog X.w X.K X.mg X.base X.A X.stack s H :=
 ⟨I.ok.frames,I.ok.mod,I.bs,Bv I.ok.bsz I.sz,I.stack,I.stkFree,I.hok,I.bare⟩
theorem Inv.after {Q:VK} {u:A0} (I:Inv X pins σ H s) (h:CE X.stack X.prog X.w H s Q u s'):EP X pins σ Q u s':=by
 obtain ⟨v,H',os,bare,un,hok,r,q⟩:=h
 obtain ⟨hh,g,d,t,os'⟩:=s'
 obtain rfl:os'=s.os:=os
 exact ⟨v,H',I.call (h':=hh) (g':=g) (d':=d) (t':=t) (ch := []) un hok bare (fun b z=>absurd z (by simp)),r,q⟩
end
noncomputable def tCall (sp:Sp) (dvs:List V) (E:XK) (t:TA):TE:=fun σ H Q=>t σ H fun vs H1=>sp (vs ++ dvs) H1 Q E
noncomputable def tMeth (C:A3) (m:Str) (sp:Sp) (dvs:List V) (E:XK) (ta:TE) (t:TA):TE:=fun σ H Q=>ta σ H fun x H1=>∃ a dx fs,x = .ref a/\H1 a=some (.ins C dx fs)/\fs.lookup m=none /\
 t σ H1 fun vs H2=>sp (x :: (vs ++ dvs)) H2 Q E
noncomputable def tMake (C:A3) (sp:Sp) (dvs:List V) (E:XK) (t:TA):TE:=fun σ H Q=>t σ H fun vs H1=>∀ x dx,H1 x=none->H1 dx=none->dx≠x ->
 sp (.ref x :: (vs ++ dvs)) (upd (upd H1 dx (.own x)) x (.ins C dx [])) (fun v H2=>v = .non/\Q (.ref x) H2) E
noncomputable def Binds (K:At) (fd:Ej) (ps:List Str) (ds:List A0):Prop :=
 ∀ (s:A4) (us:List A0),K.In s.heap->(us ++ ds).length=ps.length->K4 s fd ⟨us,[]⟩ (ps.zip (us ++ ds))
theorem Binds.all {K:At} {fd:Ej} {ps:List Str} (h:∀ us:List A0,us.length=ps.length->bindArgs fd ⟨us,[]⟩=pure (ps.zip us)):Binds K fd ps []:=fun s us _ hl=>by
 rw [Cq] at hl ⊢
 exact .of_eq (h us hl)
noncomputable def Passes (CX:CXT) (X:Cx) (E:XK):Prop:=∀ (pins:List (A3×Obj)) (σ : St) (H:Hp) (s:A4) (e:A0) (s':A4),Inv X pins σ H s->CX X.stack H s E e s'->X.xe e s'
section
variable {X:Cx} {CX:CXT} {k:Nat} {f C:A3} {fd:Ej} {ps:List Str} {sp:Sp} {dvs:List V} {ds:List A0} {E:XK} {x m:Str} {p pos apos:Pos} {e o:Cc} {es:List Cc} {ta:TE} {t:TA}
theorem zha {pins:List (A3×Obj)} {σ : St} {H:Hp} {s:A4} {Q:VK} {us:List A0} {vs:List V} (F:FnOk X.prog X.w X.K X.mg X.base CX k f fd ps sp) (hr:Room k X.A) (hb:Binds X.K fd ps ds) (hd:Vals dvs ds) (hx:Passes CX X E)
  (I:Inv X pins σ H s) (r:Vals vs us) (h:sp (vs ++ dvs) H Q E):wpAny (model X.prog X.w) X.A (call (.ref f) us) (EP X pins σ Q) X.xe s:=by
 have r2:Vals (vs ++ dvs) (us ++ ds):=r.append hd
 have hl:(us ++ ds).length=ps.length:=by rw [<- r2.length]; exact F.len _ _ _ _ h
 refine wpAny_call (K0 (F.run X.A X.stack s H ⟨us,[]⟩ (us ++ ds) (vs ++ dvs) Q E hr I.env0 (hb s us I.kIn hl) r2 h) fun r s' hq => ?_)
 cases r with
 | error e=>exact hx pins σ H s e s' I hq
 | ok fl =>
  cases fl with
  | ret u=>exact I.after hq
  | next=>exact E7 hq
  | brk=>exact E7 hq
  | cont=>exact E7 hq
theorem zhh (F:FnOk X.prog X.w X.K X.mg X.base CX k f fd ps sp) (hr:Room k X.A) (hg:Gl X x) (hm:X.mg x=some (.ref f)) (hk:Dj X.K (.ref f)=true) (hb:Binds X.K fd ps ds) (hd:Vals dvs ds) (hx:Passes CX X E)
  (ha:PA X (e :: es) t) (hdb:(x == ("__debug__" : Str))=false:=by decide) (he:starEach (e :: es) X.env=(false,eval e X.env) :: starEach es X.env:=by rfl) (hpl:(backTo pos (starEach es X.env)).any (·.1)=false:=by rfl) :
  PE X (.Call (.Name x p) (e :: es) [] pos) (tCall sp dvs E t):=by
 intro pins s σ H Q I h
 refine Gx (zeQ I hg hm ?_ hdb)
 refine Lh (h₀ := X.base) I.ok.mod.kin hk (thnE (ha pos pins s σ H _ I h) fun us s1 vs H1 I1 r q=>⟨I1.kIn,?_⟩) he hpl
 exact zha F hr hb hd hx I1 r q
theorem pe_meth {pl:Sem Bool} (he:PE X o ta) (c:Cls X.K C) (hm:Meth X.K C m f) (F:FnOk X.prog X.w X.K X.mg X.base CX k f fd ps sp) (hr:Room k X.A) (hb:Binds X.K fd ps ds) (hd:Vals dvs ds) (hx:Passes CX X E) (ha:PA X (e :: es) t)
  (hst:starEach (e :: es) X.env=(false,eval e X.env) :: starEach es X.env:=by rfl) (hpl:(backTo pos (starEach es X.env)).any (·.1)=false:=by rfl)
  (ht:eval (.Call (.Attribute o m apos) (e :: es) [] pos) X.env=(do
   let ov <- eval o X.env
   standAt apos.atName
   let (f,first) <- holding [ov] (getMethod ov m pl)
   callWith pos f first (backTo pos (starEach (e :: es) X.env)) (backToKw pos (keywordEach [] X.env))):=by rfl) :
  PE X (.Call (.Attribute o m apos) (e :: es) [] pos) (tMeth C m sp dvs E ta t):=by
 intro pins s σ H Q I h
 refine Kn (pl:=pl) (thnE (he pins s σ H _ I h) fun u s1 x H1 I1 rx ⟨a,dx,fs,ex,ea,l,q⟩ => ?_) ht
 subst ex
 obtain rfl:u=Bq a:=rx
 refine zer I1 ea c hm l ?_
 refine Lh (first := [.ref a]) (h₀ := X.base) I.ok.mod.kin hm.kp (thnE (ha pos pins s1 σ H1 _ I1 q) fun us s2 vs H2 I2 r q2=>⟨I2.kIn,?_⟩) hst hpl
 exact zha (us := .ref a :: us) (vs := .ref a :: vs) F hr hb hd hx I2 (.cons rfl r) q2
theorem pe_meth0 {pl:Sem Bool} (he:PE X o ta) (c:Cls X.K C) (hm:Meth X.K C m f) (F:FnOk X.prog X.w X.K X.mg X.base CX k f fd ps sp) (hr:Room k X.A) (hb:Binds X.K fd ps ds) (hd:Vals dvs ds) (hx:Passes CX X E)
  (ht:eval (.Call (.Attribute o m apos) [] [] pos) X.env=(do
   let ov <- eval o X.env
   standAt apos.atName
   let (f,first) <- holding [ov] (getMethod ov m pl)
   callWith pos f first (backTo pos (starEach [] X.env)) (backToKw pos (keywordEach [] X.env))):=by rfl) :
  PE X (.Call (.Attribute o m apos) [] [] pos) (tMeth C m sp dvs E ta tNil):=by
 intro pins s σ H Q I h
 refine Kn (pl:=pl) (thnE (he pins s σ H _ I h) fun u s1 x H1 I1 rx ⟨a,dx,fs,ex,ea,l,q⟩ => ?_) ht
 subst ex
 obtain rfl:u=Bq a:=rx
 refine zer I1 ea c hm l ?_
 exact L4 (first := [.ref a]) I1.kIn hm.kp (zha (us := [.ref a]) (vs := [.ref a]) F hr hb hd hx I1 (.cons rfl .nil) q)
structure Mk (K:At) (C f:A3):Prop where
 makes:Ji K C=true
 init:Co K (.ref C) "__init__" = some (some (.ref f))
 fn:Gz K (.ref f)=true
 kp:Dj K (.ref C)=true
theorem run_make {pins:List (A3×Obj)} {σ : St} {H:Hp} {s:A4} {Q:VK} {us:List A0} {vs:List V} (M:Mk X.K C f) (F:FnOk X.prog X.w X.K X.mg X.base CX k f fd ps sp) (hr:Room (k + 1) X.A) (hb:Binds X.K fd ps ds) (hd:Vals dvs ds)
  (hx:Passes CX X E) (I:Inv X pins σ H s) (r:Vals vs us)
  (h:∀ x dx,H x=none->H dx=none->dx≠x->sp (.ref x :: (vs ++ dvs)) (upd (upd H dx (.own x)) x (.ins C dx [])) (fun v H2=>v = .non/\Q (.ref x) H2) E) :
  wpAny (model X.prog X.w) X.A (call (.ref C) us) (EP X pins σ Q) X.xe s:=by
 have hq:=h (s.heap.objs.size + 1) s.heap.objs.size (I.hok.fresh (M4 _)) (I.hok.fresh (A9 _)) (Bs (Em _))
 have I2:=Inv.made (C:=C) I
 have r2:Vals (V.ref (s.heap.objs.size + 1) :: (vs ++ dvs)) (Bq (s.heap.objs.size + 1) :: (us ++ ds)) := .cons rfl (r.append hd)
 have hl:(Bq (s.heap.objs.size + 1) :: us ++ ds).length=ps.length:=by
  have e:=r2.length
  rw [F.len _ _ _ _ hq] at e
  exact e.symm
 refine wpAny_call (make_map (f:=f) I.kIn M.makes M.init (beq_iff_eq.mp M.fn) (K0 (F.run _ X.stack _ _ ⟨Bq (s.heap.objs.size + 1) :: us,[]⟩ (Bq (s.heap.objs.size + 1) :: (us ++ ds)) _ _ E (hr.make C us [])
  (I2.env0.make C us []) (hb _ (Bq (s.heap.objs.size + 1) :: us) I2.kIn hl) r2 hq) fun r s' hq' => ?_))
 cases r with
 | error e=>exact hx pins σ _ _ e s' I2 hq'
 | ok fl =>
  cases fl with
  | ret u =>
   obtain ⟨v,H',I3,rv,ev,q3⟩:=I2.after hq'
   subst ev
   exact ⟨rv,⟨V.ref (s.heap.objs.size + 1),H',I3,rfl,q3⟩⟩
  | next=>exact E7 hq'
  | brk=>exact E7 hq'
  | cont=>exact E7 hq'
theorem pe_make0 (M:Mk X.K C f) (F:FnOk X.prog X.w X.K X.mg X.base CX k f fd ps sp) (hr:Room (k + 1) X.A) (hg:Gl X x) (hm:X.mg x=some (.ref C)) (hb:Binds X.K fd ps ds) (hd:Vals dvs ds) (hx:Passes CX X E)
  (hdb:(x == ("__debug__" : Str))=false:=by decide):PE X (.Call (.Name x p) [] [] pos) (tMake C sp dvs E tNil):=by
 intro pins s σ H Q I h
 refine Gx (zeQ I hg hm ?_ hdb)
 exact L4 I.kIn M.kp (run_make (us := []) M F hr hb hd hx I .nil h)
end
section
variable {X:Cx} {CX:CXT} {k:Nat} {f C:A3} {fd:Ej} {ps ks:List Str} {sp:Sp} {E:XK} {x m:Str} {p pos apos kpos:Pos} {e o:Cc} {es:List Cc} {kws:List Mj} {te ta:TE} {t tk:TA} {nm:Option Str}
variable {g:List A0->List A0->List A0} {gV:List V->List V->List V}
end
structure FnScope (N P:List Str) (sc:Fg):Prop where
 kind:sc.kind = .function
 co:sc.isCoroutine=false
 gen:sc.isGenerator=false
 nd:N.Nodup
 pre:N.take P.length=P
 par:∀ x∈P,sc.names.lookup x=some .local\/sc.names.lookup x=some .cell
 nofree:∀ y∈sc.names,y.2 ≠ .free
theorem zfC {kindOf:Str->Option Ib} {x:Str}:∀ {binds:List (Str×A0)} {m:Str->Option A0},(∀ v,(x,v) ∉ binds)->bindL kindOf binds m x=m x
 | [],_,_=>rfl
 | (n,v) :: r,m,h=>by
  unfold bindL
  rw [zfC fun w hw=>h w (Ak _ hw)]
  split
  ·have:x≠n:=by rintro rfl; exact h v Ap
   simp [this]
  ·rfl
theorem zfE {kindOf:Str->Option Ib} {x:Str}:∀ {binds:List (Str×A0)} {m:Str->Option A0},(∀ v,(x,v) ∉ binds)->bindC kindOf binds m x=m x
 | [],_,_=>rfl
 | (n,v) :: r,m,h=>by
  unfold bindC
  rw [zfE fun w hw=>h w (Ak _ hw)]
  split
  ·rfl
  ·have:x≠n:=by rintro rfl; exact h v Ap
   simp [this]
theorem zfD {kindOf:Str->Option Ib} {x:Str} {v:A0}:∀ {P:List Str} {vs:List A0} {i:Nat} {m:Str->Option A0},P.Nodup->P[i]?=some x->vs[i]?=some v->kindOf x=some .local ->
  bindL kindOf (P.zip vs) m x=some v
 | [],_,_,_,_,h,_,_=>by simp at h
 | _ :: _,[],_,_,_,_,h,_=>by simp at h
 | p :: P,w :: vs,0,m,nd,h1,h2,hk=>by
  simp at h1 h2; subst h1; subst h2
  show bindL kindOf ((p,w) :: P.zip vs) m p=_
  unfold bindL
  rw [zfC fun v hv=>(Di.mp nd).1 (Jv hv).1,if_pos hk]
  simp
 | p :: P,w :: vs,i + 1,m,nd,h1,h2,hk=>by
  show bindL kindOf ((p,w) :: P.zip vs) m x=_
  unfold bindL
  exact zfD (i:=i) (Di.mp nd).2 (by simpa using h1) (by simpa using h2) hk
theorem zfF {kindOf:Str->Option Ib} {x:Str} {v:A0}:∀ {P:List Str} {vs:List A0} {i:Nat} {m:Str->Option A0},P.Nodup->P[i]?=some x->vs[i]?=some v->kindOf x≠some .local ->
  bindC kindOf (P.zip vs) m x=some v
 | [],_,_,_,_,h,_,_=>by simp at h
 | _ :: _,[],_,_,_,_,h,_=>by simp at h
 | p :: P,w :: vs,0,m,nd,h1,h2,hk=>by
  simp at h1 h2; subst h1; subst h2
  show bindC kindOf ((p,w) :: P.zip vs) m p=_
  unfold bindC
  rw [zfE fun v hv=>(Di.mp nd).1 (Jv hv).1,if_neg hk]
  simp
 | p :: P,w :: vs,i + 1,m,nd,h1,h2,hk=>by
  show bindC kindOf ((p,w) :: P.zip vs) m x=_
  unfold bindC
  exact zfF (i:=i) (Di.mp nd).2 (by simpa using h1) (by simpa using h2) hk
noncomputable def start (N:List Str) (vs:List V):St:=vs.map some ++ C5 (N.length - vs.length) none
noncomputable def cxOf (CX:CXT) (P:Av) (w:Bu) (K:At) (mg:Str->Option A0) (base:Ce) (N:List Str) (qual:Str) (scope:Fg) (f:A3) (cd:A0) (A:Bd) (outer:List Env) (s:A4) (H:Hp) (E:XK):Cx where
 prog:=P
 w:=w
 K:=K
 mg:=mg
 base:=base
 A:=A.deeper (envOfC qual scope s.heap.objs.size f cd)
 N:=N
 s₀ := s
 H₀ := H
 env:=envOfC qual scope s.heap.objs.size f cd
 outer:=outer
 stack:=envOfC qual scope s.heap.objs.size f cd :: outer
 ex := []
 calm:=true
 fn:=fun _=>true
 pn := []
 xe:=fun e s'=>wpAny (model P w) (A.deeper (envOfC qual scope s.heap.objs.size f cd)) (leaving (envOfC qual scope s.heap.objs.size f cd) e) (fun _ s''=>CX outer H s E e s'') (fun e' s''=>CX outer H s E e' s'') s'
theorem zgR {sc:Fg} {n:Nat} {x:Str} (h:sc.names.lookup x=some .cell):∃ c,(cellsFrom n sc.names []).lookup x=some c:=by
 have q:=Kd sc.names n [] (.inl h)
 exact Gm.mp q
theorem inv_start {CX:CXT} {P:Av} {w:Bu} {K:At} {mg:Str->Option A0} {base:Ce} {N ps:List Str} {qual:Str} {scope:Fg} {f:A3} {cd:A0} {A:Bd} {outer:List Env} {s s1:A4} {H:Hp} {E:XK} {us:List A0} {vs:List V}
  (S:FnScope N ps scope) (hd:A.handled=none) (e0:Env0 P w K mg base A outer s H) (hl:vs.length=ps.length) (r:Vals vs us)
  (x:InCallC s s.heap.objs.size (bindL (envOfC qual scope s.heap.objs.size f cd).kindOf (ps.zip us) fun _=>none) (cellsFrom (s.heap.objs.size + 1) scope.names []) (bindC (envOfC qual scope s.heap.objs.size f cd).kindOf (ps.zip us) fun _=>none) s1) :
  Inv (cxOf CX P w K mg base N qual scope f cd A outer s H E) [] (start N vs) H s1:=by
 have hpl:ps.length<=N.length:=by have:=congrArg Fe S.pre; rw [Cf] at this; omega
 obtain ⟨h1,tk,rfl,hk⟩:=x.done
 have noA:∀ b:A3,b ∉ (cxOf CX P w K mg base N qual scope f cd A outer s H E).ex:=fun b z=>absurd (show b∈([]:List A3) from z) (by simp)
 refine ⟨⟨e0.mod,S.kind,rfl,rfl,A9 _,fun y z c h1 h2 => ?_,fun y hy => ?_,fun y c _ h => ?_,fun _=>hd,Around.frames_deeper e0.frames,.inr ⟨rfl,rfl⟩,fun b z=>absurd z (noA b),e0.bs,e0.bsz,fun b _ _=>noA b,fun b z=>absurd z (noA b),e0.funs,e0.frf⟩,
  rfl,e0.bare,Un.kept hk,⟨_,x.toInCall.ns,fun i y v h1 h2 h3 => ?_⟩,fun y c h=>⟨_,x.cell y c h⟩,e0.hok.fresh (A9 _),fun y c h => ?_,fun p hp=>absurd (show p∈([]:List (A3×Obj)) from hp) (by simp),e0.hok.kept hk,?_⟩
 ·exact name_of_addr x.apart (F4 h1) (F4 h2)
 ·have hy:scope.names.lookup y=some .cell\/scope.names.lookup y=some .free:=hy
  rcases hy with hy | hy
  ·exact zgR hy
  ·exact absurd rfl (S.nofree _ (F4 hy))
 ·exact F5 (x.above y c (F4 h))
 ·have hi:i < vs.length:=by
   unfold start at h2
   by_cases hi:i < vs.length
   ·exact hi
   ·rw [Cr (by simpa using hi)] at h2
    rw [L0] at h2
    split at h2 <;> cases h2
  have ha:vs[i]?=some v:=by
   unfold start at h2
   rw [Cu (by simpa using hi),Ad] at h2
   cases e:vs[i]? with
   | none=>rw [e] at h2; cases h2
   | some a=>rw [e] at h2; cases h2; rfl
  obtain ⟨u,hu,rv⟩:=r.get ha
  have hp:ps[i]?=some y:=by
   rw [<- S.pre,Ks (by omega)]; exact h1
  have ndP:ps.Nodup:=by rw [<- S.pre]; exact S.nd.sublist (Fh _ _)
  refine ⟨u,rv,?_⟩
  rcases S.par y (Br hp) with k | k
  ·exact .inl ⟨k,zfD ndP hp hu k⟩
  ·obtain ⟨c,e⟩:=zgR (n:=s.heap.objs.size + 1) k
   refine .inr ⟨.inl k,c,e,?_⟩
   have q:=x.cell y c e
   rw [zfF ndP hp hu (by show scope.names.lookup y≠_; rw [k]; decide)] at q
   exact q
 ·exact e0.hok.fresh (F5 (x.above y c (F4 h)))
 ·unfold start
  show _=N.length
  rw [Ab,A1,List.length_replicate]
  omega
theorem zit {CX:CXT} {P:Av} {w:Bu} {K:At} {mg:Str->Option A0} {base:Ce} {k:Nat} {f:A3} {name qual:Str} {params:Arguments} {body:List Cd} {scope:Fg} {dV kV doc pm cdv ct oc:A0} {an od:Option A3}
  {osl:Array (Option A0)} {N ps:List Str} {sp:Sp} (lk:K.lookup f=some ⟨oc,od,.func (D4 name qual params body scope dV kV doc pm an cdv ct),osl⟩) (hcd:Fc K cdv qual=true) (S:FnScope N ps scope)
  (len:∀ vs H Q E,sp vs H Q E->vs.length=ps.length)
  (hbody:∀ (A:Bd) (outer:List Env) (s:A4) (H:Hp) (vs:List V) (Q:VK) (E:XK),Room k (A.deeper (envOfC qual scope s.heap.objs.size f cdv))->sp vs H Q E ->
   ∃ t,PSs (cxOf CX P w K mg base N qual scope f cdv A outer s H E) body t/\t { nx:=fun _ H'=>Q .non H',rt:=Q } (start N vs) H) :
  FnOk P w K mg base CX (k + 1) f (D4 name qual params body scope dV kV doc pm an cdv ct) ps sp:=by
 refine ⟨len,fun A outer s H args us vs Q E hr e0 hb r hsp => ?_⟩
 have hl:=len _ _ _ _ hsp
 have KX:K.In s.heap:=e0.mod.kin.keeps fun b o e=>(e0.bs b o e).1
 have lim:s.heap.NoLimit:=e0.mod.nolimit.keeps fun b o e=>(e0.bs b o e).1
 have hkind:∀ y∈ps.zip us,scope.names.lookup y.1=some .local\/(scope.names.lookup y.1=some .cell/\((cellsFrom (s.heap.objs.size + 1) scope.names []).lookup y.1).isSome=true):=fun ⟨n,v⟩ hy=>by
  rcases S.par n (Jv hy).1 with q | q
  ·exact .inl q
  ·exact .inr ⟨q,Kd _ _ _ (.inl q)⟩
 refine codeAny_call_function hr.depth (KX _ _ lk) rfl S.co S.gen rfl (PySem.W.codeRec_of KX hcd) (hb _ _ _ _ ?_)
 refine wpAny_newFunctionEnv_cells S.kind hkind fun env he s1 x => ?_
 subst he
 refine ⟨lim.keeps x.toInCall.keep,codeAny_func ?_⟩
 obtain ⟨t,ht,hq⟩:=hbody A outer s H vs Q E (hr.deeper _) hsp
 have I:Inv (cxOf CX P w K mg base N qual scope f cdv A outer s H E) [] (start N vs) H s1:=inv_start S hr.hd e0 hl r x
 refine Dq (ht [] s1 (start N vs) H _ I hq) (fun fl s' hs => ?_) fun e s' hs=>hs
 have fin:∀ {σ':St} {H':Hp} {v:V} {u:A0},Inv (cxOf CX P w K mg base N qual scope f cdv A outer s H E) [] σ' H' s'->RelV v u->Q v H'->CE outer P w H s Q u s' :=
  fun {σ' H' v u} J rv q=>⟨v,H',J.os,J.bare,J.base,J.hok,rv,q⟩
 cases fl with
 | ret u =>
  obtain ⟨v,σ',H',J,rv,q⟩:=hs
  exact fin J rv q
 | next =>
  obtain ⟨σ',H',J,q⟩:=hs
  exact fin (v:=V.non) (u:=Ee) J rfl q
 | brk =>
  obtain ⟨_,_,_,q⟩:=hs
  exact E7 q
 | cont =>
  obtain ⟨_,_,_,q⟩:=hs
  exact E7 q
section
variable {X:Cx} {x:Str} {p pos:Pos} {e:Cc} {es:List Cc} {t:TA} {id T:String} {r:List V->Hp->VK->Prop}
noncomputable def tCB (r:List V->Hp->VK->Prop) (t:TA):TE:=fun σ H Q=>t σ H fun vs H1=>r vs H1 Q
theorem zal (hc:CallR X (.builtin id) r) (hg:Gl X x) (hm:X.mg x=none) (hv:bootBuiltins x=some (.builtin id)) (ha:PA X (e :: es) t) (hn:x ≠ "__name__" := by decide) (hdb:(x == ("__debug__" : Str))=false:=by decide)
  (he:starEach (e :: es) X.env=(false,eval e X.env) :: starEach es X.env:=by rfl) (hpl:(backTo pos (starEach es X.env)).any (·.1)=false:=by rfl):PE X (.Call (.Name x p) (e :: es) [] pos) (tCB r t):=by
 intro pins s σ H Q I h
 refine Gx (zfk I hg hm hv ?_ hn hdb)
 exact Oz (thnE (ha pos pins s σ H _ I h) fun us s1 vs H1 I1 r1 q1=>hc pins s1 σ H1 vs us Q I1 r1 q1) he hpl
theorem zbn (hc:CallR X (.type T) r) (hg:Gl X x) (hm:X.mg x=none) (hv:bootBuiltins x=some (.type T)) (ha:PA X (e :: es) t) (hn:x ≠ "__name__" := by decide) (hdb:(x == ("__debug__" : Str))=false:=by decide)
  (he:starEach (e :: es) X.env=(false,eval e X.env) :: starEach es X.env:=by rfl) (hpl:(backTo pos (starEach es X.env)).any (·.1)=false:=by rfl):PE X (.Call (.Name x p) (e :: es) [] pos) (tCB r t):=by
 intro pins s σ H Q I h
 refine Gx (zfk I hg hm hv ?_ hn hdb)
 exact Fq (thnE (ha pos pins s σ H _ I h) fun us s1 vs H1 I1 r1 q1=>hc pins s1 σ H1 vs us Q I1 r1 q1) he hpl
end
end L2
namespace HT
open PySem PyProof.Rows
section
open PySem.SeqAt
open PySem.AutoSeq1 (wpAny_loadPart')
open PySem.MeetsSeq PySem.MeetsSeq2 PySem.MeetsSeq3
end
section
variable {prog:Av} {w:Bu} {A:Bd} {E:A0->A4->Prop} {s:A4}
noncomputable def sIx (n d:Nat):Option Int->Nat
 | none=>d
 | some v=>if v < 0 then (v + (n:Int)).toNat else min v.toNat n
theorem sIx_none (n d:Nat):sIx n d none=d:=rfl
theorem sIx_nat (n d k:Nat):sIx n d (some (k:Int))=min k n:=by
 show (if (k:Int) < 0 then ((k:Int) + (n:Int)).toNat else min (k:Int).toNat n)=min k n
 rw [if_neg (by omega),Da]
end
end HT
namespace L2
open PySem PySem.Spec PyProof.Rows
noncomputable abbrev TO:=St->Hp->(Option Int->Hp->Prop)->Prop
noncomputable def PO (X:Cx) (e:Option Cc) (t:TO):Prop :=
 ∀ (pins:List (A3×Obj)) (s:A4) (σ : St) (H:Hp) (Q:Option Int->Hp->Prop),Inv X pins σ H s->t σ H Q ->
  wpAny (model X.prog X.w) X.A (evalPart e X.env) (fun u s'=>∃ o H',Inv X pins σ H' s'/\IsPart u o/\Q o H') X.xe s
noncomputable def tNoPart:TO:=fun _ H Q=>Q none H
noncomputable def tPart (t:TE):TO:=fun σ H Q=>t σ H fun x H1=>∃ i,x = .int i/\Q (some i) H1
section
variable {X:Cx} {e:Cc} {te:TE} {lo hi:Option Cc} {tl th:TO} {pos p2:Pos}
theorem zdH:PO X none tNoPart:=by
 intro pins s σ H Q I h
 rw [Pg]
 exact Aq ⟨none,H,I,.none,h⟩
theorem zdG (h:PE X e te):PO X (some e) (tPart te):=by
 intro pins s σ H Q I hw
 rw [evalPart_some]
 refine thnE (h pins s σ H _ I hw) fun u s1 x H1 I1 r1 q1 => ?_
 obtain ⟨i,rfl,q⟩:=q1
 obtain ⟨t,rfl⟩:=r1
 exact ⟨some i,H1,I1,.int i t,q⟩
noncomputable def SlR (X:Cx) (r:V->Option Int->Option Int->Hp->VK->Prop):Prop :=
 ∀ (pins:List (A3×Obj)) (s:A4) (σ : St) (H:Hp) (x:V) (v vl vu:A0) (lo hi:Option Int) (sl:A3) (Q:VK),Inv X pins σ H s->RelV x v->s.heap.IsSliceOf sl vl vu .none->IsPart vl lo->IsPart vu hi->r x lo hi H Q ->
  ∃ T id,typeLookup (.type T) "__getitem__" = pure (some (.builtin id))/\s.TypeIs v T/\wpAny (model X.prog X.w) X.A (getItem v (.ref sl)) (EP X pins σ Q) X.xe s
noncomputable def tSl (r:V->Option Int->Option Int->Hp->VK->Prop) (te:TE) (tl th:TO):TE:=fun σ H Q=>te σ H fun x H1=>tl σ H1 fun l H2=>th σ H2 fun u H3=>r x l u H3 Q
theorem zcU {r:V->Option Int->Option Int->Hp->VK->Prop} (hr:SlR X r) (he:PE X e te) (hl:PO X lo tl) (hu:PO X hi th):PE X (.Subscript e (.Slice lo hi none p2) pos) (tSl r te tl th):=by
 intro pins s σ H Q I h
 refine Nj (thnE (he pins s σ H _ I h) fun v s1 x H1 I1 r1 q1 => ?_)
 refine wpAny_Slice (thn (hl pins s1 σ H1 _ I1 q1) fun vl s2 ⟨l,H2,I2,pl,q2⟩=>thn (hu pins s2 σ H2 _ I2 q2) fun vu s3 ⟨u,H3,I3,pu,q3⟩ => ?_)
 rw [Pg]
 refine Aq ?_
 have I4:Inv X pins σ H3 { s3 with heap:=s3.heap.push { cls := .type "slice",data := .fields #[vl,vu,.none] } }:=I3.kept (t':=s3.toks) fun b ob q=>Ag _ q
 obtain ⟨T,id,hT,ht,hg⟩:=hr pins { s3 with heap:=s3.heap.push { cls := .type "slice",data := .fields #[vl,vu,.none] } } σ H3 x v vl vu l u s3.heap.objs.size Q I4 r1 (Nx ..) pl pu q3
 show wpAny (model X.prog X.w) X.A (subscriptTail e (.Slice lo hi none p2) v (.ref s3.heap.objs.size)) (EP X pins σ Q) X.xe { s3 with heap:=s3.heap.push { cls := .type "slice",data := .fields #[vl,vu,.none] } }
 exact tail_any (ops := [.ref s3.heap.objs.size,v]) ht hT hg (by with_unfolding_all rfl)
noncomputable def cutV (xs:List V) (lo hi:Option Int):List V:=(xs.drop (HT.sIx xs.length 0 lo)).take (HT.sIx xs.length xs.length hi - HT.sIx xs.length 0 lo)
theorem cutV_length (xs:List V) (lo hi:Option Int):(cutV xs lo hi).length<=xs.length:=by
 unfold cutV
 rw [Cf,F3]
 omega
end
noncomputable def ixN (n:Nat) (i:Int):Option Nat:=if 0<=i then (if i < n then some i.toNat else none) else if -(n:Int)<=i then some (i + n).toNat else none
noncomputable def atI {α : Type} (xs:List α) (i:Int):Option α := (ixN xs.length i).bind fun j=>xs[j]?
theorem zhs {n:Nat} {i:Int} {j:Nat} (h:ixN n i=some j):seqIndex? i n=some j/\j < n /\ -(n:Int)<=i/\i < n:=by
 unfold ixN at h
 by_cases h0:0<=i
 ·rw [if_pos h0] at h
  by_cases h1:i < n
  ·rw [if_pos h1] at h
   have e:i.toNat=j:=C4 h
   exact ⟨by rw [Mw h0 h1,e],by omega,by omega,h1⟩
  ·rw [if_neg h1] at h; cases h
 ·rw [if_neg h0] at h
  by_cases h1 : -(n:Int)<=i
  ·rw [if_pos h1] at h
   have e:(i + n).toNat=j:=C4 h
   exact ⟨by rw [Mb (by omega) h1,e],by omega,h1,by omega⟩
  ·rw [if_neg h1] at h; cases h
theorem zfZ {α : Type} {xs:List α} {i:Int} {v : α} (h:atI xs i=some v):∃ j,seqIndex? i xs.length=some j/\xs[j]?=some v/\j < xs.length /\ -(xs.length:Int)<=i/\i < xs.length:=by
 unfold atI at h
 cases e:ixN xs.length i with
 | none=>rw [e] at h; cases h
 | some j =>
  rw [e] at h
  obtain ⟨h1,h2,h3,h4⟩:=zhs e
  exact ⟨j,h1,h,h2,h3,h4⟩
theorem zax {α : Type} {xs:List α} {j:Nat} {v : α} (h:xs[j]?=some v):atI xs (j:Int)=some v:=by
 have hj:j < xs.length:=(Ah.mp h).1
 have e:ixN xs.length (j:Int)=some j:=by
  unfold ixN
  rw [if_pos (by omega),if_pos (by omega)]; simp
 unfold atI; rw [e]; exact h
noncomputable def PlainIx (b:Cc):Prop:=∀ o i,subscripted b false o i=operate [o,i] (getItem o i)
noncomputable def IxR (X:Cx) (r:R2):Prop :=
 ∀ (value slice:Cc) (pins:List (A3×Obj)) (s:A4) (σ : St) (H:Hp) (x y:V) (v u:A0) (Q:VK),Inv X pins σ H s->RelV x v->RelV y u->r x y H Q ->
  subscripted slice false v u=operate [v,u] (getItem v u)->wpAny (model X.prog X.w) X.A (subscriptTail value slice v u) (EP X pins σ Q) X.xe s
noncomputable def MtR (X:Cx) (id:String) (r:V->List V->Hp->VK->Prop):Prop :=
 ∀ (pins:List (A3×Obj)) (s:A4) (σ : St) (H:Hp) (x:V) (xs:List V) (v:A0) (us:List A0) (Q:VK),Inv X pins σ H s->RelV x v->Vals xs us->r x xs H Q ->
  wpAny (model X.prog X.w) X.A (call (.builtin id) (v :: us)) (EP X pins σ Q) X.xe s
section
variable {X:Cx} {a b:Cc} {ta tb:TE} {pos:Pos}
theorem zat {r:R2} (hr:IxR X r) (ha:PE X a ta) (hb:PE X b tb) (hs:PlainIx b):PE X (.Subscript a b pos) (tOp r ta tb):=by
 intro pins s σ H Q I h
 exact Nj (binT ha hb I h fun v u s2 x y H2 I2 rx ry q=>hr a b pins s2 σ H2 x y v u Q I2 rx ry q (hs _ _))
noncomputable def rIxL (K:At):R2:=fun x y H Q=>∃ p xs i v,x = .ref p/\y = .int i/\SqL K H p xs/\atI xs i=some v/\Q v H
noncomputable def rIxT (K:At):R2:=fun x y H Q=>∃ p xs i v,x = .ref p/\y = .int i/\SqT K H p xs/\atI xs i=some v/\Q v H
noncomputable def rIxS:R2:=fun x y H Q=>∃ z i c,x = .str z/\y = .int i/\z.length<=sizeLine/\atI z.cps.toList i=some c/\Q (.str ⟨#[c]⟩) H
theorem zaq:IxR X (rIxL X.K):=by
 intro value slice pins s σ H x y v u Q I rx ry h hs
 obtain ⟨p,xs,i,z,rfl,rfl,hq,he,q⟩:=h
 cases rx
 obtain ⟨t,rfl⟩:=ry
 obtain ⟨its,r,pl,hz⟩:=I.list hq
 obtain ⟨j,h1,h2,h3,h4,h5⟩:=zfZ he
 obtain ⟨w,ew,rw'⟩:=r.get h2
 have hl:=r.length
 have hn:=zel
 have fin:EP X pins σ Q w s:=⟨z,H,I,rw',q⟩
 by_cases h0:0<=i
 ·have hj:i.toNat=j:=by
   rw [Mw h0 h5] at h1
   exact C4 h1
  exact item_listR pl.isList h0 (by omega) (by rw [hj]; simpa using ew) fin hs
 ·have hj:(i + (its.toArray.size:Int)).toNat=j:=by
   rw [Mb (by omega) h4] at h1
   rw [B1,<- hl]
   exact C4 h1
  exact Ma (x:=w) pl.isList.typeIs Nt.lookup
   (wpAny_getItem_list_neg (Q:=fun r s'=>r=w/\EP X pins σ Q r s') pl.isList (by omega) (by rw [B1] <;> omega) (by omega) (by rw [hj]; simpa using ew) ⟨rfl,fin⟩) hs
theorem zbd:IxR X (rIxT X.K):=by
 intro value slice pins s σ H x y v u Q I rx ry h hs
 obtain ⟨p,xs,i,z,rfl,rfl,hq,he,q⟩:=h
 cases rx
 obtain ⟨t,rfl⟩:=ry
 obtain ⟨its,r,pl,hz⟩:=I.tuple hq
 obtain ⟨j,h1,h2,h3,h4,h5⟩:=zfZ he
 obtain ⟨w,ew,rw'⟩:=r.get h2
 have hl:=r.length
 have hn:=zel
 have fin:EP X pins σ Q w s:=⟨z,H,I,rw',q⟩
 exact Ma (x:=w) pl.typeIs slot_tuple_getitem.lookup
  (getItem_tuple (j:=j) (Q:=fun r s'=>r=w/\EP X pins σ Q r s') pl (by omega) (by omega) (by rw [B1,<- hl]; exact h1) (by simpa using ew) ⟨rfl,fin⟩) hs
theorem ix_str:IxR X rIxS:=by
 intro value slice pins s σ H x y v u Q I rx ry h hs
 obtain ⟨z,i,c,rfl,rfl,hz,he,q⟩:=h
 obtain ⟨t,rfl⟩:=rx
 obtain ⟨t',rfl⟩:=ry
 obtain ⟨j,h1,h2,h3,h4,h5⟩:=zfZ he
 have hl:z.cps.toList.length=z.length:=by simp [Pb]
 rw [hl] at h1 h4 h5
 have hn:=zel
 exact tail_any (typeIs_str s z t) slot_str_getitem.lookup (getItem_str (c:=c) (by
  have e1:decide (i < -(2 ^ 63:Int))=false:=decide_eq_false (by omega)
  have e2:decide (i>=2 ^ 63)=false:=decide_eq_false (by omega)
  rw [e1,e2,Kt]) (by rw [h1]; simpa using h2) ⟨.str ⟨#[c]⟩,H,I.tok _,⟨_,rfl⟩,q⟩) hs
theorem mapSeq_set (its:List A0) (n j:Nat) (u:A0):Fw (·.setIfInBounds j u) { cls := .type "list",data := .seq its.toArray n }={ cls := .type "list",data := .seq (its.set j u).toArray n }:=by
 simp [Fw]
theorem Inv.lst {pins:List (A3×Obj)} {σ : St} {H:Hp} {s:A4} {p:A3} {xs:List V} (I:Inv X pins σ H s) (h:H p=some (.lst xs)) :
  ∃ (its:List A0) (n:Nat),Vals xs its/\s.heap.get? p=some { cls := .type "list",data := .seq its.toArray n }/\xs.length<=sizeLine:=by
 obtain ⟨z,its,n,r,e⟩:=I.hok p _ h
 exact ⟨its,n,r,e,z⟩
theorem Inv.lstUpd {pins:List (A3×Obj)} {σ : St} {H:Hp} {s:A4} {p:A3} {xs ys:List V} {its its':List A0} {n n':Nat} {f:Obj->Obj} (I:Inv X pins σ H s) (h:H p=some (.lst xs))
  (ho:s.heap.get? p=some { cls := .type "list",data := .seq its.toArray n }) (hf:f { cls := .type "list",data := .seq its.toArray n }={ cls := .type "list",data := .seq its'.toArray n' }) (r:Vals ys its') (hz:ys.length<=sizeLine) (t:Nat) :
  Inv X pins σ (upd H p (.lst ys)) { s with heap:=s.heap.update p f,toks:=t }:=by
 have e:(s.heap.update p f).get? p=some { cls := .type "list",data := .seq its'.toArray n' }:=by
  rw [Ht f ho (by rw [hf] <;> rfl),hf]
 refine I.write (x:=p) (e:=p) (by rw [h]; trivial) (.inl rfl) (fun b u hb q=>(Hj _ _ (Dm hb)).trans q) ⟨_,e⟩ ?_
 exact ⟨hz,its',n',r,e⟩
noncomputable def rSetL:V->V->V->Hp->(Hp->Prop)->Prop:=fun o i v H Q=>∃ p xs k j,o = .ref p/\i = .int k/\H p=some (.lst xs)/\ixN xs.length k=some j/\Q (upd H p (.lst (xs.set j v)))
theorem zgf:PSet X rSetL:=by
 intro pins s σ H o i v ov iv u Q I ro ri rv h
 obtain ⟨p,xs,k,j,rfl,rfl,hp,hj,q⟩:=h
 cases ro
 obtain ⟨t,rfl⟩:=ri
 obtain ⟨its,n,r,ho,hz⟩:=I.lst hp
 obtain ⟨h1,h2,h3,h4⟩:=zhs hj
 have hl:=r.length
 have hn:=zel
 have I':Inv X pins σ (upd H p (.lst (xs.set j v))) { s with heap:=s.heap.update p (Fw (·.setIfInBounds j u)) } :=
  I.lstUpd hp ho (mapSeq_set its n j u) (r.set rv j) (by rw [N3]; exact hz) s.toks
 by_cases h0:0<=k
 ·have hk:k.toNat=j:=by
   rw [Mw h0 h4] at h1
   exact C4 h1
  exact PySem.W.ki_setAt ho h0 (by omega) (by rw [B1,<- hl]; exact h4) (by rw [hk]; exact ⟨_,I',q⟩)
 ·have hk:(k + (its.toArray.size:Int)).toNat=j:=by
   rw [Mb (by omega) h3] at h1
   rw [B1,<- hl]
   exact C4 h1
  exact PySem.W.ki_setBack ho (by omega) (by rw [B1,<- hl]; exact h3) (by omega) (by rw [hk]; exact ⟨_,I',q⟩)
theorem slice_bounds (lo hi:Option Int) (n:Nat):(sliceBounds lo hi none n).1=((HT.sIx n 0 lo:Nat):Int)/\(sliceBounds lo hi none n).2.1=((HT.sIx n n hi:Nat):Int)/\(sliceBounds lo hi none n).2.2=1:=by
 refine ⟨?_,?_,rfl⟩
 ·cases lo with
  | none=>simp [sliceBounds,HT.sIx]
  | some i =>
   simp only [sliceBounds,HT.sIx,M7,show (1:Int) > 0 by decide,if_true]
   by_cases h:i < 0
   ·simp only [h,if_true] <;> omega
   ·simp only [h,if_false] <;> omega
 ·cases hi with
  | none=>simp [sliceBounds,HT.sIx]
  | some i =>
   simp only [sliceBounds,HT.sIx,M7,show (1:Int) > 0 by decide,if_true]
   by_cases h:i < 0
   ·simp only [h,if_true] <;> omega
   ·simp only [h,if_false] <;> omega
theorem slicePick_cut (its:List A0) (lo hi:Option Int):slicePick its.toArray lo hi none=((its.drop (HT.sIx its.length 0 lo)).take (HT.sIx its.length its.length hi - HT.sIx its.length 0 lo)).toArray:=by
 obtain ⟨h1,h2,h3⟩:=slice_bounds lo hi its.toArray.size
 unfold slicePick
 rw [h1,h2,h3]
 simp only [sliceRange_one,pick_run,B1] <;> rfl
noncomputable def rSlL (K:At):V->Option Int->Option Int->Hp->VK->Prop:=fun x lo hi H Q=>∃ a xs,x = .ref a/\SqL K H a xs/\∀ p,H p=none->Q (.ref p) (upd H p (.lst (cutV xs lo hi)))
theorem zdz:SlR X (rSlL X.K):=by
 intro pins s σ H x v vl vu lo hi sl Q I rx hs pl pu h
 obtain ⟨a,xs,rfl,hx,q⟩:=h
 cases rx
 obtain ⟨its,r,ht,hz⟩:=I.list hx
 have hlen:=r.length
 refine ⟨"list",_,Nt.lookup,ht.isList.typeIs,?_⟩
 refine wpAny_getItem_list_slice ht.isList hs pl pu .none (by simp) ?_ (by rw [B1] <;> omega)
 rw [slicePick_cut,<- hlen]
 refine ⟨.ref s.heap.objs.size,_,I.laid (t':=s.toks) (o := .lst (cutV xs lo hi)) (fun b ob q=>Ag _ q) (A9 _) ?_,rfl,q _ (I.hok.fresh (A9 _))⟩
 exact ⟨Bv (cutV_length xs lo hi) hz,_,0,(r.drop (HT.sIx xs.length 0 lo)).take (HT.sIx xs.length xs.length hi - HT.sIx xs.length 0 lo),Bh _ rfl⟩
noncomputable def flatV:V->Bool
 | .non=>true
 | .bl _=>true
 | .int _=>true
 | .str _=>true
 | _=>false
noncomputable def eqV:V->V->Bool
 | .non,.non=>true
 | .bl a,.bl b=>a == b
 | .bl a,.int b=>(if a then 1 else 0) == b
 | .int a,.bl b=>a == (if b then 1 else 0)
 | .int a,.int b=>a == b
 | .str a,.str b=>a == b
 | _,_=>false
theorem eqAt_V {A:Bd} {s:A4} {y x:V} {u v:A0} (ry:RelV y u) (rx:RelV x v) (fy:flatV y=true) (fx:flatV x=true):O0 A s u v (eqV y x):=by
 cases y with
 | non =>
  cases ry
  cases x with
  | non=>cases rx; exact Pm _
  | bl b=>cases rx; exact Pp b
  | int b=>obtain ⟨t,rfl⟩:=rx; exact Po b t
  | str b=>obtain ⟨t,rfl⟩:=rx; exact Pn b t
  | _=>exact absurd (show false=true from fx) Aa
 | bl a =>
  cases ry
  cases x with
  | non=>cases rx; exact Pu a
  | bl b=>cases rx; exact Px a b
  | int b=>obtain ⟨t,rfl⟩:=rx; exact Pw a b t
  | str b=>obtain ⟨t,rfl⟩:=rx; exact Pt a b t
  | _=>exact absurd (show false=true from fx) Aa
 | int a =>
  obtain ⟨t',rfl⟩:=ry
  cases x with
  | non=>cases rx; exact Pq a t'
  | bl b=>cases rx; exact Ps a t' b
  | int b=>obtain ⟨t,rfl⟩:=rx; exact Pr a t' b t
  | str b=>obtain ⟨t,rfl⟩:=rx; exact Km a t' b t
  | _=>exact absurd (show false=true from fx) Aa
 | str a =>
  obtain ⟨t',rfl⟩:=ry
  cases x with
  | non=>cases rx; exact Pk a t'
  | bl b=>cases rx; exact Pl a t' b
  | int b=>obtain ⟨t,rfl⟩:=rx; exact Kl a t' b t
  | str b=>obtain ⟨t,rfl⟩:=rx; exact Pj a t' b t
  | _=>exact absurd (show false=true from fx) Aa
 | _=>exact absurd (show false=true from fy) Aa
noncomputable def eqU (x:V) (u:A0):Bool:=match u with
 | .none=>eqV .non x
 | .bool b=>eqV (.bl b) x
 | .int i _=>eqV (.int i) x
 | .str z _=>eqV (.str z) x
 | _=>false
theorem zh8 {x y:V} {u:A0} (r:RelV y u) (f:flatV y=true):eqU x u=eqV y x:=by
 cases y with
 | non=>cases r; rfl
 | bl b=>cases r; rfl
 | int i=>obtain ⟨t,rfl⟩:=r; rfl
 | str z=>obtain ⟨t,rfl⟩:=r; rfl
 | _=>exact absurd (show false=true from f) Aa
theorem zd4 {x:V}:∀ {xs:List V} {us:List A0},Vals xs us->xs.all flatV=true->us.any (eqU x)=xs.any fun y=>eqV y x
 | _,_,.nil,_=>rfl
 | y :: xs,u :: us,.cons r t,f=>by
  rw [No,Bp] at f
  rw [Gu,Gu,zh8 r f.1,zd4 t f.2]
theorem zcZ {A:Bd} {s:A4} {x:V} {v:A0} (rx:RelV x v) (fx:flatV x=true):∀ {xs:List V} {us:List A0},Vals xs us->xs.all flatV=true->∀ u∈us,O0 A s u v (eqU x u)
 | _,_,.nil,_=>fun u hu=>by cases hu
 | y :: xs,u :: us,.cons r t,f=>fun u' hu=>by
  rw [No,Bp] at f
  rcases Bc.mp hu with rfl | hu
  ·rw [zh8 r f.1]; exact eqAt_V r rx f.1 fx
  ·exact zcZ rx fx t f.2 u' hu
noncomputable def inV (x:V) (xs:List V):Bool:=xs.any fun y=>eqV y x
noncomputable def rIn (K:At) (neg:Bool):R2:=fun x y H Q=>∃ p xs,y = .ref p/\(SqL K H p xs\/SqT K H p xs)/\flatV x=true/\xs.all flatV=true/\Q (.bl (if neg then !inV x xs else inV x xs)) H
theorem zcX:OpR X (compareOp .In) (rIn X.K false):=by
 intro pins s σ H x y v u Q I rx ry h
 obtain ⟨p,xs,rfl,hq,fx,fs,q⟩:=h
 cases ry
 rcases hq with hq | hq
 ·obtain ⟨its,r,pl,hz⟩:=I.list hq
  refine SeqAt.in_listAt (eqU x) pl.isList (fun w hw=>zcZ rx fx r fs w (by simpa using hw)) ⟨.bl _,H,I,rfl,?_⟩
  rw [show its.toArray.any (eqU x)=its.any (eqU x) by simp,zd4 r fs]
  exact q
 ·obtain ⟨its,r,pl,hz⟩:=I.tuple hq
  refine SeqAt.in_tupleAt (eqU x) pl (fun w hw=>zcZ rx fx r fs w (by simpa using hw)) ⟨.bl _,H,I,rfl,?_⟩
  rw [show its.toArray.any (eqU x)=its.any (eqU x) by simp,zd4 r fs]
  exact q
theorem zb4:OpR X (compareOp .NotIn) (rIn X.K true):=by
 intro pins s σ H x y v u Q I rx ry h
 obtain ⟨p,xs,rfl,hq,fx,fs,q⟩:=h
 cases ry
 rcases hq with hq | hq
 ·obtain ⟨its,r,pl,hz⟩:=I.list hq
  refine SeqAt.notIn_listAt (eqU x) pl.isList (fun w hw=>zcZ rx fx r fs w (by simpa using hw)) ⟨.bl _,H,I,rfl,?_⟩
  rw [show its.toArray.any (eqU x)=its.any (eqU x) by simp,zd4 r fs]
  exact q
 ·obtain ⟨its,r,pl,hz⟩:=I.tuple hq
  refine SeqAt.notIn_tupleAt (eqU x) pl (fun w hw=>zcZ rx fx r fs w (by simpa using hw)) ⟨.bl _,H,I,rfl,?_⟩
  rw [show its.toArray.any (eqU x)=its.any (eqU x) by simp,zd4 r fs]
  exact q
theorem zar:CallR X (.builtin "len") (fun xs H Q=>∃ p ys,xs = [.ref p]/\(SqL X.K H p ys\/SqT X.K H p ys)/\Q (.int ys.length) H):=by
 intro pins s σ H xs us Q I r h
 obtain ⟨p,ys,rfl,hq,q⟩:=h
 obtain ⟨u,rfl,rx⟩:=zci r
 cases rx
 have hn:=zel
 rcases hq with hq | hq
 ·obtain ⟨its,r',pl,hz⟩:=I.list hq
  have hlen:=r'.length
  exact Calls.call_len_list pl.isList (by simp only [B1] <;> omega) ⟨.int ys.length,H,I.tok _,⟨s.toks + 1,by rw [B1,hlen]⟩,q⟩
 ·obtain ⟨its,r',pl,hz⟩:=I.tuple hq
  have hlen:=r'.length
  exact len_tuple pl (by simp only [B1] <;> omega) ⟨.int ys.length,H,I.tok _,⟨s.toks + 1,by rw [B1,hlen]⟩,q⟩
theorem call_len_str:CallR X (.builtin "len") (fun xs H Q=>∃ z,xs = [.str z]/\z.length<=sizeLine/\Q (.int z.length) H):=by
 intro pins s σ H xs us Q I r h
 obtain ⟨z,rfl,hz,q⟩:=h
 obtain ⟨u,rfl,t,rfl⟩:=zci r
 have hn:=zel
 exact len_str (by omega) ⟨.int z.length,H,I.tok _,⟨_,rfl⟩,q⟩
theorem zbI:CallR X (.type "list") (fun xs H Q=>∃ p ys,xs = [.ref p]/\(SqL X.K H p ys\/SqT X.K H p ys)/\∀ l,H l=none->Q (.ref l) (upd H l (.lst ys))):=by
 intro pins s σ H xs us Q I r h
 obtain ⟨p,ys,rfl,hq,q⟩:=h
 obtain ⟨u,rfl,rx⟩:=zci r
 cases rx
 have fin:∀ (its:List A0),Vals ys its->ys.length<=sizeLine->∀ (h':Ce) (c':Nat),(∀ b o',s.heap.get? b=some o'->h'.get? b=some o') ->
   h'.get? s.heap.objs.size=some { cls := .type "list",dict:=none,data := .seq its.toArray c',slots := #[] }->EP X pins σ Q (.ref s.heap.objs.size) { s with heap:=h' }:=fun its r' hz h' c' kp e =>
  ⟨.ref s.heap.objs.size,_,I.laid (t':=s.toks) kp (A9 _) (show ObjOk X.prog X.w _ h' _ (.lst ys) from ⟨hz,its,c',r',e⟩),rfl,q _ (I.hok.fresh (A9 _))⟩
 rcases hq with hq | hq
 ·obtain ⟨its,r',pl,hz⟩:=I.list hq
  have hlen:=r'.length
  obtain ⟨o,ho,hc,n,hd⟩:=pl.isList
  exact Ph p (.inl rfl) ho hc hd (fun h' c' kp e=>fin its r' hz h' c' kp e) (by simp only [B1] <;> omega)
 ·obtain ⟨its,r',pl,hz⟩:=I.tuple hq
  have hlen:=r'.length
  obtain ⟨o,ho,hc,n,hd⟩:=pl
  exact Ph p (.inr rfl) ho hc hd (fun h' c' kp e=>fin its r' hz h' c' kp e) (by simp only [B1] <;> omega)
theorem call_tuple_of:CallR X (.type "tuple") (fun xs H Q=>∃ p ys,xs = [.ref p]/\((SqL X.K H p ys/\∀ l,H l=none->Q (.ref l) (upd H l (.tup ys)))\/(SqT X.K H p ys/\Q (.ref p) H))):=by
 intro pins s σ H xs us Q I r h
 obtain ⟨p,ys,rfl,h⟩:=h
 obtain ⟨u,rfl,rx⟩:=zci r
 cases rx
 rcases h with ⟨hq,q⟩ | ⟨hq,q⟩
 ·obtain ⟨its,r',pl,hz⟩:=I.list hq
  have hlen:=r'.length
  refine call_tuple_list pl.isList (fun h' kp => ?_) (by simp only [B1] <;> omega)
  have I1:Inv X pins σ H { s with heap:=h' }:=I.kept (t':=s.toks) kp
  have I2:Inv X pins σ (upd H h'.objs.size (.tup ys)) { s with heap:=h'.push { cls := .type "tuple",data := .seq its.toArray } } :=
   I1.laid (t':=s.toks) (fun b o e=>Ag _ e) (A9 _) (show ObjOk X.prog X.w _ _ _ (.tup ys) from ⟨hz,its,r',IsTup.new _ _⟩)
  exact ⟨.ref h'.objs.size,_,I2,rfl,q _ (I1.hok.fresh (A9 _))⟩
 ·obtain ⟨its,r',pl,hz⟩:=I.tuple hq
  exact call_tuple_same pl ⟨.ref p,H,I,rfl,q⟩
noncomputable def tyV (K:At) (T:String) (x:V) (H:Hp):Prop:=match x with
 | .str _=>T = "str"
 | .int _=>T = "int"
 | .ref p=>(T = "list" /\ ∃ xs,SqL K H p xs)\/(T = "tuple" /\ ∃ o,K.lookup p=some o/\o.cls = .type "tuple" /\ o.dict=none) \/
   (T = "dict" /\ ((∃ kvs,H p=some (.dK kvs))\/∃ kvs,H p=some (.dT kvs)))\/(T = "set" /\ ∃ S n,H p=some (.set S n))
 | _=>False
theorem zhO {pins:List (A3×Obj)} {σ : St} {H:Hp} {s:A4} {T:String} {x:V} {v:A0} (I:Inv X pins σ H s) (r:RelV x v) (ty:tyV X.K T x H) :
  s.TypeIs v T/\∀ a,v = .ref a->∃ ob,s.heap.get? a=some ob/\ob.dict=none:=by
 cases x with
 | str z =>
  obtain ⟨t,rfl⟩:=r
  cases (show T = "str" from ty)
  exact ⟨typeIs_str s z t,fun _ e=>nomatch e⟩
 | int i =>
  obtain ⟨t,rfl⟩:=r
  cases (show T = "int" from ty)
  exact ⟨Ni s i t,fun _ e=>nomatch e⟩
 | ref p =>
  cases r
  rcases ty with ⟨rfl,xs,hq⟩ | ⟨rfl,o,hk,hc,hd⟩ | ⟨rfl,hk⟩ | ⟨rfl,S,n,hk⟩
  ·obtain ⟨its,_,pl,_⟩:=I.list hq
   refine ⟨pl.isList.typeIs,fun a e => ?_⟩
   cases e
   obtain ⟨o,n,e,c,hd,_⟩:=pl
   exact ⟨o,e,hd⟩
  ·refine ⟨⟨o,I.kIn p o hk,hc⟩,fun a e => ?_⟩
   cases e
   exact ⟨o,I.kIn _ o hk,hd⟩
  ·have z:∃ o,s.heap.get? p=some o/\o.ExactDict:=by
    rcases hk with ⟨kvs,hk⟩ | ⟨kvs,hk⟩
    ·obtain ⟨_,_,_,_,o,_,_,e,ex,_⟩:=I.hok p _ hk
     exact ⟨o,e,ex⟩
    ·obtain ⟨_,_,_,_,o,_,_,e,ex,_⟩:=I.hok p _ hk
     exact ⟨o,e,ex⟩
   obtain ⟨o,e,ex⟩:=z
   refine ⟨⟨o,e,ex.1⟩,fun a e2 => ?_⟩
   cases e2
   exact ⟨o,e,ex.2.1⟩
  ·obtain ⟨o,_,_,_,e,ex,_⟩:=I.hok p _ hk
   refine ⟨⟨o,e,ex.1⟩,fun a e2 => ?_⟩
   cases e2
   exact ⟨o,e,ex.2.1⟩
 | _=>exact E7 ty
noncomputable def tBM0 (K:At) (T:String) (r:V->List V->Hp->VK->Prop) (to:TE):TE:=fun σ H Q=>to σ H fun x H1=>tyV K T x H1/\r x [] H1 Q
noncomputable def tBM (K:At) (T:String) (r:V->List V->Hp->VK->Prop) (to:TE) (t:TA):TE:=fun σ H Q=>to σ H fun x H1=>tyV K T x H1/\t σ H1 fun xs H2=>r x xs H2 Q
variable {o e:Cc} {es:List Cc} {to:TE} {t:TA} {name:Str} {apos cpos:Pos} {T id:String} {r:V->List V->Hp->VK->Prop}
theorem zhY (pa:PlainAttrs T) (slot:Slot T name id) (hty:typeOf (.builtin id)=pure (.type "method_descriptor")) (hm:MtR X id r) (ho:PE X o to)
  (hbase:attributeBase o name X.env (eval o X.env)=eval o X.env:=by rfl) (hline:(apos.endLine == cpos.line)=true:=by rfl):PE X (.Call (.Attribute o name apos) [] [] cpos) (tBM0 X.K T r to):=by
 intro pins s σ H Q I h
 refine wpAny_Call_method0_late hbase hline (thnE (ho pins s σ H _ I h) fun v s1 x H1 I1 r1 ⟨ty,q1⟩ => ?_)
 obtain ⟨h1,h2⟩:=zhO I1 r1 ty
 exact ⟨T,id,pa,slot,hty,h1,h2,Hf rfl (PySem.evalArgs_none (hm pins s1 σ H1 x [] v [] Q I1 r1 .nil q1))⟩
theorem zcV (pa:PlainAttrs T) (slot:Slot T name id) (hty:typeOf (.builtin id)=pure (.type "method_descriptor")) (hm:MtR X id r) (ho:PE X o to) (ha:PA X (e :: es) t)
  (hbase:attributeBase o name X.env (eval o X.env)=eval o X.env:=by rfl)
  (hfew:((backTo cpos (starEach (e :: es) X.env)).all (fun x => !x.1) && (backToKw cpos (keywordEach [] X.env)).all (fun x=>x.1.isSome)
   && decide ((e :: es).length + ([]:List Mj).length + (if ([]:List Mj).isEmpty then 0 else 1) < 30))=true:=by rfl)
  (hline:(apos.endLine == cpos.line)=true:=by rfl) (hs:starEach (e :: es) X.env=(false,eval e X.env) :: starEach es X.env:=by rfl) (hplain:(backTo cpos (starEach es X.env)).any (·.1)=false:=by rfl) :
  PE X (.Call (.Attribute o name apos) (e :: es) [] cpos) (tBM X.K T r to t):=by
 intro pins s σ H Q I h
 refine wpAny_Call_method_late hbase hfew hline rfl (thnE (ho pins s σ H _ I h) fun v s1 x H1 I1 r1 ⟨ty,q1⟩ => ?_)
 obtain ⟨h1,h2⟩:=zhO I1 r1 ty
 refine ⟨T,id,pa,slot,hty,h1,h2,?_⟩
 have hA:=ha cpos pins s1 σ H1 _ I1 q1
 rw [hs] at hA ⊢
 refine Hf (by show (false || (backTo cpos (starEach es X.env)).any (·.1))=false; rw [hplain] <;> rfl) (Ic ?_)
 exact thn hA fun us s2 ⟨vs,H2,I2,r2,q2⟩=>hm pins s2 σ H2 x vs v us Q I2 r1 r2 q2
end
noncomputable def MtM (X:Cx) (id:String) (r:V->List V->Hp->VK->Prop):Prop :=
 ∀ (pins:List (A3×Obj)) (s:A4) (σ : St) (H:Hp) (x:V) (xs:List V) (v:A0) (us:List A0) (Q:VK),Inv X pins σ H s->RelV x v->Vals xs us->r x xs H Q ->
  wpAny (model X.prog X.w) X.A (call (.builtin id) (v :: us)) (EP X pins σ Q) X.xe s
theorem Vals.one:∀ {x:V} {us:List A0},Vals [x] us->∃ u,us = [u]/\RelV x u
 | _,_,.cons r .nil=>⟨_,rfl,r⟩
theorem Vals.zero:∀ {us:List A0},Vals [] us->us = []
 | _,.nil=>rfl
theorem Vals.dropLast {xs:List V} {us:List A0} (h:Vals xs us):Vals xs.dropLast us.dropLast:=by
 induction h with
 | nil=>exact .nil
 | cons r t ih =>
  cases t with
  | nil=>exact .nil
  | cons q t'=>exact .cons r ih
theorem Vals.rep {xs:List V} {us:List A0} (h:Vals xs us):∀ k:Nat,Vals (C5 k xs).flatten (C5 k us).flatten
 | 0 => .nil
 | k + 1=>by
  rw [Dz,Dz,Fi,Fi]
  exact Vals.append h (Vals.rep h k)
theorem erase_last {α : Type} (l:List α):l.eraseIdx (l.length - 1)=l.dropLast:=by
 induction l with
 | nil=>rfl
 | cons a r ih =>
  cases r with
  | nil=>rfl
  | cons b r =>
   have e:(a :: b :: r).length - 1=((b :: r).length - 1) + 1:=by
    have h1:(a :: b :: r).length=r.length + 2:=rfl
    have h2:(b :: r).length=r.length + 1:=rfl
    omega
   rw [e,List.eraseIdx_cons_succ,ih]
   all_goals rfl
theorem zfs (its:List A0):∀ (k:Nat) (acc:List A0),
  K9 (fun x1 x2=>x1 ++ x2) acc.toArray (C5 k its.toArray)=(acc ++ (C5 k its).flatten).toArray
 | 0,acc=>by simp
 | k + 1,acc=>by
  have e:acc.toArray ++ its.toArray=(acc ++ its).toArray:=by simp
  have e2:(acc ++ its) ++ (C5 k its).flatten=acc ++ (C5 (k + 1) its).flatten:=by
   rw [Dz,Fi,Aw]
  rw [<- e2,<- zfs its k (acc ++ its),<- e,Dz,Hq]
section
variable {X:Cx} {pins:List (A3×Obj)} {σ : St} {H:Hp} {s:A4} {l b:A3} {xs ys zs:List V}
theorem Inv.lset {its its':List A0} {n:Nat} {f:Array A0->Array A0} {t':Nat} (I:Inv X pins σ H s) (hH:H l=some (.lst xs))
  (e:s.heap.get? l=some { cls := .type "list",data := .seq its.toArray n }) (hf:f its.toArray=its'.toArray) (hv:Vals ys its') (hz:ys.length<=sizeLine) :
  Inv X pins σ (upd H l (.lst ys)) { s with heap:=s.heap.update l (Fw f),toks:=t' }:=by
 have q:=Q4 e f
 rw [hf] at q
 refine I.write (x:=l) (e:=l) (by rw [hH]; exact trivial) (.inl rfl) (fun b' u hb hu=>(Hj s.heap (Fw f) (Dm hb)).trans hu) ⟨_,q⟩ ?_
 exact ⟨hz,its',_,hv,q⟩
theorem Inv.lnew {its:List A0} {t':Nat} (I:Inv X pins σ H s) (hv:Vals ys its) (hz:ys.length<=sizeLine) :
  Inv X pins σ (upd H s.heap.objs.size (.lst ys)) { s with heap:=s.heap.push { cls := .type "list",data := .seq its.toArray },toks:=t' } :=
 I.laid (fun _ _ q=>Ag _ q) (A9 _) ⟨hz,its,0,hv,Bh _ rfl⟩
theorem Inv.fresh (I:Inv X pins σ H s):H s.heap.objs.size=none:=I.hok.fresh (A9 _)
theorem Inv.lstM (I:Inv X pins σ H s) (hH:H l=some (.lst xs)):xs.length<=sizeLine/\∃ (its:List A0) (n:Nat),Vals xs its/\xs.length=its.length/\s.heap.get? l=some { cls := .type "list",data := .seq its.toArray n }:=by
 obtain ⟨z,its,n,r,e⟩:=I.hok l _ hH
 exact ⟨z,its,n,r,r.length,e⟩
theorem notLongL {n:Nat} (h:n<=sizeLine):G5 n=false:=by
 unfold G5
 exact decide_eq_false (by omega)
end
section
variable {X:Cx}
noncomputable def rAppend:V->List V->Hp->VK->Prop:=fun x vs H Q=>∃ l xs y,x = .ref l/\vs = [y]/\H l=some (.lst xs)/\xs.length < sizeLine/\Q .non (upd H l (.lst (xs ++ [y])))
theorem zaH:MtM X "list.append" rAppend:=by
 intro pins s σ H x vs v us Q I rx rv h
 obtain ⟨l,xs,y,rfl,rfl,hH,hz,q⟩:=h
 cases rx
 obtain ⟨u,rfl,ru⟩:=rv.one
 obtain ⟨z,its,n,r,hl,e⟩:=I.lstM hH
 refine Lf F.slot_list_append ⟨_,e,rfl⟩ F.entry_list_append (F.args_list_append_2 _ _) (PySem.list_append l its.toArray n u (by rw [B1]; omega)) ⟨e,?_⟩
 refine ⟨.non,_,I.lset (its':=its ++ [u]) hH e (by simp) (r.append (.cons ru .nil)) ?_,rfl,q⟩
 rw [Ab,Bf]
 omega
noncomputable def rPop:V->List V->Hp->VK->Prop:=fun x vs H Q=>∃ l xs y,x = .ref l/\vs = []/\H l=some (.lst xs)/\xs[xs.length - 1]?=some y/\Q y (upd H l (.lst xs.dropLast))
theorem zh3:MtM X "list.pop" rPop:=by
 intro pins s σ H x vs v us Q I rx rv h
 obtain ⟨l,xs,y,rfl,rfl,hH,hy,q⟩:=h
 cases rx
 have hus:=rv.zero
 subst hus
 obtain ⟨z,its,n,r,hl,e⟩:=I.lstM hH
 obtain ⟨u,hu,ru⟩:=r.get hy
 have hy':its.toArray[its.toArray.size - 1]?=some u:=by
  show its.toArray[its.length - 1]?=some u
  rw [<- Db,<- hl]
  exact hu
 refine Lf F.slot_list_pop ⟨_,e,rfl⟩ F.entry_list_pop (F.args_list_pop_1 _) (MeetsSeq.list_pop_last l its.toArray n u hy' (by rw [B1]; omega)) ⟨e,?_⟩
 refine ⟨y,_,I.lset (its':=its.dropLast) hH e ?_ r.dropLast ?_,ru,q⟩
 ·show its.toArray.eraseIdxIfInBounds (its.toArray.size - 1)=its.dropLast.toArray
  rw [B1,List.eraseIdxIfInBounds_toArray,erase_last]
 ·rw [Lv]
  omega
noncomputable def rCat:R2:=fun x y H Q=>∃ l b xs zs,x = .ref l/\y = .ref b/\H l=some (.lst xs)/\H b=some (.lst zs)/\xs.length + zs.length<=sizeLine/\∀ p,H p=none->Q (.ref p) (upd H p (.lst (xs ++ zs)))
theorem zfg:OpR X (binaryOp .Add) rCat:=by
 intro pins s σ H x y v u Q I rx ry h
 obtain ⟨l,b,xs,zs,rfl,rfl,hH,hB,hz,q⟩:=h
 cases rx
 cases ry
 obtain ⟨z,its,n,r,hl,e⟩:=I.lstM hH
 obtain ⟨z2,its2,n2,r2,hl2,e2⟩:=I.lstM hB
 refine PySem.P.add_list e e2 ?_ (by rw [B1,B1]; omega)
 have ea:its.toArray ++ its2.toArray=(its ++ its2).toArray:=by simp
 rw [ea]
 exact ⟨.ref _,_,I.lnew (t':=s.toks) (r.append r2) (by rw [Ab]; omega),rfl,q _ I.fresh⟩
noncomputable def rRep:R2:=fun x y H Q=>∃ l k xs,x = .ref l/\y = .int k/\H l=some (.lst xs) /\ -(2 ^ 63)<=k/\k < 2 ^ 63/\xs.length * k.toNat<=sizeLine /\
 ∀ p,H p=none->Q (.ref p) (upd H p (.lst (C5 k.toNat xs).flatten))
theorem len_rep {α : Type} (xs:List α) (k:Nat):(C5 k xs).flatten.length=k * xs.length:=by
 induction k with
 | zero=>simp
 | succ k ih=>rw [Dz,Fi,Ab,ih,Nat.succ_mul,Lk]
theorem op_rep:OpR X (binaryOp .Mult) rRep:=by
 intro pins s σ H x y v u Q I rx ry h
 obtain ⟨l,k,xs,rfl,rfl,hH,h1,h2,hz,q⟩:=h
 cases rx
 obtain ⟨t,rfl⟩:=ry
 obtain ⟨z,its,n,r,hl,e⟩:=I.lstM hH
 have hlen:its.toArray.size * k.toNat<=sizeLine:=by rw [B1,<- hl]; exact hz
 have hcap:¬ its.toArray.size * k.toNat > (2 ^ 63 - 1) / 8:=by
  have:(sizeLine:Nat)<=(2 ^ 63 - 1) / 8:=by decide
  omega
 have hfit:¬ (!Builtin.List.listFitsIndex k)=true:=by
  rw [fitsIndex_both h1 h2]
  exact Aa
 have hlong:¬ G5 (its.toArray.size * k.toNat)=true:=by
  rw [notLongL hlen]
  exact Aa
 have hnew:K9 (fun x1 x2=>x1 ++ x2) #[] (C5 (if its.toArray.isEmpty=true then 0 else k.toNat) its.toArray)=(C5 k.toNat its).flatten.toArray:=by
  have f0:∀ m:Nat,K9 (fun x1 x2=>x1 ++ x2) #[] (C5 m its.toArray)=(C5 m its).flatten.toArray:=fun m=>by
   have:=zfs its m []
   rw [N2] at this
   exact this
  rw [f0]
  cases its with
  | nil=>simp
  | cons a r'=>rw [if_neg (by simp)]
 refine wpAny_binaryOp_repeat_ref (T := "list") (U := "int") (by decide) ⟨_,e,rfl⟩ (fun s'=>Ni s' k t) noFill_list_mul F.fills_int_mul F.slot_int_rmul repeat_list F.slot_int_index.lookup
  (Lf F.slot_int_rmul (Ni s k t) F.entry_int_rmul (F.args_int_rmul_2 _ _) (int___rmul___int_list k t l its.toArray n)
   ⟨e,rfl,⟨_,e,rfl⟩,Lf F.slot_list_mul ⟨_,e,rfl⟩ F.entry_list_mul (F.args_list_mul_2 _ _) (Q9 l its.toArray n k t hfit hcap hlong) ⟨e,?_⟩⟩)
 rw [hnew]
 exact ⟨.ref _,_,I.lnew (t':=s.toks) (r.rep k.toNat) (by rw [len_rep,Jl]; exact hz),rfl,q _ I.fresh⟩
end
section
variable {prog:Av} {w:Bu} {A:Bd} {E:A0->A4->Prop} {s:A4}
end
section
variable {X:Cx}
end
section
variable {κ : Type} [DecidableEq κ]
noncomputable def valV (kvs:List (κ × V)) (k : κ):Option V:=(kvs.find? fun kv=>decide (kv.1=k)).map (·.2)
noncomputable def putK (kvs:List (κ × V)) (k : κ) (v:V):List (κ × V) :=
 if (kvs.any fun kv=>decide (kv.1=k))=true then kvs.map (fun kv=>if kv.1=k then (kv.1,v) else kv) else kvs ++ [(k,v)]
theorem za1 {p : κ × V} {r:List (κ × V)} {k : κ} (e:p.1=k):valV (p :: r) k=some p.2:=by simp [valV,Ec,e]
theorem zaW {p : κ × V} {r:List (κ × V)} {k : κ} (e:¬ p.1=k):valV (p :: r) k=valV r k:=by simp [valV,Ec,e]
theorem zbq (k : κ):∀ kvs:List (κ × V),(kvs.any fun kv=>decide (kv.1=k))=(valV kvs k).isSome
 | []=>rfl
 | p :: r=>by
  rw [Gu]
  by_cases e:p.1=k
  ·simp only [za1 e,decide_eq_true e,Bool.true_or,Option.isSome_some]
  ·rw [zaW e,decide_eq_false e,Bool.false_or]; exact zbq k r
theorem zf7 (k j : κ) (y:V):∀ kvs:List (κ × V),valV (kvs.map fun kv=>if kv.1=k then (kv.1,y) else kv) j=(valV kvs j).map fun x=>if j=k then y else x
 | []=>rfl
 | p :: r=>by
  have ih:=zf7 k j y r
  rw [Al]
  by_cases h:p.1=k
  ·rw [if_pos h]
   by_cases e:p.1=j
   ·rw [za1 (p:=(p.1,y)) e,za1 e,Dg,if_pos (e.symm.trans h)]
   ·rw [zaW (p:=(p.1,y)) e,zaW e,ih]
  ·rw [if_neg h]
   by_cases e:p.1=j
   ·rw [za1 (p:=p) e,za1 e,Dg,if_neg (fun z=>h (e.trans z))]
   ·rw [zaW (p:=p) e,zaW e,ih]
theorem ze5 (k j : κ) (y:V):∀ kvs:List (κ × V),valV kvs k=none->valV (kvs ++ [(k,y)]) j=if j=k then some y else valV kvs j
 | [],_=>by
  by_cases e:k=j
  ·rw [if_pos e.symm]; exact za1 (p:=(k,y)) e
  ·rw [if_neg (fun z=>e z.symm)]; exact zaW (p:=(k,y)) e
 | p :: r,hn=>by
  rw [Jq]
  have hk:¬ p.1=k:=fun z=>by rw [za1 z] at hn; cases hn
  rw [zaW hk] at hn
  have ih:=ze5 k j y r hn
  by_cases e:p.1=j
  ·rw [za1 e,za1 e,if_neg (fun z=>hk (e.trans z))]
  ·rw [zaW e,zaW e,ih]
theorem zf6 (kvs:List (κ × V)) (k j : κ) (y:V):valV (putK kvs k y) j=if j=k then some y else valV kvs j:=by
 unfold putK
 by_cases a:(kvs.any fun kv=>decide (kv.1=k))=true
 ·rw [if_pos a,zf7]
  rw [zbq] at a
  by_cases e:j=k
  ·obtain ⟨x,hx⟩:=Gm.mp a
   rw [if_pos e,e,hx,Dg,if_pos rfl]
  ·rw [if_neg e]
   cases valV kvs j with
   | none=>rfl
   | some x=>rw [Dg,if_neg e]
 ·rw [if_neg a]
  refine ze5 k j y kvs ?_
  rw [zbq] at a
  cases q:valV kvs k with
  | none=>rfl
  | some x=>rw [q] at a; exact (a rfl).elim
theorem zcx (kvs:List (κ × V)) (k : κ) (v:V):(putK kvs k v).length<=kvs.length + 1:=by
 unfold putK
 split
 ·rw [A1]; omega
 ·rw [Ab,As,N4]; omega
theorem zcT {kvs:List (κ × V)} {k : κ} (v:V) (h:valV kvs k=none):putK kvs k v=kvs ++ [(k,v)]:=by
 unfold putK
 rw [zbq,h]
 exact if_neg (by decide)
theorem RelO.isSome_eq {o:Option V} {u:Option A0} (r:RelO o u):o.isSome=u.isSome:=by
 cases o with
 | none=>cases u with
  | none=>rfl
  | some _=>exact (show False from r).elim
 | some _=>cases u with
  | none=>exact (show False from r).elim
  | some _=>rfl
theorem RelO.getD {o:Option V} {u:Option A0} {d:V} {d':A0} (r:RelO o u) (rd:RelV d d'):RelV (o.getD d) (u.getD d'):=by
 cases o with
 | none=>cases u with
  | none=>exact rd
  | some _=>exact (show False from r).elim
 | some _=>cases u with
  | none=>exact (show False from r).elim
  | some _=>exact r
theorem KV.val {kvs:List (κ × V)} {vs:List (κ × A0)} (r:KV kvs vs) (k : κ):RelO (valV kvs k) (valueAt vs k):=by
 unfold KV at r
 induction r with
 | nil=>exact Ef
 | @cons p q ps qs h t ih =>
  obtain ⟨h1,h2⟩:=h
  by_cases e:p.1=k
  ·have e':q.1=k:=h1.symm.trans e
   have b:valueAt (q :: qs) k=some q.2:=by simp [valueAt,Ec,e']
   rw [za1 e,b]; exact h2
  ·have e':¬ q.1=k:=fun z=>e (h1.trans z)
   have b:valueAt (q :: qs) k=valueAt qs k:=by simp [valueAt,Ec,e']
   rw [zaW e,b]; exact ih
theorem KV.any {kvs:List (κ × V)} {vs:List (κ × A0)} (r:KV kvs vs) (k : κ):(kvs.any fun kv=>decide (kv.1=k))=vs.any fun kv=>decide (kv.1=k):=by
 unfold KV at r
 induction r with
 | nil=>rfl
 | cons h t ih=>rw [Gu,Gu,ih,h.1]
theorem KV.repl {kvs:List (κ × V)} {vs:List (κ × A0)} (r:KV kvs vs) (k : κ) {y:V} {u:A0} (ry:RelV y u) :
  KV (kvs.map fun kv=>if kv.1=k then (kv.1,y) else kv) (vs.map fun kv=>if kv.1=k then (kv.1,u) else kv):=by
 unfold KV at r ⊢
 induction r with
 | nil=>exact .nil
 | @cons p q ps qs h t ih =>
  rw [Al,Al]
  refine .cons ?_ ih
  obtain ⟨h1,h2⟩:=h
  by_cases e:p.1=k
  ·rw [if_pos e,if_pos (h1.symm.trans e)]; exact ⟨h1,ry⟩
  ·rw [if_neg e,if_neg (fun z=>e (h1.trans z))]; exact ⟨h1,h2⟩
theorem KV.put {kvs:List (κ × V)} {vs:List (κ × A0)} (r:KV kvs vs) (k : κ) {y:V} {u:A0} (ry:RelV y u):KV (putK kvs k y) (stored vs k u):=by
 unfold putK stored
 rw [r.any k]
 by_cases e:(vs.any fun kv=>decide (kv.1=k))=true
 ·rw [if_pos e,if_pos e]; exact r.repl k ry
 ·rw [if_neg e,if_neg e]; exact F8 r ⟨rfl,ry⟩
theorem KV.length {kvs:List (κ × V)} {vs:List (κ × A0)} (r:KV kvs vs):kvs.length=vs.length:=D9 r
end
theorem zgT {P:Av} {w:Bu} {k:Key} {u:A0} (r:RelV (kV k) u):(mixKind P w).is k u=true:=by
 cases k with
 | inl i=>obtain ⟨t,e⟩:=(show ∃ t,u=Ie i t from r); subst e; exact mixKind_int P w i t
 | inr x=>obtain ⟨t,e⟩:=(show ∃ t,u=Jg x t from r); subst e; exact mixKind_str P w x t
theorem zfo {P:Av} {w:Bu}:∀ {ks:List Key} {us:List A0},Vals (ks.map kV) us->ItemsAre (mixKind P w) ks us
 | [],_,r=>by rw [F0] at r; cases r; exact .nil
 | k :: ks,_,r=>by
  rw [Al] at r
  cases r with
  | cons h t=>exact .cons (zgT h) (zfo t)
noncomputable abbrev KT (H:Hp):List (List Key×V)->List (List Key×A3×A0)->Prop:=Cw fun p q=>p.1=q.1/\H q.2.1=some (.tup (p.1.map kV))/\RelV p.2 q.2.2
theorem KT.val {H:Hp} {kvs:List (List Key×V)} {xs:List (List Key×A3×A0)} (r:KT H kvs xs) (k:List Key):RelO (valV kvs k) ((atKey xs k).map (·.2)):=by
 induction r with
 | nil=>exact Ef
 | @cons p q ps qs h t ih =>
  obtain ⟨h1,_,h2⟩:=h
  by_cases e:p.1=k
  ·have e':q.1=k:=h1.symm.trans e
   have b:atKey (q :: qs) k=some q.2:=by simp [atKey,Ec,e']
   rw [za1 e,b]; exact h2
  ·have e':¬ q.1=k:=fun z=>e (h1.trans z)
   have b:atKey (q :: qs) k=atKey qs k:=by simp [atKey,Ec,e']
   rw [zaW e,b]; exact ih
theorem KT.repl {H:Hp} {kvs:List (List Key×V)} {xs:List (List Key×A3×A0)} (r:KT H kvs xs) (k:List Key) {y:V} {u:A0} (ry:RelV y u) :
  KT H (kvs.map fun kv=>if kv.1=k then (kv.1,y) else kv) (xs.map (putAt k u)):=by
 induction r with
 | nil=>exact .nil
 | @cons p q ps qs h t ih =>
  rw [Al,Al]
  refine .cons ?_ ih
  obtain ⟨h1,h2,h3⟩:=h
  unfold putAt
  by_cases e:p.1=k
  ·rw [if_pos e,if_pos (h1.symm.trans e)]; exact ⟨h1,h2,ry⟩
  ·rw [if_neg e,if_neg (fun z=>e (h1.trans z))]; exact ⟨h1,h2,h3⟩
theorem KT.put {H:Hp} {kvs:List (List Key×V)} {xs:List (List Key×A3×A0)} (r:KT H kvs xs) (k:List Key) {b:A3} {y:V} {u:A0} (hb:H b=some (.tup (k.map kV))) (ry:RelV y u) :
  KT H (putK kvs k y) (storedH xs k b u):=by
 have e:(kvs.any fun kv=>decide (kv.1=k))=(atKey xs k).isSome:=by
  rw [zbq,(r.val k).isSome_eq,J3]
 unfold putK storedH
 rw [e]
 by_cases q:(atKey xs k).isSome=true
 ·rw [if_pos q,if_pos q]; exact r.repl k ry
 ·rw [if_neg q,if_neg q]; exact F8 r ⟨rfl,hb,ry⟩
theorem KT.keeps {H H':Hp} {kvs:List (List Key×V)} {xs:List (List Key×A3×A0)} (r:KT H kvs xs) (ht:∀ b ys,H b=some (.tup ys)->H' b=some (.tup ys)):KT H' kvs xs :=
 Cw.mapP r fun _ _ z=>⟨z.1,ht _ _ z.2.1,z.2.2⟩
section
variable {P:Av} {w:Bu} {H:Hp} {h:Ce} {a:A3}
theorem zio {u:HO} (ok:HOk P w H h) (e:Rd H a u):ObjOk P w H h a u:=e.ok ok
theorem zeW {kvs:List (Key×V)} (ok:HOk P w H h) (e:Rd H a (.dK kvs)):kvs.length<=sizeLine/\(a == sysModules)=false/\∃ vs,KV kvs vs/\h.DictOf (mixKind P w) a vs :=
 show ObjOk P w H h a (.dK kvs) from zio ok e
theorem dk_of {kvs:List (Key×V)} (ok:HOk P w H h) (e:H a=some (.dK kvs)):kvs.length<=sizeLine/\(a == sysModules)=false/\∃ vs,KV kvs vs/\h.DictOf (mixKind P w) a vs:=zeW ok (.inl e)
theorem zdV {ks:List Key} (ok:HOk P w H h) (e:H a=some (.tup (ks.map kV))):(tupleKind (mixKind P w)).is h ks a:=by
 obtain ⟨_,its,r,o,h1,h2,n,h3⟩:=(show ObjOk P w H h a (.tup (ks.map kV)) from ok a _ e)
 exact ⟨o,its.toArray,n,h1,h2,h3,by simpa using zfo r⟩
theorem zfV {kvs:List (List Key×V)} (ok:HOk P w H h) (e:Rd H a (.dT kvs)):kvs.length<=sizeLine/\(a == sysModules)=false /\
  ∃ xs,KT H kvs xs/\h.DictOfH (tupleKind (mixKind P w)) a xs:=by
 obtain ⟨z,y,xs,r,o,es,ep,h1,h2,h3,h4,h5⟩:=(show ObjOk P w H h a (.dT kvs) from zio ok e)
 refine ⟨z,y,xs,r,o,es,ep,h1,h2,h3,h4,fun x hx => ?_,h5⟩
 have all:∀ {l:List (List Key×V)} {m:List (List Key×A3×A0)},KT H l m->∀ x∈m,(tupleKind (mixKind P w)).is h x.1 x.2.1:=by
  intro l m q
  induction q with
  | nil=>intro x hx; exact nomatch hx
  | @cons p q ps qs hq t ih =>
   intro x hx
   rcases Bc.mp hx with e | hx
   ·subst e
    exact zdV ok (by rw [<- hq.1]; exact hq.2.1)
   ·exact ih x hx
 exact all r x hx
theorem ziu {kvs:List (List Key×V)} (ok:HOk P w H h) (e:H a=some (.dT kvs)):kvs.length<=sizeLine/\(a == sysModules)=false /\
  ∃ xs,KT H kvs xs/\h.DictOfH (tupleKind (mixKind P w)) a xs:=zfV ok (.inl e)
end
noncomputable def DGet (H:Hp) (a:A3) (y:V) (r:Option V):Prop :=
 (∃ kvs k,Rd H a (.dK kvs)/\y=kV k/\r=valV kvs k)\/∃ kvs k b,Rd H a (.dT kvs)/\y = .ref b/\H b=some (.tup (k.map kV))/\r=valV kvs k
noncomputable def DPut (H:Hp) (a:A3) (y v:V) (H':Hp):Prop :=
 (∃ kvs k,H a=some (.dK kvs)/\y=kV k/\kvs.length < sizeLine/\H'=upd H a (.dK (putK kvs k v))) \/
 ∃ kvs k b,H a=some (.dT kvs)/\y = .ref b/\H b=some (.tup (k.map kV))/\kvs.length < sizeLine/\H'=upd H a (.dT (putK kvs k v))
theorem DGet.k {H:Hp} {a:A3} {kvs:List (Key×V)} {k:Key} (e:H a=some (.dK kvs)):DGet H a (kV k) (valV kvs k) := .inl ⟨kvs,k,.inl e,rfl,rfl⟩
theorem DGet.t {H:Hp} {a b:A3} {kvs:List (List Key×V)} {k:List Key} (e:H a=some (.dT kvs)) (eb:H b=some (.tup (k.map kV))):DGet H a (.ref b) (valV kvs k) := .inr ⟨kvs,k,b,.inl e,rfl,eb,rfl⟩
theorem DPut.k {H:Hp} {a:A3} {kvs:List (Key×V)} {k:Key} {v:V} (e:H a=some (.dK kvs)) (hl:kvs.length < sizeLine):DPut H a (kV k) v (upd H a (.dK (putK kvs k v))) := .inl ⟨kvs,k,e,rfl,hl,rfl⟩
theorem DPut.t {H:Hp} {a b:A3} {kvs:List (List Key×V)} {k:List Key} {v:V} (e:H a=some (.dT kvs)) (eb:H b=some (.tup (k.map kV))) (hl:kvs.length < sizeLine) :
  DPut H a (.ref b) v (upd H a (.dT (putK kvs k v))) := .inr ⟨kvs,k,b,e,rfl,eb,hl,rfl⟩
section
variable {X:Cx} {pins:List (A3×Obj)} {σ : St} {H:Hp} {s:A4} {a:A3} {y v:V} {u r:A0} {o:Option V} {A:Bd} {E:A0->A4->Prop}
theorem Inv.big (I:Inv X pins σ H s):sysModules < s.heap.objs.size:=by
 have h:mainGlobals < s.heap.objs.size:=(I.mod.glob.keeps I.bk).lt
 exact G9 (by decide) h
theorem d_getItem {Q:A0->A4->Prop} (hu:A.units + 1 < cLine) (I:Inv X pins σ H s) (g:DGet H a y (some v)) (ry:RelV y u) (h:∀ w' s',Inv X pins σ H s'->RelV v w'->Q w' s') :
  wpAny (model X.prog X.w) A (getItem (.ref a) u) Q E s:=by
 rcases g with ⟨kvs,k,e,ey,l⟩ | ⟨kvs,k,b,e,ey,eb,l⟩
 ·subst ey
  obtain ⟨z,hd,vs,rel,dd⟩:=zeW I.hok e
  obtain ⟨w',hw,rw'⟩:=RelO.some_of (v:=v) (o:=valueAt vs k) (by rw [l]; exact rel.val k)
  exact wpAny_getItem_of (zgT ry) dd.mapOf hw (h w' _ (I.tok _) rw')
 ·subst ey
  cases (show u=Bq b from ry)
  obtain ⟨z,hd,xs,rel,dd⟩:=zfV I.hok e
  obtain ⟨w',hw,rw'⟩:=RelO.some_of (v:=v) (o:=(atKey xs k).map (·.2)) (by rw [l]; exact rel.val k)
  obtain ⟨p,hp,hp2⟩:=Kq.mp hw
  refine wpAny_getItem_heap (Fn hu) (zdV I.hok eb) dd hp ?_
  rw [hp2]
  exact h w' _ (I.tok _) rw'
theorem d_in {Q:A0->A4->Prop} (hu:A.units + 1 < cLine) (I:Inv X pins σ H s) (g:DGet H a y o) (ry:RelV y u) (h:∀ s',Inv X pins σ H s'->Q (.bool o.isSome) s') :
  wpAny (model X.prog X.w) A (compareOp .In u (.ref a)) Q E s:=by
 rcases g with ⟨kvs,k,e,ey,l⟩ | ⟨kvs,k,b,e,ey,eb,l⟩
 ·subst ey
  obtain ⟨z,hd,vs,rel,dd⟩:=zeW I.hok e
  refine wpAny_in_of (zgT ry) hd dd.mapOf ?_
  rw [<- (rel.val k).isSome_eq,<- l]
  exact h _ (I.tok _)
 ·subst ey
  cases (show u=Bq b from ry)
  obtain ⟨z,hd,xs,rel,dd⟩:=zfV I.hok e
  refine wpAny_in_heap (Fn hu) (zdV I.hok eb) hd dd ?_
  have q:=(rel.val k).isSome_eq
  rw [J3] at q
  rw [<- q,<- l]
  exact h _ (I.tok _)
theorem d_notIn {Q:A0->A4->Prop} (hu:A.units + 1 < cLine) (I:Inv X pins σ H s) (g:DGet H a y o) (ry:RelV y u) (h:∀ s',Inv X pins σ H s'->Q (.bool (!o.isSome)) s') :
  wpAny (model X.prog X.w) A (compareOp .NotIn u (.ref a)) Q E s:=by
 rcases g with ⟨kvs,k,e,ey,l⟩ | ⟨kvs,k,b,e,ey,eb,l⟩
 ·subst ey
  obtain ⟨z,hd,vs,rel,dd⟩:=zeW I.hok e
  refine wpAny_notIn_of (zgT ry) hd dd.mapOf ?_
  rw [<- (rel.val k).isSome_eq,<- l]
  exact h _ (I.tok _)
 ·subst ey
  cases (show u=Bq b from ry)
  obtain ⟨z,hd,xs,rel,dd⟩:=zfV I.hok e
  refine wpAny_notIn_heap (Fn hu) (zdV I.hok eb) hd dd ?_
  have q:=(rel.val k).isSome_eq
  rw [J3] at q
  rw [<- q,<- l]
  exact h _ (I.tok _)
theorem zfW {h':Ce} {t':Nat} {ob:HO} (I:Inv X pins σ H s) (mu:Mut (H a)) (hs:G8 a s.heap h') (he:∃ q,h'.get? a=some q) (new:ObjOk X.prog X.w (upd H a ob) h' a ob) :
  Inv X pins σ (upd H a ob) { s with heap:=h',toks:=t' } :=
 I.write (x:=a) (e:=a) mu (.inl rfl) (fun b q hb z=>(hs.2 b hb).trans z) he new
theorem zh9 {P:Av} {w:Bu} {H':Hp} {h':Ce} {kvs:List (Key×V)} {vs:List (Key×A0)} (z:kvs.length<=sizeLine) (hd:(a == sysModules)=false) (rel:KV kvs vs) (dd:h'.DictOf (mixKind P w) a vs) :
  ObjOk P w H' h' a (.dK kvs):=⟨z,hd,vs,rel,dd⟩
theorem d_setItem {H':Hp} {Q:Unit->A4->Prop} (hu:A.units + 1 < cLine) (I:Inv X pins σ H s) (g:DPut H a y v H') (ry:RelV y u) (rv:RelV v r) (h:∀ s',Inv X pins σ H' s'->Q () s') :
  wpAny (model X.prog X.w) A (setItem (.ref a) u r) Q E s:=by
 rcases g with ⟨kvs,k,e,ey,l,eH⟩ | ⟨kvs,k,b,e,ey,eb,l,eH⟩
 ·subst ey eH
  obtain ⟨z,hd,vs,rel,dd⟩:=dk_of I.hok e
  have hz:vs.length<=sizeLine:=by rw [<- rel.length]; exact z
  have hl:(putK kvs k v).length<=sizeLine:=by have:=zcx kvs k v; omega
  refine wpAny_setItem_pairs (hsz:=hz) (zgT ry) dd fun h' dd' hs=>h _ ?_
  have he:∃ q,h'.get? a=some q:=let ⟨q,_,_,hq,_⟩:=dd'; ⟨q,hq⟩
  exact zfW I (by rw [e]; exact Ef) hs he (zh9 hl hd (rel.put k rv) dd')
 ·subst ey eH
  cases (show u=Bq b from ry)
  obtain ⟨z,hd,xs,rel,dd⟩:=ziu I.hok e
  have hz:xs.length<=sizeLine:=by rw [<- D9 rel]; exact z
  have hl:(putK kvs k v).length<=sizeLine:=by have:=zcx kvs k v; omega
  refine wpAny_setItem_heap (hsz:=hz) (Fn hu) (zdV I.hok eb) dd fun h' dd' hs=>h _ ?_
  obtain ⟨q,es,ep,hq,h2,h3,h4,_,h5⟩:=dd'
  refine zfW I (by rw [e]; exact Ef) hs ⟨q,hq⟩ ⟨hl,hd,_,(rel.put k eb rv).keeps fun c ys ec => ?_,q,es,ep,hq,h2,h3,h4,h5⟩
  rw [zaf (zhL ec e (fun z=>nomatch z))]
  exact ec
end
section
variable {X:Cx} {pins:List (A3×Obj)} {σ : St} {H:Hp} {s:A4} {a:A3} {kvs:List (Key×V)} {k:Key} {u:A0} {A:Bd} {E:A0->A4->Prop}
theorem d_len {Q:A0->A4->Prop} (I:Inv X pins σ H s) (e:Rd H a (.dK kvs)) (h:∀ t s',Inv X pins σ H s'->Q (.int kvs.length t) s'):wpAny (model X.prog X.w) A (call (.builtin "len") [.ref a]) Q E s:=by
 obtain ⟨z,hd,vs,rel,dd⟩:=zeW I.hok e
 refine call_len_dict hd dd (by rw [<- rel.length]; rw [Mu] at z; omega) ?_
 rw [<- rel.length]
 exact h _ _ (I.tok _)
end
noncomputable def NoSl (i:Cc):Prop:=∀ ov iv,subscripted i false ov iv=operate [ov,iv] (getItem ov iv)
theorem subD_of {prog:Av} {w:Bu} {A:Bd} {E:A0->A4->Prop} {s:A4} {env:Env} {value slice:Cc} {pos:Pos} {T id:String} {Q:A0->A4->Prop}
  (hl:typeLookup (.type T) "__getitem__" = pure (some (.builtin id))) (hs:NoSl slice)
  (h:wpAny (model prog w) A (eval value env) (fun o s₁ => wpAny (model prog w) A (eval slice env) (fun i s₂ => s₂.TypeIs o T/\wpAny (model prog w) A (getItem o i) Q E s₂) E s₁) E s) :
  wpAny (model prog w) A (eval (.Subscript value slice pos) env) Q E s:=by
 refine Nj (Dq h (fun o s₁ h₁ => Dq h₁ (fun i s₂ h₂ => ?_) fun _ _ x=>x) fun _ _ x=>x)
 obtain ⟨hT,h₂⟩:=h₂
 unfold subscriptTail
 refine A6 ?_
 rw [getitemInPython_of_ne hT.not_modules]
 refine A6 (wpAny_specialOf hT hl ?_)
 have fin:wpAny (model prog w) A (subscripted slice false o i) (fun r s₃ => wpAny (model prog w) A (letTemporaryGo value o r >>= fun _=>pure r) Q E s₃) E s₂ := by
  rw [hs o i]
  exact wpAny_operating (Dq h₂ (fun r s₃ h₃ => A6 (wpAny_letTemporaryGo (Aq h₃))) fun _ _ x=>x)
 first
  | exact Aq (A6 fin)
  | exact A6 (Aq (A6 fin))
  | exact A6 fin
theorem dict_typeIs {X:Cx} {pins:List (A3×Obj)} {σ : St} {H:Hp} {s:A4} {a:A3} {y:V} {o:Option V} (I:Inv X pins σ H s) (g:DGet H a y o):s.TypeIs (.ref a) "dict" := by
 rcases g with ⟨kvs,k,e,_,_⟩ | ⟨kvs,k,b,e,_,_,_⟩
 ·obtain ⟨_,_,vs,_,dd⟩:=zeW I.hok e
  exact dd.typeIs
 ·obtain ⟨_,_,xs,_,dd⟩:=zfV I.hok e
  exact dd.typeIs
noncomputable def tDGet (td ty:TE):TE:=fun σ H Q=>td σ H fun x H1=>ty σ H1 fun y H2=>∃ a v,x = .ref a/\DGet H2 a y (some v)/\Q v H2
noncomputable def tDIn (ty td:TE):TE:=fun σ H Q=>ty σ H fun y H1=>td σ H1 fun x H2=>∃ a o,x = .ref a/\DGet H2 a y o/\Q (.bl o.isSome) H2
noncomputable def tDNotIn (ty td:TE):TE:=fun σ H Q=>ty σ H fun y H1=>td σ H1 fun x H2=>∃ a o,x = .ref a/\DGet H2 a y o/\Q (.bl (!o.isSome)) H2
noncomputable def sDPut (td ty tv:TE):TS:=fun D σ H=>tv σ H fun v H1=>td σ H1 fun x H2=>ty σ H2 fun y H3=>∃ a H4,x = .ref a/\DPut H3 a y v H4/\D.nx σ H4
section
variable {X:Cx} {o i e value:Cc} {pos pos' tpos:Pos} {td ty tv:TE}
theorem zdb (hu:X.A.units + 1 < cLine) (ho:PE X o td) (hi:PE X i ty) (hs:NoSl i):PE X (.Subscript o i pos) (tDGet td ty):=by
 intro pins s σ H Q I h
 refine subD_of PySem.F.slot_dict_getitem.lookup hs (thnE (ho pins s σ H _ I h) fun u s1 x H1 I1 rx q1=>thnE (hi pins s1 σ H1 _ I1 q1) fun iv s2 y H2 I2 ry ⟨a,v,ex,g,q2⟩ => ?_)
 subst ex
 obtain rfl:u=Bq a:=rx
 exact ⟨dict_typeIs I2 g,d_getItem hu I2 g ry fun w' s3 I3 rw'=>⟨v,H2,I3,rw',q2⟩⟩
theorem zhZ (hu:X.A.units + 1 < cLine) (hi:PE X i ty) (ho:PE X o td):PC X .In i o (tDIn ty td):=by
 intro pins s σ H Q I h
 refine thnE (hi pins s σ H _ I h) fun iv s1 y H1 I1 ry q1=>thnE (ho pins s1 σ H1 _ I1 q1) fun u s2 x H2 I2 rx ⟨a,ov,ex,g,q2⟩ => ?_
 subst ex
 obtain rfl:u=Bq a:=rx
 exact d_in hu I2 g ry fun s3 I3=>⟨.bl ov.isSome,H2,I3,rfl,q2⟩
theorem zcW (hu:X.A.units + 1 < cLine) (hi:PE X i ty) (ho:PE X o td):PC X .NotIn i o (tDNotIn ty td):=by
 intro pins s σ H Q I h
 refine thnE (hi pins s σ H _ I h) fun iv s1 y H1 I1 ry q1=>thnE (ho pins s1 σ H1 _ I1 q1) fun u s2 x H2 I2 rx ⟨a,ov,ex,g,q2⟩ => ?_
 subst ex
 obtain rfl:u=Bq a:=rx
 exact d_notIn hu I2 g ry fun s3 I3=>⟨.bl (!ov.isSome),H2,I3,rfl,q2⟩
theorem zcr (hu:X.A.units + 1 < cLine) (ho:PE X o td) (hi:PE X i ty) (hv:PE X value tv) (hs:swapsWith value (some (.Subscript o i pos')) pos.line X.env=pure false) :
  PS X (.Assign [.Subscript o i pos'] value pos) (sDPut td ty tv):=by
 intro pins s σ H D I h
 refine wpAny_Assign_Subscript (thnE (hv pins s σ H _ I h) fun r s1 v H1 I1 rv q1=>thnE (ho pins s1 σ H1 _ I1 q1) fun u s2 x H2 I2 rx q2=>thnE (hi pins s2 σ H2 _ I2 q2) fun iv s3 y H3 I3 ry ⟨a,H4,ex,g,q3⟩ => ?_) hs
 subst ex
 obtain rfl:u=Bq a:=rx
 exact d_setItem hu I3 g ry rv fun s4 I4=>⟨σ,H4,I4,q3⟩
end
theorem dk_empty {P:Av} {w:Bu} {H:Hp} (h:Ce) (hb:sysModules < h.objs.size):ObjOk P w H (h.push { cls := .type "dict",data := .dict #[] }) h.objs.size (.dK []) :=
 ⟨By _,beq_eq_false_iff_ne.mpr (Dm (Bs hb)),[],.nil,Pd h⟩
theorem zgN {P:Av} {w:Bu} {H:Hp} (h:Ce) (hb:sysModules < h.objs.size):ObjOk P w H (h.push { cls := .type "dict",data := .dict #[] }) h.objs.size (.dT []) :=
 ⟨By _,beq_eq_false_iff_ne.mpr (Dm (Bs hb)),[],.nil,_,#[],0,Bh _ rfl,⟨rfl,rfl,rfl⟩,rfl,rfl,D3⟩
noncomputable def tDNewK:TE:=fun _ H Q=>∀ p,H p=none->Q (.ref p) (upd H p (.dK []))
noncomputable def tDNewT:TE:=fun _ H Q=>∀ p,H p=none->Q (.ref p) (upd H p (.dT []))
section
variable {X:Cx} {pos:Pos}
theorem zdr:PE X (.Dict [] [] pos) tDNewK:=fun pins s σ H Q I h =>
 Ny ⟨.ref s.heap.objs.size,_,I.laid (a:=s.heap.objs.size) (o := .dK []) (t':=s.toks) (fun _ _ q=>Ag _ q) (A9 _) (dk_empty s.heap I.big),rfl,h _ (I.hok.fresh (A9 _))⟩
theorem zeJ:PE X (.Dict [] [] pos) tDNewT:=fun pins s σ H Q I h =>
 Ny ⟨.ref s.heap.objs.size,_,I.laid (a:=s.heap.objs.size) (o := .dT []) (t':=s.toks) (fun _ _ q=>Ag _ q) (A9 _) (zgN s.heap I.big),rfl,h _ (I.hok.fresh (A9 _))⟩
end
structure M2 (X:Cx) (o:Cc) (m:Str) (apos:Pos) (e f:Cc) (cpos:Pos):Prop where
 base:attributeBase o m X.env (eval o X.env)=eval o X.env
 few:((backTo cpos (starEach [e,f] X.env)).all (fun x => !x.1) && (backToKw cpos (keywordEach [] X.env)).all (fun x=>x.1.isSome)
  && decide (([e,f]:List Cc).length + ([]:List Mj).length + (if ([]:List Mj).isEmpty then 0 else 1) < 30))=true
 line:(apos.endLine == cpos.line)=true
 trees:backTo cpos (starEach [e,f] X.env) = [(false,eval e X.env),(false,eval f X.env)]
noncomputable def IsD (H:Hp) (a:A3):Prop:=(∃ kvs,Rd H a (.dK kvs))\/∃ kvs,Rd H a (.dT kvs)
theorem isD_at {X:Cx} {pins:List (A3×Obj)} {σ : St} {H:Hp} {s:A4} {a:A3} (I:Inv X pins σ H s) (d:IsD H a) :
  s.TypeIs (.ref a) "dict" /\ (∀ b,Bq a = .ref b->∃ ob,s.heap.get? b=some ob/\ob.dict=none)/\(a == sysModules)=false:=by
 rcases d with ⟨kvs,e⟩ | ⟨kvs,e⟩
 ·obtain ⟨_,hd,vs,_,dd⟩:=zeW I.hok e
  refine ⟨dd.typeIs,fun b q => ?_,hd⟩
  cases q
  obtain ⟨ob,_,_,h1,h2,_⟩:=dd
  exact ⟨ob,h1,h2.2.1⟩
 ·obtain ⟨_,hd,xs,_,dd⟩:=zfV I.hok e
  refine ⟨dd.typeIs,fun b q => ?_,hd⟩
  cases q
  obtain ⟨ob,_,_,h1,h2,_⟩:=dd
  exact ⟨ob,h1,h2.2.1⟩
section
variable {X:Cx} {pins:List (A3×Obj)} {σ : St} {H:Hp} {s:A4} {a:A3} {y d:V} {u r:A0} {o:Option V} {A:Bd} {E:A0->A4->Prop}
theorem d_get2 {Q:A0->A4->Prop} (hu:A.units + 1 < cLine) (I:Inv X pins σ H s) (g:DGet H a y o) (ry:RelV y u) (rd:RelV d r) (h:∀ w' s',Inv X pins σ H s'->RelV (o.getD d) w'->Q w' s') :
  wpAny (model X.prog X.w) A (call (.builtin "dict.get") [.ref a,u,r]) Q E s:=by
 rcases g with ⟨kvs,k,e,ey,l⟩ | ⟨kvs,k,b,e,ey,eb,l⟩
 ·subst ey
  obtain ⟨z,hd,vs,rel,dd⟩:=zeW I.hok e
  refine Q1 Hc dd.typeIs Kf (K7 _ _ _) (meets_dict_get_default (mixKind X.prog X.w) a (zgT ry) hd r) ⟨_,dd.mapOf,h _ _ (I.tok _) ?_⟩
  rw [l]
  exact (rel.val k).getD rd
 ·subst ey
  cases (show u=Bq b from ry)
  obtain ⟨z,hd,xs,rel,dd⟩:=zfV I.hok e
  refine Q1 Hc dd.typeIs Kf (K7 _ _ _) (meetsH_dict_get_default (tupleKind (mixKind X.prog X.w)) a b hd r) ⟨Fn hu,k,xs,zdV I.hok eb,dd,h _ _ (I.tok _) ?_⟩
  rw [l]
  exact (rel.val k).getD rd
end
noncomputable def tDGet2 (td ty tx:TE):TE:=fun σ H Q=>td σ H fun x H1=>∃ a,x = .ref a/\IsD H1 a/\ty σ H1 fun y H2=>tx σ H2 fun z H3=>∃ o,DGet H3 a y o/\Q (o.getD z) H3
section
variable {X:Cx} {o e f:Cc} {apos cpos:Pos} {td ty tx:TE}
theorem zgt (hu:X.A.units + 1 < cLine) (ho:PE X o td) (he:PE X e ty) (hf:PE X f tx) (m:M2 X o "get" apos e f cpos):PE X (.Call (.Attribute o "get" apos) [e,f] [] cpos) (tDGet2 td ty tx):=by
 intro pins s σ H Q I h
 refine wpAny_Call_method m.base m.few m.line PySem.F.plainAttrs_dict Hc PySem.F.type_dict_get (thnE (ho pins s σ H _ I h) fun u s1 x H1 I1 rx ⟨a,ex,d,q1⟩ => ?_)
 subst ex
 obtain rfl:u=Bq a:=rx
 obtain ⟨t1,t2,_⟩:=isD_at I1 d
 refine ⟨t1,t2,?_⟩
 rw [m.trees]
 refine Hf rfl (Ic (Iy (thnE (he pins s1 σ H1 _ I1 q1) fun iv s2 y H2 I2 ry q2 =>
  Iy (thnE (hf pins s2 σ H2 _ I2 q2) fun fv s3 z H3 I3 rz ⟨ov,g,q3⟩=>M9 ?_))))
 exact d_get2 hu I3 g ry rz fun w' s4 I4 rw'=>⟨_,H3,I4,rw',q3⟩
end
section
variable {X:Cx} {pins:List (A3×Obj)} {σ : St} {H:Hp} {s:A4} {a:A3} {kvs:List (Key×V)} {A:Bd} {E:A0->A4->Prop}
theorem d_copyOf {Q:A0->A4->Prop} (I:Inv X pins σ H s) (e:Rd H a (.dK kvs)) (h:∀ p s',H p=none->Inv X pins σ (upd H p (.dK kvs)) s'->Q (.ref p) s'):wpAny (model X.prog X.w) A (call (.type "dict") [.ref a]) Q E s:=by
 obtain ⟨z,hd,vs,rel,dd⟩:=zeW I.hok e
 refine kt_call_dict hd dd (by rw [<- rel.length]; exact z) fun h' dd' hs => ?_
 refine h _ _ (I.hok.fresh (A9 _)) (I.laid (a:=s.heap.objs.size) (o := .dK kvs) (t':=s.toks) (fun b q hq => ?_) (A9 _) (zh9 z (beq_eq_false_iff_ne.mpr (Dm (Bs I.big))) rel dd'))
 exact (hs.2 b (Bs (Ar hq))).trans (Ag _ hq)
end
section
variable {X:Cx} {pins:List (A3×Obj)} {σ : St} {H:Hp} {s:A4} {a:A3} {y:V} {u:A0} {A:Bd} {E:A0->A4->Prop}
end
end L2
namespace Att
open PySem PySem.W PySem.Calls PyProof.Rows
theorem ints_of_wellAll {P:Pc} {h:Ce}:∀ (ns:List Int) (vs:List A0),WellAll P h vs (ns.map WData.int)->Hi vs ns:=by
 intro ns
 induction ns with
 | nil =>
  intro vs w
  rw [F0] at w
  cases w
  exact .nil
 | cons n ns ih =>
  intro vs w
  rw [Al] at w
  cases w with
  | cons a b =>
   cases a
   exact .cons _ _ (ih _ b)
theorem script_of {l:OpenLaw} {n:Nat} (hn:l.most=some n) {P:Pc} {h:Ce} {args:List WData} {vals:List A0}
  (hpre:l.row.toRowW.claim.pre args=true) (hwl:WellAll P h vals args) :
  ∃ a vs ns,vals = [Bq a]/\args = [WData.list (ns.map WData.int)]/\h.get? a=some { cls := .type "list",data := .seq vs.toArray }/\Hi vs ns/\ns.length<=n:=by
 have hsh:WShape.hasAll [] args [.list .int]=true:=(pre_splitW hpre).1
 have hc:l.pre.holds [] { args:=args }=true:=(pre_splitW hpre).2
 obtain ⟨d,r,rfl,h1,h2⟩:=hasAllW_cons hsh
 obtain rfl:=hasAllW_nil h2
 obtain ⟨xs,rfl,h3⟩:=hasW_list h1
 obtain ⟨ns,rfl⟩:=items_int h3
 have hlen:ns.length<=n:=by
  unfold OpenLaw.pre at hc
  have h4:(WTm.not (.lt (.lit (.int (n:Int))) (.len (.arg 0)))).holds [] { args := [.list (ns.map .int)] }=true:=by
   have h4:=(holds_andW hc).1
   rw [hn] at h4
   exact h4
  have h5:=condW_of h4 (w_not (w_lt w_lit (w_len_list (w_arg rfl))))
  rw [A1] at h5
  refine N0 fun q => ?_
  have q':(n:Int) < ((ns.length:Nat):Int):=by omega
  first
   | (rw [decide_eq_true q'] at h5; exact absurd h5 (by decide))
   | (simp at h5; omega)
 cases hwl with
 | cons w1 w2 =>
  cases w2
  cases w1 with
  | list ho hall=>exact ⟨_,_,ns,rfl,rfl,ho,ints_of_wellAll ns _ hall,hlen⟩
theorem post_true (l:OpenLaw) (args:List WData):l.row.toRowW.claim.post args (.bool true) args=true :=
 postW_of (r:=l.row.toRowW) (X:=(true == true))
  (show WShape.has [] (.bool true) .bool=true by first | rfl | decide | simp [WShape.has,WShape.arms,WShape.armsAll])
  (show (WTm.eq .res (.lit (.bool true))).value [] { args:=args,res:=some (.bool true),after:=args }=some (.bool (true == true)) from w_eq_bool (w_res rfl) w_lit) rfl
theorem attach_call {l:OpenLaw} {n:Nat} {q:Av} {loose:List Str} {XP:(Str->Option A0)->Ce->Prop} {YP:Bu->Ce->Prop} {d:DefRec}
  (hn:l.most=some n) (hdf:d.params.defaults = [])
  (call:∀ (w:Bu) (s₀ s₁ : A4) (mg mb:Str->Option A0) (fa:A3) (o:Obj) (pm cd doc:A0) (a:A3) (vs:List A0) (ns:List Int),
   Ground q loose [] XP w s₀ mg mb s₁.heap->YP w s₁.heap ->
   s₁.heap.get? fa=some o->o.data = .func (docDef d.name d.params d.body d.scope pm cd doc)->s₁.heap.CodeRec cd d.name->mg d.name=some (.ref fa) ->
   s₁.heap.get? a=some { cls := .type "list",data := .seq vs.toArray }->Hi vs ns->ns.length<=n->s₁.gens = #[] ->
   codeAny (model l.prog w) callerA (.call (.ref fa) ⟨[.ref a],[]⟩) (fun r s'=>r = .ok (.ret (.bool true))/\OldK s₁.heap s'.heap/\s'.os=s₁.os/\Gq s'.gens) s₁) :
  WalkO q loose XP YP l.row.toRowW d [] (fun f vs=>M0 f vs):=by
 intro w s₀ s₁ mg mb G Y fa o pm cd doc dV kV ho hd hcd hD hmg hg args vals as hpre hlay hrd hwl hlo
 obtain rfl:dV = .none:=Dflts.none hD hdf
 obtain rfl:kV = .none:=Dflts.noKw hD
 obtain ⟨a,vs,ns,rfl,rfl,hobj,hints,hlen⟩:=script_of hn hpre hwl
 refine enter_call (K0 (call w s₀ s₁ mg mb fa o pm cd doc a vs ns G Y ho (fd_plain hd) hcd hmg hobj hints hlen hg) fun r s' hq => ?_)
 obtain ⟨rfl,h2,h3,h4⟩:=hq
 exact ⟨.inl ⟨.bool true,.bool true,[],rfl,fun _=>rfl,.bool true,post_true l _,fun _=>⟨G0,fun _ hm=>(nomatch hm)⟩⟩,h2,h3,h4⟩
section
variable {prog:Av} {w:Bu} {A:Bd} {E:A0->A4->Prop} {s:A4} {K:Frag}
noncomputable def ledger (h:Ce) (L d:A3):List (A3×Obj):=(Af h.objs.size).filterMap fun a=>if a=L\/a=d then none else (h.get? a).map fun o=>(a,o)
end
end Att
namespace L2
open PySem PySem.Spec PyProof.Rows
theorem zcE:∀ {vs:List A0} {ns:List Int},Hi vs ns->Vals (ns.map V.int) vs
 | _,_,.nil => .nil
 | _,_,.cons n t h => .cons ⟨t,rfl⟩ (zcE h)
noncomputable def Only (H:Hp):Prop:=∀ b,H b=none\/∃ o xs,H b=some (.frz o (.lst xs))
theorem law_call {P:Av} {w:Bu} {K:At} {mg mb:Str->Option A0} {CX:CXT} {k:Nat} {fa a:A3} {fd:Ej} {x:Str} {sp:Sp} {s₁ : A4} {vs:List A0} {ns:List Int}
  (KX:K.In s₁.heap) (hns:s₁.heap.Ns mainGlobals mg) (hb:s₁.heap.Ns builtinsNs mb) (hbb:∀ x:Str,x ≠ "__name__" -> mb x=bootBuiltins x) (hlim:s₁.heap.NoLimit) (hg:s₁.gens = #[])
  (ha:s₁.heap.get? a=some { cls := .type "list",data := .seq vs.toArray }) (hi:Hi vs ns) (hl:ns.length<=sizeLine) (hr:Room k callerA)
  (F:∀ base:Ce,K.In base->base.Ns mainGlobals mg->FnOk P w K mg base CX k fa fd [x] sp) (hbind:∀ (s:A4) (u:A0),K4 s fd ⟨[u],[]⟩ [(x,u)])
  (hsp:∀ H:Hp,Only H->SqL K H a (ns.map V.int)->sp [.ref a] H (fun v _=>v = .bl true) fun _ _ _=>False)
  (hCX:∀ H e s',CX [] H s₁ (fun _ _ _=>False) e s'->False) :
  codeAny (model P w) callerA (.call (.ref fa) ⟨[.ref a],[]⟩) (fun r s'=>r = .ok (.ret (.bool true))/\OldK s₁.heap s'.heap/\s'.os=s₁.os/\Gq s'.gens) s₁ := by
 have rv:=zcE hi
 have lenV:=hi.length
 have core:∀ H:Hp,Only H->SqL K H a (ns.map V.int)->HOk P w H s₁.heap->(∀ b,H b≠none->b=a)->(H a≠none->K.lookup a=none) ->
   codeAny (model P w) callerA (.call (.ref fa) ⟨[.ref a],[]⟩) (fun r s'=>r = .ok (.ret (.bool true))/\OldK s₁.heap s'.heap/\s'.os=s₁.os/\Gq s'.gens) s₁ := by
  intro H hO hS hok hA hK
  have base_of:∀ {b:A3} {o:Obj},s₁.heap.get? b=some o->H b=none->(hidT s₁.heap H).get? b=some o:=fun e n=>hidT_get e n
  have noA:∀ {b:A3} {o:Obj} {es:Array Jf} {ep:Nat},s₁.heap.get? b=some o->o.data = .dict es ep->H b=none:=fun {b o es ep} e d=>by
   cases q:H b with
   | none=>rfl
   | some u =>
    have e':b=a:=hA b (by rw [q]; simp)
    subst e'
    rw [ha] at e; cases e
    have d':Data.seq vs.toArray _=Data.dict es ep:=d
    cases d'
  have nsK:∀ {b:A3} {m:Str->Option A0},s₁.heap.Ns b m->(hidT s₁.heap H).Ns b m:=fun {b m} ⟨o,es,ep,e,d,r⟩=>⟨o,es,ep,base_of e (noA e d),d,r⟩
  have hKb:K.In (hidT s₁.heap H):=fun b o e=>base_of (KX b o e) (by
   cases q:H b with
   | none=>rfl
   | some u =>
    have e':b=a:=hA b (by rw [q]; simp)
    subst e'
    rw [hK (by rw [q]; simp)] at e; cases e)
  have hM:Mod K mg (hidT s₁.heap H):=⟨hKb,nsK hns,⟨mb,nsK hb,hbb⟩,let ⟨mc,h1,h2⟩:=hlim; ⟨mc,nsK h1,h2⟩⟩
  have e0:Env0 P w K mg (hidT s₁.heap H) callerA [] s₁ H:=⟨rfl,hM,fun b o e=>of_hidT e,Ob (hidT_size _ _),trivial,fun b hb=>absurd (show b∈([]:List A3) from hb) (by simp),hok,.of_eq hg⟩
  refine K0 ((F _ hKb (nsK hns)).run callerA [] s₁ H ⟨[.ref a],[]⟩ [.ref a] [.ref a] _ _ hr e0 (hbind s₁ (.ref a)) (.cons rfl .nil) (hsp H hO hS)) fun r s' h => ?_
  cases r with
  | error e=>exact (hCX H e s' h).elim
  | ok fl =>
   cases fl with
   | next=>exact E7 h
   | brk=>exact E7 h
   | cont=>exact E7 h
   | ret u =>
    obtain ⟨v,H',os,bare,un,hok',r',q⟩:=h
    have q':v = .bl true:=q
    subst q'
    obtain rfl:u=F7 true:=r'
    refine ⟨rfl,OldK.of_keep fun b o e => ?_,os,bare⟩
    cases q:H b with
    | none=>exact un.keep b o e q (by intro z; exact absurd (show b∈([]:List A3) from z) (by simp)) (by simp)
    | some u =>
     rcases hO b with z | ⟨ob,xs,z⟩
     ·rw [q] at z; cases z
     ·have z2:=un.frzs b ob _ z
      obtain ⟨e1,_⟩:=hok b _ z
      obtain ⟨e2,_⟩:=hok' b _ z2
      rw [e] at e1; cases e1
      exact e2
 cases hk:K.lookup a with
 | some o =>
  have e:=KX a o hk
  rw [ha] at e
  cases e
  refine core (fun _=>none) (fun _ => .inl rfl) (.inr ⟨_,vs.toArray,_,hk,rfl,rfl,rfl,by rw [B1,lenV]; exact hl,by simpa using rv⟩) (fun b u z=>by have z':(none:Option HO)=some u:=z; cases z') (fun b z=>absurd rfl z) fun z=>absurd rfl z
 | none =>
  refine core (fun b=>if b=a then some (.frz { cls := .type "list",data := .seq vs.toArray } (.lst (ns.map V.int))) else none) (fun b => ?_) (.inl (.inr ⟨{ cls := .type "list",data := .seq vs.toArray },if_pos rfl⟩)) (fun b u z => ?_) (fun b z => ?_) fun _=>hk
  ·by_cases hb:b=a
   ·exact .inr ⟨_,_,if_pos hb⟩
   ·exact .inl (if_neg hb)
  ·by_cases hb:b=a
   ·have z':=(if_pos hb).symm.trans z
    cases z'
    subst hb
    exact ⟨ha,by rw [A1]; exact hl,vs,_,rv,ha⟩
   ·have z':=(if_neg hb).symm.trans z
    cases z'
  ·by_cases hb:b=a
   ·exact hb
   ·exact absurd (if_neg hb) z
theorem walk_of {l:Jj} {n k:Nat} {q:Av} {loose:List Str} {XP:(Str->Option A0)->Ce->Prop} {YP:Bu->Ce->Prop} {d:DefRec} {K:Pc->At} {CX:Bu->CXT} {sp:Bu->Sp} {x:Str}
  (hn:l.most=some n) (hn2:n<=sizeLine) (hdf:d.params.defaults = []) (hr:Room k callerA)
  (hY:∀ (w:Bu) (h:Ce),YP w h->(K w.params).In h)
  (F:∀ (w:Bu) (mg:Str->Option A0) (fa:A3) (h:Ce),(K w.params).In h->h.Ns mainGlobals mg->mg d.name=some (.ref fa) ->
   ∃ fd:Ej,(∀ (s:A4) (u:A0),K4 s fd ⟨[u],[]⟩ [(x,u)]) /\
    ∀ base:Ce,(K w.params).In base->base.Ns mainGlobals mg->FnOk l.prog w (K w.params) mg base (CX w) k fa fd [x] (sp w))
  (hsp:∀ (w:Bu) (H:Hp) (a:A3) (ns:List Int),ns.length<=n->Only H->SqL (K w.params) H a (ns.map V.int)->sp w [.ref a] H (fun v _=>v = .bl true) fun _ _ _=>False)
  (hCX:∀ (w:Bu) (H:Hp) (s:A4) (e:A0) (s':A4),CX w [] H s (fun _ _ _=>False) e s'->False) :
  Mn q loose XP YP l.row.toRowW d [] (fun f vs=>M0 f vs):=by
 refine Att.attach_call hn hdf fun w s₀ s₁ mg mb fa o pm cd doc a vs ns G Y ho hd hcd hmg hobj hints hlen hg => ?_
 have KX:=hY w _ Y
 obtain ⟨fd,hb,hF⟩:=F w mg fa _ KX G.T.g hmg
 exact law_call KX G.T.g G.T.b G.T.builtins G.T.nolimit hg hobj hints (Bv hlen hn2) hr hF hb (fun H hO hS=>hsp w H a ns hlen hO hS) fun H e s'=>hCX w H s₁ e s'
noncomputable def inClass (s:Cd) (j:Nat):Cd:=match s with
 | .ClassDef _ _ _ body _ _ _ _ _ _ _=>body.getD j (.Pass ⟨0,0,0,0⟩)
 | _ => .Pass ⟨0,0,0,0⟩
noncomputable def defArgs (s:Cd):Arguments:=match s with
 | .FunctionDef _ a _ _ _ _ _ _ _ _=>a
 | _=>{ posonlyargs := [],args := [],vararg:=none,kwonlyargs := [],kw_defaults := [],kwarg:=none,defaults := [] }
noncomputable def defBody (s:Cd):List Cd:=match s with
 | .FunctionDef _ _ b _ _ _ _ _ _ _=>b
 | _ => []
noncomputable def defScope (s:Cd):Fg:=match s with
 | .FunctionDef _ _ _ _ _ _ sc _ _ _=>sc
 | _=>{ kind := .function,names := [],isGenerator:=false,isCoroutine:=false }
noncomputable abbrev CX0:CXT:=fun _ _ _ _ _ _=>False
noncomputable abbrev E0:XK:=fun _ _ _=>False
theorem zdI {X:Cx}:Passes CX0 X E0:=fun _ _ _ _ _ _ _ h=>h.elim
structure Fun (K:At) (x qual:Str) (st:Cd) (f:A3) (fd:Ej):Prop where
 ex:∃ (oc:A0) (od:Option A3) (kV doc pm:A0) (an:Option A3) (cdv ct:A0) (osl:Array (Option A0)),
  fd=D4 x qual (defArgs st) (defBody st) (defScope st) .none kV doc pm an cdv ct/\K.lookup f=some ⟨oc,od,.func fd,osl⟩/\Fc K cdv qual=true
 kp:Dj K (.ref f)=true
section
variable {P:Av} {w:Bu} {K:At} {mg:Str->Option A0} {base:Ce}
theorem Fun.ok {x qual:Str} {st:Cd} {f:A3} {fd:Ej} {N ps:List Str} {k:Nat} {sp:Sp} (F:Fun K x qual st f fd) (S:FnScope N ps (defScope st)) (len:∀ vs H Q E,sp vs H Q E->vs.length=ps.length)
  (hbody:∀ (cdv:A0) (A:Bd) (outer:List Env) (s:A4) (H:Hp) (vs:List V) (Q:VK) (E:XK),Room k (A.deeper (envOfC qual (defScope st) s.heap.objs.size f cdv))->sp vs H Q E ->
   ∃ t,PSs (cxOf CX0 P w K mg base N qual (defScope st) f cdv A outer s H E).nox (defBody st) t/\t { nx:=fun _ H'=>Q .non H',rt:=Q } (start N vs) H):FnOk P w K mg base CX0 (k + 1) f fd ps sp:=by
 obtain ⟨oc,od,kV,doc,pm,an,cdv,ct,osl,rfl,lk,hcd⟩:=F.ex
 refine zit lk hcd S len fun A outer s H vs Q E hr hsp => ?_
 obtain ⟨t,h,q⟩:=hbody cdv A outer s H vs Q E hr hsp
 exact ⟨t,h.nox,q⟩
theorem Fun.binds {x qual:Str} {st:Cd} {f:A3} {fd:Ej} {ps:List Str} (F:Fun K x qual st f fd)
  (h:∀ (kV doc pm:A0) (an:Option A3) (cdv ct:A0) (us:List A0),us.length=ps.length->bindArgs (D4 x qual (defArgs st) (defBody st) (defScope st) .none kV doc pm an cdv ct) ⟨us,[]⟩=pure (ps.zip us)):Binds K fd ps []:=by
 obtain ⟨oc,od,kV,doc,pm,an,cdv,ct,osl,rfl,lk,hcd⟩:=F.ex
 exact .all (h kV doc pm an cdv ct)
theorem zhw {x qual:Str} {st:Cd} {f:A3} {oc:A0} {od an:Option A3} {osl:Array (Option A0)} {kV doc pm cdv ct:A0} (l:K.lookup f=some ⟨oc,od,.func (D4 x qual (defArgs st) (defBody st) (defScope st) .none kV doc pm an cdv ct),osl⟩)
  (c:Fc K cdv qual=true) (k:Dj K (.ref f)=true):Fun K x qual st f (D4 x qual (defArgs st) (defBody st) (defScope st) .none kV doc pm an cdv ct):=⟨⟨oc,od,kV,doc,pm,an,cdv,ct,osl,rfl,l,c⟩,k⟩
end
theorem zck {A:Bd} {k:Nat} (hr:Room k A):A.units + 1 < cLine:=Me (Nat.add_le_add_left (by decide:1<=64) _) hr.units
section
variable {X:Cx}
theorem pv (i:Nat) {x:Str} {pos:Pos} (hN:X.N[i]?=some x:=by rfl) (hv:Vis X.env.scope x:=by first | exact Aj rfl | exact Gk (Aj rfl) | exact Gk (Gk rfl)) (hd:(x == ("__debug__" : Str))=false:=by decide)
  (hcd:(x == ("__classdict__" : Str))=false:=by decide):PE X (.Name x pos) (tVar i):=pe_var hN hv hd hcd
theorem zfB:CallR X (.builtin "len") (fun xs H Q=>∃ a kvs,xs = [V.ref a]/\H a=some (.dK kvs)/\Q (.int kvs.length) H):=by
 intro pins s σ H xs us Q I r h
 obtain ⟨a,kvs,rfl,ha,q⟩:=h
 obtain ⟨u,rfl,ru⟩:=zci r
 cases ru
 exact d_len I (.inl ha) fun t s' I'=>⟨.int kvs.length,H,I',⟨t,rfl⟩,q⟩
end
theorem iteF {A B:Prop} (h:B):if false=true then A else B:=by
 rw [if_neg Aa]
 exact h
theorem iteT {A B:Prop} (h:A):if true=true then A else B:=by
 rw [if_pos rfl]
 exact h
theorem ite2 {c A B:Prop} [Decidable c] (h1:c->A) (h2:¬ c->B):if c then A else B:=by
 by_cases h:c
 ·rw [if_pos h]
  exact h1 h
 ·rw [if_neg h]
  exact h2 h
noncomputable def Same (H H':Hp):Prop:=∀ b o,H b=some o->H' b=some o
theorem Same.refl (H:Hp):Same H H:=fun _ _ h=>h
theorem Same.trans {H H1 H2:Hp} (a:Same H H1) (b:Same H1 H2):Same H H2:=fun c o h=>b c o (a c o h)
theorem Same.free {H H':Hp} (e:Same H H') {l:A3} (h:H' l=Nk):H l=Nk:=by
 cases q:H l with
 | none=>rfl
 | some o =>
  rw [e l o q] at h
  cases h
theorem Same.seq {K:At} {H H':Hp} {a:A3} {xs:List V} (e:Same H H') (h:SqL K H a xs):SqL K H' a xs:=by
 rcases h with (h | ⟨o,h⟩) | h
 ·exact .inl (.inl (e _ _ h))
 ·exact .inl (.inr ⟨o,e _ _ h⟩)
 ·exact .inr h
section
variable {κ : Type} [DecidableEq κ]
theorem zhk:∀ {l:List κ} {k : κ},l.Nodup->¬ k∈l->(l ++ [k]).Nodup
 | [],k,_,_=>by simp
 | a :: r,k,h,hk=>by
  obtain ⟨h1,h2⟩:=Di.mp h
  show (a :: (r ++ [k])).Nodup
  refine Di.mpr ⟨fun m => ?_,zhk h2 fun m=>hk (Bc.mpr (Gk m))⟩
  rcases An.mp m with q | q
  ·exact h1 q
  ·exact hk (Bc.mpr (Aj (A5.mp q).symm))
end
theorem zdP {κ β : Type} [BEq κ] [LawfulBEq κ] {k : κ} {v : β}:∀ {l:List (κ × β)},l.lookup k=some v->(k,v)∈l
 | [],h=>by simp at h
 | (a,b) :: r,h=>by
  rw [E5] at h
  cases e:k == a with
  | true =>
   rw [e] at h
   simp at h
   rw [eq_of_beq e,h]
   exact Ap
  | false =>
   rw [e] at h
   exact Ak _ (zdP h)
theorem zfi {κ β : Type} [BEq κ] [LawfulBEq κ] {k : κ} {v : β}:∀ {l:List (κ × β)},(k,v)∈l->∃ w,l.lookup k=some w
 | [],h=>by simp at h
 | (a,b) :: r,h=>by
  rw [E5]
  cases e:k == a with
  | true=>exact ⟨b,rfl⟩
  | false =>
   rcases Bc.mp h with h | h
   ·injection h with h1 h2
    rw [h1] at e
    simp at e
   ·exact zfi h
theorem closure_ok {env:Env} {scope:Fg} (h:∀ x∈scope.names,x.2 = .free->∃ c,env.cells.lookup x.1=some c) :
  ∃ cl,closureFor scope env=pure cl/\(∀ x c,(x,c)∈cl->(x,Cn)∈scope.names/\env.cells.lookup x=some c)/\∀ x,(x,Cn)∈scope.names->∃ c,(x,c)∈cl:=by
 have all:∀ (names:List (Str×Ib)) (acc:List (Str×A3)),(∀ x∈names,x.2 = .free->∃ c,env.cells.lookup x.1=some c) ->
   ∃ cl:List (Str×A3),(forIn names acc fun (x:Str×Ib) (r:List (Str×A3))=>(if (x.2 == Cn)=true then do let c <- cellOf env x.1; pure (Dw ((x.1,c) :: r)) else pure (Dw r):Sem (ForInStep (List (Str×A3)))))=pure cl /\
    (∀ x c,(x,c)∈cl->(x,c)∈acc\/((x,Cn)∈names/\env.cells.lookup x=some c))/\(∀ p∈acc,p∈cl)/\∀ x,(x,Cn)∈names->∃ c,(x,c)∈cl:=by
  intro names
  induction names with
  | nil=>intro acc _; exact ⟨acc,rfl,fun x c h => .inl h,fun p h=>h,fun x h=>by simp at h⟩
  | cons y r ih =>
   intro acc hy
   obtain ⟨n,k⟩:=y
   by_cases hk:k = .free
   ·subst hk
    obtain ⟨c,hc⟩:=hy (n,.free) Ap rfl
    obtain ⟨cl,e,h1,h2,h3⟩:=ih ((n,c) :: acc) fun x hx=>hy x (Ak _ hx)
    refine ⟨cl,?_,fun x d hd => ?_,fun p hp=>h2 p (Ak _ hp),fun x hx => ?_⟩
    ·rw [Jw]
     have hcell:cellOf env n=pure c:=by unfold cellOf; rw [hc]
     simp only [beq_self_eq_true,if_true,hcell,pure_bind]
     exact e
    ·rcases h1 x d hd with q | ⟨q1,q2⟩
     ·rcases Bc.mp q with q | q
      ·injection q with q1 q2
       subst q1 q2
       exact .inr ⟨Ap,hc⟩
      ·exact .inl q
     ·exact .inr ⟨Ak _ q1,q2⟩
    ·rcases Bc.mp hx with q | q
     ·injection q with q1 _
      subst q1
      exact ⟨c,h2 _ Ap⟩
     ·exact h3 x q
   ·obtain ⟨cl,e,h1,h2,h3⟩:=ih acc fun x hx=>hy x (Ak _ hx)
    refine ⟨cl,?_,fun x d hd=>(h1 x d hd).imp id fun q=>⟨Ak _ q.1,q.2⟩,h2,fun x hx => ?_⟩
    ·rw [Jw]
     have hb:(k == Cn)=false:=by simpa using hk
     simp only [hb,Cv,if_false,pure_bind]
     exact e
    ·rcases Bc.mp hx with q | q
     ·injection q with _ q2
      exact absurd q2.symm hk
     ·exact h3 x q
 obtain ⟨cl,e,h1,_,h3⟩:=all scope.names [] h
 refine ⟨cl,?_,fun x c q=>(h1 x c q).resolve_left (by simp),h3⟩
 show ((forIn scope.names ([]:List (Str×A3)) fun (x:Str×Ib) (r:List (Str×A3))=>(if (x.2 == Cn)=true then do let c <- cellOf env x.1; pure (Dw ((x.1,c) :: r)) else pure (Dw r):Sem (ForInStep (List (Str×A3))))) >>= fun r=>pure r)=pure cl
 rw [e]
 rfl
theorem zby {env:Env}:∀ {names:List (Str×Ib)} {x:Str},names.lookup x=some .free ->
  (names.map fun (n,k)=>if (k == Cn && env.scope.kind == .function && env.kindOf n == some .cell) then (n,Ia) else (n,k)).lookup x=some .cell \/
  (names.map fun (n,k)=>if (k == Cn && env.scope.kind == .function && env.kindOf n == some .cell) then (n,Ia) else (n,k)).lookup x=some .free
 | [],_,h=>by simp at h
 | (n,k) :: r,x,h=>by
  have ih := @zby env r x
  show Ez x ((if (k == Cn && env.scope.kind == .function && env.kindOf n == some .cell)=true then (n,Ia) else (n,k)) :: _)=_\/Ez x ((if (k == Cn && env.scope.kind == .function && env.kindOf n == some .cell)=true then (n,Ia) else (n,k)) :: _)=_
  cases hx:x == n with
  | true =>
   simp only [E5,hx] at h
   cases h
   by_cases hc:(Cn == Cn && env.scope.kind == .function && env.kindOf n == some .cell)=true
   ·rw [if_pos hc]; simp only [E5,hx]; exact .inl trivial
   ·rw [if_neg hc]; simp only [E5,hx]; exact .inr trivial
  | false =>
   simp only [E5,hx] at h
   by_cases hc:(k == Cn && env.scope.kind == .function && env.kindOf n == some .cell)=true
   ·rw [if_pos hc]; simp only [E5,hx]; exact ih h
   ·rw [if_neg hc]; simp only [E5,hx]; exact ih h
noncomputable def cxComp (X:Cx) (scope:Fg) (N:List Str) (cl:List (Str×A3)) (C:A3) (s:A4) (H:Hp) (fp:List A3) (pn:List (A3×Obj)):Cx :=
 { X with N:=N,s₀ := s,H₀ := H,env:=compEnvC scope cl C X.env,outer:=X.stack,stack:=X.stack,ex:=fp,fn:=fun _=>false,pn:=pn,xe:=fun _ _=>False }
noncomputable def CapsOk (X:Cx) (scope:Fg):List (Nat×Str)->Prop
 | []=>True
 | p :: r=>(X.N[p.1]?=some p.2/\scope.names.lookup p.2=some .free/\(X.env.scope.names.lookup p.2=some .cell\/X.env.scope.names.lookup p.2=some .free))/\CapsOk X scope r
theorem CapsOk.get {X:Cx} {scope:Fg}:∀ {caps:List (Nat×Str)} {j:Nat} {p:Nat×Str},CapsOk X scope caps->caps[j]?=some p ->
  X.N[p.1]?=some p.2/\scope.names.lookup p.2=some .free/\(X.env.scope.names.lookup p.2=some .cell\/X.env.scope.names.lookup p.2=some .free)
 | [],_,_,_,h=>by simp at h
 | q :: r,0,p,h,e=>by simp at e; subst e; exact h.1
 | q :: r,j + 1,p,h,e=>CapsOk.get h.2 (by simpa using e)
noncomputable def capSt (own:List Str) (caps:List (Nat×Str)) (σ : St):St:=own.map (fun _=>none) ++ caps.map fun p=>(σ[p.1]?).join
noncomputable def CompW (J:It) (D:A3) (σ0:St) (H1:Hp) (g:TG) (tf:TT) (te:TE) (Q:VK):Prop:=∃ W:Nat->Nat->St->Hp->Prop,
 (∃ m,W 0 m σ0 (upd H1 D (.lst [])))/\∀ i m σ' H',W i m σ' H' ->
  (J.stop i H'/\Q (.ref D) H')\/(J.go i H'/\∀ x H2,J.yld i H' x H2->g x σ' H2 fun σ2 H3=>tf σ2 H3 fun b H4 =>
   if b=true then te σ2 H4 fun v H5=>∃ ys,H5 D=some (.lst ys)/\ys.length < sizeLine/\∃ m',m' < m/\W (i + 1) m' σ2 (upd H5 D (.lst (ys ++ [v])))
   else ∃ m',m' < m/\W (i + 1) m' σ2 H4)
noncomputable def tComp (wi:TI) (own:List Str) (caps:List (Nat×Str)) (g:TG) (tf:TT) (te:TE):TE:=fun σ H Q=>wi σ H fun J H1=>∀ D,H1 D=none->CompW J D (capSt own caps σ) H1 g tf te Q
noncomputable def PTs (X:Cx) (ifs:List Cc) (t:TT):Prop :=
 ∀ (pins:List (A3×Obj)) (s:A4) (σ : St) (H:Hp) (Q:Bool->Hp->Prop),Inv X pins σ H s->t σ H Q->wpAny (model X.prog X.w) X.A (forIn ifs true fun c r=>if r=true then do let ok <- isTrue c X.env (eval c X.env); pure (Dw ok) else pure (Dw r)) (TP X pins σ Q) X.xe s
noncomputable def tTrue:TT:=fun _ H Q=>Q true H
theorem za2 {X:Cx}:PTs X [] tTrue:=fun _ _ _ H _ I h=>wpAny_tests_nil ⟨H,I,h⟩
theorem zda {X:Cx} {c:Cc} {t:TT} (h:PT X c t):PTs X [c] t:=fun pins s σ H Q I hw=>wpAny_tests_one (h pins s σ H Q I hw)
theorem comp_loop {prog:Av} {w:Bu} {A:Bd} {R:Result->A4->Prop} {s:A4} {elt target iter:Cc} {ifs:List Cc} {scope:Fg} {pos:Pos} {it acc:A0} {env:Env} (I:Nat->A4->Prop)
  (turn:∀ n s,I n s->wpAny (model prog w) A (pyNext it) (fun r s₁ => match r with
   | none=>R (.ok .next) s₁
   | some v=>wpAny (model prog w) A (letOwnedTupleGo target it v) (fun _ s₁'=>wpAny (model prog w) A (assign target env v) (fun _ s₂ =>
     wpAny (model prog w) A (forIn ifs true fun c r=>if r=true then do let ok <- isTrue c env (eval c env); pure (Dw ok) else pure (Dw r)) (fun ok s₃ =>
      if ok=true then wpAny (model prog w) A (eval elt env) (fun x s₄ =>
       wpAny (model prog w) A (call (.builtin "list.append") [acc,x]) (fun _ s₅ => ∃ m,m < n/\I m s₅) (fun _ _=>False) s₄) (fun _ _=>False) s₃
      else ∃ m,m < n/\I m s₃) (fun _ _=>False) s₂) (fun _ _=>False) s₁') (fun _ _=>False) s₁) (fun _ _=>False) s)
  (n:Nat) (h:I n s) :
  codeAny (model prog w) A (.compLoop (.ListComp elt [⟨target,iter,ifs,0⟩] scope pos) 0 it acc env) R s:=by
 refine codeAny_loop rfl I (fun n s hI => ?_) n h
 show wpAny _ A ((compTurn (.ListComp elt [⟨target,iter,ifs,0⟩] scope pos) 0 it acc env).onRaise (fun x=>do noteFrame x env; theTreesLotGoes x)) _ _ s
 refine wpAny_noted ?_
 rw [compTurn_list]
 refine A6 (Jm (A6 (Dq (turn n s hI) (fun r s₁ h₁ => ?_) fun _ _ h'=>h'.elim)))
 cases r with
 | none=>exact Aq h₁
 | some v =>
  refine A6 (Dq h₁ (fun _ s₁' h₁' => ?_) fun _ _ h'=>h'.elim)
  refine A6 (Dq h₁' (fun _ s₂ h₂ => A6 (Dq h₂ (fun ok s₃ h₃ => ?_) fun _ _ h'=>h'.elim)) fun _ _ h'=>h'.elim)
  cases ok with
  | false=>exact Aq ⟨rfl,h₃⟩
  | true =>
   exact A6 (A6 (Dq h₃ (fun x s₄ h₄ => A6 (Dq h₄ (fun _ s₅ h₅ => Aq (Aq ⟨rfl,h₅⟩)) fun _ _ h'=>h'.elim)) fun _ _ h'=>h'.elim))
section
variable {X:Cx} {pins:List (A3×Obj)} {σ : St}
theorem comp_ok {H2:Hp} {s2:A4} {fp:List A3} {scope:Fg} {N:List Str} {cl:List (Str×A3)} {C:A3} (I2:Inv X pins σ H2 s2) (f2:∀ b∈fp,FpOk X pins H2 b) (hC:s2.heap.objs.size < C)
  (hfs:∀ b∈fp,b < s2.heap.objs.size) (hkind:scope.kind = .function) (hcl:∀ x c,cl.lookup x=some c->X.env.cells.lookup x=some c)
  (hhas:∀ x,((relabel scope X.env).names.lookup x=some .cell\/(relabel scope X.env).names.lookup x=some .free)->∃ c,cl.lookup x=some c) :
  (cxComp X scope N cl C s2 H2 fp (X.pn ++ pins)).Ok where
 mod:=I2.ok.mod
 kind:=hkind
 glob:=I2.ok.glob
 blt:=I2.ok.blt
 above:=F5 hC
 inj:=fun x y c h1 h2=>I2.ok.inj x y c (hcl x c h1) (hcl y c h2)
 has:=hhas
 cab:=fun _ _ h _=>by cases h
 hd:=I2.ok.hd
 frames:=I2.ok.frames
 stk := .inl rfl
 exf:=fun b hb=>⟨Bs (G9 (hfs b hb) hC),fun x c e=>(f2 b hb).2.2.2.2.1 x c (hcl x c e)⟩
 bs:=I2.bs
 bsz:=Bv I2.ok.bsz I2.sz
 noex:=fun b o e hb=>by
  rcases (f2 b hb).2.2.2.1 with z | z
  ·exact I2.ok.noex b o e z
  ·exact absurd (Ae (Ar e) (Bv I2.ok.bsz z)) (Dv _)
 exfs:=fun b hb z=>(Bc.mp (I2.stkSub b z)).elim (f2 b hb).2.1 (f2 b hb).2.2.1
 funs:=I2.stack
 frf:=I2.stkFree
theorem comp_start {H2:Hp} {s2:A4} {fp:List A3} {scope:Fg} {own:List Str} {caps:List (Nat×Str)} {cl:List (Str×A3)} {D C:A3} {h1:Ce} {tk:Nat} {m:Str->Option A0}
  (I2:Inv X pins σ H2 s2) (f2:∀ b∈fp,FpOk X pins H2 b) (hC : @Eq Nat C (s2.heap.objs.size + 1)) (hD : @Eq Nat D s2.heap.objs.size)
  (hfs:∀ b∈fp,b < s2.heap.objs.size) (hkind:scope.kind = .function) (hcl:∀ x c,cl.lookup x=some c->X.env.cells.lookup x=some c)
  (hhas:∀ x,((relabel scope X.env).names.lookup x=some .cell\/(relabel scope X.env).names.lookup x=some .free)->∃ c,cl.lookup x=some c)
  (hcap:CapsOk X scope caps) (hns:h1.Ns C m) (old:∀ b o,s2.heap.get? b=some o->h1.get? b=some o) (hlst:∃ n,h1.get? D=some { cls := .type "list",data := .seq #[] n }) :
  Inv (cxComp X scope (own ++ caps.map (·.2)) cl C s2 H2 fp (X.pn ++ pins)) [] (capSt own caps σ) (upd H2 D (.lst [])) { s2 with heap:=h1,toks:=tk }:=by
 have hCs:s2.heap.objs.size < C:=by omega
 have hDn:H2 D=none:=I2.hok.fresh (by omega)
 have hCn:H2 C=none:=I2.hok.fresh (by omega)
 have hCD:C≠D:=by show ¬ @Eq Nat C D; omega
 have hDs:s2.heap.objs.size<=D:=by show @LE.le Nat _ s2.heap.objs.size D; omega
 have new:ObjOk X.prog X.w (upd H2 D (.lst [])) h1 D (.lst []):=let ⟨n,e⟩:=hlst; ⟨By _,[],n,.nil,e⟩
 refine ⟨comp_ok I2 f2 hCs hfs hkind hcl hhas,rfl,I2.bare,Un.laid old hDs hDn,⟨m,hns,fun i x v e1 e2 e3 => ?_⟩,fun x c e => ?_,?_,fun x c e => ?_,fun p hp => ?_,I2.hok.laid old hDs new,?_⟩
 ·-- a captured name
  have e2':(capSt own caps σ)[i]?=some (some v):=e2
  unfold capSt at e2'
  by_cases hi:i < own.length
  ·rw [Cu (by simpa using hi),Ad] at e2'
   cases q:own[i]? with
   | none=>rw [q] at e2'; cases e2'
   | some y=>rw [q] at e2'; cases e2'
  ·have hle:own.length<=i:=N0 hi
   rw [Cr (by simpa using hle),Ad,A1] at e2'
   have e1':(own ++ caps.map (·.2))[i]?=some x:=e1
   rw [Cr hle,Ad] at e1'
   cases q:caps[i - own.length]? with
   | none=>rw [q] at e2'; cases e2'
   | some p =>
    rw [q] at e2' e1'
    have ex:p.2=x:=C4 e1'
    have ev:(σ[p.1]?).join=some v:=C4 e2'
    obtain ⟨hN,hf,hv⟩:=hcap.get q
    have hσ : σ[p.1]?=some (some v):=by
     cases r : σ[p.1]? with
     | none=>rw [r] at ev; cases ev
     | some y=>rw [r] at ev; rw [show y=some v from ev]
    obtain ⟨mX,_,hl⟩:=I2.loc
    obtain ⟨u,ru,lk⟩:=hl p.1 p.2 v hN hσ (.inr hv)
    subst ex
    refine ⟨u,ru,.inr ⟨zby hf,?_⟩⟩
    rcases lk with ⟨k,_⟩ | ⟨_,c,e,z⟩
    ·have k':X.env.scope.names.lookup p.2=some .local:=k
     rw [k'] at hv
     rcases hv with z | z <;> cases z
    ·obtain ⟨c',e'⟩:=hhas p.2 (zby hf)
     have e2:=hcl p.2 c' e'
     rw [e] at e2
     cases e2
     obtain ⟨o,ho,hd⟩:=z
     exact ⟨c,e',o,old c o ho,hd⟩
 ·obtain ⟨v,o,ho,hd⟩:=I2.cell x c (hcl x c e)
  exact ⟨v,o,old c o ho,hd⟩
 ·show upd H2 D (.lst []) C=none
  rw [zaf hCD]; exact hCn
 ·obtain ⟨v,q⟩:=I2.cell x c (hcl x c e)
  rw [zaf (Bs (Ae q.lt hDs))]
  exact I2.freeC x c (hcl x c e)
 ·have hp':p∈X.pn ++ pins:=by
   have hp2:p∈(X.pn ++ pins) ++ []:=hp
   rwa [Cq] at hp2
  obtain ⟨e,n,ne,nf,d⟩:=I2.pin p hp'
  have lt:=Ar e
  refine ⟨old p.1 p.2 e,by rw [zaf (Bs (Ae lt hDs))]; exact n,?_,fun z=>(Bc.mp (I2.stkSub p.1 z)).elim ne nf,d⟩
  exact Bs (G9 lt hCs)
 ·show (capSt own caps σ).length=(own ++ caps.map (·.2)).length
  unfold capSt
  simp
theorem comp_back {H2 H':Hp} {s2 s':A4} {fp:List A3} {scope:Fg} {N:List Str} {cl:List (Str×A3)} {C:A3} {σ':St} {pn:List (A3×Obj)} (I2:Inv X pins σ H2 s2) (f2:∀ b∈fp,FpOk X pins H2 b)
  (J:Inv (cxComp X scope N cl C s2 H2 fp pn) [] σ' H' s'):Inv X pins σ H' s' :=
 I2.call' (s':=s') (ch:=fp) J.os J.base J.hok J.bare fun b hb=>⟨(f2 b hb).2.2.2.1,(f2 b hb).2.1,(f2 b hb).2.2.2.2.1,(f2 b hb).2.2.2.2.2⟩
theorem Inv.gone {H:Hp} {s:A4} {C:A3} {h':Ce} (I:Inv X pins σ H s) (hs:G8 C s.heap h') (hn:H C=none) (h0:X.s₀.heap.objs.size<=C) (hL:C≠X.env.locals) (h2:∀ x c,X.env.cells.lookup x=some c->c≠C) (h3:∀ p∈X.pn ++ pins,p.1≠C) :
  Inv X pins σ H { s with heap:=h' }:=I.turned (t':=s.toks) (fun b o hb e=>(hs.2 b hb).trans e) hn hL (.inr h0) h2 h3
end
theorem free_of_relabel {env:Env} {scope:Fg} {x:Str} (hcell:∀ y∈scope.names,y.2 ≠ .cell) (h:(relabel scope env).names.lookup x=some .cell\/(relabel scope env).names.lookup x=some .free):(x,Cn)∈scope.names:=by
 have all:∀ k,(relabel scope env).names.lookup x=some k->(k = .cell\/k = .free)->(x,Cn)∈scope.names:=by
  intro k e hk
  have m:=zdP e
  obtain ⟨⟨n,j⟩,hm,q⟩:=A7.mp (show (x,k)∈scope.names.map _ from m)
  dsimp only at q
  by_cases c:(j == Cn && env.scope.kind == .function && env.kindOf n == some .cell)=true
  ·rw [if_pos c] at q
   injection q with q1 q2
   subst q1
   have jf:j = .free:=by
    simp only [Bp] at c
    exact eq_of_beq c.1.1
   rw [<- jf]; exact hm
  ·rw [if_neg c] at q
   injection q with q1 q2
   subst q1 q2
   rcases hk with z | z
   ·exact absurd z (hcell _ hm)
   ·rw [z] at hm; exact hm
 rcases h with h | h
 ·exact all _ h (.inl rfl)
 ·exact all _ h (.inr rfl)
structure Steps (Y:Cx) (tg:Cc) (J:It) (fp:List A3) (it:A3) (tn:Nat->Ce->Prop):Prop where
 item:∀ (i:Nat) (pins:List (A3×Obj)) (s:A4) (σ : St) (H:Hp) (E:A0->A4->Prop),Inv Y pins σ H s->(∀ b∈fp,FpOk Y pins H b)->tn i s.heap->J.go i H ->
  wpAny (model Y.prog Y.w) Y.A (pyNext (.ref it)) (fun r s1=>∃ u,r=some u /\
   wpAny (model Y.prog Y.w) Y.A (letOwnedTupleGo tg (.ref it) u) (fun _ s2=>∃ x H',Inv Y pins σ H' s2/\RelV x u/\J.yld i H x H'/\tn (i + 1) s2.heap/\∀ b∈fp,H' b=none) E s1) E s
 done:∀ (i:Nat) (pins:List (A3×Obj)) (s:A4) (σ : St) (H:Hp) (E:A0->A4->Prop),Inv Y pins σ H s->(∀ b∈fp,FpOk Y pins H b)->tn i s.heap->J.stop i H ->
  wpAny (model Y.prog Y.w) Y.A (pyNext (.ref it)) (fun r s1=>r=none/\Inv Y pins σ H s1) E s
structure Trn (P:Av) (w:Bu) (K:At) (Z:Cx->Prop) (tg:Cc) (J:It) (fp:List A3) (it:A3) (tn:Nat->Ce->Prop):Prop where
 obj:∀ i h,tn i h->∀ b∈fp,∃ o,h.get? b=some o/\∀ v,o.data ≠ .cell v
 keep:∀ i h h',tn i h->(∀ b∈fp,∀ o,h.get? b=some o->h'.get? b=some o)->tn i h'
 steps:∀ Y:Cx,Y.prog=P->Y.w=w->Y.K=K->Z Y->Steps Y tg J fp it tn
 self:∀ (A:Bd) (i:Nat) (s:A4) (Q:A0->A4->Prop) (E:A0->A4->Prop),tn i s.heap->Q (.ref it) s->wpAny (model P w) A (pyIter (.ref it)) Q E s
noncomputable def PIEq (Z:Cx->Prop) (X:Cx) (pins:List (A3×Obj)) (σ : St) (tg:Cc) (R:It->Hp->Prop) (itv:A0) (s2:A4):Prop :=
 ∃ (it:A3) (fp:List A3) (tn:Nat->Ce->Prop) (J:It) (H':Hp),itv = .ref it/\Inv X pins σ H' s2/\Trn X.prog X.w X.K Z tg J fp it tn/\tn 0 s2.heap/\(∀ b∈fp,FpOk X pins H' b)/\R J H'
noncomputable def PIq (Z:Cx->Prop) (X:Cx) (tg iter:Cc) (wi:TI):Prop :=
 ∀ (pins:List (A3×Obj)) (s:A4) (σ : St) (H:Hp) (R:It->Hp->Prop),Inv X pins σ H s->wi σ H R ->
  wpAny (model X.prog X.w) X.A (eval iter X.env) (fun v s1=>wpAny (model X.prog X.w) X.A (pyIter v) (PIEq Z X pins σ tg R) X.xe s1) X.xe s
theorem PI.q {X:Cx} {tg iter:Cc} {wi:TI} (h:PI X tg iter wi):PIq (fun Y=>Y.calm=true) X tg iter wi:=fun pins s σ H R I q =>
 thn (h pins s σ H R I q) fun v s1 h1=>thn h1 fun itv s2 h2=>by
  obtain ⟨it,fp,tn,J,H',e,I',T,t0,f,r⟩:=h2
  exact ⟨it,fp,tn,J,H',e,I',⟨T.obj,T.keep,fun Y hP hw hK hz=>⟨fun i pins s σ H E=>hP ▸ hw ▸ T.item Y hP hw hK hz i pins s σ H E,fun i pins s σ H E=>hP ▸ hw ▸ T.done Y hP hw hK hz i pins s σ H E⟩,T.self⟩,t0,f,r⟩
section
variable {X:Cx} {elt target iter:Cc} {ifs:List Cc} {scope:Fg} {pos:Pos} {own:List Str} {caps:List (Nat×Str)} {wi:TI} {g:TG} {tf:TT} {te:TE}
structure CompScope (X:Cx) (scope:Fg) (caps:List (Nat×Str)):Prop where
 kind:scope.kind = .function
 cell:(scope.names.all fun y => !(y.2 == .cell))=true
 names:(scope.names.all fun y => !(y.2 == .local) || scope.names.lookup y.1 == some .local)=true
 free:(scope.names.all fun y => !(y.2 == .free) || (X.env.scope.names.lookup y.1 == some .cell || X.env.scope.names.lookup y.1 == some .free))=true
 caps:CapsOk X scope caps
theorem zfw {use:Option (A0->Sem Unit)} {R:A0->A4->Prop} {pins:List (A3×Obj)} {σ : St} {s:A4} {H:Hp} {Q:VK} (Z:Cx->Prop) (hc:∀ cl C s H fp pins,Z (cxComp X scope (own ++ caps.map (·.2)) cl C s H fp (X.pn ++ pins))) (S:CompScope X scope caps) (hi:PIq Z X target iter wi)
  (hg:∀ cl C s H fp pn,PG (cxComp X scope (own ++ caps.map (·.2)) cl C s H fp pn) target g)
  (ht:∀ cl C s H fp pn,PTs (cxComp X scope (own ++ caps.map (·.2)) cl C s H fp pn) ifs tf)
  (he:∀ cl C s H fp pn,PE (cxComp X scope (own ++ caps.map (·.2)) cl C s H fp pn) elt te)
  (I:Inv X pins σ H s) (h:tComp wi own caps g tf te σ H Q)
  (fin:∀ D C H' s' m,Inv X pins σ H' s'->s'.heap.Ns C m->H' C=none->X.s₀.heap.objs.size<=C->C≠X.env.locals->(∀ x c,X.env.cells.lookup x=some c->c≠C)->(∀ p∈X.pn ++ pins,p.1≠C)->Q (.ref D) H' ->
   compPost (model X.prog X.w) X.A X.xe use R (.ref D) C (.ok .next) s')
  (hs:∀ x,foldedSetIterable iter X.env x=pure x) :
  wpAny (model X.prog X.w) X.A (comprehension (.ListComp elt [⟨target,iter,ifs,0⟩] scope pos) scope X.env (firstIterPos [⟨target,iter,ifs,0⟩] pos) (newList []) false (eval iter X.env) use) R X.xe s:=by
 have hcell:∀ y∈scope.names,y.2 ≠ .cell:=fun y hy z=>by
  have:=Cs.mp S.cell y hy
  rw [z] at this; cases this
 have hnames:∀ y∈scope.names,y.2 = .local->scope.names.lookup y.1=some .local:=fun y hy z=>by
  have:=Cs.mp S.names y hy
  rw [z] at this
  simpa using this
 have hfree:∀ y∈scope.names,y.2 = .free->X.env.scope.names.lookup y.1=some .cell\/X.env.scope.names.lookup y.1=some .free:=fun y hy z=>by
  have:=Cs.mp S.free y hy
  rw [z] at this
  simpa using this
 obtain ⟨cl,hclos,hcl0,hcl1⟩:=closure_ok (env:=X.env) (scope:=scope) fun y hy z=>I.ok.has y.1 (hfree y hy z)
 have hcl:∀ x c,cl.lookup x=some c->X.env.cells.lookup x=some c:=fun x c e=>(hcl0 x c (zdP e)).2
 have hhas:∀ x,((relabel scope X.env).names.lookup x=some .cell\/(relabel scope X.env).names.lookup x=some .free)->∃ c,cl.lookup x=some c:=fun x hx=>by
  obtain ⟨c,hm⟩:=hcl1 x (free_of_relabel hcell hx)
  exact zfi hm
 refine wpAny_comprehension_free (g:=⟨target,iter,ifs,0⟩) (gs := []) rfl hs hclos S.kind hnames (thn (hi pins s σ H _ I h) fun v s1 h1=>thn h1 fun itv s2 h2 => ?_)
 obtain ⟨it,fp,tn,J,H2,e,I2,T,st2,f2,cont⟩:=h2
 subst e
 obtain ⟨W,⟨m0,w0⟩,turn⟩:=cont s2.heap.objs.size (I2.hok.fresh (A9 _))
 refine Fu (wpAny_newFunctionEnv hcell (by intro y hy; simp at hy) (fun h₁ hns₁ hsb₁ => ?_) S.kind)
 dsimp only at hns₁ hsb₁ ⊢
 generalize hH2:s2.heap.push { cls := .type "list",dict:=none,data := .seq ([]:List A0).toArray }=HL at hns₁ hsb₁ ⊢
 have hC:HL.objs.size=s2.heap.objs.size + 1:=by rw [<- hH2,Fl]
 have hfs:∀ b∈fp,b < s2.heap.objs.size:=fun b hb=>let ⟨_,e,_⟩:=T.obj 0 _ st2 b hb; Ar e
 have old:∀ b o,s2.heap.get? b=some o->h₁.get? b=some o:=fun b o e =>
  hsb₁.extBut b o (by rw [hC]; exact Bs (Gs (Ar e))) (Ag _ (hH2 ▸ Ag _ e))
 have hlst:∃ n,h₁.get? s2.heap.objs.size=some { cls := .type "list",data := .seq #[] n }:=⟨_,hsb₁.extBut _ _ (by rw [hC]; exact Bs (Em _)) (Ag _ (hH2 ▸ Bh _ rfl))⟩
 have I4:Inv (cxComp X scope (own ++ caps.map (·.2)) cl HL.objs.size s2 H2 fp (X.pn ++ pins)) [] (capSt own caps σ) (upd H2 s2.heap.objs.size (.lst [])) { s2 with heap:=h₁,toks:=s2.toks + ([]:List (Str×A0)).length } :=
  comp_start I2 f2 hC rfl hfs S.kind hcl hhas S.caps hns₁ old hlst
 have st4:tn 0 h₁ := T.keep 0 _ _ st2 fun b hb o e=>old b o e
 have fr4:∀ b∈fp,upd H2 s2.heap.objs.size (.lst []) b=none:=fun b hb=>by
  rw [zaf (Bs (hfs b hb))]; exact (f2 b hb).1
 have hCs:s2.heap.objs.size < HL.objs.size:=by rw [hC]; exact Em _
 have loop:codeAny (model X.prog X.w) X.A (.compLoop (.ListComp elt [⟨target,iter,ifs,0⟩] scope pos) 0 (.ref it) (.ref s2.heap.objs.size) (compEnvC scope cl HL.objs.size X.env))
   (compPost (model X.prog X.w) X.A X.xe use R (.ref s2.heap.objs.size) HL.objs.size) { s2 with heap:=h₁,toks:=s2.toks + ([]:List (Str×A0)).length }:=by
  refine comp_loop (fun n s'=>∃ i σ' H',Inv (cxComp X scope (own ++ caps.map (·.2)) cl HL.objs.size s2 H2 fp (X.pn ++ pins)) [] σ' H' s'/\tn i s'.heap/\(∀ b∈fp,H' b=none)/\W i n σ' H') ?_ m0 ⟨0,_,_,I4,st4,fr4,w0⟩
  have U:=T.steps (cxComp X scope (own ++ caps.map (·.2)) cl HL.objs.size s2 H2 fp (X.pn ++ pins)) rfl rfl rfl (hc _ _ _ _ _ _)
  rintro n s3 ⟨i,σ3,H3,I3,st3,fr3,w3⟩
  have stat:∀ {H':Hp},(∀ b∈fp,H' b=none)->∀ b∈fp,FpOk (cxComp X scope (own ++ caps.map (·.2)) cl HL.objs.size s2 H2 fp (X.pn ++ pins)) [] H' b:=fun {H'} hn b hb=>by
   refine ⟨hn b hb,(I3.ok.exf b hb).1,I3.ok.exfs b hb,.inl hb,(I3.ok.exf b hb).2,fun p hp => ?_⟩
   have hp':p∈X.pn ++ pins:=by
    have hp2:p∈(X.pn ++ pins) ++ []:=hp
    rwa [Cq] at hp2
   exact (f2 b hb).2.2.2.2.2 p hp'
  rcases turn i n σ3 H3 w3 with ⟨stop,qn⟩ | ⟨go,step⟩
  ·refine thn (U.done i [] s3 σ3 H3 _ I3 (stat fr3) st3 stop) fun r s4 ⟨hr,I4⟩ => ?_
   subst hr
   obtain ⟨m,hm,_⟩:=I4.loc
   refine fin s2.heap.objs.size HL.objs.size H3 s4 m (comp_back I2 f2 I4) hm I4.free (Bv I2.sz (F5 hCs)) (Lj (G9 I2.lt hCs)) (fun x c e z => ?_) (fun p hp z => ?_) qn
   ·obtain ⟨v,q⟩:=I2.cell x c e
    exact absurd (G9 q.lt hCs) (by rw [z]; exact Dv _)
   ·exact absurd (G9 (Ar (I2.pin p hp).1) hCs) (by rw [z]; exact Dv _)
  ·refine thn (U.item i [] s3 σ3 H3 _ I3 (stat fr3) st3 go) fun r s4 ⟨u,hr,h4⟩ => ?_
   subst hr
   refine thn h4 fun _ s5 ⟨x,H5,I5,r5,y5,st5,fr5⟩ => ?_
   have I5':=I5.pinned (stat fr5) (T.obj _ _ st5)
   refine thn (hg cl HL.objs.size s2 H2 fp (X.pn ++ pins) _ s5 σ3 H5 x u _ I5' r5 (step x H5 y5)) fun _ s6 ⟨σ6,H6,I6,q6⟩ => ?_
   refine thn (ht cl HL.objs.size s2 H2 fp (X.pn ++ pins) _ s6 σ6 H6 _ I6 q6) fun b s7 ⟨H7,I7,q7⟩ => ?_
   have again:∀ {σ8:St} {H8:Hp} {s8:A4} {m':Nat},Inv (cxComp X scope (own ++ caps.map (·.2)) cl HL.objs.size s2 H2 fp (X.pn ++ pins)) ([] ++ pinsAt fp s5.heap) σ8 H8 s8->m' < n->W (i + 1) m' σ8 H8 ->
     ∃ m,m < n/\∃ i σ' H',Inv (cxComp X scope (own ++ caps.map (·.2)) cl HL.objs.size s2 H2 fp (X.pn ++ pins)) [] σ' H' s8/\tn i s8.heap/\(∀ b∈fp,H' b=none)/\W i m σ' H':=fun {σ8 H8 s8 m'} I8 hm w8=>by
    refine ⟨m',hm,i + 1,σ8,H8,I8.unpinned,T.keep _ _ _ st5 fun b hb o e=>(I8.pin (b,o) (Bt _ (Bt _ (zce hb e)))).1,fun b hb => ?_,w8⟩
    obtain ⟨o,e,d⟩:=T.obj _ _ st5 b hb
    exact (I8.pin (b,o) (Bt _ (Bt _ (zce hb e)))).2.1
   cases b with
   | false =>
    rw [if_neg Aa] at q7 ⊢
    obtain ⟨m',hm,w7⟩:=q7
    exact again I7 hm w7
   | true =>
    rw [if_pos rfl] at q7 ⊢
    refine thnE (he cl HL.objs.size s2 H2 fp (X.pn ++ pins) _ s7 σ6 H7 _ I7 q7) fun y s8 v H8 I8 r8 ⟨ys,hy,hz,m',hm,w8⟩ => ?_
    refine thn (zaH _ s8 σ6 H8 (.ref s2.heap.objs.size) [v] (.ref s2.heap.objs.size) [y] (fun _ H9=>H9=upd H8 s2.heap.objs.size (.lst (ys ++ [v]))) I8 rfl (.cons r8 .nil) ⟨_,ys,v,rfl,rfl,hy,hz,rfl⟩) fun z s9 ⟨_,H9,I9,_,e9⟩ => ?_
    subst e9
    exact again I9 hm w8
 exact codeAny_compStart_list loop (T.self _ 0 _ _ _ st4 loop)
theorem zaM (hc:X.calm=true) (S:CompScope X scope caps) (hi:PI X target iter wi)
  (hg:∀ cl C s H fp pn,PG (cxComp X scope (own ++ caps.map (·.2)) cl C s H fp pn) target g)
  (ht:∀ cl C s H fp pn,PTs (cxComp X scope (own ++ caps.map (·.2)) cl C s H fp pn) ifs tf)
  (he:∀ cl C s H fp pn,PE (cxComp X scope (own ++ caps.map (·.2)) cl C s H fp pn) elt te)
  (hs:∀ x,foldedSetIterable iter X.env x=pure x:=by intro _; rfl):PE X (.ListComp elt [⟨target,iter,ifs,0⟩] scope pos) (tComp wi own caps g tf te):=by
 intro pins s σ H Q I h
 rw [eval_ListComp]
 refine zfw (Q:=Q) (fun Y=>Y.calm=true) (fun _ _ _ _ _ _=>hc) S hi.q hg ht he I h (fun D C H' s' m I' hm hn h0 hL h2 h3 q => ?_) hs
 exact ⟨m,hm,fun h' hs'=>⟨.ref D,H',I'.gone hs' hn h0 hL h2 h3,rfl,q⟩⟩
theorem ps_setC {i:Nat} {x:Str} {pos' spos:Pos} (hN:X.N.Nodup) (hn:X.N[i]?=some x) (hx:Loc X.env.scope x) (hc:X.calm=true) (S:CompScope X scope caps) (hi:PI X target iter wi)
  (hg:∀ cl C s H fp pn,PG (cxComp X scope (own ++ caps.map (·.2)) cl C s H fp pn) target g)
  (ht:∀ cl C s H fp pn,PTs (cxComp X scope (own ++ caps.map (·.2)) cl C s H fp pn) ifs tf)
  (he:∀ cl C s H fp pn,PE (cxComp X scope (own ++ caps.map (·.2)) cl C s H fp pn) elt te)
  (hsw:swapsWith (.ListComp elt [⟨target,iter,ifs,0⟩] scope pos) (some (.Name x pos')) spos.line X.env=pure true:=by rfl)
  (hf:X.fn x=true\/X.env.scope.names.lookup x=some .local:=by first | exact .inl rfl | exact .inr rfl | assumption)
  (hs:∀ x,foldedSetIterable iter X.env x=pure x:=by intro _; rfl):PS X (.Assign [.Name x pos'] (.ListComp elt [⟨target,iter,ifs,0⟩] scope pos) spos) (tAsg (tComp wi own caps g tf te) (gName i)):=by
 intro pins s σ H D I h
 rw [exec_Assign_Name_used _ _ _ _ hsw]
 refine A6 (Jm (A6 ?_))
 show wpAny _ _ (do let _ <- comprehension (.ListComp elt [⟨target,iter,ifs,0⟩] scope pos) scope X.env _ (newList []) false (eval iter X.env) (some (assign (.Name x pos') X.env))) _ _ s
 refine A6 (Dq (zfw (use:=some (assign (.Name x pos') X.env)) (R:=fun _ s'=>SP X pins D .next s') (Q:=fun v H1=>gName i v σ H1 D.nx) (fun Y=>Y.calm=true) (fun _ _ _ _ _ _=>hc) S hi.q hg ht he I h (fun Dl C H' s' m I' hm hnC h0 hL h2 h3 q => ?_) hs)
  (fun _ s' hq=>Aq (Aq hq)) fun _ _ e=>e)
 show wpAny _ _ (assign (.Name x pos') X.env (.ref Dl)) _ _ s'
 refine Nr (ze6 I' hN hn hx (show RelV (.ref Dl) (.ref Dl) from rfl) (fun s'' I'' sb => ?_) hf)
 obtain ⟨a,hsb,ha⟩:=sb
 have hCa:C≠a:=by
  rcases ha with z | z
  ·rw [z]; exact hL
  ·exact Dm (h2 x a z)
 exact ⟨m,hm.sameBut hsb hCa,fun h' hs'=>⟨_,H',I''.gone hs' hnC h0 hL h2 h3,q⟩⟩
end
noncomputable def sgn (c:Nat):V := .str ⟨#[c]⟩
noncomputable def Its (x:Str):It:=⟨fun i _=>i < x.cps.size,fun i H v H'=>H'=H/\∃ c,x.cps[i]?=some c/\v=sgn c,fun i _=>i=x.cps.size⟩
theorem zf8 {P:Av} {w:Bu} {K:At} {tg:Cc} (it:A3) (x:Str) (t:Tok) (ty:String)
  (hty : ["enumerate","zip","dict_itemiterator","dict_reverseitemiterator","odict_iterator","itertools.zip_longest","itertools.pairwise"].contains ty=false)
  (W:∀ A:Bd,A.handled=none->Walks P w A it [it] [it] x.cps.size (SignAt x) (fun i h=>h.IsStrIter it ty x t i))
  (sf:∀ (A:Bd) (i:Nat) (s:A4) (Q:A0->A4->Prop) (E:A0->A4->Prop),s.heap.IsStrIter it ty x t i->Q (.ref it) s->wpAny (model P w) A (pyIter (.ref it)) Q E s) :
  Turn P w K tg (Its x) [it] it (fun i h=>h.IsStrIter it ty x t i) where
 mem:=by simp
 obj:=fun i h st b hb=>by
  have e:b=it:=by simpa using hb
  subst e
  obtain ⟨o,e,c,d⟩:=st
  exact ⟨o,e,fun v z=>by rw [d] at z; cases z⟩
 keep:=fun i h h' st k=>by
  obtain ⟨o,e,r⟩:=st
  exact ⟨o,k it (by simp) o e,r⟩
 item:=by
  intro X hP hw hK hc i pins s σ H E I hf st hg
  subst hP hw hK
  obtain ⟨f0,f1,f2,f3,f4,f5⟩:=hf it (by simp)
  refine (W X.A (I.ok.hd hc)).item i s _ _ hg st fun v h' tk hv st' kk => ?_
  obtain ⟨c,u,hc',rfl⟩:=hv
  have I1:Inv X pins σ H { s with heap:=h',toks:=tk }:=I.turned (fun b o hb e=>kk b o (by simpa using hb) e) f0 f1 f3 f4 f5
  obtain ⟨o,e,cc,d⟩:=id st'
  exact ⟨_,rfl,zhM (s:={ s with heap:=h',toks:=tk }) e cc d hty ⟨sgn c,H,I1,⟨u,rfl⟩,⟨rfl,c,hc',rfl⟩,st',fun b hb=>(hf b hb).1⟩⟩
 done:=by
  intro X hP hw hK hc i pins s σ H E I hf st hg
  subst hP hw hK
  obtain ⟨f0,f1,f2,f3,f4,f5⟩:=hf it (by simp)
  have hi:i=x.cps.size:=hg
  subst hi
  exact (W X.A (I.ok.hd hc)).done s _ _ st fun h' tk kk=>⟨rfl,I.turned (fun b o hb e=>kk b o (by simpa using hb) e) f0 f1 f3 f4 f5⟩
 self:=fun A i s Q E st h=>sf A i s Q E st h
section
variable {X:Cx} {tg:Cc}
noncomputable def iStr (tl:TE):TI:=fun σ H R=>tl σ H fun v H1=>∃ x,v = .str x/\R (Its x) H1
theorem zhU {l:Cc} {tl:TE} (hl:PE X l tl):PI X tg l (iStr tl):=by
 intro pins s σ H R I h
 refine thnE (hl pins s σ H _ I h) fun v s1 y H1 I1 r1 q1 => ?_
 obtain ⟨x,e,q⟩:=q1
 subst e
 obtain ⟨t,rfl⟩:=r1
 have hf:∀ o:Obj,∀ b ∈ [s1.heap.objs.size],FpOk X pins H1 b:=fun o b hb=>by
  have e:b=s1.heap.objs.size:=by simpa using hb
  subst e
  exact I1.fpOk (A9 _) (I1.hok.fresh (A9 _))
 cases ha:x.cps.all (· < 128)
 ·exact wpAny_pyIter_wide ha ⟨s1.heap.objs.size,[s1.heap.objs.size],_,_,H1,rfl,I1.kept (t':=s1.toks) fun b o e=>Ag _ e,
   zf8 _ x t "str_iterator" (by decide) (fun A hA=>Walks.strWide hA _ x t) (fun A i s Q E st h=>wpAny_pyIter_striter_wide st h),⟨_,Bh _ rfl,rfl,rfl⟩,hf default,q⟩
 ·exact wpAny_pyIter_ascii ha ⟨s1.heap.objs.size,[s1.heap.objs.size],_,_,H1,rfl,I1.kept (t':=s1.toks) fun b o e=>Ag _ e,
   zf8 _ x t "str_ascii_iterator" (by decide) (fun A hA=>Walks.strAscii hA _ x t) (fun A i s Q E st h=>wpAny_pyIter_striter_ascii st h),⟨_,Bh _ rfl,rfl,rfl⟩,hf default,q⟩
end
structure Gives (J:It) (Ok:Hp->Prop) (L:List V):Prop where
 go:∀ i H,Ok H->i < L.length->J.go i H
 yld:∀ i H x H',Ok H->J.yld i H x H'->i < L.length->H'=H/\L[i]?=some x
 stop:∀ H,Ok H->J.stop L.length H
theorem zaT (lo:Int) (n:Nat):Gives (Itr lo n) (fun _=>True) ((Af n).map fun i=>V.int (lo + (i:Nat))) where
 go:=fun i H _ h=>by
  have:i < n:=by simpa using h
  exact this
 yld:=fun i H x H' _ y h=>by
  obtain ⟨e,rfl⟩:=y
  have:i < n:=by simpa using h
  exact ⟨e,by simp [this]⟩
 stop:=fun H _=>by
  show n<=_
  simp
theorem zfr (x:Str):Gives (Its x) (fun _=>True) (x.cps.toList.map sgn) where
 go:=fun i H _ h=>by
  have:i < x.cps.size:=by simpa using h
  exact this
 yld:=fun i H v H' _ y h=>by
  obtain ⟨e,c,hc,rfl⟩:=y
  refine ⟨e,?_⟩
  rw [Ad]
  simp [hc]
 stop:=fun H _=>by
  show _=x.cps.size
  simp
theorem zaj (K:At) (a:A3) (xs:List V):Gives (Itl K a) (fun H=>SqL K H a xs) xs where
 go:=fun i H q h=>⟨xs,xs[i],q,by simp [h]⟩
 yld:=fun i H v H' q y h=>⟨y.1,y.2 xs q⟩
 stop:=fun H q=>⟨xs,q,A9 _⟩
theorem zbA {J:It} {Ok:Hp->Prop} {L:List V} {g:TG} {tb:TS} {D:Ends} {σ : St} {H:Hp} (G:Gives J Ok L) (Pv:Nat->St->Hp->Prop) (h0:Pv 0 σ H) (hk:∀ i σ H,i<=L.length->Pv i σ H->Ok H)
  (hs:∀ i x σ H,L[i]?=some x->Pv i σ H->g x σ H fun σ2 H2=>tb { D with nx:=Pv (i + 1),ct:=Pv (i + 1),bk:=D.nx } σ2 H2) (hd:∀ σ H,Pv L.length σ H->D.nx σ H) :
  ∃ W:Nat->Nat->St->Hp->Prop,(∃ m,W 0 m σ H)/\∀ i m σ H,W i m σ H ->
   (J.stop i H/\D.nx σ H)\/(J.go i H/\∃ N:St->Hp->Prop,(∀ σ' H',N σ' H'->∃ m',m' < m/\W (i + 1) m' σ' H')/\∀ x H',J.yld i H x H'->g x σ H' fun σ2 H2=>tb { D with nx:=N,ct:=N,bk:=D.nx } σ2 H2):=by
 refine ⟨fun i m σ H=>m=L.length - i/\i<=L.length/\Pv i σ H,⟨L.length,by simp,By _,h0⟩,?_⟩
 rintro i m σ H ⟨rfl,hi,p⟩
 have q:=hk i σ H hi p
 by_cases hlt:i < L.length
 ·refine .inr ⟨G.go i H q hlt,Pv (i + 1),fun σ' H' p'=>⟨L.length - (i + 1),by omega,rfl,hlt,p'⟩,fun x H' y => ?_⟩
  obtain ⟨e,yy⟩:=G.yld i H x H' q y hlt
  subst e
  exact hs i x σ _ yy p
 ·have e:i=L.length:=by omega
  subst e
  exact .inl ⟨G.stop H q,hd σ H p⟩
noncomputable def CNext (D:A3) (L:List V) (Pv:Nat->List V->St->Hp->Prop) (i:Nat) (σ2:St) (v:V) (H5:Hp):Prop :=
 ∃ ys,H5 D=some (.lst ys)/\ys.length < sizeLine/\∃ m',m' < L.length - i/\(m'=L.length - (i + 1)/\i + 1<=L.length/\∃ xs,Pv (i + 1) xs σ2 (upd H5 D (.lst (ys ++ [v]))))
noncomputable def CSkip (L:List V) (Pv:Nat->List V->St->Hp->Prop) (i:Nat) (σ2:St) (H4:Hp):Prop :=
 ∃ m',m' < L.length - i/\(m'=L.length - (i + 1)/\i + 1<=L.length/\∃ xs,Pv (i + 1) xs σ2 H4)
theorem CNext.of {D:A3} {L:List V} {Pv:Nat->List V->St->Hp->Prop} {i:Nat} {σ2:St} {v:V} {H5:Hp} {xs:List V} (hi:i < L.length) (hL:L.length<=sizeLine) (h5:H5 D=some (.lst xs)) (hx:xs.length<=i) (p:Pv (i + 1) (xs ++ [v]) σ2 (upd H5 D (.lst (xs ++ [v])))):CNext D L Pv i σ2 v H5 :=
 ⟨xs,h5,by omega,L.length - (i + 1),by omega,rfl,hi,_,p⟩
theorem CSkip.of {L:List V} {Pv:Nat->List V->St->Hp->Prop} {i:Nat} {σ2:St} {H4:Hp} {xs:List V} (hi:i < L.length) (p:Pv (i + 1) xs σ2 H4):CSkip L Pv i σ2 H4:=⟨L.length - (i + 1),by omega,rfl,hi,_,p⟩
theorem zic {J:It} {Ok:Hp->Prop} {L:List V} {g:TG} {tf:TT} {te:TE} {D:A3} {σ0:St} {H1:Hp} {Q:VK} (G:Gives J Ok L) (Pv:Nat->List V->St->Hp->Prop) (h0:Pv 0 [] σ0 (upd H1 D (.lst [])))
  (hk:∀ i xs σ H,i<=L.length->Pv i xs σ H->Ok H)
  (hs:∀ i x xs σ H,i < L.length->L[i]?=some x->Pv i xs σ H->g x σ H fun σ2 H3=>tf σ2 H3 fun b H4=>if b=true then te σ2 H4 fun v H5=>CNext D L Pv i σ2 v H5 else CSkip L Pv i σ2 H4)
  (hd:∀ xs σ H,Pv L.length xs σ H->Q (.ref D) H) :
  CompW J D σ0 H1 g tf te Q:=by
 refine ⟨fun i m σ H=>m=L.length - i/\i<=L.length/\∃ xs,Pv i xs σ H,⟨L.length,by simp,By _,[],h0⟩,?_⟩
 rintro i m σ H ⟨rfl,hi,xs,p⟩
 have q:=hk i xs σ H hi p
 by_cases hlt:i < L.length
 ·refine .inr ⟨G.go i H q hlt,fun x H' y => ?_⟩
  obtain ⟨e,yy⟩:=G.yld i H x H' q y hlt
  subst e
  exact hs i x xs σ _ hlt yy p
 ·have e:i=L.length:=by omega
  subst e
  exact .inl ⟨G.stop H q,hd xs σ H p⟩
theorem Same.put {H0 H:Hp} {p:A3} {o:HO} (s:Same H0 H) (n:H0 p=none):Same H0 (upd H p o):=fun b u e=>by
 rw [zaf (zao e n)]
 exact s b u e
theorem Same.new {H:Hp} {p:A3} {o:HO} (n:H p=none):Same H (upd H p o):=(Same.refl H).put n
theorem Same.tup {K:At} {H H':Hp} {a:A3} {xs:List V} (e:Same H H') (h:SqT K H a xs):SqT K H' a xs:=by
 rcases h with (h | ⟨o,h⟩) | h
 ·exact .inl (.inl (e _ _ h))
 ·exact .inl (.inr ⟨o,e _ _ h⟩)
 ·exact .inr h
theorem zaA {α : Type} {l:List α} {i:Nat} {x : α} (h:l[i]?=some x):l.take (i + 1)=l.take i ++ [x]:=by
 rw [List.take_add_one,h]
 rfl
theorem zb8 {J:It} {Ok:Hp->Prop} {L:List V} {tf:TT} {te:TE} {D:A3} {σ0 capv:St} {H1:Hp} {Q:VK} (hσ : σ0=none :: capv) (G:Gives J Ok L) (hL:L.length<=sizeLine) (hD:H1 D=none) (hOk:∀ H,Same H1 H->Ok H) (p:V->Bool) (F:V->V)
  (ht:∀ x∈L,∀ H R,Same H1 H->(∀ H',Same H H'->R (p x) H')->tf (some x :: capv) H R)
  (he:∀ x∈L,p x=true->∀ H R,Same H1 H->(∀ H',Same H H'->R (F x) H')->te (some x :: capv) H R)
  (hd:∀ H,Same H1 H->H D=some (.lst ((L.filter p).map F))->Q (.ref D) H) :
  CompW J D σ0 H1 (gName 0) tf te Q:=by
 subst hσ
 refine zic G (fun i xs σ H=>(∃ o,σ = o :: capv)/\Same H1 H/\H D=some (.lst xs)/\xs=((L.take i).filter p).map F) ⟨⟨none,rfl⟩,Same.new hD,upd_same,by simp⟩ (fun i xs σ H _ h=>hOk H h.2.1) ?_ ?_
 ·rintro i x xs σ H hi hx ⟨⟨o,rfl⟩,s,e,exs⟩
  have hm:x∈L:=Br hx
  have hxl:xs.length<=i:=by
   rw [exs,A1]
   exact Bv (Df _ _) (by rw [Cf]; omega)
  show tf (some x :: capv) H _
  refine ht x hm H _ s fun H' s' => ?_
  cases hp:p x with
  | true =>
   rw [if_pos rfl]
   refine he x hm hp H' _ (s.trans s') fun H'' s'' => ?_
   have e'':H'' D=some (.lst xs):=s'' _ _ (s' _ _ e)
   refine CNext.of hi hL e'' hxl ⟨⟨some x,rfl⟩,((s.trans s').trans s'').put hD,upd_same,?_⟩
   rw [zaA hx,C0,Ao,exs]
   simp [hp]
  | false =>
   rw [if_neg Aa]
   refine CSkip.of hi ⟨⟨some x,rfl⟩,s.trans s',s' _ _ e,?_⟩
   rw [zaA hx,C0,Ao,exs]
   simp [hp]
 ·rintro xs σ H ⟨_,s,e,exs⟩
  refine hd H s ?_
  rw [e,exs,C6]
theorem zcD {P:Av} {w:Bu} {A:Bd} {E:A0->A4->Prop} {s:A4} {a:A3} {its:List A0} {Q:A0->A4->Prop} (hh:A.handled=none) (hl:s.heap.IsList a its.toArray)
  (h:∀ (I:A3) (s2:A4),s2={ s with heap:=s.heap.push { cls := .type "list_iterator",data := .fields #[.ref a,.int 0 0] } }->I=s.heap.objs.size ->
   Walks P w A I [I,a] [I] its.length (fun i v=>its[i]?=some v) (fun i h=>h.IsListIter I a i/\h.IsList a its.toArray)->(s2.heap.IsListIter I a 0/\s2.heap.IsList a its.toArray)->(∀ b ∈ [I,a],b < s2.heap.objs.size) ->
   (∀ h':Ce,(∀ b o,b ∉ [I]->s2.heap.get? b=some o->h'.get? b=some o)->∀ b o,s.heap.get? b=some o->h'.get? b=some o)->Q (.ref I) s2) :
  wpAny (model P w) A (pyIter (.ref a)) Q E s:=by
 have hlt:a < s.heap.objs.size:=by obtain ⟨_,e,_⟩:=hl; exact Ar e
 refine Nq hl (h _ _ rfl rfl ?_ ⟨⟨_,Bh _ rfl,rfl,rfl⟩,hl.push _⟩ (fun b hb => ?_) (fun h' k b o e=>k b o ?_ (Ag _ e)))
 ·have W:=Walks.list (prog:=P) (w:=w) (A:=A) hh s.heap.objs.size a (Bs hlt) its.toArray
  simpa using W
 ·show b < (s.heap.push _).objs.size
  rw [Fl]
  rcases Bc.mp hb with rfl | hb
  ·exact Em _
  ·have e:b=a:=by simpa using hb
   subst e
   exact Gs hlt
 ·intro z
  have e2:b=s.heap.objs.size:=by simpa using z
  subst e2
  exact absurd (Ar e) (Dv _)
theorem zf5 {xs:List V} {us:List A0} (r:Vals xs us) {i:Nat} {u:A0} (h:us[i]?=some u):∃ x,xs[i]?=some x/\RelV x u:=by
 have hi:i < xs.length:=by rw [r.length]; exact (Ah.mp h).1
 obtain ⟨u',hu,ru⟩:=r.get (x:=xs[i]) (i:=i) (by simp [hi])
 rw [h] at hu
 cases hu
 exact ⟨_,by simp [hi],ru⟩
theorem range_all_map (bs:List Bool):(Af bs.length).all (fun i=>bs.getD i false)=bs.all id:=by
 rw [Bi,Cs,Cs]
 constructor
 ·intro h x hx
  obtain ⟨i,hi,e⟩:=Ih.mp hx
  have:=h i (Ax.mpr hi)
  simp only [Ac,hi,getElem?_pos,Gr,e] at this
  exact this
 ·intro h i hi
  have hi':=Ax.mp hi
  simp only [Ac,hi',getElem?_pos,Gr]
  exact h _ (Cy hi')
theorem range_any_map (bs:List Bool):(Af bs.length).any (fun i=>bs.getD i false)=bs.any id:=by
 rw [Bi,Bj,Bj]
 constructor
 ·rintro ⟨i,hi,h⟩
  have hi':=Ax.mp hi
  simp only [Ac,hi',getElem?_pos,Gr] at h
  exact ⟨_,Cy hi',h⟩
 ·rintro ⟨x,hx,h⟩
  obtain ⟨i,hi,e⟩:=Ih.mp hx
  refine ⟨i,Ax.mpr hi,?_⟩
  simp only [Ac,hi,getElem?_pos,Gr,e]
  exact h
section
variable {X:Cx}
theorem zf9 {P:Av} {w:Bu} {A:Bd} {bs:List Bool} {its:List A0} (r:Vals (bs.map V.bl) its):TruthOf P w A (fun i v=>its[i]?=some v) (fun i=>bs.getD i false):=by
 intro i v s Q E hv q
 obtain ⟨x,hx,rx⟩:=zf5 r hv
 rw [Ad] at hx
 cases e:bs[i]? with
 | none=>rw [e] at hx; cases hx
 | some b =>
  rw [e] at hx
  cases hx
  cases (show v=F7 b from rx)
  refine Dp ?_
  have eb:bs.getD i false=b:=by rw [Ac,e]; rfl
  rw [<- eb]
  exact q
theorem zeZ (hc:X.calm=true):CallR X (.builtin "all") (fun xs H Q=>∃ (a:A3) (bs:List Bool),xs = [V.ref a]/\SqL X.K H a (bs.map V.bl)/\Q (.bl (bs.all id)) H):=by
 intro pins s σ H xs us Q I r h
 obtain ⟨a,bs,rfl,hq,q⟩:=h
 obtain ⟨u,rfl,ru⟩:=zci r
 cases ru
 obtain ⟨its,rv,p,hz⟩:=I.list hq
 refine call_all_walk (zcD (A:=X.A.in1) (I.ok.hd hc) p.isList fun It s2 e2 eI W st hf old => ?_)
 have hl:bs.length=its.length:=by have:=rv.length; rwa [A1] at this
 refine ⟨It,_,_,its.length,_,_,_,rfl,W,st,zf9 rv,fun h' tk k => ?_⟩
 subst e2
 rw [<- hl,range_all_map]
 exact ⟨.bl _,H,I.kept (t':=tk) (old h' k),rfl,q⟩
theorem call_any (hc:X.calm=true):CallR X (.builtin "any") (fun xs H Q=>∃ (a:A3) (bs:List Bool),xs = [V.ref a]/\SqL X.K H a (bs.map V.bl)/\Q (.bl (bs.any id)) H):=by
 intro pins s σ H xs us Q I r h
 obtain ⟨a,bs,rfl,hq,q⟩:=h
 obtain ⟨u,rfl,ru⟩:=zci r
 cases ru
 obtain ⟨its,rv,p,hz⟩:=I.list hq
 refine call_any_walk (zcD (A:=X.A.in1) (I.ok.hd hc) p.isList fun It s2 e2 eI W st hf old => ?_)
 have hl:bs.length=its.length:=by have:=rv.length; rwa [A1] at this
 refine ⟨It,_,_,its.length,_,_,_,rfl,W,st,zf9 rv,fun h' tk k => ?_⟩
 subst e2
 rw [<- hl,range_any_map]
 exact ⟨.bl _,H,I.kept (t':=tk) (old h' k),rfl,q⟩
theorem zeS:∀ {ns:List Int} {its:List A0},Vals (ns.map V.int) its->Hi its ns
 | [],_,r=>by rw [F0] at r; cases r; exact .nil
 | n :: ns,_,r=>by
  rw [Al] at r
  cases r with
  | cons h t =>
   obtain ⟨tk,e⟩:=(show ∃ t,_=Ie n t from h)
   subst e
   exact .cons n tk (zeS t)
theorem zeR {ns:List Int} {its:List A0} (r:Vals (ns.map V.int) its) {i:Nat} {v:A0} (h:its[i]?=some v):∃ t,v = .int (ns.getD i 0) t:=by
 obtain ⟨x,hx,rx⟩:=zf5 r h
 rw [Ad] at hx
 cases e:ns[i]? with
 | none=>rw [e] at hx; cases hx
 | some n =>
  rw [e] at hx
  cases hx
  have en:ns.getD i 0=n:=by rw [Ac,e]; rfl
  rw [en]
  exact rx
theorem call_max1 (hc:X.calm=true):CallR X (.builtin "max") (fun xs H Q=>∃ (a:A3) (ns:List Int),xs = [V.ref a]/\SqL X.K H a (ns.map V.int)/\0 < ns.length/\∀ M,M∈ns->(∀ n∈ns,n<=M)->Q (.int M) H):=by
 intro pins s σ H xs us Q I r h
 obtain ⟨a,ns,rfl,hq,hne,q⟩:=h
 obtain ⟨u,rfl,ru⟩:=zci r
 cases ru
 obtain ⟨its,rv,p,hz⟩:=I.list hq
 have hl:ns.length=its.length:=by have:=rv.length; rwa [A1] at this
 refine call_max_walk (zcD (A:=X.A.in1) (I.ok.hd hc) p.isList fun It s2 e2 eI W st hf old => ?_)
 refine ⟨It,_,_,its.length,_,_,_,rfl,W,st,hf,by omega,CmpOf.ints_gt (fun i=>ns.getD i 0) (fun _ _=>zeR rv),fun v h' tk hv k => ?_⟩
 subst e2
 obtain ⟨t,rfl⟩:=zeR rv hv
 obtain ⟨h1,h2⟩:=argBest_gt (fun i=>ns.getD i 0) (its.length - 1)
 refine ⟨.int _,H,I.kept (t':=tk) (old h' k),⟨t,rfl⟩,q _ ?_ fun n hn => ?_⟩
 ·have hlt:argBest (fun i j=>decide (ns.getD i 0 > ns.getD j 0)) (its.length - 1) < ns.length:=by omega
  rw [Ac,A8 hlt]
  exact Cy hlt
 ·obtain ⟨j,hj,e⟩:=Ih.mp hn
  have:=h2 j (by omega)
  have ej:ns.getD j 0=n:=by
   rw [Ac,A8 hj,e]
   rfl
  rw [ej] at this
  exact this
theorem zej (ns:List Int):∀ k,k<=ns.length->preSum (fun i=>ns.getD i 0) k=(ns.take k).sum
 | 0,_=>rfl
 | k + 1,h=>by
  have hk:k < ns.length:=by omega
  rw [preSum,zej ns k (by omega),zaA (x:=ns[k]) (by simp [hk]),Fa]
  simp [Ac,hk]
theorem zfA (hc:X.calm=true):CallR X (.builtin "sum") (fun xs H Q=>∃ (a:A3) (ns:List Int),xs = [V.ref a]/\SqL X.K H a (ns.map V.int)/\Q (.int ns.sum) H):=by
 intro pins s σ H xs us Q I r h
 obtain ⟨a,ns,rfl,hq,q⟩:=h
 obtain ⟨u,rfl,ru⟩:=zci r
 cases ru
 obtain ⟨its,rv,p,hz⟩:=I.list hq
 have hl:ns.length=its.length:=by have:=rv.length; rwa [A1] at this
 refine call_sum_walkG (zcD (A:=X.A.in1) (I.ok.hd hc) p.isList fun It s2 e2 eI W st hf old => ?_)
 refine ⟨It,_,_,its.length,_,_,(fun i=>ns.getD i 0),rfl,W,st,hf,(fun _ _=>zeR rv),fun h' tk t' k => ?_⟩
 subst e2
 refine ⟨.int _,H,I.kept (t':=tk) (old h' k),⟨t',rfl⟩,?_⟩
 rw [<- hl,zej ns _ (A9 _),C6]
 exact q
noncomputable def many (ns:List Int):Nat:=(firstMet (fun i=>ns.getD i 0) ns.length).length
theorem call_set1 (hc:X.calm=true):CallR X (.type "set") (fun xs H Q=>∃ (a:A3) (ns:List Int),xs = [V.ref a]/\SqL X.K H a (ns.map V.int)/\ns.length + 1 < scanBound/\∀ p,H p=none->Q (.ref p) (upd H p (.set (fun k=>(firstMet (fun i=>ns.getD i 0) ns.length).any (· == k)) (many ns)))):=by
 intro pins s σ H xs us Q I r h
 obtain ⟨a,ns,rfl,hq,hb,q⟩:=h
 obtain ⟨u,rfl,ru⟩:=zci r
 cases ru
 obtain ⟨its,rv,p,hz⟩:=I.list hq
 have hl:ns.length=its.length:=by have:=rv.length; rwa [A1] at this
 have hsz:its.toArray.size=ns.length:=by rw [B1,hl]
 refine call_set_list (items:=its.toArray) (ns:=ns) (I.ok.hd hc) p.isList (by simpa using zeS rv) (by rw [hsz]; exact hb) fun h' tk hS k => ?_
 rw [hsz] at hS
 have I':Inv X pins σ (upd H s.heap.objs.size (.set (fun k=>(firstMet (fun i=>ns.getD i 0) ns.length).any (· == k)) (many ns))) { s with heap:=h',toks:=tk } :=
  I.laid (fun b o e=>k b o (Ar e) e) (A9 _) hS
 exact ⟨.ref _,_,I',rfl,q _ (I.hok.fresh (A9 _))⟩
theorem call_lenS:CallR X (.builtin "len") (fun xs H Q=>∃ a S n,xs = [V.ref a]/\H a=some (.set S n)/\Q (.int n) H):=by
 intro pins s σ H xs us Q I r h
 obtain ⟨a,S,n,rfl,hq,q⟩:=h
 obtain ⟨u,rfl,ru⟩:=zci r
 cases ru
 obtain ⟨o,es,ep,t,h1,h2,h3,h4,h5,h6,h7,h8⟩:=(show s.heap.SetOf (intKind X.prog X.w) a S n from I.hok a _ hq)
 have hfit:(es.size:Int) < 2 ^ 63:=by
  have:(es.size:Int) < 4096:=by unfold scanBound at h6; omega
  exact Int.lt_of_lt_of_le this (by decide)
 exact call_len_set h1 h2 h3 h7 hfit ⟨.int n,H,I.tok _,⟨_,by rw [h8]⟩,q⟩
theorem zff:OpR X (compareOp .LtE) (fun x y H Q=>∃ i j,x = .str i/\y = .str j/\Q (.bl (!decide (j.cps.toList < i.cps.toList))) H):=by
 intro pins s σ H x y v u Q I rx ry h
 obtain ⟨i,j,rfl,rfl,q⟩:=h
 obtain ⟨t,rfl⟩:=rx
 obtain ⟨t',rfl⟩:=ry
 exact Mc (zaE I q rfl)
theorem call_isi {c:A0} {cv:V} (hcv:RelV cv c) (huniq:∀ u,RelV cv u->u=c):CallR X (.builtin "isinstance") (fun xs H Q=>∃ x t b,xs = [x,cv]/\TyOf X.K H x t/\Jt X.K t c=some b/\Q (.bl b) H):=by
 intro pins s σ H xs us Q I r h
 obtain ⟨x,t,b,rfl,ty,e,q⟩:=h
 obtain ⟨u,u',rfl,ru,ru'⟩:=vals2 r
 have:=huniq u' ru'
 subst this
 exact isinst_ok I ru ty e fun tk=>⟨.bl b,H,I.tok _,rfl,q⟩
theorem zbQ (T:String):CallR X (.builtin "isinstance") (fun xs H Q=>∃ x t b,xs = [x,.ty T]/\TyOf X.K H x t/\Jt X.K t (.type T)=some b/\Q (.bl b) H):=call_isi (c := .type T) (cv := .ty T) rfl fun _ h=>h
end
section
variable {X:Cx}
noncomputable def tCut (t u:TS):TS:=fun D σ H=>∃ M:St->Hp->Prop,t { D with nx:=M } σ H/\∀ σ' H',M σ' H'->u D σ' H'
theorem zbi {st:Cd} {rest:List Cd} {t u:TS} (h1:PS X st t) (h2:PSs X rest u):PSs X (st :: rest) (tCut t u):=by
 intro pins s σ H D I h
 obtain ⟨M,h,hM⟩:=h
 refine Kc (thn (h1 pins s σ H { D with nx:=M } I h) fun f s1 q => ?_)
 cases f with
 | next =>
  obtain ⟨σ',H',I',q⟩:=q
  exact h2 pins s1 σ' H' D I' (hM σ' H' q)
 | ret v=>exact q
 | brk=>exact q
 | cont=>exact q
theorem zaK {scope:Fg} {N:List Str} {cl:List (Str×A3)} {C:A3} {s:A4} {H:Hp} {fp:List A3} {pn:List (A3×Obj)} (h:N.Nodup):(cxComp X scope N cl C s H fp pn).N.Nodup:=h
theorem zbO {x:Str} {i:Int} {pos:Pos} (hg:Gl X x) (hm:∃ t,X.mg x=some (.int i t)) (hd:(x == ("__debug__" : Str))=false:=by decide):PE X (.Name x pos) (tC (.int i)):=by
 obtain ⟨t,hm⟩:=hm
 exact zhg hg hm ⟨t,rfl⟩ hd
end
theorem ln1 {P:List A0->Prop} {p:Str} (h:∀ a,P [a]):∀ us:List A0,us.length = [p].length->P us
 | [a],_=>h a
theorem ln2 {P:List A0->Prop} {p q:Str} (h:∀ a b,P [a,b]):∀ us:List A0,us.length = [p,q].length->P us
 | [a,b],_=>h a b
theorem ln3 {P:List A0->Prop} {p q r:Str} (h:∀ a b c,P [a,b,c]):∀ us:List A0,us.length = [p,q,r].length->P us
 | [a,b,c],_=>h a b c
theorem ln4 {P:List A0->Prop} {p q r s:Str} (h:∀ a b c d,P [a,b,c,d]):∀ us:List A0,us.length = [p,q,r,s].length->P us
 | [a,b,c,d],_=>h a b c d
structure Callee (P:Av) (w:Bu) (K:At) (mg:Str->Option A0) (base:Ce) (x:Str) (k:Nat) (ps:List Str) (sp:Sp):Prop where
 ex:∃ f fd,FnOk P w K mg base CX0 k f fd ps sp/\mg x=some (.ref f)/\Dj K (.ref f)=true/\Binds K fd ps []/\∃ o,K.lookup f=some o/\o.data = .func fd
structure DefAt (K:At) (mg:Str->Option A0) (x:Str) (st:Cd):Prop where
 ex:∃ f fd,Fun K x x st f fd/\mg x=some (.ref f)
theorem def_mk {K:At} {mg:Str->Option A0} {h:Ce} {x:Str} {st:Cd} {f:A3} {oc:A0} {od an:Option A3} {osl:Array (Option A0)} {kV doc pm cdv ct:A0} (X:K.In h) (G:h.Ns mainGlobals mg)
  (a:C2 K mainGlobals x=some (some (.ref f)))
  (l:K.lookup f=some ⟨oc,od,.func (D4 x x (defArgs st) (defBody st) (defScope st) .none kV doc pm an cdv ct),osl⟩)
  (c:Fc K cdv x=true) (k:Dj K (.ref f)=true):DefAt K mg x st:=⟨f,_,zhw l c k,K1 X G a⟩
theorem int_mk {K:At} {mg:Str->Option A0} {h:Ce} {x:Str} {i:Int} {t:Tok} (X:K.In h) (G:h.Ns mainGlobals mg) (a:C2 K mainGlobals x=some (some (.int i t))):∃ t,mg x=some (.int i t):=⟨t,K1 X G a⟩
section
variable {P:Av} {w:Bu} {K:At} {mg:Str->Option A0} {base:Ce}
theorem DefAt.callee {x:Str} {st:Cd} {N ps:List Str} {k:Nat} {sp:Sp} (D:DefAt K mg x st) (S:FnScope N ps (defScope st))
  (hb:∀ (kV doc pm:A0) (an:Option A3) (cdv ct:A0) (us:List A0),us.length=ps.length->bindArgs (D4 x x (defArgs st) (defBody st) (defScope st) .none kV doc pm an cdv ct) ⟨us,[]⟩=pure (ps.zip us))
  (len:∀ vs H Q E,sp vs H Q E->vs.length=ps.length)
  (hbody:∀ (f:A3) (cdv:A0) (A:Bd) (outer:List Env) (s:A4) (H:Hp) (vs:List V) (Q:VK) (E:XK),Room k (A.deeper (envOfC x (defScope st) s.heap.objs.size f cdv))->sp vs H Q E ->
   ∃ t,PSs (cxOf CX0 P w K mg base N x (defScope st) f cdv A outer s H E).nox (defBody st) t/\t { nx:=fun _ H'=>Q .non H',rt:=Q } (start N vs) H):Callee P w K mg base x (k + 1) ps sp:=by
 obtain ⟨f,fd,F,m⟩:=D.ex
 obtain ⟨oc,od,kV,doc,pm,an,cdv,ct,osl,e,lk,hcd⟩:=id F.ex
 exact ⟨f,fd,F.ok S len (fun cdv A outer s H vs Q E hr h=>hbody f cdv A outer s H vs Q E hr h),m,F.kp,F.binds hb,_,lk,rfl⟩
end
section
variable {X:Cx} {x:Str} {k:Nat} {ps:List Str} {sp:Sp} {p pos:Pos} {e:Cc} {es:List Cc} {t:TA}
theorem zaz (C:Callee X.prog X.w X.K X.mg X.base x k ps sp) (hr:Room k X.A) (hg:Gl X x) (ha:PA X (e :: es) t) (hdb:(x == ("__debug__" : Str))=false:=by decide)
  (he:starEach (e :: es) X.env=(false,eval e X.env) :: starEach es X.env:=by rfl) (hpl:(backTo pos (starEach es X.env)).any (·.1)=false:=by rfl):PE X (.Call (.Name x p) (e :: es) [] pos) (tCall sp [] E0 t):=by
 obtain ⟨f,fd,F,hm,hk,hb,_⟩:=C.ex
 exact zhh F hr hg hm hk hb .nil zdI ha hdb he hpl
end
structure Bn (mg:Str->Option A0):Prop where
 n_len:mg "len" = none
 n_all:mg "all" = none
 n_any:mg "any" = none
 n_max:mg "max" = none
 n_min:mg "min" = none
 n_sum:mg "sum" = none
 n_sorted:mg "sorted" = none
 n_isinstance:mg "isinstance" = none
 n_int:mg "int" = none
 n_bool:mg "bool" = none
 n_str:mg "str" = none
 n_list:mg "list" = none
 n_tuple:mg "tuple" = none
 n_dict:mg "dict" = none
 n_set:mg "set" = none
 n_range:mg "range" = none
 n_reversed:mg "reversed" = none
 n_repr:mg "repr" = none
 n_abs:mg "abs" = none
 n_enumerate:mg "enumerate" = none
 n_zip:mg "zip" = none
theorem bn_mk {K:At} {mg:Str->Option A0} {h:Ce} (X:K.In h) (G:h.Ns mainGlobals mg)
  (a_len:C2 K mainGlobals "len" = some none)
  (a_all:C2 K mainGlobals "all" = some none)
  (a_any:C2 K mainGlobals "any" = some none)
  (a_max:C2 K mainGlobals "max" = some none)
  (a_min:C2 K mainGlobals "min" = some none)
  (a_sum:C2 K mainGlobals "sum" = some none)
  (a_sorted:C2 K mainGlobals "sorted" = some none)
  (a_isinstance:C2 K mainGlobals "isinstance" = some none)
  (a_int:C2 K mainGlobals "int" = some none)
  (a_bool:C2 K mainGlobals "bool" = some none)
  (a_str:C2 K mainGlobals "str" = some none)
  (a_list:C2 K mainGlobals "list" = some none)
  (a_tuple:C2 K mainGlobals "tuple" = some none)
  (a_dict:C2 K mainGlobals "dict" = some none)
  (a_set:C2 K mainGlobals "set" = some none)
  (a_range:C2 K mainGlobals "range" = some none)
  (a_reversed:C2 K mainGlobals "reversed" = some none)
  (a_repr:C2 K mainGlobals "repr" = some none)
  (a_abs:C2 K mainGlobals "abs" = some none)
  (a_enumerate:C2 K mainGlobals "enumerate" = some none)
  (a_zip:C2 K mainGlobals "zip" = some none)
  : Bn mg:=⟨Be X G a_len,Be X G a_all,Be X G a_any,Be X G a_max,Be X G a_min,Be X G a_sum,Be X G a_sorted,Be X G a_isinstance,Be X G a_int,Be X G a_bool,Be X G a_str,Be X G a_list,Be X G a_tuple,Be X G a_dict,Be X G a_set,Be X G a_range,Be X G a_reversed,Be X G a_repr,Be X G a_abs,Be X G a_enumerate,Be X G a_zip⟩
theorem DefAt.entry {P:Av} {w:Bu} {K:At} {mg:Str->Option A0} {x p:Str} {st:Cd} {k:Nat} {sp:Sp} {fa:A3} (D:DefAt K mg x st) (hfa:mg x=some (.ref fa))
  (hb:∀ (kV doc pm:A0) (an:Option A3) (cdv ct v:A0),bindArgs (D4 x x (defArgs st) (defBody st) (defScope st) .none kV doc pm an cdv ct) ⟨[v],[]⟩=pure [(p,v)])
  (C:∀ base:Ce,Callee P w K mg base x k [p] sp) :
  ∃ fd:Ej,(∀ (s:A4) (v:A0),K4 s fd ⟨[v],[]⟩ [(p,v)])/\∀ base:Ce,K.In base->base.Ns mainGlobals mg->FnOk P w K mg base CX0 k fa fd [p] sp:=by
 obtain ⟨f,fd,F,m⟩:=D.ex
 rw [m] at hfa
 cases hfa
 obtain ⟨oc,od,kV,doc,pm,an,cdv,ct,osl,rfl,lk,hcd⟩:=F.ex
 refine ⟨_,fun s v => .of_eq (hb kV doc pm an cdv ct v),fun base _ _ => ?_⟩
 obtain ⟨f',fd',G,m',_,_,o,lo,ed⟩:=(C base).ex
 rw [m] at m'
 cases m'
 rw [lk] at lo
 cases lo
 cases ed
 exact G
structure Fly (B:Ce) (l:List Env) (x:A3) (c fl:A0) (h:Ce):Prop where
 stay:B.StaysIn h
 new:B.get? x=none
 frs:h.FunFrames B l
 obj:∃ (oe:Obj) (vs:Array A0) (T:A3) (oT:Obj) (ts:Array A0),h.get? x=some oe/\(oe.cls=c/\oe.dict=none)/\oe.data = .fields vs/\vs[1]?=some (.ref T)/\vs[2]?=some .none/\B.get? T=none/\T≠x/\h.get? T=some oT/\oT.data = .fields ts/\ts[3]?=some fl
structure Fresh (B:Ce) (l:List Env) (x:A3) (c:A0) (h:Ce):Prop where
 stay:B.StaysIn h
 new:B.get? x=none
 frs:h.FunFrames B l
 obj:∃ (oe:Obj) (vs:Array A0),h.get? x=some oe/\(oe.cls=c/\oe.dict=none)/\oe.data = .fields vs/\vs[1]?=some .none/\vs[2]?=some .none
section
variable {M:Jo} {A:Bd} {E:A0->A4->Prop} {s:A4} {B:Ce} {l outer:List Env} {env:Env} {x L:A3} {c:A0}
theorem dict_mapFields (o:Obj) (f:Array A0->Array A0):(o.mapFields f).dict=o.dict:=by
 unfold F9
 split <;> rfl
theorem zaL {h:Ce} {a b:A3} {o:Obj} {vs:Array A0} {f:Array A0->Array A0} (ha:h.get? a=some o) (hd:o.data = .fields vs) :
  (h.update a (F9 f)).get? a=some (o.mapFields f)/\(b≠a->(h.update a (F9 f)).get? b=h.get? b) :=
 ⟨Ht _ ha (Lr (Fd hd f)),fun hb=>Hj _ _ (Dm hb)⟩
theorem zft {oe:Obj} {vs:Array A0} {head:A0} {hadNext:Bool} {Q:Unit->A4->Prop} (hfr:A.frames=some (env :: outer)) (hl:s.heap.FunFrames B (env :: outer)) (hf:env.frame=some L)
  (st:B.StaysIn s.heap) (nx:B.get? x=none) (hx:s.heap.get? x=some oe) (hc:oe.cls=c/\oe.dict=none) (hd:oe.data = .fields vs) (h2:vs[2]?=some .none)
  (k:∀ h',Fly B (env :: outer) x c (rawInt L) h'->s.heap.UpToSlots h'->Q () { s with heap:=h' }) :
  wpAny M A (do let a <- frameOf env; let pl <- entryPlaceOf L hadNext; let b <- Ki head a .none (rawInt L) .none pl; setField (.ref x) 1 b) Q E s:=by
 have hsz:2 < vs.size:=(Gb.mp h2).1
 have xnf:x ∉ (env :: outer).filterMap (·.frame):=fun hm=>by
  obtain ⟨_,o,ho,hno⟩:=hl.mem hm
  rw [hx] at ho
  cases ho
  exact hno vs hd
 refine A6 (wpAny_frameOf_fun hfr hl hf fun g1 so=>A6 (wpAny_entryPlaceOf fun pl hpl => ?_))
 unfold Ki newFields
 refine A6 (Fu ?_ (hpl.sizeOk5 _ _ _ _ _))
 have hx1:g1.get? x=some oe:=(so.2.1 x xnf).trans hx
 have st1:B.StaysIn g1:=fun b o hb=>by
  refine (so.2.1 b fun hm => ?_).trans (st b o hb)
  have:=(hl.mem hm).1
  rw [hb] at this
  cases this
 have big:x < g1.objs.size:=Ar hx1
 generalize hnew:({ cls := .type "traceback",dict:=none,data := .fields ([head,.ref L,.none,rawInt L,.none] ++ (if pl.isEmpty then C5 6 Ee else pl)).toArray }:Obj)=tb
 have hx2:(g1.push tb).get? x=some oe:=Ag tb hx1
 refine Gw hx2 hd (by omega) (k _ ?_ ?_)
 ·have tx:g1.objs.size≠x:=Lj big
  obtain ⟨e1,e2⟩:=zaL (b:=g1.objs.size) (f:=fun a=>a.setIfInBounds 1 (Bq g1.objs.size)) hx2 hd
  have hT:(g1.push tb).get? g1.objs.size=some tb:=Bh g1 (by rw [<- hnew]; rfl)
  refine ⟨fun b o hb => ?_,nx,hl.of_keeps fun b o hb hno => ?_,_,_,g1.objs.size,tb,_,e1,⟨(Mo _ _).trans hc.1,(dict_mapFields _ _).trans hc.2⟩,Fd hd _,(by show (vs.setIfInBounds 1 (Bq g1.objs.size))[1]?=_; simp [show 1 < vs.size by omega]),?_,st1.fresh,tx,(e2 tx).trans hT,by rw [<- hnew],?_⟩
  ·obtain ⟨_,e3⟩:=zaL (b:=b) (f:=fun a=>a.setIfInBounds 1 (Bq g1.objs.size)) hx2 hd
   refine (e3 fun z => ?_).trans (Ag tb (st1 b o hb))
   rw [z,nx] at hb
   cases hb
  ·have bx:b≠x:=fun z=>by
    rw [z,hx] at hb
    cases hb
    exact hno vs hd
   obtain ⟨sl,hs⟩:=so.2.2 b o hb
   obtain ⟨_,e3⟩:=zaL (b:=b) (f:=fun a=>a.setIfInBounds 1 (Bq g1.objs.size)) hx2 hd
   exact ⟨_,(e3 bx).trans (Ag tb hs),rfl⟩
  ·rw [Array.getElem?_setIfInBounds_ne (by decide)]
   exact h2
  ·rcases hpl with rfl | ⟨_,_,_,_,_,_,_,rfl⟩ <;> rfl
 ·intro b o hb hno
  have bx:b≠x:=fun z=>by
   rw [z,hx] at hb
   cases hb
   exact hno vs hd
  obtain ⟨sl,hs⟩:=so.2.2 b o hb
  obtain ⟨_,e3⟩:=zaL (b:=b) (f:=fun a=>a.setIfInBounds 1 (Bq g1.objs.size)) hx2 hd
  exact ⟨sl,(e3 bx).trans (Ag tb hs)⟩
theorem zgK {fl:A0} {Q:Unit->A4->Prop} (F:Fly B l x c fl s.heap) (k:∀ h',Fly B l x c .none h'->s.heap.UpToSlots h'->Q () { s with heap:=h' }):wpAny M A (setFlight (.ref x) none) Q E s:=by
 obtain ⟨oe,vs,T,oT,ts,hx,hc,hd,h1,h2,nT,tx,hT,dT,h3⟩:=F.obj
 have hsz:3 < ts.size:=(Gb.mp h3).1
 unfold setFlight
 refine A6 (Kk hx hd h1 ?_)
 rw [if_pos (by simp)]
 refine Gw hT dT hsz (k _ ?_ ?_)
 ·have e:∀ b,b≠T->(s.heap.update T (F9 (·.setIfInBounds 3 ((none:Option A3).elim Ee fun f=>rawInt f)))).get? b=s.heap.get? b:=fun b hb=>(zaL hT dT).2 hb
  refine ⟨fun b o hb=>(e b fun z => ?_).trans (F.stay b o hb),F.new,F.frs.of_keeps fun b o hb hno=>⟨o,(e b fun z => ?_).trans hb,rfl⟩,oe,vs,T,_,_,(e x (Dm tx)).trans hx,hc,hd,h1,h2,nT,tx,(zaL (b:=T) hT dT).1,Fd dT _,by simp [hsz]⟩
  ·rw [z,nT] at hb; cases hb
  ·rw [z,hT] at hb; cases hb; exact hno ts dT
 ·intro b o hb hno
  refine ⟨o.slots,((zaL hT dT).2 fun z => ?_).trans hb⟩
  rw [z,hT] at hb; cases hb; exact hno ts dT
theorem fly_note {Q:Unit->A4->Prop} (hfr:A.frames=some (env :: outer)) (hf:env.frame=some L) (F:Fly B (env :: outer) x c .none s.heap)
  (k:∀ h',Fly B (env :: outer) x c (rawInt L) h'->s.heap.UpToSlots h'->Q () { s with heap:=h' }):wpAny M A (noteFrame (.ref x) env) Q E s:=by
 obtain ⟨oe,vs,T,oT,ts,hx,hc,hd,h1,h2,nT,tx,hT,dT,h3⟩:=F.obj
 have hsz:3 < ts.size:=(Gb.mp h3).1
 unfold noteFrame
 simp only [hf]
 refine A6 (Kk hx hd h1 ?_)
 rw [if_pos (by simp)]
 refine A6 (Kk hT dT h3 ?_)
 rw [if_neg (by simp [rawInt])]
 refine A6 (Gw hT dT hsz ?_)
 have e:∀ b,b≠T->(s.heap.update T (F9 (·.setIfInBounds 3 Ee))).get? b=s.heap.get? b:=fun b hb=>(zaL hT dT).2 hb
 have nf:∀ b o,s.heap.get? b=some o->(∀ vs,o.data ≠ .fields vs)->b≠T:=fun b o hb hno z=>by
  rw [z,hT] at hb; cases hb; exact hno ts dT
 refine zft hfr (F.frs.of_keeps fun b o hb hno=>⟨o,(e b (nf b o hb hno)).trans hb,rfl⟩) hf (fun b o hb=>(e b fun z => ?_).trans (F.stay b o hb)) F.new ((e x (Dm tx)).trans hx) hc hd h2 fun h' F' u=>k h' F' fun b o hb hno => ?_
 ·rw [z,nT] at hb; cases hb
 ·exact u b o ((e b (nf b o hb hno)).trans hb) hno
theorem fresh_note {Q:Unit->A4->Prop} (hfr:A.frames=some (env :: outer)) (hf:env.frame=some L) (F:Fresh B (env :: outer) x c s.heap)
  (k:∀ h',Fly B (env :: outer) x c (rawInt L) h'->s.heap.UpToSlots h'->Q () { s with heap:=h' }):wpAny M A (noteFrame (.ref x) env) Q E s:=by
 obtain ⟨oe,vs,hx,hc,hd,h1,h2⟩:=F.obj
 unfold noteFrame
 simp only [hf]
 refine A6 (Kk hx hd h1 ?_)
 rw [if_neg (by decide)]
 exact zft hfr F.frs hf F.stay F.new hx hc hd h2 k
theorem Fly.tail {fl:A0} {h:Ce} (F:Fly B (env :: outer) x c fl h):Fly B outer x c fl h:=⟨F.stay,F.new,F.frs.2.2,F.obj⟩
theorem fly_leave {Q:Unit->A4->Prop} (hfr:A.frames=some (env :: outer)) (hf:env.frame=some L) (F:Fly B (env :: outer) x c .none s.heap)
  (k:∀ h',Fly B outer x c .none h'->s.heap.UpToSlots h'->Q () { s with heap:=h' }):wpAny M A (leaving env (.ref x)) Q E s:=by
 unfold leaving
 exact A6 (fly_note hfr hf F fun h1 F1 u1=>zgK (s:={ s with heap:=h1 }) F1 fun h2 F2 u2=>k h2 F2.tail (u1.trans u2))
theorem fresh_leave {Q:Unit->A4->Prop} (hfr:A.frames=some (env :: outer)) (hf:env.frame=some L) (F:Fresh B (env :: outer) x c s.heap)
  (k:∀ h',Fly B outer x c .none h'->s.heap.UpToSlots h'->Q () { s with heap:=h' }):wpAny M A (leaving env (.ref x)) Q E s:=by
 unfold leaving
 exact A6 (fresh_note hfr hf F fun h1 F1 u1=>zgK (s:={ s with heap:=h1 }) F1 fun h2 F2 u2=>k h2 F2.tail (u1.trans u2))
end
section
variable {P:Av} {w:Bu}
theorem ObjOk.there {H:Hp} {h:Ce} {a:A3} {o:HO} (x:ObjOk P w H h a o):∃ ob,h.get? a=some ob:=by
 cases o with
 | lst xs=>obtain ⟨_,_,_,_,e⟩:=x; exact ⟨_,e⟩
 | tup xs=>obtain ⟨_,_,_,o,e,_⟩:=x; exact ⟨o,e⟩
 | dK kvs=>obtain ⟨_,_,_,_,o,_,_,e,_⟩:=x; exact ⟨o,e⟩
 | dT kvs=>obtain ⟨_,_,_,_,o,_,_,e,_⟩:=x; exact ⟨o,e⟩
 | set S n=>obtain ⟨o,_,_,_,e,_⟩:=x; exact ⟨o,e⟩
 | ins C dx fs=>obtain ⟨_,_,_,e,_⟩:=x; exact ⟨_,e⟩
 | own y=>exact x
 | xd fs=>obtain ⟨_,⟨o,_,_,e,_⟩,_⟩:=x; exact ⟨o,e⟩
 | rng lo hi=>obtain ⟨_,_,_,e⟩:=x; exact ⟨_,e⟩
 | frz ob u=>obtain ⟨e,_⟩:=x; exact ⟨_,e⟩
 | tbl ps=>exact ⟨_,(show h.get? a=some _ from x)⟩
 | met f y=>exact ⟨_,(show h.get? a=some _ from x)⟩
 | ext φ => obtain ⟨_,e,_⟩:=x; exact e
noncomputable def CX1 (P:Av) (w:Bu):CXT:=fun outer H s E e s'=>∃ (x:A3) (c:A0) (B:Ce) (H':Hp),e = .ref x/\Fly B outer x c .none s'.heap/\s'.os=s.os/\Gq s'.gens/\Un (frs outer) [] H H' s.heap s'.heap/\HOk P w H' s'.heap/\H' x=none /\
 (∀ b o,H' b=some o->∃ ob,B.get? b=some ob)/\(∀ b o,s.heap.get? b=some o->b ∉ frs outer->∃ ob,B.get? b=some ob)/\E c none H'
theorem zhx {B h h':Ce} {H:Hp} (ok:HOk P w H h) (st:B.StaysIn h) (st':B.StaysIn h') (inB:∀ b o,H b=some o->∃ ob,B.get? b=some ob):HOk P w H h':=fun a o e=>by
 refine (ok a o e).stay (fun b u hb q => ?_) (fun _ q=>q) fun _ _ q=>q
 have ⟨ob,hB⟩:∃ ob,B.get? b=some ob:=by
  rcases hb with z | z
  ·rw [z]; exact inB a o e
  ·exact inB b _ z
 have:=st b ob hB
 rw [q] at this
 cases this
 exact st' b _ hB
theorem zh7 {B h0 h h':Ce} {fs:List A3} {H H':Hp} (u:Un fs [] H H' h0 h) (st:B.StaysIn h) (st':B.StaysIn h') (up:h.UpToSlots h') (inB:∀ b o,h0.get? b=some o->b ∉ fs->∃ ob,B.get? b=some ob)
  (hfs:∀ b∈fs,∀ o,h.get? b=some o->∀ vs,o.data ≠ .fields vs):Un fs [] H H' h0 h' where
 keep:=fun b o e n hb hx=>by
  obtain ⟨ob,hB⟩:=inB b o e hb
  have q:=u.keep b o e n hb hx
  have:=st b ob hB
  rw [q] at this
  cases this
  exact st' b _ hB
 slot:=fun b o e n hb hx=>by
  obtain ⟨sl,q⟩:=u.slot b o e n hb hx
  obtain ⟨sl',q'⟩:=up b _ q (hfs b hb _ q)
  exact ⟨sl',q'⟩
 free:=u.free
 there:=fun b o e hx=>by
  by_cases hb:b∈fs
  ·obtain ⟨o',q⟩:=u.there b o e hx
   obtain ⟨sl,q'⟩:=up b o' q (hfs b hb o' q)
   exact ⟨_,q'⟩
  ·obtain ⟨ob,hB⟩:=inB b o e hb
   exact ⟨ob,st' b ob hB⟩
 tups:=u.tups
 frzs:=u.frzs
 tbls:=u.tbls
theorem zgL {B h:Ce} {l:List Env} (f:h.FunFrames B l):∀ b∈frs l,∀ o,h.get? b=some o->∀ vs,o.data ≠ .fields vs:=fun b hb o e vs=>by
 obtain ⟨_,o',e',hno⟩:=f.mem hb
 rw [e] at e'
 cases e'
 exact hno vs
theorem zd7 {X:Cx} {pins:List (A3×Obj)} {σ : St} {H H':Hp} {s:A4} {h':Ce} (I:Inv X pins σ H s) (hex:X.ex = []) (u:Un (frs X.stack) [] H H' s.heap h'):Un X.fs [] X.H₀ H' X.s₀.heap h':=by
 have nl:∀ b o,X.s₀.heap.get? b=some o->b≠X.env.locals:=fun b o e=>Bs (Ae (Ar e) I.ok.above)
 have nst:∀ b o,X.s₀.heap.get? b=some o->b ∉ X.fs->b ∉ frs X.stack:=fun b o e hb z=>(Bc.mp (I.stkSub b z)).elim (nl b o e) hb
 have B:=I.base
 rw [hex] at B
 refine ⟨fun b o e n hb hx=>u.keep b o (B.keep b o e n hb hx) (B.free b o e n hx) (nst b o e hb) hx,fun b o e n hb hx => ?_,fun b o e n hx => ?_,fun b o e hx => ?_,fun b xs e=>u.tups b xs (B.tups b xs e),fun b o v e=>u.frzs b o v (B.frzs b o v e),fun b ps e => ?_⟩
 ·obtain ⟨sl,e1⟩:=B.slot b o e n hb hx
  obtain ⟨sl',e2⟩:=u.any e1 (B.free b o e n hx) hx
  exact ⟨sl',e2⟩
 ·obtain ⟨o',e1⟩:=B.there b o e hx
  exact u.free b o' e1 (B.free b o e n hx) hx
 ·obtain ⟨o',e1⟩:=B.there b o e hx
  exact u.there b o' e1 hx
 ·obtain ⟨m1,e1⟩:=B.tbls b ps e
  obtain ⟨m2,e2⟩:=u.tbls b _ e1
  exact ⟨m1 ++ m2,by rw [e2,Iz]⟩
theorem zbb {K:At} {mg:Str->Option A0} {base:Ce} {N:List Str} {qual:Str} {scope:Fg} {f:A3} {cd:A0} {A:Bd} {outer:List Env} {s₀ : A4} {H₀ : Hp} {E:XK} :
  Passes (CX1 P w) (cxOf (CX1 P w) P w K mg base N qual scope f cd A outer s₀ H₀ E) E:=by
 intro pins σ H s e s' I h
 obtain ⟨x,c,B,H',rfl,F,ho,hg,u,ok,nx,inB,old,q⟩:=h
 have hfr:(A.deeper (envOfC qual scope s₀.heap.objs.size f cd)).frames=some (envOfC qual scope s₀.heap.objs.size f cd :: outer):=I.ok.frames
 have ut:Un (frs outer) [] H₀ H' s₀.heap s'.heap:=zd7 I rfl u
 have old':∀ b o,s₀.heap.get? b=some o->b ∉ frs outer->∃ ob,B.get? b=some ob:=fun b o e hb=>by
  obtain ⟨o',e1⟩:=I.base.there b o e (by show b ∉ ([]:List A3); simp)
  refine old b o' e1 fun z => ?_
  rcases Bc.mp (I.stkSub b z) with z | z
  ·exact absurd (Ae (Ar e) I.ok.above) (by rw [z]; exact Dv _)
  ·exact hb z
 show wpAny (model P w) _ (leaving _ (.ref x)) _ _ s'
 refine fly_leave hfr rfl F fun h' F' up=>⟨x,c,B,H',rfl,F',(show s'.os=s₀.os from ho.trans I.os),hg,zh7 ut F.stay F'.stay up old' (zgL F.tail.frs),zhx ok F.stay F'.stay inB,nx,inB,old',q⟩
theorem pass_no {X:Cx} {E:XK} (hE:∀ c d H,¬ E c d H):Passes (CX1 P w) X E:=fun _ _ _ _ _ _ _ h=>by
 obtain ⟨_,_,_,_,_,_,_,_,_,_,_,_,_,q⟩:=h
 exact (hE _ _ _ q).elim
theorem zay {X:Cx}:Passes (CX1 P w) X E0:=pass_no fun _ _ _ h=>h
theorem raise_out {K:At} {mg:Str->Option A0} {base:Ce} {N:List Str} {qual:Str} {scope:Fg} {f:A3} {cd:A0} {A:Bd} {outer:List Env} {s₀ : A4} {H₀ : Hp} {E:XK} {pins:List (A3×Obj)} {σ : St} {H:Hp} {s s':A4} {x:A3} {c:A0} {args:List A0}
  (I:Inv (cxOf (CX1 P w) P w K mg base N qual scope f cd A outer s₀ H₀ E) pins σ H s) (hx:Heap.MadeExcOf s.heap s'.heap x c args) (ho:s'.os=s.os) (hg:Gq s'.gens) (q:E c none H) :
  (cxOf (CX1 P w) P w K mg base N qual scope f cd A outer s₀ H₀ E).xe (.ref x) s':=by
 have hfr:(A.deeper (envOfC qual scope s₀.heap.objs.size f cd)).frames=some (envOfC qual scope s₀.heap.objs.size f cd :: outer):=I.ok.frames
 have hin:∀ env∈envOfC qual scope s₀.heap.objs.size f cd :: outer,∀ a,env.frame=some a->a∈frs (envOfC qual scope s₀.heap.objs.size f cd :: outer):=fun env he a ha=>J5.mpr ⟨env,he,ha⟩
 have st:(Dx s.heap (frs (envOfC qual scope s₀.heap.objs.size f cd :: outer))).StaysIn s'.heap:=fun b o e=>hx.keeps b o (Il _ e)
 have nx:(Dx s.heap (frs (envOfC qual scope s₀.heap.objs.size f cd :: outer))).get? x=none:=by
  cases e:(Dx s.heap (frs (envOfC qual scope s₀.heap.objs.size f cd :: outer))).get? x with
  | none=>rfl
  | some o =>
   have:=Il _ e
   rw [hx.new] at this
   cases this
 have fr0:s.heap.FunFrames (Dx s.heap (frs (envOfC qual scope s₀.heap.objs.size f cd :: outer))) (envOfC qual scope s₀.heap.objs.size f cd :: outer):=PySem.W.funFrames_hide I.stack hin
 obtain ⟨t,hobj,_,_⟩:=hx.there
 have F:Fresh (Dx s.heap (frs (envOfC qual scope s₀.heap.objs.size f cd :: outer))) (envOfC qual scope s₀.heap.objs.size f cd :: outer) x c s'.heap :=
  ⟨st,nx,fr0.of_keeps fun b o hb _=>⟨o,hx.keeps b o hb,rfl⟩,_,_,hobj,⟨rfl,rfl⟩,rfl,rfl,rfl⟩
 have inB:∀ b o,s.heap.get? b=some o->b ∉ frs (envOfC qual scope s₀.heap.objs.size f cd :: outer)->∃ ob,(Dx s.heap (frs (envOfC qual scope s₀.heap.objs.size f cd :: outer))).get? b=some ob:=fun b o e hb=>⟨o,L3 _ e hb⟩
 have trk:∀ b o,H b=some o->∃ ob,(Dx s.heap (frs (envOfC qual scope s₀.heap.objs.size f cd :: outer))).get? b=some ob:=fun b o e=>by
  have lt:=I.hok.lt e
  cases e2:s.heap.get? b with
  | none =>
   exfalso
   have ok:=I.hok b o e
   obtain ⟨ob,hob⟩:=ok.there
   rw [e2] at hob
   cases hob
  | some ob =>
   refine inB b ob e2 fun z => ?_
   have:=I.stkFree b z
   rw [e] at this
   cases this
 have old:∀ b o,s₀.heap.get? b=some o->b ∉ frs outer->∃ ob,(Dx s.heap (frs (envOfC qual scope s₀.heap.objs.size f cd :: outer))).get? b=some ob:=fun b o e hb=>by
  obtain ⟨o',e1⟩:=I.base.there b o e (by show b ∉ ([]:List A3); simp)
  refine inB b o' e1 fun z => ?_
  rcases Bc.mp (I.stkSub b z) with z | z
  ·exact absurd (Ae (Ar e) I.ok.above) (by rw [z]; exact Dv _)
  ·exact hb z
 have u0:Un (frs outer) [] H₀ H s₀.heap s.heap:=zd7 I rfl Un.refl
 have u1:Un (frs outer) [] H₀ H s₀.heap s'.heap:=u0.trans (Un.kept hx.keeps)
 have ok1:HOk P w H s'.heap:=I.hok.kept hx.keeps
 have nxH:H x=none:=by
  cases e:H x with
  | none=>rfl
  | some o =>
   obtain ⟨ob,hob⟩:=(I.hok x o e).there
   rw [hx.new] at hob
   cases hob
 show wpAny (model P w) _ (leaving _ (.ref x)) _ _ s'
 exact fresh_leave hfr rfl F fun h' F' up=>⟨x,c,_,H,rfl,F',(show s'.os=s₀.os from ho.trans I.os),hg,zh7 u1 F.stay F'.stay up old (zgL F.frs.2.2),zhx ok1 F.stay F'.stay trk,nxH,trk,old,q⟩
end
section
variable {prog:Av} {w:Bu} {A:Bd} {E:A0->A4->Prop} {s:A4}
end
section
variable {X:Cx} {tg:Cc} {e:A3} {oe:Obj}
end
section
variable {X:Cx} {k:Nat} {f:A3} {fd:Ej} {ps:List Str} {sp:Sp} {x:Str} {p pos:Pos} {ex:Cc} {es:List Cc} {t:TA} {e:A3} {oe:Obj}
end
section
variable {X:Cx} {pins:List (A3×Obj)} {σ : St} {H:Hp} {s:A4}
end
section
variable {prog:Av} {w:Bu} {A:Bd} {E:A0->A4->Prop} {s:A4} {K:At} {x D:A3} {ox:Obj}
end
section
variable {X:Cx}
end
structure Err (K:At) (mg:Str->Option A0) (x:Str) (C:A3):Prop where
 bound:mg x=some (.ref C)
 exc:D7 K C [.type "ValueError",.type "Exception",.type "BaseException",.type "object"] "ValueError.__new__" = true
theorem err_obj {K:At} {h:Ce} {C:A3} {bmB:List A0} {newId:String} (X:K.In h) (q:D7 K C bmB newId=true) :
  ∃ bm N nm q bs hdct sn sub ab col dd k0 k1 k2 k3 k5 mN,h.get? C=some (excClassObj nm q C N bs bm hdct sn sub ab col dd k0 k1 k2 k3 k5 newId)/\h.Ns N mN/\mN "__init__" = none/\OwnTail h bmB bm:=by
 unfold D7 at q
 split at q
 ·next dd cd sl ho =>
  split at q
  ·next C' bm k0 k1 k2 k3 n k5 hm hs =>
   simp only [Bp,beq_iff_eq,Fm] at q
   obtain ⟨⟨⟨⟨⟨r1,r2⟩,hdel⟩,ht⟩,hok⟩,hni⟩:=q
   subst r1 r2
   cases cd with
   | mk nm bs mro ns qn hd sn sub ab col del =>
    dsimp only at hm hdel hok hni
    subst hm hdel
    cases sl with
    | mk l =>
     simp only at hs
     subst hs
     exact ⟨bm,ns,nm,qn,bs,hd,sn,sub,ab,col,dd,k0,k1,k2,k3,k5,_,X _ _ ho,.of_isNs (PySem.W.isNs_of_in X hok),PySem.W.nsMap_none_of_in X hok hni,PySem.W.tail_of_in X ht⟩
  ·cases q
 ·cases q
noncomputable def tRaise (E:XK) (C:A3) (ta:TA):TS:=fun _ σ H=>ta σ H fun vs H1=>vs.length<=sizeLine/\E (.ref C) none H1
section
variable {P:Av} {w:Bu} {K:At} {mg:Str->Option A0} {base:Ce} {N:List Str} {qual:Str} {scope:Fg} {f:A3} {cd:A0} {A:Bd} {outer:List Env} {s₀ : A4} {H₀ : Hp} {E:XK}
theorem za9 {x:Str} {C:A3} {np cpos pos:Pos} {e:Cc} {es:List Cc} {t:TA} (O:Err K mg x C) (hg:Gl (cxOf (CX1 P w) P w K mg base N qual scope f cd A outer s₀ H₀ E) x)
  (ha:PA (cxOf (CX1 P w) P w K mg base N qual scope f cd A outer s₀ H₀ E) (e :: es) t) (hd:(x == ("__debug__" : Str))=false:=by decide)
  (he:starEach (e :: es) (envOfC qual scope s₀.heap.objs.size f cd)=(false,eval e (envOfC qual scope s₀.heap.objs.size f cd)) :: starEach es (envOfC qual scope s₀.heap.objs.size f cd):=by rfl)
  (hpl:(backTo cpos (starEach es (envOfC qual scope s₀.heap.objs.size f cd))).any (·.1)=false:=by rfl) :
  PS (cxOf (CX1 P w) P w K mg base N qual scope f cd A outer s₀ H₀ E) (.Raise (some (.Call (.Name x np) (e :: es) [] cpos)) none pos) (tRaise E C t):=by
 intro pins s σ H D I h
 obtain ⟨bm,Nn,nm,q,bs,hdct,sn,sub,ab,col,dd,k0,k1,k2,k3,k5,mN,hC,hN,hni,T⟩:=err_obj I.ok.mod.kin O.exc
 refine wpAny_Raise_call_subT (C:=C) (nm:=nm) (q:=q) (N:=Nn) (bs:=bs) (bm:=bm) (hdct:=hdct) (sn:=sn) (sub:=sub) (ab:=ab) (col:=col) (dd:=dd) (k0:=k0) (k1:=k1) (k2:=k2) (k3:=k3) (k5:=k5) (env:=envOfC qual scope s₀.heap.objs.size f cd)
  F.excBase_ValueError (mN:=mN) (T.hasType F.excBase_ValueError.hasBase) (I.ok.hd rfl) ?_ hni (zeQ I hg O.bound ⟨rfl,?_⟩ hd)
 ·rw [he]
  show (false || (backTo cpos (starEach es (envOfC qual scope s₀.heap.objs.size f cd))).any (·.1))=false
  rw [hpl]; rfl
 ·have g:=ha cpos pins s σ H _ I h
  change wpAny _ _ (spliced (backTo cpos (starEach (e :: es) (envOfC qual scope s₀.heap.objs.size f cd)))) _ _ s at g
  rw [he] at g ⊢
  refine Ic (thn g fun us s2 ⟨vs,H1,I1,r,hl,q⟩ => ?_)
  exact ⟨rfl,by rw [<- r.length]; exact hl,I1.bk _ _ hC,hN.keeps I1.bk,T.keeps I1.bk,fun h' x hx=>raise_out I1 hx rfl I1.bare q⟩
end
structure Callee1 (P:Av) (w:Bu) (K:At) (mg:Str->Option A0) (base:Ce) (x:Str) (k:Nat) (ps:List Str) (sp:Sp):Prop where
 ex:∃ f fd,FnOk P w K mg base (CX1 P w) k f fd ps sp/\mg x=some (.ref f)/\Dj K (.ref f)=true/\Binds K fd ps []
structure MethAt (K:At) (C:A3) (cn m:Str) (st:Cd):Prop where
 ex:∃ f fd,Fun K m (cn ++ A2 "." ++ m) st f fd/\Meth K C m f
structure Method (P:Av) (w:Bu) (K:At) (mg:Str->Option A0) (base:Ce) (C:A3) (m:Str) (CX:CXT) (k:Nat) (ps:List Str) (sp:Sp):Prop where
 ex:∃ f fd,FnOk P w K mg base CX k f fd ps sp/\Meth K C m f/\Binds K fd ps []
section
variable {P:Av} {w:Bu} {K:At} {mg:Str->Option A0} {base:Ce}
theorem Fun.ok1 {x qual:Str} {st:Cd} {f:A3} {fd:Ej} {N ps:List Str} {k:Nat} {sp:Sp} (F:Fun K x qual st f fd) (S:FnScope N ps (defScope st)) (len:∀ vs H Q E,sp vs H Q E->vs.length=ps.length)
  (hbody:∀ (cdv:A0) (A:Bd) (outer:List Env) (s:A4) (H:Hp) (vs:List V) (Q:VK) (E:XK),Room k (A.deeper (envOfC qual (defScope st) s.heap.objs.size f cdv))->sp vs H Q E ->
   ∃ t,PSs (cxOf (CX1 P w) P w K mg base N qual (defScope st) f cdv A outer s H E) (defBody st) t/\t { nx:=fun _ H'=>Q .non H',rt:=Q } (start N vs) H):FnOk P w K mg base (CX1 P w) (k + 1) f fd ps sp:=by
 obtain ⟨oc,od,kV,doc,pm,an,cdv,ct,osl,rfl,lk,hcd⟩:=F.ex
 exact zit lk hcd S len fun A outer s H vs Q E hr hsp=>hbody cdv A outer s H vs Q E hr hsp
theorem DefAt.callee1 {x:Str} {st:Cd} {N ps:List Str} {k:Nat} {sp:Sp} (D:DefAt K mg x st) (S:FnScope N ps (defScope st))
  (hb:∀ (kV doc pm:A0) (an:Option A3) (cdv ct:A0) (us:List A0),us.length=ps.length->bindArgs (D4 x x (defArgs st) (defBody st) (defScope st) .none kV doc pm an cdv ct) ⟨us,[]⟩=pure (ps.zip us))
  (len:∀ vs H Q E,sp vs H Q E->vs.length=ps.length)
  (hbody:∀ (f:A3) (cdv:A0) (A:Bd) (outer:List Env) (s:A4) (H:Hp) (vs:List V) (Q:VK) (E:XK),Room k (A.deeper (envOfC x (defScope st) s.heap.objs.size f cdv))->sp vs H Q E ->
   ∃ t,PSs (cxOf (CX1 P w) P w K mg base N x (defScope st) f cdv A outer s H E) (defBody st) t/\t { nx:=fun _ H'=>Q .non H',rt:=Q } (start N vs) H):Callee1 P w K mg base x (k + 1) ps sp:=by
 obtain ⟨f,fd,F,m⟩:=D.ex
 exact ⟨f,fd,F.ok1 S len (fun cdv A outer s H vs Q E hr h=>hbody f cdv A outer s H vs Q E hr h),m,F.kp,F.binds hb⟩
theorem MethAt.meth1 {cn m:Str} {C:A3} {st:Cd} {N ps:List Str} {k:Nat} {sp:Sp} (D:MethAt K C cn m st) (S:FnScope N ps (defScope st))
  (hb:∀ (kV doc pm:A0) (an:Option A3) (cdv ct:A0) (us:List A0),us.length=ps.length->bindArgs (D4 m (cn ++ A2 "." ++ m) (defArgs st) (defBody st) (defScope st) .none kV doc pm an cdv ct) ⟨us,[]⟩=pure (ps.zip us))
  (len:∀ vs H Q E,sp vs H Q E->vs.length=ps.length)
  (hbody:∀ (f:A3) (cdv:A0) (A:Bd) (outer:List Env) (s:A4) (H:Hp) (vs:List V) (Q:VK) (E:XK),Room k (A.deeper (envOfC (cn ++ A2 "." ++ m) (defScope st) s.heap.objs.size f cdv))->sp vs H Q E ->
   ∃ t,PSs (cxOf (CX1 P w) P w K mg base N (cn ++ A2 "." ++ m) (defScope st) f cdv A outer s H E) (defBody st) t/\t { nx:=fun _ H'=>Q .non H',rt:=Q } (start N vs) H):Method P w K mg base C m (CX1 P w) (k + 1) ps sp:=by
 obtain ⟨f,fd,F,m⟩:=D.ex
 exact ⟨f,fd,F.ok1 S len (fun cdv A outer s H vs Q E hr h=>hbody f cdv A outer s H vs Q E hr h),m,F.binds hb⟩
theorem MethAt.meth0 {cn m:Str} {C:A3} {st:Cd} {N ps:List Str} {k:Nat} {sp:Sp} (D:MethAt K C cn m st) (S:FnScope N ps (defScope st))
  (hb:∀ (kV doc pm:A0) (an:Option A3) (cdv ct:A0) (us:List A0),us.length=ps.length->bindArgs (D4 m (cn ++ A2 "." ++ m) (defArgs st) (defBody st) (defScope st) .none kV doc pm an cdv ct) ⟨us,[]⟩=pure (ps.zip us))
  (len:∀ vs H Q E,sp vs H Q E->vs.length=ps.length)
  (hbody:∀ (f:A3) (cdv:A0) (A:Bd) (outer:List Env) (s:A4) (H:Hp) (vs:List V) (Q:VK) (E:XK),Room k (A.deeper (envOfC (cn ++ A2 "." ++ m) (defScope st) s.heap.objs.size f cdv))->sp vs H Q E ->
   ∃ t,PSs (cxOf CX0 P w K mg base N (cn ++ A2 "." ++ m) (defScope st) f cdv A outer s H E).nox (defBody st) t/\t { nx:=fun _ H'=>Q .non H',rt:=Q } (start N vs) H):Method P w K mg base C m CX0 (k + 1) ps sp:=by
 obtain ⟨f,fd,F,m⟩:=D.ex
 exact ⟨f,fd,F.ok S len (fun cdv A outer s H vs Q E hr h=>hbody f cdv A outer s H vs Q E hr h),m,F.binds hb⟩
end
section
variable {X:Cx} {x m:Str} {k:Nat} {ps:List Str} {sp:Sp} {p pos apos:Pos} {o e:Cc} {es:List Cc} {ta:TE} {t:TA} {E:XK} {C:A3} {CX:CXT}
theorem zba (F:Callee1 X.prog X.w X.K X.mg X.base x k ps sp) (hr:Room k X.A) (hx:Passes (CX1 X.prog X.w) X E) (hg:Gl X x) (ha:PA X (e :: es) t) (hdb:(x == ("__debug__" : Str))=false:=by decide)
  (he:starEach (e :: es) X.env=(false,eval e X.env) :: starEach es X.env:=by rfl) (hpl:(backTo pos (starEach es X.env)).any (·.1)=false:=by rfl):PE X (.Call (.Name x p) (e :: es) [] pos) (tCall sp [] E t):=by
 obtain ⟨f,fd,F,hm,hk,hb⟩:=F.ex
 exact zhh F hr hg hm hk hb .nil hx ha hdb he hpl
theorem zfN {pl:Sem Bool} (he:PE X o ta) (c:Cls X.K C) (F:Method X.prog X.w X.K X.mg X.base C m CX k ps sp) (hr:Room k X.A) (hx:Passes CX X E) (ha:PA X (e :: es) t)
  (hst:starEach (e :: es) X.env=(false,eval e X.env) :: starEach es X.env:=by rfl) (hpl:(backTo pos (starEach es X.env)).any (·.1)=false:=by rfl)
  (ht:eval (.Call (.Attribute o m apos) (e :: es) [] pos) X.env=(do
   let ov <- eval o X.env
   standAt apos.atName
   let (f,first) <- holding [ov] (getMethod ov m pl)
   callWith pos f first (backTo pos (starEach (e :: es) X.env)) (backToKw pos (keywordEach [] X.env))):=by rfl) :
  PE X (.Call (.Attribute o m apos) (e :: es) [] pos) (tMeth C m sp [] E ta t):=by
 obtain ⟨f,fd,F,hm,hb⟩:=F.ex
 exact pe_meth he c hm F hr hb .nil hx ha hst hpl ht
theorem zhX {pl:Sem Bool} (he:PE X o ta) (c:Cls X.K C) (F:Method X.prog X.w X.K X.mg X.base C m CX k ps sp) (hr:Room k X.A) (hx:Passes CX X E)
  (ht:eval (.Call (.Attribute o m apos) [] [] pos) X.env=(do
   let ov <- eval o X.env
   standAt apos.atName
   let (f,first) <- holding [ov] (getMethod ov m pl)
   callWith pos f first (backTo pos (starEach [] X.env)) (backToKw pos (keywordEach [] X.env))):=by rfl) :
  PE X (.Call (.Attribute o m apos) [] [] pos) (tMeth C m sp [] E ta tNil):=by
 obtain ⟨f,fd,F,hm,hb⟩:=F.ex
 exact pe_meth0 he c hm F hr hb .nil hx ht
end
section
variable {X:Cx}
noncomputable def gLst (K:At) (n:Nat) (t:TGs):TG:=fun v σ H Q=>∃ a xs,v = .ref a/\SqL K H a xs/\xs.length=n/\t xs σ H Q
theorem zgs {es:List Cc} {k:Nat} {t:TGs} {n:Nat} {pos:Pos} (hc:X.calm=true) (h:PGs X es t)
  (hn:(assignEach es X.env).length=n:=by rfl) (hst:(assignEach es X.env).findIdx? (·.1)=none:=by rfl):PG X (.Tuple es k pos) (gLst X.K n t):=by
 intro pins s σ H v u Q I r hw
 obtain ⟨a,xs,e1,hq,hl,hw⟩:=hw
 subst e1
 cases r
 obtain ⟨its,rv,p,hz⟩:=I.list hq
 rw [P1]
 refine A6 (Jm ?_)
 unfold unpack
 have hsz:(assignEach es X.env).length=its.toArray.size:=by simp [hn,<- hl,rv.length]
 rw [hsz,hst]
 refine A6 (Ex (PySem.W.kun_itemsOf (I.ok.hd hc) p.isList fun h' hx => ?_))
 have I1:Inv X pins σ H { s with heap:=h' }:=I.kept (t':=s.toks) fun b o e=>hx b o (Bs (Ar e)) e
 exact h pins _ σ H xs _ Q I1 (by simpa using rv) hw
end
mutual
inductive VD (K:At) (H:Hp):V->Gh->Prop
 | non:VD K H .non .none
 | bl (b:Bool):VD K H (.bl b) (.bool b)
 | int (i:Int):VD K H (.int i) (.int i)
 | str (x:Str):VD K H (.str x) (.str x)
 | lst {a:A3} {xs:List V} {ds:List Gh}:SqL K H a xs->VDs K H xs ds->VD K H (.ref a) (.list ds)
 | tup {a:A3} {xs:List V} {ds:List Gh}:SqT K H a xs->VDs K H xs ds->VD K H (.ref a) (.tuple ds)
inductive VDs (K:At) (H:Hp):List V->List Gh->Prop
 | nil:VDs K H [] []
 | cons {x:V} {d:Gh} {xs:List V} {ds:List Gh}:VD K H x d->VDs K H xs ds->VDs K H (x :: xs) (d :: ds)
end
theorem VDs.map {K:At} {H:Hp} {α : Type} {f : α -> V} {g : α -> Gh}:∀ {l:List α},(∀ x∈l,VD K H (f x) (g x))->VDs K H (l.map f) (l.map g)
 | [],_ => .nil
 | x :: l,h => .cons (h x Ap) (VDs.map fun y hy=>h y (Ak _ hy))
section
variable {X:Cx} {pins:List (A3×Obj)} {σ : St} {H:Hp} {s:A4}
mutual
theorem VD.reads (I:Inv X pins σ H s):∀ {v:V} {d:Gh} {u:A0},VD X.K H v d->RelV v u->∃ as,Reads s.heap u d as
 | _,_,_,.non,r=>by cases r; exact ⟨_,.none⟩
 | _,_,_,.bl b,r=>by cases r; exact ⟨_,.bool b⟩
 | _,_,_,.int i,r=>by obtain ⟨t,rfl⟩:=r; exact ⟨_,.int i t⟩
 | _,_,_,.str x,r=>by obtain ⟨t,rfl⟩:=r; exact ⟨_,.str x t⟩
 | _,_,_,.lst hq hs,r=>by
  cases r
  obtain ⟨its,rv,⟨o,n,e,c,_,d⟩,_⟩:=I.list hq
  obtain ⟨as,ra⟩:=VDs.reads I hs rv
  exact ⟨_,.list e c d (by simpa using ra)⟩
 | _,_,_,.tup hq hs,r=>by
  cases r
  obtain ⟨its,rv,⟨o,e,c,n,d⟩,_⟩:=I.tuple hq
  obtain ⟨as,ra⟩:=VDs.reads I hs rv
  exact ⟨_,.tuple e c d (by simpa using ra)⟩
theorem VDs.reads (I:Inv X pins σ H s):∀ {vs:List V} {ds:List Gh} {us:List A0},VDs X.K H vs ds->Vals vs us->∃ as,ReadsAll s.heap us ds as
 | _,_,_,.nil,r=>by cases r; exact ⟨_,.nil⟩
 | _,_,_,.cons h hs,r=>by
  cases r with
  | cons r rr =>
   obtain ⟨a1,r1⟩:=VD.reads I h r
   obtain ⟨a2,r2⟩:=VDs.reads I hs rr
   exact ⟨_,.cons r1 r2⟩
end
end
section
variable {X:Cx}
noncomputable def rEqD (K:At) (neg:Bool):R2:=fun x y H Q=>∃ d e,VD K H x d/\VD K H y e/\Du d=true/\Du e=true/\Q (.bl (if neg then !PyData.eqv d e else E3 d e)) H
theorem zh1 (hu:X.A.units + 64 < cLine):OpR X (compareOp .Eq) (rEqD X.K false):=by
 intro pins s σ H x y v u Q I rx ry h
 obtain ⟨d,e,hd,he,s1,s2,q⟩:=h
 obtain ⟨a1,r1⟩:=hd.reads I rx
 obtain ⟨a2,r2⟩:=he.reads I ry
 exact eq_dataH r1 r2 s1 s2 hu ⟨.bl _,H,I,rfl,q⟩
theorem zh0 (hu:X.A.units + 64 < cLine):OpR X (compareOp .NotEq) (rEqD X.K true):=by
 intro pins s σ H x y v u Q I rx ry h
 obtain ⟨d,e,hd,he,s1,s2,q⟩:=h
 obtain ⟨a1,r1⟩:=hd.reads I rx
 obtain ⟨a2,r2⟩:=he.reads I ry
 exact ne_dataH r1 r2 s1 s2 hu ⟨.bl _,H,I,rfl,q⟩
theorem ze4:∀ {xs:List Str} {us:List A0},Q3 us xs->Vals (xs.map V.str) us
 | _,_,.nil => .nil
 | _,_,.cons _ t r => .cons ⟨t,rfl⟩ (ze4 r)
theorem sorted_fin {pins:List (A3×Obj)} {σ : St} {H:Hp} {s:A4} {Q:VK} {vs:List A0} {out:Array A0} {ys:List V} (I:Inv X pins σ H s) (hl:ys.length<=sizeLine) (r:Vals ys out.toList)
  (q:Q (.ref (s.heap.objs.size + 1)) (upd H (s.heap.objs.size + 1) (.lst ys))):EP X pins σ Q (.ref (s.heap.objs.size + 1)) { s with heap:=sortedAll s.heap vs out }:=by
 obtain ⟨e,he⟩:=sortedAll_at s.heap vs out
 exact ⟨.ref (s.heap.objs.size + 1),_,I.laid (t':=s.toks) (fun b o=>sortedAll_old) (M4 _) (show ObjOk X.prog X.w _ _ _ (.lst ys) from ⟨hl,out.toList,e,r,by simpa using he⟩),rfl,q⟩
theorem zb9:CallR X (.builtin "sorted") (fun xs H Q=>∃ (a:A3) (ns:List Int),xs = [V.ref a]/\SqL X.K H a (ns.map V.int)/\ns.length < 64/\∀ p (ns':List Int),H p=none->ns'.Perm ns->ns'.Pairwise (· <= ·)->Q (.ref p) (upd H p (.lst (ns'.map V.int)))):=by
 intro pins s σ H xs us Q I r h
 obtain ⟨a,ns,rfl,hq,hb,q⟩:=h
 obtain ⟨u,rfl,ru⟩:=zci r
 cases ru
 obtain ⟨its,rv,p,hz⟩:=I.list hq
 have hl:ns.length=its.length:=by have:=rv.length; rwa [A1] at this
 refine sorted_ints p.isList (zeS rv) (by omega) fun out ns' a1 a2 a3 => ?_
 exact sorted_fin I (by rw [A1,a2.length_eq]; exact Bv (F5 hb) (by decide)) (zcE a1) (q _ ns' (I.hok.fresh (M4 _)) a2 a3)
end
theorem zd9:∀ {l:List A0} {ss:List Str},l.length=ss.length->(∀ (j:Nat) (v:A0) (x:Str),l[j]?=some v->ss[j]?=some x->∃ t,v = .str x t)->Q3 l ss
 | [],[],_,_ => .nil
 | v :: l,x :: ss,hl,h=>by
  obtain ⟨t,rfl⟩:=h 0 v x rfl rfl
  exact .cons _ _ (zd9 (by simpa using hl) fun j u y e1 e2=>h (j + 1) u y (by simpa using e1) (by simpa using e2))
theorem KV.get {κ : Type}:∀ {a:List (κ × V)} {b:List (κ × A0)} {i:Nat} {k : κ} {x:A0},KV a b->b[i]?=some (k,x)->∃ v,a[i]?=some (k,v)/\RelV v x
 | [],_,_,_,_,h,e=>by cases h; simp at e
 | (k',v') :: a,_,i,k,x,h,e=>by
  cases h with
  | cons r rr =>
   cases i with
   | zero =>
    simp at e
    obtain ⟨r1,r2⟩:=r
    simp only at r1
    rw [e] at r1 r2
    exact ⟨v',by rw [r1]; rfl,r2⟩
   | succ i=>exact KV.get (i:=i) rr (by simpa using e)
section
variable {X:Cx}
theorem call_sortedD (hc:X.calm=true):CallR X (.builtin "sorted") (fun xs H Q=>∃ (a:A3) (kvs:List (Key×V)) (ss:List Str),xs = [V.ref a]/\Rd H a (.dK kvs)/\kvs.map (·.1)=ss.map D8/\ss.length < 64 /\
  ∀ p (ss':List Str),H p=none->ss'.Perm ss->sortedS ss'=true->Q (.ref p) (upd H p (.lst (ss'.map V.str)))):=by
 intro pins s σ H xs us Q I r h
 obtain ⟨a,kvs,ss,rfl,hq,hk,h64,q⟩:=h
 obtain ⟨u,rfl,ru⟩:=zci r
 cases ru
 obtain ⟨hz,lo,vs,kv,hD⟩:=(show ObjOk X.prog X.w H s.heap a (.dK kvs) from hq.ok I.hok)
 obtain ⟨ep,hat⟩:=hD.dictAt
 have hlen:vs.length=ss.length:=by
  have e1:=kv.length
  have e2:=congrArg Fe hk
  rw [A1,A1] at e2
  omega
 have big64:(64:Nat)<=sizeLine:=by decide
 refine Kb kind_sorted Pz Q0 (Q2 _) ?_
 unfold Ip.«sorted»
 refine A6 (m:=checkCount "sorted" 1 1 _) (Aq ?_)
 refine A6 (L1 (A:=X.A.in1) (J9 (knd:=mixKind X.prog X.w) (kvs:=vs) (ep:=ep) lo) (I.ok.hd hc) hat (by omega) fun h' tk acc hkeep hacc => ?_)
 have hl:acc.toList.length=vs.length:=by rw [B7]; exact hacc.1
 have hS:Q3 acc.toList ss:=by
  refine zd9 (by omega) fun j v x e1 e2 => ?_
  obtain ⟨k,y,e3,hk2⟩:=hacc.2 j v (by rw [<- Db]; exact e1)
  obtain ⟨v',e4,_⟩:=kv.get e3
  have e5:(kvs.map (·.1))[j]?=some k:=by rw [Ad,e4]; rfl
  rw [hk,Ad,e2] at e5
  have e6:D8 x=k:=C4 e5
  subst e6
  rcases zaC (show keyIs (D8 x) v=true from hk2) with ⟨i,t,e,_⟩ | ⟨y,t,e,e7⟩
  ·cases e
  ·cases e; exact ⟨t,e7⟩
 refine A6 (Lx ?_ (by rw [hl]; omega))
 have hoL:(h'.push (seqObj "list" acc.toList.toArray 0)).get? h'.objs.size=some (seqObj "list" acc.toList.toArray 0):=Bh _ rfl
 refine A6 (Ex (G6 P8 ⟨_,hoL,rfl⟩ Og (list_sort_treeK strKind_oneLt hoL hS.keysOf (fun v₁ v₂ rest e=>keyKind_strs (by rw [<- e]; exact hS)) (by omega) fun st' hp hs=>⟨_,rfl,?_⟩) (Pa _)))
 obtain ⟨ss',a1,a2,a3⟩:=sorted_out_str hS hp hs
 refine Aq ⟨_,rfl,?_⟩
 obtain ⟨e,he⟩:=Pe (out:=(arrOf st').map (·.2)) hoL
 have I1:Inv X pins σ H { s with heap:=h',toks:=tk }:=I.kept hkeep
 have I2:=Inv.laid (o := .lst (ss'.map V.str)) (a:=h'.objs.size) (h':=sortedHeap (h'.push (seqObj "list" acc.toList.toArray 0)) h'.objs.size acc.toList ((arrOf st').map (·.2))) (t':=tk) I1 (fun b o hb=>by
  have lt:=Ar hb
  rw [P7 (Bs lt) (by rw [Fl]; exact Gs lt)]
  exact Ag _ hb) (A9 _) (show ObjOk X.prog X.w _ _ _ (.lst (ss'.map V.str)) from ⟨by rw [A1,a2.length_eq]; omega,_,e,ze4 a1,by rw [Ln]; exact he⟩)
 exact ⟨.ref h'.objs.size,_,I2,rfl,q _ ss' (I1.hok.fresh (A9 _)) a2 a3⟩
end
section
variable {X:Cx} {pins:List (A3×Obj)} {σ : St} {H:Hp} {s:A4} {a:A3} {kvs:List (Key×V)}
end
theorem kV_rel {k:Key} {v:A0} (h:keyIs k v=true):RelV (kV k) v:=by
 rcases zaC h with ⟨i,t,rfl,rfl⟩ | ⟨x,t,rfl,rfl⟩
 ·exact ⟨t,rfl⟩
 ·exact ⟨t,rfl⟩
section
variable {X:Cx} {tg:Cc}
end
section
variable {X:Cx} {f:Str} {k k':Nat} {ps:List Str} {spf:A3->A0->Sp} {p pos:Pos} {e:Cc} {es:List Cc} {t:TA} {x:A3} {c:A0} {ox:Obj} {pn:List (A3×Obj)} {vs:Array A0}
end
structure Maker (P:Av) (w:Bu) (K:At) (mg:Str->Option A0) (base:Ce) (x:Str) (C:A3) (CX:CXT) (k:Nat) (ps:List Str) (sp:Sp):Prop where
 ex:∃ f fd,Mk K C f/\FnOk P w K mg base CX k f fd ps sp/\mg x=some (.ref C)/\Binds K fd ps []
theorem pe_mk0 {X:Cx} {x:Str} {C:A3} {CX:CXT} {k:Nat} {ps:List Str} {sp:Sp} {E:XK} {p pos:Pos} (M:Maker X.prog X.w X.K X.mg X.base x C CX k ps sp) (hr:Room (k + 1) X.A) (hx:Passes CX X E) (hg:Gl X x) (hdb:(x == ("__debug__" : Str))=false:=by decide) :
  PE X (.Call (.Name x p) [] [] pos) (tMake C sp [] E tNil):=by
 obtain ⟨f,fd,M,F,m,b⟩:=M.ex
 exact pe_make0 M F hr hg m b .nil hx hdb
section
variable {Y:Cx}
theorem op_notIn_seq' (K:At) (h:Y.K=K):OpR Y (compareOp .NotIn) (rIn K true):=by subst h; exact zb4
theorem zc1 (K:At) (h:Y.K=K):IxR Y (rIxL K):=by subst h; exact zaq
theorem zdW (K:At) (h:Y.K=K):IxR Y (rIxT K):=by subst h; exact zbd
end
noncomputable def isStar:Cc->Bool
 | .Starred _ _=>true
 | _=>false
theorem star_cons {e:Cc} (es:List Cc) (env:Env) (h:isStar e=false):starEach (e :: es) env=(false,eval e env) :: starEach es env:=by
 cases e <;> first | rfl | cases h
structure QA (X:Cx) (es:List Cc) (t:TA):Prop where h:PA X es t
structure QE (X:Cx) (e:Cc) (t:TE):Prop where h:PE X e t
section
variable {X:Cx} {e:Cc} {es:List Cc} {te:TE} {t:TA} {pos:Pos}
theorem qe (h:PE X e te):QE X e te:=⟨h⟩
theorem zaQ:QA X [] tNil:=⟨zad⟩
theorem zag (ha:QE X e te) (hr:QA X es t) (h:isStar e=false:=by rfl):QA X (e :: es) (tCons te t):=⟨zaa ha.h hr.h (star_cons es X.env h)⟩
theorem zbf {k} (h:QA X es t):QE X (.Tuple es k pos) (tTup t):=⟨zbp h.h⟩
theorem zdl (h:QA X es t):QE X (.List es pos) (tLst t):=⟨zaB h.h⟩
end
structure QS (X:Cx) (st:Cd) (t:TS):Prop where h:PS X st t
structure QSs (X:Cx) (st:List Cd) (t:TS):Prop where h:PSs X st t
section
variable {X:Cx} {st:Cd} {rest:List Cd} {t u:TS} {a b e:Cc} {ta tb te:TE} {pos:Pos}
theorem qs (h:PS X st t):QS X st t:=⟨h⟩
theorem zhc (h:QS X st t):QSs X [st] t:=⟨zae h.h⟩
theorem qe_ix {r:R2} (hr:IxR X r) (ha:QE X a ta) (hb:QE X b tb) (hs:PlainIx b):QE X (.Subscript a b pos) (tOp r ta tb):=⟨zat hr ha.h hb.h hs⟩
theorem zij {op:Operator} {r:R2} (ho:OpR X (binaryOp op) r) (ha:QE X a ta) (hb:QE X b tb):QE X (.BinOp a op b pos) (tOp r ta tb):=⟨zaw ho ha.h hb.h⟩
theorem zbj (h:QS X st t) (hr:QSs X rest u):QSs X (st :: rest) (tSeq t u):=⟨zab h.h hr.h⟩
theorem qss_cut (h:QS X st t) (hr:QSs X rest u):QSs X (st :: rest) (tCut t u):=⟨zbi h.h hr.h⟩
theorem zhS (h:QE X e te):QS X (.Return (some e) pos) (tRet te):=⟨zai h.h⟩
theorem zcS {i:Nat} {x:Str} {pos':Pos} (hN:X.N.Nodup) (hi:X.N[i]?=some x) (hx:Loc X.env.scope x) (he:QE X e te) (hs:swapsWith e (some (.Name x pos')) pos.line X.env=pure false:=by rfl) (hf:X.fn x=true\/X.env.scope.names.lookup x=some .local:=by first | exact .inl rfl | exact .inr rfl | assumption) :
  QS X (.Assign [.Name x pos'] e pos) (tAsg te (gName i)):=⟨zah hN hi hx he.h hs hf⟩
end
theorem DefAt.calleeQ {P:Av} {w:Bu} {K:At} {mg:Str->Option A0} {base:Ce} {x:Str} {st:Cd} {N ps:List Str} {k:Nat} {sp:Sp} (D:DefAt K mg x st) (S:FnScope N ps (defScope st))
  (hb:∀ (kV doc pm:A0) (an:Option A3) (cdv ct:A0) (us:List A0),us.length=ps.length->bindArgs (D4 x x (defArgs st) (defBody st) (defScope st) .none kV doc pm an cdv ct) ⟨us,[]⟩=pure (ps.zip us))
  (len:∀ vs H Q E,sp vs H Q E->vs.length=ps.length)
  (hbody:∀ (f:A3) (cdv:A0) (A:Bd) (outer:List Env) (s:A4) (H:Hp) (vs:List V) (Q:VK) (E:XK),Room k (A.deeper (envOfC x (defScope st) s.heap.objs.size f cdv))->sp vs H Q E ->
   ∃ t,QSs (cxOf CX0 P w K mg base N x (defScope st) f cdv A outer s H E).nox (defBody st) t/\t { nx:=fun _ H'=>Q .non H',rt:=Q } (start N vs) H):Callee P w K mg base x (k + 1) ps sp :=
 D.callee S hb len fun f cdv A outer s H vs Q E hr h=>let ⟨t,q,r⟩:=hbody f cdv A outer s H vs Q E hr h; ⟨t,q.h,r⟩
theorem pe_cls {X:Cx} {x:Str} {C:A3} {pos:Pos} (hg:Gl X x) (hm:X.mg x=some (.ref C)) (hd:(x == ("__debug__" : Str))=false:=by decide):PE X (.Name x pos) (tC (.ref C)):=zhg (v := .ref C) hg hm rfl hd
section
variable {K:At} {C D CE:A3} {oc:A0} {od:Option A3} {cd:ClassData} {sl:Array (Option A0)} {b:Bool}
end
theorem zc0 {H:Hp} {p l:A3} {ys:List V} {o:HO} (h:H l=some (.lst ys)) (n:H p=none):upd H p o l=some (.lst ys):=by rw [zaf (zao h n)]; exact h
theorem zig {ns:List Int} {k:Int} (h0:0<=k) (h:k < (ns.length:Int)):atI (ns.map V.int) k=some (V.int (ns.getD k.toNat 0)):=by
 have hk:k.toNat < ns.length:=by omega
 have e:((k.toNat:Nat):Int)=k:=by omega
 rw [<- e]
 refine zax ?_
 rw [Ad,Ac,Da,A8 hk]
 rfl
theorem getD_big {ns:List Int} {k:Int} (h:¬ k < (ns.length:Int)):ns.getD k.toNat 0=0:=by
 rw [Ac,Dt (by omega)]
 rfl
theorem zc6 {x:Str}:x.cps.toList.length=x.length:=by simp [Pb]
theorem zaO:1000<=sizeLine:=by decide
theorem big {n:Nat} (h:n<=1000):n<=sizeLine:=Bv h zaO
theorem bigr {n:Nat} (h:Nat.ble n 1000=true):n<=sizeLine:=big (Ls h)
theorem p2:(0:Int) < 2:=by decide
theorem p6:(0:Int) < 6:=by decide
theorem len_app (x y:Str):(x ++ y).length=x.length + y.length:=by
 have:=congrArg Fe (Ke x y)
 rw [Ab,zc6,zc6,zc6] at this
 exact this
theorem zeO (c:Nat):(⟨#[c]⟩:Str).length=1:=rfl
theorem zhC {a b:Int}:decide (V.int a=V.int b)=decide (a=b):=by
 rw [decide_eq_decide]
 exact ⟨fun h=>by injection h,fun h=>by rw [h]⟩
theorem zbv {i n:Nat} {lo:Int} {x:V} (h:((Af n).map fun i=>V.int (lo + ((i:Nat):Int)))[i]?=some x):i < n/\x=V.int (lo + ((i:Nat):Int)):=by
 have hi:i < n:=by
  have:=(Ah.mp h).1
  simpa using this
 rw [Ad,Ch hi] at h
 cases h
 exact ⟨hi,rfl⟩
noncomputable def small (c:Nat):Bool:=decide (97<=c) && decide (c<=122)
noncomputable def isName (x:Str):Bool:=(decide (1<=x.length) && decide (x.length<=6)) && x.cps.toList.all small
noncomputable def abc:Str:=A2 "abcdefghijklmnopqrstuvwxyz"
theorem ze0:abc.cps.toList=(Af 26).map (97 + ·):=by decide +kernel
theorem zf1:abc.length=26:=by decide +kernel
theorem abc_at {k:Int} (h0:0<=k) (h:k < 26):∃ c,atI abc.cps.toList k=some c/\small c=true:=by
 have e:((k.toNat:Nat):Int)=k:=by omega
 refine ⟨97 + k.toNat,?_,?_⟩
 ·rw [<- e]
  refine zax ?_
  rw [ze0,Ad,Ch (by omega),Da]
  rfl
 ·unfold small
  rw [decide_eq_true (by omega:97<=97 + k.toNat),decide_eq_true (by omega:97 + k.toNat<=122)]
  rfl
theorem zhl {x:Str} (h1:1<=x.length) (h2:x.length<=6) (h3:x.cps.toList.all small=true):isName x=true:=by
 unfold isName
 rw [decide_eq_true h1,decide_eq_true h2,h3]
 rfl
theorem name_one {c:Nat} (h:small c=true):isName ⟨#[c]⟩=true:=zhl (by rw [zeO]; decide) (by rw [zeO]; decide) (by simp [h])
theorem zgx {x:Str} (h:isName x=true):1<=x.length/\x.length<=6:=by
 unfold isName at h
 simp only [Bp,decide_eq_true_eq] at h
 exact h.1
theorem app_list (x y:Str):(x ++ y).cps.toList=x.cps.toList ++ y.cps.toList:=Ke x y
theorem zds {α : Type} [DecidableEq α]:∀ {l m:List α},l.Nodup->(∀ x∈l,x∈m)->l.length<=m.length
 | [],_,_,_=>By _
 | x :: l,m,hn,h=>by
  have hx:=h x Ap
  have hn:=Di.mp hn
  have ih:=zds (m:=m.erase x) hn.2 fun y hy=>(List.mem_erase_of_ne (fun z:y=x=>hn.1 (by rw [<- z]; exact hy))).mpr (h y (Ak _ hy))
  have e:=Kr hx
  have:=L9 hx
  rw [As]
  omega
theorem zht (x:Str) (us:List Str):inV (V.str x) (us.map V.str)=decide (x∈us):=by
 unfold inV
 rw [Jc,Bi,Bj,decide_eq_true_eq]
 constructor
 ·rintro ⟨y,hy,e⟩
  have e':(y == x)=true:=e
  rw [<- eq_of_beq e']; exact hy
 ·intro h
  exact ⟨x,h,beq_self_eq_true x⟩
theorem zfu (us:List Str):(us.map V.str).all flatV=true:=by
 rw [Je,Cs]
 intro x _
 rfl
theorem spare_some (us:List Str) (h:us.length<=25):∃ c∈abc.cps.toList,(⟨#[c]⟩:Str) ∉ us:=by
 apply Eu
 intro hn
 have hall:∀ y∈abc.cps.toList.map (fun c=>(⟨#[c]⟩:Str)),y∈us:=fun y hy=>by
  obtain ⟨c,hc,rfl⟩:=A7.mp hy
  exact Eu fun z=>hn ⟨c,hc,z⟩
 have nd:(abc.cps.toList.map (fun c=>(⟨#[c]⟩:Str))).Nodup:=by
  rw [ze0,B5]
  decide +kernel
 have:=zds nd hall
 rw [A1,zc6,zf1] at this
 omega
theorem abc_small {c:Nat} (h:c∈abc.cps.toList):small c=true:=by
 rw [ze0] at h
 obtain ⟨i,hi,rfl⟩:=A7.mp h
 have:=Ax.mp hi
 unfold small
 rw [decide_eq_true (by omega:97<=97 + i),decide_eq_true (by omega:97 + i<=122)]
 rfl
theorem zd1:∀ (ns acc:List Int),(ns.foldl Gy acc).length<=acc.length + ns.length/\(acc.Nodup->((ns.foldl Gy acc).length=acc.length + ns.length ↔ (acc ++ ns).Nodup))
 | [],acc=>⟨by simp,fun h=>by simp [h]⟩
 | n :: ns,acc=>by
  rw [Hq]
  by_cases hm:n∈acc
  ·have e:Gy acc n=acc:=by
    unfold Gy
    rw [if_pos (Bj.mpr ⟨n,hm,by simp⟩)]
   rw [e]
   have ih:=zd1 ns acc
   refine ⟨by have:=ih.1; rw [As]; omega,fun _=>⟨fun z => ?_,fun z => ?_⟩⟩
   ·have:=ih.1
    rw [As] at z
    omega
   ·exact absurd rfl ((Bz.mp z).2.2 n hm n Ap)
  ·have e:Gy acc n=acc ++ [n]:=by
    unfold Gy
    rw [if_neg]
    intro z
    obtain ⟨x,hx,ex⟩:=Bj.mp z
    have:x=n:=by simpa using ex
    subst this
    exact hm hx
   rw [e]
   have ih:=zd1 ns (acc ++ [n])
   rw [Ab,Bf,Aw] at ih
   refine ⟨by have:=ih.1; rw [As]; omega,fun h => ?_⟩
   have hn:(acc ++ [n]).Nodup:=by
    refine Bz.mpr ⟨h,by simp,fun a ha b hb => ?_⟩
    have:b=n:=by simpa using hb
    subst this
    intro z
    subst z
    exact hm ha
   have:=ih.2 hn
   rw [As]
   rw [show acc.length + (ns.length + 1)=acc.length + 1 + ns.length by omega]
   exact this
theorem many_eq (ns:List Int):many ns=(ns.foldl Gy []).length:=by
 unfold many firstMet
 congr 2
 apply Jb
 intro i
 rw [Ad]
 by_cases h:i < ns.length
 ·rw [Ch h]
  simp [Ac,h]
 ·rw [Dt (by simpa using h),Dt (by simpa using h)]
  rfl
theorem many_nodup (ns:List Int):many ns=ns.length ↔ ns.Nodup:=by
 rw [many_eq]
 have:=(zd1 ns []).2 D3
 simpa using this
noncomputable def inR (t:Int):Bool:=decide (0<=t) && decide (t<=7)
noncomputable def areTeeth (ts:List Int):Bool:=decide (0∈ts) && (decide (many ts=ts.length) && ts.all inR)
theorem in_zero (ts:List Int):inV (V.int 0) (ts.map V.int)=decide (0∈ts):=by
 unfold inV
 rw [Jc,Bi,Bj,decide_eq_true_eq]
 constructor
 ·rintro ⟨x,hx,e⟩
  have:x=0:=by
   have e':(x == 0)=true:=e
   exact eq_of_beq e'
  rw [<- this]; exact hx
 ·intro h
  exact ⟨0,h,rfl⟩
theorem zhN (ts:List Int):(ts.map V.int).all flatV=true:=by
 rw [Je,Cs]
 intro x _
 rfl
noncomputable def KindsL (G:A3->Prop) (H:Hp):List V->List (Str×List Int)->Prop
 | [],[]=>True
 | v :: vs,k :: ks=>(∃ q t,v = .ref q/\H q=some (.lst [.str k.1,.ref t])/\H t=some (.lst (k.2.map V.int))/\G q/\G t)/\KindsL G H vs ks
 | _,_=>False
theorem KindsL.mono {G G':A3->Prop} {H H':Hp} (s:∀ a o,G a->H a=some o->H' a=some o) (g:∀ a,G a->G' a):∀ {vs:List V} {ks:List (Str×List Int)},KindsL G H vs ks->KindsL G' H' vs ks
 | [],[],_=>trivial
 | _ :: _,_ :: _,⟨⟨q,t,e,h1,h2,g1,g2⟩,r⟩=>⟨⟨q,t,e,s _ _ g1 h1,s _ _ g2 h2,g _ g1,g _ g2⟩,KindsL.mono s g r⟩
 | [],_ :: _,h=>h.elim
 | _ :: _,[],h=>h.elim
theorem KindsL.same {G:A3->Prop} {H H':Hp} {vs:List V} {ks:List (Str×List Int)} (s:Same H H') (h:KindsL G H vs ks):KindsL G H' vs ks:=h.mono (fun a o _ e=>s a o e) fun _ g=>g
theorem KindsL.upd {G:A3->Prop} {H:Hp} {p:A3} {o:HO} {vs:List V} {ks:List (Str×List Int)} (h:KindsL G H vs ks) (n:¬ G p):KindsL G (upd H p o) vs ks:=h.mono (fun a u g e=>by rw [zaf (fun z:a=p=>n (by rw [<- z]; exact g))]; exact e) fun _ g=>g
theorem KindsL.snoc {G:A3->Prop} {H:Hp} {q t:A3} {k:Str×List Int} (h1:H q=some (.lst [.str k.1,.ref t])) (h2:H t=some (.lst (k.2.map V.int))) (g1:G q) (g2:G t):∀ {vs:List V} {ks:List (Str×List Int)},KindsL G H vs ks->KindsL G H (vs ++ [.ref q]) (ks ++ [k])
 | [],[],_=>⟨⟨q,t,rfl,h1,h2,g1,g2⟩,trivial⟩
 | _ :: _,_ :: _,⟨a,b⟩=>⟨a,KindsL.snoc h1 h2 g1 g2 b⟩
 | [],_ :: _,x=>x.elim
 | _ :: _,[],x=>x.elim
theorem KindsL.length {G:A3->Prop} {H:Hp}:∀ {vs:List V} {ks:List (Str×List Int)},KindsL G H vs ks->vs.length=ks.length
 | [],[],_=>rfl
 | _ :: _,_ :: _,⟨_,b⟩=>by rw [As,As,KindsL.length b]
 | [],_ :: _,x=>x.elim
 | _ :: _,[],x=>x.elim
theorem KindsL.get {G:A3->Prop} {H:Hp}:∀ {vs:List V} {ks:List (Str×List Int)} {i:Nat} {v:V},KindsL G H vs ks->vs[i]?=some v->∃ k q t,ks[i]?=some k/\v = .ref q/\H q=some (.lst [.str k.1,.ref t])/\H t=some (.lst (k.2.map V.int))
 | [],[],_,_,_,e=>by simp at e
 | _ :: _,k :: _,0,_,⟨⟨q,t,e,h1,h2,_⟩,_⟩,z=>by
  simp at z
  subst z
  exact ⟨k,q,t,rfl,e,h1,h2⟩
 | _ :: _,_ :: _,i + 1,_,⟨_,b⟩,z=>by
  obtain ⟨k,q,t,h⟩:=KindsL.get (i:=i) b (by simpa using z)
  exact ⟨k,q,t,by simpa using h⟩
 | [],_ :: _,_,_,x,_=>x.elim
 | _ :: _,[],_,_,x,_=>x.elim
noncomputable def GT (ts:List Int):Prop:=∃ f:Nat->Bool,ts=((Af 8).filter f).map (fun i=>((i:Nat):Int))/\f 0=true
structure Drawn (G:A3->Prop) (H:Hp) (vs:List V) (ks:List (Str×List Int)):Prop where
 rows:KindsL G H vs ks
 nd:(ks.map (·.1)).Nodup
 good:∀ k∈ks,isName k.1=true/\GT k.2
theorem Drawn.same {G:A3->Prop} {H H':Hp} {vs:List V} {ks:List (Str×List Int)} (d:Drawn G H vs ks) (s:Same H H'):Drawn G H' vs ks:=⟨d.rows.same s,d.nd,d.good⟩
theorem Drawn.upd {G:A3->Prop} {H:Hp} {p:A3} {o:HO} {vs:List V} {ks:List (Str×List Int)} (d:Drawn G H vs ks) (n:¬ G p):Drawn G (upd H p o) vs ks:=⟨d.rows.upd n,d.nd,d.good⟩
theorem Drawn.any {G:A3->Prop} {H:Hp} {vs:List V} {ks:List (Str×List Int)} (d:Drawn G H vs ks):Drawn (fun _=>True) H vs ks:=⟨d.rows.mono (fun _ _ _ e=>e) fun _ _=>trivial,d.nd,d.good⟩
theorem Drawn.snoc {G:A3->Prop} {H:Hp} {vs:List V} {ks:List (Str×List Int)} {q t:A3} {k:Str×List Int} (d:Drawn G H vs ks) (h1:H q=some (.lst [.str k.1,.ref t])) (h2:H t=some (.lst (k.2.map V.int))) (g1:G q) (g2:G t) (hn:k.1 ∉ ks.map (·.1)) (hk:isName k.1=true/\GT k.2):Drawn G H (vs ++ [.ref q]) (ks ++ [k]):=by
 refine ⟨KindsL.snoc h1 h2 g1 g2 d.rows,?_,fun x hx => ?_⟩
 ·rw [Ao]
  refine Bz.mpr ⟨d.nd,by simp,fun a ha b hb => ?_⟩
  have e:b=k.1:=by simpa using hb
  rw [e]
  exact fun z=>hn (z ▸ ha)
 ·rcases An.mp hx with z | z
  ·exact d.good x z
  ·rw [A5.mp z]; exact hk
noncomputable abbrev Combs:=List (Str×List Int)
noncomputable def cGet (cs:Combs) (x:Str):Option (List Int):=(cs.find? fun c=>decide (c.1=x)).map (·.2)
noncomputable def cPut (cs:Combs) (x:Str) (ts:List Int):Combs:=if (cs.any fun c=>decide (c.1=x))=true then cs.map (fun c=>if c.1=x then (c.1,ts) else c) else cs ++ [(x,ts)]
noncomputable def canon (ts:List Int):List Int:=((Af 8).filter fun i=>decide (((i:Nat):Int)∈ts)).map fun i=>((i:Nat):Int)
theorem zh4 (f:Nat->Bool):(((Af 8).filter f).map fun i=>((i:Nat):Int)).Pairwise (· < ·):=by
 rw [Bb]
 refine Ba Ci ?_
 refine Ek ?_ (D5 (n:=8))
 intro a b h
 omega
theorem zeY (ts:List Int):(canon ts).Pairwise (· < ·):=zh4 _
theorem mem_canon {ts:List Int} {t:Int}:t∈canon ts ↔ t∈ts/\0<=t/\t<=7:=by
 unfold canon
 simp only [A7,Az,Ax,decide_eq_true_eq]
 constructor
 ·rintro ⟨i,⟨hi,hm⟩,rfl⟩
  exact ⟨hm,by omega,by omega⟩
 ·rintro ⟨hm,h0,h7⟩
  refine ⟨t.toNat,⟨by omega,?_⟩,by omega⟩
  rwa [show ((t.toNat:Nat):Int)=t by omega]
theorem zaS {l:List Int} (h:l.Pairwise (· < ·)):l.Nodup:=h.imp fun h=>by omega
theorem zcA (ts:List Int):(canon ts).Nodup:=zaS (zeY ts)
theorem zbu {a b:List Int} (hp:a.Perm b) (ha:a.Pairwise (· <= ·)) (hb:b.Pairwise (· <= ·)):a=b :=
 hp.eq_of_pairwise (fun x y _ _ h1 h2=>Int.le_antisymm h1 h2) ha hb
theorem zdv {ns ts:List Int} (hp:ns.Perm ts) (hs:ns.Pairwise (· <= ·)) (hn:ts.Nodup) (hr:∀ t∈ts,0<=t/\t<=7):ns=canon ts:=by
 refine zbu (hp.trans ?_) hs ((zeY ts).imp fun h=>by omega)
 rw [D1 hn (zcA ts)]
 intro t
 rw [mem_canon]
 exact ⟨fun h=>⟨h,hr t h⟩,fun h=>h.1⟩
theorem zeU {ts:List Int} (h:GT ts):ts.Pairwise (· < ·):=by
 obtain ⟨f,rfl,_⟩:=h
 exact zh4 f
theorem zb7 {ts:List Int} (h:GT ts):∀ t∈ts,0<=t/\t<=7:=by
 obtain ⟨f,rfl,_⟩:=h
 intro t ht
 obtain ⟨i,hi,rfl⟩:=A7.mp ht
 have:=Ax.mp (Az.mp hi).1
 omega
theorem zdd {ts:List Int} (h:GT ts):(0:Int)∈ts:=by
 obtain ⟨f,rfl,h0⟩:=h
 exact A7.mpr ⟨0,Az.mpr ⟨by decide,h0⟩,rfl⟩
theorem zgI {ts:List Int} (h0:(0:Int)∈ts):GT (canon ts):=⟨_,rfl,decide_eq_true h0⟩
theorem zis {ts:List Int} (h:GT ts):canon ts=ts:=by
 symm
 refine zdv (Hd _) ((zeU h).imp fun h=>by omega) (zaS (zeU h)) (zb7 h)
theorem zgH {ts:List Int} (h:GT ts):ts.length<=8:=by
 obtain ⟨f,rfl,_⟩:=h
 rw [A1]
 exact Bv (Df _ _) (by simp)
theorem canon_len (ts:List Int):(canon ts).length<=8:=by
 unfold canon
 rw [A1]
 exact Bv (Df _ _) (by simp)
theorem inR_iff {t:Int}:inR t=true ↔ 0<=t/\t<=7:=by unfold inR; simp
theorem teeth_iff {ts:List Int}:areTeeth ts=true ↔ (0:Int)∈ts/\ts.Nodup/\∀ t∈ts,0<=t/\t<=7:=by
 unfold areTeeth
 simp only [Bp,decide_eq_true_eq,many_nodup,Cs,inR_iff]
theorem zdy {ts:List Int} (hn:ts.Nodup) (hr:∀ t∈ts,0<=t/\t<=7):ts.length<=8:=by
 have:ts.length<=(canon ts).length:=zds hn fun x hx=>mem_canon.mpr ⟨hx,hr x hx⟩
 have:=canon_len ts
 omega
theorem zgG {ts:List Int} (h:GT ts):areTeeth ts=true:=teeth_iff.mpr ⟨zdd h,zaS (zeU h),zb7 h⟩
structure Good (cs:Combs):Prop where
 len:cs.length<=8
 nd:(cs.map (·.1)).Nodup
 ok:∀ c∈cs,isName c.1=true/\GT c.2
theorem good_nil:Good []:=⟨by decide,D3,by simp⟩
theorem zeV {cs:Combs} {x:Str} {ts:List Int} (h:cGet cs x=some ts):(x,ts)∈cs:=by
 unfold cGet at h
 obtain ⟨c,hc,rfl⟩:=Kq.mp h
 have h1:=Ea hc
 have h2:c.1=x:=by simpa using Hr hc
 rw [<- h2]
 exact h1
theorem get_none {cs:Combs} {x:Str}:cGet cs x=none ↔ x ∉ cs.map (·.1):=by
 unfold cGet
 rw [Option.map_eq_none_iff,Ge]
 simp only [decide_eq_true_eq,A7,not_exists,not_and]
theorem zf0 {cs:Combs} {x:Str}:(cs.any fun c=>decide (c.1=x))=(cGet cs x).isSome:=by
 rw [Bi,Bj,Option.isSome_iff_ne_none,ne_eq,get_none,Q8,A7]
 simp
theorem zdu {c:Str×List Int} {cs:Combs} {x:Str}:cGet (c :: cs) x=if c.1=x then some c.2 else cGet cs x:=by
 unfold cGet
 rw [Ec]
 by_cases h:c.1=x
 ·simp [h]
 ·simp [h]
theorem zfM {cs:Combs} {x:Str} {ts:List Int} (h:cGet cs x=none):cPut cs x ts=cs ++ [(x,ts)]:=by
 unfold cPut
 rw [zf0,h]
 rfl
theorem zfL {cs:Combs} {x:Str} {ts us:List Int} (h:cGet cs x=some us):cPut cs x ts=cs.map (fun c=>if c.1=x then (c.1,ts) else c):=by
 unfold cPut
 rw [zf0,h]
 rfl
theorem put_keys {cs:Combs} {x:Str} {ts us:List Int} (h:cGet cs x=some us):(cPut cs x ts).map (·.1)=cs.map (·.1):=by
 rw [zfL h,B5]
 apply C7
 intro c _
 show (if c.1=x then (c.1,ts) else c).1=c.1
 split <;> rfl
theorem Good.put {cs:Combs} {x:Str} {ts:List Int} (g:Good cs) (hx:isName x=true) (ht:GT ts) (hl:cs.length < 8\/(cGet cs x).isSome=true):Good (cPut cs x ts):=by
 cases e:cGet cs x with
 | none =>
  rw [zfM e]
  refine ⟨?_,?_,?_⟩
  ·rw [e] at hl
   rw [Ab,Bf]
   rcases hl with h | h
   ·omega
   ·cases h
  ·rw [Ao]
   exact zhk g.nd (get_none.mp e)
  ·intro c hc
   rcases An.mp hc with h | h
   ·exact g.ok c h
   ·rw [A5.mp h]; exact ⟨hx,ht⟩
 | some us =>
  refine ⟨?_,by rw [put_keys e]; exact g.nd,?_⟩
  ·rw [zfL e,A1]; exact g.len
  ·rw [zfL e]
   intro c hc
   obtain ⟨c0,h0,rfl⟩:=A7.mp hc
   split
   ·exact ⟨(g.ok c0 h0).1,ht⟩
   ·exact g.ok c0 h0
noncomputable def KvR (G:A3->Prop) (H:Hp):List (Key×V)->Combs->Prop:=Cw fun kv c=>∃ t,kv=(D8 c.1,V.ref t)/\H t=some (.lst (c.2.map V.int))/\G t
noncomputable def DictR (G:A3->Prop) (H:Hp) (d:A3) (cs:Combs):Prop:=G d/\∃ kvs,H d=some (.dK kvs)/\KvR G H kvs cs
theorem KvR.mono {G G':A3->Prop} {H H':Hp} {kvs:List (Key×V)} {cs:Combs} (s:∀ a o,G a->H a=some o->H' a=some o) (g:∀ a,G a->G' a) (h:KvR G H kvs cs):KvR G' H' kvs cs :=
 Jk (fun _ _ ⟨t,e,h1,g1⟩=>⟨t,e,s _ _ g1 h1,g _ g1⟩) h
theorem DictR.mono {G G':A3->Prop} {H H':Hp} {d:A3} {cs:Combs} (s:∀ a o,G a->H a=some o->H' a=some o) (g:∀ a,G a->G' a) (h:DictR G H d cs):DictR G' H' d cs :=
 let ⟨g0,kvs,e,r⟩:=h
 ⟨g _ g0,kvs,s _ _ g0 e,r.mono s g⟩
theorem KvR.keys {G:A3->Prop} {H:Hp}:∀ {kvs:List (Key×V)} {cs:Combs},KvR G H kvs cs->kvs.map (·.1)=(cs.map (·.1)).map D8
 | _,_,.nil=>rfl
 | _,_,.cons ⟨t,e,_⟩ r=>by
  subst e
  show _ :: _=_ :: _
  rw [show Lu _ _=_ from KvR.keys r]
theorem KvR.val {G:A3->Prop} {H:Hp} {x:Str}:∀ {kvs:List (Key×V)} {cs:Combs},KvR G H kvs cs ->
  (cGet cs x=none/\valV kvs (D8 x)=none)\/∃ ts t,cGet cs x=some ts/\valV kvs (D8 x)=some (.ref t)/\H t=some (.lst (ts.map V.int))/\G t
 | _,_,.nil => .inl ⟨rfl,rfl⟩
 | _,_,.cons (b:=c) ⟨t,e,h1,g1⟩ r=>by
  subst e
  by_cases h:c.1=x
  ·refine .inr ⟨c.2,t,by rw [zdu,if_pos h],za1 (by rw [h]),h1,g1⟩
  ·have hn:¬ ((D8 c.1:Key)=D8 x):=fun z=>h (Kx z)
   rcases KvR.val (x:=x) r with ⟨e1,e2⟩ | ⟨ts,t',e1,e2,e3⟩
   ·exact .inl ⟨by rw [zdu,if_neg h]; exact e1,by rw [zaW hn]; exact e2⟩
   ·exact .inr ⟨ts,t',by rw [zdu,if_neg h]; exact e1,by rw [zaW hn]; exact e2,e3⟩
theorem KvR.some {G:A3->Prop} {H:Hp} {kvs:List (Key×V)} {cs:Combs} {x:Str} (r:KvR G H kvs cs):(valV kvs (D8 x)).isSome=(cGet cs x).isSome:=by
 rcases r.val (x:=x) with ⟨e1,e2⟩ | ⟨ts,t',e1,e2,e3⟩
 ·rw [e1,e2]; rfl
 ·rw [e1,e2]; rfl
theorem KvR.map {G:A3->Prop} {H:Hp} {x:Str} {t:A3} {ts:List Int} (h1:H t = .some (.lst (ts.map V.int))) (g1:G t):∀ {kvs:List (Key×V)} {cs:Combs},KvR G H kvs cs ->
  KvR G H (kvs.map fun kv=>if kv.1=D8 x then (kv.1,V.ref t) else kv) (cs.map fun c=>if c.1=x then (c.1,ts) else c)
 | _,_,.nil => .nil
 | _,_,.cons (b:=c) ⟨t',e,h2,g2⟩ r=>by
  subst e
  refine .cons ?_ (KvR.map h1 g1 r)
  dsimp only
  by_cases hx:c.1=x
  ·rw [if_pos hx,if_pos (by rw [hx])]
   exact ⟨t,rfl,h1,g1⟩
  ·rw [if_neg hx,if_neg (fun z=>hx (Kx z))]
   exact ⟨t',rfl,h2,g2⟩
theorem KvR.put {G:A3->Prop} {H:Hp} {kvs:List (Key×V)} {cs:Combs} {x:Str} {t:A3} {ts:List Int} (r:KvR G H kvs cs) (h1:H t = .some (.lst (ts.map V.int))) (g1:G t):KvR G H (putK kvs (D8 x) (.ref t)) (cPut cs x ts):=by
 unfold putK cPut
 rw [zbq,zf0,r.some]
 split
 ·exact r.map h1 g1
 ·exact F8 r ⟨t,rfl,h1,g1⟩
noncomputable abbrev PastR (G:A3->Prop) (H:Hp):List V->List Combs->Prop:=Cw fun v cs=>∃ d,v = .ref d/\DictR G H d cs
structure Bk (C:A3) (G:A3->Prop) (H:Hp) (b l:A3) (cs:Combs) (past:List Combs):Prop where
 live:∀ x,G x->H x≠none
 nb:¬ G b
 nl:¬ G l
 ins:∃ dx d,H b=some (.ins C dx [("combs",.ref d),("past",.ref l)])/\DictR G H d cs
 lst:∃ vs,H l=some (.lst vs)/\PastR G H vs past
 good:Good cs
 goods:∀ p∈past,Good p
 few:past.length<=300
theorem Bk.move {C:A3} {G:A3->Prop} {H H':Hp} {b l:A3} {cs:Combs} {past:List Combs} (B:Bk C G H b l cs past) (s:∀ a o,G a\/a=b\/a=l->H a=some o->H' a=some o):Bk C G H' b l cs past:=by
 have s':∀ a o,G a->H a=some o->H' a=some o:=fun a o g e=>s a o (.inl g) e
 obtain ⟨dx,d,e1,r1⟩:=B.ins
 obtain ⟨vs,e2,r2⟩:=B.lst
 refine ⟨fun x g => ?_,B.nb,B.nl,⟨dx,d,s _ _ (.inr (.inl rfl)) e1,r1.mono s' fun _ g=>g⟩,⟨vs,s _ _ (.inr (.inr rfl)) e2,?_⟩,B.good,B.goods,B.few⟩
 ·have:=B.live x g
  cases e:H x with
  | none=>exact absurd e this
  | some o=>rw [s' x o g e]; simp
 ·exact Jk (fun _ _ ⟨d,e,r⟩=>⟨d,e,r.mono s' fun _ g=>g⟩) r2
theorem Bk.same {C:A3} {G:A3->Prop} {H H':Hp} {b l:A3} {cs:Combs} {past:List Combs} (B:Bk C G H b l cs past) (s:Same H H'):Bk C G H' b l cs past:=B.move fun a o _ e=>s a o e
theorem Bk.liveB {C:A3} {G:A3->Prop} {H:Hp} {b l:A3} {cs:Combs} {past:List Combs} (B:Bk C G H b l cs past):H b≠none/\H l≠none:=by
 obtain ⟨dx,d,e1,r1⟩:=B.ins
 obtain ⟨vs,e2,r2⟩:=B.lst
 exact ⟨by rw [e1]; simp,by rw [e2]; simp⟩
structure Mv (b l:A3) (G G':A3->Prop) (H H':Hp):Prop where
 keep:∀ a o,H a=some o->a≠b->a≠l->H' a=some o
 on:∀ a,H a≠none->H' a≠none
 new:∀ a,G' a->G a\/H a=none
theorem zfj {H H':Hp} (s:Same H H'):∀ a,H a≠none->H' a≠none:=fun a h=>by
 cases e:H a with
 | none=>exact absurd e h
 | some o=>rw [s a o e]; simp
theorem Mv.ofSame {b l:A3} {G:A3->Prop} {H H':Hp} (s:Same H H'):Mv b l G G H H':=⟨fun a o e _ _=>s a o e,zfj s,fun _ g => .inl g⟩
theorem Mv.trans {b l:A3} {G G1 G2:A3->Prop} {H H1 H2:Hp} (m:Mv b l G G1 H H1) (m':Mv b l G1 G2 H1 H2):Mv b l G G2 H H2:=by
 refine ⟨fun a o e n1 n2=>m'.keep a o (m.keep a o e n1 n2) n1 n2,fun a h=>m'.on a (m.on a h),fun a g => ?_⟩
 rcases m'.new a g with g1 | e
 ·exact m.new a g1
 ·refine .inr ?_
  cases q:H a with
  | none=>rfl
  | some o=>exact absurd e (m.on a (by rw [q]; simp))
noncomputable def Deed (ea:Nat->A3) (C:A3) (G:A3->Prop) (H:Hp) (b l:A3) (cs:Combs) (past:List Combs) (Q:VK) (E:XK):Except Nat Combs->Prop
 | .error j=>∀ H',Same H H'->E (.ref (ea j)) none H'
 | .ok cs'=>∀ H' G',Mv b l G G' H H'->Bk C G' H' b l cs' (past ++ [cs])->Q (.int ((past.length:Int) + 1)) H'
theorem Deed.from {ea:Nat->A3} {C:A3} {G:A3->Prop} {H H1:Hp} {b l:A3} {cs:Combs} {past:List Combs} {Q:VK} {E:XK} {r:Except Nat Combs} (d:Deed ea C G H b l cs past Q E r) (s:Same H H1):Deed ea C G H1 b l cs past Q E r:=by
 cases r with
 | error j=>exact fun H' s'=>d H' (s.trans s')
 | ok cs'=>exact fun H' G' m B=>d H' G' ((Mv.ofSame s).trans m) B
noncomputable def full (past:List Combs) (cs':Combs):Except Nat Combs:=if 300<=past.length then .error 9 else .ok cs'
noncomputable def putD (cs:Combs) (past:List Combs) (x:Str) (ts:List Int):Except Nat Combs :=
 if isName x=false then .error 0 else if areTeeth ts=false then .error 1 else if (cGet cs x).isSome=true then .error 2 else if 8<=cs.length then .error 3 else full past (cPut cs x (canon ts))
theorem call_dictD {X:Cx}:CallR X (.type "dict") (fun xs H Q=>∃ a kvs,xs = [V.ref a]/\Rd H a (.dK kvs)/\∀ p,H p=none->Q (.ref p) (upd H p (.dK kvs))):=by
 intro pins s σ H xs us Q I r h
 obtain ⟨a,kvs,rfl,ha,q⟩:=h
 obtain ⟨u,rfl,ru⟩:=zci r
 cases ru
 exact d_copyOf I ha fun p s' np I'=>⟨.ref p,_,I',rfl,q p np⟩
noncomputable def sle (a b:Str):Prop:=a.cps.toList<=b.cps.toList
theorem sle_iff {a b:Str}:sle a b ↔ ltCps b.cps.toList a.cps.toList=false:=by
 unfold sle
 rw [ltCps_eq,decide_eq_false_iff_not,Oc]
theorem sle_trans {a b c:Str} (h1:sle a b) (h2:sle b c):sle a c:=Nm h1 h2
theorem sle_antisymm {a b:Str} (h1:sle a b) (h2:sle b a):a=b:=by
 have:=Ms h1 h2
 cases a; cases b
 simp only at this
 rw [Str.mk.injEq,<- Ml]
 exact this
theorem zeg:∀ {l:List Str} {p:Str},risingS p l=true->(p :: l).Pairwise sle
 | [],p,_=>by simp
 | x :: r,p,h=>by
  simp only [risingS,Bp,Fm] at h
  have ih:=zeg h.2
  have hpx:sle p x:=sle_iff.mpr h.1
  refine Gd.mpr ⟨fun y hy => ?_,ih⟩
  rcases Bc.mp hy with rfl | hm
  ·exact hpx
  ·exact sle_trans hpx ((Gd.mp ih).1 y hm)
theorem zc7 {l:List Str} (h:sortedS l=true):l.Pairwise sle:=by
 cases l with
 | nil=>exact G0
 | cons x r=>exact zeg h
theorem strs_same {a b:List Str} (hp:a.Perm b) (ha:sortedS a=true) (hb:sortedS b=true):a=b :=
 hp.eq_of_pairwise (fun _ _ _ _ h1 h2=>sle_antisymm h1 h2) (zc7 ha) (zc7 hb)
theorem zhH {α : Type} {xs:List α} {k:Int} {v : α} (h0:0<=k) (h:xs[k.toNat]?=some v):atI xs k=some v:=by
 have e:((k.toNat:Nat):Int)=k:=by omega
 rw [<- e]
 exact zax h
noncomputable def kindD (k:Str×List Int):Gh := .list [.str k.1,.list (k.2.map .int)]
noncomputable def kindsD (ks:List (Str×List Int)):Gh := .list (ks.map kindD)
theorem zgB {K:At} {H:Hp}:∀ (ns:List Int),VDs K H (ns.map V.int) (ns.map Ed)
 | [] => .nil
 | n :: ns => .cons (.int n) (zgB ns)
theorem zfm {K:At} {G:A3->Prop} {H:Hp}:∀ {vs:List V} {ks:List (Str×List Int)},KindsL G H vs ks->VDs K H vs (ks.map kindD)
 | [],[],_ => .nil
 | _ :: _,k :: _,⟨⟨q,t,e,h1,h2,_⟩,r⟩=>by
  subst e
  exact .cons (.lst (SqL.of h1) (.cons (.str _) (.cons (.lst (SqL.of h2) (zgB _)) .nil))) (zfm r)
 | [],_ :: _,x=>x.elim
 | _ :: _,[],x=>x.elim
theorem str_ok {x:Str} (h:isName x=true):N9 x=true:=by
 unfold isName at h
 simp only [Bp] at h
 unfold N9
 rw [<- Array.all_toList]
 refine Cs.mpr fun c hc => ?_
 have:=Cs.mp h.2 c hc
 unfold small at this
 simp only [Bp,decide_eq_true_eq] at this
 exact decide_eq_true (by omega)
theorem zgC:∀ ns:List Int,Ca (ns.map Ed)=true
 | []=>rfl
 | n :: ns=>by rw [Al,Ca,zgC ns]; rfl
theorem zep:∀ ns:List Int,Cj (ns.map Ed)=0
 | []=>rfl
 | n :: ns=>by rw [Al,Cj,zep ns]; rfl
theorem zfn:∀ {ks:List (Str×List Int)},(∀ k∈ks,isName k.1=true)->Ca (ks.map kindD)=true
 | [],_=>rfl
 | k :: ks,h=>by
  rw [Al,Ca,zfn fun x hx=>h x (Ak _ hx)]
  simp [kindD,Eh,Ca,zgC,str_ok (h k Ap)]
theorem zdT:∀ ks:List (Str×List Int),Cj (ks.map kindD)<=2
 | []=>by simp [Cj]
 | k :: ks=>by
  rw [Al,Cj]
  have:=zdT ks
  have e:(kindD k).depth=2:=by simp [kindD,Ey,Cj,zep]
  omega
theorem kinds_shaped {ks:List (Str×List Int)} (h:∀ k∈ks,isName k.1=true):Du (kindsD ks)=true:=by
 unfold Du kindsD
 rw [Eh,zfn h,Eg,Ey]
 have:=zdT ks
 exact decide_eq_true (by omega)
theorem nil_shaped:Du (.list [])=true:=by simp [Du,Eh,Ca,Ey,Cj]
theorem kinds_nil (ks:List (Str×List Int)):E3 (kindsD ks) (.list [])=ks.isEmpty:=by
 cases ks with
 | nil=>simp [kindsD,E3,Eo]
 | cons k ks=>simp [kindsD,E3,Eo]
noncomputable def valErr:List A0 := [.type "ValueError",.type "Exception",.type "BaseException",.type "object"]
structure BookAt (K:At) (C:A3):Prop where
 cls:Cls K C
 nc:NoAttr K C "combs"
 np:NoAttr K C "past"
noncomputable def bookChk (K:At) (C:A3):Bool:=Fo K C Pi && (Gc K C && (Iw K C && (Co K (.ref C) "__setattr__" == some (some (.builtin "object.__setattr__")) && (Co K (.ref C) "combs" == some none && Co K (.ref C) "past" == some none))))
theorem book_of {K:At} {C:A3} (h:bookChk K C=true):BookAt K C:=by
 unfold bookChk at h
 simp only [Bp,beq_iff_eq] at h
 obtain ⟨h1,h2,h3,h4,h5,h6⟩:=h
 exact ⟨⟨h1,h2,h3,h4⟩,h5,h6⟩
theorem meth_mk {K:At} {C:A3} {cn m:Str} {st:Cd} {f:A3} {oc:A0} {od an:Option A3} {osl:Array (Option A0)} {kV doc pm cdv ct:A0} (a:Co K (.ref C) m=some (some (.ref f)))
  (l:K.lookup f=some ⟨oc,od,.func (D4 m (cn ++ A2 "." ++ m) (defArgs st) (defBody st) (defScope st) .none kV doc pm an cdv ct),osl⟩) (c:Fc K cdv (cn ++ A2 "." ++ m)=true) (k:Dj K (.ref f)=true) (i:Gz K (.ref f)=true):MethAt K C cn m st :=
 ⟨f,_,zhw l c k,a,i,k⟩
structure InitAt (K:At) (mg:Str->Option A0) (C:A3) (x qual:Str) (st:Cd):Prop where
 ex:∃ f fd,Mk K C f/\Fun K "__init__" qual st f fd
 m:mg x=some (.ref C)
theorem init_mk {K:At} {mg:Str->Option A0} {C:A3} {x qual:Str} {st:Cd} {f:A3} {oc:A0} {od an:Option A3} {osl:Array (Option A0)} {kV doc pm cdv ct:A0} (hm:mg x=some (.ref C)) (a:Co K (.ref C) "__init__" = some (some (.ref f)))
  (l:K.lookup f=some ⟨oc,od,.func (D4 "__init__" qual (defArgs st) (defBody st) (defScope st) .none kV doc pm an cdv ct),osl⟩) (c:Fc K cdv qual=true) (k:Dj K (.ref f)=true) (i:Gz K (.ref f)=true) (k2:Dj K (.ref C)=true) (mk:Ji K C=true):InitAt K mg C x qual st :=
 ⟨⟨f,_,⟨mk,a,i,k2⟩,zhw l c k⟩,hm⟩
theorem ref_mk {K:At} {mg:Str->Option A0} {h:Ce} {x:Str} {f:A3} (X:K.In h) (G:h.Ns mainGlobals mg) (a:C2 K mainGlobals x=some (some (.ref f))):mg x=some (.ref f):=K1 X G a
theorem zhG {α : Type} (l:List α) (a : α):atI (l ++ [a]) (-1)=some a:=by
 unfold atI ixN
 rw [if_neg (by decide),if_pos (by rw [Ab,Bf]; omega)]
 have e:((-1:Int) + (((l ++ [a]).length:Nat):Int)).toNat=l.length:=by rw [Ab,Bf]; omega
 rw [e]
 simp
section
variable {X:Cx}
end
section
variable {X:Cx} {T id:String} {name:Str} {r:V->List V->Hp->VK->Prop} {o e:Cc} {es:List Cc} {to:TE} {t:TA} {apos cpos:Pos}
end
noncomputable def pw (t:Int):Int:=2 ^ t.toNat
noncomputable def worth (ts:List Int):Int:=(ts.map pw).sum
noncomputable def aheadOf (n:Int):List Int:=((Af 7).filter fun d=>n.toNat.testBit d).map fun i=>((i:Nat):Int)
noncomputable def meets (ah ts:List Int):Bool:=ts.any fun t=>decide (t∈ah)
noncomputable def afterOf (ah ts:List Int):List Int:=((canon (ah ++ ts)).filter fun d=>decide (0 < d)).map fun d=>d - 1
theorem ze2:worth []=0:=rfl
theorem za0 (t:Int) (ts:List Int):worth (t :: ts)=pw t + worth ts:=rfl
theorem zdf (a b:List Int):worth (a ++ b)=worth a + worth b:=by
 induction a with
 | nil=>simp [worth]
 | cons t a ih=>rw [Jq,za0,za0,ih]; omega
theorem worth_perm {a b:List Int} (h:a.Perm b):worth a=worth b:=by
 induction h with
 | nil=>rfl
 | cons x _ ih=>rw [za0,za0,ih]
 | swap x y l=>simp only [za0]; omega
 | trans _ _ h1 h2=>exact h1.trans h2
theorem pw_pos (t:Int):0 < pw t:=by unfold pw; exact Int.pow_pos (by decide)
theorem zf3 (ts:List Int):0<=worth ts:=by
 induction ts with
 | nil=>exact Do _
 | cons t ts ih=>rw [za0]; have:=pw_pos t; omega
noncomputable def bitSum (f:Nat->Bool):Nat->Nat
 | 0=>0
 | k + 1=>2 ^ k * (if f k then 1 else 0) + bitSum f k
theorem zcB (f:Nat->Bool) (k:Nat):bitSum f (k + 1)=2 ^ k * (if f k then 1 else 0) + bitSum f k:=rfl
theorem zc4 (f:Nat->Bool):∀ k,bitSum f k < 2 ^ k
 | 0=>Nat.zero_lt_one
 | k + 1=>by
  have:=zc4 f k
  rw [zcB]
  rw [Nat.pow_succ]
  cases f k
  ·simp; omega
  ·simp; omega
theorem zbR (f:Nat->Bool) (i:Nat):∀ k,(bitSum f k).testBit i=(decide (i < k) && f i)
 | 0=>by simp [bitSum]
 | k + 1=>by
  rw [zcB,Nat.testBit_two_pow_mul_add _ (zc4 f k),zbR f i k]
  by_cases h:i < k
  ·rw [if_pos h,decide_eq_true h,decide_eq_true (show i < k + 1 by omega)]
  ·rw [if_neg h]
   by_cases e:i=k
   ·subst e
    rw [Ho,decide_eq_true (Em i)]
    cases f i <;> rfl
   ·rw [decide_eq_false (show ¬ i < k + 1 by omega),El]
    cases f k
    ·exact Fx _
    ·show (1:Nat).testBit (i - k)=false
     rw [Bool.eq_false_iff]
     exact fun z=>absurd (Nat.testBit_one_eq_true_iff_self_eq_zero.mp z) (by omega)
theorem zcb (f:Nat->Bool):∀ k,worth (((Af k).filter f).map fun i=>((i:Nat):Int))=((bitSum f k:Nat):Int)
 | 0=>rfl
 | k + 1=>by
  rw [Dh,C0,Ao,zdf,zcb f k,zcB]
  cases h:f k
  ·simp [h,worth]
  ·simp only [h,Au,Ck,if_true,Al,F0,za0,ze2]
   unfold pw
   rw [Da]
   push_cast
   omega
theorem zd3 {f:Nat->Bool} {k:Nat} (i:Nat):(worth (((Af k).filter f).map fun i=>((i:Nat):Int))).toNat.testBit i=(decide (i < k) && f i):=by
 rw [zcb,Da,zbR]
theorem ahead_worth (f:Nat->Bool):aheadOf (worth (((Af 7).filter f).map fun i=>((i:Nat):Int)))=((Af 7).filter f).map fun i=>((i:Nat):Int):=by
 unfold aheadOf
 congr 1
 refine Es fun i hi => ?_
 rw [zd3,decide_eq_true (Ax.mp hi),Eg]
theorem zbh {n:Int} (h0:0<=n) (h1:n < 128):worth (aheadOf n)=n:=by
 unfold aheadOf
 rw [zcb]
 have:bitSum (fun d=>n.toNat.testBit d) 7=n.toNat:=by
  refine Io fun i => ?_
  rw [zbR]
  by_cases h:i < 7
  ·rw [decide_eq_true h,Eg]
  ·rw [decide_eq_false h,El]
   symm
   refine Hn (Ae (show n.toNat < 2 ^ 7 by omega) (Im (by decide) (by omega)))
 rw [this]
 omega
theorem mem_ahead {n t:Int}:t∈aheadOf n ↔ 0<=t/\t<=6/\n.toNat.testBit t.toNat=true:=by
 unfold aheadOf
 simp only [A7,Az,Ax]
 constructor
 ·rintro ⟨i,⟨hi,hb⟩,rfl⟩
  exact ⟨by omega,by omega,by simpa using hb⟩
 ·rintro ⟨h0,h6,hb⟩
  exact ⟨t.toNat,⟨by omega,hb⟩,by omega⟩
theorem meets_false {ah ts:List Int}:meets ah ts=false ↔ ∀ t∈ts,t ∉ ah:=by
 unfold meets
 simp [Jd]
theorem zfH {n:Int} {ts:List Int} (h0:0<=n) (h1:n < 128) (g:GT ts):Dn n (worth ts)=0 ↔ meets (aheadOf n) ts=false:=by
 have hb:Dn n (worth ts)=((n.toNat &&& (worth ts).toNat:Nat):Int):=by
  unfold Dn
  rw [decide_eq_true h0,decide_eq_true (zf3 ts)]
 rw [hb,meets_false]
 obtain ⟨f,rfl,_⟩:=g
 constructor
 ·intro h t ht ha
  obtain ⟨t0,t6,tb⟩:=mem_ahead.mp ha
  obtain ⟨i,hi,rfl⟩:=A7.mp ht
  obtain ⟨hr,hf⟩:=Az.mp hi
  have z:(n.toNat &&& (worth (((Af 8).filter f).map fun i=>((i:Nat):Int))).toNat)=0:=by omega
  have z:=congrArg (fun m=>m.testBit i) z
  simp only [Na,zd3,Fx] at z
  rw [Da] at tb
  rw [tb,hf,decide_eq_true (Ax.mp hr)] at z
  exact absurd z (by decide)
 ·intro h
  have z:(n.toNat &&& (worth (((Af 8).filter f).map fun i=>((i:Nat):Int))).toNat)=0:=by
   refine Io fun i => ?_
   rw [Na,zd3,Fx]
   cases e:n.toNat.testBit i with
   | false=>rfl
   | true =>
    have hi:i < 7:=by
     apply Eu
     intro hn
     have:=Hn (Ae (show n.toNat < 2 ^ 7 by omega) (Im (by decide) (show 7<=i by omega)))
     rw [this] at e
     exact absurd e (by decide)
    cases ef:f i with
    | false=>simp
    | true =>
     exfalso
     refine h (i:Int) (A7.mpr ⟨i,Az.mpr ⟨Ax.mpr (by omega),ef⟩,rfl⟩) (mem_ahead.mpr ⟨by omega,by omega,?_⟩)
     rwa [Da]
  omega
theorem worth_half (l:List Int) (h:∀ t∈l,0<=t):worth l=2 * worth ((l.filter fun d=>decide (0 < d)).map fun d=>d - 1) + ((l.count 0:Nat):Int):=by
 induction l with
 | nil=>rfl
 | cons t l ih =>
  have ih:=ih fun x hx=>h x (Ak _ hx)
  have t0:=h t Ap
  rw [za0,Au,Jx]
  by_cases e:t=0
  ·subst e
   rw [ih]
   simp [pw]
   omega
  ·have hp:0 < t:=by omega
   have:pw t=2 * pw (t - 1):=by
    unfold pw
    rw [show t.toNat=(t - 1).toNat + 1 by omega,Int.pow_succ]
    omega
   rw [if_pos (decide_eq_true hp),Al,za0,this,ih]
   rw [if_neg (by simpa using e)]
   omega
theorem zgS {ah ts:List Int}:∀ d∈afterOf ah ts,0<=d/\d<=6:=by
 intro d hd
 obtain ⟨x,hx,rfl⟩:=A7.mp hd
 obtain ⟨hc,hp⟩:=Az.mp hx
 have:=(mem_canon.mp hc).2
 have:=of_decide_eq_true hp
 omega
theorem zdx (ah ts:List Int):(afterOf ah ts).Pairwise (· < ·):=by
 unfold afterOf
 rw [Bb]
 exact ((zeY (ah ++ ts)).sublist Ci).imp fun h=>by omega
theorem zcC (n:Int):(aheadOf n).Nodup:=by
 refine zaS ?_
 unfold aheadOf
 rw [Bb]
 refine Ba Ci (Ek ?_ (D5 (n:=7)))
 intro a b h
 omega
theorem zd5 {ah ts:List Int} (ha:ah.Nodup) (hr:∀ t∈ah,0<=t/\t<=6) (ht:ts.Nodup) (hr':∀ t∈ts,0<=t/\t<=7) (hm:meets ah ts=false):worth (afterOf ah ts)=(worth ah + worth ts) / 2:=by
 have hn:(ah ++ ts).Nodup:=Bz.mpr ⟨ha,ht,fun a h1 b h2 e=>meets_false.mp hm b h2 (e ▸ h1)⟩
 have hp:(canon (ah ++ ts)).Perm (ah ++ ts):=by
  rw [D1 (zcA _) hn]
  intro t
  rw [mem_canon]
  refine ⟨fun h=>h.1,fun h=>⟨h,?_⟩⟩
  rcases An.mp h with z | z
  ·have:=hr t z; omega
  ·exact hr' t z
 have hw:=worth_half (canon (ah ++ ts)) fun t h=>(mem_canon.mp h).2.1
 rw [worth_perm hp,zdf] at hw
 have hc:=List.nodup_iff_count.mp (zcA (ah ++ ts)) 0
 unfold afterOf
 omega
theorem zbS {n:Int}:∀ t∈aheadOf n,0<=t/\t<=6:=fun t h=>⟨(mem_ahead.mp h).1,(mem_ahead.mp h).2.1⟩
theorem zd6 {n:Int} (h0:0<=n):(0:Int)∈aheadOf n ↔ n % 2=1:=by
 rw [mem_ahead]
 have:n.toNat.testBit 0=decide (n.toNat % 2=1):=Nat.testBit_zero _
 rw [show (0:Int).toNat=0 from rfl,this,decide_eq_true_eq]
 omega
noncomputable def stepsOf (cs:Combs) (n:Int):List (Str×Int):=if n % 2=1 then [("",n / 2)] else (cs.filter fun c=>decide (Builtin.bitAnd n (worth c.2)=0)).map fun c=>(c.1,(n + worth c.2) / 2)
noncomputable def goesOf (cs:Combs) (ah:List Int):List (Str×List Int):=if (0:Int)∈ah then [("",afterOf ah [])] else (cs.filter fun c => !meets ah c.2).map fun c=>(c.1,afterOf ah c.2)
theorem zeb {cs:Combs} {n:Int} (h0:0<=n) (h1:n < 128) (g:∀ c∈cs,GT c.2):(goesOf cs (aheadOf n)).map (fun p=>(p.1,worth p.2))=stepsOf cs n:=by
 unfold goesOf stepsOf
 by_cases e:n % 2=1
 ·rw [if_pos e,if_pos ((zd6 h0).mpr e),Al,F0,zd5 (zcC n) zbS D3 (by simp) (by rfl),zbh h0 h1,ze2,Int.add_zero]
 ·rw [if_neg e,if_neg fun z=>e ((zd6 h0).mp z),B5]
  have hf:(cs.filter fun c => !meets (aheadOf n) c.2)=cs.filter fun c=>decide (Dn n (worth c.2)=0):=by
   refine Es fun c hc => ?_
   rw [Bi,decide_eq_true_eq,zfH h0 h1 (g c hc),Fm]
  rw [hf]
  refine C7 fun c hc => ?_
  obtain ⟨hc,hz⟩:=Az.mp hc
  have gc:=g c hc
  show (c.1,worth (afterOf (aheadOf n) c.2))=_
  rw [zd5 (zcC n) zbS (zaS (zeU gc)) (zb7 gc) ((zfH h0 h1 gc).mp (of_decide_eq_true hz)),zbh h0 h1]
theorem steps_lt {cs:Combs} {n:Int} (h0:0<=n) (h1:n < 128) (g:∀ c∈cs,GT c.2):∀ p∈stepsOf cs n,0<=p.2/\p.2 < 128:=by
 rw [<- zeb h0 h1 g]
 intro p hp
 obtain ⟨q,hq,rfl⟩:=A7.mp hp
 have:∃ a b,q.2=afterOf a b:=by
  unfold goesOf at hq
  split at hq
  ·rw [A5.mp hq]; exact ⟨_,_,rfl⟩
  ·obtain ⟨c,_,rfl⟩:=A7.mp hq; exact ⟨_,_,rfl⟩
 obtain ⟨a,b,e⟩:=this
 show 0<=worth q.2/\worth q.2 < 128
 rw [e]
 refine ⟨zf3 _,?_⟩
 have hs:afterOf a b=((Af 7).filter fun i=>decide (((i:Nat):Int)∈afterOf a b)).map fun i=>((i:Nat):Int):=by
  refine zbu ?_ ((zdx a b).imp fun h=>by omega) ?_
  ·rw [D1 (zaS (zdx a b))]
   ·intro t
    simp only [A7,Az,Ax,decide_eq_true_eq]
    constructor
    ·intro h
     have:=zgS t h
     exact ⟨t.toNat,⟨by omega,by rwa [show ((t.toNat:Nat):Int)=t by omega]⟩,by omega⟩
    ·rintro ⟨i,⟨_,h⟩,rfl⟩
     exact h
   ·refine zaS ?_
    rw [Bb]
    refine Ba Ci (Ek ?_ (D5 (n:=7)))
    intro a b h
    omega
  ·rw [Bb]
   refine Ba Ci (Ek ?_ (D5 (n:=7)))
   intro a b h
   omega
 rw [hs,zcb]
 have:=zc4 (fun i=>decide (((i:Nat):Int)∈afterOf a b)) 7
 omega
noncomputable def StepsR (H:Hp):List V->List (Str×Int)->Prop
 | [],[]=>True
 | v :: vs,s :: ss=>(∃ q,v = .ref q/\H q=some (.tup [.str s.1,.int s.2]))/\StepsR H vs ss
 | _,_=>False
theorem StepsR.mono {H H':Hp} (m:∀ q xs,H q=some (.tup xs)->H' q=some (.tup xs)):∀ {vs:List V} {ss:List (Str×Int)},StepsR H vs ss->StepsR H' vs ss
 | [],[],_=>trivial
 | _ :: _,_ :: _,⟨⟨q,e,h⟩,r⟩=>⟨⟨q,e,m q _ h⟩,r.mono m⟩
 | [],_ :: _,x=>x.elim
 | _ :: _,[],x=>x.elim
theorem StepsR.length {H:Hp}:∀ {vs:List V} {ss:List (Str×Int)},StepsR H vs ss->vs.length=ss.length
 | [],[],_=>rfl
 | _ :: _,_ :: _,⟨_,r⟩=>by rw [As,As,r.length]
 | [],_ :: _,x=>x.elim
 | _ :: _,[],x=>x.elim
theorem StepsR.snoc {H:Hp} {q:A3} {s:Str×Int} (hq:H q=some (.tup [.str s.1,.int s.2])):∀ {vs:List V} {ss:List (Str×Int)},StepsR H vs ss->StepsR H (vs ++ [.ref q]) (ss ++ [s])
 | [],[],_=>⟨⟨q,rfl,hq⟩,trivial⟩
 | _ :: _,_ :: _,⟨a,r⟩=>⟨a,r.snoc hq⟩
 | [],_ :: _,x=>x.elim
 | _ :: _,[],x=>x.elim
theorem StepsR.get {H:Hp} {i:Nat} {s:Str×Int}:∀ {vs:List V} {ss:List (Str×Int)},StepsR H vs ss->ss[i]?=some s->∃ q,vs[i]?=some (.ref q)/\H q=some (.tup [.str s.1,.int s.2]):=by
 induction i with
 | zero =>
  intro vs ss r e
  match vs,ss,r with
  | [],[],_=>simp at e
  | v :: _,x :: _,⟨⟨q,ev,h⟩,_⟩ =>
   simp at e
   subst e
   exact ⟨q,by rw [ev]; rfl,h⟩
 | succ i ih =>
  intro vs ss r e
  match vs,ss,r with
  | [],[],_=>simp at e
  | v :: vs,x :: ss,⟨_,r⟩ =>
   obtain ⟨q,e1,e2⟩:=ih r (by simpa using e)
   exact ⟨q,by simpa using e1,e2⟩
noncomputable def byNames (cs:Combs) (nm:List Str):Combs:=nm.map fun x=>(x,(cGet cs x).getD [])
theorem byNames_snoc {cs:Combs} {nm:List Str} {x:Str} {ts:List Int} (h:cGet cs x=some ts):byNames cs (nm ++ [x])=byNames cs nm ++ [(x,ts)]:=by
 unfold byNames
 rw [Ao,Al,F0,h]
 rfl
theorem zea {cs:Combs} {c:Str×List Int} {n:Int} (h:¬ n % 2=1):stepsOf (cs ++ [c]) n=stepsOf cs n ++ if Builtin.bitAnd n (worth c.2)=0 then [(c.1,(n + worth c.2) / 2)] else []:=by
 unfold stepsOf
 rw [if_neg h,if_neg h,C0,Ao]
 congr 1
 by_cases e:Dn n (worth c.2)=0
 ·rw [if_pos e,Au,if_pos (decide_eq_true e)]
  rfl
 ·rw [if_neg e,Au,if_neg (by simpa using e)]
  rfl
theorem steps_nil {n:Int} (h:¬ n % 2=1):stepsOf [] n = []:=by
 unfold stepsOf
 rw [if_neg h]
 rfl
theorem zcI {cs:Combs} {n:Int} (h:n % 2=1):stepsOf cs n = [((Str.ofString "" : Str),n / 2)]:=by
 unfold stepsOf
 exact if_pos h
theorem steps_len {cs:Combs} {n:Int} (h:¬ n % 2=1):(stepsOf cs n).length<=cs.length:=by
 unfold stepsOf
 rw [if_neg h,A1]
 exact Df _ _
theorem zfS (t:Int) (ts:List Int):inV (V.int t) (ts.map V.int)=decide (t∈ts):=by
 unfold inV
 rw [Jc,Bi,Bj,decide_eq_true_eq]
 constructor
 ·rintro ⟨x,hx,e⟩
  have:x=t:=by
   have e':(x == t)=true:=e
   exact eq_of_beq e'
  rw [<- this]; exact hx
 ·intro h
  exact ⟨t,h,beq_self_eq_true t⟩
theorem after_canon {ah ts ns:List Int} (ha:ah.Nodup) (hr:∀ t∈ah,0<=t/\t<=6) (ht:ts.Nodup) (hr':∀ t∈ts,0<=t/\t<=7) (hm:meets ah ts=false) (hp:ns.Perm (ah ++ ts)) (hs:ns.Pairwise (· <= ·)):ns=canon (ah ++ ts):=by
 refine zdv hp hs (Bz.mpr ⟨ha,ht,fun a h1 b h2 e=>meets_false.mp hm b h2 (e ▸ h1)⟩) fun t h => ?_
 rcases An.mp h with z | z
 ·have:=hr t z; omega
 ·exact hr' t z
noncomputable def GoesR (H:Hp):List V->List (Str×List Int)->Prop
 | [],[]=>True
 | v :: vs,s :: ss=>(∃ q t,v = .ref q/\H q=some (.tup [.str s.1,.ref t])/\H t=some (.tup (s.2.map V.int)))/\GoesR H vs ss
 | _,_=>False
theorem GoesR.mono {H H':Hp} (m:∀ q xs,H q=some (.tup xs)->H' q=some (.tup xs)):∀ {vs:List V} {ss:List (Str×List Int)},GoesR H vs ss->GoesR H' vs ss
 | [],[],_=>trivial
 | _ :: _,_ :: _,⟨⟨q,t,e,h,h2⟩,r⟩=>⟨⟨q,t,e,m q _ h,m t _ h2⟩,r.mono m⟩
 | [],_ :: _,x=>x.elim
 | _ :: _,[],x=>x.elim
theorem GoesR.length {H:Hp}:∀ {vs:List V} {ss:List (Str×List Int)},GoesR H vs ss->vs.length=ss.length
 | [],[],_=>rfl
 | _ :: _,_ :: _,⟨_,r⟩=>by rw [As,As,r.length]
 | [],_ :: _,x=>x.elim
 | _ :: _,[],x=>x.elim
theorem GoesR.snoc {H:Hp} {q t:A3} {s:Str×List Int} (hq:H q=some (.tup [.str s.1,.ref t])) (ht:H t=some (.tup (s.2.map V.int))):∀ {vs:List V} {ss:List (Str×List Int)},GoesR H vs ss->GoesR H (vs ++ [.ref q]) (ss ++ [s])
 | [],[],_=>⟨⟨q,t,rfl,hq,ht⟩,trivial⟩
 | _ :: _,_ :: _,⟨a,r⟩=>⟨a,r.snoc hq ht⟩
 | [],_ :: _,x=>x.elim
 | _ :: _,[],x=>x.elim
theorem GoesR.get {H:Hp} {i:Nat} {s:Str×List Int}:∀ {vs:List V} {ss:List (Str×List Int)},GoesR H vs ss->ss[i]?=some s->∃ q t,vs[i]?=some (.ref q)/\H q=some (.tup [.str s.1,.ref t])/\H t=some (.tup (s.2.map V.int)):=by
 induction i with
 | zero =>
  intro vs ss r e
  match vs,ss,r with
  | [],[],_=>simp at e
  | v :: _,x :: _,⟨⟨q,t,ev,h,h2⟩,_⟩ =>
   simp at e
   subst e
   exact ⟨q,t,by rw [ev]; rfl,h,h2⟩
 | succ i ih =>
  intro vs ss r e
  match vs,ss,r with
  | [],[],_=>simp at e
  | v :: vs,x :: ss,⟨_,r⟩ =>
   obtain ⟨q,t,e1,e2⟩:=ih r (by simpa using e)
   exact ⟨q,t,by simpa using e1,e2⟩
theorem goes_in {cs:Combs} {ah:List Int} (h:(0:Int)∈ah):goesOf cs ah = [((A2 "" : Str),afterOf ah [])]:=by
 unfold goesOf
 exact if_pos h
theorem goes_nil {ah:List Int} (h:(0:Int) ∉ ah):goesOf [] ah = []:=by
 unfold goesOf
 rw [if_neg h]
 rfl
theorem zfp {cs:Combs} {c:Str×List Int} {ah:List Int} (h:(0:Int) ∉ ah):goesOf (cs ++ [c]) ah=goesOf cs ah ++ if meets ah c.2=true then [] else [(c.1,afterOf ah c.2)]:=by
 unfold goesOf
 rw [if_neg h,if_neg h,C0,Ao]
 congr 1
 by_cases e:meets ah c.2=true
 ·rw [if_pos e,Au,if_neg (by rw [e]; decide)]
  rfl
 ·rw [if_neg e,Au,if_pos (by simpa using e)]
  rfl
end L2
namespace L2
open PySem PySem.Spec PyProof.Rows PySem.W
structure LtOk (n:Nat) (lt:Nat->Nat->Bool):Prop where
 tr:∀ {a b c},lt a b=true->lt b c=true->lt a c=true
 tot:∀ {a b},a < n->b < n->a≠b->lt a b=false->lt b a=true
 irr:∀ a,lt a a=false
noncomputable abbrev gd (p:Array Nat) (i:Nat):Nat:=p.getD i 0
section
variable {n:Nat} {lt:Nat->Nat->Bool} {cmp:Nat->Nat->(Bool->A4->Prop)->A4->Prop} {s:A4}
variable (L:LtOk n lt) (hc:∀ i j C,i < n->j < n->i≠j->C (lt i j) s->cmp i j C s)
include L hc
omit hc L in
omit hc L in
omit hc L in
end
end L2
namespace L2
open PySem PySem.Spec PyProof.Rows PySem.W
open AutoSeq1 (wpAny_loadPart')
open MeetsSeq MeetsSeq2 MeetsSeq3
section
variable {prog:Av} {w:Bu} {A:Bd} {E:A0->A4->Prop} {s:A4}
end
noncomputable def kd (ks:List (Str×List Int)) (i:Nat):Str×List Int:=ks.getD i (A2 "",[])
section
variable {X:Cx}
end
noncomputable def intsChk:List A0->List Int->Bool
 | [],[]=>true
 | .int i _ :: r,k :: s=>decide (i=k) && intsChk r s
 | _,_=>false
theorem zgD:∀ {us:List A0} {ns:List Int},intsChk us ns=true->Vals (ns.map V.int) us
 | [],[],_ => .nil
 | .int i t :: r,k :: s,h=>by
  simp only [intsChk,Bp,decide_eq_true_eq] at h
  obtain ⟨rfl,h⟩:=h
  exact .cons ⟨t,rfl⟩ (zgD h)
 | [],_ :: _,h=>by cases h
noncomputable def tupChk (K:At) (a:A3) (ns:List Int):Bool:=match K.lookup a with
 | some o=>(o.cls == .type "tuple") && match o.data with
  | .seq its _=>intsChk its.toList ns && decide (its.size<=1000)
  | _=>false
 | none=>false
theorem tup_chk {K:At} {a:A3} {ns:List Int} (h:tupChk K a ns=true) (H:Hp):SqT K H a (ns.map V.int):=by
 unfold tupChk at h
 split at h
 ·rename_i o e
  rw [Bp] at h
  obtain ⟨hc,h⟩:=h
  split at h
  ·rename_i its n ed
   rw [Bp] at h
   exact .inr ⟨o,its,n,e,eq_of_beq hc,ed,big (of_decide_eq_true h.2),zgD h.1⟩
  ·cases h
 ·cases h
end L2
namespace L2
open PySem PySem.Spec PyProof.Rows
theorem zib {J:It} {Ok:Hp->Prop} {L:List V} {tf:TT} {te:TE} {D:A3} {σ0 capv:St} {H1:Hp} {Q:VK} (hσ : σ0=none :: capv) (G:Gives J Ok L) (hL:L.length<=sizeLine) (hD:H1 D=none) (hOk:∀ H,Same H1 H->Ok H) (p:Nat->Bool) (Rel:Hp->Nat->V->Prop)
  (hm:∀ H H' i v,Same H H'->Rel H i v->Rel H' i v) (hw:∀ H i v l l',v ≠ .ref D->H D=some (.lst l)->Rel H i v->Rel (upd H D (.lst l')) i v)
  (ht:∀ (i:Nat) x,L[i]?=some x->∀ H R,Same H1 H->(∀ H',Same H H'->R (p i) H')->tf (some x :: capv) H R)
  (he:∀ (i:Nat) x,L[i]?=some x->p i=true->∀ H R,Same H1 H->H D≠none->(∀ H' v,Same H H'->v ≠ .ref D->Rel H' i v->R v H')->te (some x :: capv) H R)
  (hd:∀ H ys,Same H1 H->H D=some (.lst ys)->Cw (fun i y=>y ≠ .ref D/\Rel H i y) ((Af L.length).filter p) ys->Q (.ref D) H) :
  CompW J D σ0 H1 (gName 0) tf te Q:=by
 subst hσ
 refine zic G (fun i xs σ H=>(∃ o,σ = o :: capv)/\Same H1 H/\H D=some (.lst xs)/\Cw (fun i y=>y ≠ .ref D/\Rel H i y) ((Af i).filter p) xs) ⟨⟨none,rfl⟩,Same.new hD,upd_same,.nil⟩ (fun i xs σ H _ h=>hOk H h.2.1) ?_ ?_
 ·rintro i x xs σ H hi hx ⟨⟨o,rfl⟩,s,e,hr⟩
  show tf (some x :: capv) H _
  refine ht i x hx H _ s fun H' s' => ?_
  have hxl:xs.length<=i:=by
   rw [<- D9 hr]
   exact Bv (Df _ _) (by rw [B0]; omega)
  have efil:(Af (i + 1)).filter p=(Af i).filter p ++ if p i=true then [i] else []:=by
   rw [Dh,C0]
   congr 1
   rw [Au,Ck]
  cases hp:p i with
  | true =>
   rw [if_pos rfl]
   refine he i x hx hp H' _ (s.trans s') (by rw [s' _ _ e]; exact nofun) fun H2 v s2 hv rv => ?_
   have e2:=s2 _ _ (s' _ _ e)
   refine CNext.of hi hL e2 hxl ⟨⟨some x,rfl⟩,((s.trans s').trans s2).put hD,upd_same,?_⟩
   rw [efil,if_pos hp]
   exact F8 (Cw.mapP hr fun j y z=>⟨z.1,hw _ _ _ _ _ z.1 e2 (hm _ _ _ _ (s'.trans s2) z.2)⟩) ⟨hv,hw _ _ _ _ _ hv e2 rv⟩
  | false =>
   rw [if_neg Aa]
   refine CSkip.of (xs:=xs) hi ⟨⟨some x,rfl⟩,s.trans s',s' _ _ e,?_⟩
   rw [efil,if_neg (by rw [hp]; exact Aa),Cq]
   exact Cw.mapP hr fun j y z=>⟨z.1,hm _ _ _ _ s' z.2⟩
 ·rintro xs σ H ⟨_,s,e,hr⟩
  exact hd H xs s e hr
theorem Cw.at {α β : Type} {R : α -> β -> Prop}:∀ {l:List α} {m:List β} {i:Nat} {x : α},Cw R l m->l[i]?=some x->∃ y,m[i]?=some y/\R x y
 | _,_,i,x,.nil,h=>by simp at h
 | _,_,0,x,.cons h r,e=>by
  simp at e
  subst e
  exact ⟨_,rfl,h⟩
 | _,_,i + 1,x,.cons h r,e=>by
  obtain ⟨y,e1,e2⟩:=Cw.at (i:=i) r (by simpa using e)
  exact ⟨y,by simpa using e1,e2⟩
theorem zcp {J:It} {Ok:Hp->Prop} {L:List V} {tf:TT} {te:TE} {D:A3} {σ0 capv:St} {H1:Hp} {Q:VK} (hσ : σ0=none :: capv) (G:Gives J Ok L) (hL:L.length<=sizeLine) (hD:H1 D=none) (hOk:∀ H,Same H1 H->Ok H) (p:Nat->Bool) (F:Nat->V) (hF:∀ i,i < L.length->p i=true->F i ≠ .ref D)
  (ht:∀ (i:Nat) x,L[i]?=some x->∀ H R,Same H1 H->(∀ H',Same H H'->R (p i) H')->tf (some x :: capv) H R)
  (he:∀ (i:Nat) x,L[i]?=some x->p i=true->∀ H R,Same H1 H->(∀ H',Same H H'->R (F i) H')->te (some x :: capv) H R)
  (hd:∀ H,Same H1 H->H D=some (.lst (((Af L.length).filter p).map F))->Q (.ref D) H) :
  CompW J D σ0 H1 (gName 0) tf te Q:=by
 refine zib hσ G hL hD hOk p (fun _ i v=>v=F i) (fun _ _ _ _ _ h=>h) (fun _ _ _ _ _ _ _ h=>h) ht (fun i x hx hp H R s _ h=>he i x hx hp H R s fun H' s'=>h H' _ s' (hF i (Ah.mp hx).1 hp) rfl) fun H ys s e pr=>hd H s ?_
 rw [e]
 have:∀ {l:List Nat} {m:List V},Cw (fun i y=>y ≠ .ref D/\y=F i) l m->m=l.map F:=by
  intro l m q
  induction q with
  | nil=>rfl
  | cons h _ ih=>rw [Al,<- ih,h.2]
 rw [this pr]
noncomputable def nmSort (cs:Combs):List Str:=(cs.map (·.1)).mergeSort fun a b=>decide (a.cps.toList<=b.cps.toList)
theorem zfQ (cs:Combs):(nmSort cs).Perm (cs.map (·.1)):=List.mergeSort_perm _ _
theorem zfh (cs:Combs):sortedS (nmSort cs)=true:=by
 refine sortedS_of_pairwise _ ?_
 have h:=List.pairwise_mergeSort (le:=fun a b:Str=>decide (a.cps.toList<=b.cps.toList)) (fun a b c h1 h2=>decide_eq_true (Nm (of_decide_eq_true h1) (of_decide_eq_true h2))) (fun a b=>by
  rcases List.le_total a.cps.toList b.cps.toList with h | h
  ·rw [decide_eq_true h]; rfl
  ·rw [decide_eq_true h,Le]) (cs.map (·.1))
 exact h.imp fun {a b} h=>sle_iff.mp (show a.cps.toList<=b.cps.toList from of_decide_eq_true h)
noncomputable def srt (cs:Combs):Combs:=byNames cs (nmSort cs)
theorem zb6 {cs:Combs} (nd:(cs.map (·.1)).Nodup) {c:Str×List Int} (h:c∈cs):cGet cs c.1=some c.2:=by
 induction cs with
 | nil=>cases h
 | cons d cs ih =>
  rw [zdu]
  rw [Al,Di] at nd
  rcases Bc.mp h with rfl | h
  ·exact if_pos rfl
  ·rw [if_neg (fun z:d.1=c.1=>nd.1 (z ▸ A7.mpr ⟨c,h,rfl⟩))]
   exact ih nd.2 h
theorem by_same {cs ks:Combs} (nd:(cs.map (·.1)).Nodup) (p:ks.Perm cs):byNames cs (ks.map (·.1))=ks:=by
 unfold byNames
 rw [B5]
 conv=>rhs; rw [<- Fy ks]
 refine C7 fun k hk => ?_
 show (k.1,(cGet cs k.1).getD [])=k
 rw [zb6 nd (p.mem_iff.mp hk)]
 rfl
theorem zcc {cs:Combs} (nd:(cs.map (·.1)).Nodup):(srt cs).Perm cs:=by
 have h:(byNames cs (nmSort cs)).Perm (byNames cs (cs.map (·.1))):=(zfQ cs).map _
 rw [by_same nd (Hd _)] at h
 exact h
noncomputable def stp (C:Combs) (s:Nat):List (Str×Int):=stepsOf C (s:Int)
noncomputable def nxtRow (C:Combs) (r:List Bool):List Bool:=(Af 128).map fun s=>(stp C s).any fun p=>r.getD p.2.toNat false
noncomputable def rowAt (C:Combs):Nat->List Bool
 | 0=>C5 128 true
 | k + 1=>nxtRow C (rowAt C k)
theorem za6 (C:Combs):∀ k,(rowAt C k).length=128
 | 0=>by simp [rowAt]
 | k + 1=>by simp [rowAt,nxtRow]
noncomputable abbrev tr (r:List Bool) (s:Nat):Bool:=r.getD s false
theorem zeB {C:Combs} {r:List Bool} {s:Nat} (h:s < 128):tr (nxtRow C r) s=(stp C s).any fun p=>tr r p.2.toNat:=by
 unfold tr nxtRow
 rw [Ac,Ad,Ch h]
 rfl
theorem zgX {C:Combs} {s:Nat} (h:s < 128):tr (rowAt C 0) s=true:=by
 unfold tr rowAt
 rw [Ac,L0,if_pos h]
 rfl
noncomputable def GC (C:Combs):Prop:=∀ c∈C,GT c.2
theorem zbt {C:Combs} (g:GC C) {s:Nat} (h:s < 128) {p:Str×Int} (hp:p∈stp C s):0<=p.2/\p.2.toNat < 128:=by
 have:=steps_lt (n:=(s:Int)) (by omega) (by omega) g p hp
 omega
theorem zfI {C:Combs} (g:GC C):∀ k s,s < 128->tr (rowAt C (k + 1)) s=true->tr (rowAt C k) s=true
 | 0,s,h,_=>zgX h
 | k + 1,s,h,e=>by
  rw [show rowAt C (k + 1 + 1)=nxtRow C (rowAt C (k + 1)) from rfl,zeB h] at e
  rw [show rowAt C (k + 1)=nxtRow C (rowAt C k) from rfl,zeB h]
  obtain ⟨p,hp,e⟩:=Bj.mp e
  exact Bj.mpr ⟨p,hp,zfI g k _ (zbt g h hp).2 e⟩
theorem count_less {a b:List Bool} (hl:a.length=b.length) (hm:∀ s,tr a s=true->tr b s=true) (hn:a≠b):a.count true < b.count true:=by
 induction a generalizing b with
 | nil =>
  cases b with
  | nil=>exact absurd rfl hn
  | cons _ _=>simp at hl
 | cons x a ih =>
  cases b with
  | nil=>simp at hl
  | cons y b =>
   have hm':∀ s,tr a s=true->tr b s=true:=fun s h=>hm (s + 1) h
   have h0:x=true->y=true:=fun h=>hm 0 h
   have hl':a.length=b.length:=by simpa using hl
   have le:a.count true<=b.count true:=by
    by_cases e:a=b
    ·rw [e]; exact A9 _
    ·exact F5 (ih hl' hm' e)
   rw [Jx,Jx]
   by_cases e:a=b
   ·subst e
    cases x with
    | true=>rw [h0 rfl] at hn; exact absurd rfl hn
    | false =>
     cases y with
     | false=>exact absurd rfl hn
     | true=>simp
   ·have:=ih hl' hm' e
    cases x with
    | true=>rw [h0 rfl]; simp; omega
    | false=>simp; omega
theorem tr_out {C:Combs} {k s:Nat} (h:¬ s < 128):tr (rowAt C k) s=false:=by
 unfold tr
 rw [Ac,Dt (by rw [za6]; omega)]
 rfl
theorem row_less {C:Combs} (g:GC C) {k:Nat} (h:rowAt C (k + 1)≠rowAt C k):(rowAt C (k + 1)).count true < (rowAt C k).count true:=by
 refine count_less (by rw [za6,za6]) (fun s e => ?_) h
 by_cases hs:s < 128
 ·exact zfI g k s hs e
 ·rw [tr_out hs] at e; cases e
theorem zbL (lo:Int) (n:Nat):((Af n).map fun i=>V.int (lo + ((i:Nat):Int))).length=n:=by rw [A1,B0]
theorem at0 {x y:V}:atI [x,y] 0=some x:=show atI [x,y] ((0:Nat):Int)=_ from zax rfl
theorem at1 {x y:V}:atI [x,y] 1=some y:=show atI [x,y] ((1:Nat):Int)=_ from zax rfl
theorem zcq {C:Combs} (h8:C.length<=8) (s:Nat):(stp C s).length<=8:=by
 unfold stp
 by_cases e:(s:Int) % 2=1
 ·rw [zcI e]; exact Ls rfl
 ·exact Bv (steps_len e) h8
theorem zdn {α : Type} {ws:List α} {m:Nat} {x : α} (hl:ws.length=m + 1) (h:ws[m]?=some x):atI ws (-1)=some x:=by
 have hne:ws ≠ []:=fun z=>by rw [z] at hl; simp at hl
 have e:ws=ws.dropLast ++ [ws.getLast hne]:=(G3 hne).symm
 have e2:ws.getLast hne=x:=by
  rw [Kz]
  have:ws[m]?=some (ws[ws.length - 1]'(by omega)):=by rw [A8 (by omega)]; congr 2; omega
  rw [h] at this
  exact (C4 this).symm
 rw [e,e2]
 exact zhG _ _
theorem eqv_bools (a b:List Bool):E3 (.list (a.map Gg)) (.list (b.map Gg))=decide (a=b):=by
 rw [E3]
 induction a generalizing b with
 | nil=>cases b with
  | nil=>simp [Eo]
  | cons y b=>simp [Eo]
 | cons x a ih=>cases b with
  | nil=>simp [Eo]
  | cons y b =>
   rw [Al,Al,Eo,ih b]
   cases x <;> cases y <;> simp [E3]
theorem zdg (a:List Bool):Du (.list (a.map Gg))=true:=by
 have h1:Ca (a.map Gg)=true:=by
  induction a with
  | nil=>rfl
  | cons x a ih=>rw [Al,Ca,ih]; cases x <;> rfl
 have h2:∀ a:List Bool,Cj (a.map Gg)=0:=by
  intro a
  induction a with
  | nil=>rfl
  | cons x a ih=>rw [Al,Cj,ih]; rfl
 simp [Du,Eh,Ey,h1,h2]
theorem zf4 {K:At} {H:Hp} {a:A3} {bs:List Bool} (h:H a=some (.lst (bs.map V.bl))):VD K H (.ref a) (.list (bs.map Gg)) := .lst (SqL.of h) (VDs.map fun x _ => .bl x)
noncomputable def RowsR (H:Hp) (ws:List V) (C:Combs) (m:Nat):Prop:=ws.length=m + 1/\∀ i:Nat,i<=m->∃ q,ws[i]?=some (.ref q)/\H q=some (.lst ((rowAt C i).map V.bl))
theorem RowsR.same {H H':Hp} {ws:List V} {C:Combs} {m:Nat} (r:RowsR H ws C m) (s:Same H H'):RowsR H' ws C m:=⟨r.1,fun i h=>let ⟨q,a,b⟩:=r.2 i h; ⟨q,a,s _ _ b⟩⟩
theorem RowsR.ne {H:Hp} {ws:List V} {C:Combs} {m:Nat} (r:RowsR H ws C m) {p q:A3} {bs:List Bool} (hp:H p=some (.lst ws)) (hq:H q=some (.lst (bs.map V.bl))):q≠p:=fun z=>by
 rw [z,hp] at hq
 obtain ⟨qa,e,_⟩:=r.2 0 (By _)
 injection hq with hq
 injection hq with hq
 rw [hq,Ad] at e
 cases h:bs[0]? with
 | none=>rw [h] at e; cases e
 | some b=>rw [h] at e; cases e
theorem RowsR.snoc {H:Hp} {ws:List V} {C:Combs} {m:Nat} (r:RowsR H ws C m) {p q:A3} (hp:H p=some (.lst ws)) (hq:H q=some (.lst ((rowAt C (m + 1)).map V.bl))):RowsR (upd H p (.lst (ws ++ [.ref q]))) (ws ++ [.ref q]) C (m + 1):=by
 refine ⟨by rw [Ab,r.1]; rfl,fun i hi => ?_⟩
 by_cases e:i=m + 1
 ·subst e
  exact ⟨q,by rw [Cr (by rw [r.1]; omega),r.1]; simp,by rw [zaf (r.ne hp hq)]; exact hq⟩
 ·obtain ⟨qa,e1,e2⟩:=r.2 i (by omega)
  exact ⟨qa,by rw [Cu (by rw [r.1]; omega)]; exact e1,by rw [zaf (r.ne hp e2)]; exact e2⟩
theorem zgV:∀ {xs:List V} {us:List A0},xs.length=us.length->(∀ (j:Nat) x u,xs[j]?=some x->us[j]?=some u->RelV x u)->Vals xs us
 | [],[],_,_ => .nil
 | x :: xs,u :: us,hl,h => .cons (h 0 x u rfl rfl) (zgV (by simpa using hl) fun j y z e1 e2=>h (j + 1) y z (by simpa using e1) (by simpa using e2))
section
variable {X:Cx}
theorem call_listD (hc:X.calm=true):CallR X (.type "list") (fun xs H Q=>∃ (a:A3) (kvs:List (Key×V)),xs = [V.ref a]/\Rd H a (.dK kvs)/\∀ l,H l=none->Q (.ref l) (upd H l (.lst (kvs.map fun kv=>kV kv.1)))):=by
 intro pins s σ H xs us Q I r h
 obtain ⟨a,kvs,rfl,hq,q⟩:=h
 obtain ⟨u,rfl,ru⟩:=zci r
 cases ru
 obtain ⟨hz,lo,vs,kv,hD⟩:=(show ObjOk X.prog X.w H s.heap a (.dK kvs) from hq.ok I.hok)
 obtain ⟨ep,hat⟩:=hD.dictAt
 have hlen:=kv.length
 refine PySem.W.kdl_call (J9 (knd:=mixKind X.prog X.w) (kvs:=vs) (ep:=ep) lo) (I.ok.hd hc) hat (by omega) fun h' tk acc c' hk hS hacc => ?_
 refine ⟨.ref s.heap.objs.size,_,I.laid (t':=tk) hk (A9 _) (show ObjOk X.prog X.w _ h' _ (.lst (kvs.map fun kv=>kV kv.1)) from ⟨by rw [A1]; exact hz,acc.toList,c',zgV ?_ ?_,by simpa using hS⟩),rfl,q _ (I.hok.fresh (A9 _))⟩
 ·have e:=hacc.1
  rw [A1,B7]
  exact hlen.trans e.symm
 ·intro j x u e1 e2
  obtain ⟨k,y,e3,hk2⟩:=hacc.2 j u (by rw [<- Db]; exact e2)
  obtain ⟨v',e4,_⟩:=kv.get e3
  rw [Ad,e4] at e1
  cases e1
  exact kV_rel hk2
end
theorem zaG:∀ (n:Nat) (l:List Nat),l.Nodup->(∀ x∈l,x < n)->l.length<=n
 | 0,[],_,_=>A9 _
 | 0,x :: l,_,h=>absurd (h x Ap) (by omega)
 | n + 1,l,nd,h=>by
  by_cases hn:n∈l
  ·have e:=Kr hn
   have:=zaG n (l.erase n) (nd.erase n) (fun x hx=>by
    have h1:=h x (List.mem_of_mem_erase hx)
    have h2:x≠n:=((Py nd).mp hx).1
    omega)
   omega
  ·have:=zaG n l nd (fun x hx=>by
    have h1:=h x hx
    have h2:x≠n:=fun z=>hn (z ▸ hx)
    omega)
   omega
noncomputable def nx (C:Combs) (row:List Bool) (s:Nat):Option (Str×Int):=(stp C s).find? fun p=>tr row p.2.toNat
noncomputable def wk (C:Combs) (row:List Bool) (s:Nat):Nat->Nat
 | 0=>s
 | i + 1=>((nx C row (wk C row s i)).map (·.2.toNat)).getD 0
noncomputable def wn (C:Combs) (row:List Bool) (s i:Nat):Str:=((nx C row (wk C row s i)).map (·.1)).getD (A2 "")
theorem zir {C:Combs} {row:List Bool} (g:GC C) (hr:nxtRow C row=row) {s:Nat} (hs:s < 128) (ht:tr row s=true):∃ p,nx C row s=some p/\p∈stp C s/\0<=p.2/\p.2.toNat < 128/\tr row p.2.toNat=true:=by
 rw [<- hr,zeB hs] at ht
 cases e:nx C row s with
 | none =>
  have:=Ge.mp e
  obtain ⟨p,hp,hq⟩:=Bj.mp ht
  exact absurd hq (this p hp)
 | some p =>
  have hm:p∈stp C s:=Ea e
  exact ⟨p,rfl,hm,(zbt g hs hm).1,(zbt g hs hm).2,by have:=Hr e; exact this⟩
theorem zii {C:Combs} {row:List Bool} (g:GC C) (hr:nxtRow C row=row) {s:Nat} (hs:s < 128) (ht:tr row s=true):∀ i,wk C row s i < 128/\tr row (wk C row s i)=true
 | 0=>⟨hs,ht⟩
 | i + 1=>by
  obtain ⟨h1,h2⟩:=zii g hr hs ht i
  obtain ⟨p,e,_,_,h4,h5⟩:=zir g hr h1 h2
  have:wk C row s (i + 1)=p.2.toNat:=by
   show ((nx C row (wk C row s i)).map (·.2.toNat)).getD 0=_
   rw [e]; rfl
  rw [this]
  exact ⟨h4,h5⟩
theorem zgU {C:Combs} {row:List Bool} (g:GC C) (hr:nxtRow C row=row) {s:Nat} (hs:s < 128) (ht:tr row s=true) (i:Nat):nx C row (wk C row s i)=some (wn C row s i,(wk C row s (i + 1):Int)):=by
 obtain ⟨h1,h2⟩:=zii g hr hs ht i
 obtain ⟨p,e,_,h3,h4,h5⟩:=zir g hr h1 h2
 have a:wn C row s i=p.1:=by unfold wn; rw [e]; rfl
 have b:wk C row s (i + 1)=p.2.toNat:=by
  show ((nx C row (wk C row s i)).map (·.2.toNat)).getD 0=_
  rw [e]; rfl
 rw [e,a,b,show ((p.2.toNat:Nat):Int)=p.2 by omega]
theorem wk_mem {C:Combs} {row:List Bool} (g:GC C) (hr:nxtRow C row=row) {s:Nat} (hs:s < 128) (ht:tr row s=true) (i:Nat):(wn C row s i,(wk C row s (i + 1):Int))∈stp C (wk C row s i):=Ea (zgU g hr hs ht i)
noncomputable def seenK (f:Nat->Nat) (i:Nat):List (Key×V):=(Af i).map fun j=>(Cp ((f j:Nat):Int),V.int (j:Int))
theorem seenK_succ (f:Nat->Nat) (i:Nat):seenK f (i + 1)=seenK f i ++ [(Cp ((f i:Nat):Int),V.int (i:Int))]:=by
 unfold seenK
 rw [Dh,Ao]
 rfl
theorem ze8 (f:Nat->Nat) (i:Nat):(seenK f i).length=i:=by unfold seenK; rw [A1,B0]
theorem zdA (f:Nat->Nat) (i x:Nat):valV (seenK f i) (Cp (x:Int))=((Af i).find? fun j=>decide (f j=x)).map fun (j:Nat)=>V.int (j:Int):=by
 unfold valV seenK
 have e:(fun j:Nat=>decide ((Cp ((f j:Nat):Int):Key)=Cp (x:Int)))=fun j=>decide (f j=x):=funext fun j=>by
  rw [decide_eq_decide]
  constructor
  ·intro h; injection h with h; omega
  ·intro h; rw [h]
 rw [List.find?_map,Option.map_map]
 show Lq (fun j:Nat=>V.int (j:Int)) (List.find? (fun j:Nat=>decide ((Cp ((f j:Nat):Int):Key)=Cp (x:Int))) (Af i))=_
 rw [e]
noncomputable def LaysR (H:Hp) (vs:List V) (n:Nat->Str) (i:Nat):Prop:=Cw (fun (j:Nat) (v:V)=>∃ q,v = .ref q/\H q=some (.tup [.int (j:Int),.str (n j)])) ((Af i).filter fun j=>decide (n j≠A2 "")) vs
theorem LaysR.mono {H H':Hp} {vs:List V} {n:Nat->Str} {i:Nat} (m:∀ q xs,H q=some (.tup xs)->H' q=some (.tup xs)) (r:LaysR H vs n i):LaysR H' vs n i:=Cw.mapP r fun _ _ ⟨q,a,b⟩=>⟨q,a,m _ _ b⟩
theorem LaysR.skip {H:Hp} {vs:List V} {n:Nat->Str} {i:Nat} (r:LaysR H vs n i) (h:n i=A2 ""):LaysR H vs n (i + 1):=by
 unfold LaysR
 rw [Dh,C0,Au,if_neg (by simpa using h),Ck,Cq]
 exact r
theorem LaysR.snoc {H:Hp} {vs:List V} {n:Nat->Str} {i:Nat} {q:A3} (r:LaysR H vs n i) (h:n i≠A2 "") (hq:H q=some (.tup [.int (i:Int),.str (n i)])):LaysR H (vs ++ [.ref q]) n (i + 1):=by
 unfold LaysR
 rw [Dh,C0,Au,if_pos (by simpa using h),Ck]
 exact F8 r ⟨q,rfl,hq⟩
theorem LaysR.len {H:Hp} {vs:List V} {n:Nat->Str} {i:Nat} (r:LaysR H vs n i):vs.length<=i:=by
 rw [<- D9 r]
 exact Bv (Df _ _) (by rw [B0]; omega)
theorem zgY {C:Combs} (g:GC C) {s:Nat} (hs:s < 128) {i:Nat}:∀ k,tr (rowAt C (i + k)) s=true->tr (rowAt C i) s=true
 | 0,h=>h
 | k + 1,h=>zgY g hs k (zfI g (i + k) s hs h)
section
variable {prog:Av} {w:Bu} {A:Bd} {E:A0->A4->Prop} {s:A4} {d it:A3} {o:Obj} {es:Array Jf} {ep i:Nat}
theorem ed_type (ho:s.heap.get? d=some o) (hc:o.ExactDict):s.TypeIs (.ref d) "dict" := ⟨o,ho,hc.1⟩
theorem ed_iter {Q:A0->A4->Prop} (hd:(d == sysModules)=false) (ho:s.heap.get? d=some o) (hc:o.ExactDict) (hdat:o.data = .dict es ep)
  (hQ:Q (.ref s.heap.objs.size) { s with heap:=s.heap.push { cls := .type "dict_keyiterator",data := .fields #[.ref d,.int 0 0,.int es.size 0,.int ep 0] } }):wpAny (model prog w) A (pyIter (.ref d)) Q E s:=by
 have hT:=ed_type ho hc
 refine wpAny_pyIter_slot hT F.slot_dict_iter (G6 F.slot_dict_iter hT F.entry_dict_iter (show wpAny _ _ (Ip.«dict.__iter__» _) _ _ _ from ?_) (F.args_dict_iter_1 _))
 unfold Ip.«dict.__iter__»; refine A6 ?_
 unfold P5; refine A6 (wpAny_notOrdered_dict hT (show wpAny _ _ (pure (Bq d)) _ _ s from Aq (show wpAny _ _ (Ju d >>= _) _ _ s from ?_)))
 unfold Ju; rw [if_neg (by rw [hd]; exact Aa)]
 refine A6 (Aq (A6 (Jy ho hdat (A6 (Kw ho hdat (A6 (Fu (Aq ⟨_,rfl,"dict_keyiterator",_,⟨_,Bh _ rfl,rfl⟩,F.slot_dict_keyiterator_next.lookup,?_⟩))))))))
 simpa [rawInt] using hQ
theorem ed_next {Q:Option A0->A4->Prop} (hit:s.heap.IsKeyIter it d i es.size ep) (hod:s.heap.get? d=some o) (hdd:o.data = .dict es ep) (hlt:i < es.size)
  (hQ:∀ h',h'.IsKeyIter it d (i + 1) es.size ep->G8 it s.heap h'->Q (some es[i].key) { s with heap:=h' }):wpAny (model prog w) A (pyNext (.ref it)) Q E s:=by
 obtain ⟨oi,hi,hc,hd⟩:=id hit
 have hown:Hk "dict_keyiterator" = false:=by decide
 unfold pyNext
 refine A6 (Ly (M6 (name:=A2 "__next__") hit.typeIs F.slot_dict_keyiterator_next (G6 F.slot_dict_keyiterator_next hit.typeIs F.entry_dict_keyiterator_next ?_ (F.args_dict_keyiterator_next_1 _))))
 refine A6 (Aq (A6 (A6 ?_)))
 first | refine A6 (Er hit.typeIs (Aq (A6 (J7 hi hd ?_)))) | refine A6 (Ff hit.typeIs (Aq (A6 (J7 hi hd ?_))))
 simp only [hown,Cv,if_false]
 show wpAny _ _ (if (Bq d == Ee)=true then _ else _) _ _ s
 rw [if_neg (show ¬ ((Bq d == Ee)=true) from Aa)]; refine A6 (Aq (A6 (Jy hod hdd ?_)))
 rw [if_neg (by simp)]; refine A6 (Aq (A6 (Kw hod hdd ?_)))
 rw [if_neg (by simp)]; refine Aq ?_
 simp only [show ¬ ((i:Int) < 0) from by omega,if_false,Da,Gj hlt]; refine A6 ?_
 first | refine A6 (Er hit.typeIs (Aq (A6 (Iv hit.typeIs ?_)))) | refine A6 (Ff hit.typeIs (Aq (A6 (Iv hit.typeIs ?_))))
 have hit':(s.heap.update it (F9 (·.setIfInBounds 1 (rawInt ((i:Int) + 1))))).IsKeyIter it d (i + 1) es.size ep:=⟨_,Ht _ hi (Lr (Fd hd _)),(Mo ..).trans hc,by rw [Fd hd]; simp [rawInt]⟩
 refine (show wpAny _ _ (setField (.ref it) 1 (rawInt ((i:Int) + 1)) >>= _) _ _ s from A6 (Gw hi hd (by simp) (A6 (Ex (A6 (Iv (s:={ s with heap:=s.heap.update it (F9 (·.setIfInBounds 1 (rawInt ((i:Int) + 1)))) }) hit'.typeIs ?_))))))
 show wpAny _ _ (pure es[i].key) _ _ _
 exact Aq (Aq ⟨_,rfl,Aq (hQ _ hit' (K2 ..))⟩)
theorem ed_end {Q:Option A0->A4->Prop} (hh:A.handled=none) (hit:s.heap.IsKeyIter it d i es.size ep) (hod:s.heap.get? d=some o) (hdd:o.data = .dict es ep) (hge:es.size<=i)
  (hQ:∀ h',Heap.ExtBut it s.heap h'->Q none { s with heap:=h' }):wpAny (model prog w) A (pyNext (.ref it)) Q E s:=by
 obtain ⟨oi,hi,hc,hd⟩:=id hit
 have hown:Hk "dict_keyiterator" = false:=by decide
 unfold pyNext
 refine A6 (Ly (M6 (name:=A2 "__next__") hit.typeIs F.slot_dict_keyiterator_next (G6 F.slot_dict_keyiterator_next hit.typeIs F.entry_dict_keyiterator_next ?_ (F.args_dict_keyiterator_next_1 _))))
 refine A6 (Aq (A6 (A6 ?_)))
 first | refine A6 (Er hit.typeIs (Aq (A6 (J7 hi hd ?_)))) | refine A6 (Ff hit.typeIs (Aq (A6 (J7 hi hd ?_))))
 simp only [hown,Cv,if_false]
 show wpAny _ _ (if (Bq d == Ee)=true then _ else _) _ _ s
 rw [if_neg (show ¬ ((Bq d == Ee)=true) from Aa)]; refine A6 (Aq (A6 (Jy hod hdd ?_)))
 rw [if_neg (by simp)]; refine A6 (Aq (A6 (Kw hod hdd ?_)))
 rw [if_neg (by simp)]; refine Aq ?_
 simp only [show ¬ ((i:Int) < 0) from by omega,if_false,Da,Array.getElem?_eq_none hge]; refine A6 ?_
 first | refine A6 (Er hit.typeIs (Aq ?_)) | refine A6 (Ff hit.typeIs (Aq ?_))
 refine (show wpAny _ _ (setField (.ref it) 0 .none >>= _) _ _ s from A6 (Gw hi hd (by simp) (show wpAny _ _ (newExc (.type "StopIteration") [] >>= _) _ _ _ from A6 ?_)))
 simp only [newExc,newTuple]; refine A6 (Fu ?_ (by size_fits))
 refine A6 (m:=firstArgMember _ _) (wpAny_of_eq (a:=Ee) (by first | rfl | (simp only [firstArgMember]; rfl)) (Fu ?_ (by size_fits)))
 simp only [raiseNew]; refine A6 (wpAny_handled ?_); rw [show A.in1.handled=none from hh]
 refine A6 (Aq (wpAny_throw ?_)); refine A6 (wpAny_isInstance (T := "StopIteration") (b:=true) ⟨_,Bh _ rfl,rfl⟩ isSubtype_stop ?_); exact Aq (hQ _ (((K2 ..).extBut.push _).push _))
end
theorem Cw.rev {α β : Type} {R : α -> β -> Prop}:∀ {l:List α} {m:List β} {i:Nat} {y : β},Cw R l m->m[i]?=some y->∃ x,l[i]?=some x/\R x y
 | _,_,i,x,.nil,h=>by simp at h
 | _,_,0,x,.cons h r,e=>by
  simp at e
  subst e
  exact ⟨_,rfl,h⟩
 | _,_,i + 1,x,.cons h r,e=>by
  obtain ⟨y,e1,e2⟩:=Cw.rev (i:=i) r (by simpa using e)
  exact ⟨y,by simpa using e1,e2⟩
section
variable {X:Cx} {pins:List (A3×Obj)} {σ : St} {H:Hp} {s:A4} {a:A3} {kvs:List (List Key×V)}
theorem Inv.freezeT (I:Inv X pins σ H s) (h:H a=some (.dT kvs)):∃ o,s.heap.get? a=some o/\Inv X pins σ (upd H a (.frz o (.dT kvs))) s:=by
 have ok:=(show ObjOk X.prog X.w H s.heap a (.dT kvs) from I.hok a _ h)
 obtain ⟨o,ho⟩:=ok.there
 refine ⟨o,ho,?_⟩
 have:=Inv.write (x:=a) (e:=a) (o := .frz o (.dT kvs)) (h':=s.heap) (t':=s.toks) I (by rw [h]; trivial) (.inl rfl) (fun _ _ _ q=>q) ⟨o,ho⟩ ⟨ho,ok.stay (fun _ _ _ q=>q) (fun b q=>by rw [zaf (fun z=>by rw [z,h] at q; cases q)]; exact q) fun b xs q=>by rw [zaf (fun z=>by rw [z,h] at q; cases q)]; exact q⟩
 exact this
theorem Inv.unfreezeT {o:Obj} (I:Inv X pins σ H s) (h:H a=some (.frz o (.dT kvs))) (h0:∀ o u,X.H₀ a≠some (.frz o u)):Inv X pins σ (upd H a (.dT kvs)) s:=by
 have nn:∀ b,H b=none->b≠a:=fun b q z=>by rw [z,h] at q; cases q
 obtain ⟨ho,ok⟩:=(show ObjOk X.prog X.w H s.heap a (.frz o (.dT kvs)) from I.hok a _ h)
 have own:∀ b y,H b=some (.own y)->upd H a (.dT kvs) b=some (.own y):=fun b y q=>by rw [zaf (fun z=>by rw [z,h] at q; cases q)]; exact q
 have tups:∀ b xs,H b=some (.tup xs)->upd H a (.dT kvs) b=some (.tup xs):=fun b y q=>by rw [zaf (fun z=>by rw [z,h] at q; cases q)]; exact q
 refine ⟨I.ok,I.os,I.bare,⟨I.base.keep,I.base.slot,fun b u q n hx => ?_,I.base.there,fun b xs q=>tups b xs (I.base.tups b xs q),fun b u v q => ?_,fun b ps q => ?_⟩,I.loc,I.cell,?_,fun y c e => ?_,fun p hp => ?_,fun b u q => ?_,I.len⟩
 ·have:=I.base.free b u q n hx
  rw [zaf (nn b this)]; exact this
 ·have q':=I.base.frzs b u v q
  rw [zaf (fun z=>h0 _ _ (z ▸ q))]; exact q'
 ·obtain ⟨m,e⟩:=I.base.tbls b ps q
  exact ⟨m,by rw [zaf (fun z=>by rw [z,h] at e; cases e)]; exact e⟩
 ·rw [zaf (nn _ I.free)]; exact I.free
 ·rw [zaf (nn _ (I.freeC y c e))]; exact I.freeC y c e
 ·obtain ⟨e1,e2,e3,e4,e5⟩:=I.pin p hp
  exact ⟨e1,by rw [zaf (nn _ e2)]; exact e2,e3,e4,e5⟩
 ·by_cases hb:b=a
  ·subst hb
   rw [upd_same] at q
   cases q
   exact ok.stay (fun _ _ _ q=>q) (fun c q=>own c _ q) tups
  ·rw [zaf hb] at q
   exact (I.hok b u q).stay (fun _ _ _ q=>q) (fun c q=>own c _ q) tups
end
noncomputable def IttD (a:A3) (o:Obj) (kvs:List (List Key×V)):It:=⟨fun i H=>H a=some (.frz o (.dT kvs))/\i < kvs.length,fun i H v H'=>H'=H/\∃ k y b,kvs[i]?=some (k,y)/\v = .ref b/\H b=some (.tup (k.map kV)),fun i H=>H a=some (.frz o (.dT kvs))/\kvs.length<=i⟩
theorem zfU {X:Cx} {pins:List (A3×Obj)} {σ : St} {H:Hp} {s:A4} {a:A3} {o:Obj} {kvs:List (List Key×V)} {es:Array Jf} {ep:Nat} (I:Inv X pins σ H s) (h:H a=some (.frz o (.dT kvs))) (hd:o.data = .dict es ep) :
  s.heap.get? a=some o/\(a == sysModules)=false/\o.ExactDict/\es.size=kvs.length/\∀ i (hi:i < es.size),∃ k y b,kvs[i]?=some (k,y)/\es[i].key = .ref b/\H b=some (.tup (k.map kV)):=by
 obtain ⟨ho,hz,lo,xs,kt,o',es',ep',ho',c,d,r,_⟩:=(show ObjOk X.prog X.w H s.heap a (.frz o (.dT kvs)) from I.hok a _ h)
 rw [ho] at ho'
 cases ho'
 rw [hd] at d
 cases d
 have hl:=D9 kt
 have hl2:es.size=xs.length:=by rw [<- B7,r,A1]
 refine ⟨ho,lo,c,by omega,fun i hi => ?_⟩
 have e1:es.toList[i]?=some es[i]:=by simp [hi]
 rw [r,Ad] at e1
 cases ex:xs[i]? with
 | none=>rw [ex] at e1; cases e1
 | some x =>
  rw [ex] at e1
  obtain ⟨p,ep,h1,h2,h3⟩:=Cw.rev kt ex
  refine ⟨p.1,p.2,x.2.1,ep,?_,h2⟩
  rw [<- C4 e1]
  rfl
theorem turn_dictT {P:Av} {w:Bu} {K:At} {tg:Cc} (a it:A3) (o:Obj) (kvs:List (List Key×V)) (es:Array Jf) (ep:Nat) (hd:o.data = .dict es ep) :
  Turn P w K tg (IttD a o kvs) [it] it (fun i h=>h.IsKeyIter it a i es.size ep) where
 mem:=by simp
 obj:=fun i h st b hb=>by
  have e:b=it:=by simpa using hb
  subst e
  obtain ⟨o,e,c,d⟩:=st
  exact ⟨o,e,fun v z=>by rw [d] at z; cases z⟩
 keep:=fun i h h' st k=>by
  obtain ⟨o,e,r⟩:=st
  exact ⟨o,k it (by simp) o e,r⟩
 item:=by
  intro X hP hw hK hc i pins s σ H E I hf st hg
  subst hP hw hK
  obtain ⟨hz,hi⟩:=hg
  obtain ⟨ho,lo,hex,hsz,hk⟩:=zfU I hz hd
  obtain ⟨f0,f1,f2,f3,f4,f5⟩:=hf it (by simp)
  obtain ⟨k,y,b,e1,e2,e3⟩:=hk i (by omega)
  refine ed_next st ho hd (by omega) fun h' st' sb => ?_
  have I1:Inv X pins σ H { s with heap:=h' }:=I.turned (t':=s.toks) (fun b o hb e=>(sb.2 b hb).trans e) f0 f1 f3 f4 f5
  obtain ⟨o',e,c,d⟩:=id st'
  refine ⟨_,rfl,zhM (s:={ s with heap:=h' }) e c d (by decide) ⟨.ref b,H,I1,e2,⟨rfl,k,y,b,e1,rfl,e3⟩,st',fun b hb=>(hf b hb).1⟩⟩
 done:=by
  intro X hP hw hK hc i pins s σ H E I hf st hg
  subst hP hw hK
  obtain ⟨hz,hi⟩:=hg
  obtain ⟨ho,lo,hex,hsz,hk⟩:=zfU I hz hd
  obtain ⟨f0,f1,f2,f3,f4,f5⟩:=hf it (by simp)
  exact ed_end (I.ok.hd hc) st ho hd (by omega) fun h' eb=>⟨rfl,I.turned (t':=s.toks) (fun b o hb e=>eb b o hb e) f0 f1 f3 f4 f5⟩
 self:=fun A i s Q E st h=>by
  obtain ⟨o,e,c,d⟩:=st
  exact wpAny_pyIter_keyiter ⟨o,e,c,d⟩ h
section
variable {X:Cx} {tg:Cc}
noncomputable def iDicT (i:Nat):TI:=fun σ H R=>∃ a o kvs,σ[i]?=some (some (.ref a))/\H a=some (.frz o (.dT kvs))/\R (IttD a o kvs) H
theorem pi_dicT {i:Nat} {x:Str} {np:Pos} (hx:PE X (.Name x np) (tVar i)):PI X tg (.Name x np) (iDicT i):=by
 intro pins s σ H R I h
 obtain ⟨a,o,kvs,hσ,ha,q⟩:=h
 refine thnE (hx pins s σ H (fun v H1=>v = .ref a/\H1=H) I ⟨_,hσ,rfl,rfl⟩) fun v s1 y H1 I1 r1 ⟨e1,e2⟩ => ?_
 subst e1 e2
 cases r1
 obtain ⟨ho,_,_,_,_,o',es,ep,ho',_,d,_⟩:=(show ObjOk X.prog X.w H1 s1.heap a (.frz o (.dT kvs)) from I1.hok a _ ha)
 rw [ho] at ho'
 cases ho'
 obtain ⟨_,lo,hex,hsz,_⟩:=zfU I1 ha d
 refine ed_iter lo ho hex d ?_
 refine ⟨s1.heap.objs.size,[s1.heap.objs.size],_,_,H1,rfl,I1.kept (t':=s1.toks) fun b o e=>Ag _ e,turn_dictT a _ o kvs es ep d,?_,fun b hb => ?_,q⟩
 ·exact ⟨_,Bh _ rfl,rfl,rfl⟩
 ·have e:b=s1.heap.objs.size:=by simpa using hb
  subst e
  exact I1.fpOk (A9 _) (I1.hok.fresh (A9 _))
noncomputable def DfrzT (a:A3) (o:Obj) (kvs:List (List Key×V)) (D:Ends):Ends:={ nx:=fun σ H=>H a=some (.frz o (.dT kvs))/\D.nx σ (upd H a (.dT kvs)),rt:=fun v H=>H a=some (.frz o (.dT kvs))/\D.rt v (upd H a (.dT kvs)),bk:=fun σ H=>H a=some (.frz o (.dT kvs))/\D.bk σ (upd H a (.dT kvs)),ct:=fun σ H=>H a=some (.frz o (.dT kvs))/\D.ct σ (upd H a (.dT kvs)) }
noncomputable def tForT (i:Nat) (g:TG) (tb:TS):TS:=fun D σ H=>∃ a kvs,σ[i]?=some (some (.ref a))/\H a=some (.dT kvs)/\∀ o,∃ W:Nat->Nat->St->Hp->Prop,(∃ m,W 0 m σ (upd H a (.frz o (.dT kvs))))/\∀ j m σ H,W j m σ H ->
 ((IttD a o kvs).stop j H/\(DfrzT a o kvs D).nx σ H)\/((IttD a o kvs).go j H/\∃ N:St->Hp->Prop,(∀ σ' H',N σ' H'->∃ m',m' < m/\W (j + 1) m' σ' H') /\
  ∀ x H',(IttD a o kvs).yld j H x H'->g x σ H' fun σ2 H2=>tb { DfrzT a o kvs D with nx:=N,ct:=N,bk:=(DfrzT a o kvs D).nx } σ2 H2)
theorem ps_forT {i:Nat} {x:Str} {body:List Cd} {g:TG} {tb:TS} {np pos:Pos} (hp:Oa (model X.prog X.w) X.A X.env X.xe) (hc:X.calm=true) (hx:PE X (.Name x np) (tVar i)) (hg:PG X tg g) (hb:PSs X body tb)
  (hs:∀ y,foldedSetIterable (.Name x np) X.env y=pure y:=by intro _; rfl):PS X (.For tg (.Name x np) body [] pos) (tForT i g tb):=by
 intro pins s σ H D I h
 obtain ⟨a,kvs,hσ,ha,h⟩:=h
 obtain ⟨o,ho,I1⟩:=I.freezeT ha
 have h0:∀ o u,X.H₀ a≠some (.frz o u):=fun o' u z=>by
  have:=I.base.frzs a o' u z
  rw [ha] at this
  cases this
 refine Dq (zaZ hp hc (pi_dicT hx) hg hb hs pins s σ (upd H a (.frz o (.dT kvs))) (DfrzT a o kvs D) I1 ⟨a,o,kvs,hσ,upd_same,h o⟩) (fun f s' q => ?_) fun _ _ z=>z
 cases f with
 | next=>obtain ⟨σ',H',J,e,q⟩:=q; exact ⟨σ',_,J.unfreezeT e h0,q⟩
 | brk=>obtain ⟨σ',H',J,e,q⟩:=q; exact ⟨σ',_,J.unfreezeT e h0,q⟩
 | cont=>obtain ⟨σ',H',J,e,q⟩:=q; exact ⟨σ',_,J.unfreezeT e h0,q⟩
 | ret u=>obtain ⟨v,σ',H',J,r,e,q⟩:=q; exact ⟨v,σ',_,J.unfreezeT e h0,r,q⟩
end
section
variable {prog:Av} {w:Bu} {A:Bd} {E:A0->A4->Prop} {s:A4} {d:A3} {o:Obj} {es:Array Jf} {ep:Nat}
end
noncomputable def kI (ns:List Int):List Key:=ns.map Cp
theorem kI_V (ns:List Int):(kI ns).map kV=ns.map V.int:=by unfold kI; rw [B5]; rfl
theorem zen:∀ {a b:List Int},kI a=kI b->a=b
 | [],[],_=>rfl
 | [],_ :: _,h=>by cases h
 | _ :: _,[],h=>by cases h
 | x :: a,y :: b,h=>by
  unfold kI at h
  rw [Al,Al] at h
  injection h with h1 h2
  injection h1 with h1
  rw [h1,zen h2]
section
variable {X:Cx}
end
theorem steps_perm {C C':Combs} (p:C.Perm C') (n:Int):(stepsOf C n).Perm (stepsOf C' n):=by
 unfold stepsOf
 split
 ·exact Hd _
 ·exact (p.filter _).map _
theorem fold_max (l:List Int) (a:Int):(∀ x∈l,x<=l.foldl max a)/\a<=l.foldl max a/\(l.foldl max a=a\/l.foldl max a∈l):=by
 induction l generalizing a with
 | nil=>exact ⟨by simp,Do _,.inl rfl⟩
 | cons x l ih =>
  obtain ⟨h1,h2,h3⟩:=ih (max a x)
  rw [Hq]
  refine ⟨fun y hy => ?_,by omega,?_⟩
  ·rcases Bc.mp hy with rfl | hy
   ·omega
   ·exact h1 y hy
  ·rcases h3 with h | h
   ·rcases Int.le_total a x with z | z
    ·exact .inr (by rw [h,Int.max_eq_right z]; exact Ap)
    ·exact .inl (by rw [h,Int.max_eq_left z])
   ·exact .inr (Ak _ h)
theorem ahead_inj {a b:Nat} (ha:a < 128) (hb:b < 128) (h:aheadOf (a:Int)=aheadOf (b:Int)):a=b:=by
 have h1:=zbh (n:=(a:Int)) (by omega) (by omega)
 have h2:=zbh (n:=(b:Int)) (by omega) (by omega)
 rw [h,h2] at h1
 omega
noncomputable def akey (s:Nat):List Key:=kI (aheadOf (s:Int))
theorem zdw {a b:Nat} (ha:a < 128) (hb:b < 128) (h:akey a=akey b):a=b:=ahead_inj ha hb (zen h)
theorem valV_mem {κ : Type} [DecidableEq κ] {kvs:List (κ × V)} {k : κ}:(valV kvs k).isSome=true ↔ k∈kvs.map (·.1):=by
 rw [<- zbq,Bj,A7]
 constructor
 ·rintro ⟨x,hx,e⟩; exact ⟨x,hx,of_decide_eq_true e⟩
 ·rintro ⟨x,hx,e⟩; exact ⟨x,hx,decide_eq_true e⟩
theorem zez {κ : Type} [DecidableEq κ]:∀ {kvs:List (κ × V)} {i:Nat} {k : κ} {v:V},(kvs.map (·.1)).Nodup->kvs[i]?=some (k,v)->valV kvs k=some v
 | [],_,_,_,_,h=>by simp at h
 | p :: kvs,0,k,v,nd,h=>by
  simp at h
  subst h
  exact za1 rfl
 | p :: kvs,i + 1,k,v,nd,h=>by
  rw [Al,Di] at nd
  have h':kvs[i]?=some (k,v):=by simpa using h
  rw [zaW (fun z=>nd.1 (z ▸ A7.mpr ⟨(k,v),Br h',rfl⟩))]
  exact zez nd.2 h'
theorem zbM {ks:Combs} {s:Nat} (hs:s < 128) (g:GC ks):(goesOf ks (aheadOf (s:Int))).map (fun p=>(p.1,worth p.2))=stp ks s:=zeb (by omega) (by omega) g
theorem zdt {ks:Combs} {s:Nat} (hs:s < 128) (g:GC ks) {p:Str×List Int} (hp:p∈goesOf ks (aheadOf (s:Int))):(worth p.2).toNat < 128/\0<=worth p.2/\kI p.2=akey (worth p.2).toNat/\(p.1,worth p.2)∈stp ks s:=by
 have hm:(p.1,worth p.2)∈stp ks s:=by rw [<- zbM hs g]; exact A7.mpr ⟨p,hp,rfl⟩
 have hlt:=zbt g hs hm
 refine ⟨hlt.2,hlt.1,?_,hm⟩
 have:∃ a b,p.2=afterOf a b:=by
  unfold goesOf at hp
  split at hp
  ·rw [A5.mp hp]; exact ⟨_,_,rfl⟩
  ·obtain ⟨c,_,rfl⟩:=A7.mp hp; exact ⟨_,_,rfl⟩
 obtain ⟨a,b,e⟩:=this
 unfold akey
 rw [show (((worth p.2).toNat:Nat):Int)=worth p.2 by have:=hlt.1; show _=_; omega]
 congr 1
 rw [e]
 have hs:afterOf a b=((Af 7).filter fun i=>decide (((i:Nat):Int)∈afterOf a b)).map fun i=>((i:Nat):Int):=by
  refine zbu ?_ ((zdx a b).imp fun h=>by omega) ?_
  ·rw [D1 (zaS (zdx a b))]
   ·intro t
    simp only [A7,Az,Ax,decide_eq_true_eq]
    constructor
    ·intro h
     have:=zgS t h
     exact ⟨t.toNat,⟨by omega,by rwa [show ((t.toNat:Nat):Int)=t by omega]⟩,by omega⟩
    ·rintro ⟨i,⟨_,h⟩,rfl⟩
     exact h
   ·refine zaS ?_
    rw [Bb]
    refine Ba Ci (Ek ?_ (D5 (n:=7)))
    intro a b h
    omega
  ·rw [Bb]
   refine Ba Ci (Ek ?_ (D5 (n:=7)))
   intro a b h
   omega
 rw [hs]
 exact (ahead_worth _).symm
theorem forT_g {a:A3} {o:Obj} {kvs:List (List Key×V)} {g:TG} {tb:TS} {D:Ends} {σ : St} {H:Hp} (Pv:Nat->St->Hp->Prop) (h0:Pv 0 σ H) (hk:∀ i σ H,Pv i σ H->H a=some (.frz o (.dT kvs)))
  (hs:∀ i k y b σ H,kvs[i]?=some (k,y)->H b=some (.tup (k.map kV))->Pv i σ H->g (.ref b) σ H fun σ2 H2=>tb { D with nx:=Pv (i + 1),ct:=Pv (i + 1),bk:=D.nx } σ2 H2) (hd:∀ σ H,Pv kvs.length σ H->D.nx σ H) :
  ∃ W:Nat->Nat->St->Hp->Prop,(∃ m,W 0 m σ H)/\∀ j m σ H,W j m σ H->((IttD a o kvs).stop j H/\D.nx σ H)\/((IttD a o kvs).go j H/\∃ N:St->Hp->Prop,(∀ σ' H',N σ' H'->∃ m',m' < m/\W (j + 1) m' σ' H') /\
   ∀ x H',(IttD a o kvs).yld j H x H'->g x σ H' fun σ2 H2=>tb { D with nx:=N,ct:=N,bk:=D.nx } σ2 H2):=by
 refine ⟨fun j m σ H=>m=kvs.length - j/\j<=kvs.length/\Pv j σ H,⟨_,rfl,By _,h0⟩,?_⟩
 rintro j m σ H ⟨rfl,hj,p⟩
 by_cases hlt:j < kvs.length
 ·refine .inr ⟨⟨hk _ _ _ p,hlt⟩,Pv (j + 1),fun σ' H' p'=>⟨kvs.length - (j + 1),by omega,rfl,hlt,p'⟩,?_⟩
  rintro x H' ⟨rfl,k,y,b,e1,rfl,e3⟩
  exact hs j k y b σ _ e1 e3 p
 ·have e:j=kvs.length:=by omega
  subst e
  exact .inl ⟨⟨hk _ _ _ p,A9 _⟩,hd σ H p⟩
theorem GoesR.nth {H:Hp} {vs:List V} {gs:List (Str×List Int)} (r:GoesR H vs gs) {i:Nat} {x:V} (h:vs[i]?=some x):∃ q t,x = .ref q/\H q=some (.tup [.str (gs.getD i ("",[])).1,.ref t])/\H t=some (.tup ((gs.getD i ("",[])).2.map V.int))/\i < gs.length:=by
 have hi:i < gs.length:=by rw [<- r.length]; exact (Ah.mp h).1
 obtain ⟨q,t,e1,e2,e3⟩:=r.get (A8 hi)
 rw [h] at e1
 cases e1
 refine ⟨q,t,rfl,?_,?_,hi⟩
 ·rw [Ac,A8 hi]; exact e2
 ·rw [Ac,A8 hi]; exact e3
noncomputable def ind (b:Bool):Nat:=if b=true then 1 else 0
noncomputable def sumR (n:Nat) (g:Nat->Nat):Nat:=((Af n).map g).sum
theorem sumR_zero (g:Nat->Nat):sumR 0 g=0:=rfl
theorem za7 (n:Nat) (g:Nat->Nat):sumR (n + 1) g=sumR n g + g n:=by
 unfold sumR
 rw [Dh,Ao,Fa]
 simp
theorem zaN {n:Nat} {g h:Nat->Nat} (e:∀ i,i < n->g i=h i):sumR n g=sumR n h:=by
 unfold sumR
 congr 1
 exact C7 fun i hi=>e i (Ax.mp hi)
theorem zeF {n:Nat} {g:Nat->Nat} (e:∀ i,i < n->g i=0):sumR n g=0:=by
 induction n with
 | zero=>rfl
 | succ n ih=>rw [za7,ih fun i hi=>e i (by omega),e n (by omega)]
theorem zgb (n:Nat) (g h:Nat->Nat):sumR n (fun i=>g i + h i)=sumR n g + sumR n h:=by
 induction n with
 | zero=>rfl
 | succ n ih=>rw [za7,za7,za7,ih]; omega
theorem sumR_swap (n m:Nat) (g:Nat->Nat->Nat):sumR n (fun i=>sumR m (g i))=sumR m fun j=>sumR n fun i=>g i j:=by
 induction n with
 | zero=>exact (zeF fun _ _=>rfl).symm
 | succ n ih =>
  rw [za7,ih,<- zgb]
  exact zaN fun j _=>by rw [za7]
theorem zeE {n j0:Nat} {p:Nat->Bool} {g:Nat->Nat} (hj:j0 < n) (hp:∀ j,j < n->(p j=true ↔ j=j0)):sumR n (fun j=>if p j=true then g j else 0)=g j0:=by
 induction n with
 | zero=>omega
 | succ n ih =>
  rw [za7]
  by_cases e:j0=n
  ·subst e
   rw [zeF fun i hi=>if_neg (fun z=>by have:=(hp i (by omega)).mp z; omega),if_pos ((hp j0 (by omega)).mpr rfl),Fp]
  ·rw [ih (by omega) fun j hj'=>hp j (by omega),if_neg (fun z=>e ((hp n (by omega)).mp z).symm),F6]
structure Tile (sp:Nat) (al ta:Nat->Nat->Bool):Prop where
 pos:1<=sp
 pa:∀ k d,al (k + sp) d=al k d
 pt:∀ k d,ta (k + sp) d=ta k d
 la:∀ k d,7<=d->al k d=false
 lt:∀ k d,8<=d->ta k d=false
 one:∀ k,ind (al k 0) + ind (ta k 0)=1
 step:∀ k d,ind (al (k + 1) d)=ind (al k (d + 1)) + ind (ta k (d + 1))
namespace Tile
variable {sp:Nat} {al ta:Nat->Nat->Bool}
end Tile
noncomputable def tkOf (C:Combs) (x:Str):List Int:=(cGet C x).getD []
theorem zdQ {ah ts:List Int} (ha:∀ t∈ah,0<=t/\t<=6) (ht:∀ t∈ts,0<=t/\t<=7) (d:Nat):(d:Int)∈afterOf ah ts ↔ ((d + 1:Nat):Int)∈ah\/((d + 1:Nat):Int)∈ts:=by
 unfold afterOf
 rw [A7]
 constructor
 ·rintro ⟨y,hy,e⟩
  obtain ⟨h1,h2⟩:=Az.mp hy
  have h3:=(mem_canon.mp h1).1
  rw [show ((d + 1:Nat):Int)=y by omega]
  exact An.mp h3
 ·intro h
  refine ⟨((d + 1:Nat):Int),Az.mpr ⟨mem_canon.mpr ⟨An.mpr h,?_⟩,decide_eq_true (by omega)⟩,by omega⟩
  rcases h with h | h
  ·have:=ha _ h; omega
  ·exact ht _ h
theorem tk_perm {C C':Combs} (p:C.Perm C') (nd:(C.map (·.1)).Nodup) (x:Str):cGet C x=cGet C' x:=by
 have nd':(C'.map (·.1)).Nodup:=(p.map _).nodup_iff.mp nd
 cases e:cGet C x with
 | none =>
  symm
  rw [get_none] at e ⊢
  exact fun z=>e ((p.map _).mem_iff.mpr z)
 | some ts=>exact (zb6 nd' (p.mem_iff.mp (zeV e))).symm
noncomputable def laid (nm:Nat->Str) (sp:Nat):List Nat:=(Af sp).filter fun j=>decide (nm j≠A2 "")
theorem zga (n c:Nat) (g:Nat->Nat):c * sumR n g=sumR n fun i=>c * g i:=by
 induction n with
 | zero=>simp [sumR_zero]
 | succ n ih=>rw [za7,za7,P3,ih]
theorem KindsL.getG {G:A3->Prop} {H:Hp}:∀ {vs:List V} {ks:List (Str×List Int)} {i:Nat} {v:V},KindsL G H vs ks->vs[i]?=some v->∃ k q t,ks[i]?=some k/\v = .ref q/\H q=some (.lst [.str k.1,.ref t])/\H t=some (.lst (k.2.map V.int))/\G t
 | [],[],_,_,_,e=>by simp at e
 | _ :: _,k :: _,0,_,⟨⟨q,t,e,h1,h2,g1,g2⟩,_⟩,z=>by
  simp at z
  subst z
  exact ⟨k,q,t,rfl,e,h1,h2,g2⟩
 | _ :: _,_ :: _,i + 1,_,⟨_,b⟩,z=>by
  obtain ⟨k,q,t,h⟩:=KindsL.getG (i:=i) b (by simpa using z)
  exact ⟨k,q,t,by simpa using h⟩
 | [],_ :: _,_,_,x,_=>x.elim
 | _ :: _,[],_,_,x,_=>x.elim
theorem KindsL.live {G:A3->Prop} {H:Hp}:∀ {vs:List V} {ks:List (Str×List Int)},KindsL G H vs ks->KindsL (fun x=>H x≠none) H vs ks
 | [],[],_=>trivial
 | _ :: _,_ :: _,⟨⟨q,t,e,h1,h2,_,_⟩,r⟩=>⟨⟨q,t,e,h1,h2,(show H q≠none by rw [h1]; exact nofun),(show H t≠none by rw [h2]; exact nofun)⟩,KindsL.live r⟩
 | [],_ :: _,x=>x.elim
 | _ :: _,[],x=>x.elim
theorem Drawn.live {G:A3->Prop} {H:Hp} {vs:List V} {ks:List (Str×List Int)} (d:Drawn G H vs ks):Drawn (fun x=>H x≠none) H vs ks:=⟨d.rows.live,d.nd,d.good⟩
noncomputable abbrev gallopS:Bool->Keyed->Array Keyed->Nat->Nat->Nat->StateT SortSt Sem (Option Nat):=sortPriv% PySem.Builtin.gallop
structure Ranks (prog:Av) (w:Bu) (A:Bd) (E:A0->A4->Prop) (s:A4) (kd:Hw) (S:Ay->Prop) (rk:Ay->Int):Prop where
 ask:∀ {x y:Ay} {st:C3} {Q:Option Bool->C3->Prop},S x->S y->kindOf st=kd->Q (some (decide (rk x < rk y))) st->wpS (model prog w) A E s (lt' x y) Q st
section
variable {prog:Av} {w:Bu} {A:Bd} {E:A0->A4->Prop} {s:A4} {kd:Hw} {S:Ay->Prop} {rk:Ay->Int}
noncomputable def kAt (rk:Ay->Int) (arr:Array Ay) (i:Nat):Int:=match arr[i]? with
 | some x=>rk x
 | none=>0
theorem za3 {arr:Array Ay} {i:Nat} (h:i < arr.size):kAt rk arr i=rk arr[i]:=by unfold kAt; rw [Gj h]
theorem zaI {arr:Array Ay} {i:Nat} {Q:Ay->C3->Prop} {st:C3} (h:i < arr.size) (q:Q arr[i] st):wpS (model prog w) A E s (elem' arr i) Q st:=by
 rw [elem'_eq,Gj h]
 exact Am q
noncomputable def Up2 (rk:Ay->Int) (arr:Array Ay) (lo hi:Nat):Prop:=∀ i j,lo<=i->i<=j->j < hi->kAt rk arr i<=kAt rk arr j
theorem zbN (C:Ranks prog w A E s kd S rk) {left:Bool} {key:Ay} {arr:Array Ay} {b n hint:Nat} {Q:Option Nat->C3->Prop} {st:C3} (hk:S key) (hS:∀ i (h:i < arr.size),b<=i->i < b + n->S arr[i]) (sz:b + n<=arr.size) (hh:hint < n) (up:Up2 rk arr b (b + n)) (hst:kindOf st=kd)
  (q:∀ k,k<=n->(∀ i,i < k->(if left=true then kAt rk arr (b + i) < rk key else kAt rk arr (b + i)<=rk key))->(∀ i,k<=i->i < n->(if left=true then rk key<=kAt rk arr (b + i) else rk key < kAt rk arr (b + i)))->Q (some k) st) :
  wpS (model prog w) A E s (gallopS left key arr b n hint) Q st:=by
 obtain ⟨P,hP⟩:∃ P:Nat->Bool,P=fun i=>if left=true then decide (kAt rk arr (b + i) < rk key) else decide (kAt rk arr (b + i)<=rk key):=⟨_,rfl⟩
 have mono:∀ i j,i<=j->j < n->P j=true->P i=true:=fun i j hij hj h=>by
  have:=up (b + i) (b + j) (by omega) (by omega) (by omega)
  rw [hP] at h ⊢
  dsimp only at h ⊢
  cases left
  ·simp at h ⊢; omega
  ·simp at h ⊢; omega
 have q':∀ k,k<=n->(∀ i,i < k->P i=true)->(∀ i,k<=i->i < n->P i=false)->Q (some k) st:=fun k h1 h2 h3=>by
  refine q k h1 (fun i hi => ?_) (fun i h4 h5 => ?_)
  ·have:=h2 i hi
   rw [hP] at this
   cases left <;> simpa using this
  ·have:=h3 i h4 h5
   rw [hP] at this
   cases left <;> simpa using this
 have bey:∀ i,i < n->∀ (Q':Option Bool->C3->Prop),Q' (some (P i)) st->wpS (model prog w) A E s (do
   let x <- elem' arr (b + i)
   if left=true then lt' x key else do
    let r <- lt' key x
    pure (Lq (fun x => !x) r)) Q' st:=fun i hi Q' h=>by
  refine Ai (zaI (by omega) ?_)
  have hSi:=hS (b + i) (by omega) (by omega) (by omega)
  have e:=za3 (rk:=rk) (show b + i < arr.size by omega)
  cases hl:left with
  | true =>
   rw [if_pos rfl]
   refine C.ask hSi hk hst ?_
   rw [hP,hl] at h
   simpa [e] using h
  | false =>
   rw [if_neg Aa]
   refine Ai (C.ask hk hSi hst (Am ?_))
   rw [hP,hl] at h
   have e2:(!decide (rk key < rk arr[b + i]))=decide (kAt rk arr (b + i)<=rk key):=by
    rw [e,<- decide_not,decide_eq_decide]; omega
   show Q' (some (!decide (rk key < rk arr[b + i]))) st
   rw [e2]
   simpa using h
 have bin:∀ lo hi,lo<=hi->hi<=n->(∀ i,i < lo->P i=true)->(∀ i,hi<=i->i < n->P i=false)->∀ (F:Nat->Option (Option Nat)×Nat×Nat->StateT C3 Sem (ForInStep (Option (Option Nat)×Nat×Nat))),
   (∀ x lo hi,lo < hi->hi<=n->∀ R:ForInStep (Option (Option Nat)×Nat×Nat)->C3->Prop,R (.yield (none,if P (lo + (hi - lo) / 2)=true then (lo + (hi - lo) / 2 + 1,hi) else (lo,lo + (hi - lo) / 2))) st->wpS (model prog w) A E s (F x (none,lo,hi)) R st) ->
   (∀ x lo hi,hi<=lo->∀ R:ForInStep (Option (Option Nat)×Nat×Nat)->C3->Prop,R (.done (none,lo,hi)) st->wpS (model prog w) A E s (F x (none,lo,hi)) R st) ->
   wpS (model prog w) A E s (forIn [:n] (none,lo,hi) F) (fun c st'=>st'=st/\∃ k,c.1=none/\c.2.2=k/\k<=n/\(∀ i,i < k->P i=true)/\(∀ i,k<=i->i < n->P i=false)) st:=fun lo hi h1 h2 h3 h4 F f1 f2=>by
  refine D0 (I:=fun x c st'=>st'=st/\∃ lo hi,c=(none,lo,hi)/\lo<=hi/\hi<=n/\hi - lo + x<=n/\(∀ i,i < lo->P i=true)/\(∀ i,hi<=i->i < n->P i=false)) ?_ ?_ ⟨rfl,lo,hi,rfl,h1,h2,by omega,h3,h4⟩
  ·rintro x c st' _ hx ⟨rfl,lo,hi,rfl,a1,a2,a3,a4,a5⟩
   by_cases e:lo < hi
   ·refine f1 x lo hi e a2 _ ?_
    dsimp only
    cases hm:P (lo + (hi - lo) / 2) with
    | true=>exact ⟨rfl,lo + (hi - lo) / 2 + 1,hi,rfl,by omega,a2,by omega,fun i hi'=>mono i (lo + (hi - lo) / 2) (by omega) (by omega) hm,a5⟩
    | false =>
     refine ⟨rfl,lo,lo + (hi - lo) / 2,rfl,by omega,by omega,by omega,a4,fun i h6 h7 => ?_⟩
     cases hz:P i with
     | false=>rfl
     | true=>rw [mono _ i h6 h7 hz] at hm; cases hm
   ·exact f2 x lo hi (by omega) _ ⟨rfl,hi,rfl,rfl,a2,fun i hi'=>a4 i (by omega),a5⟩
  ·rintro c st' ⟨rfl,lo,hi,rfl,a1,a2,a3,a4,a5⟩
   exact ⟨rfl,hi,rfl,rfl,a2,fun i hi'=>a4 i (by omega),a5⟩
 refine Ai (bey hint hh _ ?_)
 dsimp only
 cases hr:P hint with
 | true =>
  rw [if_pos rfl]
  refine Ai (E6 (D0 (I:=fun x c st'=>st'=st/\∃ la off,c=(none,la,off)/\la < off/\x + 1<=off/\hint + la < n/\P (hint + la)=true) (Q:=fun c st'=>st'=st/\∃ la off,c=(none,la,off)/\la < off/\hint + la < n/\P (hint + la)=true/\(n - hint<=off\/(off < n - hint/\P (hint + off)=false))) ?step ?fin ⟨rfl,0,1,rfl,by omega,by omega,by omega,hr⟩) ?post)
  case fin =>
   rintro c st' ⟨rfl,la,off,rfl,a1,a2,a3,a4⟩
   exact ⟨rfl,la,off,rfl,a1,a3,a4,.inl (by omega)⟩
  case step =>
   rintro x c st' _ hx ⟨rfl,la,off,rfl,a1,a2,a3,a4⟩
   dsimp only
   by_cases e:off>=n - hint
   ·rw [if_pos e]
    exact Am ⟨rfl,la,off,rfl,a1,a3,a4,.inl e⟩
   ·rw [if_neg e]
    refine Ai (bey (hint + off) (by omega) _ ?_)
    dsimp only
    cases hm:P (hint + off) with
    | true =>
     rw [if_neg (by decide)]
     exact Am ⟨rfl,off,2 * off + 1,rfl,by omega,by omega,by omega,hm⟩
    | false =>
     rw [if_pos (by decide)]
     exact Am ⟨rfl,la,off,rfl,a1,a3,a4,.inr ⟨by omega,hm⟩⟩
  case post =>
   rintro c st' ⟨rfl,la,off,rfl,a1,a3,a4,a5⟩
   dsimp only
   refine Ai (E6 (bin (hint + la + 1) (hint + min off (n - hint)) (by omega) (by omega) (fun i hi=>mono i (hint + la) (by omega) a3 a4) (fun i h6 h7 => ?_) _ (fun x lo hi h1 h2 R hR => ?_) fun x lo hi h1 R hR => ?_) (by rintro ⟨r,lo',hi'⟩ st2 ⟨rfl,k,e1,e2,h1,h2,h3⟩; dsimp only at e1 e2 ⊢; subst e1 e2; exact Am (q' _ h1 h2 h3)))
   ·rcases a5 with z | ⟨z1,z2⟩
    ·omega
    ·cases hz:P i with
     | false=>rfl
     | true=>rw [mono (hint + off) i (by omega) h7 hz] at z2; cases z2
   ·dsimp only
    rw [if_neg (by omega)]
    refine Ai (bey _ (by omega) _ ?_)
    dsimp only
    cases hm:P (lo + (hi - lo) / 2) with
    | true=>rw [if_pos rfl]; rw [hm,if_pos rfl] at hR; exact Am hR
    | false=>rw [if_neg Aa]; rw [hm,if_neg Aa] at hR; exact Am hR
   ·dsimp only
    rw [if_pos h1]
    exact Am hR
 | false =>
  rw [if_neg Aa]
  refine Ai (E6 (D0 (I:=fun x c st'=>st'=st/\∃ la off,c=(none,la,off)/\la < off/\x + 1<=off/\la<=hint/\P (hint - la)=false) (Q:=fun c st'=>st'=st/\∃ la off,c=(none,la,off)/\la < off/\la<=hint/\P (hint - la)=false/\(hint + 1<=off\/(off < hint + 1/\P (hint - off)=true))) ?step ?fin ⟨rfl,0,1,rfl,by omega,by omega,by omega,hr⟩) ?post)
  case fin =>
   rintro c st' ⟨rfl,la,off,rfl,a1,a2,a3,a4⟩
   exact ⟨rfl,la,off,rfl,a1,a3,a4,.inl (by omega)⟩
  case step =>
   rintro x c st' _ hx ⟨rfl,la,off,rfl,a1,a2,a3,a4⟩
   dsimp only
   by_cases e:off>=hint + 1
   ·rw [if_pos e]
    exact Am ⟨rfl,la,off,rfl,a1,a3,a4,.inl e⟩
   ·rw [if_neg e]
    refine Ai (bey (hint - off) (by omega) _ ?_)
    dsimp only
    cases hm:P (hint - off) with
    | true =>
     rw [if_pos rfl]
     exact Am ⟨rfl,la,off,rfl,a1,a3,a4,.inr ⟨by omega,hm⟩⟩
    | false =>
     rw [if_neg Aa]
     exact Am ⟨rfl,off,2 * off + 1,rfl,by omega,by omega,by omega,hm⟩
  case post =>
   rintro c st' ⟨rfl,la,off,rfl,a1,a3,a4,a5⟩
   dsimp only
   refine Ai (E6 (bin (hint + 1 - min off (hint + 1)) (hint - la) (by omega) (by omega) (fun i hi => ?_) (fun i h6 h7 => ?_) _ (fun x lo hi h1 h2 R hR => ?_) fun x lo hi h1 R hR => ?_) (by rintro ⟨r,lo',hi'⟩ st2 ⟨rfl,k,e1,e2,h1,h2,h3⟩; dsimp only at e1 e2 ⊢; subst e1 e2; exact Am (q' _ h1 h2 h3)))
   ·rcases a5 with z | ⟨z1,z2⟩
    ·omega
    ·exact mono i (hint - off) (by omega) (by omega) z2
   ·cases hz:P i with
    | false=>rfl
    | true=>rw [mono (hint - la) i h6 h7 hz] at a4; cases a4
   ·dsimp only
    rw [if_neg (by omega)]
    refine Ai (bey _ (by omega) _ ?_)
    dsimp only
    cases hm:P (lo + (hi - lo) / 2) with
    | true=>rw [if_pos rfl]; rw [hm,if_pos rfl] at hR; exact Am hR
    | false=>rw [if_neg Aa]; rw [hm,if_neg Aa] at hR; exact Am hR
   ·dsimp only
    rw [if_pos h1]
    exact Am hR
end
noncomputable abbrev Srt (rk:Ay->Int) (l:List Ay):Prop:=l.Pairwise fun x y=>rk x<=rk y
structure MI (rk:Ay->Int) (la lb out:List Ay) (ia ib:Nat):Prop where
 perm:out.Perm (la.take ia ++ lb.take ib)
 srt:Srt rk out
 low:∀ x∈out,(∀ y∈la.drop ia,rk x<=rk y)/\∀ y∈lb.drop ib,rk x<=rk y
noncomputable def MFin (rk:Ay->Int) (la lb res:List Ay):Prop:=res.Perm (la ++ lb)/\Srt rk res
section
variable {rk:Ay->Int} {la lb out:List Ay} {ia ib:Nat}
theorem za5 {l:List Ay} {i:Nat} (h:i < l.length):l.drop i=l[i] :: l.drop (i + 1):=Eb h
theorem zeG {l:List Ay} (s:Srt rk l) {i:Nat} (h:i < l.length):∀ y∈l.drop (i + 1),rk l[i]<=rk y:=by
 have:=Ba (Fk i l) s
 rw [za5 h] at this
 exact (Gd.mp this).1
theorem MI.pushA (m:MI rk la lb out ia ib) (sa:Srt rk la) (h:ia < la.length) (hb:∀ y∈lb.drop ib,rk la[ia]<=rk y):MI rk la lb (out ++ [la[ia]]) (ia + 1) ib:=by
 have hd:=za5 h
 refine ⟨?_,?_,fun x hx => ?_⟩
 ·rw [Cz h]
  have:=m.perm.append_right [la[ia]]
  refine this.trans ?_
  rw [Aw,Aw]
  exact D6 _ Ds
 ·refine C1.mpr ⟨m.srt,by simp,fun x hx y hy => ?_⟩
  rw [A5.mp hy]
  exact (m.low x hx).1 _ (by rw [hd]; exact Ap)
 ·rcases An.mp hx with z | z
  ·exact ⟨fun y hy=>(m.low x z).1 y (by rw [hd]; exact Ak _ hy),(m.low x z).2⟩
  ·rw [A5.mp z]
   exact ⟨zeG sa h,hb⟩
theorem MI.pushB (m:MI rk la lb out ia ib) (sb:Srt rk lb) (h:ib < lb.length) (ha:∀ y∈la.drop ia,rk lb[ib]<=rk y):MI rk la lb (out ++ [lb[ib]]) ia (ib + 1):=by
 have hd:=za5 h
 refine ⟨?_,?_,fun x hx => ?_⟩
 ·rw [Cz h]
  have:=m.perm.append_right [lb[ib]]
  rwa [Aw] at this
 ·refine C1.mpr ⟨m.srt,by simp,fun x hx y hy => ?_⟩
  rw [A5.mp hy]
  exact (m.low x hx).2 _ (by rw [hd]; exact Ap)
 ·rcases An.mp hx with z | z
  ·exact ⟨(m.low x z).1,fun y hy=>(m.low x z).2 y (by rw [hd]; exact Ak _ hy)⟩
  ·rw [A5.mp z]
   exact ⟨ha,zeG sb h⟩
theorem MI.moreA (sa:Srt rk la):∀ {k ia:Nat} {out:List Ay},MI rk la lb out ia ib->ia + k<=la.length->(∀ i (h:i < la.length),ia<=i->i < ia + k->∀ y∈lb.drop ib,rk la[i]<=rk y)->MI rk la lb (out ++ (la.drop ia).take k) (ia + k) ib
 | 0,ia,out,m,_,_=>by simpa using m
 | k + 1,ia,out,m,h,hy=>by
  have m1:=m.pushA sa (by omega) (hy ia (by omega) (A9 _) (by omega))
  have m2:=MI.moreA sa (k:=k) m1 (by omega) fun i hi h1 h2=>hy i hi (by omega) (by omega)
  rw [za5 (show ia < la.length by omega),G7]
  rw [Aw,Ll,show ia + 1 + k=ia + (k + 1) by omega] at m2
  exact m2
theorem MI.moreB (sb:Srt rk lb):∀ {k ib:Nat} {out:List Ay},MI rk la lb out ia ib->ib + k<=lb.length->(∀ i (h:i < lb.length),ib<=i->i < ib + k->∀ y∈la.drop ia,rk lb[i]<=rk y)->MI rk la lb (out ++ (lb.drop ib).take k) ia (ib + k)
 | 0,ib,out,m,_,_=>by simpa using m
 | k + 1,ib,out,m,h,hy=>by
  have m1:=m.pushB sb (by omega) (hy ib (by omega) (A9 _) (by omega))
  have m2:=MI.moreB sb (k:=k) m1 (by omega) fun i hi h1 h2=>hy i hi (by omega) (by omega)
  rw [za5 (show ib < lb.length by omega),G7]
  rw [Aw,Ll,show ib + 1 + k=ib + (k + 1) by omega] at m2
  exact m2
theorem MI.restA (m:MI rk la lb out ia lb.length) (sa:Srt rk la):MFin rk la lb (out ++ la.drop ia):=by
 refine ⟨?_,C1.mpr ⟨m.srt,Ba (Fk _ _) sa,fun x hx y hy=>(m.low x hx).1 y hy⟩⟩
 have:=m.perm.append_right (la.drop ia)
 rw [C6] at this
 refine this.trans ?_
 rw [Aw]
 refine (D6 _ Ds).trans ?_
 rw [<- Aw,Cb]
theorem MI.restB (m:MI rk la lb out la.length ib) (sb:Srt rk lb):MFin rk la lb (out ++ lb.drop ib):=by
 refine ⟨?_,C1.mpr ⟨m.srt,Ba (Fk _ _) sb,fun x hx y hy=>(m.low x hx).2 y hy⟩⟩
 have:=m.perm.append_right (lb.drop ib)
 rw [C6,Aw,Cb] at this
 exact this
theorem MI.restBA (m:MI rk la lb out ia ib) (sa:Srt rk la) (sb:Srt rk lb) (h:∀ x∈lb.drop ib,∀ y∈la.drop ia,rk x<=rk y):MFin rk la lb (out ++ lb.drop ib ++ la.drop ia):=by
 refine ⟨?_,C1.mpr ⟨C1.mpr ⟨m.srt,Ba (Fk _ _) sb,fun x hx y hy=>(m.low x hx).2 y hy⟩,Ba (Fk _ _) sa,fun x hx y hy => ?_⟩⟩
 ·have:=m.perm.append_right (lb.drop ib ++ la.drop ia)
  rw [<- Aw] at this
  refine this.trans ?_
  rw [Aw,<- Aw (lb.take ib),Cb]
  refine (D6 _ Ds).trans ?_
  rw [<- Aw,Cb]
 ·rcases An.mp hx with z | z
  ·exact (m.low x z).1 y hy
  ·exact h x z y hy
end
theorem zaR (a:Array Ay) (i j:Nat):(a.extract i j).toList=(a.toList.drop i).take (j - i):=by simp
theorem zaU (a:Array Ay) (i:Nat):(a.extract i).toList=a.toList.drop i:=by
 rw [zaR]
 exact E1 (by simp)
noncomputable def Like (st st':C3):Prop:=kindOf st'=kindOf st/\arrOf st'=arrOf st/\pendingOf st'=pendingOf st/\failedOf st'=failedOf st
theorem Like.refl (st:C3):Like st st:=⟨rfl,rfl,rfl,rfl⟩
noncomputable abbrev mergeLoS:Array Keyed->Array Keyed->StateT SortSt Sem (Array Keyed):=sortPriv% PySem.Builtin.mergeLo
theorem zhK {rk:Ay->Int} {arr:Array Ay} (s:Srt rk arr.toList) {lo hi:Nat} (h:hi<=arr.size):Up2 rk arr lo hi:=fun i j _ hij hj=>by
 rw [za3 (show i < arr.size by omega),za3 (show j < arr.size by omega)]
 by_cases e:i=j
 ·subst e; exact Do _
 ·have:=Dr.mp s i j (by simpa using (show i < arr.size by omega)) (by simpa using (show j < arr.size by omega)) (by omega)
  simpa using this
theorem zas (a:Array Ay) {i:Nat} (h:i < a.size):a.toList[i]'(by simpa using h)=a[i]:=by simp
theorem zcv {l:List Ay} {i:Nat} {y:Ay} (h:y∈l.drop i):∃ j,∃ hj:j < l.length,i<=j/\l[j]=y:=by
 obtain ⟨j,hj,e⟩:=Ei h
 rw [F3] at hj
 rw [Ja] at e
 exact ⟨i + j,by omega,by omega,e⟩
theorem zdo {rk:Ay->Int} {l:List Ay} (s:Srt rk l) {i:Nat} (h:i < l.length):∀ y∈l.drop i,rk l[i]<=rk y:=fun y hy=>by
 rw [za5 h] at hy
 rcases Bc.mp hy with rfl | z
 ·exact Do _
 ·exact zeG s h y z
theorem zam {M:Jo} {A:Bd} {E:A0->A4->Prop} {s:A4} {σ α : Type} {c:Prop} [Decidable c] {x y:StateT σ Sem α} {Q : α -> σ -> Prop} {st : σ} (h1:c->wpS M A E s x Q st) (h2:¬ c->wpS M A E s y Q st):wpS M A E s (if c then x else y) Q st:=by
 by_cases h:c
 ·rw [if_pos h]; exact h1 h
 ·rw [if_neg h]; exact h2 h
theorem zf2 {M:Jo} {A:Bd} {E:A0->A4->Prop} {s:A4} {σ α : Type} {c:Prop} [Decidable c] {x y:StateT σ Sem α} {Q : α -> σ -> Prop} {st : σ} (h2:¬ c->wpS M A E s y Q st) (h1:c->wpS M A E s x Q st):wpS M A E s (if c then x else y) Q st:=zam h1 h2
theorem zg4 {X G:Prop} (k:X->G) (h:X):G:=k h
theorem zbg {M:Jo} {A:Bd} {E:A0->A4->Prop} {s:A4} {f:C3->C3} {Q:PUnit->C3->Prop} {st:C3} (hf:Like st (f st)) (h:∀ st',Like st st'->Q ⟨⟩ st'):wpS M A E s (modify f:StateT C3 Sem PUnit) Q st:=Js (h _ hf)
theorem Like.trans {a b c:C3} (h:Like a b) (k:Like b c):Like a c:=⟨k.1.trans h.1,k.2.1.trans h.2.1,k.2.2.1.trans h.2.2.1,k.2.2.2.trans h.2.2.2⟩
section
variable {prog:Av} {w:Bu} {A:Bd} {E:A0->A4->Prop} {s:A4} {kd:Hw} {S:Ay->Prop} {rk:Ay->Int}
theorem mergeLo_ok (C:Ranks prog w A E s kd S rk) {a b:Array Ay} {Q:Array Ay->C3->Prop} {st:C3} (ha:0 < a.size) (hb:0 < b.size) (sa:Srt rk a.toList) (sb:Srt rk b.toList) (Sa:∀ i (h:i < a.size),S a[i]) (Sb:∀ i (h:i < b.size),S b[i]) (h0:∀ y∈a.toList,rk b[0]<=rk y) (hl:∀ y∈b.toList,rk y<=rk (a[a.size - 1]'(by omega))) (hst:kindOf st=kd)
  (q:∀ res st',Like st st'->MFin rk a.toList b.toList res.toList->Q res st'):wpS (model prog w) A E s (mergeLoS a b) Q st:=by
 have la:a.toList.length=a.size:=B7
 have lb:b.toList.length=b.size:=B7
 have m0:MI rk a.toList b.toList [b[0]] 0 1:=by
  have mm:MI rk a.toList b.toList [] 0 0:=⟨by simp,G0,fun x hx=>by cases hx⟩
  have:=mm.pushB sb (by omega) (by rw [Ii,zas b hb]; exact h0)
  rw [zas b hb] at this
  exact this
 have lastA:∀ ib,∀ x∈b.toList.drop ib,∀ ia,ia + 1=a.size->∀ y∈a.toList.drop ia,rk x<=rk y:=fun ib x hx ia e y hy=>by
  obtain ⟨j,hj,h1,e2⟩:=zcv hy
  have:j=a.size - 1:=by omega
  subst this
  rw [<- e2,zas a (by omega)]
  exact hl x (List.mem_of_mem_drop hx)
 have doneA:∀ {out:List Ay} {ia ib:Nat},MI rk a.toList b.toList out ia ib->ib=b.size->MFin rk a.toList b.toList (out ++ a.toList.drop ia ++ b.toList.drop ib):=fun m e=>by
  subst e
  rw [<- lb] at m ⊢
  rw [Mt,Cq]
  exact m.restA sa
 have doneB:∀ {out:List Ay} {ia ib:Nat},MI rk a.toList b.toList out ia ib->ia=a.size->MFin rk a.toList b.toList (out ++ a.toList.drop ia ++ b.toList.drop ib):=fun m e=>by
  subst e
  rw [<- la] at m ⊢
  rw [Mt,Cq]
  exact m.restB sb
 refine Ai (J6 (Ij ⟨rfl,?_⟩))
 dsimp only
 refine Ai (zaI hb ?_)
 refine zam (fun e1 => ?_) (fun e1 => ?_)
 ·have e1:1=b.size:=by simpa using e1
  refine Am (q _ st (Like.refl st) ?_)
  have:=doneA m0 e1
  simp only [B6,Cg,zaU]
  exact this
 refine zam (fun e2 => ?_) (fun e2 => ?_)
 ·have e2:0 + 1=a.size:=by simpa using e2
  refine Am (q _ st (Like.refl st) ?_)
  have:=m0.restBA sa sb (fun x hx y hy=>lastA 1 x hx 0 e2 y hy)
  simp only [B6,Cg,zaU]
  exact this
 have e1:¬ 1=b.size:=by simpa using e1
 have e2:¬ 0 + 1=a.size:=by simpa using e2
 refine Ai (Hg ?_)
 refine Ai (E6 (D0 (I:=fun x c st'=>Like st st'/\∃ (out:Array Ay) (ia ib g:Nat),c=(none,out,ia,ib,g)/\MI rk a.toList b.toList out.toList ia ib/\ia + 1 < a.size/\ib < b.size/\x < ia + ib) (Q:=fun c st'=>Like st st'/\∃ res:Array Ay,c.1=some res/\MFin rk a.toList b.toList res.toList) ?step ?fin ⟨Like.refl st,_,_,_,_,rfl,m0,by omega,by omega,by omega⟩) ?post)
 case fin =>
  rintro c st' ⟨_,out,ia,ib,g,rfl,_,h1,h2,h3⟩
  omega
 case post =>
  rintro ⟨r,out,ia,ib,g⟩ st' ⟨hL,res,e,hf⟩
  dsimp only at e ⊢
  subst e
  exact Am (q res st' hL hf)
 case step =>
  rintro x c st1 _ hx ⟨hL,out,ia,ib,g,rfl,m,h1,h2,h3⟩
  dsimp only
  have hk1:kindOf st1=kd:=hL.1.trans hst
  refine Ai (E6 (D0 (I:=fun y c st'=>st'=st1/\∃ (out:Array Ay) (ia ib ac bc:Nat),c=(none,out,ia,ib,ac,bc)/\MI rk a.toList b.toList out.toList ia ib/\ia + 1 < a.size/\ib < b.size/\x < ia + ib/\(0 < y->x + 1 < ia + ib)) (Q:=fun c st'=>st'=st1/\((∃ res:Array Ay,c.1=some res/\MFin rk a.toList b.toList res.toList)\/∃ (out:Array Ay) (ia ib ac bc:Nat),c=(none,out,ia,ib,ac,bc)/\MI rk a.toList b.toList out.toList ia ib/\ia + 1 < a.size/\ib < b.size/\x + 1 < ia + ib)) ?step ?fin ⟨rfl,_,_,_,_,_,rfl,m,h1,h2,h3,by omega⟩) ?post)
  case fin =>
   rintro c st' ⟨rfl,out,ia,ib,ac,bc,rfl,m,h1,h2,h3,h4⟩
   exact ⟨rfl,.inr ⟨out,ia,ib,ac,bc,rfl,m,h1,h2,h4 (by omega)⟩⟩
  case step =>
   rintro y c st' _ hy ⟨rfl,out,ia,ib,ac,bc,rfl,m,h1,h2,h3,h4⟩
   dsimp only
   refine Ai (zaI h2 (Ai (zaI (show ia < a.size by omega) (Ai (C.ask (Sb _ h2) (Sa _ (by omega)) hk1 ?_)))))
   dsimp only
   refine zam (fun hw => ?_) (fun hw => ?_)
   ·have hw:rk b[ib] < rk a[ia]:=by simpa using hw
    have m':=m.pushB sb (by omega) (fun y hy=>by
     have:=zdo sa (show ia < a.toList.length by omega) y hy
     rw [zas a (by omega)] at this
     rw [zas b h2]
     omega)
    rw [zas b h2] at m'
    refine Ai (zaI h2 ?_)
    refine zam (fun e => ?_) (fun e => ?_)
    ·have e:ib + 1=b.size:=by simpa using e
     refine Am ⟨rfl,.inl ⟨_,rfl,?_⟩⟩
     have:=doneA m' e
     simp only [B6,Cg,zaU]
     exact this
    have e:¬ ib + 1=b.size:=by simpa using e
    refine zam (fun _=>Am ⟨rfl,.inr ⟨_,_,_,_,_,rfl,by simpa using m',h1,by omega,by omega⟩⟩) (fun _=>Am ⟨rfl,_,_,_,_,_,rfl,by simpa using m',h1,by omega,by omega,by omega⟩)
   ·have hw:rk a[ia]<=rk b[ib]:=by simpa using hw
    have m':=m.pushA sa (by omega) (fun y hy=>by
     have:=zdo sb (show ib < b.toList.length by omega) y hy
     rw [zas b h2] at this
     rw [zas a (by omega)]
     omega)
    rw [zas a (by omega)] at m'
    refine Ai (zaI (show ia < a.size by omega) ?_)
    refine zam (fun e => ?_) (fun e => ?_)
    ·have e:ia + 1 + 1=a.size:=by simpa using e
     refine Am ⟨rfl,.inl ⟨_,rfl,?_⟩⟩
     have:=m'.restBA sa sb (fun x hx y hy=>lastA _ x hx _ e y hy)
     simp only [B6,Cg,zaU]
     exact this
    have e:¬ ia + 1 + 1=a.size:=by simpa using e
    refine zam (fun _=>Am ⟨rfl,.inr ⟨_,_,_,_,_,rfl,by simpa using m',by omega,h2,by omega⟩⟩) (fun _=>Am ⟨rfl,_,_,_,_,_,rfl,by simpa using m',by omega,h2,by omega,by omega⟩)
  case post =>
   rintro ⟨r,out,ia,ib,ac,bc⟩ st' ⟨rfl,hres | ⟨out',ia',ib',ac',bc',e,m,h1,h2,h3⟩⟩
   ·obtain ⟨res,e,hf⟩:=hres
    dsimp only at e ⊢
    subst e
    exact Am ⟨hL,res,rfl,hf⟩
   cases e
   dsimp only
   refine Ai (J6 (Ij ⟨rfl,?_⟩))
   refine Ai (E6 (D0 (I:=fun y c st'=>Like st st'/\∃ (out:Array Ay) (ia ib g ac bc:Nat),c=(none,out,ia,ib,g,ac,bc)/\MI rk a.toList b.toList out.toList ia ib/\ia + 1 < a.size/\ib < b.size/\x + 1 < ia + ib) (Q:=fun c st'=>Like st st'/\((∃ res:Array Ay,c.1=some res/\MFin rk a.toList b.toList res.toList)\/∃ (out:Array Ay) (ia ib g ac bc:Nat),c=(none,out,ia,ib,g,ac,bc)/\MI rk a.toList b.toList out.toList ia ib/\ia + 1 < a.size/\ib < b.size/\x + 1 < ia + ib)) ?step ?fin ⟨hL,_,_,_,_,_,_,rfl,m,h1,h2,h3⟩) ?post)
   case fin =>
    rintro c st' ⟨hL2,h⟩
    exact ⟨hL2,.inr h⟩
   case post =>
    rintro ⟨r,out,ia,ib,g,ac,bc⟩ st2 ⟨hL2,hres | ⟨out',ia',ib',g',ac',bc',e,m,h1,h2,h3⟩⟩
    ·obtain ⟨res,e,hf⟩:=hres
     dsimp only at e ⊢
     subst e
     exact Am ⟨hL2,res,rfl,hf⟩
    cases e
    dsimp only
    exact Ai (zbg ⟨rfl,rfl,rfl,rfl⟩ fun st3 hL3=>Am ⟨hL2.trans hL3,_,_,_,_,rfl,m,h1,h2,h3⟩)
   case step =>
    rintro y c st2 _ hy ⟨hL2,out,ia,ib,g,ac,bc,rfl,m,h1,h2,h3⟩
    dsimp only
    apply zg4
    ·intro R
     refine zam (fun h0=>Ai (zbg ⟨rfl,rfl,rfl,rfl⟩ ?_)) (fun h0=>Ai (zbg ⟨rfl,rfl,rfl,rfl⟩ ?_))
     ·clear h0
      generalize g - 1=g'
      revert g'
      exact R
     ·exact R g
    intro g' st3 hL3
    have hL4:=hL2.trans hL3
    have hk3:kindOf st3=kd:=hL4.1.trans hst
    refine Ai (zaI h2 ?_)
    refine Ai (zbN C (Sb _ h2) (fun i h _ _=>Sa i h) (by omega) (by omega) (zhK sa (by omega)) hk3 fun k j1 j2 j3 => ?_)
    dsimp only
    simp only [Cv,if_false] at j2 j3
    have mA:=m.moreA sa (k:=k) (by omega) (fun i hi g1 g2 y hy=>by
     have h5:=j2 (i - ia) (by omega)
     rw [show ia + (i - ia)=i by omega,za3 (by omega)] at h5
     have h6:=zdo sb (show ib < b.toList.length by omega) y hy
     rw [zas b h2] at h6
     rw [zas a (by omega)]
     omega)
    have gtB:∀ y∈a.toList.drop (ia + k),rk b[ib]<=rk y:=fun y hy=>by
     obtain ⟨j,hj,g1,e⟩:=zcv hy
     have h5:=j3 (j - ia) (by omega) (by omega)
     rw [show ia + (j - ia)=j by omega,za3 (by omega)] at h5
     rw [<- e,zas a (by omega)]
     omega
    have ex:(a.extract ia (ia + k)).toList=(a.toList.drop ia).take k:=by rw [zaR,Dy]
    rw [<- ex,<- B6] at mA
    have f12:∀ (_:¬ (ia + k + 1 == a.size)=true) (_:¬ (ia + k == a.size)=true),ia + k + 1 < a.size:=fun e5 e6=>by
     have e5:¬ ia + k + 1=a.size:=by simpa using e5
     have e6:¬ ia + k=a.size:=by simpa using e6
     omega
    have f32:x + 1 < ia + k + ib:=by omega
    apply zg4
    ·intro R
     refine zf2 (fun k0 => ?b2) (fun k0=>zam (fun e => ?x2) (fun e5=>zam (fun e => ?y2) (fun e6 => ?a2)))
     rotate_right
     have h12:=f12 e5 e6
     have h32:=f32
     clear e5 e6 k0
     have mA':=mA
     have gtB':=gtB
     generalize out ++ a.extract ia (ia + k)=out2 at mA' ⊢
     generalize ia + k=ia2 at mA' gtB' h12 h32 ⊢
     revert out2 ia2
     exact R
     ·have e7:k=0:=by omega
      have gtB2:=gtB
      rw [e7,F6] at gtB2
      exact R out ia m gtB2 h1 h3
     ·have e:ia + k + 1=a.size:=by simpa using e
      refine Am ⟨hL4,.inl ⟨_,rfl,?_⟩⟩
      have:=mA.restBA sa sb (fun x hx y hy=>lastA _ x hx _ e y hy)
      simp only [B6,zaU] at this ⊢
      exact this
     ·have e:ia + k=a.size:=by simpa using e
      refine Am ⟨hL4,.inl ⟨_,rfl,?_⟩⟩
      have:=doneB mA e
      simp only [B6,zaU] at this ⊢
      exact this
    intro out2 ia2 mA gtB h12 h32
    have mB:=mA.pushB sb (by omega) (fun y hy=>by rw [zas b h2]; exact gtB y hy)
    rw [zas b h2] at mB
    refine Ai (zaI h2 ?_)
    refine zam (fun e => ?_) (fun e => ?_)
    ·have e:ib + 1=b.size:=by simpa using e
     refine Am ⟨hL4,.inl ⟨_,rfl,?_⟩⟩
     have:=doneA mB e
     simp only [B6,Cg,zaU]
     exact this
    have e8:¬ ib + 1=b.size:=by simpa using e
    have hia2:ia2 < a.size:=by omega
    have hb4:ib + 1 < b.size:=by omega
    have h34:x + 1 < ia2 + (ib + 1):=by omega
    rw [<- Cg] at mB
    generalize out2.push b[ib]=out4 at mB ⊢
    generalize ib + 1=ib4 at mB hb4 h34 ⊢
    refine Ai (zaI hia2 ?_)
    refine Ai (zbN C (Sa _ hia2) (fun i h _ _=>Sb i h) (by omega) (by omega) (zhK sb (by omega)) hk3 fun k2 j4 j5 j6 => ?_)
    dsimp only
    simp only [if_true] at j5 j6
    have mC:=mB.moreB sb (k:=k2) (by omega) (fun i hi g1 g2 y hy=>by
     have h5:=j5 (i - ib4) (by omega)
     rw [show ib4 + (i - ib4)=i by omega,za3 (by omega)] at h5
     have h6:=zdo sa (show ia2 < a.toList.length by omega) y hy
     rw [zas a hia2] at h6
     rw [zas b (by omega)]
     omega)
    have leA:∀ y∈b.toList.drop (ib4 + k2),rk a[ia2]<=rk y:=fun y hy=>by
     obtain ⟨j,hj,g1,e⟩:=zcv hy
     have h5:=j6 (j - ib4) (by omega) (by omega)
     rw [show ib4 + (j - ib4)=j by omega,za3 (by omega)] at h5
     rw [<- e,zas b (by omega)]
     omega
    have ex2:(b.extract ib4 (ib4 + k2)).toList=(b.toList.drop ib4).take k2:=by rw [zaR,Dy]
    rw [<- ex2,<- B6] at mC
    have f22:∀ (_:¬ (ib4 + k2 == b.size)=true),ib4 + k2 < b.size:=fun e5=>by
     have e5:¬ ib4 + k2=b.size:=by simpa using e5
     omega
    have f33:x + 1 < ia2 + (ib4 + k2):=by omega
    apply zg4
    ·intro R
     refine zf2 (fun k1 => ?b3) (fun k1=>zam (fun e => ?x3) (fun e5 => ?a3))
     rotate_right
     have h22:=f22 e5
     have h33:=f33
     clear e5 k1
     have mC':=mC
     have leA':=leA
     generalize out4 ++ b.extract ib4 (ib4 + k2)=out3 at mC' ⊢
     generalize ib4 + k2=ib2 at mC' leA' h22 h33 ⊢
     revert out3 ib2
     exact R
     ·have e7:k2=0:=by omega
      have leA2:=leA
      rw [e7,F6] at leA2
      exact R out4 ib4 mB leA2 hb4 h34
     ·have e:ib4 + k2=b.size:=by simpa using e
      refine Am ⟨hL4,.inl ⟨_,rfl,?_⟩⟩
      have:=doneA mC e
      simp only [B6,Cg,zaU] at this ⊢
      exact this
    intro out3 ib2 mC leA h22 h33
    have mD:=mC.pushA sa (by omega) (fun y hy=>by rw [zas a hia2]; exact leA y hy)
    rw [zas a hia2,<- Cg] at mD
    refine Ai (zaI hia2 ?_)
    refine zam (fun e => ?_) (fun e => ?_)
    ·have e:ia2 + 1 + 1=a.size:=by simpa using e
     refine Am ⟨hL4,.inl ⟨_,rfl,?_⟩⟩
     have:=mD.restBA sa sb (fun x hx y hy=>lastA _ x hx _ e y hy)
     simp only [B6,Cg,zaU] at this ⊢
     exact this
    have e9:¬ ia2 + 1 + 1=a.size:=by simpa using e
    exact zam (fun _=>Am ⟨hL4,.inr ⟨_,_,_,_,_,_,rfl,mD,by omega,h22,by omega⟩⟩) (fun _=>Am ⟨hL4,_,_,_,_,_,_,rfl,mD,by omega,h22,by omega⟩)
end
structure HI (rk:Ay->Int) (la lb out:List Ay) (na nb:Nat):Prop where
 perm:out.Perm (la.drop na ++ lb.drop nb)
 srt:out.Pairwise fun x y=>rk y<=rk x
 high:∀ x∈out,(∀ y∈la.take na,rk y<=rk x)/\∀ y∈lb.take nb,rk y<=rk x
section
variable {rk:Ay->Int} {la lb out:List Ay} {na nb:Nat}
theorem zbx {l:List Ay} {n:Nat} {y:Ay} (h:y∈l.take n):∃ j,∃ hj:j < l.length,j < n/\l[j]=y:=by
 obtain ⟨j,hj,e⟩:=Ei h
 rw [Cf] at hj
 rw [Gn] at e
 exact ⟨j,by omega,by omega,e⟩
theorem zec {l:List Ay} (s:Srt rk l) {n:Nat} (h0:0 < n) (h:n<=l.length):∀ y∈l.take n,rk y<=rk (l[n - 1]'(by omega)):=fun y hy=>by
 obtain ⟨j,hj,h1,rfl⟩:=zbx hy
 by_cases e:j=n - 1
 ·subst e; exact Do _
 ·exact Dr.mp s j (n - 1) hj (by omega) (by omega)
theorem zcF {l:List Ay} {m n:Nat} (h:m<=n) {y:Ay} (hy:y∈l.take m):y∈l.take n:=by
 have:l.take m=(l.take n).take m:=by rw [List.take_take,Nc h]
 rw [this] at hy
 exact Ig hy
theorem HI.pushA (m:HI rk la lb out na nb) (sa:Srt rk la) (h0:0 < na) (h:na<=la.length) (hb:∀ y∈lb.take nb,rk y<=rk (la[na - 1]'(by omega))):HI rk la lb (out ++ [la[na - 1]'(by omega)]) (na - 1) nb:=by
 have hd:la.drop (na - 1)=la[na - 1]'(by omega) :: la.drop na:=by
  have:=za5 (l:=la) (i:=na - 1) (by omega)
  rwa [Md h0] at this
 have hm:la[na - 1]'(by omega)∈la.take na:=by
  rw [Kg]
  exact ⟨na - 1,by omega,rfl⟩
 refine ⟨?_,C1.mpr ⟨m.srt,by simp,fun x hx y hy => ?_⟩,fun x hx => ?_⟩
 ·rw [hd,Jq]
  exact (m.perm.append_right _).trans Ds
 ·rw [A5.mp hy]
  exact (m.high x hx).1 _ hm
 ·rcases An.mp hx with z | z
  ·exact ⟨fun y hy=>(m.high x z).1 y (zcF (by omega) hy),(m.high x z).2⟩
  ·rw [A5.mp z]
   exact ⟨fun y hy=>zec sa h0 h y (zcF (by omega) hy),hb⟩
theorem HI.pushB (m:HI rk la lb out na nb) (sb:Srt rk lb) (h0:0 < nb) (h:nb<=lb.length) (ha:∀ y∈la.take na,rk y<=rk (lb[nb - 1]'(by omega))):HI rk la lb (out ++ [lb[nb - 1]'(by omega)]) na (nb - 1):=by
 have hd:lb.drop (nb - 1)=lb[nb - 1]'(by omega) :: lb.drop nb:=by
  have:=za5 (l:=lb) (i:=nb - 1) (by omega)
  rwa [Md h0] at this
 have hm:lb[nb - 1]'(by omega)∈lb.take nb:=by
  rw [Kg]
  exact ⟨nb - 1,by omega,rfl⟩
 refine ⟨?_,C1.mpr ⟨m.srt,by simp,fun x hx y hy => ?_⟩,fun x hx => ?_⟩
 ·rw [hd]
  refine (m.perm.append_right _).trans ?_
  rw [Aw]
  refine D6 _ ?_
  exact Ds
 ·rw [A5.mp hy]
  exact (m.high x hx).2 _ hm
 ·rcases An.mp hx with z | z
  ·exact ⟨(m.high x z).1,fun y hy=>(m.high x z).2 y (zcF (by omega) hy)⟩
  ·rw [A5.mp z]
   exact ⟨ha,fun y hy=>zec sb h0 h y (zcF (by omega) hy)⟩
theorem HI.moreA (m:HI rk la lb out na nb) (sa:Srt rk la) (h:na<=la.length):∀ {d p:Nat},p + d=na->(∀ i (h:i < la.length),p<=i->i < na->∀ y∈lb.take nb,rk y<=rk la[i])->HI rk la lb (out ++ ((la.drop p).take d).reverse) p nb
 | 0,p,e,_=>by
  have:p=na:=by omega
  subst this
  simpa using m
 | d + 1,p,e,hy=>by
  have m1:=HI.moreA m sa h (d:=d) (p:=p + 1) (by omega) fun i hi h1 h2=>hy i hi (by omega) h2
  have m2:=m1.pushA sa (by omega) (by omega) (hy (p + 1 - 1) (by omega) (by omega) (by omega))
  rw [za5 (show p < la.length by omega),G7,Mh,<- Aw]
  simpa only [Mf] using m2
theorem HI.moreB (m:HI rk la lb out na nb) (sb:Srt rk lb) (h:nb<=lb.length):∀ {d p:Nat},p + d=nb->(∀ i (h:i < lb.length),p<=i->i < nb->∀ y∈la.take na,rk y<=rk lb[i])->HI rk la lb (out ++ ((lb.drop p).take d).reverse) na p
 | 0,p,e,_=>by
  have:p=nb:=by omega
  subst this
  simpa using m
 | d + 1,p,e,hy=>by
  have m1:=HI.moreB m sb h (d:=d) (p:=p + 1) (by omega) fun i hi h1 h2=>hy i hi (by omega) h2
  have m2:=m1.pushB sb (by omega) (by omega) (hy (p + 1 - 1) (by omega) (by omega) (by omega))
  rw [za5 (show p < lb.length by omega),G7,Mh,<- Aw]
  simpa only [Mf] using m2
theorem HI.rev (m:HI rk la lb out na nb):Srt rk out.reverse:=List.pairwise_reverse.mpr m.srt
theorem HI.restAB (m:HI rk la lb out na nb) (sa:Srt rk la) (sb:Srt rk lb) (h:∀ x∈la.take na,∀ y∈lb.take nb,rk x<=rk y):MFin rk la lb (la.take na ++ lb.take nb ++ out.reverse):=by
 refine ⟨?_,C1.mpr ⟨C1.mpr ⟨Ba (Fh _ _) sa,Ba (Fh _ _) sb,h⟩,m.rev,fun x hx y hy => ?_⟩⟩
 ·refine (D6 _ ((Mg out).trans m.perm)).trans ?_
  have e:la.take na ++ lb.take nb ++ (la.drop na ++ lb.drop nb)=la.take na ++ (lb.take nb ++ la.drop na) ++ lb.drop nb:=by simp
  rw [e]
  refine (Go _ (D6 _ Ds)).trans ?_
  rw [<- Aw,Cb,Aw,Cb]
 ·have:=m.high y (Mq.mp hy)
  rcases An.mp hx with z | z
  ·exact this.1 x z
  ·exact this.2 x z
theorem HI.restBA (m:HI rk la lb out na nb) (sa:Srt rk la) (sb:Srt rk lb) (h:∀ x∈lb.take nb,∀ y∈la.take na,rk x<=rk y):MFin rk la lb (lb.take nb ++ la.take na ++ out.reverse):=by
 refine ⟨?_,C1.mpr ⟨C1.mpr ⟨Ba (Fh _ _) sb,Ba (Fh _ _) sa,h⟩,m.rev,fun x hx y hy => ?_⟩⟩
 ·refine (D6 _ ((Mg out).trans m.perm)).trans ?_
  have e:lb.take nb ++ la.take na ++ (la.drop na ++ lb.drop nb)=lb.take nb ++ la ++ lb.drop nb:=by
   have:=Cb na la
   rw [Aw,<- Aw (la.take na),this,<- Aw]
  rw [e]
  refine (Go _ Ds).trans ?_
  rw [Aw,Cb]
 ·have:=m.high y (Mq.mp hy)
  rcases An.mp hx with z | z
  ·exact this.2 x z
  ·exact this.1 x z
end
theorem zaD (a:Array Ay) (n:Nat):(a.extract 0 n).toList=a.toList.take n:=by
 rw [zaR,Ii,Li]
noncomputable abbrev mergeHiS:Array Keyed->Array Keyed->StateT SortSt Sem (Array Keyed):=sortPriv% PySem.Builtin.mergeHi
section
variable {prog:Av} {w:Bu} {A:Bd} {E:A0->A4->Prop} {s:A4} {kd:Hw} {S:Ay->Prop} {rk:Ay->Int}
theorem mergeHi_ok (C:Ranks prog w A E s kd S rk) {a b:Array Ay} {Q:Array Ay->C3->Prop} {st:C3} (ha:0 < a.size) (hb:0 < b.size) (sa:Srt rk a.toList) (sb:Srt rk b.toList) (Sa:∀ i (h:i < a.size),S a[i]) (Sb:∀ i (h:i < b.size),S b[i]) (h0:∀ y∈a.toList,rk b[0]<=rk y) (hl:∀ y∈b.toList,rk y<=rk (a[a.size - 1]'(by omega))) (hst:kindOf st=kd)
  (q:∀ res st',Like st st'->MFin rk a.toList b.toList res.toList->Q res st'):wpS (model prog w) A E s (mergeHiS a b) Q st:=by
 have la:a.toList.length=a.size:=B7
 have lb:b.toList.length=b.size:=B7
 have m0:HI rk a.toList b.toList [a[a.size - 1]'(by omega)] (a.size - 1) b.size:=by
  have mm:HI rk a.toList b.toList [] a.size b.size:=⟨by rw [<- la,<- lb]; simp,G0,fun x hx=>by cases hx⟩
  have:=mm.pushA sa ha (by omega) (fun y hy=>by rw [zas a (by omega)]; exact hl y (Ig hy))
  rw [zas a (by omega)] at this
  exact this
 have firstB:∀ nb,nb=1->∀ na,∀ x∈b.toList.take nb,∀ y∈a.toList.take na,rk x<=rk y:=fun nb e na x hx y hy=>by
  subst e
  obtain ⟨j,hj,h1,e2⟩:=zbx hx
  have:j=0:=by omega
  subst this
  rw [<- e2,zas b hb]
  exact h0 y (Ig hy)
 have doneA:∀ {out:List Ay} {na nb:Nat},HI rk a.toList b.toList out na nb->na=0->MFin rk a.toList b.toList (a.toList.take na ++ b.toList.take nb ++ out.reverse):=fun m e=>by
  subst e
  exact m.restAB sa sb (fun x hx=>by simp at hx)
 have doneB:∀ {out:List Ay} {na nb:Nat},HI rk a.toList b.toList out na nb->nb=0->MFin rk a.toList b.toList (a.toList.take na ++ b.toList.take nb ++ out.reverse):=fun m e=>by
  subst e
  exact m.restAB sa sb (fun x _ y hy=>by simp at hy)
 refine Ai (J6 (Ij ⟨rfl,?_⟩))
 dsimp only
 refine Ai (zaI (by omega) ?_)
 refine zam (fun e1 => ?_) (fun e1 => ?_)
 ·have e1:a.size - 1=0:=by simpa using e1
  refine Am (q _ st (Like.refl st) ?_)
  have:=doneA m0 e1
  simp only [B6,Cm,zaD]
  exact this
 refine zam (fun e2 => ?_) (fun e2 => ?_)
 ·have e2:b.size=1:=by simpa using e2
  refine Am (q _ st (Like.refl st) ?_)
  have:=m0.restBA sa sb (fun x hx y hy=>firstB _ e2 _ x hx y hy)
  simp only [B6,Cm,zaD]
  exact this
 have e1:¬ a.size - 1=0:=by simpa using e1
 have e2:¬ b.size=1:=by simpa using e2
 refine Ai (Hg ?_)
 refine Ai (E6 (D0 (I:=fun x c st'=>Like st st'/\∃ (out:Array Ay) (na nb g:Nat),c=(none,na,nb,out,g)/\HI rk a.toList b.toList out.toList na nb/\0 < na/\na<=a.size/\1 < nb/\nb<=b.size/\x + na + nb < a.size + b.size) (Q:=fun c st'=>Like st st'/\∃ res:Array Ay,c.1=some res/\MFin rk a.toList b.toList res.toList) ?step ?fin ⟨Like.refl st,_,_,_,_,rfl,m0,by omega,by omega,by omega,by omega,by omega⟩) ?post)
 case fin =>
  rintro c st' ⟨_,out,na,nb,g,rfl,_,h1,h2,h3,h4,h5⟩
  omega
 case post =>
  rintro ⟨r,na,nb,out,g⟩ st' ⟨hL,res,e,hf⟩
  dsimp only at e ⊢
  subst e
  exact Am (q res st' hL hf)
 case step =>
  rintro x c st1 _ hx ⟨hL,out,na,nb,g,rfl,m,h1,h1',h2,h2',h3⟩
  dsimp only
  have hk1:kindOf st1=kd:=hL.1.trans hst
  refine Ai (E6 (D0 (I:=fun y c st'=>st'=st1/\∃ (out:Array Ay) (na nb ac bc:Nat),c=(none,na,nb,out,ac,bc)/\HI rk a.toList b.toList out.toList na nb/\0 < na/\na<=a.size/\1 < nb/\nb<=b.size/\x + na + nb < a.size + b.size/\(0 < y->x + 1 + na + nb < a.size + b.size)) (Q:=fun c st'=>st'=st1/\((∃ res:Array Ay,c.1=some res/\MFin rk a.toList b.toList res.toList)\/∃ (out:Array Ay) (na nb ac bc:Nat),c=(none,na,nb,out,ac,bc)/\HI rk a.toList b.toList out.toList na nb/\0 < na/\na<=a.size/\1 < nb/\nb<=b.size/\x + 1 + na + nb < a.size + b.size)) ?step ?fin ⟨rfl,_,_,_,_,_,rfl,m,h1,h1',h2,h2',h3,by omega⟩) ?post)
  case fin =>
   rintro c st' ⟨rfl,out,na,nb,ac,bc,rfl,m,h1,h1',h2,h2',h3,h4⟩
   exact ⟨rfl,.inr ⟨out,na,nb,ac,bc,rfl,m,h1,h1',h2,h2',h4 (by omega)⟩⟩
  case step =>
   rintro y c st' _ hy ⟨rfl,out,na,nb,ac,bc,rfl,m,h1,h1',h2,h2',h3,h4⟩
   dsimp only
   have ib:nb - 1 < b.size:=by omega
   have ia:na - 1 < a.size:=by omega
   refine Ai (zaI ib (Ai (zaI ia (Ai (C.ask (Sb _ ib) (Sa _ ia) hk1 ?_)))))
   dsimp only
   refine zam (fun hw => ?_) (fun hw => ?_)
   ·have hw:rk b[nb - 1] < rk a[na - 1]:=by simpa using hw
    have m':=m.pushA sa h1 (by omega) (fun y hy=>by
     have:=zec sb (show 0 < nb by omega) (by omega) y hy
     rw [zas b ib] at this
     rw [zas a ia]
     omega)
    rw [zas a ia,<- Cg] at m'
    refine Ai (zaI ia ?_)
    refine zam (fun e => ?_) (fun e => ?_)
    ·have e:na - 1=0:=by simpa using e
     refine Am ⟨rfl,.inl ⟨_,rfl,?_⟩⟩
     have:=doneA m' e
     simp only [B6,Cm,zaD]
     exact this
    have e:¬ na - 1=0:=by simpa using e
    refine zam (fun _=>Am ⟨rfl,.inr ⟨_,_,_,_,_,rfl,m',by omega,by omega,h2,h2',by omega⟩⟩) (fun _=>Am ⟨rfl,_,_,_,_,_,rfl,m',by omega,by omega,h2,h2',by omega,by omega⟩)
   ·have hw:rk a[na - 1]<=rk b[nb - 1]:=by simpa using hw
    have m':=m.pushB sb (by omega) (by omega) (fun y hy=>by
     have:=zec sa h1 (by omega) y hy
     rw [zas a ia] at this
     rw [zas b ib]
     omega)
    rw [zas b ib,<- Cg] at m'
    refine Ai (zaI ib ?_)
    refine zam (fun e => ?_) (fun e => ?_)
    ·have e:nb - 1=1:=by simpa using e
     refine Am ⟨rfl,.inl ⟨_,rfl,?_⟩⟩
     have:=m'.restBA sa sb (fun x hx y hy=>firstB _ e _ x hx y hy)
     simp only [B6,Cm,zaD]
     exact this
    have e:¬ nb - 1=1:=by simpa using e
    refine zam (fun _=>Am ⟨rfl,.inr ⟨_,_,_,_,_,rfl,m',h1,h1',by omega,by omega,by omega⟩⟩) (fun _=>Am ⟨rfl,_,_,_,_,_,rfl,m',h1,h1',by omega,by omega,by omega,by omega⟩)
  case post =>
   rintro ⟨r,na,nb,out,ac,bc⟩ st' ⟨rfl,hres | ⟨out',na',nb',ac',bc',e,m,h1,h1',h2,h2',h3⟩⟩
   ·obtain ⟨res,e,hf⟩:=hres
    dsimp only at e ⊢
    subst e
    exact Am ⟨hL,res,rfl,hf⟩
   cases e
   dsimp only
   refine Ai (J6 (Ij ⟨rfl,?_⟩))
   refine Ai (E6 (D0 (I:=fun y c st'=>Like st st'/\∃ (out:Array Ay) (na nb g ac bc:Nat),c=(none,na,nb,out,g,ac,bc)/\HI rk a.toList b.toList out.toList na nb/\0 < na/\na<=a.size/\1 < nb/\nb<=b.size/\x + 1 + na + nb < a.size + b.size) (Q:=fun c st'=>Like st st'/\((∃ res:Array Ay,c.1=some res/\MFin rk a.toList b.toList res.toList)\/∃ (out:Array Ay) (na nb g ac bc:Nat),c=(none,na,nb,out,g,ac,bc)/\HI rk a.toList b.toList out.toList na nb/\0 < na/\na<=a.size/\1 < nb/\nb<=b.size/\x + 1 + na + nb < a.size + b.size)) ?step ?fin ⟨hL,_,_,_,_,_,_,rfl,m,h1,h1',h2,h2',h3⟩) ?post)
   case fin =>
    rintro c st' ⟨hL2,h⟩
    exact ⟨hL2,.inr h⟩
   case post =>
    rintro ⟨r,na,nb,out,g,ac,bc⟩ st2 ⟨hL2,hres | ⟨out',na',nb',g',ac',bc',e,m,h1,h1',h2,h2',h3⟩⟩
    ·obtain ⟨res,e,hf⟩:=hres
     dsimp only at e ⊢
     subst e
     exact Am ⟨hL2,res,rfl,hf⟩
    cases e
    dsimp only
    exact Ai (zbg ⟨rfl,rfl,rfl,rfl⟩ fun st3 hL3=>Am ⟨hL2.trans hL3,_,_,_,_,rfl,m,h1,h1',h2,h2',by omega⟩)
   case step =>
    rintro y c st2 _ hy ⟨hL2,out,na,nb,g,ac,bc,rfl,m,h1,h1',h2,h2',h3⟩
    dsimp only
    have ib:nb - 1 < b.size:=by omega
    refine zam (fun _=>Ai (zbg ⟨rfl,rfl,rfl,rfl⟩ fun st3 hL3 => ?_)) (fun _=>Ai (zbg ⟨rfl,rfl,rfl,rfl⟩ fun st3 hL3 => ?_))
    all_goals
     have hL4:=hL2.trans hL3
     have hk3:kindOf st3=kd:=hL4.1.trans hst
     refine Ai (zaI ib ?_)
     refine Ai (zbN C (Sb _ ib) (fun i h _ _=>Sa i h) (by omega) (by omega) (zhK sa (by omega)) hk3 fun p j1 j2 j3 => ?_)
     dsimp only
     simp only [Cv,if_false,Fp] at j2 j3
     have mA:=m.moreA sa (by omega) (d:=na - p) (p:=p) (by omega) (fun i hi g1 g2 y hy=>by
      have h5:=j3 i g1 g2
      rw [za3 (by omega)] at h5
      have h6:=zec sb (show 0 < nb by omega) (by omega) y hy
      rw [zas b ib] at h6
      rw [zas a (by omega)]
      omega)
     have leB:∀ y∈a.toList.take p,rk y<=rk b[nb - 1]:=fun y hy=>by
      obtain ⟨j,hj,g1,e⟩:=zbx hy
      have h5:=j2 j g1
      rw [za3 (by omega)] at h5
      rw [<- e,zas a (by omega)]
      exact h5
     rw [<- zaR,<- Cm,<- B6] at mA
     refine zam (fun k0 => ?_) (fun k0 => ?_)
     rotate_left
     have mA:=m
     have h12:=h1
     have h12':=h1'
     have h32:=h3
     have e7:p=na:=by omega
     rw [e7] at leB ⊢
     generalize out=out2 at mA ⊢
     generalize na=na2 at mA leB h12 h12' h32 ⊢
     rotate_left
     refine zam (fun e => ?_) (fun e => ?_)
     ·have e:p=0:=by simpa using e
      refine Am ⟨hL4,.inl ⟨_,rfl,?_⟩⟩
      have:=doneA mA e
      simp only [B6,Cm,zaD] at this ⊢
      exact this
     have e5:¬ p=0:=by simpa using e
     have h12:0 < p:=by omega
     have h12':p<=a.size:=by omega
     have h32:x + 1 + p + nb < a.size + b.size:=by omega
     generalize out ++ (a.extract p na).reverse=out2 at mA ⊢
     generalize na - p=kk at k0 ⊢
     generalize p=na2 at mA leB h12 h12' h32 ⊢
    all_goals
     have mB:=mA.pushB sb (by omega) (by omega) (fun y hy=>by rw [zas b ib]; exact leB y hy)
     rw [zas b ib,<- Cg] at mB
     refine Ai (zaI ib ?_)
     refine zam (fun e => ?_) (fun e => ?_)
     ·have e:nb - 1=1:=by simpa using e
      refine Am ⟨hL4,.inl ⟨_,rfl,?_⟩⟩
      have:=mB.restBA sa sb (fun x hx y hy=>firstB _ e _ x hx y hy)
      simp only [B6,Cm,zaD]
      exact this
     have e8:¬ nb - 1=1:=by simpa using e
     have hia2:na2 - 1 < a.size:=by omega
     refine Ai (zaI hia2 ?_)
     refine Ai (zbN C (Sa _ hia2) (fun i h _ _=>Sb i h) (by omega) (by omega) (zhK sb (by omega)) hk3 fun p2 j4 j5 j6 => ?_)
     dsimp only
     simp only [if_true,Fp] at j5 j6
     have mC:=mB.moreB sb (by omega) (d:=nb - 1 - p2) (p:=p2) (by omega) (fun i hi g1 g2 y hy=>by
      have h5:=j6 i g1 g2
      rw [za3 (by omega)] at h5
      have h6:=zec sa h12 (by omega) y hy
      rw [zas a hia2] at h6
      rw [zas b (by omega)]
      omega)
     have leA:∀ y∈b.toList.take p2,rk y<=rk a[na2 - 1]:=fun y hy=>by
      obtain ⟨j,hj,g1,e⟩:=zbx hy
      have h5:=j5 j g1
      rw [za3 (by omega)] at h5
      rw [<- e,zas b (by omega)]
      omega
     rw [<- zaR,<- Cm,<- B6] at mC
     refine zam (fun k1 => ?_) (fun k1 => ?_)
     rotate_left
     have mC:=mB
     have h22:1 < nb - 1:=by omega
     have h22':nb - 1<=b.size:=by omega
     have h33:x + 1 + na2 + (nb - 1) < a.size + b.size:=by omega
     have e7:p2=nb - 1:=by omega
     rw [e7] at leA ⊢
     generalize out2.push b[nb - 1]=out3 at mC ⊢
     generalize nb - 1=nb2 at mC leA h22 h22' h33 ⊢
     rotate_left
     refine zam (fun e => ?_) (fun e => ?_)
     ·have e:p2=1:=by simpa using e
      refine Am ⟨hL4,.inl ⟨_,rfl,?_⟩⟩
      have:=mC.restBA sa sb (fun x hx y hy=>firstB _ e _ x hx y hy)
      simp only [B6,Cm,zaD] at this ⊢
      exact this
     have e5:¬ p2=1:=by simpa using e
     refine zam (fun e => ?_) (fun e => ?_)
     ·have e:p2=0:=by simpa using e
      refine Am ⟨hL4,.inl ⟨_,rfl,?_⟩⟩
      have:=doneB mC e
      simp only [B6,Cm,zaD] at this ⊢
      exact this
     have e6:¬ p2=0:=by simpa using e
     have h22:1 < p2:=by omega
     have h22':p2<=b.size:=by omega
     have h33:x + 1 + na2 + p2 < a.size + b.size:=by omega
     generalize out2.push b[nb - 1] ++ (b.extract p2 (nb - 1)).reverse=out3 at mC ⊢
     generalize nb - 1 - p2=kk2 at k1 ⊢
     generalize p2=nb2 at mC leA h22 h22' h33 ⊢
    all_goals
     have mD:=mC.pushA sa h12 (by omega) (fun y hy=>by rw [zas a hia2]; exact leA y hy)
     rw [zas a hia2,<- Cg] at mD
     refine Ai (zaI hia2 ?_)
     refine zam (fun e => ?_) (fun e => ?_)
     ·have e:na2 - 1=0:=by simpa using e
      refine Am ⟨hL4,.inl ⟨_,rfl,?_⟩⟩
      have:=doneA mD e
      simp only [B6,Cm,zaD] at this ⊢
      exact this
     have e9:¬ na2 - 1=0:=by simpa using e
     exact zam (fun _=>Am ⟨hL4,.inr ⟨_,_,_,_,_,_,rfl,mD,by omega,by omega,h22,h22',by omega⟩⟩) (fun _=>Am ⟨hL4,_,_,_,_,_,_,rfl,mD,by omega,by omega,h22,h22',by omega⟩)
end
theorem za4 {rk:Ay->Int} {xs ys:Array Ay} {i j:Nat} (h:xs[i]?=ys[j]?):kAt rk xs i=kAt rk ys j:=by unfold kAt; rw [h]
theorem zdc {rk:Ay->Int} {xs:Array Ay} {i j:Nat} (hj:j<=xs.size) (k:Nat):kAt rk (mirror xs i j ((j - i) / 2)) k=if i<=k/\k < j then kAt rk xs (i + j - 1 - k) else kAt rk xs k:=by
 have e:=N7 (i:=i) hj k
 by_cases h:i<=k/\k < j
 ·rw [if_pos h] at e ⊢; exact za4 e
 ·rw [if_neg h] at e ⊢; exact za4 e
theorem zbz {rk:Ay->Int} {xs:Array Ay} {i j:Nat} (hj:j<=xs.size) (h:∀ k,i<=k->k < j->kAt rk xs k=kAt rk xs (j - 1)) (k:Nat):kAt rk (mirror xs i j ((j - i) / 2)) k=kAt rk xs k:=by
 rw [zdc hj]
 by_cases e:i<=k/\k < j
 ·rw [if_pos e,h _ (by omega) (by omega),h k e.1 e.2]
 ·rw [if_neg e]
theorem zeo {rk:Ay->Int} {xs:Array Ay} {src d:Nat} (hs:src < xs.size) (hd:d<=src) (k:Nat):kAt rk (bubble xs src d) k=if k=src - d then kAt rk xs src else if src - d < k/\k<=src then kAt rk xs (k - 1) else kAt rk xs k:=by
 have e:=Of hs d hd k
 by_cases h:k=src - d
 ·rw [if_pos h] at e ⊢; exact za4 e
 ·rw [if_neg h] at e ⊢
  by_cases h2:src - d < k/\k<=src
  ·rw [if_pos h2] at e ⊢; exact za4 e
  ·rw [if_neg h2] at e ⊢; exact za4 e
structure Chg (lo hi:Nat) (st st':C3):Prop where
 kind:kindOf st'=kindOf st
 pend:pendingOf st'=pendingOf st
 fail:failedOf st'=failedOf st
 perm:(arrOf st').Perm (arrOf st)
 out:∀ i,(i < lo\/hi<=i)->(arrOf st')[i]?=(arrOf st)[i]?
theorem Chg.refl {lo hi:Nat} (st:C3):Chg lo hi st st:=⟨rfl,rfl,rfl,Gp _,fun _ _=>rfl⟩
theorem Chg.size {lo hi:Nat} {st st':C3} (h:Chg lo hi st st'):(arrOf st').size=(arrOf st).size:=h.perm.size_eq
theorem Chg.trans {lo hi:Nat} {a b c:C3} (h:Chg lo hi a b) (k:Chg lo hi b c):Chg lo hi a c:=⟨k.kind.trans h.kind,k.pend.trans h.pend,k.fail.trans h.fail,k.perm.trans h.perm,fun i hi=>(k.out i hi).trans (h.out i hi)⟩
theorem Chg.wide {lo hi lo' hi':Nat} {a b:C3} (h:Chg lo hi a b) (h1:lo'<=lo) (h2:hi<=hi'):Chg lo' hi' a b:=⟨h.kind,h.pend,h.fail,h.perm,fun i hi=>h.out i (by omega)⟩
theorem Chg.mirror {lo hi i j:Nat} {st st':C3} (h:Chg lo hi st st') (hi':lo<=i) (hj:j<=hi) (hs:j<=(arrOf st').size):Chg lo hi st (setArr st' (mirror (arrOf st') i j ((j - i) / 2))) :=
 h.trans ⟨rfl,rfl,rfl,mirror_perm _ _ _ _,fun k hk=>by
  show (Oy (arrOf st') i j ((j - i) / 2))[k]?=_
  rw [N7 hs,if_neg (by omega)]⟩
theorem Chg.bubble {lo hi src d:Nat} {st st':C3} (h:Chg lo hi st st') (h1:lo + d<=src) (h2:src < hi) (hs:src < (arrOf st').size):Chg lo hi st (setArr st' (bubble (arrOf st') src d)) :=
 h.trans ⟨rfl,rfl,rfl,bubble_perm _ _ _,fun k hk=>by
  show (P0 (arrOf st') src d)[k]?=_
  rw [Of hs _ (by omega),if_neg (by omega),if_neg (by omega)]⟩
theorem zch {S:Ay->Prop} {a b:Array Ay} (p:b.Perm a) (h:∀ x∈a.toList,S x):∀ x∈b.toList,S x:=fun x hx=>h x ((K6.mp p).mem_iff.mp hx)
theorem zhJ {S:Ay->Prop} {a:Array Ay} (h:∀ x∈a.toList,S x) (i:Nat) (hi:i < a.size):S a[i]:=h _ (by simp)
theorem Up2.more {rk:Ay->Int} {arr:Array Ay} {lo hi:Nat} (u:Up2 rk arr lo hi) (h:lo < hi) (e:kAt rk arr (hi - 1)<=kAt rk arr hi):Up2 rk arr lo (hi + 1):=fun i j h1 h2 h3=>by
 by_cases ej:j=hi
 ·by_cases ei:i=hi
  ·rw [ei,ej]; exact Do _
  ·have:=u i (hi - 1) h1 (by omega) (by omega)
   rw [ej]; omega
 ·exact u i j h1 h2 (by omega)
noncomputable def Dn2 (rk:Ay->Int) (arr:Array Ay) (lo hi:Nat):Prop:=∀ i j,lo<=i->i<=j->j < hi->kAt rk arr j<=kAt rk arr i
theorem Dn2.more {rk:Ay->Int} {arr:Array Ay} {lo hi:Nat} (u:Dn2 rk arr lo hi) (h:lo < hi) (e:kAt rk arr hi<=kAt rk arr (hi - 1)):Dn2 rk arr lo (hi + 1):=fun i j h1 h2 h3=>by
 by_cases ej:j=hi
 ·by_cases ei:i=hi
  ·rw [ei,ej]; exact Do _
  ·have:=u i (hi - 1) h1 (by omega) (by omega)
   rw [ej]; omega
 ·exact u i j h1 h2 (by omega)
theorem Dn2.like {rk:Ay->Int} {arr arr':Array Ay} {lo hi:Nat} (u:Dn2 rk arr lo hi) (h:∀ k,kAt rk arr' k=kAt rk arr k):Dn2 rk arr' lo hi:=fun i j h1 h2 h3=>by
 rw [h,h]; exact u i j h1 h2 h3
section
variable {prog:Av} {w:Bu} {A:Bd} {E:A0->A4->Prop} {s:A4} {kd:Hw} {S:Ay->Prop} {rk:Ay->Int}
theorem zhq (C:Ranks prog w A E s kd S rk) {i j:Nat} {st:C3} {Q:Option Bool->C3->Prop} (hS:∀ x∈(arrOf st).toList,S x) (hk:kindOf st=kd) (hi:i < (arrOf st).size) (hj:j < (arrOf st).size) (q:Q (some (decide (kAt rk (arrOf st) i < kAt rk (arrOf st) j))) st):wpS (model prog w) A E s (ltAt' i j) Q st:=by
 rw [ltAt'_eq]
 refine Ai (Hg (Ai (zaI hi (Ai (zaI hj (C.ask (zhJ hS i hi) (zhJ hS j hj) hk ?_))))))
 rw [za3 hi,za3 hj] at q
 exact q
theorem zhI (C:Ranks prog w A E s kd S rk) {st:C3} {lo a nrem:Nat} (hS:∀ x∈(arrOf st).toList,S x) (hk:kindOf st=kd) (hn:lo + nrem<=(arrOf st).size) (ha:1<=a) (han:a<=nrem) (u:Up2 rk (arrOf st) lo (lo + a)) {F:Nat->Option (Option Nat)×Nat->StateT C3 Sem (ForInStep (Option (Option Nat)×Nat))}
  (f:∀ x n R,lo + n < (arrOf st).size->1<=n->(if kAt rk (arrOf st) (lo + n) < kAt rk (arrOf st) (lo + n - 1) then R (Q6 (none,n)) st else R (Dw (none,n + 1)) st)->wpS (model prog w) A E s (F x (none,n)) R st) :
  wpS (model prog w) A E s (forIn [a:nrem] (none,a) F) (fun c st'=>st'=st/\∃ n,c=(none,n)/\a<=n/\n<=nrem/\Up2 rk (arrOf st) lo (lo + n)/\(n=nrem\/kAt rk (arrOf st) (lo + n) < kAt rk (arrOf st) (lo + n - 1))) st:=by
 refine D0 (I:=fun x c st'=>st'=st/\c=(none,x)/\Up2 rk (arrOf st) lo (lo + x)) ?step ?fin ⟨rfl,rfl,u⟩
 case fin =>
  rintro c st' ⟨rfl,rfl,u'⟩
  rw [show max a nrem=nrem by omega] at u' ⊢
  exact ⟨rfl,nrem,rfl,han,A9 _,u',.inl rfl⟩
 case step =>
  rintro x c st' hax hxn ⟨rfl,rfl,u'⟩
  refine f x x _ (by omega) (by omega) ?_
  by_cases hl:kAt rk (arrOf st') (lo + x) < kAt rk (arrOf st') (lo + x - 1)
  ·rw [if_pos hl]
   exact ⟨rfl,x,rfl,hax,by omega,u',.inr hl⟩
  ·rw [if_neg hl]
   exact ⟨rfl,rfl,by have:=u'.more (by omega) (by omega); rwa [show lo + x + 1=lo + (x + 1) by omega] at this⟩
theorem countRun_ok (C:Ranks prog w A E s kd S rk) {st:C3} {lo nrem:Nat} {Q:Option Nat->C3->Prop} (hS:∀ x∈(arrOf st).toList,S x) (hk:kindOf st=kd) (hn:lo + nrem<=(arrOf st).size) (h1:1<=nrem)
  (q:∀ m st',Chg lo (lo + nrem) st st'->1<=m->m<=nrem->Up2 rk (arrOf st') lo (lo + m)->Q (some m) st'):wpS (model prog w) A E s (countRun' lo nrem) Q st:=by
 rw [countRun'_eq]
 have asc1:∀ {st1:C3},Chg lo (lo + nrem) st st1->∀ {i j:Nat} {R:Option Bool->C3->Prop},i < (arrOf st).size->j < (arrOf st).size->R (some (decide (kAt rk (arrOf st1) i < kAt rk (arrOf st1) j))) st1->wpS (model prog w) A E s (ltAt' i j) R st1:=fun {st1} c i j R hi hj r =>
  zhq C (zch c.perm hS) (c.kind.trans hk) (by rw [c.size]; exact hi) (by rw [c.size]; exact hj) r
 refine Ai (E6 (zhI C hS hk hn (A9 1) h1 (fun i j a b c=>by rw [show i=j by omega]; exact Do _) fun x n R b1 b2 r => ?_) ?_)
 ·refine Ai (asc1 (Chg.refl st) (by omega) (by omega) ?_)
  dsimp only
  refine zam (fun e => ?_) (fun e => ?_)
  ·rw [if_pos (by simpa using e)] at r; exact Am r
  ·rw [if_neg (by simpa using e)] at r; exact Am r
 rintro ⟨r,n⟩ st0 ⟨e0,n',e,hn1,hn2,u,hor⟩
 cases e
 rw [e0]
 clear e0 st0
 dsimp only
 refine zam (fun e=>Am (q n _ (Chg.refl _) hn1 hn2 u)) (fun e => ?_)
 have e:¬ n=nrem:=by simpa using e
 have hlt:=hor.resolve_left e
 refine zam (fun g => ?_) (fun g => ?_)
 refine Ai (asc1 (Chg.refl st) (by omega) (by omega) ?_)
 dsimp only
 refine zam (fun _=>Am (q n _ (Chg.refl _) hn1 hn2 u)) (fun ng => ?_)
 have ng:kAt rk (arrOf st) (lo + n - 1)<=kAt rk (arrOf st) lo:=by simpa using ng
 have all:∀ k,lo<=k->k < lo + n->kAt rk (arrOf st) k=kAt rk (arrOf st) (lo + n - 1):=fun k a b=>by
  have a1:=u lo k (A9 _) a b
  have a2:=u k (lo + n - 1) a (by omega) (by omega)
  omega
 refine Ai (Kj ?_)
 have c1:=(Chg.refl (lo:=lo) (hi:=lo + nrem) st).mirror (i:=lo) (j:=lo + n) (A9 _) (by omega) (by omega)
 have d1:Dn2 rk (arrOf (setArr st (mirror (arrOf st) lo (lo + n) ((lo + n - lo) / 2)))) lo (lo + (n + 1)):=by
  refine Dn2.like (arr:=arrOf st) ?_ (zbz (by omega) all)
  have d0:Dn2 rk (arrOf st) lo (lo + n):=fun i j a b c=>by rw [all i a (by omega),all j (by omega) c]; exact Do _
  exact d0.more (by omega) (by omega)
 generalize setArr st (mirror (arrOf st) lo (lo + n) ((lo + n - lo) / 2))=st1 at c1 d1 ⊢
 rotate_left
 have c1:=Chg.refl (lo:=lo) (hi:=lo + nrem) st
 have d1:Dn2 rk (arrOf st) lo (lo + (n + 1)):=by
  have d0:Dn2 rk (arrOf st) lo (lo + n):=fun i j a b c=>by rw [show i=j by omega]; exact Do _
  exact d0.more (by omega) (by omega)
 obtain ⟨st1,hh⟩:∃ st1,st1=st:=⟨_,rfl⟩
 have c1:Chg lo (lo + nrem) st st1:=by rw [hh]; exact c1
 have d1:Dn2 rk (arrOf st1) lo (lo + (n + 1)):=by rw [hh]; exact d1
 rw [<- hh]
 clear hh
 all_goals
  refine Ai (J6 (Ij ⟨rfl,?_⟩))
  refine Ai (E6 (D0 (I:=fun x c st'=>∃ neq,c=(none,x,neq)/\Chg lo (lo + nrem) st st'/\Dn2 rk (arrOf st') lo (lo + x)/\neq + 1<=x/\∀ i,lo + x - (neq + 1)<=i->i < lo + x->kAt rk (arrOf st') i=kAt rk (arrOf st') (lo + x - 1))
   (Q:=fun c st'=>∃ m neq,c=(none,m,neq)/\Chg lo (lo + nrem) st st'/\n + 1<=m/\m<=nrem/\Dn2 rk (arrOf st') lo (lo + m)/\neq + 1<=m/\∀ i,lo + m - (neq + 1)<=i->i < lo + m->kAt rk (arrOf st') i=kAt rk (arrOf st') (lo + m - 1)) ?step ?fin ⟨0,rfl,c1,d1,by omega,fun i a b=>by congr 1; omega⟩) ?post)
  case fin =>
   rintro c st' ⟨neq,rfl,a1,a2,a3,a4⟩
   rw [show max (n + 1) nrem=nrem by omega] at a2 a3 a4 ⊢
   exact ⟨nrem,neq,rfl,a1,by omega,A9 _,a2,a3,a4⟩
  case step =>
   rintro x c st' hx1 hx2 ⟨neq,rfl,a1,a2,a3,a4⟩
   dsimp only
   have sz:=a1.size
   refine Ai (asc1 a1 (by omega) (by omega) ?_)
   dsimp only
   refine zam (fun e1 => ?_) (fun e1 => ?_)
   ·have e1:kAt rk (arrOf st') (lo + x) < kAt rk (arrOf st') (lo + x - 1):=by simpa using e1
    have d2:Dn2 rk (arrOf st') lo (lo + (x + 1)):=a2.more (by omega) (by omega)
    refine zam (fun e2=>Ai (Kj (Am ?_))) (fun e2=>Am ?_)
    ·exact ⟨0,rfl,a1.mirror (by omega) (by omega) (by omega),d2.like (zbz (by omega) a4),by omega,fun i a b=>by congr 1; omega⟩
    ·exact ⟨0,rfl,a1,d2,by omega,fun i a b=>by congr 1; omega⟩
   ·have e1:kAt rk (arrOf st') (lo + x - 1)<=kAt rk (arrOf st') (lo + x):=by simpa using e1
    refine Ai (asc1 a1 (by omega) (by omega) ?_)
    dsimp only
    refine zam (fun e2=>Am ?_) (fun e2=>Am ?_)
    ·exact ⟨x,neq,rfl,a1,hx1,by omega,a2,a3,a4⟩
    ·have e2:kAt rk (arrOf st') (lo + x)<=kAt rk (arrOf st') (lo + x - 1):=by simpa using e2
     refine ⟨neq + 1,rfl,a1,a2.more (by omega) e2,by omega,fun i a b => ?_⟩
     rw [show lo + (x + 1) - 1=lo + x by omega]
     by_cases ei:i=lo + x
     ·rw [ei]
     ·rw [a4 i (by omega) (by omega)]; omega
  case post =>
   rintro ⟨r,m,neq⟩ st' ⟨m',neq',e2,a1,am,am2,a2,a3,a4⟩
   cases e2
   dsimp only
   have sz:=a1.size
   refine zam (fun g2 => ?_) (fun g2 => ?_)
   refine Ai (Kj ?_)
   have a5:=a1.mirror (i:=lo + m - (neq + 1)) (j:=lo + m) (by omega) (by omega) (by omega)
   have a6:Dn2 rk (arrOf (setArr st' (mirror (arrOf st') (lo + m - (neq + 1)) (lo + m) ((lo + m - (lo + m - (neq + 1))) / 2)))) lo (lo + m):=a2.like (zbz (by omega) a4)
   generalize setArr st' (mirror (arrOf st') (lo + m - (neq + 1)) (lo + m) ((lo + m - (lo + m - (neq + 1))) / 2))=st2 at a5 a6 ⊢
   rotate_left
   have a5:=a1
   have a6:=a2
   clear a1 a2 a3 a4
   generalize st'=st2 at a5 a6 ⊢
   all_goals
    have sz2:=a5.size
    have a7:=a5.mirror (i:=lo) (j:=lo + m) (A9 _) (by omega) (by omega)
    have a8:Up2 rk (arrOf (setArr st2 (mirror (arrOf st2) lo (lo + m) ((lo + m - lo) / 2)))) lo (lo + m):=fun i j b1 b2 b3=>by
     show kAt rk (mirror (arrOf st2) lo (lo + m) ((lo + m - lo) / 2)) i<=kAt rk (mirror (arrOf st2) lo (lo + m) ((lo + m - lo) / 2)) j
     rw [zdc (by omega),zdc (by omega),if_pos (by omega),if_pos (by omega)]
     exact a6 _ _ (by omega) (by omega) (by omega)
    refine Ai (Kj ?_)
    generalize setArr st2 (mirror (arrOf st2) lo (lo + m) ((lo + m - lo) / 2))=st3 at a7 a8 ⊢
    have sz3:=a7.size
    refine Ai (E6 (zhI C (zch a7.perm hS) (a7.kind.trans hk) (by omega) (show 1<=m by omega) (by omega) a8 fun x n R b1 b2 r => ?_) ?_)
    ·refine Ai (asc1 a7 (by omega) (by omega) ?_)
     dsimp only
     refine zam (fun e => ?_) (fun e => ?_)
     ·rw [if_pos (by simpa using e)] at r; exact Am r
     ·rw [if_neg (by simpa using e)] at r; exact Am r
    rintro ⟨r,k⟩ st4 ⟨e0,k',ek,b1,b2,b3,_⟩
    cases ek
    rw [e0]
    exact Am (q k _ a7 (by omega) b2 b3)
theorem binSort_ok (C:Ranks prog w A E s kd S rk) {st:C3} {lo n ok:Nat} {Q:Bool->C3->Prop} (hS:∀ x∈(arrOf st).toList,S x) (hk:kindOf st=kd) (hn:lo + n<=(arrOf st).size) (hok:ok<=n) (u:Up2 rk (arrOf st) lo (lo + ok))
  (q:∀ st',Chg lo (lo + n) st st'->Up2 rk (arrOf st') lo (lo + n)->Q true st'):wpS (model prog w) A E s (binarySort' lo n ok) Q st:=by
 rw [binarySort'_eq]
 refine Ai (E6 (D0 (I:=fun k c st'=>c=(none,())/\Chg lo (lo + n) st st'/\Up2 rk (arrOf st') lo (lo + min k n)) (Q:=fun c st'=>c=(none,())/\Chg lo (lo + n) st st'/\Up2 rk (arrOf st') lo (lo + n)) ?step ?fin ?init) ?post)
 case post =>
  rintro c st' ⟨rfl,a,b⟩
  exact Am (q st' a b)
 case init =>
  refine ⟨rfl,Chg.refl _,fun i j a b c => ?_⟩
  by_cases h1:ok=0
  ·rw [show i=j by omega]; exact Do _
  ·exact u i j a b (by omega)
 case fin =>
  rintro c st' ⟨rfl,a,b⟩
  refine ⟨rfl,a,?_⟩
  rwa [show min (max (max ok 1) n) n=n by omega] at b
 case step =>
  rintro k c st' hk1 hk2 ⟨rfl,a,b⟩
  rw [show min k n=k by omega] at b
  have sz:=a.size
  refine Ai (E6 (D0 (I:=fun x c st''=>st''=st'/\∃ l r,c=(none,l,r)/\l<=r/\r<=k/\r - l<=k - x/\(∀ i,i < l->kAt rk (arrOf st') (lo + i)<=kAt rk (arrOf st') (lo + k))/\(∀ i,r<=i->i < k->kAt rk (arrOf st') (lo + k) < kAt rk (arrOf st') (lo + i)))
   (Q:=fun c st''=>st''=st'/\∃ l r,c=(none,l,r)/\l<=k/\(∀ i,i < l->kAt rk (arrOf st') (lo + i)<=kAt rk (arrOf st') (lo + k))/\(∀ i,l<=i->i < k->kAt rk (arrOf st') (lo + k) < kAt rk (arrOf st') (lo + i))) ?istep ?ifin ⟨rfl,0,k,rfl,by omega,by omega,by omega,fun i hi=>by omega,fun i h1 h2=>by omega⟩) ?ipost)
  case ifin =>
   rintro c st'' ⟨rfl,l,r,rfl,b1,b2,b3,b4,b5⟩
   exact ⟨rfl,l,r,rfl,by omega,b4,fun i h1 h2=>b5 i (by omega) h2⟩
  case istep =>
   rintro x c st'' _ hx ⟨rfl,l,r,rfl,b1,b2,b3,b4,b5⟩
   dsimp only
   refine zam (fun e=>Am ⟨rfl,l,r,rfl,by omega,b4,fun i h1 h2=>b5 i (by omega) h2⟩) (fun e => ?_)
   refine Ai (zhq C (zch a.perm hS) (a.kind.trans hk) (by omega) (by omega) ?_)
   dsimp only
   refine zam (fun e1=>Am ?_) (fun e1=>Am ?_)
   ·have e1:kAt rk (arrOf st'') (lo + k) < kAt rk (arrOf st'') (lo + (l + r) / 2):=by simpa using e1
    refine ⟨rfl,l,(l + r) / 2,rfl,by omega,by omega,by omega,b4,fun i h1 h2 => ?_⟩
    have:=b (lo + (l + r) / 2) (lo + i) (by omega) (by omega) (by omega)
    omega
   ·have e1:kAt rk (arrOf st'') (lo + (l + r) / 2)<=kAt rk (arrOf st'') (lo + k):=by simpa using e1
    refine ⟨rfl,(l + r) / 2 + 1,r,rfl,by omega,by omega,by omega,fun i h1 => ?_,b5⟩
    have:=b (lo + i) (lo + (l + r) / 2) (by omega) (by omega) (by omega)
    omega
  case ipost =>
   rintro ⟨r0,l,r⟩ st'' ⟨e0,l',r',e,b2,b4,b5⟩
   cases e
   rw [e0]
   dsimp only
   rw [moveDown'_eq]
   refine Ai (Js (Am ⟨rfl,a.bubble (by omega) (by omega) (by omega),?_⟩))
   rw [show min (k + 1) n=k + 1 by omega]
   intro i j h1 h2 h3
   show kAt rk (bubble (arrOf st') (lo + k) (lo + k - (lo + l))) i<=kAt rk (bubble (arrOf st') (lo + k) (lo + k - (lo + l))) j
   rw [zeo (by omega) (by omega),zeo (by omega) (by omega),show lo + k - (lo + k - (lo + l))=lo + l by omega]
   by_cases e1:i=lo + l
   ·rw [if_pos e1]
    by_cases e2:j=lo + l
    ·rw [if_pos e2]; exact Do _
    ·rw [if_neg e2,if_pos (by omega)]
     have:=b5 (j - 1 - lo) (by omega) (by omega)
     rw [show lo + (j - 1 - lo)=j - 1 by omega] at this
     omega
   ·rw [if_neg e1]
    by_cases e3:lo + l < i/\i<=lo + k
    ·rw [if_pos e3,if_neg (by omega),if_pos (by omega)]
     exact b _ _ (by omega) (by omega) (by omega)
    ·rw [if_neg e3]
     by_cases e2:j=lo + l
     ·rw [if_pos e2]
      have:=b4 (i - lo) (by omega)
      rwa [show lo + (i - lo)=i by omega] at this
     ·rw [if_neg e2]
      by_cases e4:lo + l < j/\j<=lo + k
      ·rw [if_pos e4]
       exact b _ _ (by omega) (by omega) (by omega)
      ·rw [if_neg e4]
       exact b _ _ (by omega) (by omega) (by omega)
end
theorem wpS_setSt {M:Jo} {A:Bd} {E:A0->A4->Prop} {s:A4} {σ : Type} {x : σ} {Q:PUnit -> σ -> Prop} {st : σ} (h:Q ⟨⟩ x):wpS M A E s (set x:StateT σ Sem PUnit) Q st:=by
 unfold wpS; rw [StateT.run_set]; exact Aq ⟨rfl,h⟩
theorem wpS_setLike {M:Jo} {A:Bd} {E:A0->A4->Prop} {s:A4} {x:C3} {Q:PUnit->C3->Prop} {st:C3} (h:∀ st',kindOf st'=kindOf x->arrOf st'=arrOf x->pendingOf st'=pendingOf x->failedOf st'=failedOf x->Q ⟨⟩ st'):wpS M A E s (set x:StateT C3 Sem PUnit) Q st:=wpS_setSt (h x rfl rfl rfl rfl)
noncomputable abbrev seg (l:List Ay) (lo n:Nat):List Ay:=(l.drop lo).take n
theorem mem_seg {l:List Ay} {lo n:Nat} {y:Ay} (h:y∈seg l lo n):∃ j,∃ hj:j < l.length,lo<=j/\j < lo + n/\l[j]=y:=by
 obtain ⟨j,hj,h1,e⟩:=zbx h
 rw [F3] at hj
 rw [Ja] at e
 exact ⟨lo + j,by omega,by omega,by omega,e⟩
theorem seg_split (l:List Ay) (lo m n:Nat):seg l lo (m + n)=seg l lo m ++ seg l (lo + m) n:=by
 unfold seg
 rw [Nl,Ka]
theorem seg_whole (l:List Ay) (lo n:Nat):l=l.take lo ++ seg l lo n ++ l.drop (lo + n):=by
 unfold seg
 conv=>lhs; rw [<- Cb lo l,<- Cb n (l.drop lo)]
 rw [Ka,Aw]
theorem zeH {rk:Ay->Int} {arr:Array Ay} {lo hi:Nat} (u:Up2 rk arr lo hi) (h:hi<=arr.size):Srt rk (seg arr.toList lo (hi - lo)):=by
 refine Dr.mpr fun i j hi1 hj hij => ?_
 have l1:(seg arr.toList lo (hi - lo)).length<=hi - lo:=List.length_take_le _ _
 have:=u (lo + i) (lo + j) (by omega) (by omega) (by omega)
 rw [za3 (by omega),za3 (by omega)] at this
 simpa [seg,Gn,Ja] using this
theorem up_seg {rk:Ay->Int} {arr:Array Ay} {P L R:List Ay} (e:arr.toList=P ++ L ++ R) (s:Srt rk L):Up2 rk arr P.length (P.length + L.length):=by
 have hz:arr.size=P.length + L.length + R.length:=by
  rw [<- B7,e,Ab,Ab]
 intro i j h1 h2 h3
 have g:∀ k (hk:P.length<=k) (hk2:k < P.length + L.length),kAt rk arr k=rk (L[k - P.length]'(by omega)):=fun k hk hk2=>by
  rw [za3 (by omega),<- zas arr (by omega)]
  congr 1
  have:arr.toList[k]?=some (L[k - P.length]'(by omega)):=by
   rw [e,Cu (by rw [Ab]; omega),Cr hk,A8 (by omega)]
  rw [A8 (by rw [B7]; omega)] at this
  exact C4 this
 rw [g i h1 (by omega),g j (by omega) h3]
 by_cases eij:i=j
 ·subst eij; exact Do _
 ·exact Dr.mp s _ _ (by omega) (by omega) (by omega)
theorem zfG (base:Nat):∀ (l:List Ay) (n:Nat) (arr:Array Ay),base + n + l.length<=arr.size ->
  ((l.zipIdx n).foldl (fun (a:Array Ay) (x:Ay×Nat)=>a.setIfInBounds (base + x.2) x.1) arr).toList=arr.toList.take (base + n) ++ l ++ arr.toList.drop (base + n + l.length)
 | [],n,arr,h=>by simp
 | x :: l,n,arr,h=>by
  rw [As] at h
  rw [List.zipIdx_cons,Hq,zfG base l (n + 1) _ (by rw [Array.size_setIfInBounds]; omega)]
  dsimp only
  rw [K5]
  have hb:base + n < arr.toList.length:=by rw [B7]; omega
  have e1:(arr.toList.set (base + n) x).take (base + (n + 1))=arr.toList.take (base + n) ++ [x]:=by
   rw [show base + (n + 1)=base + n + 1 by omega,Cz (by rw [N3]; exact hb),List.getElem_set_self,List.take_set_of_le (A9 _)]
  have e2:(arr.toList.set (base + n) x).drop (base + (n + 1) + l.length)=arr.toList.drop (base + n + (x :: l).length):=by
   rw [List.drop_set_of_lt (by omega),As]
   congr 1; omega
  rw [e1,e2]
  simp
noncomputable abbrev Pend:=Array (Nat×Nat×Nat)
theorem pend_at {p:Pend} {pre post:List (Nat×Nat×Nat)} {x y:Nat×Nat×Nat} (e:p.toList=pre ++ x :: y :: post):p[pre.length]?=some x/\p[pre.length + 1]?=some y:=by
 constructor
 ·rw [<- Db,e]; simp
 ·rw [<- Db,e]; simp
theorem pend_new {p:Pend} {pre post:List (Nat×Nat×Nat)} {x y z:Nat×Nat×Nat} (e:p.toList=pre ++ x :: y :: post):((p.setIfInBounds pre.length z).eraseIdxIfInBounds (pre.length + 1)).toList=pre ++ z :: post:=by
 rw [Array.toList_eraseIdxIfInBounds,K5,e]
 simp [List.eraseIdx_append_of_length_le]
theorem back_out {arr arr':Array Ay} {b:Nat} {M:List Ay} (e:arr'.toList=arr.toList.take b ++ M ++ arr.toList.drop (b + M.length)) (h:b + M.length<=arr.size):∀ i,(i < b\/b + M.length<=i)->arr'[i]?=arr[i]?:=fun i hi=>by
 rw [<- Db,<- Db,e]
 have lb:(arr.toList.take b).length=b:=by rw [Cf,B7]; omega
 rcases hi with z | z
 ·rw [Cu (by rw [Ab]; omega),Cu (by omega),Ks z]
 ·rw [Cr (by rw [Ab]; omega),List.getElem?_drop,Ab,lb]
  congr 1; omega
theorem zc5 {M:Jo} {A:Bd} {E:A0->A4->Prop} {s:A4} {f:C3->C3} {Q:PUnit->C3->Prop} {st:C3} (h:∀ st',kindOf st'=kindOf (f st)->arrOf st'=arrOf (f st)->pendingOf st'=pendingOf (f st)->failedOf st'=failedOf (f st)->Q ⟨⟩ st'):wpS M A E s (modify f:StateT C3 Sem PUnit) Q st:=Js (h _ rfl rfl rfl rfl)
section
variable {prog:Av} {w:Bu} {A:Bd} {E:A0->A4->Prop} {s:A4} {kd:Hw} {S:Ay->Prop} {rk:Ay->Int}
structure Mrg (rk:Ay->Int) (lo hi:Nat) (st st':C3) (p':List (Nat×Nat×Nat)):Prop where
 kind:kindOf st'=kindOf st
 fail:failedOf st'=failedOf st
 pend:(pendingOf st').toList=p'
 perm:(arrOf st').Perm (arrOf st)
 out:∀ i,(i < lo\/hi<=i)->(arrOf st')[i]?=(arrOf st)[i]?
 up:Up2 rk (arrOf st') lo hi
theorem mergeAt_ok (C:Ranks prog w A E s kd S rk) {st:C3} {sa na p1 nb p2:Nat} {pre post:List (Nat×Nat×Nat)} {Q:Bool->C3->Prop} (hS:∀ x∈(arrOf st).toList,S x) (hk:kindOf st=kd) (hf:failedOf st=none) (hp:(pendingOf st).toList=pre ++ (sa,na,p1) :: (sa + na,nb,p2) :: post) (h1:0 < na) (h2:0 < nb) (hz:sa + na + nb<=(arrOf st).size) (ua:Up2 rk (arrOf st) sa (sa + na)) (ub:Up2 rk (arrOf st) (sa + na) (sa + na + nb))
  (q:∀ st',Mrg rk sa (sa + na + nb) st st' (pre ++ (sa,na + nb,p1) :: post)->Q true st'):wpS (model prog w) A E s (mergeAt' pre.length) Q st:=by
 obtain ⟨g1,g2⟩:=pend_at hp
 have hn:=pend_new (z:=(sa,na + nb,p1)) hp
 refine Ai (Hg ?_)
 dsimp only
 unfold pendingOf at g1 g2
 rw [g1,g2]
 dsimp only
 refine Ai (wpS_setLike fun st1 k1 a1 q1 f1 => ?_)
 have k1:kindOf st1=kindOf st:=k1
 have a1:arrOf st1=arrOf st:=a1
 have f1:failedOf st1=failedOf st:=f1
 have q1:(pendingOf st1).toList=pre ++ (sa,na + nb,p1) :: post:=by rw [q1]; exact hn
 have hk1:kindOf st1=kd:=k1.trans hk
 have same:Up2 rk (arrOf st) sa (sa + na + nb)->Q true st1:=fun u=>q st1 ⟨k1,f1,q1,a1 ▸ Gp _,fun i _=>by rw [a1],by rw [a1]; exact u⟩
 have hA:=zhJ hS
 have i1:sa + na < (arrOf st).size:=by omega
 refine Ai (zaI i1 ?_)
 refine Ai (zbN C (arr:=arrOf st) (hA _ i1) (fun i h _ _=>hA i h) (by omega) (by omega) ua hk1 fun k j1 j2 j3 => ?_)
 dsimp only
 simp only [Cv,if_false,<- za3 (rk:=rk) i1] at j2 j3
 refine zam (fun e=>Am (same ?_)) (fun e => ?_)
 ·have e:na - k=0:=by simpa using e
  intro i j b1 b2 b3
  by_cases e1:j < sa + na
  ·exact ua i j b1 b2 e1
  by_cases e2:sa + na<=i
  ·exact ub i j e2 b2 b3
  have a2:=j2 (i - sa) (by omega)
  rw [show sa + (i - sa)=i by omega] at a2
  have a3:=ub (sa + na) j (A9 _) (by omega) b3
  omega
 have e:¬ na - k=0:=by simpa using e
 have hidx:sa + k + (na - k) - 1=sa + na - 1:=by omega
 rw [hidx]
 have i2:sa + na - 1 < (arrOf st).size:=by omega
 refine Ai (zaI i2 ?_)
 refine Ai (zbN C (arr:=arrOf st) (hA _ i2) (fun i h _ _=>hA i h) (by omega) (by omega) ub hk1 fun m j4 j5 j6 => ?_)
 dsimp only
 simp only [if_true,<- za3 (rk:=rk) i2] at j5 j6
 refine zam (fun e0=>Am (same ?_)) (fun e0 => ?_)
 ·have e0:m=0:=by simpa using e0
  intro i j b1 b2 b3
  by_cases e1:j < sa + na
  ·exact ua i j b1 b2 e1
  by_cases e2:sa + na<=i
  ·exact ub i j e2 b2 b3
  have a2:=j6 (j - (sa + na)) (by omega) (by omega)
  rw [show sa + na + (j - (sa + na))=j by omega] at a2
  have a3:=ua i (sa + na - 1) b1 (by omega) (by omega)
  omega
 have e0:¬ m=0:=by simpa using e0
 have lL:(arrOf st).toList.length=(arrOf st).size:=B7
 have xl:((arrOf st).extract (sa + k) (sa + na)).toList=seg (arrOf st).toList (sa + k) (na - k):=by rw [zaR,show sa + na - (sa + k)=na - k by omega]
 have yl:((arrOf st).extract (sa + na) (sa + na + m)).toList=seg (arrOf st).toList (sa + na) m:=by rw [zaR,Dy]
 have xs:((arrOf st).extract (sa + k) (sa + na)).size=na - k:=by rw [M5]; omega
 have ys:((arrOf st).extract (sa + na) (sa + na + m)).size=m:=by rw [M5]; omega
 have srtX:Srt rk (seg (arrOf st).toList (sa + k) (na - k)):=by
  have:=zeH (lo:=sa + k) (hi:=sa + na) (fun i j b1 b2 b3=>ua i j (by omega) b2 b3) (by omega)
  rwa [show sa + na - (sa + k)=na - k by omega] at this
 have srtY:Srt rk (seg (arrOf st).toList (sa + na) m):=by
  have:=zeH (lo:=sa + na) (hi:=sa + na + m) (fun i j b1 b2 b3=>ub i j (by omega) b2 (by omega)) (by omega)
  rwa [Dy] at this
 have atSeg:∀ {lo n:Nat} {y:Ay},y∈seg (arrOf st).toList lo n->∃ j,lo<=j/\j < lo + n/\j < (arrOf st).size/\rk y=kAt rk (arrOf st) j:=fun {lo n y} hy=>by
  obtain ⟨j,hj,b1,b2,b3⟩:=mem_seg hy
  have hj2:j < (arrOf st).size:=by omega
  refine ⟨j,b1,b2,hj2,?_⟩
  rw [<- b3,za3 hj2,zas _ hj2]
 have cX:∀ y∈seg (arrOf st).toList (sa + k) (na - k),kAt rk (arrOf st) (sa + na)<=rk y/\rk y<=kAt rk (arrOf st) (sa + na - 1):=fun y hy=>by
  obtain ⟨j,b1,b2,b3,b4⟩:=atSeg hy
  have a2:=j3 (j - sa) (by omega) (by omega)
  rw [show sa + (j - sa)=j by omega] at a2
  have a3:=ua j (sa + na - 1) (by omega) (by omega) (by omega)
  omega
 have cY:∀ y∈seg (arrOf st).toList (sa + na) m,kAt rk (arrOf st) (sa + na)<=rk y/\rk y<=kAt rk (arrOf st) (sa + na - 1):=fun y hy=>by
  obtain ⟨j,b1,b2,b3,b4⟩:=atSeg hy
  have a2:=j5 (j - (sa + na)) (by omega)
  rw [show sa + na + (j - (sa + na))=j by omega] at a2
  have a3:=ub (sa + na) j (by omega) (by omega) (by omega)
  omega
 have fin:∀ (res:Array Ay) (st2:C3),Like st1 st2->MFin rk ((arrOf st).extract (sa + k) (sa + na)).toList ((arrOf st).extract (sa + na) (sa + na + m)).toList res.toList->∀ st3,kindOf st3=kindOf st2->arrOf st3=K9 (fun (a:Array Ay) (x:Ay×Nat)=>a.setIfInBounds (sa + k + x.2) x.1) (arrOf st2) res.toList.zipIdx->pendingOf st3=pendingOf st2->failedOf st3=failedOf st2->Mrg rk sa (sa + na + nb) st st3 (pre ++ (sa,na + nb,p1) :: post):=fun res st2 hL hM st3 k3 a3 q3 f3=>by
  rw [xl,yl] at hM
  have lM:res.toList.length=na - k + m:=by
   rw [hM.1.length_eq,Ab,<- xl,<- yl,B7,B7,xs,ys]
  rw [hL.2.1,a1] at a3
  have b3:=congrArg Np a3
  rw [zfG (sa + k) res.toList 0 (arrOf st) (by omega),F6] at b3
  have ew:(arrOf st).toList=(arrOf st).toList.take (sa + k) ++ (seg (arrOf st).toList (sa + k) (na - k) ++ seg (arrOf st).toList (sa + na) m) ++ (arrOf st).toList.drop (sa + k + res.toList.length):=by
   rw [lM]
   have:=seg_whole (arrOf st).toList (sa + k) (na - k + m)
   rwa [seg_split,show sa + k + (na - k)=sa + na by omega] at this
  refine ⟨k3.trans (hL.1.trans k1),f3.trans (hL.2.2.2.trans f1),by rw [q3,hL.2.2.1,q1],?_,fun i hi=>back_out b3 (by omega) i (by omega),?_⟩
  ·refine K6.mpr ?_
   rw [b3]
   conv=>rhs; rw [ew]
   exact Go _ (D6 _ hM.1)
  ·have e1:(arrOf st).toList.take (sa + k)=(arrOf st).toList.take sa ++ seg (arrOf st).toList sa k:=Nl
   have e2:(arrOf st).toList.drop (sa + k + res.toList.length)=seg (arrOf st).toList (sa + na + m) (nb - m) ++ (arrOf st).toList.drop (sa + na + nb):=by
    rw [lM,show sa + k + (na - k + m)=sa + na + m by omega]
    unfold seg
    conv=>lhs; rw [<- Cb (nb - m) ((arrOf st).toList.drop (sa + na + m))]
    rw [Ka,show sa + na + m + (nb - m)=sa + na + nb by omega]
   have e3:(arrOf st3).toList=(arrOf st).toList.take sa ++ (seg (arrOf st).toList sa k ++ res.toList ++ seg (arrOf st).toList (sa + na + m) (nb - m)) ++ (arrOf st).toList.drop (sa + na + nb):=by
    rw [b3,e1,e2]; simp
   have cM:∀ y∈res.toList,kAt rk (arrOf st) (sa + na)<=rk y/\rk y<=kAt rk (arrOf st) (sa + na - 1):=fun y hy=>by
    rcases An.mp (hM.1.mem_iff.mp hy) with z | z
    ·exact cX y z
    ·exact cY y z
   have cA:∀ y∈seg (arrOf st).toList sa k,rk y<=kAt rk (arrOf st) (sa + na):=fun y hy=>by
    obtain ⟨j,b1,b2,b3,b4⟩:=atSeg hy
    have a2:=j2 (j - sa) (by omega)
    rw [show sa + (j - sa)=j by omega] at a2
    omega
   have cB:∀ y∈seg (arrOf st).toList (sa + na + m) (nb - m),kAt rk (arrOf st) (sa + na - 1)<=rk y/\kAt rk (arrOf st) (sa + na)<=rk y:=fun y hy=>by
    obtain ⟨j,b1,b2,b3,b4⟩:=atSeg hy
    have a2:=j6 (j - (sa + na)) (by omega) (by omega)
    rw [show sa + na + (j - (sa + na))=j by omega] at a2
    have a3:=ub (sa + na) j (by omega) (by omega) (by omega)
    omega
   have sA:Srt rk (seg (arrOf st).toList sa k):=by
    have:=zeH (lo:=sa) (hi:=sa + k) (fun i j b1 b2 b3=>ua i j (by omega) b2 (by omega)) (by omega)
    rwa [Dy] at this
   have sB:Srt rk (seg (arrOf st).toList (sa + na + m) (nb - m)):=by
    have:=zeH (lo:=sa + na + m) (hi:=sa + na + nb) (fun i j b1 b2 b3=>ub i j (by omega) b2 (by omega)) (by omega)
    rwa [show sa + na + nb - (sa + na + m)=nb - m by omega] at this
   have sAll:Srt rk (seg (arrOf st).toList sa k ++ res.toList ++ seg (arrOf st).toList (sa + na + m) (nb - m)):=by
    refine C1.mpr ⟨C1.mpr ⟨sA,hM.2,fun x hx y hy=>Lm (cA x hx) (cM y hy).1⟩,sB,fun x hx y hy => ?_⟩
    rcases An.mp hx with z | z
    ·exact Lm (cA x z) (cB y hy).2
    ·exact Lm (cM x z).2 (cB y hy).1
   have:=up_seg e3 sAll
   have l1:((arrOf st).toList.take sa).length=sa:=by rw [Cf]; omega
   have l2:(seg (arrOf st).toList sa k ++ res.toList ++ seg (arrOf st).toList (sa + na + m) (nb - m)).length=na + nb:=by
    rw [Ab,Ab,lM]
    unfold seg
    rw [Cf,Cf,F3,F3]
    omega
   rwa [l1,l2,<- J4] at this
 have x0:0 < ((arrOf st).extract (sa + k) (sa + na)).size:=by omega
 have y0:0 < ((arrOf st).extract (sa + na) (sa + na + m)).size:=by omega
 have hX:Srt rk ((arrOf st).extract (sa + k) (sa + na)).toList:=by rw [xl]; exact srtX
 have hY:Srt rk ((arrOf st).extract (sa + na) (sa + na + m)).toList:=by rw [yl]; exact srtY
 have SX:∀ i (h:i < ((arrOf st).extract (sa + k) (sa + na)).size),S ((arrOf st).extract (sa + k) (sa + na))[i]:=fun i h=>by rw [Fs]; exact hA _ _
 have SY:∀ i (h:i < ((arrOf st).extract (sa + na) (sa + na + m)).size),S ((arrOf st).extract (sa + na) (sa + na + m))[i]:=fun i h=>by rw [Fs]; exact hA _ _
 have Y0:rk (((arrOf st).extract (sa + na) (sa + na + m))[0]'y0)=kAt rk (arrOf st) (sa + na):=by
  rw [za3 i1,Fs]; rfl
 have XL:rk (((arrOf st).extract (sa + k) (sa + na))[((arrOf st).extract (sa + k) (sa + na)).size - 1]'(by omega))=kAt rk (arrOf st) (sa + na - 1):=by
  rw [za3 i2,Fs]
  congr 2
  rw [xs]; omega
 have hh0:∀ y∈((arrOf st).extract (sa + k) (sa + na)).toList,rk (((arrOf st).extract (sa + na) (sa + na + m))[0]'y0)<=rk y:=fun y hy=>by
  rw [xl] at hy; rw [Y0]; exact (cX y hy).1
 have hhl:∀ y∈((arrOf st).extract (sa + na) (sa + na + m)).toList,rk y<=rk (((arrOf st).extract (sa + k) (sa + na))[((arrOf st).extract (sa + k) (sa + na)).size - 1]'(by omega)):=fun y hy=>by
  rw [yl] at hy; rw [XL]; exact (cY y hy).2
 refine zam (fun _=>Ai (mergeLo_ok C x0 y0 hX hY SX SY hh0 hhl hk1 fun res st2 hL hM=>Ai (zc5 fun st3 k3 a3 q3 f3 => ?_))) (fun _=>Ai (mergeHi_ok C x0 y0 hX hY SX SY hh0 hhl hk1 fun res st2 hL hM=>Ai (zc5 fun st3 k3 a3 q3 f3 => ?_)))
 all_goals
  have r:=fin res st2 hL hM st3 k3 a3 q3 f3
  have fl:failedOf st3=none:=r.fail.trans hf
  refine Ai (Hg ?_)
  unfold failedOf at fl
  rw [fl]
  exact Am (q st3 r)
end
noncomputable def Stk (rk:Ay->Int) (arr:Array Ay):List (Nat×Nat×Nat)->Nat->Nat->Prop
 | [],a,e=>a=e
 | x :: r,a,e=>x.1=a/\0 < x.2.1/\Up2 rk arr a (a + x.2.1)/\Stk rk arr r (a + x.2.1) e
section
variable {rk:Ay->Int} {arr arr':Array Ay}
theorem Stk.le:∀ {l:List (Nat×Nat×Nat)} {a e:Nat},Stk rk arr l a e->a + l.length<=e
 | [],a,e,h=>by have h:a=e:=h; simp; omega
 | x :: r,a,e,⟨h1,h2,h3,h4⟩=>by have:=Stk.le h4; rw [As]; omega
theorem Stk.congr:∀ {l:List (Nat×Nat×Nat)} {a e:Nat},(∀ i,a<=i->i < e->kAt rk arr' i=kAt rk arr i)->Stk rk arr l a e->Stk rk arr' l a e
 | [],a,e,_,h=>h
 | x :: r,a,e,hc,⟨h1,h2,h3,h4⟩=>by
  have:=Stk.le h4
  refine ⟨h1,h2,fun i j b1 b2 b3 => ?_,Stk.congr (fun i b1 b2=>hc i (by omega) b2) h4⟩
  rw [hc i b1 (by omega),hc j (by omega) (by omega)]
  exact h3 i j b1 b2 b3
theorem Stk.split:∀ {l m:List (Nat×Nat×Nat)} {a e:Nat},Stk rk arr (l ++ m) a e->∃ b,Stk rk arr l a b/\Stk rk arr m b e
 | [],m,a,e,h=>⟨a,rfl,h⟩
 | x :: r,m,a,e,⟨h1,h2,h3,h4⟩=>by
  obtain ⟨b,g1,g2⟩:=Stk.split h4
  exact ⟨b,⟨h1,h2,h3,g1⟩,g2⟩
theorem Stk.join:∀ {l m:List (Nat×Nat×Nat)} {a b e:Nat},Stk rk arr l a b->Stk rk arr m b e->Stk rk arr (l ++ m) a e
 | [],m,a,b,e,h,k=>by have h:a=b:=h; rw [h]; exact k
 | x :: r,m,a,b,e,⟨h1,h2,h3,h4⟩,k=>⟨h1,h2,h3,Stk.join h4 k⟩
theorem Stk.mod {f:Nat×Nat×Nat->Nat×Nat×Nat} (hf:∀ x,(f x).1=x.1/\(f x).2.1=x.2.1):∀ {l:List (Nat×Nat×Nat)} {i a e:Nat},Stk rk arr l a e->Stk rk arr (l.modify i f) a e
 | [],i,a,e,h=>by cases i <;> simpa [List.modify_nil] using h
 | x :: r,0,a,e,⟨h1,h2,h3,h4⟩=>by
  show Stk rk arr (f x :: r) a e
  refine ⟨(hf x).1.trans h1,?_,?_,?_⟩
  ·rw [(hf x).2]; exact h2
  ·rw [(hf x).2]; exact h3
  ·rw [(hf x).2]; exact h4
 | x :: r,i + 1,a,e,⟨h1,h2,h3,h4⟩=>⟨h1,h2,h3,Stk.mod hf h4⟩
theorem two_at {α : Type} {l:List α} {i:Nat} (h:i + 1 < l.length):∃ pre x y post,l=pre ++ x :: y :: post/\pre.length=i:=by
 refine ⟨l.take i,l[i]'(by omega),l[i + 1],l.drop (i + 2),?_,by rw [Cf]; omega⟩
 conv=>lhs; rw [<- Cb i l]
 rw [Eb (show i < l.length by omega),Eb h]
end
section
variable {prog:Av} {w:Bu} {A:Bd} {E:A0->A4->Prop} {s:A4} {kd:Hw} {S:Ay->Prop} {rk:Ay->Int}
structure Stg (rk:Ay->Int) (kd:Hw) (a₀ : Array Ay) (st:C3) (e:Nat):Prop where
 kind:kindOf st=kd
 fail:failedOf st=none
 perm:(arrOf st).Perm a₀
 stk:Stk rk (arrOf st) (pendingOf st).toList 0 e
 le:e<=a₀.size
theorem zdO (C:Ranks prog w A E s kd S rk) {a₀ : Array Ay} {st:C3} {i e:Nat} {Q:Bool->C3->Prop} (hS:∀ x∈a₀.toList,S x) (g:Stg rk kd a₀ st e) (hi:i + 1 < (pendingOf st).size)
  (q:∀ st',Stg rk kd a₀ st' e->(pendingOf st').size + 1=(pendingOf st).size->(∀ j,e<=j->(arrOf st')[j]?=(arrOf st)[j]?)->Q true st'):wpS (model prog w) A E s (mergeAt' i) Q st:=by
 obtain ⟨pre,⟨sa,na,p1⟩,⟨sb,nb,p2⟩,post,hp,rfl⟩:=two_at (l:=(pendingOf st).toList) (i:=i) (by rw [B7]; exact hi)
 have hs:=g.stk
 rw [hp] at hs
 obtain ⟨b,s1,e1,n1,u1,e2,n2,u2,s2⟩:=hs.split
 dsimp only at e1 n1 u1 e2 n2 u2 s2
 subst e1 e2
 have sz:=g.perm.size_eq
 have l2:=s2.le
 have le:=g.le
 refine mergeAt_ok C (zch g.perm hS) g.kind g.fail hp n1 n2 (by omega) u1 u2 fun st' m => ?_
 refine q st' ⟨m.kind.trans g.kind,m.fail.trans g.fail,m.perm.trans g.perm,?_,g.le⟩ ?_ fun j hj=>m.out j (.inr (by omega))
 ·rw [m.pend]
  refine Stk.join (b:=sa) (s1.congr fun i b1 b2=>za4 (m.out i (.inl b2))) ⟨rfl,by show 0 < na + nb; omega,?_,?_⟩
  ·have:=m.up; show Up2 rk _ sa (sa + (na + nb)); rwa [<- J4]
  ·show Stk rk _ post (sa + (na + nb)) e
   rw [<- J4]
   exact s2.congr fun i b1 b2=>za4 (m.out i (.inr b1))
 ·rw [<- B7,<- B7,m.pend,hp,Ab,Ab,As,As,As]
  omega
theorem sortRuns_ok (C:Ranks prog w A E s kd S rk) {st:C3} {Q:Unit->C3->Prop} (hS:∀ x∈(arrOf st).toList,S x) (hk:kindOf st=kd) (hf:failedOf st=none) (hp:pendingOf st = #[]) (h2:2<=(arrOf st).size)
  (q:∀ st',(arrOf st').Perm (arrOf st)->failedOf st'=none->Up2 rk (arrOf st') 0 (arrOf st).size->Q () st'):wpS (model prog w) A E s sortRuns' Q st:=by
 rw [sortRuns'_eq]
 refine Ai (Hg ?_)
 dsimp only
 obtain ⟨a₀,ha⟩:∃ a,a=arrOf st:=⟨_,rfl⟩
 have g0:Stg rk kd a₀ st 0:=⟨hk,hf,ha ▸ Gp _,by rw [hp]; exact rfl,By _⟩
 rw [<- ha] at hS h2 ⊢
 rw [<- ha] at q
 refine Ai (E6 (D0 (I:=fun x c st'=>∃ lo,c=(none,lo)/\Stg rk kd a₀ st' lo/\(x<=lo\/lo=a₀.size)) (Q:=fun c st'=>∃ lo,c=(none,lo)/\Stg rk kd a₀ st' lo/\lo=a₀.size) ?step ?fin ⟨0,rfl,g0,.inl (By _)⟩) ?post)
 case fin =>
  rintro c st' ⟨lo,rfl,g,h⟩
  have:=g.le
  exact ⟨lo,rfl,g,by omega⟩
 case step =>
  rintro x c st1 _ hx ⟨lo,rfl,g,hlo⟩
  dsimp only
  have gle:=g.le
  refine zam (fun e=>Am ⟨lo,rfl,g,by omega⟩) (fun e => ?_)
  have sz:=g.perm.size_eq
  refine Ai (countRun_ok C (zch g.perm hS) g.kind (by omega) (by omega) fun n st2 c2 n1 n2 u2 => ?_)
  have keep:∀ {st2:C3},Chg lo a₀.size st1 st2->Stg rk kd a₀ st2 lo:=fun c2=>⟨c2.kind.trans g.kind,c2.fail.trans g.fail,c2.perm.trans g.perm,by rw [c2.pend]; exact g.stk.congr fun i b1 b2=>za4 (c2.out i (.inl b2)),g.le⟩
  have c2':Chg lo a₀.size st1 st2:=c2.wide (A9 _) (by omega)
  have g2:=keep c2'
  have sz2:=g2.perm.size_eq
  dsimp only
  refine zam (fun hm=>Ai (J6 (Ij ⟨rfl,Ai (binSort_ok C (zch g2.perm hS) g2.kind (by omega) (by omega) u2 fun st3 c3 u3 => ?_)⟩))) (fun hm => ?_)
  simp only [Ku,Cv,if_false]
  have g3:=keep (c2'.trans (c3.wide (A9 _) (by omega)))
  generalize hn3:min (a₀.size - lo) (minRun' a₀.size a₀.size 0)=n3 at u3 ⊢
  have n31:1<=n3:=by omega
  have n32:lo + n3<=a₀.size:=by omega
  rotate_left
  have g3:=g2
  have u3:=u2
  have n31:=n1
  have n32:lo + n<=a₀.size:=by omega
  clear c2 c2' u2 g2 n2 n1 hm sz2
  generalize st2=st3 at g3 u3 ⊢
  generalize n=n3 at u3 n31 n32 ⊢
  all_goals
   have push:∀ {st4:C3},Stg rk kd a₀ st4 lo->Up2 rk (arrOf st4) lo (lo + n3)->Stg rk kd a₀ (setPending st4 ((pendingOf st4).push (lo,n3,0))) (lo + n3):=fun {st4} g4 u4=>⟨g4.kind,g4.fail,g4.perm,by
    show Stk rk (arrOf st4) ((pendingOf st4).push (lo,n3,0)).toList 0 (lo + n3)
    rw [Cg]
    exact g4.stk.join ⟨rfl,n31,u4,rfl⟩,n32⟩
   refine Ai (Hg ?_)
   cases hb:(pendingOf st3).back? with
   | none=>exact Ai (Js (Am ⟨lo + n3,rfl,push g3 u3,by omega⟩))
   | some t =>
    obtain ⟨s1,n1',pp⟩:=t
    dsimp only
    refine Ai (E6 (D0 (I:=fun _ c st'=>c=(none,())/\Stg rk kd a₀ st' lo/\Up2 rk (arrOf st') lo (lo + n3)) (Q:=fun c st'=>c=(none,())/\Stg rk kd a₀ st' lo/\Up2 rk (arrOf st') lo (lo + n3)) ?_ (fun _ _ h=>h) ⟨rfl,g3,u3⟩) ?_)
    ·rintro y c st4 _ _ ⟨rfl,g4,u4⟩
     refine Ai (Hg ?_)
     by_cases hps:(pendingOf st4).size > 1
     ·rw [if_pos hps]
      cases hq:(pendingOf st4)[(pendingOf st4).size - 2]? with
      | none=>exact Am ⟨rfl,g4,u4⟩
      | some t =>
       obtain ⟨t1,t2,older⟩:=t
       dsimp only
       refine zam (fun _=>Am ⟨rfl,g4,u4⟩) (fun _=>Ai (zdO C hS g4 (by omega) fun st5 g5 _ o5 => ?_))
       simp only [Ku,Cv,if_false]
       refine Am ⟨rfl,g5,fun i j b1 b2 b3 => ?_⟩
       rw [za4 (o5 i b1),za4 (o5 j (by omega))]
       exact u4 i j b1 b2 b3
     ·rw [if_neg hps]
      exact Am ⟨rfl,g4,u4⟩
    ·rintro c st4 ⟨rfl,g4,u4⟩
     dsimp only
     refine Ai (zc5 fun st5 k5 a5 q5 f5=>Ai (Js (Am ⟨lo + n3,rfl,push (st4:=st5) ?_ ?_,by omega⟩)))
     ·refine ⟨k5.trans g4.kind,f5.trans g4.fail,by rw [a5]; exact g4.perm,?_,g4.le⟩
      rw [a5,q5]
      show Stk rk (arrOf st4) ((pendingOf st4).modify _ _).toList 0 lo
      rw [Array.toList_modify]
      refine Stk.mod ?_ g4.stk
      exact fun x=>⟨rfl,rfl⟩
     ·rw [a5]; exact u4
 case post =>
  rintro c st1 ⟨lo,rfl,g,rfl⟩
  dsimp only
  have l1:=g.stk.le
  rw [B7] at l1
  refine Ai (E6 (D0 (I:=fun x c st'=>c=(none,())/\Stg rk kd a₀ st' a₀.size/\((pendingOf st').size<=1\/(pendingOf st').size + x<=a₀.size)) (Q:=fun c st'=>c=(none,())/\Stg rk kd a₀ st' a₀.size/\(pendingOf st').size<=1) ?_ ?_ ⟨rfl,g,.inr (by omega)⟩) ?_)
  ·rintro x c st2 _ hx ⟨rfl,g2,hp2⟩
   refine Ai (Hg ?_)
   refine zam (fun e=>Am ⟨rfl,g2,e⟩) (fun e => ?_)
   refine Ai (zdO C hS g2 ?_ fun st5 g5 z5 o5 => ?_)
   ·by_cases hb:Option.any (fun x=>decide (x < Option.elim (pendingOf st2)[(pendingOf st2).size - 2 + 1]? 0 fun x=>x.2.1)) (if (pendingOf st2).size - 2 > 0 then Lq (fun x=>x.2.1) (pendingOf st2)[(pendingOf st2).size - 2 - 1]? else none)=true
    ·rw [if_pos hb]; omega
    ·rw [if_neg hb]; omega
   ·simp only [Ku,Cv,if_false]
    exact Am ⟨rfl,g5,by omega⟩
  ·rintro c st2 ⟨rfl,g2,hp2⟩
   exact ⟨rfl,g2,by omega⟩
  ·rintro c st2 ⟨rfl,g2,hp2⟩
   refine Am (q st2 g2.perm g2.fail ?_)
   have hs:=g2.stk
   have hl:(pendingOf st2).toList.length<=1:=by rw [B7]; exact hp2
   match hm:(pendingOf st2).toList,hs,hl with
   | [],hs,_=>have hs:0=a₀.size:=hs; omega
   | [x],⟨b1,b2,b3,b4⟩,_ =>
    have b4:0 + x.2.1=a₀.size:=b4
    rwa [b4] at b3
end
end L2
namespace L2
open PySem PySem.Spec PyProof.Rows PySem.W
noncomputable def rkI:Ay->Int:=fun k=>numOf k.1
section
variable {prog:Av} {w:Bu} {A:Bd} {E:A0->A4->Prop} {s:A4}
theorem ranks_int:Ranks prog w A E s oneType' (fun k=>∃ n t,k.1 = .int n t) rkI:=⟨fun {x y st Q} hx hy hk q=>by
 obtain ⟨x1,x2⟩:=x
 obtain ⟨y1,y2⟩:=y
 obtain ⟨n,t,e⟩:=hx
 obtain ⟨m,u,e2⟩:=hy
 dsimp only at e e2
 subst e e2
 rw [lt'_eq]
 refine Ai (Hg ?_)
 rw [hk,keyLt'_oneType]
 exact Ai (J6 (Ly (oneLt_int ⟨rfl,Am q⟩)))⟩
theorem sortI {a:A3} {vs:List A0} {ns:List Int} {n:Nat} {P:PySem.Fin->A4->Prop} (ho:s.heap.get? a=some (seqObj "list" vs.toArray n)) (hI:Hi vs ns) (hb:vs.length<=sizeLine)
  (q:∀ (out:Array A0) (ns':List Int),Hi out.toList ns'->ns'.Perm ns->ns'.Pairwise (· <= ·)->P (.done (.ret .none)) { s with heap:=sortedHeap s.heap a vs out }) :
  wpAny (model prog w) A (Ip.«list.sort» ⟨[.ref a],[]⟩) P E s:=by
 have fin:∀ st':C3,(arrOf st').Perm (pairsOf vs)->Up2 rkI (arrOf st') 0 (pairsOf vs).size->P (.done (.ret .none)) { s with heap:=sortedHeap s.heap a vs ((arrOf st').map (·.2)) }:=fun st' hp hs=>by
  obtain ⟨ns',b1,b2,b3⟩:=sorted_out hI hp (fun i j hij hj=>hs i j (By _) hij hj)
  exact q _ ns' b1 b2 b3
 rw [list_sort_plain]; have hlt:=Ar ho
 obtain ⟨e1,o1⟩:∃ e,(s.heap.update a (Fw fun _=>(#[]:Array A0))).get? a=some (seqObj "list" #[] e):=⟨_,get?_update_seq ho fun _ => #[]⟩
 have hz:vs.toArray.size=vs.length:=B1
 refine A6 (listItems_at ho rfl (A6 (Lz ho rfl (A6 (Mx o1 rfl (A6 (wpAny_newTuple (A6 (Lx (Ex ?_) (By _))) (by show vs.length<=_; omega))))) (by rw [hz]; omega) (By _))))
 have o6:(((s.heap.update a (Fw fun _=>(#[]:Array A0))).push (seqObj "tuple" vs.toArray 0)).push (seqObj "list" #[] 0)).get? a=some (seqObj "list" #[] e1):=Ag _ (Ag _ o1)
 show wpAny (model prog w) A _ P E { s with heap:=((s.heap.update a (Fw fun _=>(#[]:Array A0))).push (seqObj "tuple" vs.toArray 0)).push (seqObj "list" #[] 0) }; dsimp only
 by_cases h2:vs.toArray.size < 2
 ·rw [if_pos h2,if_pos h2]; refine A6 (Aq ?_)
  rw [StateT.run_pure]; refine A6 (Aq ?_)
  dsimp only
  refine A6 (Mx o6 rfl (A6 (Lz o6 rfl ?_ (By _) (by rw [N6]; show (pairsOf vs).size<=_; rw [Jz]; omega))))
  simp only [bne_self_eq_false,Cv,if_false]
  refine Aq (fin (Nw general' (vs.toArray.zip vs.toArray) #[] 7 none) (Gp _) fun i j _ hij hj => ?_)
  rw [Jz] at hj
  rw [show i=j by omega]; exact Do _
 ·rw [if_neg h2,if_neg h2]
  have hkk:keyKind' vs.toArray=pure oneType':=by
   match vs,hI,h2 with
   | [],_,h2=>simp at h2
   | [_],_,h2=>simp at h2
   | v₁ :: v₂ :: r,hI,_=>exact keyKind_ints hI
  rw [hkk]
  refine A6 (Aq ?_)
  refine A6 (Dq (sortRuns_ok (ranks_int (E:=E)) (st:=Nw oneType' (vs.toArray.zip vs.toArray) #[] 7 none) (Q:=fun _ st'=>(arrOf st').Perm (pairsOf vs)/\failedOf st'=none/\Up2 rkI (arrOf st') 0 (pairsOf vs).size) hI.intKeys rfl rfl rfl (by show 2<=(pairsOf vs).size; rw [Jz]; omega) fun st' c1 c2 c3=>⟨c1,c2,c3⟩) ?_ fun _ _ e=>e)
  rintro ⟨⟨⟩,st'⟩ s' ⟨rfl,hp,hf,hs⟩
  dsimp only
  refine A6 (Mx o6 rfl (A6 (Lz o6 rfl ?_ (By _) (by rw [N6,hp.size_eq,Jz]; omega))))
  rw [hf]
  simp only [bne_self_eq_false,Cv,if_false]
  exact Aq (fin st' hp hs)
end
theorem zeq:∀ {l:List A0} {ns:List Int},l.length=ns.length->(∀ (j:Nat) (v:A0) (x:Int),l[j]?=some v->ns[j]?=some x->∃ t,v = .int x t)->Hi l ns
 | [],[],_,_ => .nil
 | v :: l,x :: ns,hl,h=>by
  obtain ⟨t,rfl⟩:=h 0 v x rfl rfl
  exact .cons _ _ (zeq (by simpa using hl) fun j u y e1 e2=>h (j + 1) u y (by simpa using e1) (by simpa using e2))
section
variable {X:Cx}
theorem call_sortedDI (hc:X.calm=true):CallR X (.builtin "sorted") (fun xs H Q=>∃ (a:A3) (kvs:List (Key×V)) (ns:List Int),xs = [V.ref a]/\Rd H a (.dK kvs)/\kvs.map (·.1)=ns.map Cp/\ns.length<=4096 /\
  ∀ p (ns':List Int),H p=none->ns'.Perm ns->ns'.Pairwise (· <= ·)->Q (.ref p) (upd H p (.lst (ns'.map V.int)))):=by
 intro pins s σ H xs us Q I r h
 obtain ⟨a,kvs,ns,rfl,hq,hk,hb,q⟩:=h
 obtain ⟨u,rfl,ru⟩:=zci r
 cases ru
 obtain ⟨hz,lo,vs,kv,hD⟩:=(show ObjOk X.prog X.w H s.heap a (.dK kvs) from hq.ok I.hok)
 obtain ⟨ep,hat⟩:=hD.dictAt
 have hlen:vs.length=ns.length:=by
  have e1:=kv.length
  have e2:=congrArg Fe hk
  rw [A1,A1] at e2
  omega
 have big:(4096:Nat)<=sizeLine:=by decide
 refine Kb kind_sorted Pz Q0 (Q2 _) ?_
 unfold Ip.«sorted»
 refine A6 (m:=checkCount "sorted" 1 1 _) (Aq ?_)
 refine A6 (L1 (A:=X.A.in1) (J9 (knd:=mixKind X.prog X.w) (kvs:=vs) (ep:=ep) lo) (I.ok.hd hc) hat (by omega) fun h' tk acc hkeep hacc => ?_)
 have hl:acc.toList.length=vs.length:=by rw [B7]; exact hacc.1
 have hS:Hi acc.toList ns:=by
  refine zeq (by omega) fun j v x e1 e2 => ?_
  obtain ⟨k,y,e3,hk2⟩:=hacc.2 j v (by rw [<- Db]; exact e1)
  obtain ⟨v',e4,_⟩:=kv.get e3
  have e5:(kvs.map (·.1))[j]?=some k:=by rw [Ad,e4]; rfl
  rw [hk,Ad,e2] at e5
  have e6:Cp x=k:=C4 e5
  subst e6
  rcases zaC (show keyIs (Cp x) v=true from hk2) with ⟨i,t,e,e7⟩ | ⟨y,t,e,e7⟩
  ·cases e; exact ⟨t,e7⟩
  ·cases e
 refine A6 (Lx ?_ (by rw [hl]; omega))
 have hoL:(h'.push (seqObj "list" acc.toList.toArray 0)).get? h'.objs.size=some (seqObj "list" acc.toList.toArray 0):=Bh _ rfl
 refine A6 (Ex (G6 P8 ⟨_,hoL,rfl⟩ Og (sortI hoL hS (by omega) fun out ns' a1 a2 a3=>⟨_,rfl,?_⟩) (Pa _)))
 refine Aq ⟨_,rfl,?_⟩
 obtain ⟨e,he⟩:=Pe (out:=out) hoL
 have I1:Inv X pins σ H { s with heap:=h',toks:=tk }:=I.kept hkeep
 have I2:=Inv.laid (o := .lst (ns'.map V.int)) (a:=h'.objs.size) (h':=sortedHeap (h'.push (seqObj "list" acc.toList.toArray 0)) h'.objs.size acc.toList out) (t':=tk) I1 (fun b o hb=>by
  have lt:=Ar hb
  rw [P7 (Bs lt) (by rw [Fl]; exact Gs lt)]
  exact Ag _ hb) (A9 _) (show ObjOk X.prog X.w _ _ _ (.lst (ns'.map V.int)) from ⟨by rw [A1,a2.length_eq]; omega,_,e,zcE a1,by rw [Ln]; exact he⟩)
 exact ⟨.ref h'.objs.size,_,I2,rfl,q _ ns' (I1.hok.fresh (A9 _)) a2 a3⟩
end
end L2
namespace L2
open PySem PySem.Spec PyProof.Rows
noncomputable def behN (C:Combs) (l:List Nat):List Nat:=(Af 128).filter fun s=>l.any fun t=>(stp C t).any fun p=>decide (p.2.toNat=s)
noncomputable def rowN (C:Combs):Nat->List Nat
 | 0 => [0]
 | k + 1=>behN C (rowN C k)
theorem beh_mem {C:Combs} {l:List Nat} {s:Nat}:s∈behN C l ↔ s < 128/\∃ t∈l,∃ p∈stp C t,p.2.toNat=s:=by
 unfold behN
 rw [Az,Ax]
 constructor
 ·rintro ⟨h,e⟩
  obtain ⟨t,ht,e⟩:=Bj.mp e
  obtain ⟨p,hp,e⟩:=Bj.mp e
  exact ⟨h,t,ht,p,hp,of_decide_eq_true e⟩
 ·rintro ⟨h,t,ht,p,hp,e⟩
  exact ⟨h,Bj.mpr ⟨t,ht,Bj.mpr ⟨p,hp,decide_eq_true e⟩⟩⟩
theorem zhF (C:Combs) (l:List Nat):(behN C l).Pairwise (· < ·):=Ba Ci D5
theorem zfX (C:Combs) (l:List Nat):(behN C l).length<=128:=by
 have:=Df (fun s=>l.any fun t=>(stp C t).any fun p=>decide (p.2.toNat=s)) (Af 128)
 rwa [B0] at this
theorem zc9 (C:Combs):∀ k,(∀ s∈rowN C k,s < 128)/\(rowN C k).length<=128
 | 0=>⟨fun s h=>by rw [show rowN C 0 = [0] from rfl,A5] at h; omega,by show 1<=128; decide⟩
 | k + 1=>⟨fun s h=>(beh_mem.mp h).1,zfX C _⟩
theorem beh_keys {C:Combs} (g:GC C) {l:List Nat} (hl:∀ t∈l,t < 128) {rs:List Int} (nd:rs.Nodup) (hm:∀ n,n∈rs ↔ ∃ t∈l,∃ p∈stp C t,p.2=n):rs.Perm ((behN C l).map fun s=>((s:Nat):Int)):=by
 refine (D1 nd ?_).mpr fun n => ?_
 ·refine zaS ?_
  rw [Bb]
  exact (zhF C l).imp fun h=>by omega
 ·rw [hm,A7]
  constructor
  ·rintro ⟨t,ht,p,hp,rfl⟩
   have:=zbt g (hl t ht) hp
   exact ⟨p.2.toNat,beh_mem.mpr ⟨this.2,t,ht,p,hp,rfl⟩,by omega⟩
  ·rintro ⟨s,hs,rfl⟩
   obtain ⟨h1,t,ht,p,hp,e⟩:=beh_mem.mp hs
   have:=zbt g (hl t ht) hp
   exact ⟨t,ht,p,hp,by omega⟩
theorem beh_sorted (C:Combs) (l:List Nat):((behN C l).map fun s=>((s:Nat):Int)).Pairwise (· <= ·):=by
 rw [Bb]
 exact (zhF C l).imp fun h=>by omega
theorem zgp {C:Combs}:∀ {k s j:Nat},s∈rowN C k->tr (rowAt C j) s=true->tr (rowAt C (j + k)) 0=true
 | 0,s,j,h,e=>by rw [show rowN C 0 = [0] from rfl,A5] at h; rwa [h] at e
 | k + 1,s,j,h,e=>by
  obtain ⟨h1,t,ht,p,hp,e2⟩:=beh_mem.mp h
  have:tr (rowAt C (j + 1)) t=true:=by
   show tr (nxtRow C (rowAt C j)) t=true
   rw [zeB ((zc9 C k).1 t ht)]
   exact Bj.mpr ⟨p,hp,by rw [e2]; exact e⟩
  have:=zgp ht this
  rwa [show j + 1 + k=j + (k + 1) by omega] at this
theorem zgo {C:Combs} (g:GC C) {m k:Nat} (h:tr (rowAt C m) 0=false) (hk:rowN C k ≠ []):k < m:=by
 rcases Nat.lt_or_ge k m with z | z
 ·exact z
 ·obtain ⟨s,hs⟩:=List.exists_mem_of_ne_nil _ hk
  have:=zgp hs (zgX ((zc9 C k).1 s hs))
  rw [Fp,show k=m + (k - m) by omega] at this
  rw [zgY g (by decide) _ this] at h
  cases h
noncomputable def RowsN (H:Hp) (ws:List V) (C:Combs) (m:Nat):Prop:=ws.length=m + 1/\∀ i:Nat,i<=m->∃ q,ws[i]?=some (.ref q)/\H q=some (.lst ((rowN C i).map fun s=>V.int (s:Nat)))
theorem RowsN.same {H H':Hp} {ws:List V} {C:Combs} {m:Nat} (r:RowsN H ws C m) (s:Same H H'):RowsN H' ws C m:=⟨r.1,fun i h=>let ⟨q,a,b⟩:=r.2 i h; ⟨q,a,s _ _ b⟩⟩
theorem RowsN.ne {H:Hp} {ws:List V} {C:Combs} {m:Nat} (r:RowsN H ws C m) {p q:A3} {bs:List Nat} (hp:H p=some (.lst ws)) (hq:H q=some (.lst (bs.map fun s=>V.int (s:Nat)))):q≠p:=fun z=>by
 rw [z,hp] at hq
 obtain ⟨qa,e,_⟩:=r.2 0 (By _)
 injection hq with hq
 injection hq with hq
 rw [hq,Ad] at e
 cases h:bs[0]? with
 | none=>rw [h] at e; cases e
 | some b=>rw [h] at e; cases e
theorem RowsN.snoc {H:Hp} {ws:List V} {C:Combs} {m:Nat} (r:RowsN H ws C m) {p q:A3} (hp:H p=some (.lst ws)) (hq:H q=some (.lst ((rowN C (m + 1)).map fun s=>V.int (s:Nat)))):RowsN (upd H p (.lst (ws ++ [.ref q]))) (ws ++ [.ref q]) C (m + 1):=by
 refine ⟨by rw [Ab,r.1]; rfl,fun i hi => ?_⟩
 by_cases e:i=m + 1
 ·subst e
  exact ⟨q,by rw [Cr (by rw [r.1]; omega),r.1]; simp,by rw [zaf (r.ne hp hq)]; exact hq⟩
 ·obtain ⟨qa,e1,e2⟩:=r.2 i (by omega)
  exact ⟨qa,by rw [Cu (by rw [r.1]; omega)]; exact e1,by rw [zaf (r.ne hp e2)]; exact e2⟩
theorem zfc {κ : Type} [DecidableEq κ] (kvs:List (κ × V)) (k : κ) (v:V):(putK kvs k v).map (·.1)=if k∈kvs.map (·.1) then kvs.map (·.1) else kvs.map (·.1) ++ [k]:=by
 unfold putK
 by_cases h:(kvs.any fun kv=>decide (kv.1=k))=true
 ·rw [if_pos h,if_pos (valV_mem.mp (by rw [<- zbq]; exact h)),B5]
  refine C7 fun kv _ => ?_
  show (if kv.1=k then (kv.1,v) else kv).1=kv.1
  split <;> rfl
 ·rw [if_neg h,if_neg (fun z=>h (by rw [zbq]; exact valV_mem.mpr z)),Ao]
  rfl
noncomputable def GrL (H:Hp) (kvs:List (List Key×V)) (ks:Combs) (L:List Nat):Prop:=Cw (fun (s:Nat) (kv:List Key×V)=>kv.1=akey s/\∃ q vs,kv.2 = .ref q/\H q=some (.lst vs)/\GoesR H vs (goesOf ks (aheadOf (s:Int)))) L kvs
theorem GrL.mono {H H':Hp} {kvs:List (List Key×V)} {ks:Combs} {L:List Nat} (r:GrL H kvs ks L) (m:∀ kv∈kvs,∀ q vs,kv.2 = .ref q->H q=some (.lst vs)->H' q=some (.lst vs)) (mt:∀ q xs,H q=some (.tup xs)->H' q=some (.tup xs)):GrL H' kvs ks L:=by
 induction r with
 | nil=>exact .nil
 | cons h _ ih =>
  obtain ⟨a,q,vs,b,c,d⟩:=h
  exact .cons ⟨a,q,vs,b,m _ Ap q vs b c,d.mono mt⟩ (ih fun kv hkv=>m kv (Ak _ hkv))
theorem GrL.same {H H':Hp} {kvs:List (List Key×V)} {ks:Combs} {L:List Nat} (r:GrL H kvs ks L) (s:Same H H'):GrL H' kvs ks L:=r.mono (fun _ _ _ _ _ e=>s _ _ e) fun _ _ e=>s _ _ e
theorem GrL.len {H:Hp} {kvs:List (List Key×V)} {ks:Combs} {L:List Nat} (r:GrL H kvs ks L):kvs.length=L.length:=(D9 r).symm
theorem GrL.keys {H:Hp} {kvs:List (List Key×V)} {ks:Combs} {L:List Nat} (r:GrL H kvs ks L):kvs.map (·.1)=L.map akey:=by
 induction r with
 | nil=>rfl
 | cons h _ ih=>rw [Al,Al,ih,h.1]
theorem akeys_nd {L:List Nat} (nd:L.Nodup) (lt:∀ s∈L,s < 128):(L.map akey).Nodup:=by
 rw [E8,Bb]
 rw [E8] at nd
 exact Et (fun {a b} ha hb hab e=>hab (zdw (lt a ha) (lt b hb) e)) nd
theorem GrL.val {H:Hp} {kvs:List (List Key×V)} {ks:Combs} {L:List Nat} (r:GrL H kvs ks L) (nd:L.Nodup) (lt:∀ s∈L,s < 128) {s:Nat} (hs:s∈L):∃ q vs,valV kvs (akey s)=some (.ref q)/\H q=some (.lst vs)/\GoesR H vs (goesOf ks (aheadOf (s:Int))):=by
 obtain ⟨i,hi,rfl⟩:=Ei hs
 obtain ⟨kv,e1,e2,q,vs,e3,e4,e5⟩:=Cw.at r (A8 hi)
 refine ⟨q,vs,?_,e4,e5⟩
 rw [<- e3]
 exact zez (by rw [r.keys]; exact akeys_nd nd lt) (by rw [e1,<- e2])
theorem GrL.has {H:Hp} {kvs:List (List Key×V)} {ks:Combs} {L:List Nat} (r:GrL H kvs ks L) (lt:∀ s∈L,s < 128) {s:Nat} (hs:s < 128):(valV kvs (akey s)).isSome=decide (s∈L):=by
 rw [Bi,valV_mem,r.keys,decide_eq_true_eq,A7]
 exact ⟨fun ⟨j,hj,e⟩=>zdw (lt j hj) hs e ▸ hj,fun h=>⟨s,h,rfl⟩⟩
theorem GrL.snoc {H:Hp} {kvs:List (List Key×V)} {ks:Combs} {L:List Nat} {s:Nat} {q:A3} {vs:List V} (r:GrL H kvs ks L) (h1:H q=some (.lst vs)) (h2:GoesR H vs (goesOf ks (aheadOf (s:Int)))):GrL H (kvs ++ [(akey s,.ref q)]) ks (L ++ [s]):=F8 r ⟨rfl,q,vs,rfl,h1,h2⟩
noncomputable def ClsS (C:Combs) (L:List Nat):Prop:=(∀ s∈L,s < 128)/\∀ s∈L,∀ p∈stp C s,p.2.toNat∈L
noncomputable def ov (al:Nat->Nat->Bool) (i p:Nat):Nat:=if p < i then 1 else ind (al i (p - i))
section
variable {al ta:Nat->Nat->Bool}
noncomputable def cn (nm:Nat->Str) (i:Nat):Nat:=(laid nm i).length
end
theorem laid_up (nm:Nat->Str) (n:Nat):(laid nm n).Pairwise (· < ·):=Ba Ci D5
theorem zhn {n j:Nat} (f:Nat->V) (v:V) (h:j < n):((Af n).map f).set j v=(Af n).map fun p=>if p=j then v else f p:=by
 refine Jb fun i => ?_
 rw [List.getElem?_set,Ad,A1,B0]
 by_cases e:j=i
 ·subst e
  rw [if_pos rfl,if_pos h,Ad,Ch h,Dg,if_pos rfl]
 ·rw [if_neg e,Ad]
  by_cases hi:i < n
  ·rw [Ch hi,Dg,Dg,if_neg (fun z=>e z.symm)]
  ·rw [Dt (by rw [B0]; omega)]
   rfl
theorem count_teeth {ts:List Int} (nd:ts.Nodup) (h0:∀ t∈ts,0<=t) (i p:Nat):(ts.map fun t=>i + t.toNat).count p=if i<=p then ind (decide (((p - i:Nat):Int)∈ts)) else 0:=by
 have nd2:(ts.map fun t=>i + t.toNat).Nodup:=by
  rw [E8,Bb]
  rw [E8] at nd
  refine Et (fun {a b} ha hb hab e=>hab ?_) nd
  have:=h0 a ha
  have:=h0 b hb
  omega
 have hm:p∈(ts.map fun t=>i + t.toNat) ↔ i<=p/\((p - i:Nat):Int)∈ts:=by
  rw [A7]
  constructor
  ·rintro ⟨t,ht,rfl⟩
   have:=h0 t ht
   exact ⟨by omega,by rw [show ((i + t.toNat - i:Nat):Int)=t by omega]; exact ht⟩
  ·rintro ⟨h,ht⟩
   exact ⟨_,ht,by omega⟩
 rw [nd2.count]
 by_cases h:i<=p
 ·rw [if_pos h]
  by_cases h2:((p - i:Nat):Int)∈ts
  ·rw [if_pos (hm.mpr ⟨h,h2⟩),decide_eq_true h2]; rfl
  ·rw [if_neg (fun z=>h2 (hm.mp z).2),decide_eq_false h2]; rfl
 ·rw [if_neg h,if_neg (fun z=>h (hm.mp z).1)]
end L2
namespace L2
open PySem PySem.Spec PyProof.Rows PySem.W
section
variable {prog:Av} {w:Bu} {A:Bd} {E:A0->A4->Prop} {s:A4}
end
section
variable {prog:Av} {w:Bu} {A:Bd} {E:A0->A4->Prop} {s:A4}
end
section
variable {prog:Av} {w:Bu} {A:Bd} {E:A0->A4->Prop} {s:A4} {d:A3} {o:Obj} {es:Array Jf} {ep:Nat}
end
noncomputable def TupsR (H:Hp) (nss:List (List Int)) (ws:List V):Prop:=Cw (fun (ns:List Int) (v:V)=>∃ q,v = .ref q/\H q=some (.tup (ns.map V.int))) nss ws
section
variable {X:Cx}
end
section
variable {X:Cx}
end
theorem beh_nd (C:Combs) (l:List Nat):(behN C l).Nodup:=(zhF C l).imp fun h=>Bs h
end L2
set_option maxHeartbeats 4000000
namespace L2
open PySem PySem.Spec PyProof.Rows PySem.W
section
variable {prog:Av} {w:Bu} {A:Bd} {E:A0->A4->Prop} {s:A4}
end
noncomputable def storeAll (kvs:List (Key×A0)):List (Key×A0):=kvs.foldl (fun m p=>stored m p.1 p.2) []
section
variable {prog:Av} {w:Bu} {A:Bd} {E:A0->A4->Prop} {s:A4}
end
section
variable {prog:Av} {w:Bu} {A:Bd} {E:A0->A4->Prop} {s:A4}
end
section
variable {X:Cx}
end
end L2
namespace L2
open PySem PySem.Spec PyProof.Rows
section
variable {X:Cx} {pins:List (A3×Obj)} {σ : St} {H:Hp} {s:A4} {h':Ce}
end
end L2
namespace Att
open PySem PySem.W PySem.Calls PyProof.Rows
end Att
namespace L2
open PySem PySem.Spec PyProof.Rows
section
variable {X:Cx}
end
theorem zaV {s d:Nat} (hs:s < 128):((d:Nat):Int)∈aheadOf (s:Int) ↔ s.testBit d=true:=by
 rw [mem_ahead]
 constructor
 ·rintro ⟨_,_,h⟩
  simpa using h
 ·intro h
  refine ⟨by omega,Jr fun z => ?_,by simpa using h⟩
  have h7:7<=d:=by omega
  rw [Hn (Ae hs (show 128<=2 ^ d from Im (n:=2) (by decide) h7))] at h
  cases h
theorem zca {a b:Nat} (h:∀ d,a.testBit d=b.testBit d):a=b:=Io h
noncomputable def StB (C:Combs) (s:Nat) (x:Str) (n:Nat):Prop:=(s.testBit 0=true/\x=A2 "" /\ ∀ d,n.testBit d=s.testBit (d + 1))\/(s.testBit 0=false/\∃ c∈C,x=c.1/\(∀ d:Nat,s.testBit d=true->(d:Int) ∉ c.2)/\∀ d,n.testBit d=(s.testBit (d + 1) || decide (((d + 1:Nat):Int)∈c.2)))
theorem zfq {C:Combs} (g:GC C) {s:Nat} (hs:s < 128) {p:Str×List Int} (hp:p∈goesOf C (aheadOf (s:Int))):∃ m:Nat,m < 128/\worth p.2=(m:Int)/\StB C s p.1 m:=by
 obtain ⟨k1,k2,k3,_⟩:=zdt hs g hp
 refine ⟨(worth p.2).toNat,k1,by omega,?_⟩
 have e:=zen k3
 generalize (worth p.2).toNat=m at k1 e
 unfold goesOf at hp
 by_cases h0:(0:Int)∈aheadOf (s:Int)
 ·rw [if_pos h0] at hp
  have hp:=A5.mp hp
  refine .inl ⟨(zaV hs).mp h0,by rw [hp],fun d => ?_⟩
  rw [Bi,<- zaV k1,<- zaV hs,<- e,hp,zdQ zbS (by simp)]
  simp
 ·rw [if_neg h0] at hp
  obtain ⟨c,hc,rfl⟩:=A7.mp hp
  obtain ⟨hc1,hc2⟩:=Az.mp hc
  have hm:meets (aheadOf (s:Int)) c.2=false:=by simpa using hc2
  refine .inr ⟨?_,c,hc1,rfl,fun d hd z=>meets_false.mp hm _ z ((zaV hs).mpr hd),fun d => ?_⟩
  ·cases z:s.testBit 0 with
   | false=>rfl
   | true=>exact absurd ((zaV hs).mpr z) h0
  ·rw [Bi,<- zaV k1,N5,decide_eq_true_eq,<- zaV hs,<- e]
   exact zdQ zbS (zb7 (g c hc1)) d
theorem zcH {C:Combs} (g:GC C) {s n:Nat} (hs:s < 128) {x:Str}:(x,(n:Int))∈stp C s ↔ n < 128/\StB C s x n:=by
 rw [<- zbM hs g,A7]
 constructor
 ·rintro ⟨p,hp,e⟩
  obtain ⟨m,m1,m2,m3⟩:=zfq g hs hp
  injection e with e1 e2
  have:m=n:=by omega
  subst this
  exact ⟨m1,e1 ▸ m3⟩
 ·rintro ⟨hn,h⟩
  have key:∀ p∈goesOf C (aheadOf (s:Int)),p.1=x->(∀ m,worth p.2=(m:Nat)->StB C s p.1 m->m=n)->∃ p∈goesOf C (aheadOf (s:Int)),(p.1,worth p.2)=(x,(n:Int)):=fun p hp e1 e2=>by
   obtain ⟨m,_,m2,m3⟩:=zfq g hs hp
   exact ⟨p,hp,by rw [e1,m2,e2 m m2 m3]⟩
  rcases h with ⟨h0,rfl,hb⟩ | ⟨h0,c,hc,rfl,hx,hb⟩
  ·refine key (A2 "",afterOf (aheadOf (s:Int)) []) ?_ rfl fun m _ hm => ?_
   ·unfold goesOf
    rw [if_pos (show (0:Int)∈aheadOf (s:Int) from (zaV hs).mpr h0)]
    exact A5.mpr rfl
   ·rcases hm with ⟨_,_,hb'⟩ | ⟨h0',_⟩
    ·exact zca fun d=>by rw [hb,hb']
    ·rw [h0] at h0'; cases h0'
  ·have n0:(0:Int) ∉ aheadOf (s:Int):=fun z=>by
    have:=(zaV (d:=0) hs).mp z
    rw [h0] at this; cases this
   have hp:(c.1,afterOf (aheadOf (s:Int)) c.2)∈goesOf C (aheadOf (s:Int)):=by
    unfold goesOf
    rw [if_neg n0]
    refine A7.mpr ⟨c,Az.mpr ⟨hc,?_⟩,rfl⟩
    have:meets (aheadOf (s:Int)) c.2=false:=meets_false.mpr fun t ht z=>by
     have h1:=zbS t z
     obtain ⟨d,rfl⟩:=En h1.1
     exact hx d ((zaV hs).mp z) ht
    rw [this]; rfl
   obtain ⟨k1,k2,k3,_⟩:=zdt hs g hp
   have e:=zen k3
   refine ⟨_,hp,?_⟩
   have e2:(worth (afterOf (aheadOf (s:Int)) c.2)).toNat=n:=by
    refine zca fun d => ?_
    rw [Bi,<- zaV k1,hb,N5,decide_eq_true_eq,<- zaV hs]
    dsimp only at e ⊢
    rw [<- e]
    exact zdQ zbS (zb7 (g c hc)) d
   dsimp only at k2 e2 ⊢
   rw [<- e2,show (((worth (afterOf (aheadOf (s:Int)) c.2)).toNat:Nat):Int)=worth (afterOf (aheadOf (s:Int)) c.2) by omega]
noncomputable def hit (C:Combs) (x:Nat×Str) (q:Nat):Bool:=decide (x.1<=q) && decide (((q - x.1:Nat):Int)∈tkOf C x.2)
noncomputable def cov (C:Combs) (l:List (Nat×Str)) (q:Nat):Nat:=(l.map fun x=>ind (hit C x q)).sum
theorem zc2 (C:Combs) (l:List (Nat×Str)) (x:Nat×Str) (q:Nat):cov C (l ++ [x]) q=cov C l q + ind (hit C x q):=by
 unfold cov
 rw [Ao,Fa]
 simp
noncomputable def chs (C:Combs):Nat->List (List (Nat×Str))
 | 0 => [[]]
 | p + 1=>(chs C p).flatMap fun r=>r :: C.map fun c=>r ++ [(p,c.1)]
noncomputable def OkC (C:Combs) (l:List (Nat×Str)) (p:Nat):Prop:=(∀ q,q < p->cov C l q=1)/\∀ q,q < p + 8->cov C l q<=1
noncomputable def shp (C:Combs) (l:List (Nat×Str)) (p:Nat):Nat:=bitSum (fun d=>decide (cov C l (p + d)=1)) 7
theorem zcz {C:Combs}:∀ {p:Nat} {l:List (Nat×Str)},l∈chs C p->∀ x∈l,x.1 < p/\x.2∈C.map (·.1)
 | 0,l,h,x,hx=>by
  rw [A5.mp (show l ∈ [[]] from h)] at hx
  cases hx
 | p + 1,l,h,x,hx=>by
  obtain ⟨r,hr,h⟩:=E4.mp h
  rcases Bc.mp h with rfl | h
  ·have:=zcz hr x hx
   exact ⟨by omega,this.2⟩
  ·obtain ⟨c,hc,rfl⟩:=A7.mp h
   rcases An.mp hx with z | z
   ·have:=zcz hr x z
    exact ⟨by omega,this.2⟩
   ·rw [A5.mp z]
    exact ⟨Em _,A7.mpr ⟨c,hc,rfl⟩⟩
theorem tk_in {C:Combs} (g:GC C) {x:Str} {t:Int} (h:t∈tkOf C x):0<=t/\t<=7:=by
 unfold tkOf at h
 cases e:cGet C x with
 | none=>rw [e] at h; cases h
 | some ts=>rw [e] at h; exact zb7 (g _ (zeV e)) t h
theorem zeC {α : Type} {l:List α} {f : α -> Nat} (h:∀ x∈l,f x=0):(l.map f).sum=0:=by
 induction l with
 | nil=>rfl
 | cons a l ih =>
  rw [Al,Ct,h a Ap,ih fun x hx=>h x (Ak _ hx)]
theorem zde {C:Combs} (g:GC C) {p:Nat} {l:List (Nat×Str)} (h:l∈chs C p) {q:Nat} (hq:p + 7<=q):cov C l q=0:=zeC fun x hx=>by
 have:=(zcz h x hx).1
 unfold hit
 rw [decide_eq_false (show ¬ ((q - x.1:Nat):Int)∈tkOf C x.2 from fun z=>by have:=(tk_in g z).2; omega),Ng]
 rfl
theorem zg3 (C:Combs) (l:List (Nat×Str)) (p:Nat):shp C l p < 128:=zc4 _ 7
theorem zaY {C:Combs} (g:GC C) {p:Nat} {l:List (Nat×Str)} (h:l∈chs C p) (d:Nat):(shp C l p).testBit d=decide (cov C l (p + d)=1):=by
 unfold shp
 rw [zbR]
 by_cases hd:d < 7
 ·rw [decide_eq_true hd,Eg]
 ·rw [decide_eq_false hd,El,zde g h (by omega)]
  rfl
theorem zhu {C:Combs} (nd:(C.map (·.1)).Nodup) {c:Str×List Int} (hc:c∈C) (p d:Nat):hit C (p,c.1) (p + d)=decide ((d:Int)∈c.2):=by
 unfold hit tkOf
 rw [zb6 nd hc]
 simp
theorem hit_below {C:Combs} {p q:Nat} {x:Str} (h:q < p):hit C (p,x) q=false:=by
 unfold hit
 rw [decide_eq_false (show ¬ p<=q by omega),El]
theorem zeM {C:Combs} {p:Nat} {l:List (Nat×Str)} (hl:l∈chs C p) (g:GC C):OkC C l (p + 1) ↔ OkC C l p/\cov C l p=1:=by
 constructor
 ·rintro ⟨h1,h2⟩
  exact ⟨⟨fun q hq=>h1 q (by omega),fun q hq=>h2 q (by omega)⟩,h1 p (by omega)⟩
 ·rintro ⟨⟨h1,h2⟩,h3⟩
  refine ⟨fun q hq => ?_,fun q hq => ?_⟩
  ·by_cases e:q=p
   ·rw [e]; exact h3
   ·exact h1 q (by omega)
  ·by_cases e:q < p + 8
   ·exact h2 q e
   ·rw [zde g hl (by omega)]; omega
theorem zeL {C:Combs} {p:Nat} {l:List (Nat×Str)} (hl:l∈chs C p) (g:GC C) (nd:(C.map (·.1)).Nodup) {c:Str×List Int} (hc:c∈C):OkC C (l ++ [(p,c.1)]) (p + 1) ↔ OkC C l p/\cov C l p=0/\∀ d:Nat,cov C l (p + d)=1->(d:Int) ∉ c.2:=by
 have e1:∀ q,q < p->cov C (l ++ [(p,c.1)]) q=cov C l q:=fun q hq=>by rw [zc2,hit_below hq]; rfl
 have e2:∀ d,cov C (l ++ [(p,c.1)]) (p + d)=cov C l (p + d) + ind (decide ((d:Int)∈c.2)):=fun d=>by rw [zc2,zhu nd hc]
 have h0:(0:Int)∈c.2:=zdd (g c hc)
 have e0:cov C (l ++ [(p,c.1)]) p=cov C l p + 1:=by
  have:=e2 0
  rw [decide_eq_true (show ((0:Nat):Int)∈c.2 from h0)] at this
  exact this
 constructor
 ·rintro ⟨h1,h2⟩
  have hp:=h1 p (by omega)
  refine ⟨⟨fun q hq=>by rw [<- e1 q hq]; exact h1 q (by omega),fun q hq => ?_⟩,by omega,fun d hd z => ?_⟩
  ·by_cases e:q < p
   ·rw [<- e1 q e]; exact h2 q (by omega)
   ·have:=h2 q (by omega)
    have e3:=e2 (q - p)
    rw [show p + (q - p)=q by omega] at e3
    omega
  ·have e3:=e2 d
   rw [hd,decide_eq_true z] at e3
   have hd8:d<=7:=by have:=(zb7 (g c hc) _ z).2; omega
   have:=h2 (p + d) (by omega)
   rw [e3] at this
   exact absurd this (by decide)
 ·rintro ⟨⟨h1,h2⟩,h3,h4⟩
  refine ⟨fun q hq => ?_,fun q hq => ?_⟩
  ·by_cases e:q=p
   ·rw [e,e0,h3]
   ·rw [e1 q (by omega)]; exact h1 q (by omega)
  ·by_cases e:q < p
   ·rw [e1 q e]; exact h2 q (by omega)
   ·have e3:=e2 (q - p)
    rw [show p + (q - p)=q by omega] at e3
    have hle:cov C l q<=1:=by
     by_cases e':q < p + 8
     ·exact h2 q e'
     ·rw [zde g hl (by omega)]; omega
    rw [e3]
    by_cases z:((q - p:Nat):Int)∈c.2
    ·have:cov C l q≠1:=fun y=>h4 (q - p) (by rw [show p + (q - p)=q by omega]; exact y) z
     rw [decide_eq_true z]
     show cov C l q + 1<=1
     omega
    ·rw [decide_eq_false z]
     exact hle
section
variable {P:Av} {w:Bu} {A:Bd} {E:A0->A4->Prop} {s:A4}
end
noncomputable abbrev NX:=List (List Key)×A3×V
section
variable {P:Av} {w:Bu} {H:Hp} {h:Ce} {a b:A3} {xs:List NX} {ks:List (List Key)}
end
section
variable {X:Cx} {pins:List (A3×Obj)} {σ : St} {H:Hp} {s:A4} {a b:A3} {xs:List NX} {ks:List (List Key)} {A:Bd} {E:A0->A4->Prop}
end
section
variable {X:Cx} {o i e value:Cc} {pos pos' tpos:Pos} {td ty tv:TE}
theorem call_max1' (K:At) (hK:X.K=K) (hc:X.calm=true):CallR X (.builtin "max") (fun xs H Q=>∃ (a:A3) (ns:List Int),xs = [V.ref a]/\SqL K H a (ns.map V.int)/\0 < ns.length/\∀ M,M∈ns->(∀ n∈ns,n<=M)->Q (.int M) H):=hK ▸ call_max1 hc
end
noncomputable def tDisp1T (tk tv:TE):TE:=fun σ H Q=>∀ p,H p=none->tk σ (upd H p (.dT [])) fun x H1=>tv σ H1 fun y H2=>∃ k b,H2 p=some (.dT [])/\x = .ref b/\H2 b=some (.tup (k.map kV))/\Q (.ref p) (upd H2 p (.dT [(k,y)]))
theorem pe_disp1T {X:Cx} {pos:Pos} {k v:Cc} {tk tv:TE} (hu:X.A.units + 1 < cLine) (hk:PE X k tk) (hv:PE X v tv):PE X (.Dict [some k] [v] pos) (tDisp1T tk tv):=by
 intro pins s σ H Q I q
 have hn:=I.hok.fresh (A9 s.heap.objs.size)
 have I1:=I.laid (a:=s.heap.objs.size) (o := .dT []) (h':=s.heap.push { cls := .type "dict",data := .dict #[] }) (t':=s.toks) (fun _ _ q=>Ag _ q) (A9 _) (zgN s.heap I.big)
 refine wpAny_Dict_any rfl rfl (by simp) (show 1<=15 by decide) (pairTrees_cons_walk (thnE (hk pins _ σ _ _ I1 (q _ hn)) fun u s1 x H1 J1 rx q1=>thnE (hv pins s1 σ H1 _ J1 q1) fun r s2 y H2 J2 ry ⟨kk,b,hp,ex,hb,q2⟩=>pairTrees_nil_walk ?_))
 subst ex
 cases (show u=Bq b from rx)
 unfold PySem.storeAll
 rw [Jw]
 obtain ⟨z,hd,xs,rel,dd⟩:=ziu J2.hok hp
 cases rel
 refine A6 (A6 (wpAny_dictSet_heap (knd:=tupleKind (mixKind X.prog X.w)) (hsz:=By _) (by show X.A.units < cLine; omega) (zdV J2.hok hb) dd fun h' dd' hs=>Aq ?_))
 dsimp only
 rw [List.forIn_nil]
 refine Aq ⟨.ref s.heap.objs.size,_,?_,rfl,q2⟩
 obtain ⟨o,es,ep,h1,h2,h3,h4,_,h5⟩:=dd'
 refine zfW J2 (by rw [hp]; exact Ef) hs ⟨o,h1⟩ ⟨show 1<=sizeLine from Bv (by decide) zaO,hd,_,.cons ⟨rfl,?_,ry⟩ .nil,o,es,ep,h1,h2,h3,h4,h5⟩
 rw [zaf (zhL hb hp (fun z=>nomatch z))]
 exact hb
section
variable {X:Cx} {o i e value:Cc} {pos pos' tpos:Pos} {td ty tv:TE}
end
noncomputable def st1 (C:Combs) (s t:Nat):Prop:=∃ p∈stp C s,p.2.toNat=t
noncomputable def rch (C:Combs) (s:Nat):Nat->Nat->Prop
 | 0,t=>t=s
 | n + 1,t=>∃ u,rch C s n u/\st1 C u t
theorem zhQ {C:Combs} (g:GC C) {s t:Nat} (hs:s < 128) (h:st1 C s t):t < 128:=by
 obtain ⟨p,hp,rfl⟩:=h
 exact (zbt g hs hp).2
theorem zeh {C:Combs} (g:GC C) {s:Nat} (hs:s < 128):∀ {n t:Nat},rch C s n t->t < 128
 | 0,t,h=>by rw [show t=s from h]; exact hs
 | n + 1,t,⟨u,h1,h2⟩=>zhQ g (zeh g hs h1) h2
theorem zeI {C:Combs} {s m u:Nat} (h:rch C s m u):∀ {n t:Nat},rch C u n t->rch C s (m + n) t
 | 0,t,h2=>by rw [show t=u from h2]; exact h
 | n + 1,t,⟨v,h1,h2⟩=>⟨v,zeI h h1,h2⟩
theorem zdE {C:Combs} {s m:Nat}:∀ {n t:Nat},rch C s (m + n) t->∃ u,rch C s m u/\rch C u n t
 | 0,t,h=>⟨t,h,rfl⟩
 | n + 1,t,⟨v,h1,h2⟩=>by
  obtain ⟨u,a,b⟩:=zdE h1
  exact ⟨u,a,v,b,h2⟩
theorem zc8 {C:Combs} (g:GC C):∀ {k t:Nat},t∈rowN C k ↔ rch C 0 k t
 | 0,t=>A5
 | k + 1,t=>by
  rw [show rowN C (k + 1)=behN C (rowN C k) from rfl,beh_mem]
  constructor
  ·rintro ⟨_,u,hu,p,hp,e⟩
   exact ⟨u,(zc8 g).mp hu,p,hp,e⟩
  ·rintro ⟨u,hu,h⟩
   exact ⟨zhQ g (zeh g (by decide) hu) h,u,(zc8 g).mpr hu,h⟩
noncomputable def Fil (C:Combs) (n:Nat):Prop:=rch C 0 n 0
theorem zgM (C:Combs):Fil C 0:=rfl
theorem zhz {C:Combs} {m n:Nat} (h1:Fil C m) (h2:Fil C n):Fil C (m + n):=zeI h1 h2
theorem zhy {C:Combs} {m:Nat} (h:Fil C m):∀ k,Fil C (k * m)
 | 0=>by rw [Hm]; exact zgM C
 | k + 1=>by rw [Nat.add_one_mul]; exact zhz (zhy h k) h
theorem zhb {C:Combs} {s:Nat}:∀ {n t:Nat},rch C s n t->∃ f:Nat->Nat,f n=t/\∀ i,i<=n->rch C s i (f i)/\rch C (f i) (n - i) t
 | 0,t,h=>⟨fun _=>t,rfl,fun i hi=>by
  have:i=0:=by omega
  subst this
  exact ⟨h,rfl⟩⟩
 | n + 1,t,⟨u,h1,h2⟩=>by
  obtain ⟨f,e,hf⟩:=zhb h1
  refine ⟨fun i=>if i<=n then f i else t,if_neg (by omega),fun i hi => ?_⟩
  dsimp only
  by_cases z:i<=n
  ·rw [if_pos z]
   refine ⟨(hf i z).1,?_⟩
   rw [show n + 1 - i=n - i + 1 by omega]
   exact ⟨u,(hf i z).2,h2⟩
  ·rw [if_neg z]
   have:i=n + 1:=by omega
   subst this
   rw [Ho]
   exact ⟨⟨u,h1,h2⟩,rfl⟩
theorem twice {f:Nat->Nat} (h:∀ i,i<=128->f i < 128):∃ i j,i < j/\j<=128/\f i=f j:=by
 refine Eu fun z => ?_
 have nd:((Af 129).map f).Nodup:=by
  rw [Fb,Bb,Dr]
  intro i j hi hj hij e
  rw [M8,M8] at e
  rw [B0] at hj
  exact z ⟨i,j,hij,by omega,e⟩
 have:=zaG 128 _ nd (fun x hx=>by
  obtain ⟨i,hi,rfl⟩:=A7.mp hx
  exact h i (by have:=Ax.mp hi; omega))
 rw [A1,B0] at this
 omega
theorem fil_small {C:Combs} (g:GC C):∀ (n:Nat),Fil C n->1<=n->∃ m,1<=m/\m<=128/\Fil C m:=by
 intro n
 induction n using Nb with
 | _ n ih =>
  intro h h1
  by_cases hn:n<=128
  ·exact ⟨n,h1,hn,h⟩
  obtain ⟨f,e,hf⟩:=zhb h
  obtain ⟨i,j,hij,hj,ef⟩:=twice (f:=f) fun i hi=>zeh g (by decide) (hf i (by omega)).1
  have a:=(hf i (by omega)).1
  have b:=(hf j (by omega)).2
  rw [<- ef] at b
  exact ih (i + (n - j)) (by omega) (zeI a b) (by omega)
theorem zcg (C:Combs) (P:Nat×Str->Bool) (q:Nat):∀ l:List (Nat×Str),cov C (l.filter P) q=(l.map fun x=>if P x=true then ind (hit C x q) else 0).sum
 | []=>rfl
 | x :: l=>by
  have ih:=zcg C P q l
  rw [Au,Al,Ct,<- ih]
  split
  ·unfold cov
   rw [Al,Ct]
  ·rw [Fp]
theorem cov_app (C:Combs) (l m:List (Nat×Str)) (q:Nat):cov C (l ++ m) q=cov C l q + cov C m q:=by
 unfold cov
 rw [Ao,Fa]
noncomputable def inOrder (l:List (Nat×Str)) (p:Nat):List (Nat×Str):=(Af p).flatMap fun j=>l.filter fun x=>decide (x.1=j)
theorem zbH (l:List (Nat×Str)) (p:Nat):inOrder l (p + 1)=inOrder l p ++ l.filter fun x=>decide (x.1=p):=by
 unfold inOrder
 rw [Dh,List.flatMap_append]
 simp
theorem zg2 {α : Type} (f g : α -> Nat):∀ l:List α,(l.map f).sum + (l.map g).sum=(l.map fun x=>f x + g x).sum
 | []=>rfl
 | a :: l=>by
  have:=zg2 f g l
  simp only [Al,Ct]
  omega
theorem zcG {α : Type} {f g : α -> Nat} {l:List α} (h:∀ x∈l,f x=g x):(l.map f).sum=(l.map g).sum:=by
 rw [C7 h]
theorem zd2 (C:Combs) (l:List (Nat×Str)) (q:Nat):∀ p,cov C (inOrder l p) q=cov C (l.filter fun x=>decide (x.1 < p)) q
 | 0=>by
  rw [E2.mpr (fun x _=>by rw [decide_eq_true_eq]; omega)]
  rfl
 | p + 1=>by
  rw [zbH,cov_app,zd2 C l q p,zcg,zcg,zcg,zg2]
  refine zcG fun x _ => ?_
  by_cases h1:x.1 < p
  ·rw [decide_eq_true h1,decide_eq_false (show ¬ x.1=p by omega),decide_eq_true (show x.1 < p + 1 by omega)]
   rfl
  ·by_cases h2:x.1=p
   ·rw [decide_eq_false h1,decide_eq_true h2,decide_eq_true (show x.1 < p + 1 by omega)]
    simp
   ·rw [decide_eq_false h1,decide_eq_false h2,decide_eq_false (show ¬ x.1 < p + 1 by omega)]
    rfl
noncomputable def Lay (C:Combs) (l:List (Nat×Str)):Prop:=∀ x∈l,x.2∈C.map (·.1)
theorem zg0 {C:Combs} (nd:(C.map (·.1)).Nodup) {x:Str} (h:x∈C.map (·.1)):∃ c∈C,c.1=x/\tkOf C x=c.2:=by
 obtain ⟨c,hc,rfl⟩:=A7.mp h
 exact ⟨c,hc,rfl,by unfold tkOf; rw [zb6 nd hc]; rfl⟩
theorem zgF {C:Combs} (g:GC C) (nd:(C.map (·.1)).Nodup) {x:Nat×Str} (h:x.2∈C.map (·.1)):hit C x x.1=true:=by
 obtain ⟨c,hc,e,e2⟩:=zg0 nd h
 unfold hit
 rw [e2,decide_eq_true (A9 _),Ho,decide_eq_true (show ((0:Nat):Int)∈c.2 from zdd (g c hc))]
 rfl
theorem cov_one {C:Combs} {l:List (Nat×Str)} {x:Nat×Str} (hx:x∈l) {q:Nat} (h:hit C x q=true):1<=cov C l q:=by
 induction l with
 | nil=>cases hx
 | cons y l ih =>
  unfold cov
  rw [Al,Ct]
  rcases Bc.mp hx with rfl | hx
  ·rw [h]; show 1<=1 + _; omega
  ·have:=ih hx
   unfold cov at this
   omega
theorem zeu {C:Combs} (g:GC C) (nd:(C.map (·.1)).Nodup) {l:List (Nat×Str)} (hl:Lay C l) (j:Nat):(l.filter fun x=>decide (x.1=j)).length<=cov C l j:=by
 induction l with
 | nil=>exact By _
 | cons y l ih =>
  have ih:=ih fun x hx=>hl x (Ak _ hx)
  unfold cov at ih ⊢
  rw [Al,Ct,Au]
  by_cases e:y.1=j
  ·have:=zgF g nd (hl y Ap)
   rw [e] at this
   rw [if_pos (decide_eq_true e),As,this]
   show _<=1 + _
   omega
  ·rw [if_neg (by rw [decide_eq_true_eq]; exact e)]
   omega
theorem zdX {C:Combs} (g:GC C) (nd:(C.map (·.1)).Nodup) {l:List (Nat×Str)} (hl:Lay C l):∀ p,(∀ q,q < p->cov C l q<=1)->inOrder l p∈chs C p
 | 0,_=>A5.mpr rfl
 | p + 1,h=>by
  have ih:=zdX g nd hl p fun q hq=>h q (by omega)
  have h1:=Bv (zeu g nd hl p) (h p (by omega))
  rw [zbH]
  refine E4.mpr ⟨_,ih,?_⟩
  cases e:l.filter fun x=>decide (x.1=p) with
  | nil=>rw [Cq]; exact Ap
  | cons x m =>
   rw [e,As] at h1
   have hm:m = []:=Fz (by omega)
   subst hm
   have hx:x∈l.filter fun x=>decide (x.1=p):=by rw [e]; exact A5.mpr rfl
   obtain ⟨h2,h3⟩:=Az.mp hx
   obtain ⟨c,hc,ec⟩:=A7.mp (hl x h2)
   refine Ak _ (A7.mpr ⟨c,hc,?_⟩)
   rw [ec,<- of_decide_eq_true h3]
noncomputable def Cover (C:Combs) (l:List (Nat×Str)) (n:Nat):Prop:=∀ q,cov C l q=if q < n then 1 else 0
theorem Cover.below {C:Combs} (g:GC C) (nd:(C.map (·.1)).Nodup) {l:List (Nat×Str)} {n:Nat} (hl:Lay C l) (h:Cover C l n) {x:Nat×Str} (hx:x∈l) {q:Nat} (hq:hit C x q=true):q < n:=by
 have h1:=cov_one hx hq
 rw [h q] at h1
 by_cases z:q < n
 ·exact z
 ·rw [if_neg z] at h1; omega
theorem zge {C:Combs} (g:GC C) {l:List (Nat×Str)} {n:Nat} (hl:l∈chs C n):(OkC C l n/\shp C l n=0) ↔ Cover C l n:=by
 constructor
 ·rintro ⟨⟨h1,h2⟩,h3⟩ q
  by_cases z:q < n
  ·rw [if_pos z]; exact h1 q z
  ·rw [if_neg z]
   have h4:=zaY g hl (q - n)
   rw [h3,Fx,show n + (q - n)=q by omega] at h4
   have h5:=of_decide_eq_false h4.symm
   by_cases y:q < n + 8
   ·have:=h2 q y; omega
   ·exact zde g hl (by omega)
 ·intro h
  refine ⟨⟨fun q hq=>by rw [h q,if_pos hq],fun q _=>by rw [h q]; split <;> omega⟩,zca fun d => ?_⟩
  rw [zaY g hl,h,if_neg (by omega),Fx]
  rfl
noncomputable def mxT (ts:List Int):Int:=ts.foldl max 0
noncomputable def turnT (ts:List Int):List Int:=canon (ts.map fun t=>mxT ts - t)
noncomputable def turnC (C:Combs):Combs:=C.map fun c=>(c.1,turnT c.2)
theorem zdN {ts:List Int} (g:GT ts):mxT ts∈ts/\(∀ t∈ts,t<=mxT ts)/\0<=mxT ts/\mxT ts<=7:=by
 obtain ⟨h1,h2,h3⟩:=fold_max ts 0
 have hm:mxT ts∈ts:=by
  rcases h3 with z | z
  ·unfold mxT; rw [z]; exact zdd g
  ·exact z
 exact ⟨hm,h1,h2,(zb7 g _ hm).2⟩
theorem zcY {ts:List Int} (g:GT ts) {t:Int}:t∈turnT ts ↔ mxT ts - t∈ts:=by
 obtain ⟨h1,h2,h3,h4⟩:=zdN g
 unfold turnT
 rw [mem_canon,A7]
 constructor
 ·rintro ⟨⟨u,hu,rfl⟩,_⟩
  rw [show mxT ts - (mxT ts - u)=u by omega]
  exact hu
 ·intro h
  have:=h2 _ h
  have:=zb7 g _ h
  exact ⟨⟨_,h,by omega⟩,by omega,by omega⟩
theorem zdZ {ts:List Int} (g:GT ts):GT (turnT ts):=zgI (A7.mpr ⟨mxT ts,(zdN g).1,by omega⟩)
theorem zhm {ts:List Int} (g:GT ts):mxT (turnT ts)=mxT ts:=by
 obtain ⟨h1,h2,h3,h4⟩:=zdN g
 obtain ⟨k1,k2,k3,k4⟩:=zdN (zdZ g)
 have a:mxT ts∈turnT ts:=(zcY g).mpr (by rw [Int.sub_self]; exact zdd g)
 have b:=k2 _ a
 have c:=zb7 g _ ((zcY g).mp k1)
 omega
theorem lt_ext {a b:List Int} (ha:a.Pairwise (· < ·)) (hb:b.Pairwise (· < ·)) (h:∀ t,t∈a ↔ t∈b):a=b :=
 zbu ((D1 (zaS ha) (zaS hb)).mpr h) (ha.imp fun h=>by omega) (hb.imp fun h=>by omega)
theorem turn_turn {ts:List Int} (g:GT ts):turnT (turnT ts)=ts:=by
 refine lt_ext (zeU (zdZ (zdZ g))) (zeU g) fun t => ?_
 rw [zcY (zdZ g),zcY g,zhm g,show mxT ts - (mxT ts - t)=t by omega]
theorem zbs (C:Combs):(turnC C).map (·.1)=C.map (·.1):=by
 unfold turnC
 rw [B5]
 rfl
theorem zeA {C:Combs} (g:GC C):GC (turnC C):=fun c hc=>by
 obtain ⟨d,hd,rfl⟩:=A7.mp hc
 exact zdZ (g d hd)
theorem turnC_turnC {C:Combs} (g:GC C):turnC (turnC C)=C:=by
 unfold turnC
 rw [B5]
 conv=>rhs; rw [<- Fy C]
 refine C7 fun c hc => ?_
 show (c.1,turnT (turnT c.2))=c
 rw [turn_turn (g c hc)]
theorem zgZ {C:Combs} (nd:(C.map (·.1)).Nodup) {x:Str} (h:x∈C.map (·.1)):tkOf (turnC C) x=turnT (tkOf C x):=by
 obtain ⟨c,hc,rfl,e⟩:=zg0 nd h
 have nd':((turnC C).map (·.1)).Nodup:=by rw [zbs]; exact nd
 have hc':(c.1,turnT c.2)∈turnC C:=A7.mpr ⟨c,hc,rfl⟩
 rw [e]
 unfold tkOf
 rw [zb6 nd' hc']
 rfl
noncomputable def mir (C:Combs) (n:Nat) (x:Nat×Str):Nat×Str:=(n - 1 - x.1 - (mxT (tkOf C x.2)).toNat,x.2)
theorem hit_mir {C:Combs} (g:GC C) (nd:(C.map (·.1)).Nodup) {n:Nat} {x:Nat×Str} (h:x.2∈C.map (·.1)) (hin:x.1 + (mxT (tkOf C x.2)).toNat < n) (q:Nat):hit (turnC C) (mir C n x) q=(decide (q < n) && hit C x (n - 1 - q)):=by
 obtain ⟨c,hc,e,e2⟩:=zg0 nd h
 have gc:=g c hc
 obtain ⟨h1,h2,h3,h4⟩:=zdN gc
 unfold hit mir
 dsimp only
 rw [e2] at hin
 rw [zgZ nd h,e2]
 rw [Bi,Bp,Bp,Bp,decide_eq_true_eq,decide_eq_true_eq,decide_eq_true_eq,decide_eq_true_eq,decide_eq_true_eq,zcY gc]
 constructor
 ·rintro ⟨a,b⟩
  have b1:=zb7 gc _ b
  refine ⟨by omega,by omega,?_⟩
  rw [show ((n - 1 - q - x.1:Nat):Int)=mxT c.2 - ((q - (n - 1 - x.1 - (mxT c.2).toNat):Nat):Int) by omega]
  exact b
 ·rintro ⟨a,b,d⟩
  have d1:=h2 _ d
  refine ⟨by omega,?_⟩
  rw [show mxT c.2 - ((q - (n - 1 - x.1 - (mxT c.2).toNat):Nat):Int)=((n - 1 - q - x.1:Nat):Int) by omega]
  exact d
theorem zgO {C:Combs} (g:GC C) (nd:(C.map (·.1)).Nodup) {l:List (Nat×Str)} {n:Nat} (hl:Lay C l) (h:Cover C l n) {x:Nat×Str} (hx:x∈l):x.1 + (mxT (tkOf C x.2)).toNat < n:=by
 obtain ⟨c,hc,e,e2⟩:=zg0 nd (hl x hx)
 obtain ⟨h1,_,h3,_⟩:=zdN (g c hc)
 refine h.below g nd hl hx ?_
 unfold hit
 rw [e2,decide_eq_true (by omega),decide_eq_true]
 ·rfl
 ·rw [show ((x.1 + (mxT c.2).toNat - x.1:Nat):Int)=mxT c.2 by omega]
  exact h1
theorem cover_mir {C:Combs} (g:GC C) (nd:(C.map (·.1)).Nodup) {l:List (Nat×Str)} {n:Nat} (hl:Lay C l) (h:Cover C l n):Lay (turnC C) (l.map (mir C n))/\Cover (turnC C) (l.map (mir C n)) n:=by
 refine ⟨fun y hy => ?_,fun q => ?_⟩
 ·obtain ⟨x,hx,rfl⟩:=A7.mp hy
  rw [zbs]
  exact hl x hx
 ·have e:cov (turnC C) (l.map (mir C n)) q=(l.map fun x=>ind (decide (q < n) && hit C x (n - 1 - q))).sum:=by
   unfold cov
   rw [B5]
   refine zcG fun x hx => ?_
   show ind (hit (turnC C) (mir C n x) q)=_
   rw [hit_mir g nd (hl x hx) (zgO g nd hl h hx)]
  rw [e]
  by_cases z:q < n
  ·rw [if_pos z,decide_eq_true z]
   have:=h (n - 1 - q)
   rw [if_pos (by omega)] at this
   exact this
  ·rw [if_neg z,decide_eq_false z]
   exact zeC fun _ _=>rfl
noncomputable def Fst (C:Combs) (t ℓ s:Nat):Prop:=rch C 0 ℓ s/\∀ ℓ',ℓ' < ℓ -> ℓ' % t = ℓ % t->¬ rch C 0 ℓ' s
theorem zfT {C:Combs} {t ℓ u:Nat} (h:Fst C t (ℓ + 1) u):∃ s,Fst C t ℓ s/\st1 C s u:=by
 obtain ⟨⟨s,h1,h2⟩,h3⟩:=h
 refine ⟨s,⟨h1,fun ℓ' hl hm hr=>h3 (ℓ' + 1) (by omega) ?_ ⟨s,hr,h2⟩⟩,h2⟩
 rw [P4,hm,<- P4]
theorem fst_down {C:Combs} {t:Nat} {ℓ u:Nat}:∀ k,Fst C t (ℓ + k) u->∃ s,Fst C t ℓ s
 | 0,h=>⟨u,h⟩
 | k + 1,h=>by
  have h:Fst C t (ℓ + k + 1) u:=h
  obtain ⟨s,h1,_⟩:=zfT h
  exact fst_down' k h1
where fst_down' {C:Combs} {t:Nat} {ℓ : Nat}:∀ {u:Nat} (k:Nat),Fst C t (ℓ + k) u->∃ s,Fst C t ℓ s
 | u,0,h=>⟨u,h⟩
 | u,k + 1,h=>by
  obtain ⟨s,h1,_⟩:=zfT (show Fst C t (ℓ + k + 1) u from h)
  exact fst_down' k h1
theorem rch_fst {C:Combs} {t:Nat}:∀ (n:Nat) {s:Nat},rch C 0 n s->∃ ℓ,ℓ <= n /\ ℓ % t=n % t/\Fst C t ℓ s:=by
 intro n
 induction n using Nb with
 | _ n ih =>
  intro s h
  by_cases z:∀ ℓ',ℓ' < n -> ℓ' % t=n % t->¬ rch C 0 ℓ' s
  ·exact ⟨n,A9 _,rfl,h,z⟩
  ·have:∃ ℓ',ℓ' < n /\ ℓ' % t=n % t/\rch C 0 ℓ' s:=Classical.byContradiction fun y=>z fun ℓ' a b c=>y ⟨ℓ',a,b,c⟩
   obtain ⟨ℓ',a,b,c⟩:=this
   obtain ⟨ℓ,h1,h2,h3⟩:=ih ℓ' a c
   exact ⟨ℓ,by omega,by omega,h3⟩
noncomputable def LeastL (C:Combs) (t N:Nat) (l:List (Nat×Nat)):Prop:=(l.map (·.1)).Nodup/\∀ r ℓ,(r,ℓ)∈l ↔ ℓ < N/\r = ℓ % t/\Fst C t ℓ 0
theorem least_fil {C:Combs} {t N:Nat} (ht:Fil C t) {l:List (Nat×Nat)} (h:LeastL C t N l) (hN:∀ s,¬ Fst C t N s) (n:Nat):Fil C n ↔ ∃ ℓ,(n % t,ℓ)∈l /\ ℓ <= n:=by
 constructor
 ·intro hf
  obtain ⟨ℓ,h1,h2,h3⟩:=rch_fst (t:=t) n hf
  refine ⟨ℓ,(h.2 _ _).mpr ⟨?_,h2.symm,h3⟩,h1⟩
  refine Jr fun z => ?_
  have : ℓ = N + (ℓ - N):=by omega
  rw [this] at h3
  obtain ⟨s,hs⟩:=fst_down (ℓ - N) h3
  exact hN s hs
 ·rintro ⟨ℓ,h1,h2⟩
  obtain ⟨_,h3,h4⟩:=(h.2 _ _).mp h1
  have e:n=n / t * t - ℓ / t * t + ℓ := by
   have a:=Nd n t
   have b:=Nd ℓ t
   have c : ℓ / t<=n / t:=Nat.div_le_div_right h2
   have d : ℓ / t * t<=n / t * t:=Nat.mul_le_mul_right _ c
   rw [Jl] at a b
   omega
  rw [e,<- Nat.mul_sub_right_distrib]
  exact zhz (zhy ht _) h4.1
noncomputable def Wy (C:Combs):Nat->Nat->Nat
 | 0,s=>if s=0 then 1 else 0
 | k + 1,s=>((stp C s).map fun p=>Wy C k p.2.toNat).sum
noncomputable def bh (x:Str) (A B:Nat->Nat) (p:Str×Int):Nat:=if p.1=x then A p.2.toNat else B p.2.toNat
noncomputable def Ww (C:Combs) (x:Str):Nat->Nat->Nat
 | 0,_=>0
 | k + 1,s=>((stp C s).map (bh x (Wy C k) (Ww C x k))).sum
theorem zg1 {α : Type} {l:List α} {f : α -> Nat}:0 < (l.map f).sum ↔ ∃ x∈l,0 < f x:=by
 induction l with
 | nil=>simp
 | cons a l ih =>
  rw [Al,Ct]
  constructor
  ·intro h
   by_cases z:0 < f a
   ·exact ⟨a,Ap,z⟩
   ·obtain ⟨x,hx,h'⟩:=ih.mp (by omega)
    exact ⟨x,Ak _ hx,h'⟩
  ·rintro ⟨x,hx,h⟩
   rcases Bc.mp hx with rfl | hx
   ·omega
   ·have:=ih.mpr ⟨x,hx,h⟩
    omega
theorem Wy_pos {C:Combs}:∀ {k s:Nat},0 < Wy C k s ↔ rch C s k 0
 | 0,s=>by
  show 0 < (if s=0 then 1 else 0) ↔ 0=s
  by_cases h:s=0
  ·rw [if_pos h]; exact ⟨fun _=>h.symm,fun _=>by omega⟩
  ·rw [if_neg h]; exact ⟨fun z=>by omega,fun z=>absurd z.symm h⟩
 | k + 1,s=>by
  show 0 < ((stp C s).map fun p=>Wy C k p.2.toNat).sum ↔ _
  rw [zg1]
  constructor
  ·rintro ⟨p,hp,h⟩
   have h1:rch C s 1 p.2.toNat:=⟨s,rfl,p,hp,rfl⟩
   have:=zeI h1 (Wy_pos.mp h)
   rwa [Lk] at this
  ·intro h
   rw [Lk] at h
   obtain ⟨u,⟨v,e,p,hp,hu⟩,h2⟩:=zdE h
   rw [show v=s from e] at hp
   subst hu
   exact ⟨p,hp,Wy_pos.mpr h2⟩
structure Sel (C:Combs) (x:Str) (B:Nat->Nat->Nat):Prop where
 zero:∀ s,0 < B 0 s->s=0
 succ:∀ k s,B (k + 1) s=((stp C s).map (bh x (Wy C k) (B k))).sum
noncomputable def ro (C:Combs) (B:Nat->Nat->Nat) (fl:Bool) (k:Nat):Nat->Nat:=if fl=true then Wy C k else B k
noncomputable def sel (C:Combs) (x:Str) (B:Nat->Nat->Nat) (s:Nat) (fl:Bool) (k:Nat):Option (Str×Int):=(stp C s).find? fun p=>decide (0 < bh x (Wy C k) (ro C B fl k) p)
noncomputable def fw (C:Combs) (x:Str) (B:Nat->Nat->Nat) (n:Nat):Nat->Nat×Bool
 | 0=>(0,false)
 | i + 1=>match sel C x B (fw C x B n i).1 (fw C x B n i).2 (n - 1 - i) with
  | some p=>(p.2.toNat,(fw C x B n i).2 || decide (p.1=x))
  | none=>(0,false)
noncomputable def fnm (C:Combs) (x:Str) (B:Nat->Nat->Nat) (n i:Nat):Str:=((sel C x B (fw C x B n i).1 (fw C x B n i).2 (n - 1 - i)).map (·.1)).getD (A2 "")
theorem ze7 (C:Combs) (x:Str):Sel C x (Wy C):=by
 refine ⟨fun s h => ?_,fun k s => ?_⟩
 ·have:0 < (if s=0 then 1 else 0):=h
  by_cases z:s=0
  ·exact z
  ·rw [if_neg z] at this; omega
 ·show ((stp C s).map fun p=>Wy C k p.2.toNat).sum=_
  refine zcG fun p _ => ?_
  unfold bh
  split <;> rfl
theorem ro_succ {C:Combs} {x:Str} {B:Nat->Nat->Nat} (S:Sel C x B) (fl:Bool) (k s:Nat):ro C B fl (k + 1) s=((stp C s).map (bh x (Wy C k) (ro C B fl k))).sum:=by
 cases fl with
 | false=>exact S.succ k s
 | true=>exact (ze7 C x).succ k s
theorem zgg {C:Combs} (g:GC C) {x:Str} {B:Nat->Nat->Nat} (S:Sel C x B) {s k:Nat} (hs:s < 128) {fl:Bool} (h:0 < ro C B fl (k + 1) s):∃ p,sel C x B s fl k=some p/\p∈stp C s/\0<=p.2/\p.2.toNat < 128/\0 < ro C B (fl || decide (p.1=x)) k p.2.toNat:=by
 rw [ro_succ S,zg1] at h
 obtain ⟨p,hp,h1⟩:=h
 cases e:sel C x B s fl k with
 | none =>
  unfold sel at e
  rw [Ge] at e
  exact absurd (decide_eq_true h1) (e p hp)
 | some p' =>
  unfold sel at e
  have h2:=Hr e
  have h3:=Ea e
  have h4:=zbt g hs h3
  refine ⟨p',rfl,h3,h4.1,h4.2,?_⟩
  have h5:=of_decide_eq_true h2
  unfold bh at h5
  by_cases z:p'.1=x
  ·rw [if_pos z] at h5
   rw [decide_eq_true z,Le]
   exact h5
  ·rw [if_neg z] at h5
   rw [decide_eq_false z,Kt]
   exact h5
theorem zhv {C:Combs} (g:GC C) {x:Str} {B:Nat->Nat->Nat} (S:Sel C x B) {n:Nat} (h:0 < B n 0):∀ i,i<=n->(fw C x B n i).1 < 128/\0 < ro C B (fw C x B n i).2 (n - i) (fw C x B n i).1
 | 0,_=>⟨show 0 < 128 by decide,h⟩
 | i + 1,hi=>by
  obtain ⟨h1,h2⟩:=zhv g S h i (by omega)
  rw [show n - i=n - 1 - i + 1 by omega] at h2
  obtain ⟨p,e,_,_,p3,p4⟩:=zgg g S h1 h2
  have ef:fw C x B n (i + 1)=(p.2.toNat,(fw C x B n i).2 || decide (p.1=x)):=by
   show (match sel C x B (fw C x B n i).1 (fw C x B n i).2 (n - 1 - i) with
    | some p=>(p.2.toNat,(fw C x B n i).2 || decide (p.1=x))
    | none=>(0,false))=_
   rw [e]
  rw [ef,show n - (i + 1)=n - 1 - i by omega]
  exact ⟨p3,p4⟩
theorem zd0 {C:Combs} (g:GC C) {x:Str} {B:Nat->Nat->Nat} (S:Sel C x B) {n:Nat} (h:0 < B n 0) {i:Nat} (hi:i < n):sel C x B (fw C x B n i).1 (fw C x B n i).2 (n - 1 - i)=some (fnm C x B n i,((fw C x B n (i + 1)).1:Int))/\(fw C x B n (i + 1)).2=((fw C x B n i).2 || decide (fnm C x B n i=x))/\(fnm C x B n i,((fw C x B n (i + 1)).1:Int))∈stp C (fw C x B n i).1:=by
 obtain ⟨h1,h2⟩:=zhv g S h i (by omega)
 rw [show n - i=n - 1 - i + 1 by omega] at h2
 obtain ⟨p,e,p1,p2,p3,p4⟩:=zgg g S h1 h2
 have ef:fw C x B n (i + 1)=(p.2.toNat,(fw C x B n i).2 || decide (p.1=x)):=by
  show (match sel C x B (fw C x B n i).1 (fw C x B n i).2 (n - 1 - i) with
   | some p=>(p.2.toNat,(fw C x B n i).2 || decide (p.1=x))
   | none=>(0,false))=_
  rw [e]
 have en:fnm C x B n i=p.1:=by unfold fnm; rw [e]; rfl
 have ep:(fnm C x B n i,((fw C x B n (i + 1)).1:Int))=p:=by
  rw [en,ef]
  refine K8 rfl ?_
  show ((p.2.toNat:Nat):Int)=p.2
  omega
 rw [ep,e]
 exact ⟨rfl,by rw [ef,en],p1⟩
theorem fw_end {C:Combs} (g:GC C) {x:Str} {B:Nat->Nat->Nat} (S:Sel C x B) {n:Nat} (h:0 < B n 0):(fw C x B n n).1=0:=by
 have h2:=(zhv g S h n (A9 _)).2
 rw [Ho] at h2
 unfold ro at h2
 split at h2
 ·exact (ze7 C x).zero _ h2
 ·exact S.zero _ h2
theorem step_lay {C:Combs} (g:GC C) (nd:(C.map (·.1)).Nodup) (ne:∀ c∈C,c.1≠A2 "") {p n:Nat} {l:List (Nat×Str)} (hl:l∈chs C p) (ol:OkC C l p) {x:Str} (h:(x,(n:Int))∈stp C (shp C l p)) :
  (if x=A2 "" then l else l ++ [(p,x)])∈chs C (p + 1)/\OkC C (if x=A2 "" then l else l ++ [(p,x)]) (p + 1)/\shp C (if x=A2 "" then l else l ++ [(p,x)]) (p + 1)=n:=by
 obtain ⟨_,hb⟩:=(zcH g (zg3 _ _ _)).mp h
 rcases hb with ⟨h0,rfl,hb⟩ | ⟨h0,c,hc,rfl,hx,hb⟩
 ·rw [if_pos rfl]
  rw [zaY g hl,decide_eq_true_eq] at h0
  have hm:l∈chs C (p + 1):=E4.mpr ⟨l,hl,Ap⟩
  refine ⟨hm,(zeM hl g).mpr ⟨ol,h0⟩,zca fun d => ?_⟩
  rw [zaY g hm,hb,zaY g hl,show p + 1 + d=p + (d + 1) by omega]
 ·rw [if_neg (ne c hc)]
  rw [zaY g hl,decide_eq_false_iff_not] at h0
  have hz:cov C l p=0:=by have:=ol.2 p (by omega); have h0:¬ cov C l p=1:=h0; omega
  have hm:l ++ [(p,c.1)]∈chs C (p + 1):=E4.mpr ⟨l,hl,Ak _ (A7.mpr ⟨c,hc,rfl⟩)⟩
  refine ⟨hm,(zeL hl g nd hc).mpr ⟨ol,hz,fun d hd=>hx d (by rw [zaY g hl,decide_eq_true hd])⟩,zca fun d => ?_⟩
  rw [zaY g hm,hb,zaY g hl,show p + 1 + d=p + (d + 1) by omega,zc2,zhu nd hc]
  have hx':=hx (d + 1)
  rw [zaY g hl,decide_eq_true_eq] at hx'
  have hle:cov C l (p + (d + 1))<=1:=by
   by_cases e':d + 1 < 8
   ·exact ol.2 _ (by omega)
   ·rw [zde g hl (by omega)]; omega
  by_cases a:cov C l (p + (d + 1))=1
  ·rw [decide_eq_false (hx' a),a]; rfl
  ·have a0:cov C l (p + (d + 1))=0:=by omega
   by_cases z:((d + 1:Nat):Int)∈c.2
   ·rw [decide_eq_true z,a0]; rfl
   ·rw [decide_eq_false z,a0]; rfl
noncomputable def laysOf (nm:Nat->Str) (n:Nat):List (Nat×Str):=(laid nm n).map fun j=>(j,nm j)
theorem laysOf_succ (nm:Nat->Str) (i:Nat):laysOf nm (i + 1)=if nm i=A2 "" then laysOf nm i else laysOf nm i ++ [(i,nm i)]:=by
 unfold laysOf laid
 rw [Dh,C0]
 by_cases h:nm i=A2 ""
 ·rw [if_pos h,Au,if_neg (by simp [h]),Ck,Cq]
 ·rw [if_neg h,Au,if_pos (by simp [h]),Ck,Ao]
  rfl
theorem zhj {C:Combs} (g:GC C) (nd:(C.map (·.1)).Nodup) (ne:∀ c∈C,c.1≠A2 "") {f:Nat->Nat} {nm:Nat->Str} {n:Nat} (h0:f 0=0) (hs:∀ i,i < n->(nm i,(f (i + 1):Int))∈stp C (f i)):∀ i,i<=n->laysOf nm i∈chs C i/\OkC C (laysOf nm i) i/\shp C (laysOf nm i) i=f i
 | 0,_=>⟨A5.mpr rfl,⟨fun q hq=>by omega,fun q _=>By _⟩,by rw [h0]; rfl⟩
 | i + 1,hi=>by
  obtain ⟨h1,h2,h3⟩:=zhj g nd ne h0 hs i (by omega)
  have:=step_lay g nd ne h1 h2 (x:=nm i) (n:=f (i + 1)) (by rw [h3]; exact hs i (by omega))
  rw [laysOf_succ]
  exact this
theorem path_cover {C:Combs} (g:GC C) (nd:(C.map (·.1)).Nodup) (ne:∀ c∈C,c.1≠A2 "") {f:Nat->Nat} {nm:Nat->Str} {n:Nat} (h0:f 0=0) (hn:f n=0) (hs:∀ i,i < n->(nm i,(f (i + 1):Int))∈stp C (f i)):laysOf nm n∈chs C n/\Cover C (laysOf nm n) n:=by
 obtain ⟨h1,h2,h3⟩:=zhj g nd ne h0 hs n (A9 _)
 exact ⟨h1,(zge g h1).mp ⟨h2,by rw [h3,hn]⟩⟩
theorem zgJ {C:Combs} (g:GC C) (nd:(C.map (·.1)).Nodup) (ne:∀ c∈C,c.1≠A2 "") {x:Str} {B:Nat->Nat->Nat} (S:Sel C x B) {n:Nat} (h:0 < B n 0):laysOf (fnm C x B n) n∈chs C n/\Cover C (laysOf (fnm C x B n) n) n :=
 path_cover g nd ne (f:=fun i=>(fw C x B n i).1) rfl (fw_end g S h) fun i hi=>(zd0 g S h hi).2.2
noncomputable def LyR (H:Hp) (vs:List V) (l:List (Nat×Str)):Prop:=Cw (fun (x:Nat×Str) (u:V)=>∃ t,u = .ref t/\H t=some (.tup [.int (x.1:Int),.str x.2])) l vs
theorem zhr {H:Hp} {vs:List V} {nm:Nat->Str} {n:Nat} (r:LaysR H vs nm n):LyR H vs (laysOf nm n):=by
 have all:∀ {L:List Nat} {vs:List V},Cw (fun (j:Nat) (v:V)=>∃ q,v = .ref q/\H q=some (.tup [.int (j:Int),.str (nm j)])) L vs->LyR H vs (L.map fun j=>(j,nm j)):=by
  intro L vs r
  induction r with
  | nil=>exact .nil
  | cons h _ ih=>exact .cons h ih
 exact all r
theorem zfl (nm:Nat->Str) (n:Nat):(laysOf nm n).Pairwise fun x y=>x.1 < y.1:=by
 unfold laysOf
 rw [Bb]
 exact laid_up nm n
theorem cov_perm {C C':Combs} (p:C.Perm C') (nd:(C.map (·.1)).Nodup) (l:List (Nat×Str)) (q:Nat):cov C l q=cov C' l q:=by
 unfold cov
 refine zcG fun x _ => ?_
 unfold hit tkOf
 rw [tk_perm p nd]
theorem zew {C C':Combs} (p:C.Perm C') (nd:(C.map (·.1)).Nodup) {l:List (Nat×Str)} {n:Nat} (h:Cover C l n):Cover C' l n:=fun q=>by rw [<- cov_perm p nd]; exact h q
theorem zgA {C C':Combs} (p:C.Perm C') {l:List (Nat×Str)} (h:Lay C l):Lay C' l:=fun x hx=>(p.map _).mem_iff.mp (h x hx)
noncomputable def okL (C:Combs) (p:Nat) (l:List (Nat×Str)):Bool:=((Af p).all fun q=>decide (cov C l q=1)) && (Af (p + 8)).all fun q=>decide (cov C l q<=1)
theorem okL_iff {C:Combs} {p:Nat} {l:List (Nat×Str)}:okL C p l=true ↔ OkC C l p:=by
 unfold okL OkC
 rw [Bp,Cs,Cs]
 constructor
 ·rintro ⟨h1,h2⟩
  exact ⟨fun q hq=>of_decide_eq_true (h1 q (Ax.mpr hq)),fun q hq=>of_decide_eq_true (h2 q (Ax.mpr hq))⟩
 ·rintro ⟨h1,h2⟩
  exact ⟨fun q hq=>decide_eq_true (h1 q (Ax.mp hq)),fun q hq=>decide_eq_true (h2 q (Ax.mp hq))⟩
noncomputable def shpB (C:Combs) (k t:Nat) (l:List (Nat×Str)):Bool:=okL C k l && decide (shp C l k=t)
noncomputable def cnt (C:Combs) (k t:Nat):Nat:=((chs C k).filter (shpB C k t)).length
noncomputable def goN (C:Combs) (s t:Nat):Nat:=((stp C s).filter fun p=>decide (p.2.toNat=t)).length
theorem zeD {α : Type} (P : α -> Bool):∀ l:List α,(l.filter P).length=(l.map fun x=>ind (P x)).sum
 | []=>rfl
 | a :: l=>by
  rw [Al,Ct,<- zeD P l,Au]
  unfold ind
  split
  ·rw [As]; omega
  ·omega
theorem zeP {α β : Type} (f : α -> List β) (P : β -> Bool):∀ l:List α,((l.flatMap f).filter P).length=(l.map fun a=>((f a).filter P).length).sum
 | []=>rfl
 | a :: l=>by rw [Fj,C0,Ab,Al,Ct,zeP f P l]
theorem stp_one {C:Combs} {s:Nat} (h:s.testBit 0=false):stp C s=C.flatMap fun c=>stp [c] s:=by
 have h2:¬ ((s:Nat):Int) % 2=1:=by
  intro z
  have:s % 2=1:=by omega
  rw [Mz] at h
  simp at h
  omega
 unfold stp stepsOf
 rw [if_neg h2]
 induction C with
 | nil=>rfl
 | cons c C ih =>
  rw [Fj,Au,<- ih,if_neg h2,Au,Ck]
  by_cases e:decide (Dn ((s:Nat):Int) (worth c.2)=0)=true
  ·rw [if_pos e,if_pos e]; rfl
  ·rw [if_neg e,if_neg e]; rfl
theorem stp_one_len (c:Str×List Int) (s:Nat):(stp [c] s).length<=1:=by
 unfold stp stepsOf
 split
 ·exact A9 _
 ·rw [A1]
  exact Df _ _
open Classical in
theorem goN_one {c:Str×List Int} (g:GC [c]) {s t:Nat} (hs:s < 128):goN [c] s t=ind (decide (t < 128/\∃ x,StB [c] s x t)):=by
 unfold goN
 have h1:=stp_one_len c s
 cases e:stp [c] s with
 | nil =>
  rw [decide_eq_false]
  ·rfl
  ·rintro ⟨h2,x,h3⟩
   have:=(zcH g hs).mpr ⟨h2,h3⟩
   rw [e] at this
   cases this
 | cons p l =>
  rw [e,As] at h1
  have:l = []:=Fz (by omega)
  subst this
  have hp:p∈stp [c] s:=by rw [e]; exact A5.mpr rfl
  have hlt:=zbt g hs hp
  rw [Au,Ck]
  by_cases z:p.2.toNat=t
  ·rw [if_pos (decide_eq_true z),decide_eq_true]
   ·rfl
   ·obtain ⟨x,y⟩:=p
    dsimp only at z hlt
    have:y=((t:Nat):Int):=by omega
    subst this
    have:=(zcH g hs).mp hp
    exact ⟨this.1,x,this.2⟩
  ·rw [if_neg (by rw [decide_eq_true_eq]; exact z),decide_eq_false]
   ·rfl
   ·rintro ⟨h2,x,h3⟩
    have:=(zcH g hs).mpr ⟨h2,h3⟩
    rw [e] at this
    rw [<- A5.mp this] at z
    exact z (by simp)
open Classical in
theorem goN_odd {C:Combs} (g:GC C) {s t:Nat} (hs:s < 128) (h:s.testBit 0=true):goN C s t=ind (decide (∀ d,t.testBit d=s.testBit (d + 1))):=by
 have h2:((s:Nat):Int) % 2=1:=by
  rw [Mz] at h
  simp at h
  omega
 unfold goN stp
 rw [zcI h2,Au,Ck]
 have hm:(A2 "",(((s / 2:Nat)):Int))∈stp C s:=by
  unfold stp
  rw [zcI h2]
  refine A5.mpr (K8 rfl ?_)
  show (((s / 2:Nat)):Int)=((s:Nat):Int) / 2
  omega
 obtain ⟨k1,k2⟩:=(zcH g hs).mp hm
 have kb:∀ d,(s / 2).testBit d=s.testBit (d + 1):=by
  rcases k2 with ⟨_,_,hb⟩ | ⟨h0,_⟩
  ·exact hb
  ·rw [h] at h0; cases h0
 have e:(((s:Nat):Int) / 2).toNat=s / 2:=by omega
 dsimp only
 rw [e]
 by_cases z:s / 2=t
 ·rw [if_pos (decide_eq_true z),decide_eq_true (fun d=>by rw [<- z]; exact kb d)]
  rfl
 ·rw [if_neg (by rw [decide_eq_true_eq]; exact z),decide_eq_false (fun hb=>z (zca fun d=>by rw [hb,kb]))]
  rfl
open Classical in
theorem ext_cnt {C:Combs} (g:GC C) (nd:(C.map (·.1)).Nodup) (ne:∀ c∈C,c.1≠A2 "") {k t:Nat} (ht:t < 128) {l:List (Nat×Str)} (hl:l∈chs C k) :
  ((l :: C.map fun c=>l ++ [(k,c.1)]).filter (shpB C (k + 1) t)).length=if okL C k l=true then goN C (shp C l k) t else 0:=by
 have hm0:l∈chs C (k + 1):=E4.mpr ⟨l,hl,Ap⟩
 have hmc:∀ c∈C,l ++ [(k,c.1)]∈chs C (k + 1):=fun c hc=>E4.mpr ⟨l,hl,Ak _ (A7.mpr ⟨c,hc,rfl⟩)⟩
 by_cases hok:okL C k l=true
 case neg =>
  rw [if_neg hok,E2.mpr]
  ·rfl
  ·intro r hr hz
   unfold shpB at hz
   rw [Bp,okL_iff] at hz
   rcases Bc.mp hr with rfl | hr
   ·exact hok (okL_iff.mpr ((zeM hl g).mp hz.1).1)
   ·obtain ⟨c,hc,rfl⟩:=A7.mp hr
    exact hok (okL_iff.mpr ((zeL hl g nd hc).mp hz.1).1)
 rw [if_pos hok]
 have ol:=okL_iff.mp hok
 have hs:=zg3 C l k
 have hb0:=zaY g hl 0
 rw [F6] at hb0
 have bn:∀ d,(shp C l (k + 1)).testBit d=(shp C l k).testBit (d + 1):=fun d=>by
  rw [zaY g hm0,zaY g hl,show k + 1 + d=k + (d + 1) by omega]
 by_cases hc1:cov C l k=1
 ·rw [decide_eq_true hc1] at hb0
  rw [goN_odd g hs hb0,Au]
  have hnil:(C.map fun c=>l ++ [(k,c.1)]).filter (shpB C (k + 1) t) = []:=by
   rw [E2]
   intro r hr hz
   obtain ⟨c,hc,rfl⟩:=A7.mp hr
   unfold shpB at hz
   rw [Bp,okL_iff] at hz
   have:=((zeL hl g nd hc).mp hz.1).2.1
   omega
  rw [hnil]
  have e:shpB C (k + 1) t l=decide (∀ d,t.testBit d=(shp C l k).testBit (d + 1)):=by
   unfold shpB
   rw [okL_iff.mpr ((zeM hl g).mpr ⟨ol,hc1⟩),Eg,decide_eq_decide]
   constructor
   ·intro z d
    rw [<- z,bn]
   ·intro z
    exact zca fun d=>by rw [bn,z]
  rw [e]
  unfold ind
  split <;> rfl
 ·have hc0:cov C l k=0:=by have:=ol.2 k (by omega); omega
  rw [decide_eq_false hc1] at hb0
  have hnone:shpB C (k + 1) t l=false:=by
   unfold shpB
   rw [Hu]
   left
   cases e:okL C (k + 1) l with
   | false=>rfl
   | true=>exact absurd ((zeM hl g).mp (okL_iff.mp e)).2 hc1
  rw [Au,hnone,if_neg Aa]
  unfold goN
  rw [stp_one hb0,zeP,zeD,B5]
  refine zcG fun c hc => ?_
  have gc1:GC [c]:=fun c' hc'=>by rw [A5.mp hc']; exact g c hc
  show ind (shpB C (k + 1) t (l ++ [(k,c.1)]))=goN [c] (shp C l k) t
  rw [goN_one gc1 hs]
  congr 1
  unfold shpB
  rw [Bi,Bp,okL_iff,decide_eq_true_eq,decide_eq_true_eq,zeL hl g nd hc]
  have bs:∀ d,(shp C (l ++ [(k,c.1)]) (k + 1)).testBit d=decide (cov C l (k + (d + 1)) + ind (decide (((d + 1:Nat):Int)∈c.2))=1):=fun d=>by
   rw [zaY g (hmc c hc),zc2,show k + 1 + d=k + (d + 1) by omega,zhu nd hc]
  have key:(∀ d:Nat,cov C l (k + d)=1->(d:Int) ∉ c.2)->∀ d,(shp C (l ++ [(k,c.1)]) (k + 1)).testBit d=((shp C l k).testBit (d + 1) || decide (((d + 1:Nat):Int)∈c.2)):=fun hx d=>by
   rw [bs,zaY g hl]
   have hle:cov C l (k + (d + 1))<=1:=by
    by_cases e':d + 1 < 8
    ·exact ol.2 _ (by omega)
    ·rw [zde g hl (by omega)]; omega
   by_cases a:cov C l (k + (d + 1))=1
   ·rw [decide_eq_false (hx (d + 1) a),a]; rfl
   ·have a0:cov C l (k + (d + 1))=0:=by omega
    by_cases z:((d + 1:Nat):Int)∈c.2
    ·rw [decide_eq_true z,a0]; rfl
    ·rw [decide_eq_false z,a0]; rfl
  constructor
  ·rintro ⟨⟨_,_,hx⟩,rfl⟩
   refine ⟨ht,c.1,.inr ⟨hb0,c,A5.mpr rfl,rfl,fun d hd=>hx d ?_,key hx⟩⟩
   rw [zaY g hl,decide_eq_true_eq] at hd
   exact hd
  ·rintro ⟨_,x,hb⟩
   rcases hb with ⟨z,_⟩ | ⟨_,c',hc',_,hx,hb⟩
   ·rw [hb0] at z; cases z
   ·rw [A5.mp hc'] at hx hb
    have hx':∀ d:Nat,cov C l (k + d)=1->(d:Int) ∉ c.2:=fun d hd=>hx d (by rw [zaY g hl,decide_eq_true hd])
    exact ⟨⟨ol,hc0,hx'⟩,zca fun d=>by rw [key hx',hb]⟩
theorem zd8 {α : Type} {l:List α} {f : α -> Nat} {sh : α -> Nat} (h:∀ x∈l,sh x < 128) (G:Nat->Nat):(l.map fun x=>f x * G (sh x)).sum=sumR 128 fun s=>(l.map fun x=>if sh x=s then f x else 0).sum * G s:=by
 induction l with
 | nil=>exact (zeF fun s _=>by simp).symm
 | cons a l ih =>
  rw [Al,Ct,ih fun x hx=>h x (Ak _ hx)]
  have ha:=h a Ap
  have e1:f a * G (sh a)=sumR 128 fun s=>(if sh a=s then f a else 0) * G s:=by
   have:=zeE (n:=128) (j0:=sh a) (p:=fun s=>decide (sh a=s)) (g:=fun s=>f a * G s) ha (fun j _=>by rw [decide_eq_true_eq]; exact ⟨fun z=>z.symm,fun z=>z.symm⟩)
   rw [<- this]
   refine zaN fun s _ => ?_
   by_cases z:sh a=s
   ·rw [if_pos (decide_eq_true z),if_pos z]
   ·rw [if_neg (by rw [decide_eq_true_eq]; exact z),if_neg z,Hm]
  rw [e1,<- zgb]
  refine zaN fun s _ => ?_
  rw [Al,Ct,Nat.add_mul]
theorem zgQ {C:Combs} (g:GC C) (nd:(C.map (·.1)).Nodup) (ne:∀ c∈C,c.1≠A2 "") {k t:Nat} (ht:t < 128):cnt C (k + 1) t=sumR 128 fun s=>cnt C k s * goN C s t:=by
 show (((chs C k).flatMap fun r=>r :: C.map fun c=>r ++ [(k,c.1)]).filter (shpB C (k + 1) t)).length=_
 rw [zeP]
 have e1:((chs C k).map fun l=>((l :: C.map fun c=>l ++ [(k,c.1)]).filter (shpB C (k + 1) t)).length).sum=((chs C k).map fun l=>ind (okL C k l) * goN C (shp C l k) t).sum:=by
  refine zcG fun l hl => ?_
  rw [ext_cnt g nd ne ht hl]
  unfold ind
  split
  ·rw [M3]
  ·rw [Hm]
 rw [e1,zd8 (fun l _=>zg3 C l k) (fun s=>goN C s t)]
 refine zaN fun s _ => ?_
 congr 1
 unfold cnt
 rw [zeD]
 refine zcG fun l _ => ?_
 unfold shpB ind
 by_cases z:shp C l k=s
 ·rw [if_pos z,decide_eq_true z,Bool.and_true]
 ·rw [if_neg z,decide_eq_false z,Ng]; rfl
theorem zc3 (C:Combs) (t:Nat):cnt C 0 t=if t=0 then 1 else 0:=by
 unfold cnt
 have e:shpB C 0 t []=decide (0=t):=by
  unfold shpB
  rw [okL_iff.mpr ⟨fun q hq=>by omega,fun q _=>By _⟩,Eg]
  rfl
 show (([[]]:List (List (Nat×Str))).filter (shpB C 0 t)).length=_
 rw [Au,Ck,e]
 by_cases z:t=0
 ·rw [if_pos z,if_pos (decide_eq_true z.symm)]; rfl
 ·rw [if_neg z,if_neg (by rw [decide_eq_true_eq]; exact fun y=>z y.symm)]; rfl
theorem Wy_sum {C:Combs} (g:GC C) {k s:Nat} (hs:s < 128):Wy C (k + 1) s=sumR 128 fun t=>goN C s t * Wy C k t:=by
 show ((stp C s).map fun p=>Wy C k p.2.toNat).sum=_
 have:=zd8 (l:=stp C s) (f:=fun _=>1) (sh:=fun p=>p.2.toNat) (fun p hp=>(zbt g hs hp).2) (Wy C k)
 rw [show ((stp C s).map fun p=>Wy C k p.2.toNat).sum=((stp C s).map fun p=>1 * Wy C k p.2.toNat).sum from zcG fun p _=>(M3 _).symm,this]
 refine zaN fun t _ => ?_
 congr 1
 unfold goN
 rw [zeD]
 refine zcG fun p _ => ?_
 unfold ind
 by_cases z:p.2.toNat=t
 ·rw [if_pos z,if_pos (decide_eq_true z)]
 ·rw [if_neg z,if_neg (by rw [decide_eq_true_eq]; exact z)]
theorem zie {C:Combs} (g:GC C) (nd:(C.map (·.1)).Nodup) (ne:∀ c∈C,c.1≠A2 ""):∀ m k,(sumR 128 fun s=>cnt C k s * Wy C m s)=cnt C (k + m) 0
 | 0,k=>by
  have:=zeE (n:=128) (j0:=0) (p:=fun s=>decide (s=0)) (g:=fun s=>cnt C k s) (by decide) (fun j _=>by rw [decide_eq_true_eq])
  rw [F6,<- this]
  refine zaN fun s _ => ?_
  show cnt C k s * (if s=0 then 1 else 0)=_
  by_cases z:s=0
  ·rw [if_pos z,if_pos (decide_eq_true z),P2]
  ·rw [if_neg z,if_neg (by rw [decide_eq_true_eq]; exact z),Nat.mul_zero]
 | m + 1,k=>by
  rw [show k + (m + 1)=k + 1 + m by omega,<- zie g nd ne m (k + 1)]
  have e1:(sumR 128 fun s=>cnt C k s * Wy C (m + 1) s)=sumR 128 fun s=>sumR 128 fun t=>cnt C k s * goN C s t * Wy C m t:=by
   refine zaN fun s hs => ?_
   rw [Wy_sum g hs,zga]
   refine zaN fun t _ => ?_
   rw [Nat.mul_assoc]
  rw [e1,sumR_swap]
  refine zaN fun t ht => ?_
  rw [zgQ g nd ne ht,Jl,zga]
  refine zaN fun s _ => ?_
  rw [Jl]
theorem zih {C:Combs} (g:GC C) (nd:(C.map (·.1)).Nodup) (ne:∀ c∈C,c.1≠A2 "") (n:Nat):Wy C n 0=cnt C n 0:=by
 have h:=zie g nd ne n 0
 rw [Fp] at h
 rw [<- h]
 have:=zeE (n:=128) (j0:=0) (p:=fun s=>decide (s=0)) (g:=fun s=>Wy C n s) (by decide) (fun j _=>by rw [decide_eq_true_eq])
 rw [<- this]
 refine zaN fun s _ => ?_
 rw [zc3]
 by_cases z:s=0
 ·rw [if_pos z,if_pos (decide_eq_true z),M3]
 ·rw [if_neg z,if_neg (by rw [decide_eq_true_eq]; exact z),Hm]
theorem zev {l:List (Nat×Str)} {p:Nat} (h:∀ x∈l,x.1 < p):(l.filter fun x=>decide (x.1=p)) = []:=E2.mpr fun x hx=>by
 have:=h x hx
 rw [decide_eq_true_eq]; omega
theorem zes {α β : Type} {l:List α} {f g : α -> List β} (h:∀ x∈l,f x=g x):l.flatMap f=l.flatMap g:=by
 induction l with
 | nil=>rfl
 | cons a l ih=>rw [Fj,Fj,h a Ap,ih fun x hx=>h x (Ak _ hx)]
theorem zdY {p:Nat} (l m:List (Nat×Str)) (h:∀ x∈m,p<=x.1):inOrder (l ++ m) p=inOrder l p:=by
 unfold inOrder
 refine zes fun j hj => ?_
 have hj:=Ax.mp hj
 have e:(m.filter fun x=>decide (x.1=j)) = []:=E2.mpr fun x hx=>by
  have:=h x hx
  rw [decide_eq_true_eq]; omega
 rw [C0,e,Cq]
theorem zcf {C:Combs}:∀ {p:Nat} {l:List (Nat×Str)},l∈chs C p->inOrder l p=l
 | 0,l,h=>by rw [A5.mp (show l ∈ [[]] from h)]; rfl
 | p + 1,l,h=>by
  obtain ⟨r,hr,h⟩:=E4.mp h
  have ih:=zcf hr
  have hb:∀ x∈r,x.1 < p:=fun x hx=>(zcz hr x hx).1
  rw [zbH]
  rcases Bc.mp h with rfl | h
  ·rw [ih,zev hb,Cq]
  ·obtain ⟨c,hc,rfl⟩:=A7.mp h
   rw [zdY (p:=p) r [(p,c.1)] (fun x hx=>by rw [A5.mp hx]; exact A9 _),ih,C0,zev hb,N2,Au,if_pos (decide_eq_true rfl),Ck]
theorem zfz {C:Combs} (nd:(C.map (·.1)).Nodup):∀ p,(chs C p).Nodup
 | 0=>by show ([[]]:List (List (Nat×Str))).Nodup; simp
 | p + 1=>by
  have ih:=zfz nd p
  show ((chs C p).flatMap fun r=>r :: C.map fun c=>r ++ [(p,c.1)]).Nodup
  have all:∀ L:List (List (Nat×Str)),L.Nodup->(∀ r∈L,r∈chs C p)->(L.flatMap fun r=>r :: C.map fun c=>r ++ [(p,c.1)]).Nodup:=by
   intro L
   induction L with
   | nil=>intro _ _; exact D3
   | cons a L ihL =>
    intro hn hm
    rw [Di] at hn
    rw [Fj,Bz]
    refine ⟨?_,ihL hn.2 fun r hr=>hm r (Ak _ hr),?_⟩
    ·rw [Di]
     refine ⟨fun z => ?_,?_⟩
     ·obtain ⟨c,_,e⟩:=A7.mp z
      have:=congrArg Fe e
      rw [Ab,Bf] at this
      omega
     ·rw [Fb,Bb]
      rw [Fb,Bb] at nd
      refine nd.imp fun h e=>h ?_
      have:=List.append_cancel_left e
      injection this with e1 _
      injection e1
    ·intro u hu v hv e
     have pre:∀ {r y:List (Nat×Str)},r∈chs C p->y∈(r :: C.map fun c=>r ++ [(p,c.1)])->inOrder y p=r:=fun {r y} hr hy=>by
      rcases Bc.mp hy with rfl | hy
      ·exact zcf hr
      ·obtain ⟨c,_,rfl⟩:=A7.mp hy
       rw [zdY (p:=p) r [(p,c.1)] (fun x hx=>by rw [A5.mp hx]; exact A9 _)]
       exact zcf hr
     obtain ⟨r,hr,hv⟩:=E4.mp hv
     have h1:=pre (hm a Ap) hu
     have h2:=pre (hm r (Ak _ hr)) hv
     rw [e,h2] at h1
     exact hn.1 (h1 ▸ hr)
  exact all _ ih fun _ h=>h
theorem perm_one {α : Type} {l m:List α} (p:l.Perm m) (h:m.length<=1):l=m:=by
 cases m with
 | nil=>exact p.eq_nil
 | cons a m =>
  rw [As] at h
  have:m = []:=Fz (by omega)
  subst this
  exact p.eq_singleton
theorem inOrder_perm {l m:List (Nat×Str)} (p:l.Perm m) {n:Nat} (h:∀ j,j < n->(m.filter fun x=>decide (x.1=j)).length<=1):inOrder l n=inOrder m n:=by
 unfold inOrder
 refine zes fun j hj => ?_
 exact perm_one (p.filter _) (h j (Ax.mp hj))
theorem inOrder_ok {l:List (Nat×Str)} {n:Nat} (h:∀ x∈l,x.1 < n):(inOrder l n).Perm l:=by
 have:∀ p,(inOrder l p).Perm (l.filter fun x=>decide (x.1 < p)):=by
  intro p
  induction p with
  | zero=>rw [E2.mpr (fun x _=>by rw [decide_eq_true_eq]; omega)]; exact Hd _
  | succ p ih =>
   rw [zbH]
   refine (ih.append_right _).trans ?_
   have e1:(l.filter fun x=>decide (x.1 < p))=(l.filter fun x=>decide (x.1 < p + 1)).filter fun x=>decide (x.1 < p):=by
    rw [Gf]
    refine Es fun x _ => ?_
    by_cases z:x.1 < p
    ·rw [decide_eq_true z,decide_eq_true (show x.1 < p + 1 by omega)]; rfl
    ·rw [decide_eq_false z,El]
   have e2:(l.filter fun x=>decide (x.1=p))=(l.filter fun x=>decide (x.1 < p + 1)).filter fun x => !decide (x.1 < p):=by
    rw [Gf]
    refine Es fun x _ => ?_
    rw [Bi]
    simp
    omega
   rw [e1,e2]
   exact List.filter_append_perm _ _
 have h2:=this n
 rwa [Bo.mpr (fun x hx=>decide_eq_true (h x hx))] at h2
theorem mir_mir {C:Combs} (g:GC C) (nd:(C.map (·.1)).Nodup) {n:Nat} {x:Nat×Str} (h:x.2∈C.map (·.1)) (hin:x.1 + (mxT (tkOf C x.2)).toNat < n):mir (turnC C) n (mir C n x)=x:=by
 obtain ⟨c,hc,e,e2⟩:=zg0 nd h
 unfold mir
 dsimp only
 rw [zgZ nd h,e2,zhm (g c hc)]
 rw [e2] at hin
 refine K8 ?_ rfl
 show n - 1 - (n - 1 - x.1 - (mxT c.2).toNat) - (mxT c.2).toNat=x.1
 omega
theorem zfx {C:Combs} (g:GC C) {n:Nat} {l:List (Nat×Str)} (hl:l∈chs C n):shpB C n 0 l=true ↔ Cover C l n:=by
 unfold shpB
 rw [Bp,okL_iff,decide_eq_true_eq]
 exact zge g hl
theorem zid {C:Combs} (g:GC C) (nd:(C.map (·.1)).Nodup) (n:Nat):cnt C n 0<=cnt (turnC C) n 0:=by
 have g':=zeA g
 have nd':((turnC C).map (·.1)).Nodup:=by rw [zbs]; exact nd
 let φ : List (Nat×Str)->List (Nat×Str):=fun l=>inOrder (l.map (mir C n)) n
 have facts:∀ l∈(chs C n).filter (shpB C n 0),φ l∈(chs (turnC C) n).filter (shpB (turnC C) n 0)/\inOrder ((φ l).map (mir (turnC C) n)) n=l:=fun l hl=>by
  obtain ⟨hl1,hl2⟩:=Az.mp hl
  have hc:=(zfx g hl1).mp hl2
  have hlay:Lay C l:=fun x hx=>(zcz hl1 x hx).2
  obtain ⟨h1,h2⟩:=cover_mir g nd hlay hc
  have hbel:∀ x∈l.map (mir C n),x.1 < n:=fun x hx=>h2.below g' nd' h1 hx (zgF g' nd' (h1 x hx))
  have hm : φ l∈chs (turnC C) n:=zdX g' nd' h1 n fun q hq=>by rw [h2 q]; split <;> omega
  have hcv:Cover (turnC C) (φ l) n:=fun q=>by
   show cov (turnC C) (inOrder (l.map (mir C n)) n) q=_
   rw [zd2,<- h2 q,Bo.mpr]
   intro x hx
   exact decide_eq_true (hbel x hx)
  refine ⟨Az.mpr ⟨hm,(zfx g' hm).mpr hcv⟩,?_⟩
  have p1:((φ l).map (mir (turnC C) n)).Perm l:=by
   refine ((inOrder_ok hbel).map _).trans ?_
   rw [B5]
   conv=>rhs; rw [<- Fy l]
   rw [C7 (g:=id)]
   intro x hx
   exact mir_mir g nd (hlay x hx) (zgO g nd hlay hc hx)
  rw [inOrder_perm p1 (fun j hj=>Bv (zeu g nd hlay j) (by rw [hc j]; split <;> omega))]
  exact zcf hl1
 unfold cnt
 have ndA:((chs C n).filter (shpB C n 0)).Nodup:=(zfz nd n).sublist Ci
 have ndM:(((chs C n).filter (shpB C n 0)).map φ).Nodup:=by
  rw [Fb,Bb]
  refine Et (fun {x y} hx hy hne e=>hne ?_) ndA
  have a:=(facts x hx).2
  have b:=(facts y hy).2
  rw [<- a,<- b,e]
 have:=zds ndM (m:=(chs (turnC C) n).filter (shpB (turnC C) n 0)) fun x hx=>by
  obtain ⟨l,hl,rfl⟩:=A7.mp hx
  exact (facts l hl).1
 rwa [A1] at this
theorem zgP {C:Combs} (g:GC C) (nd:(C.map (·.1)).Nodup) (n:Nat):cnt (turnC C) n 0=cnt C n 0:=by
 have h1:=zid g nd n
 have h2:=zid (zeA g) (by rw [zbs]; exact nd) n
 rw [turnC_turnC g] at h2
 omega
theorem stp_perm {C C':Combs} (p:C.Perm C') (s:Nat):(stp C s).Perm (stp C' s):=steps_perm p _
theorem ze1 {C C':Combs} (p:C.Perm C'):∀ k s,Wy C k s=Wy C' k s
 | 0,s=>rfl
 | k + 1,s=>by
  show ((stp C s).map fun q=>Wy C k q.2.toNat).sum=((stp C' s).map fun q=>Wy C' k q.2.toNat).sum
  rw [show (fun q:Str×Int=>Wy C k q.2.toNat)=fun q=>Wy C' k q.2.toNat from funext fun q=>ze1 p k _]
  exact (Q5 _ (stp_perm p s)).sum_nat
noncomputable abbrev KB:=List Key×Bool
section
variable {P:Av} {w:Bu} {A:Bd} {E:A0->A4->Prop} {s:A4}
end
noncomputable abbrev PX:=KB×A3×V
section
variable {P:Av} {w:Bu} {H:Hp} {h:Ce} {a b:A3} {xs:List PX} {k:KB}
end
section
variable {X:Cx} {pins:List (A3×Obj)} {σ : St} {H:Hp} {s:A4} {a b:A3} {xs:List PX} {k:KB} {A:Bd} {E:A0->A4->Prop}
end
section
variable {X:Cx} {o i e f value k v:Cc} {pos pos' apos cpos:Pos} {td ty tv tx tk:TE}
end
section
variable {X:Cx} {pins:List (A3×Obj)} {σ : St} {H:Hp} {s:A4} {a:A3} {u:HO}
end
section
variable {X:Cx} {tg:Cc}
end
section
variable {C:Combs} {x:Str}
end
section
variable {mvs:List PX} {rs:List (Nat×Bool)} {G:Nat×Bool->Nat}
end
section
variable {X:Cx}
end
theorem rch_none {C:Combs} (g:GC C) {k:Nat} (h:rowN C k = []) {n:Nat} (hn:k<=n) {t:Nat}:¬ rch C 0 n t:=fun z=>by
 obtain ⟨d,rfl⟩:=L6 hn
 obtain ⟨u,h1,_⟩:=zdE z
 have:=(zc8 g).mpr h1
 rw [h] at this
 cases this
end L2
set_option maxHeartbeats 4000000
namespace L2
open PySem PySem.Spec PyProof.Rows PySem.W
open AutoSeq1 (wpAny_loadPart')
open MeetsSeq MeetsSeq2 MeetsSeq3
noncomputable def ltS:List Str->List Str->Bool
 | [],[]=>false
 | [],_ :: _=>true
 | _ :: _,[]=>false
 | x :: xs,y :: ys=>if (x.cps.toList == y.cps.toList)=true then ltS xs ys else decide (x.cps.toList < y.cps.toList)
noncomputable def cmS (op:Ha) (a b:List Str):Bool:=match op with
 | .Lt=>ltS a b
 | .LtE => !ltS b a
 | _=>ltS b a
noncomputable def SA (its:Array A0) (as:List Str):Prop:=its.size=as.length/\∀ (j:Nat) x,as[j]?=some x->∃ t,its[j]?=some (.str x t)
theorem zif (op:Ha) (h:op = .Lt\/op = .LtE\/op = .Gt) {as bs:List Str} {i:Nat} (h1:i<=as.length) (h2:i<=bs.length) (h3:i=as.length\/i=bs.length) :
  (match op with | .Eq=>as.length == bs.length | .NotEq=>as.length != bs.length | .Lt=>decide (as.length < bs.length) | .LtE=>decide (as.length<=bs.length) | .Gt=>decide (as.length > bs.length) | _=>decide (as.length>=bs.length))=cmS op (as.drop i) (bs.drop i):=by
 have lt:∀ {as bs:List Str},i<=as.length->i<=bs.length->(i=as.length\/i=bs.length)->ltS (as.drop i) (bs.drop i)=decide (as.length < bs.length):=by
  intro as bs h1 h2 h3
  by_cases e1:i=as.length
  ·rw [Hh (show as.length<=i by omega)]
   by_cases e2:i=bs.length
   ·rw [Hh (show bs.length<=i by omega),decide_eq_false (show ¬ as.length < bs.length by omega)]; rfl
   ·cases h:bs.drop i with
    | nil=>have:=congrArg Fe h; rw [F3] at this; simp at this; omega
    | cons y ys=>rw [decide_eq_true (show as.length < bs.length by omega)]; rfl
  ·have e2:i=bs.length:=by omega
   rw [Hh (show bs.length<=i by omega),decide_eq_false (show ¬ as.length < bs.length by omega)]
   cases h:as.drop i with
   | nil=>rfl
   | cons y ys=>rfl
 rcases h with rfl | rfl | rfl
 ·exact (lt h1 h2 h3).symm
 ·show decide (as.length<=bs.length) = !ltS (bs.drop i) (as.drop i)
  rw [lt h2 h1 h3.symm]
  by_cases z:bs.length < as.length
  ·rw [decide_eq_true z,decide_eq_false (by omega)]; rfl
  ·rw [decide_eq_false z,decide_eq_true (by omega)]; rfl
 ·exact (lt h2 h1 h3.symm).symm
theorem cm_step (op:Ha) {x y:Str} {xs ys:List Str} (h:(x.cps.toList == y.cps.toList)=true):cmS op (x :: xs) (y :: ys)=cmS op xs ys:=by
 have h':(y.cps.toList == x.cps.toList)=true:=by rw [beq_iff_eq] at h ⊢; exact h.symm
 have e1:ltS (x :: xs) (y :: ys)=ltS xs ys:=by unfold ltS; rw [if_pos h]; cases xs <;> cases ys <;> rfl
 have e2:ltS (y :: ys) (x :: xs)=ltS ys xs:=by unfold ltS; rw [if_pos h']; cases xs <;> cases ys <;> rfl
 unfold cmS
 cases op <;> simp only [e1,e2]
theorem cm_diff (op:Ha) {x y:Str} {xs ys:List Str} (h:(x.cps.toList == y.cps.toList)=false):cmS op (x :: xs) (y :: ys)=match op with | .Lt=>decide (x.cps.toList < y.cps.toList) | .LtE => !decide (y.cps.toList < x.cps.toList) | _=>decide (y.cps.toList < x.cps.toList):=by
 have h':(y.cps.toList == x.cps.toList)=false:=by rw [beq_eq_false_iff_ne] at h ⊢; exact fun z=>h z.symm
 have e1:ltS (x :: xs) (y :: ys)=decide (x.cps.toList < y.cps.toList):=by unfold ltS; rw [if_neg (by rw [h]; exact Aa)]
 have e2:ltS (y :: ys) (x :: xs)=decide (y.cps.toList < x.cps.toList):=by unfold ltS; rw [if_neg (by rw [h']; exact Aa)]
 unfold cmS
 cases op <;> simp only [e1,e2]
theorem str_cmp {prog:Av} {w:Bu} {A:Bd} {E:A0->A4->Prop} {s:A4} (op:Ha) (h:op = .Lt\/op = .LtE\/op = .Gt) {x y:Str} {t u:Tok} {Q:A0->A4->Prop}
  (q:Q (.bool (match op with | .Lt=>decide (x.cps.toList < y.cps.toList) | .LtE => !decide (y.cps.toList < x.cps.toList) | _=>decide (y.cps.toList < x.cps.toList))) s):wpAny (model prog w) A (richCompare op (.str x t) (.str y u)) Q E s:=by
 rcases h with rfl | rfl | rfl
 ·show wpAny _ _ (compareOp .Lt _ _) _ _ _
  exact PySem.P.lt_str q
 ·show wpAny _ _ (compareOp .LtE _ _) _ _ _
  exact Mc q
 ·show wpAny _ _ (compareOp .Gt _ _) _ _ _
  exact PySem.P.gt_str q
theorem zeX (op:Ha) (code:Int) (hop:(op = .Lt/\code=0)\/(op = .LtE/\code=1)\/(op = .Gt/\code=4)) (l b:A3) (its its2:Array A0) (n n2:Nat) (dd dd2:Option A3) (sl sl2:Array (Option A0)) {as bs:List Str} (ha:SA its as) (hb':SA its2 bs) (k:Nat) :
  ∀ i:Nat,as.length - i=k->i<=as.length->i<=bs.length->Meets (Ip.«list.__eq__.loop» ⟨[.ref l,.ref b,rawInt i,rawInt code],[]⟩)
   (fun _ R s=>s.heap.get? l=some { cls := .type "list",dict:=dd,data := .seq its n,slots:=sl }/\s.heap.get? b=some { cls := .type "list",dict:=dd2,data := .seq its2 n2,slots:=sl2 } /\
    R (.ok (.ret (.bool (cmS op (as.drop i) (bs.drop i))))) s):=by
 induction k with
 | zero =>
  intro i hk h1 h2 prog w A R s h
  obtain ⟨hp,g,d,tk,os⟩:=s; obtain ⟨hl,hb,h⟩:=h
  have hi1:its[((i:Nat):Int).toNat]?=none:=by simp; rw [ha.1]; omega
  have he:=zif op (by rcases hop with h | h | h <;> simp [h.1]) (as:=as) (bs:=bs) (i:=i) h1 h2 (by omega)
  rw [<- he] at h
  rcases hop with ⟨rfl,rfl⟩ | ⟨rfl,rfl⟩ | ⟨rfl,rfl⟩
  all_goals
   wp_walk using C8 hl,C8 hb
   rw [hi1]
   wp_walk using C8 hl,C8 hb
   rw [<- ha.1,<- hb'.1] at h
   exact h
 | succ k ih =>
  intro i hk h1 h2 prog w A R s h
  obtain ⟨hp,g,d,tk,os⟩:=s; obtain ⟨hl,hb,h⟩:=h
  have hlt:i < as.length:=by omega
  by_cases hlt2:i < bs.length
  ·obtain ⟨t,e1⟩:=ha.2 i _ (A8 hlt)
   obtain ⟨u,e2⟩:=hb'.2 i _ (A8 hlt2)
   have hi1:its[((i:Nat):Int).toNat]?=some (.str as[i] t):=e1
   have hi2:its2[((i:Nat):Int).toNat]?=some (.str bs[i] u):=e2
   have hc:((i:Int) + 1)=((i + 1:Nat):Int):=by push_cast; rfl
   rw [Eb hlt,Eb hlt2] at h
   rcases hop with ⟨rfl,rfl⟩ | ⟨rfl,rfl⟩ | ⟨rfl,rfl⟩
   all_goals
    wp_walk using C8 hl,C8 hb
    rw [hi1,hi2]
    refine A6 (My _ _ t u prog w _ _ _ _ ?_)
    cases hq:(as[i].cps.toList == bs[i].cps.toList) with
    | true =>
     rw [cm_step _ hq] at h
     wp_walk
     rw [hc]
     exact ⟨Jn plain_eq_loop _,Ir entry_eq_loop (by
      rw [Ft plain_eq_loop _]
      exact ih (i + 1) (by omega) (by omega) (by omega) prog w A R _ ⟨hl,hb,h⟩)⟩
    | false =>
     rw [cm_diff _ hq] at h
     wp_walk using C8 hl,C8 hb
     rw [hi1,hi2]
     refine A6 ?_
     refine str_cmp _ ?_ ?_
     ·first
       | exact .inl rfl
       | exact .inr (.inl rfl)
       | exact .inr (.inr rfl)
     wp_walk
     exact h
  ·have e2:i=bs.length:=by omega
   obtain ⟨t,e1⟩:=ha.2 i _ (A8 hlt)
   have hi1:its[((i:Nat):Int).toNat]?=some (.str as[i] t):=e1
   have hi2:its2[((i:Nat):Int).toNat]?=none:=by simp; rw [hb'.1]; omega
   have he:=zif op (by rcases hop with h | h | h <;> simp [h.1]) (as:=as) (bs:=bs) (i:=i) h1 h2 (by omega)
   rw [<- he] at h
   rcases hop with ⟨rfl,rfl⟩ | ⟨rfl,rfl⟩ | ⟨rfl,rfl⟩
   all_goals
    wp_walk using C8 hl,C8 hb
    rw [hi1,hi2]
    wp_walk using C8 hl,C8 hb
    rw [<- ha.1,<- hb'.1] at h
    exact h
end L2
set_option maxHeartbeats 4000000
namespace L2
open PySem PySem.Spec PyProof.Rows PySem.W
open AutoSeq1 (wpAny_loadPart')
open MeetsSeq MeetsSeq2 MeetsSeq3
theorem list_ltS (l b:A3) (its its2:Array A0) (n n2:Nat) (dd dd2:Option A3) (sl sl2:Array (Option A0)) {as bs:List Str} (ha:SA its as) (hb':SA its2 bs) :
  Meets (Ip.«list.__lt__» ⟨[.ref l,.ref b],[]⟩)
   (fun _ R s=>s.heap.get? l=some { cls := .type "list",dict:=dd,data := .seq its n,slots:=sl }/\s.heap.get? b=some { cls := .type "list",dict:=dd2,data := .seq its2 n2,slots:=sl2 } /\
    R (.ok (.ret (.bool (cmS .Lt as bs)))) s):=by
 intro prog w A R s h
 obtain ⟨hp,g,d,tk,os⟩:=s; obtain ⟨hl,hb,h⟩:=h
 have f3:=Gv
 wp_walk using C8 hl,C8 hb
 exact ⟨Jn plain_eq_loop _,Ir entry_eq_loop (by
  rw [Ft plain_eq_loop _]
  exact zeX .Lt 0 (.inl ⟨rfl,rfl⟩) l b its its2 n n2 dd dd2 sl sl2 ha hb' _ 0 rfl (By _) (By _) prog w A R _ ⟨hl,hb,h⟩)⟩
theorem list_leS (l b:A3) (its its2:Array A0) (n n2:Nat) (dd dd2:Option A3) (sl sl2:Array (Option A0)) {as bs:List Str} (ha:SA its as) (hb':SA its2 bs) :
  Meets (Ip.«list.__le__» ⟨[.ref l,.ref b],[]⟩)
   (fun _ R s=>s.heap.get? l=some { cls := .type "list",dict:=dd,data := .seq its n,slots:=sl }/\s.heap.get? b=some { cls := .type "list",dict:=dd2,data := .seq its2 n2,slots:=sl2 } /\
    R (.ok (.ret (.bool (cmS .LtE as bs)))) s):=by
 intro prog w A R s h
 obtain ⟨hp,g,d,tk,os⟩:=s; obtain ⟨hl,hb,h⟩:=h
 have f3:=Gv
 wp_walk using C8 hl,C8 hb
 exact ⟨Jn plain_eq_loop _,Ir entry_eq_loop (by
  rw [Ft plain_eq_loop _]
  exact zeX .LtE 1 (.inr (.inl ⟨rfl,rfl⟩)) l b its its2 n n2 dd dd2 sl sl2 ha hb' _ 0 rfl (By _) (By _) prog w A R _ ⟨hl,hb,h⟩)⟩
theorem list_gtS (l b:A3) (its its2:Array A0) (n n2:Nat) (dd dd2:Option A3) (sl sl2:Array (Option A0)) {as bs:List Str} (ha:SA its as) (hb':SA its2 bs) :
  Meets (Ip.«list.__gt__» ⟨[.ref l,.ref b],[]⟩)
   (fun _ R s=>s.heap.get? l=some { cls := .type "list",dict:=dd,data := .seq its n,slots:=sl }/\s.heap.get? b=some { cls := .type "list",dict:=dd2,data := .seq its2 n2,slots:=sl2 } /\
    R (.ok (.ret (.bool (cmS .Gt as bs)))) s):=by
 intro prog w A R s h
 obtain ⟨hp,g,d,tk,os⟩:=s; obtain ⟨hl,hb,h⟩:=h
 have f3:=Gv
 wp_walk using C8 hl,C8 hb
 exact ⟨Jn plain_eq_loop _,Ir entry_eq_loop (by
  rw [Ft plain_eq_loop _]
  exact zeX .Gt 4 (.inr (.inr ⟨rfl,rfl⟩)) l b its its2 n n2 dd dd2 sl sl2 ha hb' _ 0 rfl (By _) (By _) prog w A R _ ⟨hl,hb,h⟩)⟩
theorem zin {as:List Str} {us:List A0} (r:Vals (as.map V.str) us):SA us.toArray as:=by
 refine ⟨by rw [B1,<- r.length,A1],fun j x hx => ?_⟩
 obtain ⟨u,h1,t,h2⟩:=r.get (i:=j) (x := .str x) (by rw [Ad,hx]; rfl)
 exact ⟨t,by rw [List.getElem?_toArray,h1,h2]⟩
section
variable {prog:Av} {w:Bu} {A:Bd} {E:A0->A4->Prop} {s:A4}
theorem cmp_lists (op:Ha) (hop:op = .Lt\/op = .LtE\/op = .Gt) {l b:A3} {items items2:Array A0} {as bs:List Str} {Q:A0->A4->Prop} (hl:s.heap.IsList l items) (hb:s.heap.IsList b items2) (hi:SA items as) (hj:SA items2 bs)
  (hu:A.units < cLine) (h:Q (.bool (cmS op as bs)) s):wpAny (model prog w) A (compareOp op (.ref l) (.ref b)) Q E s:=by
 obtain ⟨⟨cls,dd,data,sl⟩,ho,hc,n,hd⟩:=id hl
 obtain ⟨⟨cls2,dd2,data2,sl2⟩,ho2,hc2,n2,hd2⟩:=id hb
 simp only at hc hd hc2 hd2
 subst hc hd hc2 hd2
 have z:∀ v:Bool,F7 v≠Fv:=fun v x=>nomatch x
 rcases hop with rfl | rfl | rfl
 ·exact Ik (op := .Lt) ⟨_,ho,rfl⟩ ⟨_,ho2,rfl⟩ PySem.F.slot_list_lt PySem.F.entry_list_lt (PySem.F.args_list_lt_2 _ _) (list_ltS l b items items2 n n2 dd dd2 sl sl2 hi hj) ⟨ho,ho2,show F7 (cmS .Lt as bs)≠Fv/\Q (.bool (cmS .Lt as bs)) s from ⟨z _,h⟩⟩ hu
 ·exact Ik (op := .LtE) ⟨_,ho,rfl⟩ ⟨_,ho2,rfl⟩ PySem.F.slot_list_le PySem.F.entry_list_le (PySem.F.args_list_le_2 _ _) (list_leS l b items items2 n n2 dd dd2 sl sl2 hi hj) ⟨ho,ho2,show F7 (cmS .LtE as bs)≠Fv/\Q (.bool (cmS .LtE as bs)) s from ⟨z _,h⟩⟩ hu
 ·exact Ik (op := .Gt) ⟨_,ho,rfl⟩ ⟨_,ho2,rfl⟩ PySem.F.slot_list_gt PySem.F.entry_list_gt (PySem.F.args_list_gt_2 _ _) (list_gtS l b items items2 n n2 dd dd2 sl sl2 hi hj) ⟨ho,ho2,show F7 (cmS .Gt as bs)≠Fv/\Q (.bool (cmS .Gt as bs)) s from ⟨z _,h⟩⟩ hu
end
noncomputable def rCmS (K:At) (op:Ha):R2:=fun x y H Q=>∃ a b as bs,x = .ref a/\y = .ref b/\SqL K H a (as.map V.str)/\SqL K H b (bs.map V.str)/\Q (.bl (cmS op as bs)) H
section
variable {X:Cx}
theorem op_cmS (op:Ha) (hop:op = .Lt\/op = .LtE\/op = .Gt) (hu:X.A.units + 64 < cLine):OpR X (compareOp op) (rCmS X.K op):=by
 intro pins s σ H x y v u Q I rx ry h
 obtain ⟨a,b,as,bs,rfl,rfl,ha,hb,q⟩:=h
 cases rx
 cases ry
 obtain ⟨its,r1,p1,_⟩:=I.list ha
 obtain ⟨its2,r2,p2,_⟩:=I.list hb
 exact cmp_lists op hop p1.isList p2.isList (zin r1) (zin r2) (Me (N1 _ 64) hu) ⟨.bl (cmS op as bs),H,I,rfl,q⟩
end
end L2
namespace L2
open PySem PySem.Spec PyProof.Rows
theorem str_cps {x y:Str} (h:x.cps.toList=y.cps.toList):x=y:=by
 cases x; cases y
 simp only at h
 congr 1
 exact Ml.mp h
theorem zho:∀ l:List Str,ltS l l=false
 | []=>rfl
 | x :: l=>by
  unfold ltS
  rw [if_pos (by simp)]
  exact zho l
theorem zhp {x y:Str} (h:x.cps.toList < y.cps.toList) (r r':List Str):∀ p:List Str,ltS (p ++ x :: r) (p ++ y :: r')=true/\ltS (p ++ y :: r') (p ++ x :: r)=false
 | []=>by
  have hne:(x.cps.toList == y.cps.toList)=false:=by
   rw [beq_eq_false_iff_ne]
   intro z
   rw [z] at h
   exact List.lt_irrefl _ h
  have hne':(y.cps.toList == x.cps.toList)=false:=by rw [beq_eq_false_iff_ne] at hne ⊢; exact fun z=>hne z.symm
  refine ⟨?_,?_⟩
  ·show (if (x.cps.toList == y.cps.toList)=true then ltS r r' else decide (x.cps.toList < y.cps.toList))=true
   rw [if_neg (by rw [hne]; exact Aa),decide_eq_true h]
  ·show (if (y.cps.toList == x.cps.toList)=true then ltS r' r else decide (y.cps.toList < x.cps.toList))=false
   rw [if_neg (by rw [hne']; exact Aa),decide_eq_false (List.lt_asymm h)]
 | a :: p=>by
  obtain ⟨h1,h2⟩:=zhp h r r' p
  refine ⟨?_,?_⟩
  ·show (if (a.cps.toList == a.cps.toList)=true then ltS (p ++ x :: r) (p ++ y :: r') else _)=true
   rw [if_pos (by simp)]; exact h1
  ·show (if (a.cps.toList == a.cps.toList)=true then ltS (p ++ y :: r') (p ++ x :: r) else _)=false
   rw [if_pos (by simp)]; exact h2
noncomputable def namesOf (nm:Nat->Str) (n:Nat):List Str:=(laid nm n).map nm
theorem zdL (nm:Nat->Str) (i r:Nat) (h:nm i≠A2 ""):∃ R,namesOf nm (i + 1 + r)=namesOf nm i ++ nm i :: R:=by
 refine ⟨(((Af r).map fun k=>i + 1 + k).filter fun j=>decide (nm j≠A2 "")).map nm,?_⟩
 unfold namesOf laid
 rw [List.range_add,Dh,C0,C0,Ao,Ao,Au,if_pos (decide_eq_true h),Ck,Al,F0,Aw]
 rfl
theorem zdM {nm nm':Nat->Str} {n:Nat} (h:∀ j,j < n->nm j=nm' j):namesOf nm n=namesOf nm' n:=by
 unfold namesOf laid
 have e:(Af n).filter (fun j=>decide (nm j≠A2 ""))=(Af n).filter fun j=>decide (nm' j≠A2 ""):=Es fun j hj=>by rw [h j (Ax.mp hj)]
 rw [e]
 exact C7 fun j hj=>h j (Ax.mp (Az.mp hj).1)
noncomputable def Ord (C:Combs):Prop:=C.Pairwise fun c d=>c.1.cps.toList < d.1.cps.toList
theorem by_names (cs:Combs) (l:List Str):(byNames cs l).map (·.1)=l:=by
 unfold byNames
 rw [B5]
 conv=>rhs; rw [<- Fy l]
 rfl
theorem srt_ord {cs:Combs} (nd:(cs.map (·.1)).Nodup):Ord (srt cs):=by
 have h1:=zc7 (zfh cs)
 have h2:(nmSort cs).Nodup:=(zfQ cs).nodup_iff.mpr nd
 have h3:(nmSort cs).Pairwise fun a b=>a.cps.toList < b.cps.toList:=by
  refine (h1.and h2).imp fun {a b} h => ?_
  have h4:a.cps.toList<=b.cps.toList:=h.1
  by_cases z:a.cps.toList < b.cps.toList
  ·exact z
  ·exact absurd (str_cps (Ms h4 (Oc.mp z))) h.2
 unfold Ord
 have e:(srt cs).map (·.1)=nmSort cs:=by_names cs _
 rw [<- e,Bb] at h3
 exact h3
theorem stp_ord {C:Combs} (o:Ord C) (s:Nat):(stp C s).Pairwise fun p q=>p.1.cps.toList < q.1.cps.toList:=by
 unfold stp stepsOf
 split
 ·exact List.pairwise_singleton _ _
 ·rw [Bb]
  exact Ba Ci o
theorem zet {α : Type} {R : α -> α -> Prop} {p : α -> Bool} {a b : α}:∀ {l:List α},l.Pairwise R->l.find? p=some a->b∈l->p b=true->a=b\/R a b
 | x :: l,hp,hf,hb,hpb=>by
  rw [Ec] at hf
  rw [Gd] at hp
  cases hx:p x with
  | true =>
   rw [hx] at hf
   cases hf
   rcases Bc.mp hb with rfl | hb
   ·exact .inl rfl
   ·exact .inr (hp.1 b hb)
  | false =>
   rw [hx] at hf
   rcases Bc.mp hb with rfl | hb
   ·rw [hx] at hpb; cases hpb
   ·exact zet hp.2 hf hb hpb
theorem zhP {C:Combs} {s:Nat} {p q:Str×Int} (ne:∀ c∈C,c.1≠A2 "") (hp:p∈stp C s) (hq:q∈stp C s) (h:p≠q):p.1≠A2 "" := by
 unfold stp stepsOf at hp hq
 split at hp
 ·rw [if_pos ‹_›] at hq
  exact absurd ((A5.mp hp).trans (A5.mp hq).symm) h
 ·obtain ⟨c,hc,rfl⟩:=A7.mp hp
  exact ne c (Az.mp hc).1
theorem fw_least {C:Combs} (g:GC C) (nd:(C.map (·.1)).Nodup) (ne:∀ c∈C,c.1≠A2 "") (o:Ord C) {x:Str} {B:Nat->Nat->Nat} (S:Sel C x B) {n:Nat} (h:0 < B n 0) {f:Nat->Nat} {nm:Nat->Str} {fl:Nat->Bool} (h0:f 0=0) (hf0:fl 0=false)
  (hs:∀ i,i < n->(nm i,(f (i + 1):Int))∈stp C (f i)) (hfl:∀ i,i < n->fl (i + 1)=(fl i || decide (nm i=x))) (hpos:∀ i,i < n->0 < bh x (Wy C (n - 1 - i)) (ro C B (fl i) (n - 1 - i)) (nm i,(f (i + 1):Int))) :
  namesOf (fnm C x B n) n=namesOf nm n\/ltS (namesOf (fnm C x B n) n) (namesOf nm n)=true/\ltS (namesOf nm n) (namesOf (fnm C x B n) n)=false:=by
 have key:∀ k,k<=n->(∀ i,i < k->fnm C x B n i=nm i)/\(fw C x B n k).1=f k/\(fw C x B n k).2=fl k\/∃ i,i < n/\(∀ j,j < i->fnm C x B n j=nm j)/\fnm C x B n i≠A2 "" /\ nm i≠A2 "" /\ (fnm C x B n i).cps.toList < (nm i).cps.toList:=by
  intro k
  induction k with
  | zero=>exact fun _ => .inl ⟨fun i hi=>by omega,by rw [h0]; rfl,by rw [hf0]; rfl⟩
  | succ k ih =>
   intro hk
   rcases ih (by omega) with ⟨a1,a2,a3⟩ | r
   ·obtain ⟨b1,b2,b3⟩:=zd0 g S h (show k < n by omega)
    have hm:=hs k (by omega)
    have hq:=hpos k (by omega)
    have ford:(stp C (f k)).find? (fun p=>decide (0 < bh x (Wy C (n - 1 - k)) (ro C B (fl k) (n - 1 - k)) p))=some (fnm C x B n k,((fw C x B n (k + 1)).1:Int)):=by
     have:=b1
     unfold sel at this
     rwa [a2,a3] at this
    rw [a2] at b3
    by_cases e:(fnm C x B n k,((fw C x B n (k + 1)).1:Int))=(nm k,(f (k + 1):Int))
    ·injection e with e1 e2
     refine .inl ⟨fun i hi => ?_,by omega,by rw [b2,a3,e1,hfl k (by omega)]⟩
     by_cases z:i=k
     ·subst z; exact e1
     ·exact a1 i (by omega)
    ·rcases zet (stp_ord o (f k)) ford hm (decide_eq_true hq) with z | z
     ·exact absurd z e
     ·exact .inr ⟨k,by omega,a1,zhP ne b3 hm e,zhP ne hm b3 (Dm e),z⟩
   ·exact .inr r
 rcases key n (A9 _) with ⟨a1,_⟩ | ⟨i,hi,a1,a2,a3,a4⟩
 ·exact .inl (zdM a1)
 ·obtain ⟨r,rfl⟩:=L6 (show i + 1<=n by omega)
  obtain ⟨R,eR⟩:=zdL (fnm C x B (i + 1 + r)) i r a2
  obtain ⟨R',eR'⟩:=zdL nm i r a3
  rw [eR,eR',zdM a1]
  exact .inr (zhp a4 _ _ _)
theorem stp_without {C:Combs} {x:Str} (hx:x≠A2 "") (s:Nat):stp (C.filter fun c=>decide (c.1≠x)) s=(stp C s).filter fun p=>decide (p.1≠x):=by
 unfold stp stepsOf
 split
 ·rw [Au,if_pos (decide_eq_true (show (A2 "",_).1≠x from fun z=>hx z.symm)),Ck]
 ·rw [Ep,Gf,Gf]
  congr 1
  refine Es fun c _ => ?_
  rw [Bool.and_comm]
  rfl
theorem zex {C:Combs} {x:Str} (hx:x≠A2 ""):∀ k s,Wy C k s=Ww C x k s + Wy (C.filter fun c=>decide (c.1≠x)) k s
 | 0,s=>by show _=0 + _; rw [Fp]; rfl
 | k + 1,s=>by
  show ((stp C s).map fun p=>Wy C k p.2.toNat).sum=((stp C s).map (bh x (Wy C k) (Ww C x k))).sum + ((stp (C.filter fun c=>decide (c.1≠x)) s).map fun p=>Wy (C.filter fun c=>decide (c.1≠x)) k p.2.toNat).sum
  rw [stp_without hx]
  induction stp C s with
  | nil=>rfl
  | cons p l ih =>
   rw [Al,Ct,Al,Ct,Au]
   by_cases e:p.1=x
   ·rw [if_neg (by rw [decide_eq_true_eq]; exact fun z=>z e)]
    have:bh x (Wy C k) (Ww C x k) p=Wy C k p.2.toNat:=if_pos e
    omega
   ·rw [if_pos (decide_eq_true e),Al,Ct]
    have:bh x (Wy C k) (Ww C x k) p=Ww C x k p.2.toNat:=if_neg e
    have:=zex (C:=C) hx k p.2.toNat
    omega
theorem without_last {C:Combs} {c:Str×List Int} (nd:((C ++ [c]).map (·.1)).Nodup):(C ++ [c]).filter (fun d=>decide (d.1≠c.1))=C:=by
 rw [Ao,Bz] at nd
 have e:C.filter (fun d=>decide (d.1≠c.1))=C:=Bo.mpr fun d hd=>decide_eq_true fun z=>nd.2.2 d.1 (A7.mpr ⟨d,hd,rfl⟩) c.1 (by simp) z
 rw [C0,e,Au,if_neg (by simp),Ck,Cq]
theorem Ww_more {C:Combs} {c:Str×List Int} (nd:((C ++ [c]).map (·.1)).Nodup) (hc:c.1≠A2 "") (k s:Nat):Wy (srt (C ++ [c])) k s=Ww (srt (C ++ [c])) c.1 k s + Wy (srt C) k s:=by
 rw [zex hc]
 congr 1
 have p:=(zcc nd).filter fun d=>decide (d.1≠c.1)
 rw [without_last nd] at p
 have nd0:(C.map (·.1)).Nodup:=by rw [Ao,Bz] at nd; exact nd.1
 exact ze1 (p.trans (zcc nd0).symm) k s
theorem zgc {C C':Combs} (h:∀ c∈C,c∈C') {s:Nat} {p:Str×Int} (hp:p∈stp C s):p∈stp C' s:=by
 unfold stp stepsOf at hp ⊢
 split at hp
 ·rw [if_pos ‹_›]; exact hp
 ·rw [if_neg ‹_›]
  obtain ⟨c,hc,e⟩:=A7.mp hp
  obtain ⟨h1,h2⟩:=Az.mp hc
  exact A7.mpr ⟨c,Az.mpr ⟨h c h1,h2⟩,e⟩
theorem zdp {C C':Combs} (h:∀ c∈C,c∈C') {s:Nat}:∀ {n t:Nat},rch C s n t->rch C' s n t
 | 0,_,r=>r
 | n + 1,t,⟨u,h1,p,hp,e⟩=>⟨u,zdp h h1,p,zgc h hp,e⟩
theorem ze3 {C:Combs} (g:GC C) {m:Nat} (hfix:nxtRow C (rowAt C m)=rowAt C m) (ht:tr (rowAt C m) 0=true):∀ k,rch C 0 k (wk C (rowAt C m) 0 k)
 | 0=>rfl
 | k + 1=>⟨_,ze3 g hfix ht k,_,wk_mem g hfix (by decide) ht k,Da _⟩
theorem KindsL.unsnoc {G:A3->Prop} {H:Hp} {k:Str×List Int}:∀ {ks:List (Str×List Int)} {vs:List V},KindsL G H vs (ks ++ [k])->∃ ws q t,vs=ws ++ [.ref q]/\KindsL G H ws ks/\H q=some (.lst [.str k.1,.ref t])/\H t=some (.lst (k.2.map V.int))/\G q/\G t
 | [],[v],h=>by
  obtain ⟨⟨q,t,rfl,e1,e2,g1,g2⟩,_⟩:=h
  exact ⟨[],q,t,rfl,trivial,e1,e2,g1,g2⟩
 | [],[],h=>h.elim
 | [],_ :: _ :: _,h=>h.2.elim
 | _ :: _,[],h=>h.elim
 | k1 :: ks,v :: vs,h=>by
  obtain ⟨ws,q,t,e,r,h1,h2,g1,g2⟩:=KindsL.unsnoc (ks:=ks) h.2
  exact ⟨v :: ws,q,t,by rw [e]; rfl,⟨h.1,r⟩,h1,h2,g1,g2⟩
theorem zcy (ws:List V) (v:V):cutV (ws ++ [v]) none (some (-1))=ws:=by
 unfold cutV
 rw [HT.sIx_none]
 have e:HT.sIx (ws ++ [v]).length (ws ++ [v]).length (some (-1))=ws.length:=by
  simp [HT.sIx]
  omega
 rw [e]
 simp
theorem Mv.tup {b l:A3} {G G':A3->Prop} {H H':Hp} {C:A3} {cs:Combs} {past:List Combs} (m:Mv b l G G' H H') (B:Bk C G H b l cs past) {q:A3} {xs:List V} (h:H q=some (.tup xs)):H' q=some (.tup xs):=by
 obtain ⟨dx,d,e1,_⟩:=B.ins
 obtain ⟨vs,e2,_⟩:=B.lst
 exact m.keep q _ h (fun z=>by rw [z,e1] at h; cases h) (fun z=>by rw [z,e2] at h; cases h)
theorem Mv.lst {b l:A3} {G G':A3->Prop} {H H':Hp} {C:A3} {cs:Combs} {past:List Combs} (m:Mv b l G G' H H') (B:Bk C G H b l cs past) {q:A3} {xs:List V} (h:H q=some (.lst xs)) (hq:q≠l):H' q=some (.lst xs):=by
 obtain ⟨dx,d,e1,_⟩:=B.ins
 exact m.keep q _ h (fun z=>by rw [z,e1] at h; cases h) hq
theorem range_getD {α β : Type} (l:List α) (d : α) (f : α -> β):(Af l.length).map (fun i=>f (l.getD i d))=l.map f:=by
 refine Jp (by simp) fun i h1 h2 => ?_
 rw [A1,B0] at h1
 simp [h1]
theorem zek {H:Hp} {D:A3} {wl:List V} {nm:Nat->Str} {n:Nat} (hl:wl.length=(laid nm n).length) (e:H D=some (.lst (((Af wl.length).filter fun _=>true).map fun j=>V.str (nm ((laid nm n).getD j 0))))):H D=some (.lst ((namesOf nm n).map V.str)):=by
 rw [e,Bo.mpr fun _ _=>rfl,hl,range_getD (laid nm n) 0 fun j=>V.str (nm j)]
 unfold namesOf
 rw [B5]
 rfl
end L2
set_option maxHeartbeats 4000000
namespace K36
open PySem L2 PyProof.Rows
noncomputable def top (i:Nat):Cd:=PySem.Challenge.pw_combstrip_k36_whole_one_comb_more.main.body.getD i (.Pass ⟨0,0,0,0⟩)
noncomputable abbrev s__wall:Cd:=top 0
noncomputable abbrev s_shape_steps:Cd:=top 22
noncomputable abbrev s_teeth_worth:Cd:=top 23
noncomputable abbrev s_step_table:Cd:=top 24
noncomputable abbrev s_shapes_behind:Cd:=top 25
noncomputable abbrev s_first_filling:Cd:=top 27
noncomputable abbrev s_count_fillings:Cd:=top 28
noncomputable abbrev s_count_fillings_with:Cd:=top 29
noncomputable abbrev s_check_length:Cd:=top 30
noncomputable abbrev s_ways_to_close:Cd:=top 31
noncomputable abbrev s_ways_to_lay:Cd:=top 32
noncomputable abbrev s_ways_from:Cd:=top 33
noncomputable abbrev s_ways_behind:Cd:=top 34
noncomputable abbrev s_lay_first:Cd:=top 35
noncomputable abbrev s_first_open_step:Cd:=top 36
noncomputable abbrev s_is_name:Cd:=top 38
noncomputable abbrev s_is_small_letter:Cd:=top 39
noncomputable abbrev s_are_teeth:Cd:=top 40
noncomputable abbrev s_Book___init__:Cd:=inClass (top 42) 0
noncomputable abbrev s_Book_put:Cd:=inClass (top 42) 1
noncomputable abbrev s_Book_drop:Cd:=inClass (top 42) 2
noncomputable abbrev s_Book_add_tooth:Cd:=inClass (top 42) 3
noncomputable abbrev s_Book_take_off:Cd:=inClass (top 42) 4
noncomputable abbrev s_Book_undo:Cd:=inClass (top 42) 5
noncomputable abbrev s_Book_deeds:Cd:=inClass (top 42) 6
noncomputable abbrev s_Book_names:Cd:=inClass (top 42) 7
noncomputable abbrev s_Book_teeth:Cd:=inClass (top 42) 8
noncomputable abbrev s_Book_check_comb:Cd:=inClass (top 42) 9
noncomputable abbrev s_Book_set_comb:Cd:=inClass (top 42) 10
noncomputable abbrev s_Book_do_deed:Cd:=inClass (top 42) 11
noncomputable abbrev s_fits_flush:Cd:=top 44
noncomputable abbrev s_shortest_length:Cd:=top 45
noncomputable abbrev s_least_lengths:Cd:=top 46
noncomputable abbrev s_is_reached:Cd:=top 47
noncomputable abbrev s_rows_going_on:Cd:=top 49
noncomputable abbrev s_narrow_row:Cd:=top 50
noncomputable abbrev s_leads_on:Cd:=top 51
noncomputable abbrev s_walk_round:Cd:=top 52
noncomputable abbrev s_first_lasting_step:Cd:=top 53
noncomputable abbrev s_fill_strip:Cd:=top 55
noncomputable abbrev s_filled_strip:Cd:=top 56
noncomputable abbrev s_rows_to_the_end:Cd:=top 57
noncomputable abbrev s_at:Cd:=top 59
noncomputable abbrev s_mixed:Cd:=top 60
noncomputable abbrev s_word:Cd:=top 61
noncomputable abbrev s_spare:Cd:=top 62
noncomputable abbrev s_menu:Cd:=top 63
noncomputable abbrev s_combs:Cd:=top 64
noncomputable abbrev s_book:Cd:=top 65
noncomputable abbrev s_turned:Cd:=top 66
noncomputable abbrev s_after:Cd:=top 67
noncomputable abbrev s_goes:Cd:=top 68
noncomputable abbrev s_graph:Cd:=top 69
noncomputable abbrev s_manyways:Cd:=top 70
noncomputable abbrev s_whole:Cd:=top 71
noncomputable abbrev s_laying:Cd:=top 72
noncomputable abbrev s_layings:Cd:=top 73
noncomputable abbrev s_teeth:Cd:=top 74
noncomputable abbrev s_covers:Cd:=top 75
noncomputable abbrev s_numbers:Cd:=top 76
noncomputable abbrev s_kept:Cd:=top 77
noncomputable abbrev s_law:Cd:=top 78
section
variable {P:Av} {w:Bu} {K:At} {mg:Str->Option A0} {base:Ce}
theorem zh5 {a b:Nat}:([a] < [b]) ↔ a < b:=by
 rw [List.cons_lt_cons_iff]
 simp
theorem le_a (c:Nat):(!decide ((⟨#[c]⟩:Str).cps.toList < (A2 "a").cps.toList))=decide (97<=c):=by
 have e:(A2 "a").cps.toList = [97]:=by decide +kernel
 rw [e]
 show (!decide ([c] < [97]))=_
 rw [Bi]
 simp only [Fm,decide_eq_false_iff_not,decide_eq_true_eq,zh5]
 omega
theorem le_z (c:Nat):(!decide ((A2 "z").cps.toList < (⟨#[c]⟩:Str).cps.toList))=decide (c<=122):=by
 have e:(A2 "z").cps.toList = [122]:=by decide +kernel
 rw [e]
 show (!decide ([122] < [c]))=_
 rw [Bi]
 simp only [Fm,decide_eq_false_iff_not,decide_eq_true_eq,zh5]
 omega
noncomputable def sp_small:Sp:=fun vs H Q _=>∃ c:Nat,vs = [sgn c]/\Q (.bl (small c)) H
theorem zbD:FnScope ["sign"] ["sign"] (defScope s_is_small_letter):=⟨rfl,rfl,rfl,by decide +kernel,rfl,by decide +kernel,by decide +kernel⟩
theorem ok_small (D:DefAt K mg "is_small_letter" s_is_small_letter) (T:Bn mg):Callee P w K mg base "is_small_letter" 1 ["sign"] sp_small:=by
 refine D.callee zbD (fun _ _ _ _ _ _=>ln1 fun _=>rfl) (fun vs H Q E h => ?_) (fun f cdv A outer s H vs Q E hr h => ?_)
 ·obtain ⟨c,rfl,_⟩:=h
  rfl
 ·obtain ⟨c,rfl,q⟩:=h
  have S:=zbD
  refine ⟨_,zae (zai (zgu zff zff (zaP) (pv 0) (zaP))),?_⟩
  refine ⟨_,rfl,_,_,rfl,rfl,_,rfl,?_⟩
  rw [le_a]
  have q':Q (.bl (decide (97<=c) && decide (c<=122))) H:=q
  cases e:decide (97<=c) with
  | false =>
   rw [if_neg Aa]
   rw [e] at q'
   exact q'
  | true =>
   rw [if_pos rfl]
   refine ⟨_,_,rfl,rfl,?_⟩
   rw [le_z]
   rw [e] at q'
   exact q'
noncomputable def sp_name:Sp:=fun vs H Q _=>∃ x:Str,vs = [.str x]/\x.length<=sizeLine/\∀ H',Same H H'->Q (.bl (isName x)) H'
theorem zef:FnScope ["text"] ["text"] (defScope s_is_name):=⟨rfl,rfl,rfl,by decide +kernel,rfl,by decide +kernel,by decide +kernel⟩
theorem ok_name (D:DefAt K mg "is_name" s_is_name) (T:Bn mg) (V_MOST_NAME:∃ t,mg "MOST_NAME" = some (.int 6 t)) (C_is_small_letter:Callee P w K mg base "is_small_letter" 1 ["sign"] sp_small):Callee P w K mg base "is_name" 2 ["text"] sp_name:=by
 refine D.callee zef (fun _ _ _ _ _ _=>ln1 fun _=>rfl) (fun vs H Q E h => ?_) (fun f cdv A outer s H vs Q E hr h => ?_)
 ·obtain ⟨c,rfl,_⟩:=h
  rfl
 ·obtain ⟨x,rfl,hx,q⟩:=h
  have S:=zef
  refine ⟨_,zab (zaF (za8 (zdq zdK zdK (zac) (zal call_len_str rfl T.n_len Bw (zaa (pv 0) zad)) (zbO rfl V_MOST_NAME)))
   (zae (zai (zbJ)))
   (zan))
  (zae (zai (zal (zeZ rfl) rfl T.n_all P9 (zaa (zaM (own := ["sign"]) (caps := []) rfl ⟨rfl,rfl,rfl,rfl,trivial⟩ (zhU (pv 0)) (fun _ _ _ _ _ _=>zak (i:=0) (zaK (by decide +kernel)) rfl (Aj rfl)) (fun _ _ _ _ _ _=>za2) (fun _ _ _ _ _ _=>zaz C_is_small_letter (hr.mono (by decide)) rfl (zaa (pv 0) zad))) zad)))),?_⟩
  have fin:∀ H',Same H H'->(decide (1<=x.length) && decide (x.length<=6))=false->Q (.bl false) H':=fun H' s' e=>by
   have:=q H' s'
   unfold isName at this
   rw [e] at this
   exact this
  refine ⟨_,rfl,_,rfl,hx,_,_,rfl,rfl,_,rfl,?_⟩
  refine ite2 (fun h1 => ?_) (fun h1 => ?_)
  ·refine ⟨_,_,rfl,rfl,_,rfl,?_⟩
   refine ite2 (fun h2 => ?_) (fun h2 => ?_)
   ·refine fin H (Same.refl H) ?_
    have:¬ (x.length:Int)<=6:=by simpa using h2
    rw [Hu]
    exact .inr (decide_eq_false (by omega))
   ·refine ⟨_,rfl,_,rfl,fun D hD => ?_⟩
    refine zb8 (capv := []) (L:=x.cps.toList.map sgn) (by rfl) (zfr x) (by rw [A1,zc6]; exact hx) hD ?_ (fun _=>true) (fun v=>match v with | .str y => .bl (small (y.cps.getD 0 0)) | _ => .non) ?_ ?_ ?_
    ·exact fun _ _=>trivial
    ·exact fun v hv H' R s' h=>h H' (Same.refl _)
    ·intro v hv _ H' R s' h
     obtain ⟨c,hc,rfl⟩:=A7.mp hv
     exact ⟨_,rfl,c,rfl,h H' (Same.refl _)⟩
    ·intro H' s' e
     refine ⟨_,x.cps.toList.map small,rfl,?_,?_⟩
     ·refine SqL.of ?_
      rw [e]
      congr 2
      rw [Bo.mpr (fun _ _=>rfl),B5,B5]
      rfl
     ·have:=q H' s'
      unfold isName at this
      have h3:¬ ¬ (x.length:Int)<=6:=by simpa using h2
      have h1':(1:Int)<=x.length:=by simpa using h1
      rw [decide_eq_true (show 1<=x.length by omega),decide_eq_true (show x.length<=6 by omega)] at this
      rw [Je]
      exact this
  ·refine ⟨_,rfl,?_⟩
   refine fin H (Same.refl H) ?_
   have h1':¬ (1:Int)<=x.length:=by simpa using h1
   rw [Hu]
   exact .inl (decide_eq_false (by omega))
noncomputable def sp_teeth (K:At):Sp:=fun vs H Q _=>∃ (a:A3) (ts:List Int),vs = [.ref a]/\SqL K H a (ts.map V.int)/\ts.length<=1000/\∀ H',Same H H'->Q (.bl (areTeeth ts)) H'
theorem zdj:FnScope ["teeth"] ["teeth"] (defScope s_are_teeth):=⟨rfl,rfl,rfl,by decide +kernel,rfl,by decide +kernel,by decide +kernel⟩
theorem ok_teeth (D:DefAt K mg "are_teeth" s_are_teeth) (T:Bn mg) (V_MOST_TOOTH:∃ t,mg "MOST_TOOTH" = some (.int 7 t)):Callee P w K mg base "are_teeth" 1 ["teeth"] (sp_teeth K):=by
 refine D.callee zdj (fun _ _ _ _ _ _=>ln1 fun _=>rfl) (fun vs H Q E h => ?_) (fun f cdv A outer s H vs Q E hr h => ?_)
 ·obtain ⟨a,ts,rfl,_⟩:=h
  rfl
 ·obtain ⟨a,ts,rfl,ha,hl,q⟩:=h
  have S:=zdj
  unfold areTeeth at q
  refine ⟨_,zab (zaF (zap zb4 (zac) (pv 0) (by with_unfolding_all rfl))
   (zae (zai (zbJ)))
   (zan))
  (zab (zaF (zap zfO (zal call_lenS rfl T.n_len Bw (zaa (zbn (call_set1 rfl) rfl T.n_set boot_set (zaa (pv 0) zad)) zad)) (zal zar rfl T.n_len Bw (zaa (pv 0) zad)) (zav _))
   (zae (zai (zbJ)))
   (zan))
  (zae (zai (zal (zeZ rfl) rfl T.n_all P9 (zaa (zaM (own := ["tooth"]) (caps := []) rfl ⟨rfl,rfl,rfl,rfl,trivial⟩ (zau (pv 0)) (fun _ _ _ _ _ _=>zak (i:=0) (zaK (by decide +kernel)) rfl (Aj rfl)) (fun _ _ _ _ _ _=>za2) (fun _ _ _ _ _ _=>zgu zdK zdK (zac) (pv 0) (zbO rfl V_MOST_TOOTH))) zad))))),?_⟩
  refine ⟨_,rfl,_,_,rfl,.inl ha,rfl,zhN ts,_,rfl,?_⟩
  rw [if_pos rfl,in_zero]
  refine ite2 (fun hc => ?_) (fun hc => ?_)
  ·have h0:decide (0∈ts)=false:=by simpa using hc
   rw [h0] at q
   exact q H (Same.refl H)
  ·have h0:decide (0∈ts)=true:=by simpa using hc
   rw [h0,Eg] at q
   refine ⟨_,rfl,_,ts,rfl,ha,?_,fun p np => ?_⟩
   ·show ts.length + 1 < 4096
    omega
   have s1:Same H (upd H p (.set (fun k=>(firstMet (fun i=>ts.getD i 0) ts.length).any (· == k)) (many ts))):=Same.new np
   refine ⟨_,_,_,rfl,upd_same,_,rfl,_,_,rfl,.inl (s1.seq ha),rfl,_,rfl,?_⟩
   rw [A1]
   refine ite2 (fun hm => ?_) (fun hm => ?_)
   ·have h1:¬ many ts=ts.length:=fun z=>by simp [z] at hm
    rw [decide_eq_false h1,El] at q
    exact q _ s1
   ·have h1:many ts=ts.length:=by
     have:(many ts:Int)=(ts.length:Int):=by simpa using hm
     omega
    rw [decide_eq_true h1,Eg] at q
    refine ⟨_,rfl,_,rfl,⟨_,s1.seq ha⟩,fun D hD => ?_⟩
    refine zb8 (capv := []) (L:=ts.map V.int) (by rfl) (zaj K a (ts.map V.int)) (by rw [A1]; exact big hl) hD ?_ (fun _=>true) (fun v=>match v with | .int t => .bl (inR t) | _ => .non) ?_ ?_ ?_
    ·exact fun H' s'=>(s1.trans s').seq ha
    ·exact fun v hv H' R s' h=>h H' (Same.refl _)
    ·intro v hv _ H' R s' h
     obtain ⟨t,ht,rfl⟩:=A7.mp hv
     have h:=h H' (Same.refl _)
     have h:R (.bl (decide (0<=t) && decide (t<=7))) H':=h
     refine ⟨_,rfl,_,_,rfl,rfl,_,rfl,?_⟩
     cases e:decide (0<=t) with
     | false =>
      rw [e] at h
      exact iteF h
     | true =>
      rw [e] at h
      exact iteT ⟨_,_,rfl,rfl,h⟩
    ·intro H' s' e
     refine ⟨_,ts.map inR,rfl,?_,?_⟩
     ·refine SqL.of ?_
      rw [e]
      congr 2
      rw [Bo.mpr (fun _ _=>rfl),B5,B5]
      rfl
     ·have:=q H' (s1.trans s')
      rw [Je]
      exact this
theorem zbP {d l:V}:([("combs",d),("past",l)]:List (Str×V)).lookup (A2 "combs")=some d:=rfl
theorem zcw {d l:V}:([("combs",d),("past",l)]:List (Str×V)).lookup (A2 "past")=some l:=rfl
theorem zei {y d l:V}:putF (A2 "combs") y [("combs",d),("past",l)] = [(A2 "combs",y),(A2 "past",l)]:=by
 unfold putF
 rw [if_pos rfl]
theorem putF_new {y:V}:putF (A2 "combs") y [] = [(A2 "combs",y)]:=rfl
theorem putF_past {y d:V}:putF (A2 "past") y [("combs",d)] = [(A2 "combs",d),(A2 "past",y)]:=by
 have h:¬ (A2 "combs" = A2 "past"):=by decide +kernel
 unfold putF
 rw [if_neg h]
 rfl
theorem zgW {a b:Str×V} : [a,b].length < 1000:=show 2 < 1000 by decide
noncomputable def sp_check (ea:Nat->A3) (C:A3):Sp:=fun vs H Q E=>∃ b l G cs past x,vs = [.ref b,.str x]/\Bk C G H b l cs past/\(if (cGet cs x).isSome=true then Q .non H else E (.ref (ea 4)) none H)
theorem zbF:FnScope ["self","name"] ["self","name"] (defScope s_Book_check_comb):=⟨rfl,rfl,rfl,by decide +kernel,rfl,by decide +kernel,by decide +kernel⟩
theorem ok_check {ea:Nat->A3} {C:A3} (D:MethAt K C "Book" "check_comb" s_Book_check_comb) (T:Bn mg) (BA:BookAt K C) (O_NoComb:Err K mg "NoComb" (ea 4)):Method P w K mg base C "check_comb" (CX1 P w) 1 ["self","name"] (sp_check ea C):=by
 refine D.meth1 zbF (fun _ _ _ _ _ _=>ln2 fun _ _=>rfl) (fun vs H Q E h => ?_) (fun f cdv A outer s H vs Q E hr h => ?_)
 ·obtain ⟨b,l,G,cs,past,x,rfl,_⟩:=h
  rfl
 ·obtain ⟨b,l,G,cs,past,x,rfl,B,q⟩:=h
  have S:=zbF
  have hu:=zck hr
  obtain ⟨dx,d,hb,gd,kvs,hd,kr⟩:=B.ins
  refine ⟨_,zae (zaF (zfd (zcW hu (pv 1) (zbG (pv 0) rfl)))
   (zae (za9 O_NoComb rfl (zaa (zaP) zad)))
   (zan)),?_⟩
  refine ⟨_,rfl,_,rfl,_,_,_,_,_,rfl,hb,BA.cls,BA.nc,zbP,d,_,rfl,DGet.k (k:=D8 x) hd,_,rfl,?_⟩
  rw [kr.some]
  cases e:(cGet cs x).isSome with
  | false =>
   rw [e] at q
   exact iteT ⟨bigr rfl,q⟩
  | true =>
   rw [e] at q
   exact iteF q
noncomputable def sp_do (ea:Nat->A3) (C:A3):Sp:=fun vs H Q E=>∃ b l G cs past d D cs',vs = [.ref b,.ref d]/\Bk C G H b l cs past/\DictR D H d cs'/\Good cs'/\(∀ x,D x->x≠b/\x≠l/\H x≠none) /\
 (if 300<=past.length then E (.ref (ea 9)) none H else ∀ H',(∀ a,a≠b->a≠l->H' a=H a)->Bk C (fun a=>G a\/D a) H' b l cs' (past ++ [cs])->Q (.int ((past.length:Int) + 1)) H')
theorem zb3:FnScope ["self","combs"] ["self","combs"] (defScope s_Book_do_deed):=⟨rfl,rfl,rfl,by decide +kernel,rfl,by decide +kernel,by decide +kernel⟩
theorem ok_do {ea:Nat->A3} {C:A3} (D:MethAt K C "Book" "do_deed" s_Book_do_deed) (T:Bn mg) (BA:BookAt K C) (V_MOST_DEEDS:∃ t,mg "MOST_DEEDS" = some (.int 300 t)) (O_DeedsFull:Err K mg "DeedsFull" (ea 9)):Method P w K mg base C "do_deed" (CX1 P w) 1 ["self","combs"] (sp_do ea C):=by
 refine D.meth1 zb3 (fun _ _ _ _ _ _=>ln2 fun _ _=>rfl) (fun vs H Q E h => ?_) (fun f cdv A outer s H vs Q E hr h => ?_)
 ·obtain ⟨b,l,G,cs,past,d,D,cs',rfl,_⟩:=h
  rfl
 ·obtain ⟨b,l,G,cs,past,d1,Dd,cs',rfl,B,dr,gd',nD,q⟩:=h
  have S:=zb3
  have hu:=zck hr
  obtain ⟨dx,d,hb,dr0⟩:=B.ins
  obtain ⟨vs,hl,pr⟩:=B.lst
  have hlen:=pr.length
  have hbl:b≠l:=zhL hb hl (by intro z; cases z)
  refine ⟨_,zab (zaF (zap zil (zal zar rfl T.n_len Bw (zaa (zbG (pv 0) rfl) zad)) (zbO rfl V_MOST_DEEDS) (zav _))
   (zae (za9 O_DeedsFull rfl (zaa (zaP) zad)))
   (zan))
  (zab (zaJ (zcV Bg Bm Bl zaH (zbG (pv 0) rfl) (zaa (zbG (pv 0) rfl) zad)))
  (zab (zgr (pv 0) (pv 1) rfl)
  (zae (zai (zal zar rfl T.n_len Bw (zaa (zbG (pv 0) rfl) zad)))))),?_⟩
  refine ⟨_,rfl,_,_,_,_,_,rfl,hb,BA.cls,BA.np,zcw,_,_,rfl,.inl (SqL.of hl),_,_,rfl,rfl,_,rfl,?_⟩
  refine ite2 (fun hc => ?_) (fun hc => ?_)
  ·have h300:300<=past.length:=by
    have:(300:Int)<=(vs.length:Int):=by simpa using hc
    omega
   rw [if_pos h300] at q
   exact ⟨bigr rfl,q⟩
  ·have h300:¬ 300<=past.length:=by
    have:¬ (300:Int)<=(vs.length:Int):=by simpa using hc
    omega
   rw [if_neg h300] at q
   refine ⟨_,rfl,_,_,_,_,_,rfl,hb,BA.cls,BA.np,zcw,.inl ⟨rfl,_,SqL.of hl⟩,_,rfl,_,_,_,_,_,rfl,hb,BA.cls,BA.nc,zbP,_,_,_,rfl,rfl,hl,?_,?_⟩
   ·exact Ae (by omega:vs.length < 1000) zaO
   have hb1:upd H l (.lst (vs ++ [.ref d])) b=some (.ins C dx [("combs",.ref d),("past",.ref l)]):=by rw [zaf hbl]; exact hb
   refine ⟨_,rfl,_,rfl,_,_,_,_,rfl,hb1,BA.cls,BA.nc,zgW,?_⟩
   rw [zei]
   have hb2:upd (upd H l (.lst (vs ++ [.ref d]))) b (.ins C dx [("combs",.ref d1),("past",.ref l)]) b=some (.ins C dx [("combs",.ref d1),("past",.ref l)]):=upd_same
   have hl2:upd (upd H l (.lst (vs ++ [.ref d]))) b (.ins C dx [("combs",.ref d1),("past",.ref l)]) l=some (.lst (vs ++ [.ref d])):=by rw [zaf (Dm hbl),upd_same]
   have off:∀ a,a≠b->a≠l->upd (upd H l (.lst (vs ++ [.ref d]))) b (.ins C dx [("combs",.ref d1),("past",.ref l)]) a=H a:=fun a n1 n2=>by rw [zaf n1,zaf n2]
   generalize upd (upd H l (.lst (vs ++ [.ref d]))) b (.ins C dx [("combs",.ref d1),("past",.ref l)])=H2 at hb2 hl2 off
   refine ⟨_,rfl,_,_,_,_,_,rfl,hb2,BA.cls,BA.np,zcw,_,_,rfl,.inl (SqL.of hl2),?_⟩
   rw [Ab,Bf,hlen]
   have sG:∀ a o,G a->H a=some o->H2 a=some o:=fun a o g e=>(off a (fun z=>B.nb (z ▸ g)) (fun z=>B.nl (z ▸ g))).trans e
   have sD:∀ a o,Dd a->H a=some o->H2 a=some o:=fun a o g e=>(off a (nD a g).1 (nD a g).2.1).trans e
   refine q H2 off ⟨?_,?_,?_,⟨dx,d1,hb2,dr.mono sD fun _ g => .inr g⟩,⟨_,hl2,?_⟩,gd',?_,?_⟩
   ·rintro x (g | g)
    ·rw [off x (fun z=>B.nb (z ▸ g)) (fun z=>B.nl (z ▸ g))]; exact B.live x g
    ·rw [off x (nD x g).1 (nD x g).2.1]; exact (nD x g).2.2
   ·rintro (g | g)
    ·exact B.nb g
    ·exact (nD b g).1 rfl
   ·rintro (g | g)
    ·exact B.nl g
    ·exact (nD l g).2.1 rfl
   ·exact F8 (Jk (fun _ _ ⟨d,e,r⟩=>⟨d,e,r.mono sG fun _ g => .inl g⟩) pr) ⟨d,rfl,dr0.mono sG fun _ g => .inl g⟩
   ·intro p hp
    rcases An.mp hp with z | z
    ·exact B.goods p z
    ·rw [A5.mp z]; exact B.good
   ·rw [Ab,Bf]; omega
noncomputable def sp_deeds (C:A3):Sp:=fun vs H Q _=>∃ b l G cs past,vs = [.ref b]/\Bk C G H b l cs past/\Q (.int (past.length:Int)) H
theorem zcR:FnScope ["self"] ["self"] (defScope s_Book_deeds):=⟨rfl,rfl,rfl,by decide +kernel,rfl,by decide +kernel,by decide +kernel⟩
theorem ok_deeds {C:A3} (D:MethAt K C "Book" "deeds" s_Book_deeds) (T:Bn mg) (BA:BookAt K C):Method P w K mg base C "deeds" CX0 1 ["self"] (sp_deeds C):=by
 refine D.meth0 zcR (fun _ _ _ _ _ _=>ln1 fun _=>rfl) (fun vs H Q E h => ?_) (fun f cdv A outer s H vs Q E hr h => ?_)
 ·obtain ⟨b,l,G,cs,past,rfl,_⟩:=h
  rfl
 ·obtain ⟨b,l,G,cs,past,rfl,B,q⟩:=h
  have S:=zcR
  obtain ⟨dx,d,hb,dr0⟩:=B.ins
  obtain ⟨vs,hl,pr⟩:=B.lst
  refine ⟨_,zae (zai (zal zar rfl T.n_len Bw (zaa (zbG (pv 0) rfl) zad))),?_⟩
  refine ⟨_,rfl,_,_,_,_,_,rfl,hb,BA.cls,BA.np,zcw,_,_,rfl,.inl (SqL.of hl),?_⟩
  rw [pr.length]
  exact q
noncomputable def sp_names (C:A3):Sp:=fun vs H Q _=>∃ b l G cs past,vs = [.ref b]/\Bk C G H b l cs past/\∀ p (nm:List Str),H p=none->nm.Perm (cs.map (·.1))->sortedS nm=true->Q (.ref p) (upd H p (.lst (nm.map V.str)))
theorem zcQ:FnScope ["self"] ["self"] (defScope s_Book_names):=⟨rfl,rfl,rfl,by decide +kernel,rfl,by decide +kernel,by decide +kernel⟩
theorem ok_names {C:A3} (D:MethAt K C "Book" "names" s_Book_names) (T:Bn mg) (BA:BookAt K C):Method P w K mg base C "names" CX0 1 ["self"] (sp_names C):=by
 refine D.meth0 zcQ (fun _ _ _ _ _ _=>ln1 fun _=>rfl) (fun vs H Q E h => ?_) (fun f cdv A outer s H vs Q E hr h => ?_)
 ·obtain ⟨b,l,G,cs,past,rfl,_⟩:=h
  rfl
 ·obtain ⟨b,l,G,cs,past,rfl,B,q⟩:=h
  have S:=zcQ
  obtain ⟨dx,d,hb,gd,kvs,hd,kr⟩:=B.ins
  refine ⟨_,zae (zai (zal (call_sortedD rfl) rfl T.n_sorted J8 (zaa (zbG (pv 0) rfl) zad))),?_⟩
  refine ⟨_,rfl,_,_,_,_,_,rfl,hb,BA.cls,BA.nc,zbP,d,kvs,cs.map (·.1),rfl,.inl hd,kr.keys,?_,q⟩
  rw [A1]
  have:=B.good.len
  omega
noncomputable def sp_bteeth (ea:Nat->A3) (C:A3):Sp:=fun vs H Q E=>∃ b l G cs past x,vs = [.ref b,.str x]/\Bk C G H b l cs past/\(match cGet cs x with | some ts=>∀ p,H p=none->Q (.ref p) (upd H p (.lst (ts.map V.int))) | none=>E (.ref (ea 4)) none H)
theorem zcP:FnScope ["self","name"] ["self","name"] (defScope s_Book_teeth):=⟨rfl,rfl,rfl,by decide +kernel,rfl,by decide +kernel,by decide +kernel⟩
theorem ok_bteeth {ea:Nat->A3} {C:A3} (D:MethAt K C "Book" "teeth" s_Book_teeth) (T:Bn mg) (BA:BookAt K C) (M_check_comb:Method P w K mg base C "check_comb" (CX1 P w) 1 ["self","name"] (sp_check ea C)):Method P w K mg base C "teeth" (CX1 P w) 2 ["self","name"] (sp_bteeth ea C):=by
 refine D.meth1 zcP (fun _ _ _ _ _ _=>ln2 fun _ _=>rfl) (fun vs H Q E h => ?_) (fun f cdv A outer s H vs Q E hr h => ?_)
 ·obtain ⟨b,l,G,cs,past,x,rfl,_⟩:=h
  rfl
 ·obtain ⟨b,l,G,cs,past,x,rfl,B,q⟩:=h
  have S:=zcP
  have hu:=zck hr
  have B_cls:=BA.cls
  obtain ⟨dx,d,hb,gd,kvs,hd,kr⟩:=id B.ins
  refine ⟨_,zab (zaJ (zfN (pv 0) B_cls M_check_comb (hr.mono (by decide)) (by first | exact zdI | exact pass_try | exact zbb | exact zay) (zaa (pv 1) zad)))
  (zae (zai (zbn zbI rfl T.n_list Hv (zaa (zdb hu (zbG (pv 0) rfl) (pv 1) (fun _ _=>rfl)) zad)))),?_⟩
  refine ⟨_,rfl,_,_,_,rfl,hb,rfl,_,rfl,b,l,G,cs,past,x,rfl,B,?_⟩
  rcases kr.val (x:=x) with ⟨e1,e2⟩ | ⟨ts,t,e1,e2,e3,e4⟩
  ·rw [e1] at q ⊢
   exact q
  ·rw [e1] at q ⊢
   refine iteT ?_
   refine ⟨_,rfl,_,_,_,_,_,rfl,hb,BA.cls,BA.nc,zbP,_,rfl,d,_,rfl,?_,_,_,rfl,.inl (SqL.of e3),q⟩
   rw [<- e2]
   exact DGet.k (k:=D8 x) hd
noncomputable def sp_init (C:A3):Sp:=fun vs H Q _=>∃ b dx,vs = [.ref b]/\H b=some (.ins C dx [])/\∀ H' l d,Mv b b (fun _=>False) (fun a=>a=d) H H'->H l=none->H d=none->Bk C (fun a=>a=d) H' b l [] []->Q .non H'
theorem zbZ:FnScope ["self"] ["self"] (defScope s_Book___init__):=⟨rfl,rfl,rfl,by decide +kernel,rfl,by decide +kernel,by decide +kernel⟩
theorem ok_init {C:A3} {f:A3} {fd:Ej} (F:Fun K "__init__" "Book.__init__" s_Book___init__ f fd) (T:Bn mg) (BA:BookAt K C):FnOk P w K mg base CX0 1 f fd ["self"] (sp_init C):=by
 refine F.ok zbZ (fun vs H Q E h => ?_) (fun cdv A outer s H vs Q E hr h => ?_)
 ·obtain ⟨b,dx,rfl,_⟩:=h
  rfl
 ·obtain ⟨b,dx,rfl,hb,q⟩:=h
  have S:=zbZ
  refine ⟨_,zab (zgr (pv 0) (zdr) rfl)
  (zae (zgr (pv 0) (zaB (zad)) rfl)),?_⟩
  refine fun d nd => ?_
  have hbd:b≠d:=zao hb nd
  have hb1:upd H d (.dK []) b=some (.ins C dx []):=by rw [zaf hbd]; exact hb
  refine ⟨_,rfl,_,_,_,_,rfl,hb1,BA.cls,BA.nc,by decide,?_⟩
  rw [putF_new]
  refine ⟨bigr rfl,fun l nl => ?_⟩
  have hbl:b≠l:=fun z=>by rw [<- z,upd_same] at nl; cases nl
  have nl1:upd H d (.dK []) l=none:=by rw [zaf (Dm hbl)] at nl; exact nl
  have hdl:d≠l:=fun z=>by rw [<- z,upd_same] at nl1; cases nl1
  have hln:H l=none:=by rw [zaf (Dm hdl)] at nl1; exact nl1
  have hb2:upd (upd (upd H d (.dK [])) b (.ins C dx [(A2 "combs",V.ref d)])) l (.lst []) b=some (.ins C dx [("combs",.ref d)]):=by rw [zaf hbl,upd_same]
  refine ⟨_,rfl,_,_,_,_,rfl,hb2,BA.cls,BA.np,(show 1 < 1000 by decide),?_⟩
  rw [putF_past]
  have hb3:upd (upd (upd (upd H d (.dK [])) b (.ins C dx [(A2 "combs",V.ref d)])) l (.lst [])) b (.ins C dx [(A2 "combs",V.ref d),(A2 "past",V.ref l)]) b=some (.ins C dx [("combs",.ref d),("past",.ref l)]):=upd_same
  have hd3:upd (upd (upd (upd H d (.dK [])) b (.ins C dx [(A2 "combs",V.ref d)])) l (.lst [])) b (.ins C dx [(A2 "combs",V.ref d),(A2 "past",V.ref l)]) d=some (.dK []):=by
   rw [zaf (Dm hbd),zaf hdl,zaf (Dm hbd),upd_same]
  have hl3:upd (upd (upd (upd H d (.dK [])) b (.ins C dx [(A2 "combs",V.ref d)])) l (.lst [])) b (.ins C dx [(A2 "combs",V.ref d),(A2 "past",V.ref l)]) l=some (.lst []):=by
   rw [zaf (Dm hbl),upd_same]
  have off:∀ a o,H a=some o->a≠b->upd (upd (upd (upd H d (.dK [])) b (.ins C dx [(A2 "combs",V.ref d)])) l (.lst [])) b (.ins C dx [(A2 "combs",V.ref d),(A2 "past",V.ref l)]) a=some o:=fun a o e n=>by
   rw [zaf n,zaf (zao e hln),zaf n,zaf (zao e nd)]; exact e
  generalize upd (upd (upd (upd H d (.dK [])) b (.ins C dx [(A2 "combs",V.ref d)])) l (.lst [])) b (.ins C dx [(A2 "combs",V.ref d),(A2 "past",V.ref l)])=H3 at hb3 hd3 hl3 off
  refine q H3 l d ⟨fun a o e n _=>off a o e n,fun a h => ?_,fun a g => .inr (by rw [g]; exact nd)⟩ hln nd ⟨fun x g => ?_,hbd,fun z=>hdl z.symm,⟨dx,d,hb3,rfl,[],hd3,.nil⟩,⟨[],hl3,.nil⟩,good_nil,by simp,by decide⟩
  ·by_cases z:a=b
   ·rw [z,hb3]; simp
   ·cases e:H a with
    | none=>exact absurd e h
    | some o=>rw [off a o e z]; simp
  ·rw [show x=d from g,hd3]; simp
noncomputable def sp_set (ea:Nat->A3) (C:A3):Sp:=fun vs H Q E=>∃ b l G cs past x a ts,vs = [.ref b,.str x,.ref a]/\Bk C G H b l cs past/\SqL K H a (ts.map V.int)/\areTeeth ts=true/\isName x=true/\(cs.length < 8\/(cGet cs x).isSome=true)/\Deed ea C G H b l cs past Q E (full past (cPut cs x (canon ts)))
theorem zbY:FnScope ["self","name","teeth","combs"] ["self","name","teeth"] (defScope s_Book_set_comb):=⟨rfl,rfl,rfl,by decide +kernel,rfl,by decide +kernel,by decide +kernel⟩
theorem ok_set {ea:Nat->A3} {C:A3} (D:MethAt K C "Book" "set_comb" s_Book_set_comb) (T:Bn mg) (BA:BookAt K C) (M_do_deed:Method P w K mg base C "do_deed" (CX1 P w) 1 ["self","combs"] (sp_do ea C)):Method P w K mg base C "set_comb" (CX1 P w) 2 ["self","name","teeth"] (sp_set (K:=K) ea C):=by
 refine D.meth1 zbY (fun _ _ _ _ _ _=>ln3 fun _ _ _=>rfl) (fun vs H Q E h => ?_) (fun f cdv A outer s H vs Q E hr h => ?_)
 ·obtain ⟨b,l,G,cs,past,x,a,ts,rfl,_⟩:=h
  rfl
 ·obtain ⟨b,l,G,cs,past,x,a,ts,rfl,B,ha,ht,hx,hn,q⟩:=h
  have S:=zbY
  have hu:=zck hr
  have B_cls:=BA.cls
  obtain ⟨t0,tn,tr⟩:=teeth_iff.mp ht
  obtain ⟨dx,d,hb,gd,kvs,hd,kr⟩:=id B.ins
  refine ⟨_,zab (zah (i:=3) S.nd rfl (Aj rfl) (zbn call_dictD rfl T.n_dict boot_dict (zaa (zbG (pv 0) rfl) zad)))
  (zab (zcr hu (pv 3) (pv 1) (zal zb9 rfl T.n_sorted J8 (zaa (pv 2) zad)) rfl)
  (zae (zai (zfN (pv 0) B_cls M_do_deed (hr.mono (by decide)) (by first | exact zdI | exact pass_try | exact zbb | exact zay) (zaa (pv 3) zad))))),?_⟩
  refine ⟨_,rfl,_,_,_,_,_,rfl,hb,BA.cls,BA.nc,zbP,d,kvs,rfl,.inl hd,fun p np => ?_⟩
  have s1:Same H (upd H p (.dK kvs)):=Same.new np
  refine ⟨_,rfl,a,ts,rfl,s1.seq ha,?_,fun r ns nr hp hs => ?_⟩
  ·have:=zdy tn tr
   omega
  have hc:=zdv hp hs tn tr
  subst hc
  have npr:p≠r:=fun z=>by rw [<- z,upd_same] at nr; cases nr
  have hr0:H r=none:=s1.free nr
  have s2:Same H (upd (upd H p (.dK kvs)) r (.lst ((canon ts).map V.int))):=s1.put hr0
  have hp2:upd (upd H p (.dK kvs)) r (.lst ((canon ts).map V.int)) p=some (.dK kvs):=by rw [zaf npr,upd_same]
  have hkl:kvs.length < sizeLine:=by
   have:=kr.length
   have:=B.good.len
   exact Ae (by omega:kvs.length < 1000) zaO
  refine ⟨_,rfl,_,rfl,p,_,rfl,DPut.k (k:=D8 x) hp2 hkl,?_⟩
  have s3:Same H (upd (upd (upd H p (.dK kvs)) r (.lst ((canon ts).map V.int))) p (.dK (putK kvs (D8 x) (.ref r)))):=s2.put np
  have hr3:upd (upd (upd H p (.dK kvs)) r (.lst ((canon ts).map V.int))) p (.dK (putK kvs (D8 x) (.ref r))) r=some (.lst ((canon ts).map V.int)):=by rw [zaf (Dm npr),upd_same]
  have hp3:upd (upd (upd H p (.dK kvs)) r (.lst ((canon ts).map V.int))) p (.dK (putK kvs (D8 x) (.ref r))) p=some (.dK (putK kvs (D8 x) (.ref r))):=upd_same
  generalize upd (upd (upd H p (.dK kvs)) r (.lst ((canon ts).map V.int))) p (.dK (putK kvs (D8 x) (.ref r)))=H3 at s3 hr3 hp3
  have B3:=B.same s3
  obtain ⟨lb,ll⟩:=B.liveB
  refine ⟨_,rfl,b,dx,_,rfl,s3 _ _ hb,rfl,_,rfl,b,l,G,cs,past,p,fun a=>G a\/a=p\/a=r,cPut cs x (canon ts),rfl,B3,⟨.inr (.inl rfl),_,hp3,?_⟩,B.good.put hx (zgI t0) hn,?_,?_⟩
  ·exact (kr.mono (fun a o _ e=>s3 a o e) fun _ g => .inl g).put hr3 (.inr (.inr rfl))
  ·rintro y (g | g | g)
   ·exact ⟨fun z=>B.nb (z ▸ g),fun z=>B.nl (z ▸ g),B3.live y g⟩
   ·subst g
    exact ⟨fun z=>lb (z ▸ np),fun z=>ll (z ▸ np),by rw [hp3]; simp⟩
   ·subst g
    exact ⟨fun z=>lb (z ▸ hr0),fun z=>ll (z ▸ hr0),by rw [hr3]; simp⟩
  ·unfold full at q
   by_cases h3:300<=past.length
   ·rw [if_pos h3] at q ⊢
    exact q H3 s3
   ·rw [if_neg h3] at q ⊢
    intro H4 off B4
    refine q H4 _ ⟨fun a o e n1 n2=>(off a n1 n2).trans (s3 a o e),fun a h => ?_,fun a g => ?_⟩ B4
    ·obtain ⟨lb4,ll4⟩:=B4.liveB
     by_cases z:a=b
     ·rw [z]; exact lb4
     ·by_cases z2:a=l
      ·rw [z2]; exact ll4
      ·rw [off a z z2]; exact zfj s3 a h
    ·rcases g with g | g | g | g
     ·exact .inl g
     ·exact .inl g
     ·rw [g]; exact .inr np
     ·rw [g]; exact .inr hr0
noncomputable def sp_put (ea:Nat->A3) (C:A3):Sp:=fun vs H Q E=>∃ b l G cs past x a ts,vs = [.ref b,.str x,.ref a]/\Bk C G H b l cs past/\SqL K H a (ts.map V.int)/\x.length<=sizeLine/\ts.length<=1000/\Deed ea C G H b l cs past Q E (putD cs past x ts)
theorem zdD:FnScope ["self","name","teeth"] ["self","name","teeth"] (defScope s_Book_put):=⟨rfl,rfl,rfl,by decide +kernel,rfl,by decide +kernel,by decide +kernel⟩
theorem ok_put {ea:Nat->A3} {C:A3} (D:MethAt K C "Book" "put" s_Book_put) (T:Bn mg) (BA:BookAt K C) (V_MOST_COMBS:∃ t,mg "MOST_COMBS" = some (.int 8 t)) (O_BadName:Err K mg "BadName" (ea 0)) (O_BadTeeth:Err K mg "BadTeeth" (ea 1)) (O_NameTaken:Err K mg "NameTaken" (ea 2)) (O_BookFull:Err K mg "BookFull" (ea 3))
  (C_is_name:Callee P w K mg base "is_name" 2 ["text"] sp_name) (C_are_teeth:Callee P w K mg base "are_teeth" 1 ["teeth"] (sp_teeth K)) (M_set_comb:Method P w K mg base C "set_comb" (CX1 P w) 2 ["self","name","teeth"] (sp_set (K:=K) ea C)):Method P w K mg base C "put" (CX1 P w) 3 ["self","name","teeth"] (sp_put (K:=K) ea C):=by
 refine D.meth1 zdD (fun _ _ _ _ _ _=>ln3 fun _ _ _=>rfl) (fun vs H Q E h => ?_) (fun f cdv A outer s H vs Q E hr h => ?_)
 ·obtain ⟨b,l,G,cs,past,x,a,ts,rfl,_⟩:=h
  rfl
 ·obtain ⟨b,l,G,cs,past,x,a,ts,rfl,B,ha,hxl,htl,q⟩:=h
  have S:=zdD
  have hu:=zck hr
  have B_cls:=BA.cls
  unfold putD at q
  refine ⟨_,zab (zaF (za8 (zbl (zaz C_is_name (hr.mono (by decide)) rfl (zaa (pv 1) zad))))
   (zae (za9 O_BadName rfl (zaa (zaP) zad)))
   (zan))
  (zab (zaF (za8 (zbl (zaz C_are_teeth (hr.mono (by decide)) rfl (zaa (pv 2) zad))))
   (zae (za9 O_BadTeeth rfl (zaa (zaP) zad)))
   (zan))
  (zab (zaF (zfd (zhZ hu (pv 1) (zbG (pv 0) rfl)))
   (zae (za9 O_NameTaken rfl (zaa (zaP) zad)))
   (zan))
  (zab (zaF (zap zil (zal zfB rfl T.n_len Bw (zaa (zbG (pv 0) rfl) zad)) (zbO rfl V_MOST_COMBS) (zav _))
   (zae (za9 O_BookFull rfl (zaa (zaP) zad)))
   (zan))
  (zae (zai (zfN (pv 0) B_cls M_set_comb (hr.mono (by decide)) (by first | exact zdI | exact pass_try | exact zbb | exact zay) (zaa (pv 1) (zaa (pv 2) zad)))))))),?_⟩
  refine ⟨_,rfl,x,rfl,hxl,fun H1 s1=>⟨_,rfl,?_⟩⟩
  cases e1:isName x with
  | false =>
   rw [e1,if_pos rfl] at q
   exact iteT ⟨bigr rfl,q H1 s1⟩
  | true =>
   rw [e1,if_neg (by decide)] at q
   refine iteF ?_
   refine ⟨_,rfl,a,ts,rfl,s1.seq ha,htl,fun H2 s2=>⟨_,rfl,?_⟩⟩
   have s12:=s1.trans s2
   cases e2:areTeeth ts with
   | false =>
    rw [e2,if_pos rfl] at q
    exact iteT ⟨bigr rfl,q H2 s12⟩
   | true =>
    rw [e2,if_neg (by decide)] at q
    refine iteF ?_
    have B2:=B.same s12
    obtain ⟨dx,d,hb,gd,kvs,hd,kr⟩:=id B2.ins
    refine ⟨_,rfl,_,rfl,_,_,_,_,_,rfl,hb,BA.cls,BA.nc,zbP,d,_,rfl,DGet.k (k:=D8 x) hd,_,rfl,?_⟩
    rw [kr.some]
    cases e3:(cGet cs x).isSome with
    | true =>
     rw [e3,if_pos rfl] at q
     exact iteT ⟨bigr rfl,q H2 s12⟩
    | false =>
     rw [e3,if_neg (by decide)] at q
     refine iteF ?_
     refine ⟨_,rfl,_,_,_,_,_,rfl,hb,BA.cls,BA.nc,zbP,_,_,rfl,hd,_,_,rfl,rfl,_,rfl,?_⟩
     rw [kr.length]
     refine ite2 (fun hc => ?_) (fun hc => ?_)
     ·have h8:8<=cs.length:=by
       have:(8:Int)<=(cs.length:Int):=by simpa using hc
       omega
      rw [if_pos h8] at q
      exact ⟨bigr rfl,q H2 s12⟩
     ·have h8:¬ 8<=cs.length:=by
       have:¬ (8:Int)<=(cs.length:Int):=by simpa using hc
       omega
      rw [if_neg h8] at q
      exact ⟨_,rfl,b,dx,_,rfl,hb,rfl,_,rfl,_,rfl,b,l,G,cs,past,x,a,ts,rfl,B2,s12.seq ha,e2,e1,.inl (by omega),q.from s12⟩
noncomputable def sp_bundo (ea:Nat->A3) (C:A3):Sp:=fun vs H Q E=>∃ b l G cs past,vs = [.ref b]/\Bk C G H b l cs past/\((past = []/\E (.ref (ea 10)) none H)\/∃ ps p,past=ps ++ [p]/\∀ H',Mv b l G G H H'->Bk C G H' b l p ps->Q (.int (ps.length:Int)) H')
theorem zdJ {α β : Type} {R : α -> β -> Prop}:∀ {l:List α} {ps:List β} {p : β},Cw R l (ps ++ [p])->∃ l' a,l=l' ++ [a]/\Cw R l' ps/\R a p
 | _,[],p,.cons h .nil=>⟨[],_,rfl,.nil,h⟩
 | _,q :: ps,p,.cons h r=>by
  obtain ⟨l',a,e,r',ha⟩:=zdJ (ps:=ps) r
  exact ⟨_ :: l',a,by rw [e]; rfl,.cons h r',ha⟩
theorem zdk:FnScope ["self"] ["self"] (defScope s_Book_undo):=⟨rfl,rfl,rfl,by decide +kernel,rfl,by decide +kernel,by decide +kernel⟩
theorem ok_bundo {ea:Nat->A3} {C:A3} (D:MethAt K C "Book" "undo" s_Book_undo) (T:Bn mg) (BA:BookAt K C) (O_NothingDone:Err K mg "NothingDone" (ea 10)):Method P w K mg base C "undo" (CX1 P w) 1 ["self"] (sp_bundo ea C):=by
 refine D.meth1 zdk (fun _ _ _ _ _ _=>ln1 fun _=>rfl) (fun vs H Q E h => ?_) (fun f cdv A outer s H vs Q E hr h => ?_)
 ·obtain ⟨b,l,G,cs,past,rfl,_⟩:=h
  rfl
 ·obtain ⟨b,l,G,cs,past,rfl,B,q⟩:=h
  have S:=zdk
  have B_cls:=BA.cls
  obtain ⟨dx,d,hb,dr0⟩:=id B.ins
  obtain ⟨vs,hl,pr⟩:=id B.lst
  have hbl:b≠l:=zhL hb hl (by intro z; cases z)
  refine ⟨_,zab (zaF (zap zcj (zal zar rfl T.n_len Bw (zaa (zbG (pv 0) rfl) zad)) (zac) (zav _))
   (zae (za9 O_NothingDone rfl (zaa (zaP) zad)))
   (zan))
  (zab (zgr (pv 0) (zhY Bg Kp Ko zh3 (zbG (pv 0) rfl)) rfl)
  (zae (zai (zal zar rfl T.n_len Bw (zaa (zbG (pv 0) rfl) zad))))),?_⟩
  refine ⟨_,rfl,_,_,_,_,_,rfl,hb,BA.cls,BA.np,zcw,_,_,rfl,.inl (SqL.of hl),rfl,_,rfl,?_⟩
  rw [pr.length,zhC]
  rcases q with ⟨rfl,q⟩ | ⟨ps,p,rfl,q⟩
  ·exact iteT ⟨bigr rfl,q⟩
  ·have hn:decide (((ps ++ [p]).length:Int)=0)=false:=by
    rw [Ab,Bf]
    exact decide_eq_false (by omega)
   rw [hn]
   refine iteF ?_
   obtain ⟨vs',a,rfl,pr',d1,rfl,dr1⟩:=zdJ pr
   refine ⟨_,rfl,_,_,_,_,_,rfl,hb,BA.cls,BA.np,zcw,.inl ⟨rfl,_,SqL.of hl⟩,l,_,V.ref d1,rfl,rfl,hl,by simp,?_⟩
   rw [List.dropLast_concat]
   have hb1:upd H l (.lst vs') b=some (.ins C dx [("combs",.ref d),("past",.ref l)]):=by rw [zaf hbl]; exact hb
   refine ⟨_,rfl,b,C,dx,_,rfl,hb1,BA.cls,BA.nc,zgW,?_⟩
   rw [zei]
   have hb2:upd (upd H l (.lst vs')) b (.ins C dx [("combs",.ref d1),("past",.ref l)]) b=some (.ins C dx [("combs",.ref d1),("past",.ref l)]):=upd_same
   have hl2:upd (upd H l (.lst vs')) b (.ins C dx [("combs",.ref d1),("past",.ref l)]) l=some (.lst vs'):=by rw [zaf (Dm hbl),upd_same]
   have off:∀ a,a≠b->a≠l->upd (upd H l (.lst vs')) b (.ins C dx [("combs",.ref d1),("past",.ref l)]) a=H a:=fun a n1 n2=>by rw [zaf n1,zaf n2]
   generalize upd (upd H l (.lst vs')) b (.ins C dx [("combs",.ref d1),("past",.ref l)])=H2 at hb2 hl2 off
   refine ⟨_,rfl,_,_,_,_,_,rfl,hb2,BA.cls,BA.np,zcw,_,_,rfl,.inl (SqL.of hl2),?_⟩
   rw [pr'.length]
   have sG:∀ a o,G a->H a=some o->H2 a=some o:=fun a o g e=>(off a (fun z=>B.nb (z ▸ g)) (fun z=>B.nl (z ▸ g))).trans e
   refine q H2 ⟨fun a o e n1 n2=>(off a n1 n2).trans e,fun a h => ?_,fun a g => .inl g⟩ ⟨fun x g => ?_,B.nb,B.nl,⟨dx,d1,hb2,dr1.mono sG fun _ g=>g⟩,⟨vs',hl2,?_⟩,B.goods p (by simp),fun c hc=>B.goods c (C9 _ hc),?_⟩
   ·by_cases z:a=b
    ·rw [z,hb2]; simp
    ·by_cases z2:a=l
     ·rw [z2,hl2]; simp
     ·rw [off a z z2]; exact h
   ·rw [off x (fun z=>B.nb (z ▸ g)) (fun z=>B.nl (z ▸ g))]; exact B.live x g
   ·exact Jk (fun _ _ ⟨d,e,r⟩=>⟨d,e,r.mono sG fun _ g=>g⟩) pr'
   ·have:=B.few
    rw [Ab] at this
    omega
noncomputable def worths:List Int := [1,2,4,8,16,32,64,128]
theorem at_worths {t:Int} (h0:0<=t) (h7:t<=7):atI (worths.map V.int) t=some (.int (pw t)):=by
 have:t=0\/t=1\/t=2\/t=3\/t=4\/t=5\/t=6\/t=7:=by omega
 rcases this with h | h | h | h | h | h | h | h <;> subst h <;> rfl
noncomputable def sp_worth (K:At):Sp:=fun vs H Q _=>∃ (a:A3) (ts:List Int),vs = [.ref a]/\SqL K H a (ts.map V.int)/\(∀ t∈ts,0<=t/\t<=7)/\ts.length<=1000/\∀ H',Same H H'->Q (.int (worth ts)) H'
theorem zcn:FnScope ["teeth"] ["teeth"] (defScope s_teeth_worth):=⟨rfl,rfl,rfl,by decide +kernel,rfl,by decide +kernel,by decide +kernel⟩
theorem ok_worth {tw:A3} (D:DefAt K mg "teeth_worth" s_teeth_worth) (T:Bn mg) (G_TOOTH_WORTH:mg "TOOTH_WORTH" = some (.ref tw)) (HTW:∀ H,SqT K H tw (worths.map V.int)):Callee P w K mg base "teeth_worth" 1 ["teeth"] (sp_worth K):=by
 refine D.callee zcn (fun _ _ _ _ _ _=>ln1 fun _=>rfl) (fun vs H Q E h => ?_) (fun f cdv A outer s H vs Q E hr h => ?_)
 ·obtain ⟨a,ts,rfl,_⟩:=h
  rfl
 ·obtain ⟨a,ts,rfl,ha,hr7,hl,q⟩:=h
  have S:=zcn
  refine ⟨_,zae (zai (zal (zfA rfl) rfl T.n_sum boot_sum (zaa (zaM (own := ["tooth"]) (caps := []) rfl ⟨rfl,rfl,rfl,rfl,trivial⟩ (zau (pv 0)) (fun _ _ _ _ _ _=>zak (i:=0) (zaK (by decide +kernel)) rfl (Aj rfl)) (fun _ _ _ _ _ _=>za2) (fun _ _ _ _ _ _=>zat (zdW K rfl) (pe_cls rfl G_TOOTH_WORTH) (pv 0) (fun _ _=>rfl))) zad))),?_⟩
  refine ⟨_,rfl,_,rfl,⟨_,ha⟩,fun D hD => ?_⟩
  refine zb8 (capv := []) (L:=ts.map V.int) (by rfl) (zaj K a (ts.map V.int)) (by rw [A1]; exact big hl) hD ?_ (fun _=>true) (fun v=>match v with | .int t => .int (pw t) | _ => .non) ?_ ?_ ?_
  ·exact fun H' s'=>s'.seq ha
  ·exact fun v hv H' R s' h=>h H' (Same.refl _)
  ·intro v hv _ H' R s' h
   obtain ⟨t,ht,rfl⟩:=A7.mp hv
   have h:R (.int (pw t)) H':=h H' (Same.refl _)
   obtain ⟨h0,h7⟩:=hr7 t ht
   exact ⟨_,rfl,_,_,_,_,rfl,rfl,HTW H',at_worths h0 h7,h⟩
  ·intro H' s' e
   refine ⟨_,ts.map pw,rfl,?_,q H' s'⟩
   refine SqL.of ?_
   rw [e]
   congr 2
   rw [Bo.mpr (fun _ _=>rfl),B5,B5]
   rfl
noncomputable def sp_steps (ea:Nat->A3) (C:A3):Sp:=fun vs H Q E=>∃ b l G cs past n,vs = [.ref b,.int n]/\Bk C G H b l cs past /\
 (if 0<=n/\n < 128 then ∀ p H' ws,Same H H'->H p=none->H' p=some (.lst ws)->(∀ nm:List Str,nm.Perm (cs.map (·.1))->sortedS nm=true->StepsR H' ws (stepsOf (byNames cs nm) n))->Q (.ref p) H' else E (.ref (ea 11)) none H)
theorem zco:FnScope ["book","shape","steps","name","worth"] ["book","shape"] (defScope s_shape_steps):=⟨rfl,rfl,rfl,by decide +kernel,rfl,by decide +kernel,by decide +kernel⟩
theorem ok_steps {ea:Nat->A3} {C:A3} (D:DefAt K mg "shape_steps" s_shape_steps) (T:Bn mg) (BA:BookAt K C) (V_SHAPES:∃ t,mg "SHAPES" = some (.int 128 t)) (O_BadShape:Err K mg "BadShape" (ea 11)) (C_teeth_worth:Callee P w K mg base "teeth_worth" 1 ["teeth"] (sp_worth K))
  (M_names:Method P w K mg base C "names" CX0 1 ["self"] (sp_names C)) (M_teeth:Method P w K mg base C "teeth" (CX1 P w) 2 ["self","name"] (sp_bteeth ea C)):Callee1 P w K mg base "shape_steps" 3 ["book","shape"] (sp_steps ea C):=by
 refine D.callee1 zco (fun _ _ _ _ _ _=>ln2 fun _ _=>rfl) (fun vs H Q E h => ?_) (fun f cdv A outer s H vs Q E hr h => ?_)
 ·obtain ⟨b,l,G,cs,past,n,rfl,_⟩:=h
  rfl
 ·obtain ⟨b,l,G,cs,past,n,rfl,B,q⟩:=h
  have S:=zco
  have hu:=zck hr
  have B_cls:=BA.cls
  refine ⟨_,zab (zaF (za8 (zdq zdK ziq (zac) (pv 1) (zbO rfl V_SHAPES)))
   (zae (za9 O_BadShape rfl (zaa (zaP) zad)))
   (zan))
  (zab (zaF (zap zcj (zaw zbo (pv 1) (zac)) (zac) (zav _))
   (zae (zai (zaB (zaa (zbp (zaa (zaP) (zaa (zaw zb5 (pv 1) (zac)) zad))) zad))))
   (zan))
  (zab (zah (i:=2) S.nd rfl (Aj rfl) (zaB (zad)))
  (zab (zaZ L5 rfl (zau (zhX (pv 0) B_cls M_names (hr.mono (by decide)) (by first | exact zdI | exact pass_try | exact zbb | exact zay))) (zak (i:=3) S.nd rfl (Aj rfl))
   (zab (zah (i:=4) S.nd rfl (Aj rfl) (zaz C_teeth_worth (hr.mono (by decide)) rfl (zaa (zfN (pv 0) B_cls M_teeth (hr.mono (by decide)) (by first | exact zdI | exact pass_try | exact zbb | exact zay) (zaa (pv 3) zad)) zad)))
   (zae (zaF (zap zcj (zaw zh2 (pv 1) (pv 4)) (zac) (zav _))
    (zae (zaJ (zcV Bg Bm Bl zaH (pv 2) (zaa (zbp (zaa (pv 3) (zaa (zaw zb5 (zaw zbw (pv 1) (pv 4)) (zac)) zad))) zad))))
    (zan)))))
  (zae (zai (pv 2)))))),?_⟩
  refine ⟨_,rfl,_,_,rfl,rfl,_,rfl,?_⟩
  refine ite2 (fun h0 => ?_) (fun h0 => ?_)
  rotate_left
  ·have h0:¬ (0:Int)<=n:=by simpa using h0
   rw [if_neg (fun z=>h0 z.1)] at q
   exact ⟨_,rfl,iteT ⟨bigr rfl,q⟩⟩
  have h0:(0:Int)<=n:=by simpa using h0
  refine ⟨_,_,rfl,rfl,_,rfl,?_⟩
  by_cases h1:n < 128
  case neg =>
   rw [if_neg (fun z=>h1 z.2)] at q
   rw [decide_eq_false h1]
   exact iteT ⟨bigr rfl,q⟩
  rw [if_pos ⟨h0,h1⟩] at q
  rw [decide_eq_true h1]
  refine iteF ?_
  have p2:(0:Int) < 2:=by decide
  refine ⟨_,rfl,_,_,rfl,rfl,p2,rfl,_,rfl,?_⟩
  refine ite2 (fun hc => ?_) (fun hc => ?_)
  ·have hc:n % 2=1:=by simpa using hc
   refine ⟨_,rfl,_,_,rfl,rfl,⟨p2,by decide⟩,bigr rfl,fun t nt=>⟨bigr rfl,fun p np => ?_⟩⟩
   have s1:Same H (upd H t (.tup [.str "",.int (n / 2)])):=Same.new nt
   refine q p _ [.ref t] (s1.trans (Same.new np)) (s1.free np) upd_same fun nm _ _ => ?_
   rw [zcI hc]
   refine ⟨⟨t,rfl,?_⟩,trivial⟩
   rw [zaf (fun z=>by rw [<- z,upd_same] at np; cases np)]
   exact upd_same
  ·have hc:¬ n % 2=1:=by simpa using hc
   refine ⟨bigr rfl,fun pl npl => ?_⟩
   have s1:Same H (upd H pl (.lst [])):=Same.new npl
   obtain ⟨dx,d,hb,_⟩:=id (B.same s1).ins
   refine ⟨_,rfl,b,dx,_,rfl,hb,rfl,b,l,G,cs,past,rfl,B.same s1,fun pn nm npn hnp hns=>⟨_,rfl,⟨_,SqL.of upd_same⟩,?_⟩⟩
   have nlp:pn≠pl:=fun z=>by rw [z,upd_same] at npn; cases npn
   have s2:Same H (upd (upd H pl (.lst [])) pn (.lst (nm.map V.str))):=s1.trans (Same.new npn)
   have hnl:nm.length<=8:=by
    have:=hnp.length_eq
    rw [A1] at this
    have:=B.good.len
    omega
   refine zbA (zaj K pn (nm.map V.str)) (fun i σ Hx=>Same H Hx/\Hx pn=some (.lst (nm.map V.str))/\∃ ws x3 x4,σ = [some (.ref b),some (.int n),some (.ref pl),x3,x4]/\Hx pl=some (.lst ws)/\ws.length<=i/\StepsR Hx ws (stepsOf (byNames cs (nm.take i)) n)) ⟨s2,upd_same,[],_,_,rfl,(by rw [zaf nlp.symm]; exact upd_same),A9 _,?_⟩ (fun i σ Hx _ h=>SqL.of h.2.1) ?_ ?_
   ·rw [Nf]
    show StepsR _ [] (stepsOf [] n)
    rw [steps_nil hc]
    trivial
   ·rintro i x σ Hx hx ⟨sx,hpn,ws,x3,x4,rfl,hpl,hwl,hst⟩
    rw [Ad] at hx
    cases hk:nm[i]? with
    | none=>rw [hk] at hx; cases hx
    | some y =>
     rw [hk] at hx
     cases hx
     have hi:i < nm.length:=(Ah.mp hk).1
     have hy:y∈cs.map (·.1):=hnp.mem_iff.mp (Br hk)
     cases hts:cGet cs y with
     | none=>exact absurd hy (get_none.mp hts)
     | some ts =>
      have gts:GT ts:=(B.good.ok _ (zeV hts)).2
      obtain ⟨dx2,d2,hb2,_⟩:=id (B.same sx).ins
      refine ⟨_,rfl,b,dx2,_,rfl,hb2,rfl,_,rfl,b,l,G,cs,past,y,rfl,B.same sx,?_⟩
      rw [hts]
      intro p3 np3
      refine ⟨p3,ts,rfl,SqL.of upd_same,zb7 gts,by have:=zgH gts; omega,fun H4 s4 => ?_⟩
      have s34:Same Hx H4:=(Same.new np3).trans s4
      have eN:byNames cs (nm.take (i + 1))=byNames cs (nm.take i) ++ [(y,ts)]:=by
       rw [zaA hk,byNames_snoc hts]
      refine ⟨_,rfl,_,rfl,_,_,rfl,rfl,rfl,_,rfl,?_⟩
      refine ite2 (fun hz => ?_) (fun hz => ?_)
      ·have hz:Dn n (worth ts)=0:=by simpa using hz
       refine ⟨_,rfl,.inl ⟨rfl,_,SqL.of (s34 _ _ hpl)⟩,_,rfl,_,rfl,_,rfl,_,_,rfl,rfl,_,_,rfl,rfl,⟨p2,by decide⟩,bigr rfl,fun t nt => ?_⟩
       have s5:Same Hx (upd H4 t (.tup [.str y,.int ((n + worth ts) / 2)])):=s34.trans (Same.new nt)
       have nplt:t≠pl:=fun z=>by rw [z,s34 _ _ hpl] at nt; cases nt
       refine ⟨pl,_,_,rfl,rfl,s5 _ _ hpl,Ae (by omega:ws.length < 1000) zaO,?_⟩
       refine ⟨(sx.trans s5).put npl,(by rw [zaf nlp]; exact s5 _ _ hpn),_,_,_,rfl,upd_same,(by rw [Ab,Bf]; omega),?_⟩
       rw [eN,zea hc,if_pos hz]
       refine StepsR.snoc ?_ (hst.mono fun q' xs hq' => ?_)
       ·rw [zaf nplt]; exact upd_same
       ·have:q'≠pl:=fun z=>by rw [z,hpl] at hq'; cases hq'
        rw [zaf this]; exact s5 _ _ hq'
      ·have hz:¬ Dn n (worth ts)=0:=by simpa using hz
       refine ⟨sx.trans s34,s34 _ _ hpn,ws,_,_,rfl,s34 _ _ hpl,by omega,?_⟩
       rw [eN,zea hc,if_neg hz,Cq]
       exact hst.mono fun q' xs hq'=>s34 _ _ hq'
   ·rintro σ Hx ⟨sx,hpn,ws,x3,x4,rfl,hpl,hwl,hst⟩
    rw [A1,C6] at hst
    refine ⟨_,rfl,q pl Hx ws sx npl hpl fun nm' hp' hs' => ?_⟩
    rw [strs_same (hp'.trans hnp.symm) hs' hns]
    exact hst
noncomputable def TabR (H:Hp) (ts:List V) (C:Combs):Prop:=ts.length=128/\∀ s:Nat,s < 128->∃ q ws,ts[s]?=some (.ref q)/\H q=some (.lst ws)/\StepsR H ws (stp C s)
theorem TabR.same {H H':Hp} {ts:List V} {C:Combs} (t:TabR H ts C) (s:Same H H'):TabR H' ts C :=
 ⟨t.1,fun i h=>let ⟨q,ws,a,b,c⟩:=t.2 i h; ⟨q,ws,a,s _ _ b,c.mono fun _ _ e=>s _ _ e⟩⟩
noncomputable def sp_table (C:A3):Sp:=fun vs H Q _=>∃ b l G cs past,vs = [.ref b]/\Bk C G H b l cs past/\∀ p H' ts,Same H H'->H p=none->H' p=some (.lst ts)->TabR H' ts (srt cs)->Q (.ref p) H'
theorem zcK:FnScope ["book"] ["book"] (defScope s_step_table):=⟨rfl,rfl,rfl,by decide +kernel,rfl,by decide +kernel,by decide +kernel⟩
theorem ok_table {ea:Nat->A3} {C:A3} (D:DefAt K mg "step_table" s_step_table) (T:Bn mg) (V_SHAPES:∃ t,mg "SHAPES" = some (.int 128 t)) (C_shape_steps:Callee1 P w K mg base "shape_steps" 3 ["book","shape"] (sp_steps ea C)):Callee1 P w K mg base "step_table" 4 ["book"] (sp_table C):=by
 refine D.callee1 zcK (fun _ _ _ _ _ _=>ln1 fun _=>rfl) (fun vs H Q E h => ?_) (fun f cdv A outer s H vs Q E hr h => ?_)
 ·obtain ⟨b,l,G,cs,past,rfl,_⟩:=h
  rfl
 ·obtain ⟨b,l,G,cs,past,rfl,B,q⟩:=h
  have S:=zcK
  refine ⟨_,zae (zai (zaM (own := ["shape"]) (caps := [(0,"book")]) rfl ⟨rfl,rfl,rfl,rfl,⟨⟨rfl,rfl,.inl rfl⟩,trivial⟩⟩ (zbm rfl T.n_range (zaa (zbO rfl V_SHAPES) zad)) (fun _ _ _ _ _ _=>zak (i:=0) (zaK (by decide +kernel)) rfl (Aj rfl)) (fun _ _ _ _ _ _=>za2) (fun _ _ _ _ _ _=>zba C_shape_steps (hr.mono (by decide)) (by first | exact pass_try | exact zbb | exact zay) rfl (zaa (pv 1) (zaa (pv 0) zad))))),?_⟩
  refine ⟨_,rfl,by decide,by decide,fun D hD => ?_⟩
  refine zib (capv := [some (.ref b)]) (by rfl) (zaT 0 (128:Int).toNat) (by rw [zbL]; exact big (by decide)) hD (fun _ _=>trivial) (fun _=>true) (fun H i v=>∃ (q:A3) (ws:List V),v = .ref q/\H q=some (.lst ws)/\StepsR H ws (stp (srt cs) i)) ?_ ?_ (fun i x hx H R s' h=>h H (Same.refl _)) ?_ ?_
  ·rintro H H' i v s' ⟨qa,ws,e2,e3,e4⟩
   exact ⟨qa,ws,e2,s' _ _ e3,e4.mono fun _ _ e=>s' _ _ e⟩
  ·rintro H i v l' l'' hv hH ⟨qa,ws,e2,e3,e4⟩
   subst e2
   have hne:qa≠D:=fun z=>hv (by rw [z])
   refine ⟨qa,ws,rfl,(by rw [zaf hne]; exact e3),e4.mono fun q' xs e => ?_⟩
   rw [zaf (fun z=>by rw [z,hH] at e; cases e)]
   exact e
  ·intro i x hx _ H' R s' hDn h
   obtain ⟨hi,rfl⟩:=zbv hx
   rw [Ga]
   refine ⟨_,rfl,_,rfl,b,l,G,cs,past,((i:Nat):Int),rfl,B.same s',?_⟩
   rw [if_pos ⟨by omega,by have:i < 128:=hi; omega⟩]
   intro p H2 ws s2 np hp st
   exact h H2 _ s2 (fun z=>hDn (by injection z with z; rw [<- z]; exact np)) ⟨p,ws,rfl,hp,st _ (zfQ cs) (zfh cs)⟩
  ·intro H' ys s' hD' pr
   rw [zbL,Bo.mpr (fun _ _=>rfl)] at pr
   refine q _ H' ys s' hD hD' ⟨by rw [<- D9 pr,B0]; rfl,fun i hi => ?_⟩
   obtain ⟨y,ey,_,qa,ws,rfl,e3,e4⟩:=Cw.at pr (Ch (show i < (128:Int).toNat from hi))
   exact ⟨qa,ws,ey,e3,e4⟩
noncomputable def sp_leads:Sp:=fun vs H Q _=>∃ (a r:A3) (ws:List V) (ps:List (Str×Int)) (row:List Bool),vs = [.ref a,.ref r]/\H a=some (.lst ws)/\StepsR H ws ps/\ps.length<=1000/\(∀ p∈ps,0<=p.2/\p.2.toNat < row.length)/\H r=some (.lst (row.map V.bl))/\∀ H',Same H H'->Q (.bl (ps.any fun p=>tr row p.2.toNat)) H'
theorem zfY {row:List Bool} {t:Int} (h0:0<=t) (h:t.toNat < row.length):atI (row.map V.bl) t=some (.bl (tr row t.toNat)):=by
 refine zhH h0 ?_
 rw [Ad,A8 h]
 simp [tr,h]
theorem any_range {α : Type} (ps:List α) (f : α -> Bool) (d : α):((Af ps.length).map fun i=>f (ps.getD i d)).any (fun b=>b)=ps.any f:=by
 rw [Jc]
 rw [Bi,Bj,Bj]
 constructor
 ·rintro ⟨i,hi,h⟩
  have hi:=Ax.mp hi
  refine ⟨ps[i],Cy hi,?_⟩
  have h:f (ps.getD i d)=true:=h
  simpa [hi] using h
 ·rintro ⟨x,hx,h⟩
  obtain ⟨i,hi,rfl⟩:=Ei hx
  exact ⟨i,Ax.mpr hi,by show f (ps.getD i d)=true; simpa [hi] using h⟩
theorem zdC:FnScope ["steps","row"] ["steps","row"] (defScope s_leads_on):=⟨rfl,rfl,rfl,by decide +kernel,rfl,by decide +kernel,by decide +kernel⟩
theorem ok_leads (D:DefAt K mg "leads_on" s_leads_on) (T:Bn mg):Callee P w K mg base "leads_on" 1 ["steps","row"] sp_leads:=by
 refine D.callee zdC (fun _ _ _ _ _ _=>ln2 fun _ _=>rfl) (fun vs H Q E h => ?_) (fun f cdv A outer s H vs Q E hr h => ?_)
 ·obtain ⟨a,r,ws,ps,row,rfl,_⟩:=h
  rfl
 ·obtain ⟨a,r,ws,ps,row,rfl,ha,st,hl,hlt,hrow,q⟩:=h
  have S:=zdC
  refine ⟨_,zae (zai (zal (call_any rfl) rfl T.n_any boot_any (zaa (zaM (own := ["step"]) (caps := [(1,"row")]) rfl ⟨rfl,rfl,rfl,rfl,⟨⟨rfl,rfl,.inl rfl⟩,trivial⟩⟩ (zau (pv 0)) (fun _ _ _ _ _ _=>zak (i:=0) (zaK (by decide +kernel)) rfl (Aj rfl)) (fun _ _ _ _ _ _=>za2) (fun _ _ _ _ _ _=>zat (zc1 K rfl) (pv 1) (zat (zdW K rfl) (pv 0) (zac) (fun _ _=>rfl)) (fun _ _=>rfl))) zad))),?_⟩
  have hlw:=st.length
  refine ⟨_,rfl,_,rfl,⟨_,SqL.of ha⟩,fun D hD => ?_⟩
  refine zcp (capv := [some (.ref r)]) (by rfl) (zaj K a ws) (big (by omega)) hD (fun H' s'=>SqL.of (s' _ _ ha)) (fun _=>true) (fun i => .bl (tr row (ps.getD i ("",0)).2.toNat)) (fun _ _ _=>nofun) (fun i x hx H R s' h=>h H (Same.refl _)) ?_ ?_
  ·intro i x hx _ H' R s' h
   have hi:i < ps.length:=by rw [<- hlw]; exact (Ah.mp hx).1
   obtain ⟨qa,e1,e2⟩:=st.get (A8 hi)
   rw [hx] at e1
   cases e1
   obtain ⟨h0,h1⟩:=hlt ps[i] (Cy hi)
   refine ⟨_,rfl,_,rfl,_,_,_,_,rfl,rfl,SqT.of (s' _ _ e2),at1,_,_,_,_,rfl,rfl,SqL.of (s' _ _ hrow),zfY h0 h1,?_⟩
   have:=h H' (Same.refl _)
   simpa [hi] using this
  ·intro H' s' e
   refine ⟨_,(Af ws.length).map fun i=>tr row (ps.getD i ("",0)).2.toNat,rfl,SqL.of ?_,?_⟩
   ·rw [e,Bo.mpr (fun _ _=>rfl),B5]
    rfl
   ·have:=q H' s'
    rw [<- any_range ps _ ("",0)] at this
    rw [hlw]
    exact this
noncomputable def sp_narrow:Sp:=fun vs H Q _=>∃ (a r:A3) (ts:List V) (C:Combs) (row:List Bool),vs = [.ref a,.ref r]/\H a=some (.lst ts)/\TabR H ts C/\GC C/\C.length<=8/\H r=some (.lst (row.map V.bl))/\row.length=128/\∀ p H',Same H H'->H p=none->H' p=some (.lst ((nxtRow C row).map V.bl))->Q (.ref p) H'
theorem zcL:FnScope ["table","row"] ["table","row"] (defScope s_narrow_row):=⟨rfl,rfl,rfl,by decide +kernel,rfl,by decide +kernel,by decide +kernel⟩
theorem ok_narrow (D:DefAt K mg "narrow_row" s_narrow_row) (T:Bn mg) (C_leads_on:Callee P w K mg base "leads_on" 1 ["steps","row"] sp_leads):Callee P w K mg base "narrow_row" 2 ["table","row"] sp_narrow:=by
 refine D.callee zcL (fun _ _ _ _ _ _=>ln2 fun _ _=>rfl) (fun vs H Q E h => ?_) (fun f cdv A outer s H vs Q E hr h => ?_)
 ·obtain ⟨a,r,ts,C,row,rfl,_⟩:=h
  rfl
 ·obtain ⟨a,r,ts,C,row,rfl,ha,tb,gc,h8,hrow,hrl,q⟩:=h
  have S:=zcL
  refine ⟨_,zae (zai (zaM (own := ["steps"]) (caps := [(1,"row")]) rfl ⟨rfl,rfl,rfl,rfl,⟨⟨rfl,rfl,.inl rfl⟩,trivial⟩⟩ (zau (pv 0)) (fun _ _ _ _ _ _=>zak (i:=0) (zaK (by decide +kernel)) rfl (Aj rfl)) (fun _ _ _ _ _ _=>za2) (fun _ _ _ _ _ _=>zaz C_leads_on (hr.mono (by decide)) rfl (zaa (pv 0) (zaa (pv 1) zad))))),?_⟩
  refine ⟨_,rfl,_,rfl,⟨_,SqL.of ha⟩,fun D hD => ?_⟩
  refine zcp (capv := [some (.ref r)]) (by rfl) (zaj K a ts) (by rw [tb.1]; exact big (by decide)) hD (fun H' s'=>SqL.of (s' _ _ ha)) (fun _=>true) (fun i => .bl ((stp C i).any fun p=>tr row p.2.toNat)) (fun _ _ _=>nofun) (fun i x hx H R s' h=>h H (Same.refl _)) ?_ ?_
  ·intro i x hx _ H' R s' h
   have hi:i < 128:=by rw [<- tb.1]; exact (Ah.mp hx).1
   obtain ⟨qa,ws,e1,e2,e3⟩:=(tb.same s').2 i hi
   rw [hx] at e1
   cases e1
   exact ⟨_,rfl,_,rfl,qa,r,ws,_,row,rfl,e2,e3,Bv (zcq h8 i) (by decide),fun p hp=>by rw [hrl]; exact zbt gc hi hp,s' _ _ hrow,fun H2 s2=>h H2 s2⟩
  ·intro H' s' e
   refine q D H' s' hD ?_
   rw [e,Bo.mpr (fun _ _=>rfl),tb.1]
   unfold nxtRow
   rw [B5]
   rfl
noncomputable def sp_first:Sp:=fun vs H Q _=>∃ (a r:A3) (ws:List V) (ps:List (Str×Int)) (row:List Bool) (p:Str×Int),vs = [.ref a,.ref r]/\H a=some (.lst ws)/\StepsR H ws ps/\ps.length<=1000/\(∀ p∈ps,0<=p.2/\p.2.toNat < row.length)/\H r=some (.lst (row.map V.bl))/\ps.find? (fun p=>tr row p.2.toNat)=some p/\∀ x H',Same H H'->H' x=some (.tup [.str p.1,.int p.2])->Q (.ref x) H'
theorem find_filter {α : Type} {ps:List α} {f : α -> Bool} {p d : α} (h:ps.find? f=some p):∃ i,((Af ps.length).filter fun i=>f (ps.getD i d))[0]?=some i/\ps[i]?=some p:=by
 induction ps with
 | nil=>cases h
 | cons x ps ih =>
  rw [As,L7,Au]
  by_cases e:f x=true
  ·rw [Lb e] at h
   cases h
   exact ⟨0,by rw [if_pos (by simpa using e)]; rfl,rfl⟩
  ·rw [Lc e] at h
   obtain ⟨i,h1,h2⟩:=ih h
   refine ⟨i + 1,?_,by simpa using h2⟩
   rw [if_neg (by simpa using e),Ep,Ad]
   show (((Af ps.length).filter fun i=>f (ps.getD i d))[0]?).map _=_
   rw [h1]
   rfl
theorem zbk:FnScope ["steps","lasting"] ["steps","lasting"] (defScope s_first_lasting_step):=⟨rfl,rfl,rfl,by decide +kernel,rfl,by decide +kernel,by decide +kernel⟩
theorem ok_first (D:DefAt K mg "first_lasting_step" s_first_lasting_step) (T:Bn mg):Callee P w K mg base "first_lasting_step" 1 ["steps","lasting"] sp_first:=by
 refine D.callee zbk (fun _ _ _ _ _ _=>ln2 fun _ _=>rfl) (fun vs H Q E h => ?_) (fun f cdv A outer s H vs Q E hr h => ?_)
 ·obtain ⟨a,r,ws,ps,row,p,rfl,_⟩:=h
  rfl
 ·obtain ⟨a,r,ws,ps,row,p,rfl,ha,st,hl,hlt,hrow,hf,q⟩:=h
  have S:=zbk
  refine ⟨_,zae (zai (zat zaq (zaM (own := ["step"]) (caps := [(1,"lasting")]) rfl ⟨rfl,rfl,rfl,rfl,⟨⟨rfl,rfl,.inl rfl⟩,trivial⟩⟩ (zau (pv 0)) (fun _ _ _ _ _ _=>zak (i:=0) (zaK (by decide +kernel)) rfl (Aj rfl)) (fun _ _ _ _ _ _=>zda (zbl (zat (zc1 K rfl) (pv 1) (zat (zdW K rfl) (pv 0) (zac) (fun _ _=>rfl)) (fun _ _=>rfl)))) (fun _ _ _ _ _ _=>pv 0)) (zac) (fun _ _=>rfl))),?_⟩
  have hlw:=st.length
  refine ⟨_,rfl,_,rfl,⟨_,SqL.of ha⟩,fun D hD => ?_⟩
  have hne:∀ i,i < ws.length->ws.getD i .non ≠ .ref D:=fun i hi z=>by
   obtain ⟨qa,e1,e2⟩:=st.get (A8 (show i < ps.length by omega))
   rw [Ac,e1] at z
   cases z
   rw [hD] at e2
   cases e2
  refine zcp (capv := [some (.ref r)]) (by rfl) (zaj K a ws) (big (by omega)) hD (fun H' s'=>SqL.of (s' _ _ ha)) (fun i=>tr row (ps.getD i ("",0)).2.toNat) (fun i=>ws.getD i .non) (fun i hi _=>hne i hi) ?_ ?_ ?_
  ·intro i x hx H' R s' h
   have hi:i < ps.length:=by rw [<- hlw]; exact (Ah.mp hx).1
   obtain ⟨qa,e1,e2⟩:=st.get (A8 hi)
   rw [hx] at e1
   cases e1
   obtain ⟨h0,h1⟩:=hlt ps[i] (Cy hi)
   refine ⟨_,rfl,_,rfl,_,_,_,_,rfl,rfl,SqT.of (s' _ _ e2),at1,_,_,_,_,rfl,rfl,SqL.of (s' _ _ hrow),zfY h0 h1,_,rfl,?_⟩
   have:=h H' (Same.refl _)
   simpa [hi] using this
  ·intro i x hx _ H' R s' h
   refine ⟨_,rfl,?_⟩
   have:=h H' (Same.refl _)
   rw [Ac,hx] at this
   exact this
  ·intro H' s' e
   obtain ⟨i,h1,h2⟩:=find_filter (d:=(("",0):Str×Int)) hf
   rw [hlw] at e
   obtain ⟨qa,e1,e2⟩:=st.get h2
   refine ⟨_,_,_,_,rfl,rfl,SqL.of e,zax (j:=0) ?_,q qa H' s' (s' _ _ e2)⟩
   rw [Ad,h1,Dg,Ac,e1]
   rfl
noncomputable def sp_rows:Sp:=fun vs H Q _=>∃ (a:A3) (ts:List V) (C:Combs),vs = [.ref a]/\H a=some (.lst ts)/\TabR H ts C/\GC C/\C.length<=8/\∀ p H' ws m,Same H H'->H p=none->H' p=some (.lst ws)->RowsR H' ws C m->nxtRow C (rowAt C m)=rowAt C m->m<=128->Q (.ref p) H'
theorem zbV:FnScope ["table","rows","narrowed"] ["table"] (defScope s_rows_going_on):=⟨rfl,rfl,rfl,by decide +kernel,rfl,by decide +kernel,by decide +kernel⟩
theorem ok_rows (D:DefAt K mg "rows_going_on" s_rows_going_on) (T:Bn mg) (C_narrow_row:Callee P w K mg base "narrow_row" 2 ["table","row"] sp_narrow):Callee P w K mg base "rows_going_on" 3 ["table"] sp_rows:=by
 refine D.callee zbV (fun _ _ _ _ _ _=>ln1 fun _=>rfl) (fun vs H Q E h => ?_) (fun f cdv A outer s H vs Q E hr h => ?_)
 ·obtain ⟨a,ts,C,rfl,_⟩:=h
  rfl
 ·obtain ⟨a,ts,C,rfl,ha,tb,gc,h8,q⟩:=h
  have S:=zbV
  refine ⟨_,zab (zah (i:=1) S.nd rfl (Aj rfl) (zaB (zaa (zaM (own := ["steps"]) (caps := []) rfl ⟨rfl,rfl,rfl,rfl,trivial⟩ (zau (pv 0)) (fun _ _ _ _ _ _=>zak (i:=0) (zaK (by decide +kernel)) rfl (Aj rfl)) (fun _ _ _ _ _ _=>za2) (fun _ _ _ _ _ _=>zbJ)) zad)))
  (zab (zah (i:=2) S.nd rfl (Aj rfl) (zaz C_narrow_row (hr.mono (by decide)) rfl (zaa (pv 0) (zaa (zat zaq (pv 1) (zct zbr (zac)) (fun _ _=>rfl)) zad))))
  (zab (zcd B8 (zap (zh0 hr.units) (pv 2) (zat zaq (pv 1) (zct zbr (zac)) (fun _ _=>rfl)) (zav _))
   (zab (zaJ (zcV Bg Bm Bl zaH (pv 1) (zaa (pv 2) zad)))
   (zae (zah (i:=2) S.nd rfl (Aj rfl) (zaz C_narrow_row (hr.mono (by decide)) rfl (zaa (pv 0) (zaa (zat zaq (pv 1) (zct zbr (zac)) (fun _ _=>rfl)) zad)))))))
  (zae (zai (pv 1))))),?_⟩
  refine ⟨_,rfl,_,rfl,⟨_,SqL.of ha⟩,fun D hD => ?_⟩
  refine zcp (capv := []) (by rfl) (zaj K a ts) (by rw [tb.1]; exact big (by decide)) hD (fun H' s'=>SqL.of (s' _ _ ha)) (fun _=>true) (fun _ => .bl true) (fun _ _ _=>nofun) (fun i x hx H R s' h=>h H (Same.refl _)) (fun i x hx _ H R s' h=>h H (Same.refl _)) ?_
  intro H1 s1 e1
  have e1:H1 D=some (.lst ((rowAt C 0).map V.bl)):=by
   rw [e1,Bo.mpr (fun _ _=>rfl),tb.1]
   rfl
  refine ⟨bigr rfl,fun p np => ?_⟩
  have s2:Same H1 (upd H1 p (.lst [.ref D])):=Same.new np
  have rr:RowsR (upd H1 p (.lst [.ref D])) [.ref D] C 0:=⟨rfl,fun i hi=>⟨D,by rw [show i=0 by omega]; rfl,by rw [show i=0 by omega]; exact s2 _ _ e1⟩⟩
  have s02:=s1.trans s2
  have np0:H p=none:=s1.free np
  have hp2:upd H1 p (.lst [.ref D]) p=some (.lst [.ref D]):=upd_same
  generalize upd H1 p (.lst [.ref D])=H2 at s2 rr s02 hp2
  refine ⟨_,rfl,_,rfl,_,rfl,_,_,_,_,rfl,rfl,SqL.of hp2,zdn rr.1 rfl,?_⟩
  refine ⟨a,D,ts,C,rowAt C 0,rfl,s02 _ _ ha,tb.same s02,gc,h8,s2 _ _ e1,za6 C 0,fun p3 H3 s3 np3 hp3 => ?_⟩
  refine ⟨fun k σ Hx=>∃ m ws qn,σ = [some (.ref a),some (.ref p),some (.ref qn)]/\Same H Hx/\Hx p=some (.lst ws)/\RowsR Hx ws C m/\(rowAt C m).count true + m<=128/\Hx qn=some (.lst ((rowAt C (m + 1)).map V.bl))/\k=(rowAt C m).count true,⟨_,0,_,p3,rfl,s02.trans s3,s3 _ _ hp2,rr.same s3,?_,hp3,rfl⟩,?_⟩
  ·have:=List.count_le_length (a:=true) (l:=rowAt C 0)
   rw [za6] at this
   omega
  rintro k σ Hx ⟨m,ws,qn,rfl,sx,hpx,rx,hcx,hqn,rfl⟩
  obtain ⟨ql,el1,el2⟩:=rx.2 m (A9 _)
  refine ⟨_,rfl,_,rfl,_,rfl,_,_,_,_,rfl,rfl,SqL.of hpx,zdn rx.1 el1,_,_,zf4 hqn,zf4 el2,zdg _,zdg _,_,rfl,?_⟩
  rw [if_pos rfl,eqv_bools]
  by_cases e:rowAt C (m + 1)=rowAt C m
  ·rw [decide_eq_true e]
   refine iteF ?_
   exact ⟨_,rfl,q p Hx ws m sx np0 hpx rx e (by omega)⟩
  ·rw [decide_eq_false e]
   refine iteT ?_
   have less:=row_less gc e
   refine ⟨fun σ' H'=>∃ m',m' < (rowAt C m).count true/\∃ mm ws qn,σ' = [some (.ref a),some (.ref p),some (.ref qn)]/\Same H H'/\H' p=some (.lst ws)/\RowsR H' ws C mm/\(rowAt C mm).count true + mm<=128/\H' qn=some (.lst ((rowAt C (mm + 1)).map V.bl))/\m'=(rowAt C mm).count true,fun σ' H' h=>h,?_⟩
   have hwl:=rx.1
   refine ⟨_,rfl,.inl ⟨rfl,_,SqL.of hpx⟩,_,rfl,p,ws,_,rfl,rfl,hpx,Ae (by omega:ws.length < 1000) zaO,?_⟩
   have rs:=rx.snoc hpx hqn
   have sp:=sx.put (o := .lst (ws ++ [.ref qn])) np0
   have hp4:upd Hx p (.lst (ws ++ [.ref qn])) p=some (.lst (ws ++ [.ref qn])):=upd_same
   generalize upd Hx p (.lst (ws ++ [.ref qn]))=H4 at rs sp hp4
   obtain ⟨ql',el1',el2'⟩:=rs.2 (m + 1) (A9 _)
   refine ⟨_,rfl,_,rfl,_,rfl,_,_,_,_,rfl,rfl,SqL.of hp4,zdn rs.1 el1',?_⟩
   refine ⟨a,ql',ts,C,rowAt C (m + 1),rfl,sp _ _ ha,tb.same sp,gc,h8,el2',za6 C _,fun p5 H5 s5 np5 hp5 => ?_⟩
   exact ⟨_,less,m + 1,_,p5,rfl,sp.trans s5,s5 _ _ hp4,rs.same s5,by omega,hp5,rfl⟩
noncomputable def sp_walk:Sp:=fun vs H Q _=>∃ (a r:A3) (ts:List V) (C:Combs) (row:List Bool) (s:Nat),vs = [.ref a,.ref r,.int (s:Int)]/\H a=some (.lst ts)/\TabR H ts C/\GC C/\C.length<=8/\H r=some (.lst (row.map V.bl))/\row.length=128/\nxtRow C row=row/\s < 128/\tr row s=true /\
 ∀ t ls pl start n ws H',Same H H'->start < n->n<=128->wk C row s n=wk C row s start->((Af n).map (wk C row s)).Nodup->H' t=some (.tup [.int (start:Nat),.ref ls,.ref pl])->H' ls=some (.lst ((Af n).map fun j=>V.int (wk C row s j:Nat)))->H' pl=some (.lst ws)->LaysR H' ws (wn C row s) n->Q (.ref t) H'
theorem zcJ:FnScope ["table","lasting","shape","seen","layings","place","step"] ["table","lasting","shape"] (defScope s_walk_round):=⟨rfl,rfl,rfl,by decide +kernel,rfl,by decide +kernel,by decide +kernel⟩
theorem ok_walk (D:DefAt K mg "walk_round" s_walk_round) (T:Bn mg) (C_first_lasting_step:Callee P w K mg base "first_lasting_step" 1 ["steps","lasting"] sp_first):Callee P w K mg base "walk_round" 2 ["table","lasting","shape"] sp_walk:=by
 refine D.callee zcJ (fun _ _ _ _ _ _=>ln3 fun _ _ _=>rfl) (fun vs H Q E h => ?_) (fun f cdv A outer s H vs Q E hr h => ?_)
 ·obtain ⟨a,r,ts,C,row,s0,rfl,_⟩:=h
  rfl
 ·obtain ⟨a,r,ts,C,row,s0,rfl,ha,tb,gc,h8,hrow,hrl,hst,hs0,ht0,q⟩:=h
  have S:=zcJ
  have hu:=zck hr
  have wok:=zii gc hst hs0 ht0
  refine ⟨_,zab (zah (i:=3) S.nd rfl (Aj rfl) (zdr))
  (zab (zah (i:=4) S.nd rfl (Aj rfl) (zaB (zad)))
  (zab (zcd B8 (zfd (zcW hu (pv 2) (pv 3)))
   (zab (zah (i:=5) S.nd rfl (Aj rfl) (zal zfB rfl T.n_len Bw (zaa (pv 3) zad)))
   (zab (zcr hu (pv 3) (pv 2) (pv 5) rfl)
   (zab (zah (i:=6) S.nd rfl (Aj rfl) (zaz C_first_lasting_step (hr.mono (by decide)) rfl (zaa (zat zaq (pv 0) (pv 2) (fun _ _=>rfl)) (zaa (pv 1) zad))))
   (zbi (zaF (zap zfO (zat zbd (pv 6) (zac) (fun _ _=>rfl)) (zaP) (zav _))
    (zae (zaJ (zcV Bg Bm Bl zaH (pv 4) (zaa (zbp (zaa (pv 5) (zaa (zat zbd (pv 6) (zac) (fun _ _=>rfl)) zad))) zad))))
    (zan))
   (zae (zah (i:=2) S.nd rfl (Aj rfl) (zat zbd (pv 6) (zac) (fun _ _=>rfl)))))))))
  (zae (zai (zbp (zaa (zdb hu (pv 3) (pv 2) (fun _ _=>rfl)) (zaa (zbn (call_listD rfl) rfl T.n_list Hv (zaa (pv 3) zad)) (zaa (pv 4) zad)))))))),?_⟩
  refine fun sd nsd=>⟨bigr rfl,fun pl npl => ?_⟩
  have s1:Same H (upd H sd (.dK [])):=Same.new nsd
  have npl0:H pl=none:=s1.free npl
  have nps:pl≠sd:=fun z=>by rw [z,upd_same] at npl; cases npl
  have s2:Same H (upd (upd H sd (.dK [])) pl (.lst [])):=s1.trans (Same.new npl)
  refine ⟨fun k σ Hx=>∃ i ws x5 x6,σ = [some (.ref a),some (.ref r),some (.int (wk C row s0 i:Nat)),some (.ref sd),some (.ref pl),x5,x6]/\Same H Hx/\Hx sd=some (.dK (seenK (wk C row s0) i))/\Hx pl=some (.lst ws)/\LaysR Hx ws (wn C row s0) i/\((Af i).map (wk C row s0)).Nodup/\k=128 - i,⟨128,0,[],_,_,rfl,s2,(by rw [zaf nps.symm]; exact upd_same),upd_same,.nil,D3,rfl⟩,?_⟩
  rintro k σ Hx ⟨i,ws,x5,x6,rfl,sx,hsd,hpl,lr,nd,rfl⟩
  refine ⟨_,rfl,_,rfl,sd,_,rfl,DGet.k (k:=Cp _) hsd,_,rfl,?_⟩
  rw [zdA]
  have h128:i<=128:=by
   have:=zaG 128 _ nd (fun x hx=>by obtain ⟨j,_,rfl⟩:=A7.mp hx; exact (wok j).1)
   rwa [A1,B0] at this
  cases ef:(Af i).find? fun j=>decide (wk C row s0 j=wk C row s0 i) with
  | some j =>
   refine iteF ?_
   have hj:j < i:=Ax.mp (Ea ef)
   have ej:wk C row s0 j=wk C row s0 i:=by have:=Hr ef; simpa using this
   have ev:valV (seenK (wk C row s0) i) (Cp ((wk C row s0 i:Nat):Int))=some (.int (j:Int)):=by rw [zdA,ef]; rfl
   have dg:DGet Hx sd (kV (Cp ((wk C row s0 i:Nat):Int))) (some (.int (j:Int))):=by rw [<- ev]; exact DGet.k hsd
   refine ⟨_,rfl,_,rfl,sd,_,rfl,dg,_,rfl,sd,_,rfl,.inl hsd,fun ls nls => ?_⟩
   have s3:Same Hx (upd Hx ls (.lst ((seenK (wk C row s0) i).map fun kv=>kV kv.1))):=Same.new nls
   refine ⟨_,rfl,bigr rfl,fun t nt => ?_⟩
   refine q t ls pl j i ws _ ((sx.trans s3).trans (Same.new nt)) hj h128 ej.symm nd upd_same ?_ ?_ ?_
   ·rw [zaf (zao (upd_same (H:=Hx) (a:=ls)) nt),upd_same]
    unfold seenK
    rw [B5]
    rfl
   ·exact Same.new nt _ _ (s3 _ _ hpl)
   ·exact lr.mono fun qa xs e=>Same.new nt _ _ (s3 _ _ e)
  | none =>
   refine iteT ?_
   have hno:∀ j,j < i->wk C row s0 j≠wk C row s0 i:=fun j hj=>by
    have:=Ge.mp ef j (Ax.mpr hj)
    simpa using this
   have nd':((Af (i + 1)).map (wk C row s0)).Nodup:=by
    rw [Dh,Ao]
    refine Bz.mpr ⟨nd,by simp,fun x hx y hy => ?_⟩
    obtain ⟨j,hj,rfl⟩:=A7.mp hx
    rw [Al,F0,A5] at hy
    rw [hy]
    exact hno j (Ax.mp hj)
   have h129:i + 1<=128:=by
    have:=zaG 128 _ nd' (fun x hx=>by obtain ⟨j,_,rfl⟩:=A7.mp hx; exact (wok j).1)
    rwa [A1,B0] at this
   have ev:valV (seenK (wk C row s0) i) (Cp ((wk C row s0 i:Nat):Int))=none:=by rw [zdA,ef]; rfl
   refine ⟨fun σ' H'=>∃ m',m' < 128 - i/\∃ i ws x5 x6,σ' = [some (.ref a),some (.ref r),some (.int (wk C row s0 i:Nat)),some (.ref sd),some (.ref pl),x5,x6]/\Same H H'/\H' sd=some (.dK (seenK (wk C row s0) i))/\H' pl=some (.lst ws)/\LaysR H' ws (wn C row s0) i/\((Af i).map (wk C row s0)).Nodup/\m'=128 - i,fun _ _ h=>h,?_⟩
   refine ⟨_,rfl,_,_,rfl,hsd,?_⟩
   rw [ze8]
   refine ⟨_,rfl,_,rfl,_,rfl,sd,_,rfl,DPut.k (k:=Cp _) hsd ?_,?_⟩
   ·rw [ze8]; exact Ae (by omega:i < 1000) zaO
   rw [zcT _ ev,<- seenK_succ]
   have s3:=sx.put (o := .dK (seenK (wk C row s0) (i + 1))) nsd
   have hsd3:upd Hx sd (.dK (seenK (wk C row s0) (i + 1))) sd=some (.dK (seenK (wk C row s0) (i + 1))):=upd_same
   have hpl3:upd Hx sd (.dK (seenK (wk C row s0) (i + 1))) pl=some (.lst ws):=by rw [zaf nps]; exact hpl
   have lr3:LaysR (upd Hx sd (.dK (seenK (wk C row s0) (i + 1)))) ws (wn C row s0) i:=lr.mono fun qa xs e=>by rw [zaf (fun z=>by rw [z,hsd] at e; cases e)]; exact e
   generalize upd Hx sd (.dK (seenK (wk C row s0) (i + 1)))=H3 at s3 hsd3 hpl3 lr3
   obtain ⟨qs,wss,e1,e2,e3⟩:=(tb.same s3).2 _ (wok i).1
   refine ⟨_,rfl,_,rfl,_,_,_,_,rfl,rfl,SqL.of (s3 _ _ ha),zax e1,_,rfl,?_⟩
   refine ⟨qs,r,wss,stp C (wk C row s0 i),row,_,rfl,e2,e3,Bv (zcq h8 _) (by decide),fun p hp=>by rw [hrl]; exact zbt gc (wok i).1 hp,s3 _ _ hrow,zgU gc hst hs0 ht0 i,fun x H4 s4 hx => ?_⟩
   have s04:=s3.trans s4
   refine ⟨fun σ' H'=>∃ ws,σ' = [some (.ref a),some (.ref r),some (.int (wk C row s0 i:Nat)),some (.ref sd),some (.ref pl),some (.int (i:Int)),some (.ref x)]/\Same H H'/\H' sd=some (.dK (seenK (wk C row s0) (i + 1)))/\H' pl=some (.lst ws)/\LaysR H' ws (wn C row s0) (i + 1)/\H' x=some (.tup [.str (wn C row s0 i),.int (wk C row s0 (i + 1):Nat)]),?_,?_⟩
   ·refine ⟨_,rfl,_,_,_,_,rfl,rfl,SqT.of hx,at0,rfl,_,rfl,?_⟩
    by_cases e:wn C row s0 i=A2 ""
    ·rw [decide_eq_true (by rw [e])]
     refine iteF ?_
     exact ⟨ws,rfl,s04,s4 _ _ hsd3,s4 _ _ hpl3,(lr3.mono fun qa xs e=>s4 _ _ e).skip e,hx⟩
    ·rw [decide_eq_false (fun z=>e (by injection z))]
     refine iteT ?_
     refine ⟨_,rfl,.inl ⟨rfl,_,SqL.of (s4 _ _ hpl3)⟩,_,rfl,_,rfl,_,_,_,_,rfl,rfl,SqT.of hx,at0,bigr rfl,fun t nt => ?_⟩
     have s5:Same H4 (upd H4 t (.tup [.int (i:Int),.str (wn C row s0 i)])):=Same.new nt
     have hpl5:=s5 _ _ (s4 _ _ hpl3)
     have hsd5:=s5 _ _ (s4 _ _ hsd3)
     have hx5:=s5 _ _ hx
     have lr5:=lr3.mono fun qa xs e=>s5 _ _ (s4 _ _ e)
     have ht5:upd H4 t (.tup [.int (i:Int),.str (wn C row s0 i)]) t=some (.tup [.int (i:Int),.str (wn C row s0 i)]):=upd_same
     have s05:=s04.trans s5
     generalize upd H4 t (.tup [.int (i:Int),.str (wn C row s0 i)])=H5 at hpl5 hsd5 hx5 lr5 ht5 s05
     have hlen:=lr5.len
     refine ⟨pl,ws,_,rfl,rfl,hpl5,Ae (by omega:ws.length < 1000) zaO,?_⟩
     have ne:∀ {qa:A3} {xs:List V},H5 qa=some (.tup xs)->qa≠pl:=fun e z=>by rw [z,hpl5] at e; cases e
     refine ⟨ws ++ [.ref t],rfl,s05.put npl0,(by rw [zaf nps.symm]; exact hsd5),upd_same,?_,(by rw [zaf (ne hx5)]; exact hx5)⟩
     exact (lr5.mono fun qa xs e=>by rw [zaf (ne e)]; exact e).snoc e (by rw [zaf (ne ht5)]; exact ht5)
   ·rintro σ' H5 ⟨ws',rfl,s5,hsd5,hpl5,lr5,hx5⟩
    refine ⟨_,rfl,_,_,_,_,rfl,rfl,SqT.of hx5,at1,?_⟩
    exact ⟨_,(by omega:128 - (i + 1) < 128 - i),i + 1,ws',_,_,rfl,s5,hsd5,hpl5,lr5,nd',rfl⟩
noncomputable def sp_behind:Sp:=fun vs H Q _=>∃ (a l:A3) (ts:List V) (C:Combs) (ns:List Nat),vs = [.ref a,.ref l]/\H a=some (.lst ts)/\TabR H ts C/\GC C/\C.length<=8/\H l=some (.lst (ns.map fun s=>V.int (s:Nat)))/\(∀ s∈ns,s < 128)/\ns.length<=128/\∀ p H',Same H H'->H p=none->H' p=some (.lst ((behN C ns).map fun s=>V.int (s:Nat)))->Q (.ref p) H'
theorem zbU:FnScope ["table","shapes","reached","shape","step"] ["table","shapes"] (defScope s_shapes_behind):=⟨rfl,rfl,rfl,by decide +kernel,rfl,by decide +kernel,by decide +kernel⟩
theorem ok_behind (D:DefAt K mg "shapes_behind" s_shapes_behind) (T:Bn mg):Callee P w K mg base "shapes_behind" 1 ["table","shapes"] sp_behind:=by
 refine D.callee zbU (fun _ _ _ _ _ _=>ln2 fun _ _=>rfl) (fun vs H Q E h => ?_) (fun f cdv A outer s H vs Q E hr h => ?_)
 ·obtain ⟨a,l,ts,C,ns,rfl,_⟩:=h
  rfl
 ·obtain ⟨a,l,ts,C,ns,rfl,ha,tb,gc,h8,hl,hlt,hnl,q⟩:=h
  have S:=zbU
  have hu:=zck hr
  refine ⟨_,zab (zah (i:=2) S.nd rfl (Aj rfl) (zdr))
  (zab (zaZ B8 rfl (zau (pv 1)) (zak (i:=3) S.nd rfl (Aj rfl))
   (zae (zaZ B8 rfl (zau (zat zaq (pv 0) (pv 3) (fun _ _=>rfl))) (zak (i:=4) S.nd rfl (Aj rfl))
    (zae (zcr hu (pv 2) (zat zbd (pv 4) (zac) (fun _ _=>rfl)) (zbJ) rfl)))))
  (zae (zai (zal (call_sortedDI rfl) rfl T.n_sorted J8 (zaa (pv 2) zad))))),?_⟩
  refine fun d nd => ?_
  have s1:Same H (upd H d (.dK [])):=Same.new nd
  refine ⟨_,rfl,_,rfl,⟨_,SqL.of (s1 _ _ hl)⟩,?_⟩
  refine zbA (zaj K l _) (fun i σ Hx=>Same H Hx/\∃ kvs rs x3 x4,σ = [some (.ref a),some (.ref l),some (.ref d),x3,x4]/\Hx d=some (.dK kvs)/\kvs.map (·.1)=rs.map Cp/\rs.Nodup/\kvs.length<=8 * i/\∀ n:Int,n∈rs ↔ ∃ t∈ns.take i,∃ p∈stp C t,p.2=n) ⟨s1,[],[],_,_,rfl,upd_same,rfl,D3,By _,fun n=>by simp⟩ (fun i σ Hx _ h=>SqL.of (h.1 _ _ hl)) ?_ ?_
  ·rintro i x σ Hx hx ⟨sx,kvs,rs,x3,x4,rfl,hd,hk,rn,hkl,hm⟩
   rw [Ad] at hx
   cases ht:ns[i]? with
   | none=>rw [ht] at hx; cases hx
   | some t =>
    rw [ht] at hx
    cases hx
    have hti:i < ns.length:=(Ah.mp ht).1
    have t128:=hlt t (Br ht)
    obtain ⟨qs,wss,e1,e2,e3⟩:=(tb.same sx).2 t t128
    have hwl:=e3.length
    have hw8:=zcq h8 t
    refine ⟨_,rfl,_,rfl,_,_,_,_,rfl,rfl,SqL.of (sx _ _ ha),zax e1,_,rfl,⟨_,SqL.of e2⟩,?_⟩
    have ek:ns.take (i + 1)=ns.take i ++ [t]:=zaA ht
    refine zbA (zaj K qs wss) (fun j σ Hy=>Same Hx (upd Hy d (.dK kvs))/\Same H Hy/\(∀ q o,q≠d->Hx q=some o->Hy q=some o)/\∃ kvs' rs' x4,σ = [some (.ref a),some (.ref l),some (.ref d),some (.int (t:Nat)),x4]/\Hy d=some (.dK kvs')/\kvs'.map (·.1)=rs'.map Cp/\rs'.Nodup/\kvs'.length<=8 * i + j/\∀ n:Int,n∈rs' ↔ (∃ t∈ns.take i,∃ p∈stp C t,p.2=n)\/∃ p∈(stp C t).take j,p.2=n) ⟨?_,sx,fun _ _ _ e=>e,kvs,rs,_,rfl,hd,hk,rn,by omega,fun n=>by rw [hm]; simp⟩ (fun j σ Hy _ h=>SqL.of (h.2.2.1 _ _ (fun z=>by rw [z,hd] at e2; cases e2) e2)) ?_ ?_
    ·intro q o e
     by_cases z:q=d
     ·rw [z,upd_same,<- hd,<- z,e]
     ·rw [zaf z]; exact e
    ·rintro j y σ Hy hy ⟨s0,sy,ky,kvs',rs',x4',rfl,hd',hk',rn',hkl',hm'⟩
     have hj:j < (stp C t).length:=by rw [<- hwl]; exact (Ah.mp hy).1
     obtain ⟨qa,e4,e5⟩:=e3.get (A8 hj)
     rw [hy] at e4
     cases e4
     have e5':=ky _ _ (fun z=>by rw [z,hd] at e5; cases e5) e5
     refine ⟨_,rfl,_,rfl,_,_,_,_,rfl,rfl,SqT.of e5',at1,_,_,rfl,DPut.k (k:=Cp _) hd' (Ae (by omega:kvs'.length < 2000) (by decide)),?_⟩
     refine ⟨?_,sy.put nd,fun q o z e=>(by rw [zaf z]; exact ky q o z e),_,if (stp C t)[j].2∈rs' then rs' else rs' ++ [(stp C t)[j].2],_,rfl,upd_same,?_,?_,?_,?_⟩
     ·intro q o e
      by_cases z:q=d
      ·rw [z,upd_same,<- hd,<- z,e]
      ·rw [zaf z,zaf z]; exact ky q o z e
     ·rw [zfc,hk']
      have:(Cp (stp C t)[j].2:Key)∈rs'.map Cp ↔ (stp C t)[j].2∈rs':=by
       rw [A7]
       exact ⟨fun ⟨z,hz,e⟩=>by injection e with e; rwa [<- e],fun h=>⟨_,h,rfl⟩⟩
      by_cases z:(stp C t)[j].2∈rs'
      ·rw [if_pos (this.mpr z),if_pos z]
      ·rw [if_neg (fun h=>z (this.mp h)),if_neg z,Ao]
       rfl
     ·split
      ·exact rn'
      ·rename_i z
       refine Bz.mpr ⟨rn',by simp,fun u hu v hv e => ?_⟩
       rw [A5.mp hv] at e
       exact z (e ▸ hu)
     ·have:=zcx kvs' (Cp (stp C t)[j].2:Key) (.bl true)
      omega
     ·intro n
      rw [Cz hj]
      have:n∈(if (stp C t)[j].2∈rs' then rs' else rs' ++ [(stp C t)[j].2]) ↔ n∈rs'\/(stp C t)[j].2=n:=by
       split
       ·rename_i z
        exact ⟨.inl,fun h=>h.elim id fun e=>e ▸ z⟩
       ·rw [An,A5]
        exact ⟨fun h=>h.elim .inl fun e => .inr e.symm,fun h=>h.elim .inl fun e => .inr e.symm⟩
      rw [this,hm']
      constructor
      ·rintro ((h | ⟨p,hp,e⟩) | e)
       ·exact .inl h
       ·exact .inr ⟨p,C9 _ hp,e⟩
       ·exact .inr ⟨_,Bt _ (A5.mpr rfl),e⟩
      ·rintro (h | ⟨p,hp,e⟩)
       ·exact .inl (.inl h)
       ·rcases An.mp hp with z | z
        ·exact .inl (.inr ⟨p,z,e⟩)
        ·rw [A5.mp z] at e
         exact .inr e
    ·rintro σ Hy ⟨s0,sy,ky,kvs',rs',x4',rfl,hd',hk',rn',hkl',hm'⟩
     refine ⟨sy,kvs',rs',_,_,rfl,hd',hk',rn',by omega,fun n => ?_⟩
     rw [hm',hwl,C6,ek]
     constructor
     ·rintro (⟨t',ht',p,hp,e⟩ | ⟨p,hp,e⟩)
      ·exact ⟨t',C9 _ ht',p,hp,e⟩
      ·exact ⟨t,Bt _ (A5.mpr rfl),p,hp,e⟩
     ·rintro ⟨t',ht',p,hp,e⟩
      rcases An.mp ht' with z | z
      ·exact .inl ⟨t',z,p,hp,e⟩
      ·rw [A5.mp z] at hp
       exact .inr ⟨p,hp,e⟩
  ·rintro σ Hx ⟨sx,kvs,rs,x3,x4,rfl,hd,hk,rn,hkl,hm⟩
   rw [A1] at hkl hm
   rw [C6] at hm
   have pm:=beh_keys gc hlt rn hm
   have hrl:rs.length<=128:=by
    rw [pm.length_eq,A1]
    exact zfX C ns
   refine ⟨_,rfl,d,kvs,rs,rfl,.inl hd,hk,by omega,fun p ns' np pp pw => ?_⟩
   have e:=zbu (pp.trans pm) pw (beh_sorted C ns)
   refine q p _ (sx.trans (Same.new np)) (sx.free np) ?_
   rw [upd_same,e,B5]
   rfl
theorem zb0 {C:A3} {G:A3->Prop} {H:Hp} {b l:A3} {cs:Combs} {past:List Combs} (B:Bk C G H b l cs past):GC (srt cs)/\(srt cs).length<=8:=by
 have g:=B.good
 have p:=zcc g.nd
 exact ⟨fun c hc=>(g.ok c (p.mem_iff.mp hc)).2,by rw [p.length_eq]; exact g.len⟩
noncomputable def sp_toend:Sp:=fun vs H Q _=>∃ (a:A3) (ts:List V) (C:Combs) (m:Nat),vs = [.ref a]/\H a=some (.lst ts)/\TabR H ts C/\GC C/\C.length<=8/\tr (rowAt C m) 0=false/\m<=128/\∀ p k ws H',Same H H'->H' p=some (.lst ws)->RowsN H' ws C k->rowN C k = []->(∀ j,j < k->rowN C j ≠ [])->k<=m->Q (.ref p) H'
theorem zbC:FnScope ["table","rows"] ["table"] (defScope s_rows_to_the_end):=⟨rfl,rfl,rfl,by decide +kernel,rfl,by decide +kernel,by decide +kernel⟩
theorem ok_toend (D:DefAt K mg "rows_to_the_end" s_rows_to_the_end) (T:Bn mg) (C_shapes_behind:Callee P w K mg base "shapes_behind" 1 ["table","shapes"] sp_behind):Callee P w K mg base "rows_to_the_end" 2 ["table"] sp_toend:=by
 refine D.callee zbC (fun _ _ _ _ _ _=>ln1 fun _=>rfl) (fun vs H Q E h => ?_) (fun f cdv A outer s H vs Q E hr h => ?_)
 ·obtain ⟨a,ts,C,m,rfl,_⟩:=h
  rfl
 ·obtain ⟨a,ts,C,m,rfl,ha,tb,gc,h8,hz,hm,q⟩:=h
  have S:=zbC
  refine ⟨_,zab (zah (i:=1) S.nd rfl (Aj rfl) (zaB (zaa (zaB (zaa (zac) zad)) zad)))
  (zab (zcd B8 (zap zfP (zal zar rfl T.n_len Bw (zaa (zat zaq (pv 1) (zct zbr (zac)) (fun _ _=>rfl)) zad)) (zac) (zav _))
   (zae (zaJ (zcV Bg Bm Bl zaH (pv 1) (zaa (zaz C_shapes_behind (hr.mono (by decide)) rfl (zaa (pv 0) (zaa (zat zaq (pv 1) (zct zbr (zac)) (fun _ _=>rfl)) zad))) zad)))))
  (zae (zai (pv 1)))),?_⟩
  refine ⟨bigr rfl,fun r0 nr0=>⟨bigr rfl,fun p np => ?_⟩⟩
  have s1:Same H (upd H r0 (.lst [.int 0])):=Same.new nr0
  have s2:Same (upd H r0 (.lst [.int 0])) (upd (upd H r0 (.lst [.int 0])) p (.lst [.ref r0])):=Same.new np
  have np0:H p=none:=s1.free np
  have rr:RowsN (upd (upd H r0 (.lst [.int 0])) p (.lst [.ref r0])) [.ref r0] C 0:=⟨rfl,fun i hi=>⟨r0,by rw [show i=0 by omega]; rfl,by rw [show i=0 by omega]; exact s2 _ _ upd_same⟩⟩
  refine ⟨fun k σ Hx=>∃ i ws,σ = [some (.ref a),some (.ref p)]/\Same H Hx/\Hx p=some (.lst ws)/\RowsN Hx ws C i/\(∀ j,j < i->rowN C j ≠ [])/\k=m - i,⟨_,0,_,rfl,s1.trans s2,upd_same,rr,fun j hj=>by omega,rfl⟩,?_⟩
  rintro k σ Hx ⟨i,ws,rfl,sx,hp,rx,hne,rfl⟩
  obtain ⟨ql,el1,el2⟩:=rx.2 i (A9 _)
  have him:i<=m:=by
   cases i with
   | zero=>omega
   | succ i=>have:=zgo gc hz (hne i (by omega)); omega
  refine ⟨_,rfl,_,rfl,_,_,_,_,rfl,rfl,SqL.of hp,zdn rx.1 el1,_,_,rfl,.inl (SqL.of el2),_,_,rfl,rfl,_,rfl,?_⟩
  rw [A1]
  by_cases e:rowN C i = []
  ·rw [e,decide_eq_false (show ¬ (0:Int) < (([]:List Nat).length:Nat) by decide)]
   refine iteF ?_
   exact ⟨_,rfl,q p i ws Hx sx hp rx e hne him⟩
  ·have hpos:0 < (rowN C i).length:=Is.mpr e
   rw [decide_eq_true (show (0:Int) < ((rowN C i).length:Nat) by omega)]
   refine iteT ?_
   have hlt:=zgo gc hz e
   refine ⟨fun σ' H'=>∃ m',m' < m - i/\∃ i ws,σ' = [some (.ref a),some (.ref p)]/\Same H H'/\H' p=some (.lst ws)/\RowsN H' ws C i/\(∀ j,j < i->rowN C j ≠ [])/\m'=m - i,fun _ _ h=>h,?_⟩
   refine ⟨_,rfl,.inl ⟨rfl,_,SqL.of hp⟩,_,rfl,_,rfl,_,rfl,_,_,_,_,rfl,rfl,SqL.of hp,zdn rx.1 el1,?_⟩
   refine ⟨a,ql,ts,C,rowN C i,rfl,sx _ _ ha,tb.same sx,gc,h8,el2,(zc9 C i).1,(zc9 C i).2,fun p2 H2 s2 np2 hp2 => ?_⟩
   have hwl:=rx.1
   refine ⟨p,ws,_,rfl,rfl,s2 _ _ hp,Ae (by omega:ws.length < 1000) zaO,?_⟩
   refine ⟨_,(by omega:m - (i + 1) < m - i),i + 1,_,rfl,(sx.trans s2).put np0,upd_same,(rx.same s2).snoc (s2 _ _ hp) hp2,fun j hj => ?_,rfl⟩
   by_cases ej:j=i
   ·rw [ej]; exact e
   ·exact hne j (by omega)
noncomputable def sp_fstrip:Sp:=fun vs H Q _=>∃ (t ls pl:A3) (st n:Nat) (f:Nat->Nat) (ws:List V),vs = [.ref t]/\H t=some (.tup [.int (st:Nat),.ref ls,.ref pl])/\H ls=some (.lst ((Af n).map fun j=>V.int (f j:Nat)))/\H pl=some (.lst ws)/\st < n/\n<=128 /\
 ∀ p H',Same H H'->H' p=some (.tup [.str (A2 "filled"),.int (st:Nat),.int ((n - st:Nat):Int),.ref pl])->Q (.ref p) H'
theorem at3s {x y z:V}:atI [x,y,z] 0=some x/\atI [x,y,z] 1=some y/\atI [x,y,z] 2=some z:=⟨show atI _ ((0:Nat):Int)=_ from zax rfl,show atI _ ((1:Nat):Int)=_ from zax rfl,show atI _ ((2:Nat):Int)=_ from zax rfl⟩
theorem zb1:FnScope ["walk","start"] ["walk"] (defScope s_filled_strip):=⟨rfl,rfl,rfl,by decide +kernel,rfl,by decide +kernel,by decide +kernel⟩
theorem ok_fstrip (D:DefAt K mg "filled_strip" s_filled_strip) (T:Bn mg):Callee P w K mg base "filled_strip" 1 ["walk"] sp_fstrip:=by
 refine D.callee zb1 (fun _ _ _ _ _ _=>ln1 fun _=>rfl) (fun vs H Q E h => ?_) (fun f cdv A outer s H vs Q E hr h => ?_)
 ·obtain ⟨t,ls,pl,st,n,f,ws,rfl,_⟩:=h
  rfl
 ·obtain ⟨t,ls,pl,st,n,fs,ws,rfl,ht,hls,hpl,hst,hn,q⟩:=h
  have S:=zb1
  refine ⟨_,zab (zah (i:=1) S.nd rfl (Aj rfl) (zat zbd (pv 0) (zac) (fun _ _=>rfl)))
  (zae (zai (zbp (zaa (zaP) (zaa (pv 1) (zaa (zaw zdm (zal zar rfl T.n_len Bw (zaa (zat zbd (pv 0) (zac) (fun _ _=>rfl)) zad)) (pv 1)) (zaa (zat zbd (pv 0) (zac) (fun _ _=>rfl)) zad))))))),?_⟩
  refine ⟨_,rfl,_,_,_,_,rfl,rfl,SqT.of ht,at3s.1,?_⟩
  refine ⟨_,rfl,_,rfl,_,_,_,_,rfl,rfl,SqT.of ht,at3s.2.1,_,_,rfl,.inl (SqL.of hls),_,rfl,_,_,rfl,rfl,_,rfl,_,_,_,_,rfl,rfl,SqT.of ht,at3s.2.2,bigr rfl,fun p np => ?_⟩
  refine q p _ (Same.new np) ?_
  rw [upd_same,A1,B0]
  show some (HO.tup [V.str (A2 "filled"),V.int (st:Nat),V.int (((n:Nat):Int) - ((st:Nat):Int)),V.ref pl])=_
  rw [show ((n:Nat):Int) - ((st:Nat):Int)=((n - st:Nat):Int) by omega]
noncomputable def StripD (C:Combs) (m start n:Nat):Prop:=nxtRow C (rowAt C m)=rowAt C m/\tr (rowAt C m) 0=true/\start < n/\n<=128/\wk C (rowAt C m) 0 n=wk C (rowAt C m) 0 start/\((Af n).map (wk C (rowAt C m) 0)).Nodup
noncomputable def StripR (H:Hp) (t:A3) (C:Combs):Prop :=
 (∃ m start n pl ws,StripD C m start n/\H t=some (.tup [.str (A2 "filled"),.int (start:Nat),.int ((n - start:Nat):Int),.ref pl])/\H pl=some (.lst ws)/\LaysR H ws (wn C (rowAt C m) 0) n) \/
 (∃ m k pr ws,nxtRow C (rowAt C m)=rowAt C m/\tr (rowAt C m) 0=false/\rowN C k = []/\(∀ j,j < k->rowN C j ≠ [])/\k<=128/\H t=some (.tup [.str (A2 "stuck"),.int (((k + 1:Nat):Int) - 2),.ref pr])/\H pr=some (.lst ws)/\RowsN H ws C k)
theorem StripR.same {H H':Hp} {t:A3} {C:Combs} (h:StripR H t C) (s:Same H H'):StripR H' t C:=by
 rcases h with ⟨m,st,n,pl,ws,a,b,c,d⟩ | ⟨m,k,pr,ws,a,b,c,d,e,f,g,i⟩
 ·exact .inl ⟨m,st,n,pl,ws,a,s _ _ b,s _ _ c,d.mono fun _ _ z=>s _ _ z⟩
 ·exact .inr ⟨m,k,pr,ws,a,b,c,d,e,s _ _ f,s _ _ g,i.same s⟩
noncomputable def sp_strip (C:A3):Sp:=fun vs H Q _=>∃ b l G cs past,vs = [.ref b]/\Bk C G H b l cs past/\∀ t H',Same H H'->StripR H' t (srt cs)->Q (.ref t) H'
theorem zcO:FnScope ["book","table","lasting","rows"] ["book"] (defScope s_fill_strip):=⟨rfl,rfl,rfl,by decide +kernel,rfl,by decide +kernel,by decide +kernel⟩
theorem ok_strip {C:A3} (D:DefAt K mg "fill_strip" s_fill_strip) (T:Bn mg) (C_step_table:Callee1 P w K mg base "step_table" 4 ["book"] (sp_table C)) (C_rows_going_on:Callee P w K mg base "rows_going_on" 3 ["table"] sp_rows) (C_walk_round:Callee P w K mg base "walk_round" 2 ["table","lasting","shape"] sp_walk)
  (C_filled_strip:Callee P w K mg base "filled_strip" 1 ["walk"] sp_fstrip) (C_rows_to_the_end:Callee P w K mg base "rows_to_the_end" 2 ["table"] sp_toend):Callee1 P w K mg base "fill_strip" 5 ["book"] (sp_strip C):=by
 refine D.callee1 zcO (fun _ _ _ _ _ _=>ln1 fun _=>rfl) (fun vs H Q E h => ?_) (fun f cdv A outer s H vs Q E hr h => ?_)
 ·obtain ⟨b,l,G,cs,past,rfl,_⟩:=h
  rfl
 ·obtain ⟨b,l,G,cs,past,rfl,B,q⟩:=h
  have S:=zcO
  have hu:=zck hr
  obtain ⟨gc,h8⟩:=zb0 B
  refine ⟨_,zab (zah (i:=1) S.nd rfl (Aj rfl) (zba C_step_table (hr.mono (by decide)) (by first | exact pass_try | exact zbb | exact zay) rfl (zaa (pv 0) zad)))
  (zab (zah (i:=2) S.nd rfl (Aj rfl) (zat zaq (zaz C_rows_going_on (hr.mono (by decide)) rfl (zaa (pv 1) zad)) (zct zbr (zac)) (fun _ _=>rfl)))
  (zab (zaF (zbl (zat zaq (pv 2) (zac) (fun _ _=>rfl)))
   (zae (zai (zaz C_filled_strip (hr.mono (by decide)) rfl (zaa (zaz C_walk_round (hr.mono (by decide)) rfl (zaa (pv 1) (zaa (pv 2) (zaa (zac) zad)))) zad))))
   (zan))
  (zab (zah (i:=3) S.nd rfl (Aj rfl) (zaz C_rows_to_the_end (hr.mono (by decide)) rfl (zaa (pv 1) zad)))
  (zae (zai (zbp (zaa (zaP) (zaa (zaw zdm (zal zar rfl T.n_len Bw (zaa (pv 3) zad)) (zac)) (zaa (pv 3) zad))))))))),?_⟩
  refine ⟨_,rfl,b,l,G,cs,past,rfl,B,fun a H1 ts s1 na ha tb => ?_⟩
  refine ⟨_,rfl,a,ts,srt cs,rfl,ha,tb,gc,h8,fun p H2 ws m s2 np hp rr hfix hm => ?_⟩
  obtain ⟨ql,el1,el2⟩:=rr.2 m (A9 _)
  refine ⟨_,rfl,_,_,_,_,rfl,rfl,SqL.of hp,zdn rr.1 el1,?_⟩
  refine ⟨_,rfl,_,_,_,_,rfl,rfl,SqL.of el2,zfY (t:=0) (by decide) (by rw [za6]; decide),_,rfl,?_⟩
  show if tr (rowAt (srt cs) m) 0=true then _ else _
  refine ite2 (fun ht => ?_) (fun ht => ?_)
  ·refine ⟨_,rfl,_,rfl,a,ql,ts,srt cs,rowAt (srt cs) m,0,rfl,s2 _ _ ha,tb.same s2,gc,h8,el2,za6 _ _,hfix,by decide,ht,fun t ls pl st n wl H3 s3 hst hn hw nd ht3 hls hpl lr => ?_⟩
   refine ⟨t,ls,pl,st,n,_,wl,rfl,ht3,hls,hpl,hst,hn,fun p4 H4 s4 hp4 => ?_⟩
   exact q p4 H4 (((s1.trans s2).trans s3).trans s4) (.inl ⟨m,st,n,pl,wl,⟨hfix,ht,hst,hn,hw,nd⟩,hp4,s4 _ _ hpl,lr.mono fun _ _ e=>s4 _ _ e⟩)
  ·have ht:tr (rowAt (srt cs) m) 0=false:=by simpa using ht
   refine ⟨_,rfl,a,ts,srt cs,m,rfl,s2 _ _ ha,tb.same s2,gc,h8,ht,hm,fun p3 k wr H3 s3 hp3 rn e1 e2 e3 => ?_⟩
   refine ⟨_,rfl,_,_,rfl,.inl (SqL.of hp3),_,_,rfl,rfl,_,rfl,bigr rfl,fun t nt => ?_⟩
   have s4:Same H3 (upd H3 t (.tup [.str (A2 "stuck"),.int (((wr.length:Nat):Int) - 2),.ref p3])):=Same.new nt
   refine q t _ (((s1.trans s2).trans s3).trans s4) (.inr ⟨m,k,p3,wr,hfix,ht,e1,e2,by omega,?_,s4 _ _ hp3,rn.same s4⟩)
   rw [upd_same,rn.1]
noncomputable def sp_short:Sp:=fun vs H Q _=>∃ (a:A3) (ts:List V) (C:Combs),vs = [.ref a]/\H a=some (.lst ts)/\TabR H ts C/\GC C/\C.length<=8/\∀ (t:Nat) (H':Hp),Same H H'->((t=0/\∀ n,1<=n->¬ Fil C n)\/(1<=t/\t<=128/\Fil C t))->Q (.int (t:Nat)) H'
theorem zgw (l:List Nat):(l.map fun s=>V.int (s:Nat))=(l.map fun (s:Nat)=>(s:Int)).map V.int:=by rw [B5]; rfl
theorem in_nats (x:Nat) (l:List Nat):inV (V.int (x:Nat)) (l.map fun s=>V.int (s:Nat))=decide (x∈l):=by
 rw [zgw,zfS,decide_eq_decide,A7]
 exact ⟨fun ⟨y,h,e⟩=>by rw [show x=y by omega]; exact h,fun h=>⟨x,h,rfl⟩⟩
theorem zgE (l:List Nat):inV (V.int 0) (l.map fun s=>V.int (s:Nat))=decide (0∈l):=in_nats 0 l
theorem zfv (l:List Nat):(l.map fun s=>V.int (s:Nat)).all flatV=true:=by rw [zgw]; exact zhN _
theorem zbB:FnScope ["table","shapes","length"] ["table"] (defScope s_shortest_length):=⟨rfl,rfl,rfl,by decide +kernel,rfl,by decide +kernel,by decide +kernel⟩
theorem ok_short (D:DefAt K mg "shortest_length" s_shortest_length) (T:Bn mg) (V_SHAPES:∃ t,mg "SHAPES" = some (.int 128 t)) (C_shapes_behind:Callee P w K mg base "shapes_behind" 1 ["table","shapes"] sp_behind):Callee P w K mg base "shortest_length" 2 ["table"] sp_short:=by
 refine D.callee zbB (fun _ _ _ _ _ _=>ln1 fun _=>rfl) (fun vs H Q E h => ?_) (fun f cdv A outer s H vs Q E hr h => ?_)
 ·obtain ⟨a,ts,C,rfl,_⟩:=h
  rfl
 ·obtain ⟨a,ts,C,rfl,ha,tb,gc,h8,q⟩:=h
  have S:=zbB
  refine ⟨_,zab (zah (i:=1) S.nd rfl (Aj rfl) (zaB (zaa (zac) zad)))
  (zab (zaZ B8 rfl (pi_range2 rfl T.n_range (zaa (zac) (zaa (zaw zbw (zbO rfl V_SHAPES) (zac)) zad))) (zak (i:=2) S.nd rfl (Aj rfl))
   (zab (zah (i:=1) S.nd rfl (Aj rfl) (zaz C_shapes_behind (hr.mono (by decide)) rfl (zaa (pv 0) (zaa (pv 1) zad))))
   (zae (zaF (zap zcX (zac) (pv 1) (by with_unfolding_all rfl))
    (zae (zai (pv 2)))
    (zan)))))
  (zae (zai (zac)))),?_⟩
  refine ⟨bigr rfl,fun p0 np0 => ?_⟩
  have s1:Same H (upd H p0 (.lst [.int 0])):=Same.new np0
  refine ⟨_,_,rfl,rfl,_,_,rfl,by decide,?_⟩
  refine zbA (zaT 1 ((128:Int) + 1 - 1).toNat) (fun i σ Hx=>Same H Hx/\(∀ n,1<=n->n<=i->¬ Fil C n)/\∃ p x2,σ = [some (.ref a),some (.ref p),x2]/\Hx p=some (.lst ((rowN C i).map fun s=>V.int (s:Nat)))) ⟨s1,fun n h1 h2=>by omega,p0,_,rfl,upd_same⟩ (fun _ _ _ _ _=>trivial) ?_ ?_
  ·rintro i x σ Hx hx ⟨sx,hno,p,x2,rfl,hp⟩
   obtain ⟨hi,rfl⟩:=zbv hx
   have hi:i < 128:=hi
   refine ⟨_,rfl,_,rfl,a,p,ts,C,rowN C i,rfl,sx _ _ ha,tb.same sx,gc,h8,hp,(zc9 C i).1,(zc9 C i).2,fun p2 H2 s2 np2 hp2 => ?_⟩
   have hf:decide (0∈rowN C (i + 1))=true ↔ Fil C (i + 1):=by
    rw [decide_eq_true_eq,zc8 gc]; exact Iff.rfl
   refine ⟨_,rfl,_,_,rfl,.inl (SqL.of hp2),rfl,zfv _,_,rfl,?_⟩
   rw [if_neg Aa,zgE]
   refine ite2 (fun h0 => ?_) (fun h0 => ?_)
   ·refine ⟨_,rfl,?_⟩
    have:=q (i + 1) H2 (sx.trans s2) (.inr ⟨by omega,by omega,hf.mp h0⟩)
    rw [show (1:Int) + ((i:Nat):Int)=((i + 1:Nat):Int) by omega]
    exact this
   ·refine ⟨sx.trans s2,fun n h1 h2 hn => ?_,p2,_,rfl,hp2⟩
    by_cases z:n=i + 1
    ·subst z; exact h0 (hf.mpr hn)
    ·exact hno n h1 (by omega) hn
  ·rintro σ Hx ⟨sx,hno,p,x2,rfl,hp⟩
   rw [zbL] at hno
   refine q 0 Hx sx (.inl ⟨rfl,fun n h1 hn => ?_⟩)
   obtain ⟨m,m1,m2,m3⟩:=fil_small gc n hn h1
   exact hno m m1 m2 m3
noncomputable def lkv (l:List (Nat×Nat)):List (Key×V):=l.map fun x=>(Cp ((x.1:Nat):Int),V.int ((x.2:Nat):Int))
noncomputable def pkey (x:Nat×Nat):List Key:=kI [((x.1:Nat):Int),((x.2:Nat):Int)]
theorem pkey_inj {x y:Nat×Nat} (h:pkey x=pkey y):x=y:=by
 have:=zen h
 injection this with a b
 injection b with b _
 exact K8 (by omega) (by omega)
theorem pkey_mem {S:List (Nat×Nat)} {x:Nat×Nat}:pkey x∈S.map pkey ↔ x∈S:=by
 rw [A7]
 exact ⟨fun ⟨y,h,e⟩=>pkey_inj e ▸ h,fun h=>⟨x,h,rfl⟩⟩
theorem zgz (l:List (Nat×Nat)):(lkv l).map (·.1)=l.map fun x=>(Cp ((x.1:Nat):Int):Key):=by
 unfold lkv; rw [B5]; rfl
theorem inl_nd {l:List (Nat×Nat)} (nd:(l.map (·.1)).Nodup):((lkv l).map (·.1)).Nodup:=by
 rw [zgz,Fb,Bb]
 rw [Fb,Bb] at nd
 exact nd.imp fun h e=>h (by injection e with e; omega)
theorem zeN {l:List (Nat×Nat)} (nd:(l.map (·.1)).Nodup) {r ℓ : Nat} (h:(r,ℓ)∈l):valV (lkv l) (Cp ((r:Nat):Int))=some (.int ((ℓ : Nat):Int)):=by
 obtain ⟨i,hi⟩:=List.mem_iff_getElem?.mp h
 refine zez (inl_nd nd) (i:=i) ?_
 unfold lkv
 rw [Ad,hi]
 rfl
theorem zgy {l:List (Nat×Nat)} {r:Nat} (h:∀ ℓ,(r,ℓ) ∉ l):valV (lkv l) (Cp ((r:Nat):Int))=none:=by
 cases e:valV (lkv l) (Cp ((r:Nat):Int)) with
 | none=>rfl
 | some v =>
  exfalso
  have:=valV_mem.mp (show (valV (lkv l) (Cp ((r:Nat):Int):Key)).isSome=true by rw [e]; rfl)
  rw [zgz,A7] at this
  obtain ⟨x,hx,ex⟩:=this
  injection ex with ex
  have:x.1=r:=by omega
  exact h x.2 (by rw [<- this]; exact hx)
theorem pairs_bound {S:List (Nat×Nat)} (nd:S.Nodup) (h:∀ x∈S,x.1 < 128/\x.2 < 128):S.length<=16384:=by
 have:=zaG 16384 (S.map fun x=>x.1 + 128 * x.2) (by
  rw [Fb,Bb]
  rw [E8] at nd
  refine Et (fun {x y} hx hy hn e=>hn ?_) nd
  have:=h x hx
  have:=h y hy
  exact K8 (by omega) (by omega)) (fun y hy=>by
  obtain ⟨x,hx,rfl⟩:=A7.mp hy
  have:=h x hx
  omega)
 rwa [A1] at this
noncomputable def sp_least:Sp:=fun vs H Q _=>∃ (a:A3) (ts:List V) (C:Combs) (t:Nat),vs = [.ref a,.int (t:Nat)]/\H a=some (.lst ts)/\TabR H ts C/\GC C/\C.length<=8/\1<=t/\t<=128/\∀ (d:A3) (l:List (Nat×Nat)) (N:Nat) (H':Hp),Same H H'->H d=none->H' d=some (.dK (lkv l))->LeastL C t N l->(∀ s,¬ Fst C t N s)->N<=16384->Q (.ref d) H'
theorem zbW:FnScope ["table","turn","least","seen","shapes","length","rest","shape","behind"] ["table","turn"] (defScope s_least_lengths):=⟨rfl,rfl,rfl,by decide +kernel,rfl,by decide +kernel,by decide +kernel⟩
theorem ok_least (D:DefAt K mg "least_lengths" s_least_lengths) (T:Bn mg) (C_shapes_behind:Callee P w K mg base "shapes_behind" 1 ["table","shapes"] sp_behind):Callee P w K mg base "least_lengths" 2 ["table","turn"] sp_least:=by
 refine D.callee zbW (fun _ _ _ _ _ _=>ln2 fun _ _=>rfl) (fun vs H Q E h => ?_) (fun f cdv A outer s H vs Q E hr h => ?_)
 ·obtain ⟨a,ts,C,t,rfl,_⟩:=h
  rfl
 ·obtain ⟨a,ts,C,t,rfl,ha,tb,gc,h8,t1,t2,q⟩:=h
  have S:=zbW
  have hu:=zck hr
  have hsz:(20000:Nat)<=sizeLine:=by decide
  refine ⟨_,zab (zah (i:=2) S.nd rfl (Aj rfl) (zdr))
  (zab (zah (i:=3) S.nd rfl (Gk rfl) (zeJ))
  (zab (zah (i:=4) S.nd rfl (Aj rfl) (zaB (zaa (zac) zad)))
  (zab (zah (i:=5) S.nd rfl (Gk rfl) (zac))
  (zab (zcd B8 (zap zfP (zal zar rfl T.n_len Bw (zaa (pv 4) zad)) (zac) (zav _))
   (zab (zah (i:=6) S.nd rfl (Aj rfl) (zaw zbo (pv 5) (pv 1)))
   (zbi (zaF (zap zcX (zac) (pv 4) (by with_unfolding_all rfl))
    (zae (zcr hu (pv 2) (pv 6) (pv 5) rfl))
    (zan))
   (zab (zaZ B8 rfl (zau (pv 4)) (zak (i:=7) S.nd rfl (Aj rfl))
    (zae (zcr hu (pv 3) (zbp (zaa (pv 7) (zaa (pv 6) zad))) (zbJ) rfl)))
   (zab (zah (i:=5) S.nd rfl (Gk rfl) (zaw zbw (pv 5) (zac)))
   (zab (zah (i:=8) S.nd rfl (Aj rfl) (zaz C_shapes_behind (hr.mono (by decide)) rfl (zaa (pv 0) (zaa (pv 4) zad))))
   (zae (ps_setC (i:=4) S.nd rfl (Aj rfl) (own := ["further"]) (caps := [(5,"length"),(1,"turn"),(3,"seen")]) rfl ⟨rfl,rfl,rfl,rfl,⟨⟨rfl,rfl,.inl rfl⟩,⟨rfl,rfl,.inl rfl⟩,⟨rfl,rfl,.inl rfl⟩,trivial⟩⟩ (zau (pv 8)) (fun _ _ _ _ _ _=>zak (i:=0) (zaK (by decide +kernel)) rfl (Aj rfl)) (fun _ _ _ _ _ _=>zda (zfd (zcW hu (zbp (zaa (pv 0) (zaa (zaw zbo (pv 1) (pv 2)) zad))) (pv 3)))) (fun _ _ _ _ _ _=>pv 0)))))))))
  (zae (zai (pv 2))))))),?_⟩
  refine fun d nd => ?_
  have s1:Same H (upd H d (.dK [])):=Same.new nd
  have hd1:upd H d (.dK []) d=some (.dK []):=upd_same
  generalize upd H d (.dK [])=H1 at s1 hd1 ⊢
  refine fun se nse => ?_
  have s2:Same H1 (upd H1 se (.dT [])):=Same.new nse
  have hse2:upd H1 se (.dT []) se=some (.dT []):=upd_same
  have nse0:=s1.free nse
  have hds:d≠se:=fun z=>by rw [<- z,hd1] at nse; cases nse
  have hd2:=s2 _ _ hd1
  have s12:=s1.trans s2
  generalize upd H1 se (.dT [])=H2 at s12 hse2 hd2 ⊢
  refine ⟨bigr rfl,fun p0 np0 => ?_⟩
  have s3:Same H2 (upd H2 p0 (.lst [.int 0])):=Same.new np0
  have hp3:upd H2 p0 (.lst [.int 0]) p0=some (.lst (([0]:List Nat).map fun s=>V.int (s:Nat))):=upd_same
  have s13:=s12.trans s3
  have hd3:=s3 _ _ hd2
  have hse3:=s3 _ _ hse2
  generalize upd H2 p0 (.lst [.int 0])=H3 at s13 hp3 hd3 hse3 ⊢
  let J:Nat->Hp->L2.St->Prop:=fun m Hx σ => Same H Hx/\∃ (ℓ : Nat) (p:Addr) (sh:List Nat) (l:List (Nat×Nat)) (svs:List (List Key×V)) (Sn:List (Nat×Nat)) (x6 x7 x8:Option V),m=20000 - Sn.length /\ σ = [some (.ref a),some (.int (t:Nat)),some (.ref d),some (.ref se),some (.ref p),some (.int (ℓ : Nat)),x6,x7,x8]/\Hx p=some (.lst (sh.map fun s=>V.int (s:Nat)))/\sh.Nodup/\(∀ s,s∈sh ↔ Fst C t ℓ s)/\Hx d=some (.dK (lkv l))/\LeastL C t ℓ l/\Hx se=some (.dT svs)/\svs.map (·.1)=Sn.map pkey/\Sn.Nodup/\(∀ s r,(s,r)∈Sn ↔ ∃ ℓ',ℓ' < ℓ /\ r = ℓ' % t/\rch C 0 ℓ' s) /\ ℓ <= Sn.length
  have J0:J 20000 H3 [some (.ref a),some (.int (t:Nat)),some (.ref d),some (.ref se),some (.ref p0),some (.int 0),none,none,none]:=by
   refine ⟨s13,0,p0,[0],[],[],[],none,none,none,rfl,rfl,hp3,by simp,fun s => ?_,hd3,⟨D3,fun r ℓ => ?_⟩,hse3,rfl,D3,fun s r => ?_,A9 _⟩
   ·rw [A5]
    exact ⟨fun h=>⟨h,fun ℓ' h'=>by omega⟩,fun h=>h.1⟩
   ·exact ⟨fun h=>(by cases h),fun h=>(by omega)⟩
   ·exact ⟨fun h=>(by cases h),fun ⟨ℓ',h,_⟩=>(by omega)⟩
  refine ⟨fun m σ Hx=>J m Hx σ,⟨_,J0⟩,?_⟩
  clear J0 s13 hp3 hd3 hse3
  rintro m σ Hx ⟨sx,ℓ,p,sh,l,svs,Sn,x6,x7,x8,rfl,rfl,hp,shn,hsh,hd,hl,hse,hsk,snn,hSn,hle⟩
  have hlt:∀ s∈sh,s < 128:=fun s hs=>zeh gc (by decide) ((hsh s).mp hs).1
  have hs128:=zaG 128 sh shn hlt
  have hmod:∀ n,n % t < t:=fun n=>Nat.mod_lt _ (by omega)
  have snb:Sn.length<=16384:=pairs_bound snn fun x hx=>by
   obtain ⟨s,r⟩:=x
   obtain ⟨ℓ',_,e,h⟩:=(hSn s r).mp hx
   exact ⟨zeh gc (by decide) h,by have:=hmod ℓ'; show r < 128; omega⟩
  refine ⟨_,rfl,_,_,rfl,.inl (SqL.of hp),_,_,rfl,rfl,_,rfl,?_⟩
  rw [A1]
  by_cases hem:sh = []
  ·subst hem
   rw [decide_eq_false (by simp)]
   refine iteF ?_
   exact ⟨_,rfl,q d l ℓ Hx sx nd hd hl (fun s hs=>by have:=(hsh s).mpr hs; cases this) (by omega)⟩
  have hpos:0 < sh.length:=Is.mpr hem
  rw [decide_eq_true (show (0:Int) < ((sh.length:Nat):Int) by omega)]
  refine iteT ?_
  refine ⟨fun σ' H'=>∃ m',m' < 20000 - Sn.length/\J m' H' σ',fun _ _ h=>h,?_⟩
  have emod:((ℓ : Nat):Int) % ((t:Nat):Int)=((ℓ % t:Nat):Int):=(Int.natCast_emod ℓ t).symm
  refine ⟨_,rfl,_,rfl,_,_,rfl,rfl,show (0:Int) < ((t:Nat):Int) by omega,?_⟩
  refine ⟨fun σ Hy=>Same H Hy/\Hy p=some (.lst (sh.map fun s=>V.int (s:Nat)))/\Hy se=some (.dT svs) /\ σ = [some (.ref a),some (.int (t:Nat)),some (.ref d),some (.ref se),some (.ref p),some (.int (ℓ : Nat)),some (.int (((ℓ : Nat):Int) % ((t:Nat):Int))),x7,x8]/\∃ l',Hy d=some (.dK (lkv l'))/\LeastL C t (ℓ + 1) l',?_,?_⟩
  ·refine ⟨_,rfl,_,_,rfl,.inl (SqL.of hp),rfl,zfv _,_,rfl,?_⟩
   rw [if_neg Aa,zgE]
   refine ite2 (fun h0 => ?_) (fun h0 => ?_)
   ·have h0:=(hsh 0).mp (of_decide_eq_true h0)
    have hno:∀ ℓ',(ℓ % t,ℓ') ∉ l:=fun ℓ' z=>by
     obtain ⟨a1,a2,a3⟩:=(hl.2 _ _).mp z
     exact h0.2 ℓ' a1 a2.symm a3.1
    have hln:l.length<=16384:=by
     have:=zaG 16384 (l.map (·.1)) hl.1 (fun y hy=>by
      obtain ⟨⟨r,ℓ'⟩,hx,rfl⟩:=A7.mp hy
      obtain ⟨_,a2,_⟩:=(hl.2 _ _).mp hx
      have:=hmod ℓ'
      show r < 16384
      omega)
     rwa [A1] at this
    refine ⟨_,rfl,_,rfl,_,rfl,d,_,rfl,DPut.k (k:=Sum.inl (((ℓ : Nat):Int) % ((t:Nat):Int))) hd (by unfold lkv; rw [List.length_map]; omega),?_⟩
    rw [emod,zcT _ (zgy hno)]
    have hpd:p≠d:=fun z=>by rw [z,hd] at hp; cases hp
    refine ⟨sx.put nd,by rw [zaf hpd]; exact hp,by rw [zaf hds.symm]; exact hse,rfl,l ++ [(ℓ % t,ℓ)],?_,?_⟩
    ·rw [upd_same]
     unfold lkv
     rw [Ao]
     rfl
    ·refine ⟨?_,fun r ℓ' => ?_⟩
     ·rw [Ao]
      refine Bz.mpr ⟨hl.1,by simp,fun u hu' v hv e => ?_⟩
      obtain ⟨⟨r,ℓ'⟩,hx,rfl⟩:=A7.mp hu'
      have hv:v = ℓ % t:=by simpa using hv
      rw [hv] at e
      dsimp only at e
      rw [e] at hx
      exact hno _ hx
     ·rw [An,hl.2,A5]
      constructor
      ·rintro (⟨a1,a2,a3⟩ | e)
       ·exact ⟨by omega,a2,a3⟩
       ·injection e with e1 e2
        subst e1 e2
        exact ⟨by omega,rfl,h0⟩
      ·rintro ⟨a1,a2,a3⟩
       by_cases z : ℓ' = ℓ
       ·subst z; exact .inr (by rw [a2])
       ·exact .inl ⟨by omega,a2,a3⟩
   ·refine ⟨sx,hp,hse,rfl,l,hd,hl.1,fun r ℓ' => ?_⟩
    rw [hl.2]
    constructor
    ·rintro ⟨a1,a2,a3⟩
     exact ⟨by omega,a2,a3⟩
    ·rintro ⟨a1,a2,a3⟩
     refine ⟨?_,a2,a3⟩
     by_cases z : ℓ' = ℓ
     ·subst z; exact absurd (decide_eq_true ((hsh 0).mpr a3)) h0
     ·omega
  rintro σ Hy ⟨sy,hpy,hsey,rfl,l',hdy,hl'⟩
  rw [emod]
  clear hp hse hd
  have hnewS:∀ s∈sh,(s,ℓ % t) ∉ Sn:=fun s hs z=>by
   obtain ⟨ℓ',a1,a2,a3⟩:=(hSn _ _).mp z
   exact ((hsh s).mp hs).2 ℓ' a1 a2.symm a3
  have hpse:p≠se:=fun z=>by rw [z,hsey] at hpy; cases hpy
  refine ⟨_,rfl,_,rfl,⟨_,SqL.of hpy⟩,?_⟩
  refine zbA (zaj K p _) (fun i σ Hz=>Same H Hz/\Hz p=some (.lst (sh.map fun s=>V.int (s:Nat)))/\Hz d=some (.dK (lkv l'))/\∃ (svs':List (List Key×V)) (x7:Option V),σ = [some (.ref a),some (.int (t:Nat)),some (.ref d),some (.ref se),some (.ref p),some (.int (ℓ : Nat)),some (.int ((ℓ % t:Nat):Int)),x7,x8]/\Hz se=some (.dT svs')/\svs'.map (·.1)=(Sn ++ (sh.take i).map fun s=>(s,ℓ % t)).map pkey) ⟨sy,hpy,hdy,svs,_,rfl,hsey,by rw [List.take_zero,List.map_nil,List.append_nil]; exact hsk⟩ (fun i σ Hz _ h=>SqL.of h.2.1) ?_ ?_
  ·rintro i x σ Hz hx ⟨sz,hpz,hdz,svs',x7',rfl,hsez,hskz⟩
   rw [Ad] at hx
   cases es:sh[i]? with
   | none=>rw [es] at hx; cases hx
   | some s0 =>
    rw [es] at hx
    cases hx
    have hi:i < sh.length:=(Ah.mp es).1
    refine ⟨_,rfl,_,rfl,_,rfl,bigr rfl,fun tk ntk => ?_⟩
    have s5:Same Hz (upd Hz tk (.tup [.int ((s0:Nat):Int),.int ((ℓ % t:Nat):Int)])):=Same.new ntk
    have htk:upd Hz tk (.tup [.int ((s0:Nat):Int),.int ((ℓ % t:Nat):Int)]) tk=some (.tup ((pkey (s0,ℓ % t)).map kV)):=by
     rw [upd_same]; unfold pkey; rw [kI_V]; rfl
    have hvl:svs'.length<=17000:=by
     have:=congrArg Fe hskz
     rw [A1,A1,Ab,A1,Cf] at this
     omega
    refine ⟨se,_,rfl,DPut.t (k:=pkey (s0,ℓ % t)) (s5 _ _ hsez) htk (by omega),?_⟩
    have hnone:valV svs' (pkey (s0,ℓ % t))=none:=by
     cases ez:valV svs' (pkey (s0,ℓ % t)) with
     | none=>rfl
     | some v =>
      exfalso
      have z:=valV_mem.mp (show (valV svs' (pkey (s0,ℓ % t))).isSome=true by rw [ez]; rfl)
      rw [hskz,pkey_mem] at z
      rcases An.mp z with z | z
      ·exact hnewS s0 (Br es) z
      ·obtain ⟨s',hs',e'⟩:=A7.mp z
       injection e' with e' _
       subst e'
       obtain ⟨n,hn,en⟩:=Ei hs'
       rw [Cf] at hn
       rw [Gn] at en
       have:n=i:=(Mi (l:=sh) (by omega) shn).mp (by rw [es,A8 (by omega),en])
       omega
    rw [zcT _ hnone]
    refine ⟨(sz.trans s5).put nse0,by rw [zaf hpse]; exact s5 _ _ hpz,by rw [zaf hds]; exact s5 _ _ hdz,_,_,rfl,upd_same,?_⟩
    rw [Ao,hskz,zaA es]
    simp only [Ao,Aw]
    rfl
  rintro σ Hz ⟨sz,hpz,hdz,svs',x7',rfl,hsez,hskz⟩
  rw [A1,C6] at hskz
  generalize hS2:Sn ++ sh.map (fun s=>(s,ℓ % t))=S2 at hskz
  have S2n:S2.Nodup:=by
   rw [<- hS2]
   refine Bz.mpr ⟨snn,?_,fun u hu' v hv e => ?_⟩
   ·rw [Fb,Bb]
    exact shn.imp fun h e=>h (by injection e)
   ·obtain ⟨s',hs',rfl⟩:=A7.mp hv
    rw [e] at hu'
    exact hnewS s' hs' hu'
  have hS2m:∀ s r,(s,r)∈S2 ↔ ∃ ℓ',ℓ' < ℓ + 1/\r = ℓ' % t/\rch C 0 ℓ' s:=fun s r=>by
   rw [<- hS2,An,hSn]
   constructor
   ·rintro (⟨ℓ',a1,a2⟩ | z)
    ·exact ⟨ℓ',by omega,a2⟩
    ·obtain ⟨s',hs',e'⟩:=A7.mp z
     injection e' with e1 e2
     subst e1 e2
     exact ⟨ℓ,by omega,rfl,((hsh s').mp hs').1⟩
   ·rintro ⟨ℓ',a1,a2,a3⟩
    by_cases z : ℓ' = ℓ
    ·subst z
     by_cases y:s∈sh
     ·exact .inr (A7.mpr ⟨s,y,by rw [a2]⟩)
     ·have:∃ ℓ'',ℓ'' < ℓ' /\ ℓ'' % t = ℓ' % t/\rch C 0 ℓ'' s:=Classical.byContradiction fun w=>y ((hsh s).mpr ⟨a3,fun ℓ'' b1 b2 b3=>w ⟨ℓ'',b1,b2,b3⟩⟩)
      obtain ⟨ℓ'',b1,b2,b3⟩:=this
      exact .inl ⟨ℓ'',b1,by rw [a2,b2],b3⟩
    ·exact .inl ⟨ℓ',by omega,a2,a3⟩
  have S2l:S2.length=Sn.length + sh.length:=by rw [<- hS2,Ab,A1]
  have e1:((ℓ : Nat):Int) + 1=((ℓ + 1:Nat):Int):=by omega
  refine ⟨_,rfl,_,_,rfl,rfl,?_⟩
  refine ⟨_,rfl,_,rfl,a,p,ts,C,sh,rfl,sz _ _ ha,tb.same sz,gc,h8,hpz,hlt,hs128,fun b H4 s4 nb hb => ?_⟩
  refine ⟨_,rfl,_,rfl,⟨_,SqL.of hb⟩,fun D hD => ?_⟩
  have emod1:(((ℓ : Nat):Int) + 1) % ((t:Nat):Int)=(((ℓ + 1) % t:Nat):Int):=by rw [e1]; exact (Int.natCast_emod (ℓ + 1) t).symm
  have hse4:=s4 _ _ hsez
  refine zb8 (capv := [some (.int (((ℓ : Nat):Int) + 1)),some (.int (t:Nat)),some (.ref se)]) (by rfl) (zaj K b _) (by rw [List.length_map]; exact big (by have:=zfX C sh; omega)) hD (fun H' s'=>SqL.of (s' _ _ hb)) (fun v=>match v with | .int x=>decide ((x.toNat,(ℓ + 1) % t) ∉ S2) | _=>false) id ?_ ?_ ?_
  ·intro x hx H' R s' h
   obtain ⟨s0,hs0,rfl⟩:=A7.mp hx
   refine ⟨_,rfl,_,rfl,_,rfl,_,_,rfl,rfl,show (0:Int) < ((t:Nat):Int) by omega,bigr rfl,fun tk ntk => ?_⟩
   have s5:Same H' (upd H' tk (.tup [.int ((s0:Nat):Int),.int ((((ℓ : Nat):Int) + 1) % ((t:Nat):Int))])):=Same.new ntk
   have htk:upd H' tk (.tup [.int ((s0:Nat):Int),.int ((((ℓ : Nat):Int) + 1) % ((t:Nat):Int))]) tk=some (.tup ((pkey (s0,(ℓ + 1) % t)).map kV)):=by
    rw [upd_same,emod1]; unfold pkey; rw [kI_V]; rfl
   refine ⟨_,rfl,se,_,rfl,DGet.t (s5 _ _ (s' _ _ hse4)) htk,_,rfl,?_⟩
   have ev:(!(valV svs' (pkey (s0,(ℓ + 1) % t))).isSome)=decide ((((s0:Nat):Int).toNat,(ℓ + 1) % t) ∉ S2):=by
    rw [show ((s0:Nat):Int).toNat=s0 by omega]
    by_cases z:(s0,(ℓ + 1) % t)∈S2
    ·rw [decide_eq_false (fun y=>y z),valV_mem.mpr (by rw [hskz]; exact pkey_mem.mpr z)]; rfl
    ·rw [decide_eq_true z]
     cases ez:(valV svs' (pkey (s0,(ℓ + 1) % t))).isSome with
     | false=>rfl
     | true =>
      have:=valV_mem.mp ez
      rw [hskz] at this
      exact absurd (pkey_mem.mp this) z
   rw [ev]
   exact h _ s5
  ·intro x hx _ H' R s' h
   exact ⟨_,rfl,h H' (Same.refl _)⟩
  intro H5 s5 e5
  have s45:=s4.trans s5
  refine ⟨20000 - S2.length,by omega,sz.trans s45,ℓ + 1,D,(behN C sh).filter fun s=>decide ((s,(ℓ + 1) % t) ∉ S2),l',svs',S2,_,_,_,rfl,by rw [<- e1]; rfl,?_,(beh_nd C sh).sublist List.filter_sublist,fun s => ?_,s45 _ _ hdz,hl',s45 _ _ hsez,hskz,S2n,hS2m,by omega⟩
  ·rw [e5,Fy,Ep]
   congr 2
  ·rw [Az,beh_mem,decide_eq_true_eq]
   constructor
   ·rintro ⟨⟨_,u,hu',h1⟩,h2⟩
    refine ⟨⟨u,((hsh u).mp hu').1,h1⟩,fun ℓ' a1 a2 a3=>h2 ((hS2m _ _).mpr ⟨ℓ',a1,a2.symm,a3⟩)⟩
   ·intro hf
    obtain ⟨u,hu',h1⟩:=zfT hf
    refine ⟨⟨zeh gc (by decide) hf.1,u,(hsh u).mpr hu',h1⟩,fun z => ?_⟩
    obtain ⟨ℓ',a1,a2,a3⟩:=(hS2m _ _).mp z
    exact hf.2 ℓ' a1 a2.symm a3
noncomputable def reachB (l:List (Nat×Nat)) (t n:Nat):Bool:=l.any fun x=>decide (x.1=n % t/\x.2<=n)
theorem reach_fil {C:Combs} {t N:Nat} (ht:Fil C t) {l:List (Nat×Nat)} (h:LeastL C t N l) (hN:∀ s,¬ Fst C t N s) (n:Nat):reachB l t n=true ↔ Fil C n:=by
 rw [least_fil ht h hN]
 unfold reachB
 rw [Bj]
 constructor
 ·rintro ⟨⟨r,ℓ⟩,hx,hd⟩
  obtain ⟨e1,e2⟩:=of_decide_eq_true hd
  dsimp only at e1 e2
  subst e1
  exact ⟨ℓ,hx,e2⟩
 ·rintro ⟨ℓ,hx,e2⟩
  exact ⟨_,hx,decide_eq_true ⟨rfl,e2⟩⟩
noncomputable def sp_reached:Sp:=fun vs H Q _=>∃ (d:A3) (l:List (Nat×Nat)) (t n:Nat),vs = [.ref d,.int (t:Nat),.int (n:Nat)]/\H d=some (.dK (lkv l))/\(l.map (·.1)).Nodup/\1<=t/\Q (.bl (reachB l t n)) H
theorem zcM:FnScope ["least","turn","length","rest"] ["least","turn","length"] (defScope s_is_reached):=⟨rfl,rfl,rfl,by decide +kernel,rfl,by decide +kernel,by decide +kernel⟩
theorem ok_reached (D:DefAt K mg "is_reached" s_is_reached) (T:Bn mg):Callee P w K mg base "is_reached" 1 ["least","turn","length"] sp_reached:=by
 refine D.callee zcM (fun _ _ _ _ _ _=>ln3 fun _ _ _=>rfl) (fun vs H Q E h => ?_) (fun f cdv A outer s H vs Q E hr h => ?_)
 ·obtain ⟨d,l,t,n,rfl,_⟩:=h
  rfl
 ·obtain ⟨d,l,t,n,rfl,hd,nd,t1,q⟩:=h
  have S:=zcM
  have hu:=zck hr
  have emod:((n:Nat):Int) % ((t:Nat):Int)=((n % t:Nat):Int):=(Int.natCast_emod n t).symm
  refine ⟨_,zab (zah (i:=3) S.nd rfl (Aj rfl) (zaw zbo (pv 2) (pv 1)))
  (zae (zai (zhi (pe_cmp (zhZ hu (pv 3) (pv 0))) (zhf (zeK zdK (zdb hu (pv 0) (pv 3) (fun _ _=>rfl)) (pv 2) (zav _)))))),?_⟩
  refine ⟨_,rfl,_,rfl,_,_,rfl,rfl,show (0:Int) < ((t:Nat):Int) by omega,?_⟩
  refine ⟨_,rfl,_,rfl,d,_,rfl,DGet.k (k:=Sum.inl (((n:Nat):Int) % ((t:Nat):Int))) hd,_,rfl,?_⟩
  rw [emod]
  by_cases h:∃ ℓ,(n % t,ℓ)∈l
  ·obtain ⟨ℓ,hℓ⟩:=h
   rw [zeN nd hℓ]
   refine iteT ?_
   have dg:DGet H d (.int (((n:Nat):Int) % ((t:Nat):Int))) (some (.int (ℓ : Nat))):=by
    have e:=DGet.k (k:=Sum.inl ((n % t:Nat):Int)) hd
    rw [zeN nd hℓ] at e
    rw [emod]
    exact e
   refine ⟨_,rfl,_,rfl,d,_,rfl,dg,_,rfl,_,_,rfl,rfl,?_⟩
   have er:decide (((ℓ : Nat):Int)<=((n:Nat):Int))=reachB l t n:=by
    unfold reachB
    rw [Bi,decide_eq_true_eq,Bj]
    constructor
    ·intro z
     exact ⟨_,hℓ,decide_eq_true ⟨rfl,by show ℓ <= n; omega⟩⟩
    ·rintro ⟨⟨r,ℓ'⟩,hx,hz⟩
     obtain ⟨e1,e2⟩:=of_decide_eq_true hz
     dsimp only at e1 e2
     subst e1
     have e3:=zeN nd hx
     rw [zeN nd hℓ] at e3
     injection e3 with e3
     injection e3 with e3
     omega
   rw [<- er] at q
   exact q
  ·have hno:∀ ℓ,(n % t,ℓ) ∉ l:=fun ℓ z=>h ⟨ℓ,z⟩
   rw [zgy hno]
   refine iteF ?_
   have er:reachB l t n=false:=by
    unfold reachB
    rw [Jd]
    rintro ⟨r,ℓ⟩ hx hz
    obtain ⟨e1,_⟩:=of_decide_eq_true hz
    dsimp only at e1
    subst e1
    exact hno ℓ hx
   rw [er] at q
   exact q
noncomputable def sp_fitsf (ea:Nat->A3) (C:A3):Sp:=fun vs H Q E=>∃ b l G cs past n,vs = [.ref b,.int n]/\Bk C G H b l cs past /\
 (if 0<=n/\n<=1000000000000 then ∀ H',Same H H'->Q (.bl (decide (0∈rowN (srt cs) n.toNat))) H' else E (.ref (ea 13)) none H)
theorem zcN:FnScope ["book","length","table","turn"] ["book","length"] (defScope s_fits_flush):=⟨rfl,rfl,rfl,by decide +kernel,rfl,by decide +kernel,by decide +kernel⟩
theorem ok_fitsf {ea:Nat->A3} {C:A3} (D:DefAt K mg "fits_flush" s_fits_flush) (T:Bn mg) (V_MOST_LENGTH:∃ t,mg "MOST_LENGTH" = some (.int 1000000000000 t)) (O_BadLength:Err K mg "BadLength" (ea 13)) (C_step_table:Callee1 P w K mg base "step_table" 4 ["book"] (sp_table C)) (C_shortest_length:Callee P w K mg base "shortest_length" 2 ["table"] sp_short) (C_least_lengths:Callee P w K mg base "least_lengths" 2 ["table","turn"] sp_least) (C_is_reached:Callee P w K mg base "is_reached" 1 ["least","turn","length"] sp_reached):Callee1 P w K mg base "fits_flush" 5 ["book","length"] (sp_fitsf ea C):=by
 refine D.callee1 zcN (fun _ _ _ _ _ _=>ln2 fun _ _=>rfl) (fun vs H Q E h => ?_) (fun f cdv A outer s H vs Q E hr h => ?_)
 ·obtain ⟨b,l,G,cs,past,n,rfl,_⟩:=h
  rfl
 ·obtain ⟨b,l,G,cs,past,n,rfl,B,q⟩:=h
  have S:=zcN
  have hu:=zck hr
  obtain ⟨gc,h8⟩:=zb0 B
  refine ⟨_,zab (zaF (za8 (zdq zdK zdK (zac) (pv 1) (zbO rfl V_MOST_LENGTH)))
   (zae (za9 O_BadLength rfl (zaa (zaP) zad)))
   (zan))
  (zab (zah (i:=2) S.nd rfl (Aj rfl) (zba C_step_table (hr.mono (by decide)) (by first | exact pass_try | exact zbb | exact zay) rfl (zaa (pv 0) zad)))
  (zab (zah (i:=3) S.nd rfl (Aj rfl) (zaz C_shortest_length (hr.mono (by decide)) rfl (zaa (pv 2) zad)))
  (zab (zaF (zap zcj (pv 3) (zac) (zav _))
   (zae (zai (zeK zcj (pv 1) (zac) (zav _))))
   (zan))
  (zae (zai (zaz C_is_reached (hr.mono (by decide)) rfl (zaa (zaz C_least_lengths (hr.mono (by decide)) rfl (zaa (pv 2) (zaa (pv 3) zad))) (zaa (pv 3) (zaa (pv 1) zad))))))))),?_⟩
  refine ⟨_,rfl,_,_,rfl,rfl,_,rfl,?_⟩
  refine ite2 (fun h0 => ?_) (fun h0 => ?_)
  rotate_left
  ·have h0:¬ (0:Int)<=n:=by simpa using h0
   rw [if_neg (fun z=>h0 z.1)] at q
   exact ⟨_,rfl,iteT ⟨bigr rfl,q⟩⟩
  have h0:(0:Int)<=n:=by simpa using h0
  refine ⟨_,_,rfl,rfl,_,rfl,?_⟩
  by_cases h1:n<=1000000000000
  case neg =>
   rw [if_neg (fun z=>h1 z.2)] at q
   rw [decide_eq_false h1]
   exact iteT ⟨bigr rfl,q⟩
  rw [if_pos ⟨h0,h1⟩] at q
  rw [decide_eq_true h1]
  refine iteF ?_
  obtain ⟨k,rfl⟩:=En h0
  rw [show ((k:Nat):Int).toNat=k by omega] at q
  have hf:decide (0∈rowN (srt cs) k)=true ↔ Fil (srt cs) k:=by rw [decide_eq_true_eq,zc8 gc]; exact Iff.rfl
  refine ⟨_,rfl,b,l,G,cs,past,rfl,B,fun a H1 ts s1 na ha tb => ?_⟩
  refine ⟨_,rfl,a,ts,srt cs,rfl,ha,tb,gc,h8,fun t H2 s2 hcase => ?_⟩
  have s12:=s1.trans s2
  refine ⟨_,rfl,rfl,_,rfl,?_⟩
  rcases hcase with ⟨rfl,hno⟩ | ⟨t1,t2,ht⟩
  ·rw [decide_eq_true (show V.int ((0:Nat):Int)=V.int 0 from rfl)]
   refine iteT ⟨_,rfl,rfl,?_⟩
   have:=q H2 s12
   have e:decide (0∈rowN (srt cs) k)=decide (V.int ((k:Nat):Int)=V.int 0):=by
    rw [Bi,hf,decide_eq_true_eq]
    constructor
    ·intro z
     by_cases y:k=0
     ·rw [y]; rfl
     ·exact absurd z (hno k (by omega))
    ·intro z
     injection z with z
     have:k=0:=by omega
     rw [this]; exact zgM _
   rw [e] at this
   exact this
  rw [decide_eq_false (show ¬ V.int ((t:Nat):Int)=V.int 0 from fun z=>by injection z with z; omega)]
  refine iteF ?_
  refine ⟨_,rfl,_,rfl,a,ts,srt cs,t,rfl,s2 _ _ ha,tb.same s2,gc,h8,t1,t2,fun d ll N H3 s3 nd hd hl hN hNb => ?_⟩
  refine ⟨_,rfl,_,rfl,d,ll,t,k,rfl,hd,hl.1,t1,?_⟩
  have e:reachB ll t k=decide (0∈rowN (srt cs) k):=by rw [Bi,hf]; exact reach_fil ht hl hN k
  rw [e]
  exact q H3 (s12.trans s3)
noncomputable def wrow (A:Nat->Nat):List V:=(Af 128).map fun s=>V.int ((A s:Nat):Int)
theorem zey (A:Nat->Nat) {s:Nat} (h:s < 128):atI (wrow A) ((s:Nat):Int)=some (.int ((A s:Nat):Int)):=by
 refine zax ?_
 unfold wrow
 rw [Ad,Ch h]
 rfl
theorem wrow_len (A:Nat->Nat):(wrow A).length=128:=by unfold wrow; rw [A1,B0]
noncomputable def sp_behindw:Sp:=fun vs H Q _=>∃ (st a b:A3) (x:Str) (p:Str×Int) (A B:Nat->Nat),vs = [.ref st,.ref a,.ref b,.str x]/\H st=some (.tup [.str p.1,.int p.2])/\0<=p.2/\p.2.toNat < 128/\H a=some (.lst (wrow A))/\H b=some (.lst (wrow B))/\Q (.int ((bh x A B p:Nat):Int)) H
theorem zcm:FnScope ["step","ways","wanted","name","row"] ["step","ways","wanted","name"] (defScope s_ways_behind):=⟨rfl,rfl,rfl,by decide +kernel,rfl,by decide +kernel,by decide +kernel⟩
theorem ok_behindw (D:DefAt K mg "ways_behind" s_ways_behind) (T:Bn mg):Callee P w K mg base "ways_behind" 1 ["step","ways","wanted","name"] sp_behindw:=by
 refine D.callee zcm (fun _ _ _ _ _ _=>ln4 fun _ _ _ _=>rfl) (fun vs H Q E h => ?_) (fun f cdv A outer s H vs Q E hr h => ?_)
 ·obtain ⟨st,a,b,x,p,A',B',rfl,_⟩:=h
  rfl
 ·obtain ⟨st,a,b,x,⟨p1,p2⟩,A',B',rfl,hst,h0,h1,ha,hb,q⟩:=h
  have S:=zcm
  dsimp only at hst h0 h1
  refine ⟨_,zbi (zah (i:=4) S.nd rfl (Aj rfl) (pe_ifExp (zap zcj (zat zbd (pv 0) (zac) (fun _ _=>rfl)) (pv 3) (zav _)) (pv 1) (pv 2)))
  (zae (zai (zat zaq (pv 4) (zat zbd (pv 0) (zac) (fun _ _=>rfl)) (fun _ _=>rfl)))),?_⟩
  have e2:p2=((p2.toNat:Nat):Int):=by omega
  refine ⟨fun σ Hx=>Hx=H/\∃ (r:A3),H r=some (.lst (wrow (if p1=x then A' else B'))) /\ σ = [some (.ref st),some (.ref a),some (.ref b),some (.str x),some (.ref r)],?_,?_⟩
  ·refine ⟨_,rfl,_,_,_,_,rfl,rfl,SqT.of hst,at0,_,rfl,rfl,_,rfl,?_⟩
   by_cases e:p1=x
   ·rw [decide_eq_true (by rw [e])]
    refine iteT ?_
    exact ⟨_,rfl,rfl,a,by rw [if_pos e]; exact ha,rfl⟩
   ·rw [decide_eq_false (fun z=>e (by injection z))]
    refine iteF ?_
    exact ⟨_,rfl,rfl,b,by rw [if_neg e]; exact hb,rfl⟩
  rintro σ Hx ⟨rfl,r,hr',rfl⟩
  refine ⟨_,rfl,_,rfl,_,_,_,_,rfl,rfl,SqT.of hst,at1,_,_,_,_,rfl,rfl,SqL.of hr',by rw [e2]; exact zey _ h1,?_⟩
  have e3:(if p1=x then A' else B') p2.toNat=bh x A' B' (p1,p2):=by
   unfold bh
   dsimp only
   split <;> rfl
  rw [e3]
  exact q
noncomputable def sp_from:Sp:=fun vs H Q _=>∃ (l a b:A3) (x:Str) (ws:List V) (ps:List (Str×Int)) (A B:Nat->Nat),vs = [.ref l,.ref a,.ref b,.str x]/\H l=some (.lst ws)/\StepsR H ws ps/\ps.length<=100/\(∀ p∈ps,0<=p.2/\p.2.toNat < 128)/\H a=some (.lst (wrow A))/\H b=some (.lst (wrow B))/\∀ H',Same H H'->Q (.int (((ps.map (bh x A B)).sum:Nat):Int)) H'
theorem sum_cast (l:List Nat):(l.map fun (n:Nat)=>(n:Int)).sum=((l.sum:Nat):Int):=by
 induction l with
 | nil=>rfl
 | cons a l ih=>rw [Al,Ct,Ct,ih]; omega
theorem zdh:FnScope ["steps","ways","wanted","name"] ["steps","ways","wanted","name"] (defScope s_ways_from):=⟨rfl,rfl,rfl,by decide +kernel,rfl,by decide +kernel,by decide +kernel⟩
theorem ok_from (D:DefAt K mg "ways_from" s_ways_from) (T:Bn mg) (C_ways_behind:Callee P w K mg base "ways_behind" 1 ["step","ways","wanted","name"] sp_behindw):Callee P w K mg base "ways_from" 2 ["steps","ways","wanted","name"] sp_from:=by
 refine D.callee zdh (fun _ _ _ _ _ _=>ln4 fun _ _ _ _=>rfl) (fun vs H Q E h => ?_) (fun f cdv A outer s H vs Q E hr h => ?_)
 ·obtain ⟨l,a,b,x,ws,ps,A',B',rfl,_⟩:=h
  rfl
 ·obtain ⟨l,a,b,x,ws,ps,A',B',rfl,hl,sr,hpl,hps,ha,hb,q⟩:=h
  have S:=zdh
  have hwl:=sr.length
  refine ⟨_,zae (zai (zal (zfA rfl) rfl T.n_sum boot_sum (zaa (zaM (own := ["step"]) (caps := [(1,"ways"),(2,"wanted"),(3,"name")]) rfl ⟨rfl,rfl,rfl,rfl,⟨⟨rfl,rfl,.inl rfl⟩,⟨rfl,rfl,.inl rfl⟩,⟨rfl,rfl,.inl rfl⟩,trivial⟩⟩ (zau (pv 0)) (fun _ _ _ _ _ _=>zak (i:=0) (zaK (by decide +kernel)) rfl (Aj rfl)) (fun _ _ _ _ _ _=>za2) (fun _ _ _ _ _ _=>zaz C_ways_behind (hr.mono (by decide)) rfl (zaa (pv 0) (zaa (pv 1) (zaa (pv 2) (zaa (pv 3) zad)))))) zad))),?_⟩
  refine ⟨_,rfl,_,rfl,⟨_,SqL.of hl⟩,fun D hD => ?_⟩
  refine zcp (capv := [some (.ref a),some (.ref b),some (.str x)]) (by rfl) (zaj K l ws) (big (by omega)) hD (fun H' s'=>SqL.of (s' _ _ hl)) (fun _=>true) (fun u=>V.int ((bh x A' B' (ps.getD u ("",0)):Nat):Int)) (fun _ _ _=>nofun) (fun u y hy H' R s' h=>h H' (Same.refl _)) ?_ ?_
  ·intro u y hy _ H' R s' h
   have hu:u < ps.length:=by rw [<- hwl]; exact (Ah.mp hy).1
   obtain ⟨qa,e4,e5⟩:=sr.get (A8 hu)
   rw [hy] at e4
   cases e4
   have hm:=hps _ (Cy hu)
   refine ⟨_,rfl,_,rfl,_,rfl,_,rfl,qa,a,b,x,ps[u],A',B',rfl,s' _ _ e5,hm.1,hm.2,s' _ _ ha,s' _ _ hb,?_⟩
   have:=h H' (Same.refl _)
   rw [Ac,A8 hu] at this
   exact this
  intro H1 s1 e1
  refine ⟨D,ps.map fun p=>((bh x A' B' p:Nat):Int),rfl,SqL.of ?_,?_⟩
  ·rw [e1,Bo.mpr (fun _ _=>rfl),hwl,B5]
   congr 2
   refine Jb fun u => ?_
   rw [Ad,Ad]
   by_cases z:u < ps.length
   ·rw [Ch z,A8 z,Dg,Dg,Ac,A8 z]
    rfl
   ·rw [Dt (by rw [B0]; omega),Dt (by omega)]
    rfl
  have e2:(ps.map fun p=>((bh x A' B' p:Nat):Int)).sum=(((ps.map (bh x A' B')).sum:Nat):Int):=by
   rw [<- sum_cast,B5]
   rfl
  rw [e2]
  exact q H1 s1
noncomputable def WaysR (N:A3->Prop) (H:Hp) (ws:List V) (A:Nat->Nat->Nat) (n:Nat):Prop:=ws.length=n + 1/\∀ k:Nat,k<=n->∃ q,ws[k]?=some (.ref q)/\N q/\H q=some (.lst (wrow (A k)))
theorem WaysR.mono {N N':A3->Prop} {H H':Hp} {ws:List V} {A:Nat->Nat->Nat} {n:Nat} (r:WaysR N H ws A n) (hn:∀ q,N q->N' q) (m:∀ q o,N q->H q=some o->H' q=some o):WaysR N' H' ws A n:=⟨r.1,fun k hk=>let ⟨q,a,b,c⟩:=r.2 k hk; ⟨q,a,hn q b,m _ _ b c⟩⟩
theorem WaysR.snoc {N:A3->Prop} {H:Hp} {ws:List V} {A:Nat->Nat->Nat} {n:Nat} {q:A3} (r:WaysR N H ws A n) (hq:H q=some (.lst (wrow (A (n + 1))))) (hn:N q):WaysR N H (ws ++ [.ref q]) A (n + 1):=by
 refine ⟨by rw [Ab,r.1]; rfl,fun k hk => ?_⟩
 by_cases e:k=n + 1
 ·subst e
  exact ⟨q,by rw [Cr (by rw [r.1]; exact A9 _),r.1,Ho]; rfl,hn,hq⟩
 ·obtain ⟨q',a,b,c⟩:=r.2 k (by omega)
  exact ⟨q',by rw [Cu (by rw [r.1]; omega)]; exact a,b,c⟩
noncomputable def sp_close:Sp:=fun vs H Q _=>∃ (a:A3) (ts:List V) (C:Combs) (n:Nat),vs = [.ref a,.int (n:Nat)]/\H a=some (.lst ts)/\TabR H ts C/\GC C/\C.length<=8/\n<=200/\∀ (r:A3) (ws:List V) (H':Hp),Same H H'->H' r=some (.lst ws)->WaysR (fun _=>True) H' ws (Wy C) n->Q (.ref r) H'
theorem zbT:FnScope ["table","length","rows","passed"] ["table","length"] (defScope s_ways_to_close):=⟨rfl,rfl,rfl,by decide +kernel,rfl,by decide +kernel,by decide +kernel⟩
theorem ok_close (D:DefAt K mg "ways_to_close" s_ways_to_close) (T:Bn mg) (C_ways_from:Callee P w K mg base "ways_from" 2 ["steps","ways","wanted","name"] sp_from):Callee P w K mg base "ways_to_close" 3 ["table","length"] sp_close:=by
 refine D.callee zbT (fun _ _ _ _ _ _=>ln2 fun _ _=>rfl) (fun vs H Q E h => ?_) (fun f cdv A outer s H vs Q E hr h => ?_)
 ·obtain ⟨a,ts,C,n,rfl,_⟩:=h
  rfl
 ·obtain ⟨a,ts,C,n,rfl,ha,tb,gc,h8,hn,q⟩:=h
  have S:=zbT
  have htl:=tb.1
  refine ⟨_,zab (zah (i:=2) S.nd rfl (Gk rfl) (zaB (zaa (zaM (own := ["steps"]) (caps := []) rfl ⟨rfl,rfl,rfl,rfl,trivial⟩ (zau (pv 0)) (fun _ _ _ _ _ _=>zak (i:=0) (zaK (by decide +kernel)) rfl (Aj rfl)) (fun _ _ _ _ _ _=>za2) (fun _ _ _ _ _ _=>zac)) zad)))
  (zab (zhT (zac) (zhV (zat zaq (pv 2) (zac) (fun _ _=>rfl)) (zac) zgf))
  (zab (zaZ B8 rfl (zbm rfl T.n_range (zaa (pv 1) zad)) (zak (i:=3) S.nd rfl (Aj rfl))
   (zae (zaJ (zcV Bg Bm Bl zaH (pv 2) (zaa (zaM (own := ["steps"]) (caps := [(2,"rows")]) rfl ⟨rfl,rfl,rfl,rfl,⟨⟨rfl,rfl,.inl rfl⟩,trivial⟩⟩ (zau (pv 0)) (fun _ _ _ _ _ _=>zak (i:=0) (zaK (by decide +kernel)) rfl (Aj rfl)) (fun _ _ _ _ _ _=>za2) (fun _ _ _ _ _ _=>zaz C_ways_from (hr.mono (by decide)) rfl (zaa (pv 0) (zaa (zat (zc1 K rfl) (pv 1) (zct zbr (zac)) (fun _ _=>rfl)) (zaa (zat (zc1 K rfl) (pv 1) (zct zbr (zac)) (fun _ _=>rfl)) (zaa (zaP) zad)))))) zad)))))
  (zae (zai (pv 2))))),?_⟩
  refine ⟨_,rfl,_,rfl,⟨_,SqL.of ha⟩,fun D hD => ?_⟩
  refine zb8 (capv := []) (by rfl) (zaj K a ts) (big (by omega)) hD (fun H' s'=>SqL.of (s' _ _ ha)) (fun _=>true) (fun _=>V.int 0) (fun x hx H' R s' h=>h H' (Same.refl _)) (fun x hx _ H' R s' h=>h H' (Same.refl _)) ?_
  intro H1 s1 e1
  have e1':H1 D=some (.lst ((Af 128).map fun _=>V.int 0)):=by
   rw [e1,Bo.mpr (fun _ _=>rfl)]
   congr 2
   refine Jp (by rw [A1,A1,B0]; omega) fun i h1 h2 => ?_
   rw [Hb,Hb]
  refine ⟨bigr rfl,fun r nr => ?_⟩
  have s2:Same H1 (upd H1 r (.lst [.ref D])):=Same.new nr
  have hr2:upd H1 r (.lst [.ref D]) r=some (.lst [.ref D]):=upd_same
  have hD2:=s2 _ _ e1'
  have hDr:D≠r:=fun z=>by rw [<- z,e1'] at nr; cases nr
  have s12:=s1.trans s2
  have nr0:=s1.free nr
  generalize upd H1 r (.lst [.ref D])=H2 at s12 hr2 hD2 ⊢
  have hix:ixN ((Af 128).map fun _=>V.int 0).length 0=some 0:=by rw [A1,B0]; decide
  refine ⟨_,rfl,_,_,_,_,rfl,rfl,SqL.of hr2,(show atI [V.ref D] ((0:Nat):Int)=_ from zax rfl),D,_,_,_,rfl,rfl,hD2,hix,?_⟩
  have ew:((Af 128).map fun _=>V.int 0).set 0 (V.int 1)=wrow (Wy C 0):=by
   unfold wrow
   rw [zhn _ _ (by decide)]
   refine C7 fun s _ => ?_
   show _=V.int (((if s=0 then 1 else 0:Nat)):Int)
   split <;> rfl
  rw [ew]
  have hDn0:H D=none:=hD
  have s3:Same H (upd H2 D (.lst (wrow (Wy C 0)))):=s12.put hDn0
  have hD3:upd H2 D (.lst (wrow (Wy C 0))) D=some (.lst (wrow (Wy C 0))):=upd_same
  have hr3:upd H2 D (.lst (wrow (Wy C 0))) r=some (.lst [.ref D]):=by rw [zaf hDr.symm]; exact hr2
  generalize upd H2 D (.lst (wrow (Wy C 0)))=H3 at s3 hD3 hr3 ⊢
  refine ⟨_,rfl,_,rfl,by omega,by omega,?_⟩
  refine zbA (zaT 0 ((n:Nat):Int).toNat) (fun i σ Hx=>Same H Hx/\∃ (ws:List V) (x3:Option V),σ = [some (.ref a),some (.int (n:Nat)),some (.ref r),x3]/\Hx r=some (.lst ws)/\WaysR (fun z=>z≠r) Hx ws (Wy C) i) ⟨s3,[.ref D],_,rfl,hr3,rfl,fun k hk=>by
    have:k=0:=by omega
    subst this
    exact ⟨D,rfl,hDr,hD3⟩⟩ (fun _ _ _ _ _=>trivial) ?_ ?_
  ·rintro i x σ Hx hx ⟨sx,ws,x3,rfl,hrx,wr⟩
   obtain ⟨hi,rfl⟩:=zbv hx
   have hi':i < n:=by omega
   obtain ⟨qk,eqk,_,hqk⟩:=wr.2 i (A9 _)
   have hat:atI ws (-1)=some (.ref qk):=zdn wr.1 eqk
   refine ⟨_,rfl,.inl ⟨rfl,_,SqL.of hrx⟩,_,rfl,_,rfl,⟨_,SqL.of (sx _ _ ha)⟩,fun D2 hD2 => ?_⟩
   refine zcp (capv := [some (.ref r)]) (by rfl) (zaj K a ts) (big (by omega)) hD2 (fun H' s'=>SqL.of (s' _ _ (sx _ _ ha))) (fun _=>true) (fun s=>V.int ((Wy C (i + 1) s:Nat):Int)) (fun _ _ _=>nofun) (fun u y hy H' R s' h=>h H' (Same.refl _)) ?_ ?_
   ·intro u y hy _ H' R s' h
    have hu:u < 128:=by rw [<- htl]; exact (Ah.mp hy).1
    obtain ⟨qs,wss,e1,e2,e3⟩:=(tb.same (sx.trans s')).2 u hu
    rw [hy] at e1
    cases e1
    refine ⟨_,rfl,_,rfl,_,rfl,_,_,_,_,rfl,rfl,SqL.of (s' _ _ hrx),hat,_,rfl,_,rfl,_,_,_,_,rfl,rfl,SqL.of (s' _ _ hrx),hat,?_⟩
    refine ⟨qs,qk,qk,A2 "",wss,stp C u,Wy C i,Wy C i,rfl,e2,e3,by have:=zcq h8 u; omega,fun p hp=>zbt gc hu hp,s' _ _ hqk,s' _ _ hqk,fun H'' s'' => ?_⟩
    have e:((stp C u).map (bh (A2 "") (Wy C i) (Wy C i))).sum=Wy C (i + 1) u:=((ze7 C (A2 "")).succ i u).symm
    rw [e]
    exact h H'' s''
   intro H4 s4 e4
   have hr4:=s4 _ _ hrx
   have hD2r:D2≠r:=fun z=>by rw [z,hrx] at hD2; cases hD2
   have e4':H4 D2=some (.lst (wrow (Wy C (i + 1)))):=by
    rw [e4,Bo.mpr (fun _ _=>rfl),htl]
    rfl
   refine ⟨r,_,_,rfl,rfl,hr4,Ae (by have:=wr.1; omega:ws.length < 1000) zaO,?_⟩
   refine ⟨(sx.trans s4).put nr0,_,_,rfl,upd_same,?_⟩
   exact (WaysR.mono wr (fun _ z=>z) fun z o hz e=>by rw [zaf hz]; exact s4 _ _ e).snoc (by rw [zaf hD2r]; exact e4') hD2r
  ·rintro σ Hx ⟨sx,ws,x3,rfl,hrx,wr⟩
   rw [zbL,show ((n:Nat):Int).toNat=n by omega] at wr
   exact ⟨_,rfl,q r ws Hx sx hrx (wr.mono (fun _ _=>trivial) fun _ _ _ e=>e)⟩
noncomputable def sp_open:Sp:=fun vs H Q _=>∃ (l a b:A3) (x:Str) (ws:List V) (ps:List (Str×Int)) (A B:Nat->Nat) (p:Str×Int),vs = [.ref l,.ref a,.ref b,.str x]/\H l=some (.lst ws)/\StepsR H ws ps/\ps.length<=100/\(∀ p∈ps,0<=p.2/\p.2.toNat < 128)/\H a=some (.lst (wrow A))/\H b=some (.lst (wrow B))/\ps.find? (fun p=>decide (0 < bh x A B p))=some p/\∀ q H',Same H H'->H' q=some (.tup [.str p.1,.int p.2])->Q (.ref q) H'
theorem find_filterO {α : Type} {ps:List α} {f : α -> Bool} {p d : α} (h:ps.find? f=some p):∃ i,((Af ps.length).filter fun i=>f (ps.getD i d))[0]?=some i/\ps[i]?=some p:=by
 induction ps with
 | nil=>cases h
 | cons x ps ih =>
  rw [As,L7,Au]
  by_cases e:f x=true
  ·rw [Lb e] at h
   cases h
   exact ⟨0,by rw [if_pos (by simpa using e)]; rfl,rfl⟩
  ·rw [Lc e] at h
   obtain ⟨i,h1,h2⟩:=ih h
   refine ⟨i + 1,?_,by simpa using h2⟩
   rw [if_neg (by simpa using e),Ep,Ad]
   show (((Af ps.length).filter fun i=>f (ps.getD i d))[0]?).map _=_
   rw [h1]
   rfl
theorem zbE:FnScope ["steps","ways","wanted","name"] ["steps","ways","wanted","name"] (defScope s_first_open_step):=⟨rfl,rfl,rfl,by decide +kernel,rfl,by decide +kernel,by decide +kernel⟩
theorem ok_open (D:DefAt K mg "first_open_step" s_first_open_step) (T:Bn mg) (C_ways_behind:Callee P w K mg base "ways_behind" 1 ["step","ways","wanted","name"] sp_behindw):Callee P w K mg base "first_open_step" 2 ["steps","ways","wanted","name"] sp_open:=by
 refine D.callee zbE (fun _ _ _ _ _ _=>ln4 fun _ _ _ _=>rfl) (fun vs H Q E h => ?_) (fun f cdv A outer s H vs Q E hr h => ?_)
 ·obtain ⟨l,a,b,x,ws,ps,A',B',p,rfl,_⟩:=h
  rfl
 ·obtain ⟨l,a,b,x,ws,ps,A',B',p,rfl,hl,st,hpl,hps,ha,hb,hf,q⟩:=h
  have S:=zbE
  have hlw:=st.length
  refine ⟨_,zae (zai (zat zaq (zaM (own := ["step"]) (caps := [(1,"ways"),(2,"wanted"),(3,"name")]) rfl ⟨rfl,rfl,rfl,rfl,⟨⟨rfl,rfl,.inl rfl⟩,⟨rfl,rfl,.inl rfl⟩,⟨rfl,rfl,.inl rfl⟩,trivial⟩⟩ (zau (pv 0)) (fun _ _ _ _ _ _=>zak (i:=0) (zaK (by decide +kernel)) rfl (Aj rfl)) (fun _ _ _ _ _ _=>zda (zap zfP (zaz C_ways_behind (hr.mono (by decide)) rfl (zaa (pv 0) (zaa (pv 1) (zaa (pv 2) (zaa (pv 3) zad))))) (zac) (zav _))) (fun _ _ _ _ _ _=>pv 0)) (zac) (fun _ _=>rfl))),?_⟩
  refine ⟨_,rfl,_,rfl,⟨_,SqL.of hl⟩,fun D hD => ?_⟩
  have hne:∀ i,i < ws.length->ws.getD i .non ≠ .ref D:=fun i hi z=>by
   obtain ⟨qa,e1,e2⟩:=st.get (A8 (show i < ps.length by omega))
   rw [Ac,e1] at z
   cases z
   rw [hD] at e2
   cases e2
  refine zcp (capv := [some (.ref a),some (.ref b),some (.str x)]) (by rfl) (zaj K l ws) (big (by omega)) hD (fun H' s'=>SqL.of (s' _ _ hl)) (fun i=>decide (0 < bh x A' B' (ps.getD i ("",0)))) (fun i=>ws.getD i .non) (fun i hi _=>hne i hi) ?_ ?_ ?_
  ·intro i y hy H' R s' h
   have hi:i < ps.length:=by rw [<- hlw]; exact (Ah.mp hy).1
   obtain ⟨qa,e1,e2⟩:=st.get (A8 hi)
   rw [hy] at e1
   cases e1
   obtain ⟨h0,h1⟩:=hps ps[i] (Cy hi)
   refine ⟨_,rfl,_,rfl,_,rfl,_,rfl,qa,a,b,x,ps[i],A',B',rfl,s' _ _ e2,h0,h1,s' _ _ ha,s' _ _ hb,_,_,rfl,rfl,_,rfl,?_⟩
   have:=h H' (Same.refl _)
   have e:decide (0 < bh x A' B' (ps.getD i ("",0)))=decide ((0:Int) < ((bh x A' B' ps[i]:Nat):Int)):=by
    rw [Ac,A8 hi,decide_eq_decide]
    show 0 < bh x A' B' ps[i] ↔ _
    omega
   rw [e] at this
   exact this
  ·intro i y hy _ H' R s' h
   refine ⟨_,rfl,?_⟩
   have:=h H' (Same.refl _)
   rw [Ac,hy] at this
   exact this
  ·intro H' s' e
   obtain ⟨i,h1,h2⟩:=find_filterO (d:=(("",0):Str×Int)) hf
   rw [hlw] at e
   obtain ⟨qa,e1,e2⟩:=st.get h2
   refine ⟨_,_,_,_,rfl,rfl,SqL.of e,zax (j:=0) ?_,q qa H' s' (s' _ _ e2)⟩
   rw [Ad,h1,Dg,Ac,e1]
   rfl
noncomputable def sp_layf (ea:Nat->A3):Sp:=fun vs H Q E=>∃ (a wa wb:A3) (x:Str) (ts ws ws':List V) (C:Combs) (n:Nat) (B:Nat->Nat->Nat),vs = [.ref a,.ref wa,.ref wb,.str x]/\H a=some (.lst ts)/\TabR H ts C/\GC C/\C.length<=8/\n<=200/\H wa=some (.lst ws)/\WaysR (fun _=>True) H ws (Wy C) n/\H wb=some (.lst ws')/\WaysR (fun _=>True) H ws' B n/\Sel C x B /\
 (if 0 < B n 0 then ∀ (r:A3) (wl:List V) (H':Hp),Same H H'->H r=none->H' r=some (.lst wl)->LaysR H' wl (fnm C x B n) n->Q (.ref r) H' else E (.ref (ea 14)) none H)
theorem zdi:FnScope ["table","ways","wanted","name","left","layings","shape","place","step"] ["table","ways","wanted","name"] (defScope s_lay_first):=⟨rfl,rfl,rfl,by decide +kernel,rfl,by decide +kernel,by decide +kernel⟩
theorem ok_layf {ea:Nat->A3} (D:DefAt K mg "lay_first" s_lay_first) (T:Bn mg) (O_NoFilling:Err K mg "NoFilling" (ea 14)) (C_first_open_step:Callee P w K mg base "first_open_step" 2 ["steps","ways","wanted","name"] sp_open):Callee1 P w K mg base "lay_first" 3 ["table","ways","wanted","name"] (sp_layf ea):=by
 refine D.callee1 zdi (fun _ _ _ _ _ _=>ln4 fun _ _ _ _=>rfl) (fun vs H Q E h => ?_) (fun f cdv A outer s H vs Q E hr h => ?_)
 ·obtain ⟨a,wa,wb,x,ts,ws,ws',C,n,B,rfl,_⟩:=h
  rfl
 ·obtain ⟨a,wa,wb,x,ts,ws,ws',C,n,B,rfl,ha,tb,gc,h8,hn,hwa,wr,hwb,wr',sl,q⟩:=h
  have S:=zdi
  have elen:((ws.length:Nat):Int) - 1=((n:Nat):Int):=by rw [wr.1]; omega
  refine ⟨_,zab (zah (i:=4) S.nd rfl (Aj rfl) (zaw zdm (zal zar rfl T.n_len Bw (zaa (pv 1) zad)) (zac)))
  (zab (zaF (zap zcj (zat zaq (zat zaq (pv 2) (pv 4) (fun _ _=>rfl)) (zac) (fun _ _=>rfl)) (zac) (zav _))
   (zae (za9 O_NoFilling rfl (zaa (zaP) zad)))
   (zan))
  (zab (zah (i:=5) S.nd rfl (Aj rfl) (zaB (zad)))
  (zab (zah (i:=6) S.nd rfl (Aj rfl) (zac))
  (zab (zaZ L5 rfl (zbm rfl T.n_range (zaa (pv 4) zad)) (zak (i:=7) S.nd rfl (Aj rfl))
   (zab (zah (i:=4) S.nd rfl (Aj rfl) (zaw zdm (pv 4) (zac)))
   (zab (zah (i:=8) S.nd rfl (Aj rfl) (zaz C_first_open_step (hr.mono (by decide)) rfl (zaa (zat zaq (pv 0) (pv 6) (fun _ _=>rfl)) (zaa (zat zaq (pv 1) (pv 4) (fun _ _=>rfl)) (zaa (zat zaq (pv 2) (pv 4) (fun _ _=>rfl)) (zaa (pv 3) zad))))))
   (zbi (zaF (zap zfO (zat zbd (pv 8) (zac) (fun _ _=>rfl)) (zaP) (zav _))
    (zae (zaJ (zcV Bg Bm Bl zaH (pv 5) (zaa (zbp (zaa (pv 7) (zaa (zat zbd (pv 8) (zac) (fun _ _=>rfl)) zad))) zad))))
    (zan))
   (zbi (zaF (zap zcj (zat zbd (pv 8) (zac) (fun _ _=>rfl)) (pv 3) (zav _))
    (zae (zah (i:=2) S.nd rfl (Aj rfl) (pv 1)))
    (zan))
   (zae (zah (i:=6) S.nd rfl (Aj rfl) (zat zbd (pv 8) (zac) (fun _ _=>rfl)))))))))
  (zae (zai (pv 5))))))),?_⟩
  refine ⟨_,rfl,_,_,rfl,.inl (SqL.of hwa),_,_,rfl,rfl,?_⟩
  obtain ⟨qn,eqn,_,hqn⟩:=wr'.2 n (A9 _)
  refine ⟨_,rfl,_,rfl,_,_,_,_,rfl,rfl,SqL.of hwb,by rw [elen]; exact zax eqn,_,_,_,_,rfl,rfl,SqL.of hqn,(show atI (wrow (B n)) ((0:Nat):Int)=_ from zey _ (by decide)),rfl,_,rfl,?_⟩
  by_cases hb:0 < B n 0
  case neg =>
   rw [if_neg hb] at q
   have:B n 0=0:=by omega
   rw [this,decide_eq_true (show V.int ((0:Nat):Int)=V.int 0 from rfl)]
   exact iteT ⟨bigr rfl,q⟩
  rw [if_pos hb] at q
  rw [decide_eq_false (show ¬ V.int ((B n 0:Nat):Int)=V.int 0 from fun z=>by injection z with z; omega)]
  refine iteF ?_
  refine ⟨bigr rfl,fun r nr => ?_⟩
  have s1:Same H (upd H r (.lst [])):=Same.new nr
  refine ⟨_,rfl,_,rfl,by rw [elen]; omega,by rw [elen]; omega,?_⟩
  have hok:=zhv gc sl hb
  let wd:Bool->A3:=fun b=>if b=true then wa else wb
  rw [elen,show ((n:Nat):Int).toNat=n by omega]
  refine zbA (zaT 0 n) (fun i σ Hx=>Same H Hx/\∃ (wl:List V) (x7 x8:Option V),σ = [some (.ref a),some (.ref wa),some (.ref (wd (fw C x B n i).2)),some (.str x),some (.int ((n - i:Nat):Int)),some (.ref r),some (.int (((fw C x B n i).1:Nat):Int)),x7,x8]/\Hx r=some (.lst wl)/\LaysR Hx wl (fnm C x B n) i) ⟨s1,[],_,_,by rw [Li,<- elen]; rfl,upd_same,.nil⟩ (fun _ _ _ _ _=>trivial) ?_ ?_
  ·rintro i y σ Hx hx ⟨sx,wl,x7,x8,rfl,hrx,lr⟩
   obtain ⟨hi,rfl⟩:=zbv hx
   rw [Ga]
   obtain ⟨h1,h2⟩:=hok i (by omega)
   obtain ⟨g1,g2,g3⟩:=zd0 gc sl hb hi
   have hnx:=(hok (i + 1) (by omega)).1
   have e1:((n - i:Nat):Int) - 1=((n - 1 - i:Nat):Int):=by omega
   obtain ⟨qs,wss,t1,t2,t3⟩:=(tb.same sx).2 _ h1
   obtain ⟨qa,a1,_,a2⟩:=wr.2 (n - 1 - i) (by omega)
   have hwd:∃ wsd qb,Hx (wd (fw C x B n i).2)=some (.lst wsd)/\wsd[n - 1 - i]?=some (.ref qb)/\Hx qb=some (.lst (wrow (ro C B (fw C x B n i).2 (n - 1 - i)))):=by
    show ∃ wsd qb,Hx (if (fw C x B n i).2=true then wa else wb)=_/\_/\_
    unfold ro
    cases (fw C x B n i).2 with
    | true=>exact ⟨ws,qa,sx _ _ hwa,a1,sx _ _ a2⟩
    | false =>
     obtain ⟨qb,b1,_,b2⟩:=wr'.2 (n - 1 - i) (by omega)
     exact ⟨ws',qb,sx _ _ hwb,b1,sx _ _ b2⟩
   obtain ⟨wsd,qb,d1,d2,d3⟩:=hwd
   refine ⟨_,rfl,_,_,rfl,rfl,?_⟩
   refine ⟨_,rfl,_,rfl,_,_,_,_,rfl,rfl,SqL.of (sx _ _ ha),zax t1,_,rfl,_,rfl,_,_,_,_,rfl,rfl,SqL.of (sx _ _ hwa),by rw [e1]; exact zax a1,_,rfl,_,rfl,_,_,_,_,rfl,rfl,SqL.of d1,by rw [e1]; exact zax d2,_,rfl,?_⟩
   refine ⟨qs,qa,qb,x,wss,stp C (fw C x B n i).1,Wy C (n - 1 - i),ro C B (fw C x B n i).2 (n - 1 - i),_,rfl,t2,t3,by have:=zcq h8 (fw C x B n i).1; omega,fun p hp=>zbt gc h1 hp,sx _ _ a2,d3,g1,fun qt H2 s2 hqt => ?_⟩
   dsimp only at hqt
   have lr2:LaysR H2 wl (fnm C x B n) i:=lr.mono fun _ _ e=>s2 _ _ e
   have hr2:=s2 _ _ hrx
   have sx2:=sx.trans s2
   have hwl:=lr2.len
   have nr0:H r=none:=nr
   refine ⟨fun σ Hy=>Same H Hy/\Hy qt=some (.tup [.str (fnm C x B n i),.int (((fw C x B n (i + 1)).1:Nat):Int)])/\∃ wl',Hy r=some (.lst wl')/\LaysR Hy wl' (fnm C x B n) (i + 1) /\ σ = [some (.ref a),some (.ref wa),some (.ref (wd (fw C x B n i).2)),some (.str x),some (.int (((n - i:Nat):Int) - 1)),some (.ref r),some (.int (((fw C x B n i).1:Nat):Int)),some (.int ((i:Nat):Int)),some (.ref qt)],?_,?_⟩
   ·refine ⟨_,rfl,_,_,_,_,rfl,rfl,SqT.of hqt,at0,rfl,_,rfl,?_⟩
    by_cases hz:fnm C x B n i=A2 ""
    ·rw [decide_eq_true (by rw [hz])]
     refine iteF ?_
     exact ⟨sx2,hqt,wl,hr2,lr2.skip hz,rfl⟩
    ·rw [decide_eq_false (fun z=>hz (by injection z))]
     refine iteT ?_
     refine ⟨_,rfl,.inl ⟨rfl,_,SqL.of hr2⟩,_,rfl,_,rfl,_,_,_,_,rfl,rfl,SqT.of hqt,at0,bigr rfl,fun tt ntt => ?_⟩
     have s3:Same H2 (upd H2 tt (.tup [.int ((i:Nat):Int),.str (fnm C x B n i)])):=Same.new ntt
     have htt:upd H2 tt (.tup [.int ((i:Nat):Int),.str (fnm C x B n i)]) tt=some (.tup [.int ((i:Nat):Int),.str (fnm C x B n i)]):=upd_same
     have hr3:=s3 _ _ hr2
     have hqt3:=s3 _ _ hqt
     have lr3:LaysR (upd H2 tt (.tup [.int ((i:Nat):Int),.str (fnm C x B n i)])) wl (fnm C x B n) i:=lr2.mono fun _ _ e=>s3 _ _ e
     generalize upd H2 tt (.tup [.int ((i:Nat):Int),.str (fnm C x B n i)])=H3 at s3 htt hr3 hqt3 lr3 ⊢
     refine ⟨r,_,_,rfl,rfl,hr3,Ae (by omega:wl.length < 1000) zaO,?_⟩
     have kt:∀ qa ys,H3 qa=some (.tup ys)->upd H3 r (.lst (wl ++ [.ref tt])) qa=some (.tup ys):=fun qa ys z=>by rw [zaf (fun z2=>by rw [z2,hr3] at z; cases z)]; exact z
     exact ⟨(sx2.trans s3).put nr0,kt _ _ hqt3,_,upd_same,(lr3.mono kt).snoc hz (kt _ _ htt),rfl⟩
   rintro σ Hy ⟨sy,hqy,wl',hry,lry,rfl⟩
   refine ⟨fun σ Hz=>Hz=Hy /\ σ = [some (.ref a),some (.ref wa),some (.ref (wd (fw C x B n (i + 1)).2)),some (.str x),some (.int (((n - i:Nat):Int) - 1)),some (.ref r),some (.int (((fw C x B n i).1:Nat):Int)),some (.int ((i:Nat):Int)),some (.ref qt)],?_,?_⟩
   ·refine ⟨_,rfl,_,_,_,_,rfl,rfl,SqT.of hqy,at0,_,rfl,rfl,_,rfl,?_⟩
    rw [g2]
    by_cases hz:fnm C x B n i=x
    ·rw [decide_eq_true (show V.str (fnm C x B n i)=V.str x by rw [hz]),decide_eq_true hz,Le]
     refine iteT ?_
     exact ⟨_,rfl,rfl,rfl⟩
    ·rw [decide_eq_false (show ¬ V.str (fnm C x B n i)=V.str x from fun z=>hz (by injection z)),decide_eq_false hz,Kt]
     refine iteF ?_
     exact ⟨rfl,rfl⟩
   rintro σ Hz ⟨rfl,rfl⟩
   refine ⟨_,rfl,_,_,_,_,rfl,rfl,SqT.of hqy,at1,?_⟩
   refine ⟨sy,wl',some (.int ((i:Nat):Int)),some (.ref qt),?_,hry,lry⟩
   rw [e1,show n - (i + 1)=n - 1 - i by omega]
   rfl
  ·rintro σ Hx ⟨sx,wl,x7,x8,rfl,hrx,lr⟩
   rw [zbL] at lr
   exact ⟨_,rfl,q r wl Hx sx nr hrx lr⟩
noncomputable def sp_chk (ea:Nat->A3):Sp:=fun vs H Q E=>∃ n,vs = [.int n]/\(if 0<=n/\n<=200 then Q .non H else E (.ref (ea 13)) none H)
theorem zb2:FnScope ["length"] ["length"] (defScope s_check_length):=⟨rfl,rfl,rfl,by decide +kernel,rfl,by decide +kernel,by decide +kernel⟩
theorem ok_chk {ea:Nat->A3} (D:DefAt K mg "check_length" s_check_length) (T:Bn mg) (V_MOST_FILLED:∃ t,mg "MOST_FILLED" = some (.int 200 t)) (O_BadLength:Err K mg "BadLength" (ea 13)):Callee1 P w K mg base "check_length" 1 ["length"] (sp_chk ea):=by
 refine D.callee1 zb2 (fun _ _ _ _ _ _=>ln1 fun _=>rfl) (fun vs H Q E h => ?_) (fun f cdv A outer s H vs Q E hr h => ?_)
 ·obtain ⟨n,rfl,_⟩:=h
  rfl
 ·obtain ⟨n,rfl,q⟩:=h
  have S:=zb2
  refine ⟨_,zae (zaF (za8 (zdq zdK zdK (zac) (pv 0) (zbO rfl V_MOST_FILLED)))
   (zae (za9 O_BadLength rfl (zaa (zaP) zad)))
   (zan)),?_⟩
  refine ⟨_,rfl,_,_,rfl,rfl,_,rfl,?_⟩
  refine ite2 (fun h0 => ?_) (fun h0 => ?_)
  rotate_left
  ·have h0:¬ (0:Int)<=n:=by simpa using h0
   rw [if_neg (fun z=>h0 z.1)] at q
   exact ⟨_,rfl,iteT ⟨bigr rfl,q⟩⟩
  have h0:(0:Int)<=n:=by simpa using h0
  refine ⟨_,_,rfl,rfl,_,rfl,?_⟩
  by_cases h1:n<=200
  case neg =>
   rw [if_neg (fun z=>h1 z.2)] at q
   rw [decide_eq_false h1]
   exact iteT ⟨bigr rfl,q⟩
  rw [if_pos ⟨h0,h1⟩] at q
  rw [decide_eq_true h1]
  exact iteF q
noncomputable def sp_ffill (ea:Nat->A3) (C:A3):Sp:=fun vs H Q E=>∃ b l G cs past n,vs = [.ref b,.int n]/\Bk C G H b l cs past /\
 (if 0<=n/\n<=200 then (if 0 < Wy (srt cs) n.toNat 0 then ∀ (r:A3) (wl:List V) (H':Hp),Same H H'->H r=none->H' r=some (.lst wl)->LaysR H' wl (fnm (srt cs) (A2 "") (Wy (srt cs)) n.toNat) n.toNat->Q (.ref r) H' else ∀ H',Same H H'->E (.ref (ea 14)) none H') else E (.ref (ea 13)) none H)
theorem zbX:FnScope ["book","length","table","ways"] ["book","length"] (defScope s_first_filling):=⟨rfl,rfl,rfl,by decide +kernel,rfl,by decide +kernel,by decide +kernel⟩
theorem ok_ffill {ea:Nat->A3} {C:A3} (D:DefAt K mg "first_filling" s_first_filling) (T:Bn mg) (C_check_length:Callee1 P w K mg base "check_length" 1 ["length"] (sp_chk ea)) (C_step_table:Callee1 P w K mg base "step_table" 4 ["book"] (sp_table C)) (C_ways_to_close:Callee P w K mg base "ways_to_close" 3 ["table","length"] sp_close) (C_lay_first:Callee1 P w K mg base "lay_first" 3 ["table","ways","wanted","name"] (sp_layf ea)):Callee1 P w K mg base "first_filling" 5 ["book","length"] (sp_ffill ea C):=by
 refine D.callee1 zbX (fun _ _ _ _ _ _=>ln2 fun _ _=>rfl) (fun vs H Q E h => ?_) (fun f cdv A outer s H vs Q E hr h => ?_)
 ·obtain ⟨b,l,G,cs,past,n,rfl,_⟩:=h
  rfl
 ·obtain ⟨b,l,G,cs,past,n,rfl,B,q⟩:=h
  have S:=zbX
  obtain ⟨gc,h8⟩:=zb0 B
  refine ⟨_,zab (zaJ (zba C_check_length (hr.mono (by decide)) (by first | exact pass_try | exact zbb | exact zay) rfl (zaa (pv 1) zad)))
  (zab (zah (i:=2) S.nd rfl (Aj rfl) (zba C_step_table (hr.mono (by decide)) (by first | exact pass_try | exact zbb | exact zay) rfl (zaa (pv 0) zad)))
  (zab (zah (i:=3) S.nd rfl (Aj rfl) (zaz C_ways_to_close (hr.mono (by decide)) rfl (zaa (pv 2) (zaa (pv 1) zad))))
  (zae (zai (zba C_lay_first (hr.mono (by decide)) (by first | exact pass_try | exact zbb | exact zay) rfl (zaa (pv 2) (zaa (pv 3) (zaa (pv 3) (zaa (zaP) zad))))))))),?_⟩
  refine ⟨_,rfl,n,rfl,?_⟩
  by_cases hn:0<=n/\n<=200
  case neg =>
   rw [if_neg hn] at q ⊢
   exact q
  rw [if_pos hn] at q ⊢
  obtain ⟨k,rfl⟩:=En hn.1
  rw [show ((k:Nat):Int).toNat=k by omega] at q
  refine ⟨_,rfl,b,l,G,cs,past,rfl,B,fun a H1 ts s1 na ha tb => ?_⟩
  refine ⟨_,rfl,_,rfl,a,ts,srt cs,k,rfl,ha,tb,gc,h8,by omega,fun r ws H2 s2 hr2 wr => ?_⟩
  have s12:=s1.trans s2
  refine ⟨_,rfl,_,rfl,_,rfl,a,r,r,A2 "",ts,ws,ws,srt cs,k,Wy (srt cs),rfl,s2 _ _ ha,tb.same s2,gc,h8,by omega,hr2,wr,hr2,wr,ze7 _ _,?_⟩
  by_cases hw:0 < Wy (srt cs) k 0
  ·rw [if_pos hw] at q ⊢
   intro p wl H3 s3 np hp lr
   exact q p wl H3 (s12.trans s3) (s12.free np) hp lr
  ·rw [if_neg hw] at q ⊢
   exact q H2 s12
noncomputable def sp_count (ea:Nat->A3) (C:A3):Sp:=fun vs H Q E=>∃ b l G cs past n,vs = [.ref b,.int n]/\Bk C G H b l cs past /\
 (if 0<=n/\n<=200 then ∀ H',Same H H'->Q (.int ((Wy (srt cs) n.toNat 0:Nat):Int)) H' else E (.ref (ea 13)) none H)
theorem zbK:FnScope ["book","length"] ["book","length"] (defScope s_count_fillings):=⟨rfl,rfl,rfl,by decide +kernel,rfl,by decide +kernel,by decide +kernel⟩
theorem ok_count {ea:Nat->A3} {C:A3} (D:DefAt K mg "count_fillings" s_count_fillings) (T:Bn mg) (C_check_length:Callee1 P w K mg base "check_length" 1 ["length"] (sp_chk ea)) (C_step_table:Callee1 P w K mg base "step_table" 4 ["book"] (sp_table C)) (C_ways_to_close:Callee P w K mg base "ways_to_close" 3 ["table","length"] sp_close):Callee1 P w K mg base "count_fillings" 5 ["book","length"] (sp_count ea C):=by
 refine D.callee1 zbK (fun _ _ _ _ _ _=>ln2 fun _ _=>rfl) (fun vs H Q E h => ?_) (fun f cdv A outer s H vs Q E hr h => ?_)
 ·obtain ⟨b,l,G,cs,past,n,rfl,_⟩:=h
  rfl
 ·obtain ⟨b,l,G,cs,past,n,rfl,B,q⟩:=h
  have S:=zbK
  obtain ⟨gc,h8⟩:=zb0 B
  refine ⟨_,zab (zaJ (zba C_check_length (hr.mono (by decide)) (by first | exact pass_try | exact zbb | exact zay) rfl (zaa (pv 1) zad)))
  (zae (zai (zat zaq (zat zaq (zaz C_ways_to_close (hr.mono (by decide)) rfl (zaa (zba C_step_table (hr.mono (by decide)) (by first | exact pass_try | exact zbb | exact zay) rfl (zaa (pv 0) zad)) (zaa (pv 1) zad))) (pv 1) (fun _ _=>rfl)) (zac) (fun _ _=>rfl)))),?_⟩
  refine ⟨_,rfl,n,rfl,?_⟩
  by_cases hn:0<=n/\n<=200
  case neg =>
   rw [if_neg hn] at q ⊢
   exact q
  rw [if_pos hn] at q ⊢
  obtain ⟨k,rfl⟩:=En hn.1
  rw [show ((k:Nat):Int).toNat=k by omega] at q
  refine ⟨_,rfl,b,l,G,cs,past,rfl,B,fun a H1 ts s1 na ha tb => ?_⟩
  refine ⟨_,rfl,a,ts,srt cs,k,rfl,ha,tb,gc,h8,by omega,fun r ws H2 s2 hr2 wr => ?_⟩
  obtain ⟨qk,e1,_,e2⟩:=wr.2 k (A9 _)
  exact ⟨_,rfl,_,_,_,_,rfl,rfl,SqL.of hr2,zax e1,_,_,_,_,rfl,rfl,SqL.of e2,(show atI (wrow (Wy (srt cs) k)) ((0:Nat):Int)=_ from zey _ (by decide)),q H2 (s1.trans s2)⟩
theorem cut_last {ws:List V} {n:Nat} (h:ws.length=n + 1):cutV ws none (some (-1))=ws.take n:=by
 unfold cutV
 rw [h]
 show List.take ((if (-1:Int) < 0 then ((-1:Int) + ((n + 1:Nat):Int)).toNat else min (-1:Int).toNat (n + 1)) - 0) (ws.drop 0)=_
 rw [if_pos (by decide),Ii]
 congr 1
 omega
noncomputable def sp_layw:Sp:=fun vs H Q _=>∃ (a wa:A3) (x:Str) (ts ws:List V) (C:Combs) (n:Nat),vs = [.ref a,.ref wa,.str x]/\H a=some (.lst ts)/\TabR H ts C/\GC C/\C.length<=8/\n<=200/\H wa=some (.lst ws)/\WaysR (fun _=>True) H ws (Wy C) n/\∀ (r:A3) (ws':List V) (H':Hp),Same H H'->H' r=some (.lst ws')->WaysR (fun _=>True) H' ws' (Ww C x) n->Q (.ref r) H'
theorem zcl:FnScope ["table","ways","name","rows","row"] ["table","ways","name"] (defScope s_ways_to_lay):=⟨rfl,rfl,rfl,by decide +kernel,rfl,by decide +kernel,by decide +kernel⟩
theorem ok_layw (D:DefAt K mg "ways_to_lay" s_ways_to_lay) (T:Bn mg) (C_ways_from:Callee P w K mg base "ways_from" 2 ["steps","ways","wanted","name"] sp_from):Callee P w K mg base "ways_to_lay" 3 ["table","ways","name"] sp_layw:=by
 refine D.callee zcl (fun _ _ _ _ _ _=>ln3 fun _ _ _=>rfl) (fun vs H Q E h => ?_) (fun f cdv A outer s H vs Q E hr h => ?_)
 ·obtain ⟨a,wa,x,ts,ws,C,n,rfl,_⟩:=h
  rfl
 ·obtain ⟨a,wa,x,ts,wsA,C,n,rfl,ha,tb,gc,h8,hn,hwa,wrA,q⟩:=h
  have S:=zcl
  have htl:=tb.1
  refine ⟨_,zab (zah (i:=3) S.nd rfl (Gk rfl) (zaB (zaa (zaM (own := ["steps"]) (caps := []) rfl ⟨rfl,rfl,rfl,rfl,trivial⟩ (zau (pv 0)) (fun _ _ _ _ _ _=>zak (i:=0) (zaK (by decide +kernel)) rfl (Aj rfl)) (fun _ _ _ _ _ _=>za2) (fun _ _ _ _ _ _=>zac)) zad)))
  (zab (zaZ B8 rfl (zau (zcU zdz (pv 1) (zdH) (zdG (zct zbr (zac))))) (zak (i:=4) S.nd rfl (Gk rfl))
   (zae (zaJ (zcV Bg Bm Bl zaH (pv 3) (zaa (zaM (own := ["steps"]) (caps := [(4,"row"),(3,"rows"),(2,"name")]) rfl ⟨rfl,rfl,rfl,rfl,⟨⟨rfl,rfl,.inl rfl⟩,⟨rfl,rfl,.inl rfl⟩,⟨rfl,rfl,.inl rfl⟩,trivial⟩⟩ (zau (pv 0)) (fun _ _ _ _ _ _=>zak (i:=0) (zaK (by decide +kernel)) rfl (Aj rfl)) (fun _ _ _ _ _ _=>za2) (fun _ _ _ _ _ _=>zaz C_ways_from (hr.mono (by decide)) rfl (zaa (pv 0) (zaa (pv 1) (zaa (zat (zc1 K rfl) (pv 2) (zct zbr (zac)) (fun _ _=>rfl)) (zaa (pv 3) zad)))))) zad)))))
  (zae (zai (pv 3)))),?_⟩
  refine ⟨_,rfl,_,rfl,⟨_,SqL.of ha⟩,fun D hD => ?_⟩
  refine zb8 (capv := []) (by rfl) (zaj K a ts) (big (by omega)) hD (fun H' s'=>SqL.of (s' _ _ ha)) (fun _=>true) (fun _=>V.int 0) (fun x hx H' R s' h=>h H' (Same.refl _)) (fun x hx _ H' R s' h=>h H' (Same.refl _)) ?_
  intro H1 s1 e1
  have e1':H1 D=some (.lst (wrow (Ww C x 0))):=by
   rw [e1,Bo.mpr (fun _ _=>rfl)]
   unfold wrow
   congr 2
   refine Jp (by rw [A1,A1,B0]; omega) fun i h1 h2 => ?_
   rw [Hb,Hb]
   rfl
  refine ⟨bigr rfl,fun r nr => ?_⟩
  have s2:Same H1 (upd H1 r (.lst [.ref D])):=Same.new nr
  have hr2:upd H1 r (.lst [.ref D]) r=some (.lst [.ref D]):=upd_same
  have hD2:=s2 _ _ e1'
  have hDr:D≠r:=fun z=>by rw [<- z,e1'] at nr; cases nr
  have s12:=s1.trans s2
  have nr0:=s1.free nr
  generalize upd H1 r (.lst [.ref D])=H2 at s12 hr2 hD2 ⊢
  refine ⟨_,rfl,_,rfl,_,rfl,_,_,rfl,SqL.of (s12 _ _ hwa),fun sl nsl => ?_⟩
  rw [cut_last wrA.1]
  have s3:Same H2 (upd H2 sl (.lst (wsA.take n))):=Same.new nsl
  have hsl:upd H2 sl (.lst (wsA.take n)) sl=some (.lst (wsA.take n)):=upd_same
  have hslr:sl≠r:=fun z=>by rw [z,hr2] at nsl; cases nsl
  have hr3:=s3 _ _ hr2
  have hD3:=s3 _ _ hD2
  have s13:=s12.trans s3
  generalize upd H2 sl (.lst (wsA.take n))=H3 at s13 hsl hr3 hD3 ⊢
  have hlen:(wsA.take n).length=n:=by rw [Cf,wrA.1]; omega
  refine ⟨_,rfl,⟨_,SqL.of hsl⟩,?_⟩
  refine zbA (zaj K sl (wsA.take n)) (fun i σ Hx=>Same H Hx/\Hx sl=some (.lst (wsA.take n))/\∃ (ws:List V) (x4:Option V),σ = [some (.ref a),some (.ref wa),some (.str x),some (.ref r),x4]/\Hx r=some (.lst ws)/\WaysR (fun z=>z≠r) Hx ws (Ww C x) i) ⟨s13,hsl,[.ref D],_,rfl,hr3,rfl,fun k hk=>by
    have:k=0:=by omega
    subst this
    exact ⟨D,rfl,hDr,hD3⟩⟩ (fun u σ Hz _ h=>SqL.of h.2.1) ?_ ?_
  ·rintro i y σ Hx hy ⟨sx,hslx,ws,x4,rfl,hrx,wr⟩
   have hi':i < n:=by rw [<- hlen]; exact (Ah.mp hy).1
   obtain ⟨qa,eqa,_,hqa⟩:=wrA.2 i (by omega)
   rw [List.getElem?_take,if_pos hi',eqa] at hy
   cases hy
   obtain ⟨qk,eqk,_,hqk⟩:=wr.2 i (A9 _)
   have hat:atI ws (-1)=some (.ref qk):=zdn wr.1 eqk
   refine ⟨_,rfl,.inl ⟨rfl,_,SqL.of hrx⟩,_,rfl,_,rfl,⟨_,SqL.of (sx _ _ ha)⟩,fun D2 hD2 => ?_⟩
   refine zcp (capv := [some (.ref qa),some (.ref r),some (.str x)]) (by rfl) (zaj K a ts) (big (by omega)) hD2 (fun H' s'=>SqL.of (s' _ _ (sx _ _ ha))) (fun _=>true) (fun s=>V.int ((Ww C x (i + 1) s:Nat):Int)) (fun _ _ _=>nofun) (fun u y hy H' R s' h=>h H' (Same.refl _)) ?_ ?_
   ·intro u y hy _ H' R s' h
    have hu:u < 128:=by rw [<- htl]; exact (Ah.mp hy).1
    obtain ⟨qs,wss,e1,e2,e3⟩:=(tb.same (sx.trans s')).2 u hu
    rw [hy] at e1
    cases e1
    refine ⟨_,rfl,_,rfl,_,rfl,_,rfl,_,_,_,_,rfl,rfl,SqL.of (s' _ _ hrx),hat,_,rfl,?_⟩
    refine ⟨qs,qa,qk,x,wss,stp C u,Wy C i,Ww C x i,rfl,e2,e3,by have:=zcq h8 u; omega,fun p hp=>zbt gc hu hp,s' _ _ (sx _ _ hqa),s' _ _ hqk,fun H'' s'' => ?_⟩
    exact h H'' s''
   intro H4 s4 e4
   have hr4:=s4 _ _ hrx
   have hD2r:D2≠r:=fun z=>by rw [z,hrx] at hD2; cases hD2
   have e4':H4 D2=some (.lst (wrow (Ww C x (i + 1)))):=by
    rw [e4,Bo.mpr (fun _ _=>rfl),htl]
    rfl
   refine ⟨r,_,_,rfl,rfl,hr4,Ae (by have:=wr.1; omega:ws.length < 1000) zaO,?_⟩
   refine ⟨(sx.trans s4).put nr0,by rw [zaf hslr]; exact s4 _ _ hslx,_,_,rfl,upd_same,?_⟩
   exact (WaysR.mono wr (fun _ z=>z) fun z o hz e=>by rw [zaf hz]; exact s4 _ _ e).snoc (by rw [zaf hD2r]; exact e4') hD2r
  ·rintro σ Hx ⟨sx,hslx,ws,x4,rfl,hrx,wr⟩
   rw [hlen] at wr
   exact ⟨_,rfl,q r ws Hx sx hrx (wr.mono (fun _ _=>trivial) fun _ _ _ e=>e)⟩
noncomputable def sp_countw (ea:Nat->A3) (C:A3):Sp:=fun vs H Q E=>∃ b l G cs past x n,vs = [.ref b,.str x,.int n]/\Bk C G H b l cs past /\
 (if (cGet cs x).isSome=true then (if 0<=n/\n<=200 then ∀ H',Same H H'->Q (.int ((Ww (srt cs) x n.toNat 0:Nat):Int)) H' else E (.ref (ea 13)) none H) else E (.ref (ea 4)) none H)
theorem zbe:FnScope ["book","name","length","table"] ["book","name","length"] (defScope s_count_fillings_with):=⟨rfl,rfl,rfl,by decide +kernel,rfl,by decide +kernel,by decide +kernel⟩
theorem ok_countw {ea:Nat->A3} {C:A3} (D:DefAt K mg "count_fillings_with" s_count_fillings_with) (T:Bn mg) (BA:BookAt K C) (M_check_comb:Method P w K mg base C "check_comb" (CX1 P w) 1 ["self","name"] (sp_check ea C)) (C_check_length:Callee1 P w K mg base "check_length" 1 ["length"] (sp_chk ea)) (C_step_table:Callee1 P w K mg base "step_table" 4 ["book"] (sp_table C)) (C_ways_to_close:Callee P w K mg base "ways_to_close" 3 ["table","length"] sp_close) (C_ways_to_lay:Callee P w K mg base "ways_to_lay" 3 ["table","ways","name"] sp_layw):Callee1 P w K mg base "count_fillings_with" 5 ["book","name","length"] (sp_countw ea C):=by
 refine D.callee1 zbe (fun _ _ _ _ _ _=>ln3 fun _ _ _=>rfl) (fun vs H Q E h => ?_) (fun f cdv A outer s H vs Q E hr h => ?_)
 ·obtain ⟨b,l,G,cs,past,x,n,rfl,_⟩:=h
  rfl
 ·obtain ⟨b,l,G,cs,past,x,n,rfl,B,q⟩:=h
  have S:=zbe
  have B_cls:=BA.cls
  obtain ⟨gc,h8⟩:=zb0 B
  obtain ⟨dx,d,hb,_⟩:=id B.ins
  refine ⟨_,zab (zaJ (zfN (pv 0) B_cls M_check_comb (hr.mono (by decide)) (by first | exact zdI | exact pass_try | exact zbb | exact zay) (zaa (pv 1) zad)))
  (zab (zaJ (zba C_check_length (hr.mono (by decide)) (by first | exact pass_try | exact zbb | exact zay) rfl (zaa (pv 2) zad)))
  (zab (zah (i:=3) S.nd rfl (Aj rfl) (zba C_step_table (hr.mono (by decide)) (by first | exact pass_try | exact zbb | exact zay) rfl (zaa (pv 0) zad)))
  (zae (zai (zat zaq (zat zaq (zaz C_ways_to_lay (hr.mono (by decide)) rfl (zaa (pv 3) (zaa (zaz C_ways_to_close (hr.mono (by decide)) rfl (zaa (pv 3) (zaa (pv 2) zad))) (zaa (pv 1) zad)))) (pv 2) (fun _ _=>rfl)) (zac) (fun _ _=>rfl)))))),?_⟩
  refine ⟨_,rfl,_,_,_,rfl,hb,rfl,_,rfl,b,l,G,cs,past,x,rfl,B,?_⟩
  by_cases hx:(cGet cs x).isSome=true
  case neg =>
   rw [if_neg hx] at q ⊢
   exact q
  rw [if_pos hx] at q ⊢
  refine ⟨_,rfl,n,rfl,?_⟩
  by_cases hn:0<=n/\n<=200
  case neg =>
   rw [if_neg hn] at q ⊢
   exact q
  rw [if_pos hn] at q ⊢
  obtain ⟨k,rfl⟩:=En hn.1
  rw [show ((k:Nat):Int).toNat=k by omega] at q
  refine ⟨_,rfl,b,l,G,cs,past,rfl,B,fun a H1 ts s1 na ha tb => ?_⟩
  refine ⟨_,rfl,_,rfl,_,rfl,a,ts,srt cs,k,rfl,ha,tb,gc,h8,by omega,fun r ws H2 s2 hr2 wr => ?_⟩
  have s12:=s1.trans s2
  refine ⟨_,rfl,a,r,x,ts,ws,srt cs,k,rfl,s2 _ _ ha,tb.same s2,gc,h8,by omega,hr2,wr,fun r' ws' H3 s3 hr3 wr' => ?_⟩
  obtain ⟨qk,e1,_,e2⟩:=wr'.2 k (A9 _)
  exact ⟨_,rfl,_,_,_,_,rfl,rfl,SqL.of hr3,zax e1,_,_,_,_,rfl,rfl,SqL.of e2,(show atI (wrow (Ww (srt cs) x k)) ((0:Nat):Int)=_ from zey _ (by decide)),q H3 (s12.trans s3)⟩
noncomputable def sp_at (K:At):Sp:=fun vs H Q _=>∃ (a:A3) (ns:List Int) (k:Int),vs = [.ref a,.int k]/\SqL K H a (ns.map V.int)/\0<=k/\Q (.int (ns.getD k.toNat 0)) H
theorem zim:FnScope ["_law_script","_law_k"] ["_law_script","_law_k"] (defScope s_at):=⟨rfl,rfl,rfl,by decide +kernel,rfl,by decide +kernel,by decide +kernel⟩
theorem ok_at (D:DefAt K mg "_law_at" s_at) (T:Bn mg):Callee P w K mg base "_law_at" 1 ["_law_script","_law_k"] (sp_at K):=by
 refine D.callee zim (fun _ _ _ _ _ _=>ln2 fun _ _=>rfl) (fun vs H Q E h => ?_) (fun f cdv A outer s H vs Q E hr h => ?_)
 ·obtain ⟨a,ns,k,rfl,_⟩:=h
  rfl
 ·obtain ⟨a,ns,k,rfl,hS,h0,q⟩:=h
  have S:=zim
  refine ⟨_,zab (zaF (zap ziq (pv 1) (zal zar rfl T.n_len Bw (zaa (pv 0) zad)) (zav _))
   (zae (zai (zat zaq (pv 0) (pv 1) (fun _ _=>rfl))))
   (zan))
  (zae (zai (zac))),?_⟩
  refine ⟨_,rfl,_,rfl,_,_,rfl,.inl hS,_,_,rfl,rfl,_,rfl,?_⟩
  refine ite2 (fun hc => ?_) (fun hc => ?_)
  ·have hc:=of_decide_eq_true hc
   rw [A1] at hc
   exact ⟨_,rfl,_,rfl,_,_,_,_,rfl,rfl,hS,zig h0 hc,q⟩
  ·have hc:¬ k < (ns.length:Int):=fun z=>hc (decide_eq_true (by rw [A1]; exact z))
   rw [getD_big hc] at q
   exact q
noncomputable def mixed (c k:Int):Int:=((c + 7919 * k + 1) * 48271 % 2147483647 + 104729 * k + 3) * 69621 % 2147483647
noncomputable def sp_mixed:Sp:=fun vs H Q _=>∃ (c k:Int),vs = [.int c,.int k]/\Q (.int (mixed c k)) H
theorem zgk:FnScope ["_law_cell","_law_k","_law_once"] ["_law_cell","_law_k"] (defScope s_mixed):=⟨rfl,rfl,rfl,by decide +kernel,rfl,by decide +kernel,by decide +kernel⟩
theorem ok_mixed (D:DefAt K mg "_law_mixed" s_mixed) (T:Bn mg):Callee P w K mg base "_law_mixed" 1 ["_law_cell","_law_k"] sp_mixed:=by
 refine D.callee zgk (fun _ _ _ _ _ _=>ln2 fun _ _=>rfl) (fun vs H Q E h => ?_) (fun f cdv A outer s H vs Q E hr h => ?_)
 ·obtain ⟨c,k,rfl,_⟩:=h
  rfl
 ·obtain ⟨c,k,rfl,q⟩:=h
  have S:=zgk
  refine ⟨_,zab (zah (i:=2) S.nd rfl (Aj rfl) (zaw zbo (zaw zfe (zaw zbw (zaw zbw (pv 0) (zaw zfe (zac) (pv 1))) (zac)) (zac)) (zac)))
  (zae (zai (zaw zbo (zaw zfe (zaw zbw (zaw zbw (pv 2) (zaw zfe (zac) (pv 1))) (zac)) (zac)) (zac)))),?_⟩
  refine ⟨_,rfl,_,rfl,_,_,rfl,rfl,.inl ⟨by decide,by decide⟩,_,_,rfl,rfl,_,_,rfl,rfl,_,_,rfl,rfl,.inr ⟨by decide,by decide⟩,_,_,rfl,rfl,by show (0:Int) < 2147483647; decide,?_⟩
  exact ⟨_,rfl,_,rfl,_,_,rfl,rfl,.inl ⟨by decide,by decide⟩,_,_,rfl,rfl,_,_,rfl,rfl,_,_,rfl,rfl,.inr ⟨by decide,by decide⟩,_,_,rfl,rfl,by show (0:Int) < 2147483647; decide,q⟩
noncomputable def sp_whole:Sp:=fun vs H Q _=>∃ (i:Int),vs = [.int i]/\Q (.bl true) H
theorem zgh:FnScope ["_law_found"] ["_law_found"] (defScope s_whole):=⟨rfl,rfl,rfl,by decide +kernel,rfl,by decide +kernel,by decide +kernel⟩
theorem ok_whole (D:DefAt K mg "_law_whole" s_whole) (T:Bn mg):Callee P w K mg base "_law_whole" 1 ["_law_found"] sp_whole:=by
 refine D.callee zgh (fun _ _ _ _ _ _=>ln1 fun _=>rfl) (fun vs H Q E h => ?_) (fun f cdv A outer s H vs Q E hr h => ?_)
 ·obtain ⟨i,rfl,_⟩:=h
  rfl
 ·obtain ⟨i,rfl,q⟩:=h
  have S:=zgh
  refine ⟨_,zae (zai (zhi (zal (zbQ "int") rfl T.n_isinstance Ew (zaa (pv 0) (zaa (zcu (v := .ty "int") rfl T.n_int boot_int rfl) zad))) (zhf (pe_not (zal (zbQ "bool") rfl T.n_isinstance Ew (zaa (pv 0) (zaa (zcu (v := .ty "bool") rfl T.n_bool boot_bool rfl) zad))))))),?_⟩
  refine ⟨_,rfl,_,_,true,rfl,.int i,rfl,_,rfl,?_⟩
  refine iteT ?_
  exact ⟨_,rfl,_,_,false,rfl,.int i,rfl,_,rfl,q⟩
noncomputable def sp_word:Sp:=fun vs H Q _=>∃ (c b:Int),vs = [.int c,.int b]/\(b=26\/b=2)/\∀ x:Str,isName x=true->Q (.str x) H
theorem zg5:FnScope ["_law_cell","_law_base","_law_word_here","_law_rest","_law_k"] ["_law_cell","_law_base"] (defScope s_word):=⟨rfl,rfl,rfl,by decide +kernel,rfl,by decide +kernel,by decide +kernel⟩
theorem ok_word (D:DefAt K mg "_law_word" s_word) (T:Bn mg):Callee P w K mg base "_law_word" 1 ["_law_cell","_law_base"] sp_word:=by
 refine D.callee zg5 (fun _ _ _ _ _ _=>ln2 fun _ _=>rfl) (fun vs H Q E h => ?_) (fun f cdv A outer s H vs Q E hr h => ?_)
 ·obtain ⟨c,b,rfl,_⟩:=h
  rfl
 ·obtain ⟨c,b,rfl,hb,q⟩:=h
  have S:=zg5
  have b0:0 < b:=by omega
  have b1:b<=26:=by omega
  have m0:=Hs c (show (6:Int)≠0 by decide)
  have m1:=Gi c p6
  refine ⟨_,zab (zah (i:=2) S.nd rfl (Aj rfl) (zaP))
  (zab (zah (i:=3) S.nd rfl (Aj rfl) (zaw zb5 (pv 0) (zac)))
  (zab (zaZ B8 rfl (zbm rfl T.n_range (zaa (zaw zbw (zac) (zaw zbo (pv 0) (zac))) zad)) (zak (i:=4) S.nd rfl (Aj rfl))
   (zab (zah (i:=2) S.nd rfl (Aj rfl) (zaw op_add_str (pv 2) (zat ix_str (zaP) (zaw zbo (pv 3) (pv 1)) (fun _ _=>rfl))))
   (zae (zah (i:=3) S.nd rfl (Aj rfl) (zaw zb5 (pv 3) (pv 1))))))
  (zae (zai (pv 2))))),?_⟩
  refine ⟨_,rfl,_,_,rfl,rfl,⟨p6,by decide⟩,?_⟩
  refine ⟨_,rfl,_,_,rfl,rfl,p6,_,_,rfl,rfl,_,rfl,?_,?_,?_⟩
  ·show -(2 ^ 62)<=1 + c % 6
   omega
  ·show 1 + c % 6 < 2 ^ 62
   omega
  refine zbA (zaT 0 (1 + c % 6).toNat) (fun i σ H'=>H'=H/\∃ (x:Str) (r:Int) (x4:Option V),σ = [some (.int c),some (.int b),some (.str x),some (.int r),x4]/\x.length=i/\x.cps.toList.all small=true) ⟨rfl,Str.ofString "",_,_,rfl,by decide,by decide⟩ (fun _ _ _ _ _=>trivial) ?_ ?_
  ·rintro i x σ H2 hx ⟨rfl,y,r,x4,rfl,hl,ha⟩
   obtain ⟨hi,rfl⟩:=zbv hx
   obtain ⟨ch,hch,hs⟩:=abc_at (k:=r % b) (Int.emod_nonneg _ (by omega)) (by have:=Int.emod_lt_of_pos r b0; omega)
   refine ⟨_,rfl,_,rfl,_,rfl,_,_,rfl,rfl,b0,_,_,_,rfl,rfl,?_,hch,_,_,rfl,rfl,?_,?_⟩
   ·show abc.length<=sizeLine
    rw [zf1]; decide
   ·rw [zeO]
    exact big (by omega)
   refine ⟨_,rfl,_,rfl,_,_,rfl,rfl,⟨b0,by omega⟩,?_⟩
   refine ⟨rfl,_,_,_,rfl,by rw [len_app,hl,zeO],?_⟩
   rw [app_list,List.all_append,ha]
   show (true && [ch].all small)=true
   simp [hs]
  ·rintro σ H2 ⟨rfl,y,r,x4,rfl,hl,ha⟩
   rw [A1,B0] at hl
   exact ⟨_,rfl,q y (zhl (by omega) (by omega) ha)⟩
noncomputable def sp_spare (K:At):Sp:=fun vs H Q _=>∃ (x:Str) (u:A3) (us:List Str),vs = [.str x,.ref u]/\isName x=true/\SqL K H u (us.map V.str)/\us.length<=25/\∀ y H',Same H H'->isName y=true->y ∉ us->Q (.str y) H'
noncomputable def notUsed (us:List Str) (v:V):Bool:=match v with
 | .str y => !decide (y∈us)
 | _=>false
theorem zgj:FnScope ["_law_word_here","_law_used"] ["_law_word_here","_law_used"] (defScope s_spare):=⟨rfl,rfl,rfl,by decide +kernel,rfl,by decide +kernel,by decide +kernel⟩
theorem ok_spare (D:DefAt K mg "_law_spare" s_spare) (T:Bn mg):Callee P w K mg base "_law_spare" 1 ["_law_word_here","_law_used"] (sp_spare K):=by
 refine D.callee zgj (fun _ _ _ _ _ _=>ln2 fun _ _=>rfl) (fun vs H Q E h => ?_) (fun f cdv A outer s H vs Q E hr h => ?_)
 ·obtain ⟨x,u,us,rfl,_⟩:=h
  rfl
 ·obtain ⟨x,u,us,rfl,hx,hS,hl,q⟩:=h
  have S:=zgj
  refine ⟨_,zab (zaF (zap zb4 (pv 0) (pv 1) (by with_unfolding_all rfl))
   (zae (zai (pv 0)))
   (zan))
  (zae (zai (zat zaq (zaM (own := ["_law_one"]) (caps := [(1,"_law_used")]) rfl ⟨rfl,rfl,rfl,rfl,⟨⟨rfl,rfl,.inl rfl⟩,trivial⟩⟩ (zhU (zaP)) (fun _ _ _ _ _ _=>zak (i:=0) (zaK (by decide +kernel)) rfl (Aj rfl)) (fun _ _ _ _ _ _=>zda (zap (op_notIn_seq' K rfl) (pv 0) (pv 1) (by with_unfolding_all rfl))) (fun _ _ _ _ _ _=>pv 0)) (zac) (fun _ _=>rfl)))),?_⟩
  refine ⟨_,rfl,_,rfl,_,_,rfl,.inl hS,rfl,zfu us,_,rfl,?_⟩
  rw [if_pos rfl,zht]
  refine ite2 (fun hc => ?_) (fun hc => ?_)
  ·have h0:x ∉ us:=by simpa using hc
   exact ⟨_,rfl,q x H (Same.refl H) hx h0⟩
  ·refine ⟨_,rfl,fun D hD => ?_⟩
   refine zb8 (capv := [some (.ref u)]) (L:=abc.cps.toList.map sgn) (by rfl) (zfr abc) (by rw [A1,zc6,zf1]; decide) hD ?_ (notUsed us) (fun v=>v) ?_ ?_ ?_
   ·exact fun _ _=>trivial
   ·intro v hv H' R s' h
    obtain ⟨c,hc,rfl⟩:=A7.mp hv
    refine ⟨_,rfl,_,rfl,_,_,rfl,.inl (s'.seq hS),rfl,zfu us,_,rfl,?_⟩
    rw [if_pos rfl]
    show R (!inV (V.str ⟨#[c]⟩) (us.map V.str)) H'
    rw [zht]
    exact h H' (Same.refl _)
   ·intro v hv hp H' R s' h
    exact ⟨_,rfl,h H' (Same.refl _)⟩
   ·intro H' s' e
    obtain ⟨c,hc,hn⟩:=spare_some us hl
    have hm:sgn c∈((abc.cps.toList.map sgn).filter (notUsed us)).map fun v=>v:=by
     rw [L8]
     exact Az.mpr ⟨A7.mpr ⟨c,hc,rfl⟩,by show (!decide ((⟨#[c]⟩:Str)∈us))=true; simp [hn]⟩
    have hall:∀ v∈((abc.cps.toList.map sgn).filter (notUsed us)).map fun v=>v,∃ d,v=sgn d/\small d=true/\(⟨#[d]⟩:Str) ∉ us:=fun v hv=>by
     rw [L8] at hv
     obtain ⟨h1,h2⟩:=Az.mp hv
     obtain ⟨d,hd,rfl⟩:=A7.mp h1
     have h2:(!decide ((⟨#[d]⟩:Str)∈us))=true:=h2
     exact ⟨d,rfl,abc_small hd,by simpa using h2⟩
    generalize (((abc.cps.toList.map sgn).filter (notUsed us)).map fun v=>v)=l at e hm hall
    cases l with
    | nil=>cases hm
    | cons v l =>
     obtain ⟨d,rfl,hs,hd⟩:=hall v Ap
     exact ⟨_,_,_,_,rfl,rfl,SqL.of e,(show atI (sgn d :: l) ((0:Nat):Int)=some (sgn d) from zax rfl),q _ H' s' (name_one hs) hd⟩
noncomputable def Rows (H:Hp):List V->List (List Int)->Prop
 | [],[]=>True
 | v :: vs,r :: rs=>(∃ p,v = .ref p/\H p=some (.tup (r.map V.int)))/\Rows H vs rs
 | _,_=>False
theorem Rows.same {H H':Hp} (s:Same H H'):∀ {vs:List V} {rs:List (List Int)},Rows H vs rs->Rows H' vs rs
 | [],[],_=>trivial
 | _ :: _,_ :: _,⟨⟨p,e,h⟩,r⟩=>⟨⟨p,e,s _ _ h⟩,Rows.same s r⟩
 | [],_ :: _,h=>h.elim
 | _ :: _,[],h=>h.elim
theorem Rows.snoc {H:Hp} {p:A3} {r:List Int} (h:H p=some (.tup (r.map V.int))):∀ {vs:List V} {rs:List (List Int)},Rows H vs rs->Rows H (vs ++ [.ref p]) (rs ++ [r])
 | [],[],_=>⟨⟨p,rfl,h⟩,trivial⟩
 | _ :: _,_ :: _,⟨a,b⟩=>⟨a,Rows.snoc h b⟩
 | [],_ :: _,x=>x.elim
 | _ :: _,[],x=>x.elim
theorem Rows.get {H:Hp}:∀ {vs:List V} {rs:List (List Int)} {i:Nat} {r:List Int},Rows H vs rs->rs[i]?=some r->∃ p,vs[i]?=some (.ref p)/\H p=some (.tup (r.map V.int))
 | [],[],_,_,_,e=>by simp at e
 | _ :: _,_ :: _,0,_,⟨⟨p,e,h⟩,_⟩,z=>by
  simp at z
  subst z
  exact ⟨p,by rw [e]; rfl,h⟩
 | _ :: _,_ :: _,i + 1,_,⟨_,b⟩,z=>Rows.get (i:=i) b (by simpa using z)
 | [],_ :: _,_,_,x,_=>x.elim
 | _ :: _,[],_,_,x,_=>x.elim
structure Mr (H0 H:Hp) (vs:List V) (rs:List (List Int)):Prop where
 same:Same H0 H
 rows:Rows H vs rs
theorem Mr.add {H0 H:Hp} {vs:List V} {rs:List (List Int)} (m:Mr H0 H vs rs) (r:List Int) {p:A3} (n:H p=none):Mr H0 (upd H p (.tup (r.map V.int))) (vs ++ [.ref p]) (rs ++ [r]) :=
 ⟨m.same.put (m.same.free n),Rows.snoc upd_same (m.rows.same (Same.new n))⟩
theorem Mr.lstE {H0 H:Hp} {vs:List V} {rs:List (List Int)} (m:Mr H0 H vs rs) {o:HO} {p:A3} (n:H p=none):Mr H0 (upd H p o) vs rs/\upd H p o p=some o:=⟨⟨m.same.put (m.same.free n),m.rows.same (Same.new n)⟩,upd_same⟩
theorem Mr.lst {H0 H:Hp} {vs:List V} {rs:List (List Int)} (m:Mr H0 H vs rs) {o:HO} {p:A3} (n:H p=none):Mr H0 (upd H p o) vs rs:=⟨m.same.put (m.same.free n),m.rows.same (Same.new n)⟩
noncomputable def menuRows:List (List Int) := [[45],[131,133],[193,65],[71,161,99],[77,131,133],[13,49],[153,111,131],[197,131,173,53],[83,125,137,173,243],[185,193,215,87,243],[5],[175,209,67,129,21,229,49,83],[203,243,129,167,153,223,207,243],[197,147,131],[197,131,177],[31,255],[3,3],[119,225,131,109]]
noncomputable def MenuRow (xs:List Int):Prop:=(1<=xs.length/\xs.length<=8)/\∀ x∈xs,x % 2=1/\0<=x/\x < 256
theorem menu_ok {i:Nat} {r:List Int} (h:menuRows[i]?=some r):MenuRow r:=by
 have all:∀ r∈menuRows,(1<=r.length/\r.length<=8)/\∀ x∈r,x % 2=1/\0<=x/\x < 256:=by decide
 exact all r (Br h)
noncomputable def sp_menu:Sp:=fun vs H Q _=>∃ (k:Int),vs = [.int k]/\∀ p xs H',Same H H'->H' p=some (.tup (xs.map V.int))->MenuRow xs->Q (.ref p) H'
theorem zg6:FnScope ["_law_k","_law_rows"] ["_law_k"] (defScope s_menu):=⟨rfl,rfl,rfl,by decide +kernel,rfl,by decide +kernel,by decide +kernel⟩
theorem ok_menu (D:DefAt K mg "_law_menu" s_menu) (T:Bn mg):Callee P w K mg base "_law_menu" 1 ["_law_k"] sp_menu:=by
 refine D.calleeQ zg6 (fun _ _ _ _ _ _=>ln1 fun _=>rfl) (fun vs H Q E h => ?_) (fun f cdv A outer s H vs Q E hr h => ?_)
 ·obtain ⟨k,rfl,_⟩:=h
  rfl
 ·obtain ⟨k,rfl,q⟩:=h
  have S:=zg6
  refine ⟨_,zbj (zcS (i:=1) S.nd rfl (Aj rfl) (zdl (zag (zbf (zag (qe (zac)) (zaQ))) (zag (zbf (zag (qe (zac)) (zag (qe (zac)) (zaQ)))) (zag (zbf (zag (qe (zac)) (zag (qe (zac)) (zaQ)))) (zag (zbf (zag (qe (zac)) (zag (qe (zac)) (zag (qe (zac)) (zaQ))))) (zag (zbf (zag (qe (zac)) (zag (qe (zac)) (zag (qe (zac)) (zaQ))))) (zag (zbf (zag (qe (zac)) (zag (qe (zac)) (zaQ)))) (zag (zbf (zag (qe (zac)) (zag (qe (zac)) (zag (qe (zac)) (zaQ))))) (zaQ))))))))))
  (zbj (zcS (i:=1) S.nd rfl (Aj rfl) (zij zfg (qe (pv 1)) (zdl (zag (zbf (zag (qe (zac)) (zag (qe (zac)) (zag (qe (zac)) (zag (qe (zac)) (zaQ)))))) (zag (zbf (zag (qe (zac)) (zag (qe (zac)) (zag (qe (zac)) (zag (qe (zac)) (zag (qe (zac)) (zaQ))))))) (zag (zbf (zag (qe (zac)) (zag (qe (zac)) (zag (qe (zac)) (zag (qe (zac)) (zag (qe (zac)) (zaQ))))))) (zag (zbf (zag (qe (zac)) (zaQ))) (zaQ))))))))
  (zbj (zcS (i:=1) S.nd rfl (Aj rfl) (zij zfg (qe (pv 1)) (zdl (zag (zbf (zag (qe (zac)) (zag (qe (zac)) (zag (qe (zac)) (zag (qe (zac)) (zag (qe (zac)) (zag (qe (zac)) (zag (qe (zac)) (zag (qe (zac)) (zaQ)))))))))) (zag (zbf (zag (qe (zac)) (zag (qe (zac)) (zag (qe (zac)) (zag (qe (zac)) (zag (qe (zac)) (zag (qe (zac)) (zag (qe (zac)) (zag (qe (zac)) (zaQ)))))))))) (zaQ))))))
  (zbj (zcS (i:=1) S.nd rfl (Aj rfl) (zij zfg (qe (pv 1)) (zdl (zag (zbf (zag (qe (zac)) (zag (qe (zac)) (zag (qe (zac)) (zaQ))))) (zag (zbf (zag (qe (zac)) (zag (qe (zac)) (zag (qe (zac)) (zaQ))))) (zag (zbf (zag (qe (zac)) (zag (qe (zac)) (zaQ)))) (zag (zbf (zag (qe (zac)) (zag (qe (zac)) (zaQ)))) (zag (zbf (zag (qe (zac)) (zag (qe (zac)) (zag (qe (zac)) (zag (qe (zac)) (zaQ)))))) (zaQ)))))))))
  (zhc (zhS (qe (zat zaq (pv 1) (zaw zbo (pv 0) (zal zar rfl T.n_len Bw (zaa (pv 1) zad))) (fun _ _=>rfl)))))))),?_⟩
  have M:Mr H H [] []:=⟨Same.refl H,trivial⟩
  refine ⟨bigr rfl,fun a1 na => ?_⟩
  replace M:=M.add [45] na
  clear na
  refine ⟨bigr rfl,fun a2 na => ?_⟩
  replace M:=M.add [131,133] na
  clear na
  refine ⟨bigr rfl,fun a3 na => ?_⟩
  replace M:=M.add [193,65] na
  clear na
  refine ⟨bigr rfl,fun a4 na => ?_⟩
  replace M:=M.add [71,161,99] na
  clear na
  refine ⟨bigr rfl,fun a5 na => ?_⟩
  replace M:=M.add [77,131,133] na
  clear na
  refine ⟨bigr rfl,fun a6 na => ?_⟩
  replace M:=M.add [13,49] na
  clear na
  refine ⟨bigr rfl,fun a7 na => ?_⟩
  replace M:=M.add [153,111,131] na
  clear na
  refine ⟨bigr rfl,fun b0 nb => ?_⟩
  obtain ⟨M,e⟩:=M.lstE (o := .lst [V.ref a1,V.ref a2,V.ref a3,V.ref a4,V.ref a5,V.ref a6,V.ref a7]) nb
  clear nb
  refine ⟨_,rfl,?_⟩
  refine ⟨bigr rfl,fun a8 na => ?_⟩
  replace M:=M.add [197,131,173,53] na
  replace e:=zc0 (o := .tup (([197,131,173,53]:List Int).map V.int)) e na
  clear na
  refine ⟨bigr rfl,fun a9 na => ?_⟩
  replace M:=M.add [83,125,137,173,243] na
  replace e:=zc0 (o := .tup (([83,125,137,173,243]:List Int).map V.int)) e na
  clear na
  refine ⟨bigr rfl,fun a10 na => ?_⟩
  replace M:=M.add [185,193,215,87,243] na
  replace e:=zc0 (o := .tup (([185,193,215,87,243]:List Int).map V.int)) e na
  clear na
  refine ⟨bigr rfl,fun a11 na => ?_⟩
  replace M:=M.add [5] na
  replace e:=zc0 (o := .tup (([5]:List Int).map V.int)) e na
  clear na
  refine ⟨bigr rfl,fun b1 nb => ?_⟩
  obtain ⟨M,e2⟩:=M.lstE (o := .lst [V.ref a8,V.ref a9,V.ref a10,V.ref a11]) nb
  replace e:=zc0 (o := .lst [V.ref a8,V.ref a9,V.ref a10,V.ref a11]) e nb
  clear nb
  refine ⟨_,_,_,_,rfl,rfl,e,e2,bigr rfl,fun c1 nc => ?_⟩
  obtain ⟨M,e⟩:=M.lstE (o := .lst [V.ref a1,V.ref a2,V.ref a3,V.ref a4,V.ref a5,V.ref a6,V.ref a7,V.ref a8,V.ref a9,V.ref a10,V.ref a11]) nc
  clear nc e2
  refine ⟨_,rfl,?_⟩
  refine ⟨bigr rfl,fun a12 na => ?_⟩
  replace M:=M.add [175,209,67,129,21,229,49,83] na
  replace e:=zc0 (o := .tup (([175,209,67,129,21,229,49,83]:List Int).map V.int)) e na
  clear na
  refine ⟨bigr rfl,fun a13 na => ?_⟩
  replace M:=M.add [203,243,129,167,153,223,207,243] na
  replace e:=zc0 (o := .tup (([203,243,129,167,153,223,207,243]:List Int).map V.int)) e na
  clear na
  refine ⟨bigr rfl,fun b2 nb => ?_⟩
  obtain ⟨M,e2⟩:=M.lstE (o := .lst [V.ref a12,V.ref a13]) nb
  replace e:=zc0 (o := .lst [V.ref a12,V.ref a13]) e nb
  clear nb
  refine ⟨_,_,_,_,rfl,rfl,e,e2,bigr rfl,fun c2 nc => ?_⟩
  obtain ⟨M,e⟩:=M.lstE (o := .lst [V.ref a1,V.ref a2,V.ref a3,V.ref a4,V.ref a5,V.ref a6,V.ref a7,V.ref a8,V.ref a9,V.ref a10,V.ref a11,V.ref a12,V.ref a13]) nc
  clear nc e2
  refine ⟨_,rfl,?_⟩
  refine ⟨bigr rfl,fun a14 na => ?_⟩
  replace M:=M.add [197,147,131] na
  replace e:=zc0 (o := .tup (([197,147,131]:List Int).map V.int)) e na
  clear na
  refine ⟨bigr rfl,fun a15 na => ?_⟩
  replace M:=M.add [197,131,177] na
  replace e:=zc0 (o := .tup (([197,131,177]:List Int).map V.int)) e na
  clear na
  refine ⟨bigr rfl,fun a16 na => ?_⟩
  replace M:=M.add [31,255] na
  replace e:=zc0 (o := .tup (([31,255]:List Int).map V.int)) e na
  clear na
  refine ⟨bigr rfl,fun a17 na => ?_⟩
  replace M:=M.add [3,3] na
  replace e:=zc0 (o := .tup (([3,3]:List Int).map V.int)) e na
  clear na
  refine ⟨bigr rfl,fun a18 na => ?_⟩
  replace M:=M.add [119,225,131,109] na
  replace e:=zc0 (o := .tup (([119,225,131,109]:List Int).map V.int)) e na
  clear na
  refine ⟨bigr rfl,fun b3 nb => ?_⟩
  obtain ⟨M,e2⟩:=M.lstE (o := .lst [V.ref a14,V.ref a15,V.ref a16,V.ref a17,V.ref a18]) nb
  replace e:=zc0 (o := .lst [V.ref a14,V.ref a15,V.ref a16,V.ref a17,V.ref a18]) e nb
  clear nb
  refine ⟨_,_,_,_,rfl,rfl,e,e2,bigr rfl,fun c3 nc => ?_⟩
  obtain ⟨M,e⟩:=M.lstE (o := .lst [V.ref a1,V.ref a2,V.ref a3,V.ref a4,V.ref a5,V.ref a6,V.ref a7,V.ref a8,V.ref a9,V.ref a10,V.ref a11,V.ref a12,V.ref a13,V.ref a14,V.ref a15,V.ref a16,V.ref a17,V.ref a18]) nc
  clear nc e2
  have p18:(0:Int) < 18:=by decide
  have k0:=Hs k (show (18:Int)≠0 by decide)
  have k1:=Gi k p18
  have hi:(k % 18).toNat < menuRows.length:=by
   show (k % 18).toNat < 18
   omega
  obtain ⟨p,hp,ht⟩:=Rows.get (rs:=menuRows) M.rows (A8 hi)
  have ek:(((k % 18).toNat:Nat):Int)=k % 18:=by omega
  refine ⟨_,rfl,_,rfl,_,rfl,_,_,rfl,.inl (SqL.of e),_,_,rfl,rfl,p18,_,_,_,_,rfl,rfl,SqL.of e,?_,q p _ _ M.same ht (menu_ok (A8 hi))⟩
  show atI _ (k % 18)=_
  rw [<- ek]
  exact zax hp
theorem p3:(0:Int) < 3:=by decide
theorem p14:(0:Int) < 14:=by decide
theorem p42:(0:Int) < 42:=by decide
theorem zik:(0:Int) < 128:=by decide
noncomputable def manyL:List Int := [2,3,1,2,4,3,1,5,2,0,8,7,6,1]
theorem manyL_at {k:Int} (h0:0<=k) (h1:k < 14):∃ m:Int,atI (manyL.map V.int) k=some (V.int m)/\0<=m/\m<=8:=by
 refine ⟨_,zig h0 (by show k < 14; exact h1),?_⟩
 have all:∀ x∈manyL,0<=x/\x<=8:=by decide
 refine all _ ?_
 have hk:k.toNat < manyL.length:=by show k.toNat < 14; omega
 rw [Ac,A8 hk]
 exact Cy hk
theorem base_at {k:Int} (h0:0<=k) (h1:k < 2):∃ b:Int,atI [V.int 26,V.int 2] k=some (V.int b)/\(b=26\/b=2):=by
 rcases (by omega:k=0\/k=1) with h | h <;> subst h
 ·exact ⟨26,rfl,.inl rfl⟩
 ·exact ⟨2,rfl,.inr rfl⟩
noncomputable def bitOf (b:Int) (v:V):Bool:=match v with
 | .int t=>decide (Dn (b / 2 ^ t.toNat) 1=1)
 | _=>false
noncomputable def sp_combs (K:At):Sp:=fun vs H Q _=>∃ (a:A3) (ns:List Int),vs = [.ref a]/\SqL K H a (ns.map V.int)/\∀ p ks vs H',Same H H'->H p=none->H' p=some (.lst vs)->Drawn (fun _=>True) H' vs ks->ks.length<=8->Q (.ref p) H'
theorem zgm:FnScope ["_law_script","_law_head","_law_menu_here","_law_many","_law_found","_law_used","_law_k","_law_cell","_law_bits","_law_word_here"] ["_law_script"] (defScope s_combs):=⟨rfl,rfl,rfl,by decide +kernel,rfl,by decide +kernel,by decide +kernel⟩
theorem ok_combs (D:DefAt K mg "_law_combs" s_combs) (T:Bn mg) (C_at:Callee P w K mg base "_law_at" 1 ["_law_script","_law_k"] (sp_at K)) (C_mixed:Callee P w K mg base "_law_mixed" 1 ["_law_cell","_law_k"] sp_mixed) (C_word:Callee P w K mg base "_law_word" 1 ["_law_cell","_law_base"] sp_word)
  (C_spare:Callee P w K mg base "_law_spare" 1 ["_law_word_here","_law_used"] (sp_spare K)) (C_menu:Callee P w K mg base "_law_menu" 1 ["_law_k"] sp_menu):Callee P w K mg base "_law_combs" 2 ["_law_script"] (sp_combs K):=by
 refine D.calleeQ zgm (fun _ _ _ _ _ _=>ln1 fun _=>rfl) (fun vs H Q E h => ?_) (fun f cdv A outer s H vs Q E hr h => ?_)
 ·obtain ⟨a,ns,rfl,_⟩:=h
  rfl
 ·obtain ⟨a,ns,rfl,hS,q⟩:=h
  have S:=zgm
  refine ⟨_,zbj (zcS (i:=1) S.nd rfl (Aj rfl) (qe (zaz C_at (hr.mono (by decide)) rfl (zaa (pv 0) (zaa (zac) zad)))))
  (zbj (zcS (i:=2) S.nd rfl (Aj rfl) (qe (zaz C_menu (hr.mono (by decide)) rfl (zaa (zaz C_at (hr.mono (by decide)) rfl (zaa (pv 0) (zaa (zac) zad))) zad))))
  (zbj (zcS (i:=3) S.nd rfl (Aj rfl) (qe_ix zaq (zdl (zag (qe (zac)) (zag (qe (zac)) (zag (qe (zac)) (zag (qe (zac)) (zag (qe (zac)) (zag (qe (zac)) (zag (qe (zac)) (zag (qe (zac)) (zag (qe (zac)) (zag (qe (zac)) (zag (qe (zac)) (zag (qe (zac)) (zag (qe (zac)) (zag (qe (zac)) (zaQ)))))))))))))))) (qe (zaw zbo (zaw zb5 (pv 1) (zac)) (zac))) (fun _ _=>rfl)))
  (qss_cut (qs (zaF (zap zcj (zaw zbo (pv 1) (zac)) (zac) (zav _))
   (zae (zah (i:=3) S.nd rfl (Aj rfl) (zal zar rfl T.n_len Bw (zaa (pv 2) zad))))
   (zan)))
  (zbj (zcS (i:=4) S.nd rfl (Aj rfl) (zdl (zaQ)))
  (zbj (zcS (i:=5) S.nd rfl (Aj rfl) (zdl (zaQ)))
  (zbj (qs (zaZ B8 rfl (zbm rfl T.n_range (zaa (pv 3) zad)) (zak (i:=6) S.nd rfl (Aj rfl))
   (zab (zah (i:=7) S.nd rfl (Aj rfl) (zaz C_at (hr.mono (by decide)) rfl (zaa (pv 0) (zaa (zaw zbw (zac) (pv 6)) zad))))
   (zbi (zaF (zap zfP (zaw zbo (pv 1) (zac)) (zac) (zav _))
    (zae (zah (i:=7) S.nd rfl (Aj rfl) (zaz C_mixed (hr.mono (by decide)) rfl (zaa (pv 7) (zaa (pv 6) zad)))))
    (zan))
   (zab (zah (i:=8) S.nd rfl (Gk rfl) (zaw zbw (zaw zfe (zaw zbo (pv 7) (zac)) (zac)) (zac)))
   (zbi (zaF (zap zcj (zaw zbo (pv 1) (zac)) (zac) (zav _))
    (zae (zah (i:=8) S.nd rfl (Gk rfl) (zat zbd (pv 2) (pv 6) (fun _ _=>rfl))))
    (zan))
   (zab (zah (i:=9) S.nd rfl (Aj rfl) (zaz C_spare (hr.mono (by decide)) rfl (zaa (zaz C_word (hr.mono (by decide)) rfl (zaa (zaw zb5 (pv 7) (zac)) (zaa (zat zaq (zaB (zaa (zac) (zaa (zac) zad))) (zaw zbo (zaw zb5 (pv 1) (zac)) (zac)) (fun _ _=>rfl)) zad))) (zaa (pv 5) zad))))
   (zab (zaJ (zcV Bg Bm Bl zaH (pv 5) (zaa (pv 9) zad)))
   (zae (zaJ (zcV Bg Bm Bl zaH (pv 4) (zaa (zaB (zaa (pv 9) (zaa (zaM (own := ["_law_t"]) (caps := [(8,"_law_bits")]) rfl ⟨rfl,rfl,rfl,rfl,⟨⟨rfl,rfl,.inl rfl⟩,trivial⟩⟩ (zbm rfl T.n_range (zaa (zac) zad)) (fun _ _ _ _ _ _=>zak (i:=0) (zaK (by decide +kernel)) rfl (Aj rfl)) (fun _ _ _ _ _ _=>zda (zap zcj (zaw zh2 (zaw op_shr (pv 1) (pv 0)) (zac)) (zac) (zav _))) (fun _ _ _ _ _ _=>pv 0)) zad))) zad))))))))))))
  (zhc (zhS (qe (pv 4)))))))))),?_⟩
  refine ⟨_,rfl,a,ns,0,rfl,hS,by decide,?_⟩
  generalize ns.getD (Int.toNat 0) 0=head
  refine ⟨_,rfl,a,ns,1,rfl,hS,by decide,_,rfl,fun pm xs H1 s1 em hm => ?_⟩
  obtain ⟨m,hma,hm0,hm8⟩:=manyL_at (k:=head / 3 % 14) (Int.emod_nonneg _ (by decide)) (Int.emod_lt_of_pos _ p14)
  refine ⟨bigr rfl,fun b nb=>⟨_,rfl,_,_,rfl,rfl,⟨p3,by decide⟩,_,_,rfl,rfl,p14,_,_,_,_,rfl,rfl,SqL.of upd_same,hma,?_⟩⟩
  have s2:Same H (upd H1 b (.lst (manyL.map V.int))):=s1.put (s1.free nb)
  have em2:upd H1 b (.lst (manyL.map V.int)) pm=some (.tup (xs.map V.int)):=by rw [zaf (zao em nb)]; exact em
  refine ⟨fun σ H'=>Same H H'/\H' pm=some (.tup (xs.map V.int))/\∃ m:Int,σ = [some (.ref a),some (.int head),some (.ref pm),some (.int m),none,none,none,none,none,none]/\0<=m/\m<=8/\(head % 3=2->m=xs.length),?_,?_⟩
  ·refine ⟨_,rfl,_,_,rfl,rfl,p3,rfl,_,rfl,?_⟩
   refine ite2 (fun hc => ?_) (fun hc => ?_)
   ·refine ⟨_,rfl,_,_,rfl,.inr (SqT.of em2),?_⟩
    rw [A1]
    exact ⟨s2,em2,_,rfl,by omega,by have:=hm.1.2; omega,fun _=>rfl⟩
   ·have hc:¬ head % 3=2:=by simpa using hc
    exact ⟨s2,em2,_,rfl,hm0,hm8,fun z=>absurd z hc⟩
  clear s2 em2 hma hm0 hm8 nb b m s1 em H1
  rintro σ H1 ⟨s1,em,m,rfl,hm0,hm8,hm2⟩
  refine ⟨bigr rfl,fun pf nf => ?_⟩
  refine ⟨bigr rfl,fun pu nu => ?_⟩
  have nfu:pf≠pu:=fun z=>by rw [<- z,upd_same] at nu; cases nu
  have fH:H pf=none:=s1.free nf
  have s2:=(s1.put (o := .lst []) fH)
  have uH:H pu=none:=s2.free nu
  have s3:=s2.put (o := .lst []) uH
  have em3:upd (upd H1 pf (.lst [])) pu (.lst []) pm=some (.tup (xs.map V.int)):=by
   rw [zaf (zao (by rw [zaf (zao em nf)]; exact em) nu),zaf (zao em nf)]; exact em
  refine ⟨_,rfl,_,rfl,by omega,by omega,?_⟩
  refine zbA (zaT 0 m.toNat) (fun i σ H'=>Same H H'/\H' pm=some (.tup (xs.map V.int))/\∃ (vs:List V) (ks:List (Str×List Int)) (x6 x7 x8 x9:Option V),σ = [some (.ref a),some (.int head),some (.ref pm),some (.int m),some (.ref pf),some (.ref pu),x6,x7,x8,x9] /\
   H' pf=some (.lst vs)/\H' pu=some (.lst ((ks.map (·.1)).map V.str))/\Drawn (fun x=>x≠pf/\x≠pu) H' vs ks/\ks.length=i) ⟨s3,em3,[],[],_,_,_,_,rfl,by rw [zaf nfu,upd_same],by rw [upd_same]; rfl,⟨trivial,D3,by simp⟩,rfl⟩ (fun _ _ _ _ _=>trivial) ?_ ?_
  ·rintro i x σ H2 hx ⟨s2,em2,vs,ks,x6,x7,x8,x9,rfl,ef,eu,dr,hl⟩
   obtain ⟨hi,rfl⟩:=zbv hx
   have hi8:i < 8:=by omega
   have hS2:=s2.seq hS
   refine ⟨_,rfl,_,rfl,_,_,rfl,rfl,a,ns,_,rfl,hS2,?_,?_⟩
   ·show (0:Int)<=1 + (0 + ((i:Nat):Int))
    omega
   generalize ns.getD (1 + (0 + ((i:Nat):Int))).toNat 0=cell0
   refine ⟨fun σ H'=>H'=H2/\∃ (c:Int),σ = [some (.ref a),some (.int head),some (.ref pm),some (.int m),some (.ref pf),some (.ref pu),some (.int (0 + ((i:Nat):Int))),some (.int c),x8,x9],?_,?_⟩
   ·refine ⟨_,rfl,_,_,rfl,rfl,p3,_,_,rfl,rfl,_,rfl,?_⟩
    refine ite2 (fun _ => ?_) (fun _ => ?_)
    ·exact ⟨_,rfl,_,rfl,_,_,rfl,rfl,_,rfl⟩
    ·exact ⟨rfl,_,rfl⟩
   rintro σ H3 ⟨rfl,c,rfl⟩
   have c0:=Hs c (show (128:Int)≠0 by decide)
   have c1:=Gi c zik
   refine ⟨_,rfl,_,_,rfl,rfl,zik,_,_,rfl,rfl,.inr ⟨by decide,by decide⟩,_,_,rfl,rfl,?_⟩
   refine ⟨fun σ H'=>H'=H3/\∃ (bt:Int),σ = [some (.ref a),some (.int head),some (.ref pm),some (.int m),some (.ref pf),some (.ref pu),some (.int (0 + ((i:Nat):Int))),some (.int c),some (.int bt),x9]/\bt % 2=1/\0<=bt,?_,?_⟩
   ·refine ⟨_,rfl,_,_,rfl,rfl,p3,rfl,_,rfl,?_⟩
    refine ite2 (fun hc => ?_) (fun hc => ?_)
    ·have hc:head % 3=2:=by simpa using hc
     have hix:i < xs.length:=by have:=hm2 hc; omega
     have hat:atI (xs.map V.int) (0 + ((i:Nat):Int))=some (V.int xs[i]):=by
      rw [Ga]
      refine zax ?_
      rw [Ad,A8 hix]
      rfl
     have:=hm.2 xs[i] (Cy hix)
     exact ⟨_,rfl,_,rfl,_,_,_,_,rfl,rfl,SqT.of em2,hat,rfl,_,rfl,this.1,this.2.1⟩
    ·exact ⟨rfl,_,rfl,by omega,by omega⟩
   rintro σ H4 ⟨rfl,bt,rfl,hb1,hb0⟩
   obtain ⟨bs,hbs,hb2⟩:=base_at (k:=head / 42 % 2) (Int.emod_nonneg _ (by decide)) (Int.emod_lt_of_pos _ p2)
   refine ⟨_,rfl,_,_,rfl,rfl,⟨zik,by decide⟩,bigr rfl,fun b nb=>⟨_,rfl,_,_,rfl,rfl,⟨p42,by decide⟩,_,_,rfl,rfl,p2,_,_,_,_,rfl,rfl,SqL.of upd_same,hbs,_,_,rfl,hb2,fun y hy => ?_⟩⟩
   have s4:=s2.put (o := .lst [V.int 26,V.int 2]) (s2.free nb)
   have t4:Same H4 (upd H4 b (.lst [V.int 26,V.int 2])):=Same.new nb
   have eu4:=t4 _ _ eu
   refine ⟨_,rfl,y,pu,ks.map (·.1),rfl,hy,SqL.of eu4,by rw [A1]; omega,fun z H5 s5 hz hzn => ?_⟩
   have s5H:=s4.trans s5
   have t5:=t4.trans s5
   have eu5:=t5 _ _ eu
   have ef5:=t5 _ _ ef
   have em5:=t5 _ _ em2
   have dr5:=dr.same t5
   refine ⟨_,rfl,.inl ⟨rfl,_,SqL.of eu5⟩,_,rfl,_,_,_,rfl,rfl,eu5,?_,?_⟩
   ·rw [A1,A1]
    exact Ae (by omega:ks.length < 1000) zaO
   have s6:=s5H.put (o := .lst ((ks.map (·.1)).map V.str ++ [V.str z])) uH
   have dr6:Drawn (fun x=>x≠pf/\x≠pu) (upd H5 pu (.lst ((ks.map (·.1)).map V.str ++ [V.str z]))) vs ks:=dr5.upd fun z=>z.2 rfl
   have em6:upd H5 pu (.lst ((ks.map (·.1)).map V.str ++ [V.str z])) pm=some (.tup (xs.map V.int)):=by
    rw [zaf (fun w=>by rw [w,eu5] at em5; cases em5)]; exact em5
   have ef6:upd H5 pu (.lst ((ks.map (·.1)).map V.str ++ [V.str z])) pf=some (.lst vs):=by rw [zaf nfu]; exact ef5
   have eu6:upd H5 pu (.lst ((ks.map (·.1)).map V.str ++ [V.str z])) pu=some (.lst ((ks.map (·.1)).map V.str ++ [V.str z])):=upd_same
   generalize upd H5 pu (.lst ((ks.map (·.1)).map V.str ++ [V.str z]))=H6 at s6 dr6 em6 ef6 eu6
   refine ⟨_,rfl,.inl ⟨rfl,_,SqL.of ef6⟩,_,rfl,_,rfl,by decide,by decide,fun Dc hD => ?_⟩
   refine zb8 (capv := [some (.int bt)]) (by rfl) (zaT 0 (8:Int).toNat) (bigr rfl) hD ?_ (bitOf bt) (fun v=>v) ?_ ?_ ?_
   ·exact fun _ _=>trivial
   ·intro v hv H' R s' h
    obtain ⟨t,ht,rfl⟩:=A7.mp hv
    refine ⟨_,rfl,_,rfl,_,_,rfl,rfl,?_,_,_,rfl,rfl,rfl,_,rfl,?_⟩
    ·show (0:Int)<=0 + ((t:Nat):Int)
     omega
    rw [zhC]
    exact h H' (Same.refl _)
   ·intro v hv hp H' R s' h
    exact ⟨_,rfl,h H' (Same.refl _)⟩
   intro H7 s7 e7
   have ets:(((((Af (8:Int).toNat).map fun i=>V.int (0 + ((i:Nat):Int))).filter (bitOf bt)).map fun v=>v))=(((Af 8).filter fun i=>bitOf bt (.int (0 + ((i:Nat):Int)))).map fun i=>((i:Nat):Int)).map V.int:=by
    rw [L8,Ep,B5]
    show Lu _ (List.filter _ (Af 8))=_
    congr 1
    funext i
    show V.int (0 + ((i:Nat):Int))=V.int ((i:Nat):Int)
    rw [Ga]
   have gt:GT (((Af 8).filter fun i=>bitOf bt (.int (0 + ((i:Nat):Int)))).map fun i=>((i:Nat):Int)):=by
    refine ⟨_,rfl,?_⟩
    show decide (Dn (bt / 2 ^ (0 + ((0:Nat):Int)).toNat) 1=1)=true
    rw [bitAnd_m1]
    apply decide_eq_true
    show bt / 1 % 2=1
    rw [Int.ediv_one]
    exact hb1
   rw [ets] at e7
   generalize (((Af 8).filter fun i=>bitOf bt (.int (0 + ((i:Nat):Int)))).map fun i=>((i:Nat):Int))=ts at e7 gt
   refine ⟨bigr rfl,fun q' nq => ?_⟩
   have t7:Same H6 H7:=s7
   have n7:∀ {x o},H6 x=some o->x≠Dc:=fun e z=>by rw [z,hD] at e; cases e
   have n8:∀ {x o},H7 x=some o->x≠q':=fun e z=>by rw [z,nq] at e; cases e
   have ef8:upd H7 q' (.lst [V.str z,V.ref Dc]) pf=some (.lst vs):=by rw [zaf (n8 (t7 _ _ ef6))]; exact t7 _ _ ef6
   refine ⟨_,_,_,rfl,rfl,ef8,?_,?_⟩
   ·rw [dr6.rows.length]
    exact Ae (by omega:ks.length < 1000) zaO
   have s8:=((s6.trans s7).put (o := .lst [V.str z,V.ref Dc]) ((s6.trans s7).free nq)).put (o := .lst (vs ++ [V.ref q'])) fH
   have fq:q'≠pf:=(n8 (t7 _ _ ef6)).symm
   have uq:q'≠pu:=(n8 (t7 _ _ eu6)).symm
   refine ⟨s8,?_,vs ++ [.ref q'],ks ++ [(z,ts)],_,_,_,_,rfl,upd_same,?_,?_,by rw [Ab,hl]; rfl⟩
   ·have fm:pm≠pf:=fun w=>by rw [w,ef6] at em6; cases em6
    rw [zaf fm,zaf (n8 (t7 _ _ em6))]
    exact t7 _ _ em6
   ·rw [zaf nfu.symm,zaf (n8 (t7 _ _ eu6)),t7 _ _ eu6,Ao,Ao]
    rfl
   ·refine Drawn.snoc (q:=q') (t:=Dc) (((dr6.same t7).same (Same.new nq)).upd fun w=>w.1 rfl) ?_ ?_ ⟨fq,uq⟩ ⟨(n7 ef6).symm,(n7 eu6).symm⟩ hzn ⟨hz,gt⟩
    ·rw [zaf fq,upd_same]
    ·rw [zaf (n7 ef6).symm,zaf (n8 e7)]
     exact e7
  ·rintro σ H2 ⟨s2,em2,vs,ks,x6,x7,x8,x9,rfl,ef,eu,dr,hl⟩
   rw [A1,B0] at hl
   exact ⟨_,rfl,q pf ks vs H2 s2 fH ef dr.any (by omega)⟩
noncomputable def sp_lteeth:Sp:=fun vs H Q _=>∃ (k:A3) (x:Str) (ws:List V) (ks:Combs) (ts:List Int) (G:A3->Prop),vs = [.ref k,.str x]/\H k=some (.lst ws)/\Drawn G H ws ks/\cGet ks x=some ts/\∀ t,G t->H t=some (.lst (ts.map V.int))->Q (.ref t) H
theorem zgi:FnScope ["_law_kinds","_law_word_here","_law_name","_law_teeth_here"] ["_law_kinds","_law_word_here"] (defScope s_teeth):=⟨rfl,rfl,rfl,by decide +kernel,rfl,by decide +kernel,by decide +kernel⟩
theorem ok_lteeth (D:DefAt K mg "_law_teeth" s_teeth) (T:Bn mg):Callee P w K mg base "_law_teeth" 1 ["_law_kinds","_law_word_here"] sp_lteeth:=by
 refine D.callee zgi (fun _ _ _ _ _ _=>ln2 fun _ _=>rfl) (fun vs H Q E h => ?_) (fun f cdv A outer s H vs Q E hr h => ?_)
 ·obtain ⟨k,x,ws,ks,ts,G,rfl,_⟩:=h
  rfl
 ·obtain ⟨k,x,ws,ks,ts,G,rfl,hk,dr,hg,q⟩:=h
  have S:=zgi
  have hlen:=dr.rows.length
  refine ⟨_,zab (zaZ B8 rfl (zau (pv 0)) (zgs rfl (zaX (zak (i:=2) S.nd rfl (Aj rfl)) (zaX (zak (i:=3) S.nd rfl (Aj rfl)) (zcs))))
   (zae (zaF (zap zcj (pv 2) (pv 1) (zav _))
    (zae (zai (pv 3)))
    (zan))))
  (zae (zai (zaB (zad)))),?_⟩
  refine ⟨_,rfl,_,rfl,⟨_,SqL.of hk⟩,?_⟩
  refine zbA (zaj K k ws) (fun i σ Hx=>Hx=H/\(∀ c∈ks.take i,c.1≠x)/\∃ x2 x3,σ = [some (.ref k),some (.str x),x2,x3]) ⟨rfl,by simp,_,_,rfl⟩ (fun i σ Hx _ h=>by rw [h.1]; exact SqL.of hk) ?_ ?_
  ·rintro i y σ Hx hx ⟨rfl,hno,x2,x3,rfl⟩
   obtain ⟨c,qa,t,hc,rfl,hq,ht,hgt⟩:=dr.rows.getG hx
   refine ⟨qa,_,rfl,SqL.of hq,rfl,_,_,rfl,_,_,rfl,rfl,?_⟩
   refine ⟨_,rfl,_,rfl,rfl,_,rfl,?_⟩
   by_cases e:c.1=x
   ·rw [decide_eq_true (by rw [e])]
    refine iteT ?_
    have:=zb6 dr.nd (Br hc)
    rw [e,hg] at this
    refine ⟨_,rfl,q t hgt ?_⟩
    rw [ht,C4 this]
   ·rw [decide_eq_false (fun z=>e (by injection z))]
    refine iteF ?_
    refine ⟨rfl,fun c' hc' => ?_,_,_,rfl⟩
    rw [zaA hc] at hc'
    rcases An.mp hc' with z | z
    ·exact hno c' z
    ·rw [A5.mp z]; exact e
  ·rintro σ Hx ⟨rfl,hno,x2,x3,rfl⟩
   rw [E1 (by omega)] at hno
   exact absurd rfl (hno _ (zeV hg))
noncomputable def ovV (ks:Combs) (l:List (Nat×Str)) (m:Nat):List V:=(Af m).map fun q=>V.int ((cov ks l q:Nat):Int)
noncomputable def sp_covers:Sp:=fun vs H Q _=>∃ (k l:A3) (n:Nat) (ws wl:List V) (ks:Combs) (ly:List (Nat×Str)),vs = [.ref k,.ref l,.int (n:Nat)]/\H k=some (.lst ws)/\Drawn (fun _=>True) H ws ks/\H l=some (.lst wl)/\LyR H wl ly/\n<=1000/\Lay ks ly/\Cover ks ly n/\ly.Pairwise (fun x y=>x.1 < y.1)/\∀ H',Same H H'->Q (.bl true) H'
theorem eqv_nilC {d:Gh} {ds:List Gh}:E3 (.list (d :: ds)) (.list [])=false:=by simp [E3,Eo]
theorem shaped_intsC (a:List Int):Du (.list (a.map Ed))=true:=by
 have h1:Ca (a.map Ed)=true:=by
  induction a with
  | nil=>rfl
  | cons x a ih=>rw [Al,Ca,ih]; rfl
 have h2:∀ a:List Int,Cj (a.map Ed)=0:=by
  intro a
  induction a with
  | nil=>rfl
  | cons x a ih=>rw [Al,Cj,ih]; rfl
 simp [Du,Eh,Ey,h1,h2]
theorem rep_oneC (m:Nat) (v:V):(C5 m [v]).flatten=C5 m v:=by
 induction m with
 | zero=>rfl
 | succ m ih=>rw [Dz,Fi,ih,Dz]; rfl
theorem zfb:FnScope ["_law_kinds","_law_layings_here","_law_length","_law_over","_law_last","_law_place","_law_word_here","_law_teeth_here","_law_t"] ["_law_kinds","_law_layings_here","_law_length"] (defScope s_covers):=⟨rfl,rfl,rfl,by decide +kernel,rfl,by decide +kernel,by decide +kernel⟩
theorem ok_covers (D:DefAt K mg "_law_covers" s_covers) (T:Bn mg) (C_teeth:Callee P w K mg base "_law_teeth" 1 ["_law_kinds","_law_word_here"] sp_lteeth):Callee P w K mg base "_law_covers" 2 ["_law_kinds","_law_layings_here","_law_length"] sp_covers:=by
 refine D.callee zfb (fun _ _ _ _ _ _=>ln3 fun _ _ _=>rfl) (fun vs H Q E h => ?_) (fun f cdv A outer s H vs Q E hr h => ?_)
 ·obtain ⟨k,l,n,ws,wl,ks,ly,rfl,_⟩:=h
  rfl
 ·obtain ⟨k,l,n,ws,wl,ks,ly,rfl,hk,dr,hl,lr,hn,hlay,hcov,hup,q⟩:=h
  have S:=zfb
  have gc:GC ks:=fun c hc=>(dr.good c hc).2
  have hll:=D9 lr
  refine ⟨_,zab (zah (i:=3) S.nd rfl (Aj rfl) (zaw op_rep (zaB (zaa (zac) zad)) (pv 2)))
  (zab (zah (i:=4) S.nd rfl (Aj rfl) (zct zbr (zac)))
  (zab (zaZ B8 rfl (zau (pv 1)) (zhe rfl (zaX (zak (i:=5) S.nd rfl (Aj rfl)) (zaX (zak (i:=6) S.nd rfl (Aj rfl)) (zcs))))
   (zab (zah (i:=7) S.nd rfl (Aj rfl) (zaz C_teeth (hr.mono (by decide)) rfl (zaa (pv 0) (zaa (pv 6) zad))))
   (zab (zaF (PW.pt (zfJ (zap zdK (pv 5) (pv 4) (zav _)) (zdF (zap (zh1 hr.units) (pv 7) (zaB (zad)) (zav _)))))
    (zae (zai (zbJ)))
    (zan))
   (zab (zah (i:=4) S.nd rfl (Aj rfl) (pv 5))
   (zae (zaZ B8 rfl (zau (pv 7)) (zak (i:=8) S.nd rfl (Aj rfl))
    (zab (zaF (zap zil (zaw zbw (pv 5) (pv 8)) (pv 2) (zav _))
     (zae (zai (zbJ)))
     (zan))
    (zae (zhT (zaw zbw (zat zaq (pv 3) (zaw zbw (pv 5) (pv 8)) (fun _ _=>rfl)) (zac)) (zhV (pv 3) (zaw zbw (pv 5) (pv 8)) zgf))))))))))
  (zae (zai (zal (zeZ rfl) rfl T.n_all P9 (zaa (zaM (own := ["_law_many"]) (caps := []) rfl ⟨rfl,rfl,rfl,rfl,trivial⟩ (zau (pv 3)) (fun _ _ _ _ _ _=>zak (i:=0) (zaK (by decide +kernel)) rfl (Aj rfl)) (fun _ _ _ _ _ _=>za2) (fun _ _ _ _ _ _=>zeK zcj (pv 0) (zac) (zav _))) zad)))))),?_⟩
  refine ⟨bigr rfl,fun z nz=>⟨_,rfl,_,_,_,rfl,rfl,upd_same,by omega,by omega,?_,fun po npo => ?_⟩⟩
  ·rw [Bf]; exact Bv (by omega:_<=1000) zaO
  have s1:Same H (upd (upd H z (.lst [.int 0])) po (.lst (C5 ((n:Nat):Int).toNat [V.int 0]).flatten)):=(Same.new nz).trans (Same.new npo)
  have hpo:upd (upd H z (.lst [.int 0])) po (.lst (C5 ((n:Nat):Int).toNat [V.int 0]).flatten) po=some (.lst (ovV ks (ly.take 0) n)):=by
   rw [upd_same,rep_oneC,show ((n:Nat):Int).toNat=n by omega]
   congr 2
   refine (List.eq_replicate_iff.mpr ⟨by unfold ovV; rw [A1,B0],fun b hb => ?_⟩).symm
   obtain ⟨p,_,rfl⟩:=A7.mp hb
   rfl
  have npo0:H po=none:=(Same.new nz).free npo
  generalize upd (upd H z (.lst [.int 0])) po (.lst (C5 ((n:Nat):Int).toNat [V.int 0]).flatten)=H1 at s1 hpo ⊢
  refine ⟨_,rfl,?_⟩
  refine ⟨_,rfl,_,rfl,⟨_,SqL.of (s1 _ _ hl)⟩,?_⟩
  refine zbA (zaj K l wl) (fun i σ Hx=>Same H Hx/\∃ (last:Int) (x5 x6 x7 x8:Option V),σ = [some (.ref k),some (.ref l),some (.int (n:Nat)),some (.ref po),some (.int last),x5,x6,x7,x8]/\Hx po=some (.lst (ovV ks (ly.take i) n))/\∀ j x,i<=j->ly[j]?=some x->last < ((x.1:Nat):Int)) ⟨s1,-1,_,_,_,_,rfl,hpo,fun j x _ _=>by omega⟩ (fun i σ Hx _ h=>SqL.of (h.1 _ _ hl)) ?_ ?_
  ·rintro i x σ Hx hx ⟨sx,last,x5,x6,x7,x8,rfl,hpx,hlast⟩
   obtain ⟨⟨j,nmj⟩,ej,qa,rfl,hqa⟩:=Cw.rev lr hx
   have hmem:=Br ej
   have hjn:=hlay _ hmem
   have hlt:=hlast i _ (A9 _) ej
   dsimp only at hjn hqa hlt
   obtain ⟨⟨nm',ts⟩,hc,rfl⟩:=A7.mp hjn
   have hts:=zb6 dr.nd hc
   dsimp only at hts hqa ej hmem
   have gts:GT ts:=gc _ hc
   refine ⟨qa,_,rfl,SqT.of (sx _ _ hqa),rfl,_,_,rfl,_,_,rfl,rfl,?_⟩
   refine ⟨_,rfl,_,rfl,k,_,ws,ks,ts,_,rfl,sx _ _ hk,dr.live.same sx,hts,fun t ht0 ht => ?_⟩
   refine ⟨_,rfl,_,rfl,_,_,rfl,rfl,_,rfl,?_⟩
   rw [decide_eq_false (show ¬ ((j:Nat):Int)<=last by omega)]
   refine iteF ?_
   refine ⟨_,rfl,bigr rfl,fun pn npn => ?_⟩
   have s7:Same Hx (upd Hx pn (.lst [])):=Same.new npn
   refine ⟨.list (ts.map Ed),.list [],.lst (SqL.of (s7 _ _ ht)) (VDs.map fun u _ => .int u),.lst (SqL.of upd_same) .nil,shaped_intsC ts,by decide,_,rfl,?_⟩
   have hz:E3 (.list (ts.map Ed)) (.list [])=false:=by
    cases ts with
    | nil=>exact absurd (zdd gts) (by simp)
    | cons u us=>exact eqv_nilC
   rw [if_neg Aa,hz]
   refine iteF ?_
   refine ⟨_,rfl,?_⟩
   refine ⟨_,rfl,_,rfl,⟨_,SqL.of (s7 _ _ ht)⟩,?_⟩
   have hpx7:=s7 _ _ hpx
   have ht7:=s7 _ _ ht
   have sx7:=sx.trans s7
   have htp:t≠po:=fun e=>ht0 (by rw [e]; exact npo0)
   generalize upd Hx pn (.lst [])=H7 at hpx7 ht7 sx7
   have hin:∀ u∈ts,j + u.toNat < n:=fun u hu=>by
    have h0:=(zb7 gts u hu).1
    refine hcov.below gc dr.nd hlay hmem (q:=j + u.toNat) ?_
    unfold hit tkOf
    dsimp only
    rw [hts,decide_eq_true (N1 _ _),Dy,decide_eq_true (show ((u.toNat:Nat):Int)∈(some ts).getD [] by rw [show ((u.toNat:Nat):Int)=u by omega]; exact hu)]
    rfl
   refine zbA (zaj K t (ts.map V.int)) (fun i' σ Hy=>Same H Hy/\Hy t=some (.lst (ts.map V.int))/\∃ x8,σ = [some (.ref k),some (.ref l),some (.int (n:Nat)),some (.ref po),some (.int (j:Nat)),some (.int (j:Nat)),some (.str nm'),some (.ref t),x8]/\Hy po=some (.lst ((Af n).map fun p=>V.int (((cov ks (ly.take i) p + ((ts.take i').map fun t=>j + t.toNat).count p:Nat)):Int)))) ⟨sx7,ht7,_,rfl,?_⟩ (fun i' σ Hy _ h=>SqL.of h.2.1) ?_ ?_
   ·rw [hpx7]
    congr 2
   ·rintro i' y σ Hy hy ⟨sy,hty,x8,rfl,hpy⟩
    rw [Ad] at hy
    cases hu:ts[i']? with
    | none=>rw [hu] at hy; cases hy
    | some u =>
     rw [hu] at hy
     cases hy
     have hub:=zb7 gts u (Br hu)
     have hjn:=hin u (Br hu)
     refine ⟨_,rfl,_,rfl,_,_,rfl,rfl,_,rfl,_,_,rfl,rfl,_,rfl,?_⟩
     rw [decide_eq_false (show ¬ ((n:Nat):Int)<=((j:Nat):Int) + u by omega)]
     refine iteF ?_
     have hix:ixN ((Af n).map fun p=>V.int (((cov ks (ly.take i) p + ((ts.take i').map fun t=>j + t.toNat).count p:Nat)):Int)).length (((j:Nat):Int) + u)=some (j + u.toNat):=by
      unfold ixN
      rw [A1,B0,if_pos (by omega),if_pos (by omega)]
      congr 1
      omega
     refine ⟨_,rfl,_,rfl,_,rfl,_,_,rfl,rfl,_,_,_,_,rfl,rfl,SqL.of hpy,zhH (by omega) (v:=V.int (((cov ks (ly.take i) (j + u.toNat) + ((ts.take i').map fun t=>j + t.toNat).count (j + u.toNat):Nat)):Int)) ?_,_,_,rfl,rfl,?_⟩
     ·rw [show (((j:Nat):Int) + u).toNat=j + u.toNat by omega,Ad,Ch hjn]
      rfl
     refine ⟨_,rfl,_,rfl,_,rfl,_,_,rfl,rfl,po,_,_,_,rfl,rfl,hpy,hix,?_⟩
     refine ⟨sy.put npo0,(by rw [zaf htp]; exact hty),_,rfl,?_⟩
     rw [upd_same,zhn _ _ hjn]
     congr 2
     refine C7 fun p _ => ?_
     rw [zaA hu,Ao,List.count_append]
     by_cases e:p=j + u.toNat
     ·subst e
      rw [if_pos rfl]
      simp
      omega
     ·rw [if_neg e]
      simp [Dm e]
   ·rintro σ Hy ⟨sy,hty,x8,rfl,hpy⟩
    rw [A1,C6] at hpy
    refine ⟨sy,_,_,_,_,_,rfl,?_,fun j' x' hj' ej' => ?_⟩
    ·rw [hpy]
     congr 2
     unfold ovV
     refine C7 fun p _ => ?_
     rw [zaA ej,zc2,count_teeth (zaS (zeU gts)) (fun t ht=>(zb7 gts t ht).1)]
     unfold hit tkOf
     dsimp only
     rw [hts]
     by_cases hjp:j<=p
     ·rw [if_pos hjp,decide_eq_true hjp,Eg]; rfl
     ·rw [if_neg hjp,decide_eq_false hjp,El]; rfl
    ·rw [Dr] at hup
     obtain ⟨h2a,h2b⟩:=Ah.mp ej
     obtain ⟨h3a,h3b⟩:=Ah.mp ej'
     have:=hup i j' h2a h3a (by omega)
     rw [h2b,h3b] at this
     dsimp only at this
     omega
  ·rintro σ Hx ⟨sx,last,x5,x6,x7,x8,rfl,hpx,_⟩
   rw [<- hll,C6] at hpx
   refine ⟨_,rfl,_,rfl,⟨_,SqL.of hpx⟩,fun D hD => ?_⟩
   refine zb8 (capv := []) (by rfl) (zaj K po _) (by unfold ovV; rw [A1,B0]; exact big (by omega)) hD (fun H' s'=>SqL.of (s' _ _ hpx)) (fun _=>true) (fun _ => .bl true) ?_ ?_ ?_
   ·intro x hx H' R s' h
    exact h H' (Same.refl _)
   ·intro x hx _ H' R s' h
    obtain ⟨p,hp,rfl⟩:=A7.mp hx
    refine ⟨_,rfl,rfl,?_⟩
    have e:cov ks ly p=1:=by rw [hcov p,if_pos (Ax.mp hp)]
    rw [e]
    exact h H' (Same.refl _)
   intro H3 s3 e3
   refine ⟨D,(ovV ks ly n).map fun _=>true,rfl,SqL.of ?_,?_⟩
   ·rw [e3,Bo.mpr (fun _ _=>rfl),B5]
    rfl
   rw [Cs.mpr (fun b hb=>by obtain ⟨_,_,rfl⟩:=A7.mp hb; rfl)]
   exact q _ (sx.trans s3)
noncomputable def sp_turned:Sp:=fun vs H Q _=>∃ (k:A3) (ws:List V) (ks:Combs),vs = [.ref k]/\H k=some (.lst ws)/\KindsL (fun _=>True) H ws ks/\GC ks/\ks.length<=8/\∀ r wr H',Same H H'->H' r=some (.lst wr)->KindsL (fun _=>True) H' wr (turnC ks)->Q (.ref r) H'
theorem ze9:FnScope ["_law_kinds","_law_found","_law_word_here","_law_teeth_here"] ["_law_kinds"] (defScope s_turned):=⟨rfl,rfl,rfl,by decide +kernel,rfl,by decide +kernel,by decide +kernel⟩
theorem ok_turned (D:DefAt K mg "_law_turned" s_turned) (T:Bn mg):Callee P w K mg base "_law_turned" 1 ["_law_kinds"] sp_turned:=by
 refine D.callee ze9 (fun _ _ _ _ _ _=>ln1 fun _=>rfl) (fun vs H Q E h => ?_) (fun f cdv A outer s H vs Q E hr h => ?_)
 ·obtain ⟨k,ws,ks,rfl,_⟩:=h
  rfl
 ·obtain ⟨k,ws,ks,rfl,hk,kr,gc,h8,q⟩:=h
  have S:=ze9
  have hlk:=kr.length
  refine ⟨_,zab (zah (i:=1) S.nd rfl (Aj rfl) (zaB (zad)))
  (zab (zaZ B8 rfl (zau (pv 0)) (zgs rfl (zaX (zak (i:=2) S.nd rfl (Aj rfl)) (zaX (zak (i:=3) S.nd rfl (Gk rfl)) (zcs))))
   (zae (zaJ (zcV Bg Bm Bl zaH (pv 1) (zaa (zaB (zaa (pv 2) (zaa (zal zb9 rfl T.n_sorted J8 (zaa (zaM (own := ["_law_t"]) (caps := [(3,"_law_teeth_here")]) rfl ⟨rfl,rfl,rfl,rfl,⟨⟨rfl,rfl,.inl rfl⟩,trivial⟩⟩ (zau (pv 3)) (fun _ _ _ _ _ _=>zak (i:=0) (zaK (by decide +kernel)) rfl (Aj rfl)) (fun _ _ _ _ _ _=>za2) (fun _ _ _ _ _ _=>zaw zdm (zal (call_max1' K rfl rfl) rfl T.n_max boot_max (zaa (pv 1) zad)) (pv 0))) zad)) zad))) zad)))))
  (zae (zai (pv 1)))),?_⟩
  refine ⟨bigr rfl,fun r nr => ?_⟩
  have s1:Same H (upd H r (.lst [])):=Same.new nr
  refine ⟨_,rfl,_,rfl,⟨_,SqL.of (s1 _ _ hk)⟩,?_⟩
  refine zbA (zaj K k ws) (fun i σ Hx=>Same H Hx/\∃ wr x2 x3,σ = [some (.ref k),some (.ref r),x2,x3]/\Hx r=some (.lst wr)/\wr.length=i/\KindsL (fun z=>z≠r) Hx wr (turnC (ks.take i))) ⟨s1,[],_,_,rfl,upd_same,rfl,trivial⟩ (fun i σ Hx _ h=>SqL.of (h.1 _ _ hk)) ?_ ?_
  ·rintro i x σ Hx hx ⟨sx,wr,x2,x3,rfl,hrx,hwl,kx⟩
   obtain ⟨c,qc,tc,hc,rfl,hqc,htc⟩:=kr.get hx
   have gt:=gc c (Br hc)
   have hil:i < ks.length:=(Ah.mp hc).1
   obtain ⟨m1,m2,m3,m4⟩:=zdN gt
   have ht8:=zgH gt
   refine ⟨qc,_,rfl,SqL.of (sx _ _ hqc),rfl,_,_,rfl,_,_,rfl,rfl,?_⟩
   refine ⟨_,rfl,.inl ⟨rfl,_,SqL.of hrx⟩,_,rfl,_,rfl,_,rfl,⟨_,SqL.of (sx _ _ htc)⟩,fun D hD => ?_⟩
   refine zb8 (capv := [some (.ref tc)]) (by rfl) (zaj K tc (c.2.map V.int)) (by rw [A1]; exact big (by omega)) hD (fun H' s'=>SqL.of (s' _ _ (sx _ _ htc))) (fun _=>true) (fun v=>match v with | .int t => .int (mxT c.2 - t) | _ => .non) ?_ ?_ ?_
   ·intro x hx H' R s' h
    exact h H' (Same.refl _)
   ·intro x hx _ H' R s' h
    obtain ⟨t,ht,rfl⟩:=A7.mp hx
    refine ⟨_,rfl,tc,c.2,rfl,SqL.of (s' _ _ (sx _ _ htc)),L9 ht,fun M hM hMx=>⟨_,rfl,_,_,rfl,rfl,?_⟩⟩
    have e1:=hMx _ m1
    have e2:=m2 _ hM
    have:M=mxT c.2:=by omega
    subst this
    exact h H' (Same.refl _)
   intro H2 s2 e2
   refine ⟨D,c.2.map fun t=>mxT c.2 - t,rfl,SqL.of ?_,by rw [A1]; omega,fun p ns' np pp pw => ?_⟩
   ·rw [e2,Bo.mpr (fun _ _=>rfl),B5,B5]
    rfl
   have et:ns'=turnT c.2:=by
    refine zdv pp pw ?_ fun t ht => ?_
    ·rw [Fb,Bb]
     exact (zaS (zeU gt)).imp fun h e=>h (by omega)
    ·obtain ⟨u,hu,rfl⟩:=A7.mp ht
     have:=m2 _ hu
     have:=zb7 gt _ hu
     omega
   subst et
   have s3:Same H2 (upd H2 p (.lst ((turnT c.2).map V.int))):=Same.new np
   have hp3:upd H2 p (.lst ((turnT c.2).map V.int)) p=some (.lst ((turnT c.2).map V.int)):=upd_same
   have np2:=s2.free np
   have s23:=s2.trans s3
   generalize upd H2 p (.lst ((turnT c.2).map V.int))=H3 at s23 hp3 ⊢
   refine ⟨bigr rfl,fun e ne => ?_⟩
   have s4:Same H3 (upd H3 e (.lst [.str c.1,.ref p])):=Same.new ne
   have he4:upd H3 e (.lst [.str c.1,.ref p]) e=some (.lst [.str c.1,.ref p]):=upd_same
   have ne2:=s23.free ne
   have hp4:=s4 _ _ hp3
   have s24:=s23.trans s4
   generalize upd H3 e (.lst [.str c.1,.ref p])=H4 at s24 he4 hp4 ⊢
   have hr4:=s24 _ _ hrx
   have hpr:p≠r:=fun z=>by rw [z,hrx] at np2; cases np2
   have her:e≠r:=fun z=>by rw [z,hrx] at ne2; cases ne2
   refine ⟨r,_,_,rfl,rfl,hr4,Ae (by omega:wr.length < 1000) zaO,?_⟩
   refine ⟨(sx.trans s24).put nr,_,_,_,rfl,upd_same,by rw [Ab,hwl]; rfl,?_⟩
   have ek:turnC (ks.take (i + 1))=turnC (ks.take i) ++ [(c.1,turnT c.2)]:=by
    unfold turnC
    rw [zaA hc,Ao]
    rfl
   rw [ek]
   exact KindsL.snoc (G:=fun z=>z≠r) (k:=(c.1,turnT c.2)) (q:=e) (t:=p) (by rw [zaf her]; exact he4) (by rw [zaf hpr]; exact hp4) her hpr (kx.mono (fun z o hz ez=>by rw [zaf hz]; exact s24 _ _ ez) fun _ z=>z)
  ·rintro σ Hx ⟨sx,wr,x2,x3,rfl,hrx,_,kx⟩
   rw [hlk,C6] at kx
   exact ⟨_,rfl,q r wr Hx sx hrx (kx.mono (fun _ _ _ e=>e) fun _ _=>trivial)⟩
noncomputable def posV (v:V):Bool:=match v with
 | .int t=>decide (0 < t)
 | _=>false
noncomputable def decV (v:V):V:=match v with
 | .int t => .int (t - 1)
 | _ => .non
noncomputable def sp_after (K:At):Sp:=fun vs H Q _=>∃ (a t:A3) (ah ts:List Int),vs = [.ref a,.ref t]/\SqT K H a (ah.map V.int)/\H t=some (.lst (ts.map V.int))/\ah.Nodup/\(∀ d∈ah,0<=d/\d<=6)/\ts.Nodup/\(∀ d∈ts,0<=d/\d<=7) /\
 (if meets ah ts=true then Q .non H else ∀ p H',Same H H'->H p=none->H' p=some (.tup ((afterOf ah ts).map V.int))->Q (.ref p) H')
theorem zgn:FnScope ["_law_ahead","_law_teeth_here","_law_t"] ["_law_ahead","_law_teeth_here"] (defScope s_after):=⟨rfl,rfl,rfl,by decide +kernel,rfl,by decide +kernel,by decide +kernel⟩
theorem ok_after (D:DefAt K mg "_law_after" s_after) (T:Bn mg):Callee P w K mg base "_law_after" 1 ["_law_ahead","_law_teeth_here"] (sp_after K):=by
 refine D.callee zgn (fun _ _ _ _ _ _=>ln2 fun _ _=>rfl) (fun vs H Q E h => ?_) (fun f cdv A outer s H vs Q E hr h => ?_)
 ·obtain ⟨a,t,ah,ts,rfl,_⟩:=h
  rfl
 ·obtain ⟨a,t,ah,ts,rfl,ha,ht,an,ar,tn,tr,q⟩:=h
  have S:=zgn
  have hal:ah.length<=8:=zdy an fun d hd=>by have:=ar d hd; omega
  have htl:ts.length<=8:=zdy tn tr
  refine ⟨_,zab (zaZ B8 rfl (zau (pv 1)) (zak (i:=2) S.nd rfl (Aj rfl))
   (zae (zaF (zap zcX (pv 2) (pv 0) (by with_unfolding_all rfl))
    (zae (zai (zhW)))
    (zan))))
  (zae (zai (zbn call_tuple_of rfl T.n_tuple boot_tuple (zaa (zaM (own := ["_law_d"]) (caps := []) rfl ⟨rfl,rfl,rfl,rfl,trivial⟩ (zau (zal zb9 rfl T.n_sorted J8 (zaa (zaw zfg (zbn zbI rfl T.n_list Hv (zaa (pv 0) zad)) (pv 1)) zad))) (fun _ _ _ _ _ _=>zak (i:=0) (zaK (by decide +kernel)) rfl (Aj rfl)) (fun _ _ _ _ _ _=>zda (zap zfP (pv 0) (zac) (zav _))) (fun _ _ _ _ _ _=>zaw zdm (pv 0) (zac))) zad)))),?_⟩
  refine ⟨_,rfl,_,rfl,⟨_,SqL.of ht⟩,?_⟩
  refine zbA (zaj K t (ts.map V.int)) (fun i σ Hx=>Hx=H/\meets ah (ts.take i)=false/\∃ x2,σ = [some (.ref a),some (.ref t),x2]) ⟨rfl,rfl,_,rfl⟩ (fun i σ Hx _ h=>by rw [h.1]; exact SqL.of ht) ?_ ?_
  ·rintro i x σ Hx hx ⟨rfl,hm,x2,rfl⟩
   rw [Ad] at hx
   cases hk:ts[i]? with
   | none=>rw [hk] at hx; cases hx
   | some y =>
    rw [hk] at hx
    cases hx
    refine ⟨_,rfl,_,rfl,_,_,rfl,.inr ha,rfl,zhN ah,_,rfl,?_⟩
    rw [if_neg (by decide),zfS]
    refine ite2 (fun hc => ?_) (fun hc => ?_)
    ·have hc:y∈ah:=by simpa using hc
     have:meets ah ts=true:=by
      unfold meets
      exact Bj.mpr ⟨y,Br hk,decide_eq_true hc⟩
     rw [if_pos this] at q
     exact q
    ·have hc:y ∉ ah:=by simpa using hc
     refine ⟨rfl,?_,_,rfl⟩
     rw [zaA hk]
     rw [meets_false] at hm ⊢
     intro z hz
     rcases An.mp hz with h | h
     ·exact hm z h
     ·rw [A5.mp h]; exact hc
  ·rintro σ Hx ⟨rfl,hm,x2,rfl⟩
   rw [A1,C6] at hm
   rw [if_neg (by rw [hm]; decide)] at q
   refine ⟨_,rfl,a,_,rfl,.inr ha,fun p np=>⟨_,rfl,p,t,_,ts.map V.int,rfl,rfl,upd_same,?_,?_,fun p2 np2 => ?_⟩⟩
   ·rw [zaf (zao ht np)]; exact ht
   ·rw [A1,A1]
    exact F5 (Ae (by omega:ah.length + ts.length < 1000) zaO)
   refine ⟨p2,ah ++ ts,rfl,SqL.of (by rw [Ao]; exact upd_same),by rw [Ab]; omega,fun p3 ns np3 hp hs => ?_⟩
   have hc:=after_canon an ar tn tr hm hp hs
   have s1:Same Hx (upd Hx p (.lst (ah.map V.int))):=Same.new np
   have s2:=s1.trans (Same.new (o := .lst (ah.map V.int ++ ts.map V.int)) np2)
   have s3:=s2.trans (Same.new (o := .lst (ns.map V.int)) np3)
   refine ⟨_,rfl,⟨_,SqL.of upd_same⟩,fun Dc hD => ?_⟩
   have hnl:ns.length<=1000:=by
    have:=hp.length_eq
    rw [Ab] at this
    omega
   refine zb8 (capv := []) (L:=ns.map V.int) (by rfl) (zaj K p3 (ns.map V.int)) (by rw [A1]; exact big hnl) hD (fun H' s'=>SqL.of (s' _ _ upd_same)) posV decV ?_ ?_ ?_
   ·intro v hv H' R s' h
    obtain ⟨d,hd,rfl⟩:=A7.mp hv
    exact ⟨_,rfl,_,_,rfl,rfl,_,rfl,h H' (Same.refl _)⟩
   ·intro v hv _ H' R s' h
    obtain ⟨d,hd,rfl⟩:=A7.mp hv
    exact ⟨_,rfl,_,_,rfl,rfl,h H' (Same.refl _)⟩
   ·intro H7 s7 e7
    have ets:(((ns.map V.int).filter posV).map decV)=(afterOf ah ts).map V.int:=by
     unfold afterOf
     rw [<- hc,Ep,B5,B5]
     rfl
    rw [ets] at e7
    have s07:=s3.trans s7
    exact ⟨_,_,rfl,.inl ⟨SqL.of e7,fun l nl=>q l _ (s07.put (s07.free nl)) (s07.free nl) upd_same⟩⟩
noncomputable def sp_goes (K:At):Sp:=fun vs H Q _=>∃ (k a:A3) (ws:List V) (ks:Combs) (ah:List Int),vs = [.ref k,.ref a]/\H k=some (.lst ws)/\KindsL (fun _=>True) H ws ks/\ks.length<=100/\(∀ c∈ks,GT c.2)/\SqT K H a (ah.map V.int)/\ah.Nodup/\(∀ d∈ah,0<=d/\d<=6) /\
 ∀ p H' vs',Same H H'->H p=none->H' p=some (.lst vs')->GoesR H' vs' (goesOf ks ah)->Q (.ref p) H'
theorem zg8:FnScope ["_law_kinds","_law_ahead","_law_found","_law_word_here","_law_teeth_here","_law_further"] ["_law_kinds","_law_ahead"] (defScope s_goes):=⟨rfl,rfl,rfl,by decide +kernel,rfl,by decide +kernel,by decide +kernel⟩
theorem ok_goes (D:DefAt K mg "_law_goes" s_goes) (T:Bn mg) (C_after:Callee P w K mg base "_law_after" 1 ["_law_ahead","_law_teeth_here"] (sp_after K)):Callee P w K mg base "_law_goes" 2 ["_law_kinds","_law_ahead"] (sp_goes K):=by
 refine D.callee zg8 (fun _ _ _ _ _ _=>ln2 fun _ _=>rfl) (fun vs H Q E h => ?_) (fun f cdv A outer s H vs Q E hr h => ?_)
 ·obtain ⟨k,a,ws,ks,ah,rfl,_⟩:=h
  rfl
 ·obtain ⟨k,a,ws,ks,ah,rfl,hk,kr,hkl,hg,ha,an,ar,q⟩:=h
  have S:=zg8
  have hlen:=kr.length
  refine ⟨_,zab (zaF (zap zcX (zac) (pv 1) (by with_unfolding_all rfl))
   (zae (zai (zaB (zaa (zbp (zaa (zaP) (zaa (zaz C_after (hr.mono (by decide)) rfl (zaa (pv 1) (zaa (zaB (zad)) zad))) zad))) zad))))
   (zan))
  (zab (zah (i:=2) S.nd rfl (Aj rfl) (zaB (zad)))
  (zab (zaZ B8 rfl (zau (pv 0)) (zgs rfl (zaX (zak (i:=3) S.nd rfl (Aj rfl)) (zaX (zak (i:=4) S.nd rfl (Aj rfl)) (zcs))))
   (zab (zah (i:=5) S.nd rfl (Aj rfl) (zaz C_after (hr.mono (by decide)) rfl (zaa (pv 1) (zaa (pv 4) zad))))
   (zae (zaF (zap op_notN (pv 5) (zhW) (zav _))
    (zae (zaJ (zcV Bg Bm Bl zaH (pv 2) (zaa (zbp (zaa (pv 3) (zaa (pv 5) zad))) zad))))
    (zan)))))
  (zae (zai (pv 2))))),?_⟩
  refine ⟨_,rfl,_,_,rfl,.inr ha,rfl,zhN ah,_,rfl,?_⟩
  rw [if_neg (by decide),zfS]
  refine ite2 (fun hc => ?_) (fun hc => ?_)
  ·have hc:(0:Int)∈ah:=by simpa using hc
   refine ⟨_,rfl,bigr rfl,fun p0 np0=>⟨a,p0,ah,[],rfl,(Same.new np0).tup ha,upd_same,an,ar,D3,by simp,?_⟩⟩
   rw [if_neg (show ¬ meets ah []=true from Aa)]
   intro p1 H1 s1 n1 e1
   refine ⟨bigr rfl,fun p2 np2=>⟨bigr rfl,fun p3 np3 => ?_⟩⟩
   have s01:Same H H1:=(Same.new np0).trans s1
   have s2:=s01.trans (Same.new (o := .tup [.str "",.ref p1]) np2)
   refine q p3 _ [.ref p2] (s2.trans (Same.new np3)) (s2.free np3) upd_same ?_
   rw [goes_in hc]
   have e2:upd H1 p2 (.tup [.str "",.ref p1]) p2=some (.tup [.str "",.ref p1]):=upd_same
   have e1':upd H1 p2 (.tup [.str "",.ref p1]) p1=some (.tup ((afterOf ah []).map V.int)):=by rw [zaf (zao e1 np2)]; exact e1
   refine ⟨⟨p2,p1,rfl,?_,?_⟩,trivial⟩
   ·rw [zaf (zao e2 np3)]; exact e2
   ·rw [zaf (zao e1' np3)]; exact e1'
  ·have hc:(0:Int) ∉ ah:=by simpa using hc
   refine ⟨bigr rfl,fun pf npf => ?_⟩
   have s1:Same H (upd H pf (.lst [])):=Same.new npf
   refine ⟨_,rfl,_,rfl,⟨_,SqL.of (s1 _ _ hk)⟩,?_⟩
   refine zbA (zaj K k ws) (fun i σ Hx=>Same H Hx/\∃ vs x3 x4 x5,σ = [some (.ref k),some (.ref a),some (.ref pf),x3,x4,x5]/\Hx pf=some (.lst vs)/\vs.length<=i/\GoesR Hx vs (goesOf (ks.take i) ah)) ⟨s1,[],_,_,_,rfl,upd_same,A9 _,?_⟩ (fun i σ Hx _ h=>SqL.of (h.1 _ _ hk)) ?_ ?_
   ·rw [Nf,goes_nil hc]
    trivial
   ·rintro i x σ Hx hx ⟨sx,vs,x3,x4,x5,rfl,hpf,hvl,hgr⟩
    obtain ⟨c,qa,t,hkc,rfl,hq,ht⟩:=(kr.same sx).get hx
    have hi:i < ks.length:=(Ah.mp hkc).1
    have gc:=hg c (Br hkc)
    refine ⟨qa,_,rfl,SqL.of hq,rfl,_,_,rfl,_,_,rfl,rfl,?_⟩
    refine ⟨_,rfl,_,rfl,a,t,ah,c.2,rfl,sx.tup ha,ht,an,ar,zaS (zeU gc),zb7 gc,?_⟩
    by_cases hm:meets ah c.2=true
    ·rw [if_pos hm]
     refine ⟨_,rfl,rfl,_,rfl,iteF ?_⟩
     refine ⟨sx,vs,_,_,_,rfl,hpf,by omega,?_⟩
     rw [zaA hkc,zfp hc,if_pos hm,Cq]
     exact hgr
    ·rw [if_neg hm]
     intro p1 H1 s1' n1 e1
     refine ⟨_,rfl,rfl,_,rfl,iteT ?_⟩
     have sx1:=s1'
     refine ⟨_,rfl,.inl ⟨rfl,_,SqL.of (s1' _ _ hpf)⟩,_,rfl,_,rfl,bigr rfl,fun p2 np2 => ?_⟩
     have s2:Same Hx (upd H1 p2 (.tup [.str c.1,.ref p1])):=s1'.trans (Same.new np2)
     have e2:upd H1 p2 (.tup [.str c.1,.ref p1]) p2=some (.tup [.str c.1,.ref p1]):=upd_same
     have e1':upd H1 p2 (.tup [.str c.1,.ref p1]) p1=some (.tup ((afterOf ah c.2).map V.int)):=by rw [zaf (zao e1 np2)]; exact e1
     have hpf2:=s2 _ _ hpf
     refine ⟨pf,_,_,rfl,rfl,hpf2,Ae (by omega:vs.length < 1000) zaO,?_⟩
     have tn:∀ q' xs,upd H1 p2 (.tup [.str c.1,.ref p1]) q'=some (.tup xs)->upd (upd H1 p2 (.tup [.str c.1,.ref p1])) pf (.lst (vs ++ [.ref p2])) q'=some (.tup xs):=fun q' xs h=>by
      have:q'≠pf:=fun z=>by rw [z,hpf2] at h; cases h
      rw [zaf this]; exact h
     refine ⟨(sx.trans s2).put npf,_,_,_,_,rfl,upd_same,(by rw [Ab,Bf]; omega),?_⟩
     rw [zaA hkc,zfp hc,if_neg hm]
     exact GoesR.snoc (s:=(c.1,afterOf ah c.2)) (tn _ _ e2) (tn _ _ e1') (hgr.mono fun q' xs h=>tn _ _ (s2 _ _ h))
   ·rintro σ Hx ⟨sx,vs,x3,x4,x5,rfl,hpf,hvl,hgr⟩
    rw [hlen,C6] at hgr
    exact ⟨_,rfl,q pf Hx vs sx npf hpf hgr⟩
theorem goes_lenS {ks:Combs} (h8:ks.length<=8) (s:Nat) (hs:s < 128) (g:GC ks):(goesOf ks (aheadOf (s:Int))).length<=8:=by
 rw [<- A1 (f:=fun p:Str×List Int=>(p.1,worth p.2)),zbM hs g]
 exact zcq h8 s
noncomputable def LeftR (H:Hp) (ws:List V) (ls:List Nat):Prop:=Cw (fun (s:Nat) (v:V)=>s < 128/\∃ q,v = .ref q/\H q=some (.tup ((aheadOf (s:Int)).map V.int))) ls ws
theorem LeftR.mono {H H':Hp} {ws:List V} {ls:List Nat} (r:LeftR H ws ls) (m:∀ q xs,H q=some (.tup xs)->H' q=some (.tup xs)):LeftR H' ws ls:=Cw.mapP r fun _ _ ⟨a,q,b,c⟩=>⟨a,q,b,m _ _ c⟩
noncomputable def intTup (ns:List Int):Gh := .tuple (ns.map Ed)
theorem LeftR.vd {K:At} {H:Hp} {ws:List V} {ls:List Nat} (r:LeftR H ws ls):VDs K H ws (ls.map fun (s:Nat)=>intTup (aheadOf (s:Int))):=by
 induction r with
 | nil=>exact .nil
 | cons h _ ih =>
  obtain ⟨_,q,rfl,e⟩:=h
  exact .cons (.tup (SqT.of e) (VDs.map fun u _ => .int u)) ih
theorem shaped_tups (ls:List (List Int)):Du (.list (ls.map intTup))=true:=by
 have h0:∀ a:List Int,Ca (a.map Ed)=true/\Cj (a.map Ed)=0:=by
  intro a
  induction a with
  | nil=>exact ⟨rfl,rfl⟩
  | cons x a ih=>rw [Al,Ca,Cj,ih.1,ih.2]; exact ⟨rfl,rfl⟩
 have h1:∀ ls:List (List Int),Ca (ls.map intTup)=true/\Cj (ls.map intTup)<=1:=by
  intro ls
  induction ls with
  | nil=>exact ⟨rfl,By _⟩
  | cons x ls ih =>
   rw [Al,Ca,Cj]
   unfold intTup
   refine ⟨?_,?_⟩
   ·rw [show Ca (Lu (fun ns:List Int=>PyData.tuple (ns.map Ed)) ls)=true from ih.1]
    simp [Eh,(h0 x).1]
   ·have:=ih.2
    unfold intTup at this
    simp only [Ey,(h0 x).2]
    omega
 have:=h1 ls
 have h2:Ey (.list (ls.map intTup))<=64:=by
  rw [Ey]
  omega
 have h3:Eh (.list (ls.map intTup))=true:=by
  simp [Eh,this.1]
 unfold Du
 rw [h3,decide_eq_true h2]
 rfl
noncomputable def sp_graph:Sp:=fun vs H Q _=>∃ (k b:A3) (ws:List V) (ks:Combs) (s0:Nat),vs = [.ref k,.ref b]/\H k=some (.lst ws)/\KindsL (fun _=>True) H ws ks/\ks.length<=8/\GC ks/\s0 < 128/\H b=some (.tup ((aheadOf (s0:Int)).map V.int))/\∀ p kvs L H',Same H H'->H p=none->H' p=some (.dT kvs)->GrL H' kvs ks L->L.Nodup->ClsS ks L->s0∈L->Q (.ref p) H'
theorem zgl:FnScope ["_law_kinds","_law_begin","_law_graph_here","_law_left","_law_ahead","_law_word_here","_law_further"] ["_law_kinds","_law_begin"] (defScope s_graph):=⟨rfl,rfl,rfl,by decide +kernel,rfl,by decide +kernel,by decide +kernel⟩
theorem ok_graph (D:DefAt K mg "_law_graph" s_graph) (T:Bn mg) (C_goes:Callee P w K mg base "_law_goes" 2 ["_law_kinds","_law_ahead"] (sp_goes K)):Callee P w K mg base "_law_graph" 3 ["_law_kinds","_law_begin"] sp_graph:=by
 refine D.callee zgl (fun _ _ _ _ _ _=>ln2 fun _ _=>rfl) (fun vs H Q E h => ?_) (fun f cdv A outer s H vs Q E hr h => ?_)
 ·obtain ⟨k,b,ws,ks,s0,rfl,_⟩:=h
  rfl
 ·obtain ⟨k,b,ws,ks,s0,rfl,hk,kr,h8,gc,hs0,hb,q⟩:=h
  have S:=zgl
  have hu:=zck hr
  refine ⟨_,zab (zah (i:=2) S.nd rfl (Aj rfl) (zeJ))
  (zab (zah (i:=3) S.nd rfl (Aj rfl) (zaB (zaa (pv 1) zad)))
  (zab (zcd B8 (zap (zh0 hr.units) (pv 3) (zaB (zad)) (zav _))
   (zab (zah (i:=4) S.nd rfl (Aj rfl) (zhY Bg Kp Ko zh3 (pv 3)))
   (zae (zaF (zfd (zcW hu (pv 4) (pv 2)))
    (zab (zcr hu (pv 2) (pv 4) (zaz C_goes (hr.mono (by decide)) rfl (zaa (pv 0) (zaa (pv 4) zad))) rfl)
    (zae (zaZ B8 rfl (zau (zdb hu (pv 2) (pv 4) (fun _ _=>rfl))) (zhe rfl (zaX (zak (i:=5) S.nd rfl (Aj rfl)) (zaX (zak (i:=6) S.nd rfl (Aj rfl)) (zcs))))
     (zae (zaJ (zcV Bg Bm Bl zaH (pv 3) (zaa (pv 6) zad)))))))
    (zan)))))
  (zae (zai (pv 2))))),?_⟩
  refine fun g ng=>⟨_,rfl,bigr rfl,fun l nl => ?_⟩
  have s1:Same H (upd H g (.dT [])):=Same.new ng
  have nl0:H l=none:=s1.free nl
  have hgl:g≠l:=fun z=>by rw [<- z,upd_same] at nl; cases nl
  have s2:Same H (upd (upd H g (.dT [])) l (.lst [.ref b])):=s1.trans (Same.new nl)
  refine ⟨fun m σ Hx=>∃ kvs L wl ls x4 x5 x6,σ = [some (.ref k),some (.ref b),some (.ref g),some (.ref l),x4,x5,x6]/\Same H Hx/\Hx g=some (.dT kvs)/\Hx l=some (.lst wl)/\LeftR Hx wl ls/\GrL Hx kvs ks L/\(∀ kv∈kvs,kv.2 ≠ .ref l)/\L.Nodup/\(∀ s∈L,s < 128)/\(∀ s∈L,∀ p∈stp ks s,p.2.toNat∈L\/p.2.toNat∈ls)/\(s0∈L\/s0∈ls)/\ls.length<=2000 - 9 * (128 - L.length)/\m=9 * (128 - L.length) + ls.length,⟨_,[],[],[.ref b],[s0],_,_,_,rfl,s2,(by rw [zaf hgl]; exact upd_same),upd_same,.cons ⟨hs0,b,rfl,s2 _ _ hb⟩ .nil,.nil,nofun,D3,nofun,nofun,.inr (by simp),(show 1<=2000 - 9 * (128 - 0) by decide),rfl⟩,?_⟩
  rintro m σ Hx ⟨kvs,L,wl,ls,x4,x5,x6,rfl,sx,hg,hl,lr,gr,hkl,nd,lt,cl,h0,hlb,rfl⟩
  have hL128:L.length<=128:=zaG 128 L nd lt
  refine ⟨_,rfl,bigr rfl,fun e ne => ?_⟩
  have se:Same Hx (upd Hx e (.lst [])):=Same.new ne
  refine ⟨_,_,.lst (SqL.of (se _ _ hl)) (lr.mono fun _ _ z=>se _ _ z).vd,.lst (SqL.of upd_same) .nil,?_,by decide,_,rfl,?_⟩
  ·have:=shaped_tups (ls.map fun (s:Nat)=>aheadOf (s:Int))
   rwa [B5] at this
  have hll:=D9 lr
  cases hls:ls with
  | nil =>
   subst hls
   rw [if_pos rfl,show E3 (.list (Lu (fun s:Nat=>intTup (aheadOf (s:Int))) [])) (.list [])=true by decide]
   refine iteF ?_
   refine ⟨_,rfl,q g kvs L _ (sx.trans se) ng (se _ _ hg) (gr.same se) nd ⟨lt,fun s hs p hp=>(cl s hs p hp).resolve_right (by simp)⟩ (h0.resolve_right (by simp))⟩
  | cons t0 ts0 =>
   have hlpos:0 < ls.length:=by rw [hls]; simp
   rw [<- hls]
   rw [if_pos rfl,show E3 (.list (ls.map fun s:Nat=>intTup (aheadOf (s:Int)))) (.list [])=false by rw [hls]; simp [E3,Eo]]
   refine iteT ?_
   have hg:=se _ _ hg
   have hl:=se _ _ hl
   have lr:LeftR (upd Hx e (.lst [])) wl ls:=lr.mono fun _ _ z=>se _ _ z
   have gr:=gr.same se
   have sx:=sx.trans se
   generalize upd Hx e (.lst [])=Hy at hg hl lr gr sx
   clear se ne
   refine ⟨fun σ' H'=>∃ m',m' < 9 * (128 - L.length) + ls.length/\∃ kvs L wl ls x4 x5 x6,σ' = [some (.ref k),some (.ref b),some (.ref g),some (.ref l),x4,x5,x6]/\Same H H'/\H' g=some (.dT kvs)/\H' l=some (.lst wl)/\LeftR H' wl ls/\GrL H' kvs ks L/\(∀ kv∈kvs,kv.2 ≠ .ref l)/\L.Nodup/\(∀ s∈L,s < 128)/\(∀ s∈L,∀ p∈stp ks s,p.2.toNat∈L\/p.2.toNat∈ls)/\(s0∈L\/s0∈ls)/\ls.length<=2000 - 9 * (128 - L.length)/\m'=9 * (128 - L.length) + ls.length,fun _ _ h=>h,?_⟩
   obtain ⟨v,ev,t128,qt,rfl,hqt⟩:=Cw.at lr (A8 (show ls.length - 1 < ls.length by omega))
   have els:ls=ls.dropLast ++ [ls[ls.length - 1]'(by omega)]:=by
    have hne:ls ≠ []:=fun z=>by rw [z] at hlpos; simp at hlpos
    have:=(G3 hne).symm
    rwa [Kz] at this
   generalize ls[ls.length - 1]'(by omega)=t at ev t128 hqt els
   refine ⟨_,rfl,.inl ⟨rfl,_,SqL.of hl⟩,l,wl,.ref qt,rfl,rfl,hl,(by rw [<- hll]; exact ev),?_⟩
   have ldl:ls.dropLast.length=ls.length - 1:=Lv
   have lr1:LeftR (upd Hy l (.lst wl.dropLast)) wl.dropLast ls.dropLast:=by
    have h1:LeftR Hy wl.dropLast ls.dropLast:=by
     have:∀ {a:List Nat} {c:List V},LeftR Hy c a->LeftR Hy c.dropLast a.dropLast:=by
      intro a c r
      induction r with
      | nil=>exact .nil
      | cons h r' ih =>
       cases r' with
       | nil=>exact .nil
       | cons h2 r2=>exact .cons h ih
     exact this lr
    exact h1.mono fun qa xs z=>by rw [zaf (fun z2=>by rw [z2,hl] at z; cases z)]; exact z
   have gr1:GrL (upd Hy l (.lst wl.dropLast)) kvs ks L:=gr.mono (fun kv hkv qa vs z z2=>by rw [zaf (fun z3=>hkl kv hkv (by rw [z,z3]))]; exact z2) fun qa xs z=>by rw [zaf (fun z2=>by rw [z2,hl] at z; cases z)]; exact z
   have hg1:upd Hy l (.lst wl.dropLast) g=some (.dT kvs):=by rw [zaf hgl]; exact hg
   have hl1:upd Hy l (.lst wl.dropLast) l=some (.lst wl.dropLast):=upd_same
   have hqt1:upd Hy l (.lst wl.dropLast) qt=some (.tup ((akey t).map kV)):=by
    rw [zaf (fun z2=>by rw [z2,hl] at hqt; cases hqt)]
    unfold akey
    rw [kI_V]
    exact hqt
   have sx1:Same H (upd Hy l (.lst wl.dropLast)):=sx.put nl0
   generalize upd Hy l (.lst wl.dropLast)=H1 at lr1 gr1 hg1 hl1 hqt1 sx1
   clear lr gr hg hl hqt sx
   refine ⟨_,rfl,_,rfl,g,_,rfl,DGet.t hg1 hqt1,_,rfl,?_⟩
   have hh:=gr1.has lt t128
   by_cases hin:t∈L
   ·have hh2:(valV kvs (akey t)).isSome=true:=by rw [hh]; exact decide_eq_true hin
    obtain ⟨vv,hvv⟩:=Gm.mp hh2
    rw [hvv]
    refine iteF ?_
    refine ⟨_,?_,kvs,L,wl.dropLast,ls.dropLast,_,_,_,rfl,sx1,hg1,hl1,lr1,gr1,hkl,nd,lt,fun s hs p hp => ?_,?_,by omega,rfl⟩
    ·omega
    ·rcases cl s hs p hp with z | z
     ·exact .inl z
     ·rw [els] at z
      rcases An.mp z with z | z
      ·exact .inr z
      ·rw [A5.mp z]; exact .inl hin
    ·rcases h0 with z | z
     ·exact .inl z
     ·rw [els] at z
      rcases An.mp z with z | z
      ·exact .inr z
      ·rw [A5.mp z]; exact .inl hin
   ·have hno:valV kvs (akey t)=none:=by
     cases ez:valV kvs (akey t) with
     | none=>rfl
     | some v=>rw [ez] at hh; exact absurd (of_decide_eq_true hh.symm) hin
    rw [hno]
    refine iteT ?_
    have hqi:H1 qt=some (.tup ((aheadOf (t:Int)).map V.int)):=by
     have:=hqt1
     unfold akey at this
     rwa [kI_V] at this
    refine ⟨_,rfl,_,rfl,k,qt,ws,ks,aheadOf (t:Int),rfl,sx1 _ _ hk,kr.same sx1,by omega,gc,SqT.of hqi,zcC _,zbS,fun pv H2 vs' s2 npv hpv gv => ?_⟩
    have nd1:(L ++ [t]).Nodup:=Bz.mpr ⟨nd,by simp,fun u hu v hv e=>by rw [A5.mp hv] at e; exact hin (e ▸ hu)⟩
    have lt1:∀ s∈L ++ [t],s < 128:=fun s hs=>(An.mp hs).elim (lt s) fun z=>by rw [A5.mp z]; exact t128
    have hL1:(L ++ [t]).length<=128:=zaG 128 _ nd1 lt1
    rw [Ab,Bf] at hL1
    have hkl2:=gr1.len
    refine ⟨_,rfl,_,rfl,g,_,rfl,DPut.t (k:=akey t) (s2 _ _ hg1) (s2 _ _ hqt1) (Ae (by omega:kvs.length < 1000) zaO),?_⟩
    rw [zcT _ hno]
    have hg2:=s2 _ _ hg1
    have keep:∀ qa o,(∃ xs,o=HO.lst xs)\/(∃ xs,o=HO.tup xs)->H2 qa=some o->upd H2 g (.dT (kvs ++ [(akey t,.ref pv)])) qa=some o:=fun qa o ho ea=>by
     rw [zaf (fun z=>by rw [z,hg2] at ea; cases ea; rcases ho with ⟨_,h⟩ | ⟨_,h⟩ <;> cases h)]
     exact ea
    have hpl:pv≠l:=fun z=>by rw [z,hl1] at npv; cases npv
    have gr3:GrL (upd H2 g (.dT (kvs ++ [(akey t,.ref pv)]))) (kvs ++ [(akey t,.ref pv)]) ks (L ++ [t]) :=
     ((gr1.same s2).mono (fun _ _ qa vs _ e=>keep _ _ (.inl ⟨_,rfl⟩) e) fun qa xs e=>keep _ _ (.inr ⟨_,rfl⟩) e).snoc (keep _ _ (.inl ⟨_,rfl⟩) hpv) (gv.mono fun qa xs e=>keep _ _ (.inr ⟨_,rfl⟩) e)
    have gv3:GoesR (upd H2 g (.dT (kvs ++ [(akey t,.ref pv)]))) vs' (goesOf ks (aheadOf (t:Int))):=gv.mono fun qa xs e=>keep _ _ (.inr ⟨_,rfl⟩) e
    have lr3:=(lr1.mono fun _ _ z=>s2 _ _ z).mono fun qa xs e=>keep _ _ (.inr ⟨_,rfl⟩) e
    have hl3:=keep _ _ (.inl ⟨_,rfl⟩) (s2 _ _ hl1)
    have hpv3:=keep _ _ (.inl ⟨_,rfl⟩) hpv
    have hqt3:=keep _ _ (.inr ⟨_,rfl⟩) (s2 _ _ hqt1)
    have hg3:upd H2 g (.dT (kvs ++ [(akey t,.ref pv)])) g=some (.dT (kvs ++ [(akey t,.ref pv)])):=upd_same
    have sx3:Same H (upd H2 g (.dT (kvs ++ [(akey t,.ref pv)]))):=(sx1.trans s2).put ng
    generalize upd H2 g (.dT (kvs ++ [(akey t,.ref pv)]))=H3 at gr3 gv3 lr3 hl3 hpv3 hqt3 hg3 sx3
    have hkl3:∀ kv∈kvs ++ [(akey t,V.ref pv)],kv.2 ≠ .ref l:=fun kv hkv=>by
     rcases An.mp hkv with z | z
     ·exact hkl kv z
     ·rw [A5.mp z]
      exact fun z=>hpl (by injection z)
    have dg:DGet H3 g (.ref qt) (some (.ref pv)):=by
     have:valV (kvs ++ [(akey t,V.ref pv)]) (akey t)=some (.ref pv):=by
      rw [<- zcT _ hno,zf6,if_pos rfl]
     rw [<- this]
     exact DGet.t hg3 hqt3
    refine ⟨_,rfl,_,rfl,_,_,rfl,dg,_,rfl,⟨_,SqL.of hpv3⟩,?_⟩
    have hgl8:=goes_lenS h8 t t128 gc
    have hvl:=gv3.length
    refine zbA (zaj K pv vs') (fun i σ Hz=>Same H Hz/\∃ wl' x5 x6,σ = [some (.ref k),some (.ref b),some (.ref g),some (.ref l),some (.ref qt),x5,x6]/\Hz g=some (.dT (kvs ++ [(akey t,.ref pv)]))/\Hz l=some (.lst wl')/\Hz pv=some (.lst vs')/\LeftR Hz wl' (ls.dropLast ++ ((goesOf ks (aheadOf (t:Int))).take i).map fun p=>(worth p.2).toNat)/\GrL Hz (kvs ++ [(akey t,.ref pv)]) ks (L ++ [t])/\GoesR Hz vs' (goesOf ks (aheadOf (t:Int)))) ⟨sx3,wl.dropLast,_,_,rfl,hg3,hl3,hpv3,(by simpa using lr3),gr3,gv3⟩ (fun i σ Hz _ h=>by obtain ⟨_,_,_,_,_,_,_,h,_⟩:=h; exact SqL.of h) ?_ ?_
    ·rintro i x σ Hz hx ⟨sz,wl',x5,x6,rfl,hgz,hlz,hpz,lz,grz,gvz⟩
     obtain ⟨q1,t1,rfl,e2,e3,hlt⟩:=gvz.nth hx
     have hmem:(goesOf ks (aheadOf (t:Int)))[i]∈goesOf ks (aheadOf (t:Int)):=Cy hlt
     have egd:(goesOf ks (aheadOf (t:Int))).getD i ("",[])=(goesOf ks (aheadOf (t:Int)))[i]:=by rw [Ac,A8 hlt]; rfl
     rw [egd] at e2 e3
     obtain ⟨k1,k2,k3,k4⟩:=zdt t128 gc hmem
     have hwl':=D9 lz
     rw [Ab,A1,Cf,ldl] at hwl'
     refine ⟨q1,_,rfl,SqT.of e2,rfl,_,_,rfl,_,_,rfl,rfl,?_⟩
     refine ⟨_,rfl,.inl ⟨rfl,_,SqL.of hlz⟩,_,rfl,l,wl',_,rfl,rfl,hlz,Ae (by omega:wl'.length < 3000) (by decide),?_⟩
     have kt:∀ qa xs,Hz qa=some (.tup xs)->upd Hz l (.lst (wl' ++ [.ref t1])) qa=some (.tup xs):=fun qa xs z=>by rw [zaf (fun z2=>by rw [z2,hlz] at z; cases z)]; exact z
     refine ⟨sz.put nl0,_,_,_,rfl,(by rw [zaf hgl]; exact hgz),upd_same,(by rw [zaf hpl]; exact hpz),?_,grz.mono (fun kv hkv qa vs z z2=>by rw [zaf (fun z3=>hkl3 kv hkv (by rw [z,z3]))]; exact z2) kt,gvz.mono kt⟩
     rw [Cz hlt,Ao,<- Aw]
     refine F8 (lz.mono kt) ⟨k1,t1,rfl,kt _ _ ?_⟩
     have e4:aheadOf (((worth (goesOf ks (aheadOf (t:Int)))[i].2).toNat:Nat):Int)=(goesOf ks (aheadOf (t:Int)))[i].2:=zen (by rw [k3]; rfl)
     rw [e4]
     exact e3
    ·rintro σ Hz ⟨sz,wl',x5,x6,rfl,hgz,hlz,hpz,lz,grz,gvz⟩
     rw [hvl,C6] at lz
     have est:(goesOf ks (aheadOf (t:Int))).map (fun p=>(worth p.2).toNat)=(stp ks t).map fun p=>p.2.toNat:=by
      rw [<- zbM t128 gc,B5]
      rfl
     refine ⟨_,?_,_,L ++ [t],wl',_,_,_,_,rfl,sz,hgz,hlz,lz,grz,hkl3,nd1,lt1,fun s hs p hp => ?_,?_,?_,rfl⟩
     ·rw [Ab,Ab,Bf,A1,ldl]
      omega
     ·rw [est]
      rcases An.mp hs with z | z
      ·rcases cl s z p hp with z | z
       ·exact .inl (C9 _ z)
       ·rw [els] at z
        rcases An.mp z with z | z
        ·exact .inr (C9 _ z)
        ·rw [A5.mp z]; exact .inl (Bt _ (A5.mpr rfl))
      ·rw [A5.mp z] at hp
       exact .inr (Bt _ (A7.mpr ⟨p,hp,rfl⟩))
     ·rcases h0 with z | z
      ·exact .inl (C9 _ z)
      ·rw [els] at z
       rcases An.mp z with z | z
       ·exact .inr (C9 _ z)
       ·rw [A5.mp z]; exact .inl (Bt _ (A5.mpr rfl))
     ·rw [Ab,Ab,Bf,A1,ldl]
      omega
theorem LeftR.in128 {H:Hp} {ws:List V} {ls:List Nat} (r:LeftR H ws ls):∀ s∈ls,s < 128:=by
 induction r with
 | nil=>simp
 | cons h _ ih =>
  intro s hs
  rcases Bc.mp hs with rfl | hs
  ·exact h.1
  ·exact ih s hs
theorem left_of {H:Hp}:∀ {ls:List Nat} {ws:List V},TupsR H (ls.map fun (s:Nat)=>aheadOf (s:Int)) ws->(∀ s∈ls,s < 128)->LeftR H ws ls
 | [],_,.nil,_ => .nil
 | s :: ls,_,.cons h r,lt => .cons ⟨lt s Ap,h⟩ (left_of r fun t ht=>lt t (Ak _ ht))
theorem zfR {rs:List Nat} (lt:∀ s∈rs,s < 128) {t:Nat} (ht:t < 128):akey t∈rs.map akey ↔ t∈rs:=by
 rw [A7]
 exact ⟨fun ⟨s,hs,e⟩=>zdw (lt s hs) ht e ▸ hs,fun h=>⟨t,h,rfl⟩⟩
noncomputable def addN (rs:List Nat) (t:Nat):List Nat:=if t∈rs then rs else rs ++ [t]
theorem addN_mem {rs:List Nat} {t s:Nat}:s∈addN rs t ↔ s∈rs\/s=t:=by
 unfold addN
 split
 ·rename_i h
  exact ⟨.inl,fun z=>z.elim id fun e=>e ▸ h⟩
 ·rw [An,A5]
theorem addN_nd {rs:List Nat} {t:Nat} (nd:rs.Nodup):(addN rs t).Nodup:=by
 unfold addN
 split
 ·exact nd
 ·rename_i z
  refine Bz.mpr ⟨nd,by simp,fun u hu v hv e => ?_⟩
  rw [A5.mp hv] at e
  exact z (e ▸ hu)
theorem addN_keys {kvs:List (List Key×V)} {rs:List Nat} {t:Nat} {v:V} (lt:∀ s∈rs,s < 128) (ht:t < 128) (hk:kvs.map (·.1)=rs.map akey):(putK kvs (akey t) v).map (·.1)=(addN rs t).map akey:=by
 rw [zfc,hk]
 unfold addN
 by_cases z:t∈rs
 ·rw [if_pos ((zfR lt ht).mpr z),if_pos z]
 ·rw [if_neg (fun h=>z ((zfR lt ht).mp h)),if_neg z,Ao]
  rfl
theorem keys_perm {nss:List (List Int)} {rs:List Nat} (p:nss.Perm (rs.map fun (s:Nat)=>aheadOf (s:Int))) (lt:∀ s∈rs,s < 128):∃ rs':List Nat,rs'.Perm rs/\nss=rs'.map fun (s:Nat)=>aheadOf (s:Int):=by
 refine ⟨nss.map fun ns=>(worth ns).toNat,?_,?_⟩
 ·have:=p.map fun ns=>(worth ns).toNat
  rw [B5] at this
  have e:rs.map ((fun ns=>(worth ns).toNat) ∘ fun (s:Nat)=>aheadOf (s:Int))=rs:=by
   conv=>rhs; rw [<- Fy rs]
   refine C7 fun s hs => ?_
   show (worth (aheadOf (s:Int))).toNat=s
   rw [zbh (by omega) (by have:=lt s hs; omega)]
   simp
  rwa [e] at this
 ·rw [B5]
  conv=>lhs; rw [<- Fy nss]
  refine C7 fun ns hns => ?_
  obtain ⟨s,hs,rfl⟩:=A7.mp (p.mem_iff.mp hns)
  show aheadOf (s:Int)=aheadOf (((worth (aheadOf (s:Int))).toNat:Nat):Int)
  rw [zbh (by omega) (by have:=lt s hs; omega)]
  simp
noncomputable def NumR (mvs:List (List Key×V)) (rs:List Nat) (G:Nat->Nat):Prop:=mvs.map (·.1)=rs.map akey/\rs.Nodup/\(∀ s∈rs,s < 128)/\(∀ s∈rs,valV mvs (akey s)=some (.int ((G s:Nat):Int)))/\∀ s,s < 128->s ∉ rs->G s=0
theorem NumR.val {mvs:List (List Key×V)} {rs:List Nat} {G:Nat->Nat} (r:NumR mvs rs G) {s:Nat} (hs:s < 128):valV mvs (akey s)=if s∈rs then some (.int ((G s:Nat):Int)) else none:=by
 by_cases z:s∈rs
 ·rw [if_pos z]; exact r.2.2.2.1 s z
 ·rw [if_neg z]
  cases e:valV mvs (akey s) with
  | none=>rfl
  | some v =>
   have:=valV_mem.mp (show (valV mvs (akey s)).isSome=true by rw [e]; rfl)
   rw [r.1] at this
   exact absurd ((zfR r.2.2.1 hs).mp this) z
theorem NumR.len {mvs:List (List Key×V)} {rs:List Nat} {G:Nat->Nat} (r:NumR mvs rs G):mvs.length=rs.length/\rs.length<=128:=by
 have:=congrArg Fe r.1
 rw [A1,A1] at this
 exact ⟨this,zaG 128 rs r.2.1 r.2.2.1⟩
theorem NumR.put {mvs:List (List Key×V)} {rs:List Nat} {G:Nat->Nat} (r:NumR mvs rs G) {t:Nat} (ht:t < 128) (x:Nat):NumR (putK mvs (akey t) (.int ((G t + x:Nat):Int))) (addN rs t) (fun s=>if s=t then G s + x else G s):=by
 refine ⟨addN_keys r.2.2.1 ht r.1,addN_nd r.2.1,fun s hs => ?_,fun s hs => ?_,fun s hs hn => ?_⟩
 ·rcases addN_mem.mp hs with z | z
  ·exact r.2.2.1 s z
  ·rw [z]; exact ht
 ·rw [zf6]
  have hs128:s < 128:=by
   rcases addN_mem.mp hs with z | z
   ·exact r.2.2.1 s z
   ·rw [z]; exact ht
  dsimp only
  by_cases z:s=t
  ·rw [if_pos (by rw [z]),if_pos z,z]
  ·rw [if_neg (fun e=>z (zdw hs128 ht e)),if_neg z]
   rcases addN_mem.mp hs with y | y
   ·exact r.2.2.2.1 s y
   ·exact absurd y z
 ·have h1:s ∉ rs:=fun z=>hn (addN_mem.mpr (.inl z))
  have h2:s≠t:=fun z=>hn (addN_mem.mpr (.inr z))
  dsimp only
  rw [if_neg h2]
  exact r.2.2.2.2 s hs h1
noncomputable def cntL (ks:Combs) (n:Nat):List V:=(Af (n + 1)).map fun k=>V.int ((cnt ks k 0:Nat):Int)
theorem cntL_len (ks:Combs) (n:Nat):(cntL ks n).length=n + 1:=by unfold cntL; rw [A1,B0]
theorem zfy (ks:Combs) (n:Nat):cntL ks n ++ [V.int ((cnt ks (n + 1) 0:Nat):Int)]=cntL ks (n + 1):=by
 unfold cntL
 rw [Dh (n:=n + 1),Ao]
 rfl
noncomputable def sp_manyways:Sp:=fun vs H Q _=>∃ (g:A3) (kvs:List (List Key×V)) (ks:Combs) (L:List Nat) (n:Nat),vs = [.ref g,.int (n:Nat)]/\H g=some (.dT kvs)/\GrL H kvs ks L/\L.Nodup/\ClsS ks L/\0∈L/\GC ks/\ks.length<=8/\(ks.map (·.1)).Nodup/\(∀ c∈ks,c.1≠A2 "")/\n<=1000/\∀ p H',Same H H'->H p=none->H' p=some (.lst (cntL ks n))->Q (.ref p) H'
theorem zdB:FnScope ["_law_graph_here","_law_length","_law_ways","_law_found","_law_k","_law_more","_law_ahead","_law_word_here","_law_further"] ["_law_graph_here","_law_length"] (defScope s_manyways):=⟨rfl,rfl,rfl,by decide +kernel,rfl,by decide +kernel,by decide +kernel⟩
theorem ok_manyways (D:DefAt K mg "_law_manyways" s_manyways) (T:Bn mg):Callee P w K mg base "_law_manyways" 1 ["_law_graph_here","_law_length"] sp_manyways:=by
 refine D.callee zdB (fun _ _ _ _ _ _=>ln2 fun _ _=>rfl) (fun vs H Q E h => ?_) (fun f cdv A outer s H vs Q E hr h => ?_)
 ·obtain ⟨g,kvs,ks,L,n,rfl,_⟩:=h
  rfl
 ·obtain ⟨g,kvs,ks,L,n,rfl,hg,gr,ndL,cl,h0L,gc,h8,ndk,nek,hn,q⟩:=h
  have ltL:=cl.1
  have S:=zdB
  have hu:=zck hr
  refine ⟨_,zab (zah (i:=2) S.nd rfl (Aj rfl) (pe_disp1T hu (zbp (zad)) (zac)))
  (zab (zah (i:=3) S.nd rfl (Aj rfl) (zaB (zaa (zac) zad)))
  (zab (zaZ B8 rfl (zbm rfl T.n_range (zaa (pv 1) zad)) (zak (i:=4) S.nd rfl (Aj rfl))
   (zab (zah (i:=5) S.nd rfl (Aj rfl) (zeJ))
   (zab (ps_forT B8 rfl (pv 2) (zak (i:=6) S.nd rfl (Aj rfl))
    (zae (zaZ B8 rfl (zau (zdb hu (pv 0) (pv 6) (fun _ _=>rfl))) (zhe rfl (zaX (zak (i:=7) S.nd rfl (Aj rfl)) (zaX (zak (i:=8) S.nd rfl (Aj rfl)) (zcs))))
     (zae (zcr hu (pv 5) (pv 8) (zaw zbw (zgt hu (pv 5) (pv 8) (zac) ⟨rfl,rfl,rfl,rfl⟩) (zdb hu (pv 2) (pv 6) (fun _ _=>rfl))) rfl)))))
   (zab (zah (i:=2) S.nd rfl (Aj rfl) (pv 5))
   (zae (zaJ (zcV Bg Bm Bl zaH (pv 3) (zaa (zgt hu (pv 2) (zbp (zad)) (zac) ⟨rfl,rfl,rfl,rfl⟩) zad))))))))
  (zae (zai (pv 3))))),?_⟩
  refine fun p np=>⟨bigr rfl,fun e ne => ?_⟩
  have s1:Same H (upd H p (.dT [])):=Same.new np
  have hp1:upd H p (.dT []) p=some (.dT []):=upd_same
  generalize upd H p (.dT [])=H1 at s1 hp1 ne ⊢
  have s2:Same H1 (upd H1 e (.tup [])):=Same.new ne
  have he2:upd H1 e (.tup []) e=some (.tup ((akey 0).map kV)):=by
   rw [upd_same]
   unfold akey
   rw [kI_V,show aheadOf ((0:Nat):Int) = [] by decide]
   rfl
  generalize upd H1 e (.tup [])=H2 at s2 he2 ⊢
  refine ⟨akey 0,e,s2 _ _ hp1,rfl,he2,?_⟩
  have s12:=s1.trans s2
  have s3:Same H (upd H2 p (.dT [(akey 0,.int 1)])):=s12.put np
  have hp3:upd H2 p (.dT [(akey 0,.int 1)]) p=some (.dT [(akey 0,.int 1)]):=upd_same
  generalize upd H2 p (.dT [(akey 0,.int 1)])=H3 at s3 hp3 ⊢
  have r0:NumR [(akey 0,.int 1)] [0] (cnt ks 0):=by
   refine ⟨rfl,by simp,fun s hs=>by rw [A5.mp hs]; decide,fun s hs => ?_,fun s _ hs => ?_⟩
   ·rw [A5.mp hs,zc3,if_pos rfl]
    exact zez (i:=0) (by simp) rfl
   ·rw [zc3,if_neg (fun z=>hs (A5.mpr z))]
  refine ⟨bigr rfl,fun fo nfo => ?_⟩
  have nfo0:H fo=none:=s3.free nfo
  have s4':Same H3 (upd H3 fo (.lst [.int 1])):=Same.new nfo
  have hfo4:upd H3 fo (.lst [.int 1]) fo=some (.lst (cntL ks 0)):=by
   rw [upd_same]
   unfold cntL
   show _=some (HO.lst [V.int ((cnt ks 0 0:Nat):Int)])
   rw [zc3,if_pos rfl]
   rfl
  have hp3:=s4' _ _ hp3
  have s3:=s3.trans s4'
  generalize upd H3 fo (.lst [.int 1])=H3 at s3 hp3 hfo4 ⊢
  refine ⟨_,rfl,_,rfl,by omega,by omega,?_⟩
  refine zbA (zaT 0 ((n:Nat):Int).toNat) (fun i σ Hx=>Same H Hx/\∃ (wp:A3) (wvs:List (List Key×V)) (rs:List Nat) (x3 x4 x5 x6 x7:Option V),σ = [some (.ref g),some (.int (n:Nat)),some (.ref wp),some (.ref fo),x3,x4,x5,x6,x7]/\Hx fo=some (.lst (cntL ks i))/\H wp=none/\Hx wp=some (.dT wvs)/\NumR wvs rs (cnt ks i)/\∀ s∈rs,s∈L) ⟨s3,p,_,[0],_,_,_,_,_,rfl,hfo4,np,hp3,r0,fun s hs=>by rw [A5.mp hs]; exact h0L⟩ (fun _ _ _ _ _=>trivial) ?_ ?_
  ·rintro i x σ Hx hx ⟨sx,wp,wvs,rs,x3,x4,x5,x6,x7,rfl,hfo,nwp,hwp,nr,hrL⟩
   obtain ⟨hi,rfl⟩:=zbv hx
   refine fun mo nmo => ?_
   have hgw:g≠wp:=fun z=>by rw [z,nwp] at hg; cases hg
   have hwm:wp≠mo:=fun z=>by rw [<- z,hwp] at nmo; cases nmo
   have nmo0:=sx.free nmo
   have hfw:fo≠wp:=fun z=>by rw [z,hwp] at hfo; cases hfo
   have hfm:fo≠mo:=fun z=>by rw [<- z,hfo] at nmo; cases nmo
   refine ⟨wp,wvs,rfl,(by rw [zaf hwm]; exact hwp),fun o => ?_⟩
   have s4:Same H (upd (upd Hx mo (.dT [])) wp (.frz o (.dT wvs))):=(sx.put nmo0).put nwp
   obtain ⟨hwl,hr128⟩:=nr.len
   have ltr:=nr.2.2.1
   let Sm:Nat->Nat->Nat:=fun j t=>((rs.take j).map fun s=>cnt ks i s * goN ks s t).sum
   refine forT_g (fun j σ Hy=>Same H Hy/\Hy wp=some (.frz o (.dT wvs))/\Hy fo=some (.lst (cntL ks i))/\∃ (mvs:List (List Key×V)) (ms:List Nat) (x5 x6 x7:Option V),σ = [some (.ref g),some (.int (n:Nat)),some (.ref wp),some (.ref fo),some (.int (0 + ((i:Nat):Int))),some (.ref mo),x5,x6,x7]/\Hy mo=some (.dT mvs)/\NumR mvs ms (Sm j)/\∀ s∈ms,s∈L) ⟨s4,upd_same,(by rw [zaf hfw,zaf hfm]; exact hfo),[],[],_,_,_,rfl,(by rw [zaf hwm.symm]; exact upd_same),⟨rfl,D3,nofun,nofun,fun s _ _=>rfl⟩,nofun⟩ (fun j σ Hy h=>h.2.1) ?_ ?_
   ·rintro j kk y b σ Hy hk hb ⟨sy,hwy,hfy,mvs,ms,x5',x6',x7',rfl,hmo,nm,hmL⟩
    have hki:(wvs.map (·.1))[j]?=some kk:=by rw [Ad,hk]; rfl
    rw [nr.1,Ad] at hki
    cases hsi:rs[j]? with
    | none=>rw [hsi] at hki; cases hki
    | some s0 =>
     rw [hsi] at hki
     cases hki
     have hsm:=Br hsi
     have hs1:=ltr s0 hsm
     obtain ⟨qv,vv,ev,hqv,gv⟩:=(gr.same sy).val ndL ltL (hrL s0 hsm)
     have dg:DGet Hy g (.ref b) (some (.ref qv)):=by rw [<- ev]; exact DGet.t (sy _ _ hg) hb
     refine ⟨_,rfl,_,rfl,_,_,rfl,dg,_,rfl,⟨_,SqL.of hqv⟩,?_⟩
     have hvl:=gv.length
     have hqm:qv≠mo:=fun z=>by rw [z,hmo] at hqv; cases hqv
     have etk:∀ t,Sm (j + 1) t=Sm j t + cnt ks i s0 * goN ks s0 t:=fun t=>by
      show ((rs.take (j + 1)).map fun s=>cnt ks i s * goN ks s t).sum=((rs.take j).map fun s=>cnt ks i s * goN ks s t).sum + _
      rw [zaA hsi,Ao,Fa]
      simp
     have eval0:valV wvs (akey s0)=some (.int ((cnt ks i s0:Nat):Int)):=nr.2.2.2.1 s0 hsm
     refine zbA (zaj K qv vv) (fun u σ Hz=>Same H Hz/\Hz wp=some (.frz o (.dT wvs))/\Hz fo=some (.lst (cntL ks i))/\Hz b=some (.tup ((akey s0).map kV))/\Hz qv=some (.lst vv)/\GoesR Hz vv (goesOf ks (aheadOf (s0:Int)))/\∃ (mvs':List (List Key×V)) (ms':List Nat) (x6 x7:Option V),σ = [some (.ref g),some (.int (n:Nat)),some (.ref wp),some (.ref fo),some (.int (0 + ((i:Nat):Int))),some (.ref mo),some (.ref b),x6,x7]/\Hz mo=some (.dT mvs')/\NumR mvs' ms' (fun t=>Sm j t + cnt ks i s0 * (((goesOf ks (aheadOf (s0:Int))).take u).filter fun p=>decide ((worth p.2).toNat=t)).length)/\∀ s∈ms',s∈L) ⟨sy,hwy,hfy,hb,hqv,gv,mvs,ms,_,_,rfl,hmo,by simpa using nm,hmL⟩ (fun u σ Hz _ h=>SqL.of h.2.2.2.2.1) ?_ ?_
     ·rintro u y σ Hz hy ⟨sz,hwz,hfz,hbz,hqz,gz,mvs',ms',x6'',x7'',rfl,hmz,nz,hzL⟩
      obtain ⟨q1,t1,rfl,e2,e3,hltj⟩:=gz.nth hy
      have egd:(goesOf ks (aheadOf (s0:Int))).getD u ("",[])=(goesOf ks (aheadOf (s0:Int)))[u]:=by rw [Ac,A8 hltj]; rfl
      rw [egd] at e2 e3
      obtain ⟨k1,k2,k3,k4⟩:=zdt hs1 gc (Cy hltj)
      generalize ht:(worth (goesOf ks (aheadOf (s0:Int)))[u].2).toNat=t at k1 k3
      have e3':Hz t1=some (.tup ((akey t).map kV)):=by rw [<- k3,kI_V]; exact e3
      have htL:t∈L:=by rw [<- ht]; exact cl.2 s0 (hrL s0 hsm) _ k4
      refine ⟨q1,_,rfl,SqT.of e2,rfl,_,_,rfl,_,_,rfl,rfl,?_⟩
      have dg2:DGet Hz wp (.ref b) (some (.int ((cnt ks i s0:Nat):Int))) := .inr ⟨wvs,akey s0,b,.inr ⟨o,hwz⟩,rfl,hbz,eval0.symm⟩
      have ddm:DGet Hz mo (.ref t1) (valV mvs' (akey t)):=DGet.t hmz e3'
      obtain ⟨nl1,nl2⟩:=nz.len
      generalize hG:(fun t=>Sm j t + cnt ks i s0 * (((goesOf ks (aheadOf (s0:Int))).take u).filter fun p=>decide ((worth p.2).toNat=t)).length)=G at nz
      have hval:=nz.val k1
      have fin:∀ gv:Int,gv=((G t:Nat):Int)->∃ a' H4,V.ref mo = .ref a'/\DPut Hz a' (.ref t1) (.int (gv + ((cnt ks i s0:Nat):Int))) H4/\(Same H H4/\H4 wp=some (.frz o (.dT wvs))/\H4 fo=some (.lst (cntL ks i))/\H4 b=some (.tup ((akey s0).map kV))/\H4 qv=some (.lst vv)/\GoesR H4 vv (goesOf ks (aheadOf (s0:Int)))/\∃ (mvs':List (List Key×V)) (ms':List Nat) (x6 x7:Option V),([some (.ref g),some (.int (n:Nat)),some (.ref wp),some (.ref fo),some (.int (0 + ((i:Nat):Int))),some (.ref mo),some (.ref b),some (.str (goesOf ks (aheadOf (s0:Int)))[u].1),some (.ref t1)]:L2.St) = [some (.ref g),some (.int (n:Nat)),some (.ref wp),some (.ref fo),some (.int (0 + ((i:Nat):Int))),some (.ref mo),some (.ref b),x6,x7]/\H4 mo=some (.dT mvs')/\NumR mvs' ms' (fun t=>Sm j t + cnt ks i s0 * (((goesOf ks (aheadOf (s0:Int))).take (u + 1)).filter fun p=>decide ((worth p.2).toNat=t)).length)/\∀ s∈ms',s∈L):=fun gv hgv=>by
       have ecast:gv + ((cnt ks i s0:Nat):Int)=((G t + cnt ks i s0:Nat):Int):=by rw [hgv]; omega
       rw [ecast]
       refine ⟨mo,_,rfl,DPut.t hmz e3' (Ae (by omega:mvs'.length < 1000) zaO),sz.put nmo0,by rw [zaf hwm]; exact hwz,by rw [zaf hfm]; exact hfz,?_,by rw [zaf hqm]; exact hqz,?_,_,addN ms' t,_,_,rfl,upd_same,?_,fun s hs => ?_⟩
       ·rw [zaf (fun z=>by rw [z,hmz] at hbz; cases hbz)]; exact hbz
       ·exact gz.mono fun qa ys z=>by rw [zaf (fun z2=>by rw [z2,hmz] at z; cases z)]; exact z
       ·have:=nz.put k1 (cnt ks i s0)
        refine cast ?_ this
        congr 1
        funext t'
        rw [<- hG,Cz hltj,C0,Ab,Au,Ck]
        dsimp only
        by_cases z:t'=t
        ·rw [if_pos z,if_pos (decide_eq_true (by rw [z]; exact ht)),Bf,P3,P2,J4]
        ·rw [if_neg z,if_neg (by rw [decide_eq_true_eq]; exact fun y=>z (by rw [<- y]; exact ht.symm ▸ rfl)),N4,F6]
       ·rcases addN_mem.mp hs with z | z
        ·exact hzL s z
        ·rw [z]; exact htL
      by_cases hin:t∈ms'
      ·rw [if_pos hin] at hval
       rw [hval] at ddm
       exact ⟨_,rfl,mo,rfl,.inr ⟨mvs',.inl hmz⟩,_,rfl,_,ddm,_,rfl,_,rfl,_,_,rfl,dg2,_,_,rfl,rfl,_,rfl,_,rfl,fin _ rfl⟩
      ·rw [if_neg hin] at hval
       rw [hval] at ddm
       exact ⟨_,rfl,mo,rfl,.inr ⟨mvs',.inl hmz⟩,_,rfl,_,ddm,_,rfl,_,rfl,_,_,rfl,dg2,_,_,rfl,rfl,_,rfl,_,rfl,fin _ (by rw [nz.2.2.2.2 t k1 hin]; rfl)⟩
     ·rintro σ Hz ⟨sz,hwz,hfz,hbz,hqz,gz,mvs',ms',x6'',x7'',rfl,hmz,nz,hzL⟩
      rw [hvl,C6] at nz
      refine ⟨sz,hwz,hfz,mvs',ms',_,_,_,rfl,hmz,?_,hzL⟩
      refine cast ?_ nz
      congr 1
      funext t
      rw [etk]
      congr 2
      unfold goN
      rw [<- zbM hs1 gc,Ep,A1]
      rfl
   ·rintro σ Hy ⟨sy,hwy,hfy,mvs,ms,x5',x6',x7',rfl,hmo,nm,hmL⟩
    refine ⟨hwy,?_⟩
    have sz:Same H (upd Hy wp (.dT wvs)):=sy.put nwp
    rw [hwl] at nm
    have nm':NumR mvs ms (cnt ks (i + 1)):=by
     refine ⟨nm.1,nm.2.1,nm.2.2.1,fun t ht => ?_,fun t ht hno => ?_⟩
     all_goals
      have ht':t < 128:=by first | exact ht | exact nm.2.2.1 t ht
      have e:Sm rs.length t=cnt ks (i + 1) t:=by
       rw [zgQ gc ndk nek ht']
       show ((rs.take rs.length).map fun s=>cnt ks i s * goN ks s t).sum=_
       rw [C6]
       have hz:∀ s,s < 128->s ∉ rs->cnt ks i s=0:=nr.2.2.2.2
       unfold sumR
       have p1:(Af 128).Perm (rs ++ (Af 128).filter fun s=>decide (s ∉ rs)):=by
        refine (D1 Mp ?_).mpr fun s => ?_
        ·refine Bz.mpr ⟨nr.2.1,Mp.sublist Ci,fun u hu v hv e => ?_⟩
         have:=of_decide_eq_true (Az.mp hv).2
         exact this (e ▸ hu)
        ·rw [An,Az,Ax,decide_eq_true_eq]
         constructor
         ·intro h1
          by_cases y:s∈rs
          ·exact .inl y
          ·exact .inr ⟨h1,y⟩
         ·rintro (y | y)
          ·exact ltr s y
          ·exact y.1
       rw [(p1.map _).sum_nat,Ao,Fa]
       have:(((Af 128).filter fun s=>decide (s ∉ rs)).map fun s=>cnt ks i s * goN ks s t).sum=0:=zeC fun s hs=>by
        obtain ⟨a1,a2⟩:=Az.mp hs
        rw [hz s (Ax.mp a1) (of_decide_eq_true a2),Hm]
       rw [this,F6]
     ·rw [<- e]; exact nm.2.2.2.1 t ht
     ·rw [<- e]; exact nm.2.2.2.2 t ht hno
    have hmo':upd Hy wp (.dT wvs) mo=some (.dT mvs):=by rw [zaf hwm.symm]; exact hmo
    have hfo':upd Hy wp (.dT wvs) fo=some (.lst (cntL ks i)):=by rw [zaf hfw]; exact hfy
    generalize upd Hy wp (.dT wvs)=H5 at sz hmo' hfo' ⊢
    refine ⟨_,rfl,?_⟩
    refine ⟨_,rfl,.inl ⟨rfl,_,SqL.of hfo'⟩,_,rfl,mo,rfl,.inr ⟨mvs,.inl hmo'⟩,bigr rfl,fun te nte => ?_⟩
    have s5:Same H5 (upd H5 te (.tup [])):=Same.new nte
    have hte:upd H5 te (.tup []) te=some (.tup ((akey 0).map kV)):=by
     rw [upd_same]
     unfold akey
     rw [kI_V,show aheadOf ((0:Nat):Int) = [] by decide]
     rfl
    have dg:=DGet.t (s5 _ _ hmo') hte
    have hval:=nm'.val (show 0 < 128 by decide)
    have hmo6:=s5 _ _ hmo'
    have hfo6:=s5 _ _ hfo'
    have s6:=sz.trans s5
    have dg':DGet (upd H5 te (.tup [])) mo (.ref te) (if 0∈ms then some (.int ((cnt ks (i + 1) 0:Nat):Int)) else none):=by rw [<- hval]; exact dg
    generalize upd H5 te (.tup [])=H6 at s6 hmo6 hfo6 dg' ⊢
    have hlen:=cntL_len ks i
    have st:Same H (upd H6 fo (.lst (cntL ks i ++ [V.int ((cnt ks (i + 1) 0:Nat):Int)]))):=s6.put nfo0
    by_cases hin:0∈ms
    ·rw [if_pos hin] at dg'
     refine ⟨_,dg',fo,_,_,rfl,rfl,hfo6,Ae (by omega:(cntL ks i).length < 2000) (by decide),?_⟩
     exact ⟨st,mo,mvs,ms,_,_,_,_,_,rfl,upd_same.trans (congrArg (fun z=>some (HO.lst z)) (zfy ks i)),nmo0,by rw [zaf (Dm hfm)]; exact hmo6,nm',hmL⟩
    ·rw [if_neg hin] at dg'
     have e0:=nm'.2.2.2.2 0 (by decide) hin
     rw [e0] at st
     refine ⟨_,dg',fo,_,_,rfl,rfl,hfo6,Ae (by omega:(cntL ks i).length < 2000) (by decide),?_⟩
     refine ⟨st,mo,mvs,ms,_,_,_,_,_,rfl,?_,nmo0,by rw [zaf (Dm hfm)]; exact hmo6,nm',hmL⟩
     rw [upd_same,<- zfy,e0]
     rfl
  ·rintro σ Hx ⟨sx,wp,wvs,rs,x3,x4,x5,x6,x7,rfl,hfo,nwp,hwp,nr,hrL⟩
   rw [zbL,show ((n:Nat):Int).toNat=n by omega] at hfo
   exact ⟨_,rfl,q fo Hx sx nfo0 hfo⟩
theorem zh6 {ks:List (Str×List Int)} (nd:(ks.map (·.1)).Nodup) {i:Nat} {k:Str×List Int} (h:ks[i]?=some k):cGet (ks.take i) k.1=none:=by
 rw [get_none]
 intro hm
 obtain ⟨c,hc,e⟩:=A7.mp hm
 obtain ⟨j,hj,ej⟩:=Ei hc
 have hi:=(Ah.mp h).1
 have hj':j < i:=by
  have:=hj
  rw [Cf] at this
  omega
 have e1:(ks.map (·.1))[j]?=some k.1:=by
  rw [Ad,A8 (by omega)]
  rw [Gn] at ej
  rw [ej]
  exact congrArg some e
 have e2:(ks.map (·.1))[i]?=some k.1:=by rw [Ad,h]; rfl
 have:=(Mi (by rw [A1]; omega) nd).mp (e1.trans e2.symm)
 omega
noncomputable def sp_mkbook (C:A3):Sp:=fun vs H Q _=>∃ (a:A3) (ws:List V) (ks:List (Str×List Int)),vs = [.ref a]/\H a=some (.lst ws)/\Drawn (fun _=>True) H ws ks/\ks.length<=8 /\
 ∀ b l G past H',Same H H'->H b=none->H l=none->(∀ x,G x->H x=none)->Bk C G H' b l ks past->past.length=ks.length->Q (.ref b) H'
theorem zg9:FnScope ["_law_kinds","_law_book_here","_law_word_here","_law_teeth_here"] ["_law_kinds"] (defScope s_book):=⟨rfl,rfl,rfl,by decide +kernel,rfl,by decide +kernel,by decide +kernel⟩
theorem ok_mkbook {ea:Nat->A3} {C:A3} (D:DefAt K mg "_law_book" s_book) (T:Bn mg) (BA:BookAt K C) (C_Book:Maker P w K mg base "Book" C CX0 1 ["self"] (sp_init C)) (M_put:Method P w K mg base C "put" (CX1 P w) 3 ["self","name","teeth"] (sp_put (K:=K) ea C)):Callee P w K mg base "_law_book" 4 ["_law_kinds"] (sp_mkbook C):=by
 refine D.callee zg9 (fun _ _ _ _ _ _=>ln1 fun _=>rfl) (fun vs H Q E h => ?_) (fun f cdv A outer s H vs Q E hr h => ?_)
 ·obtain ⟨a,ws,ks,rfl,_⟩:=h
  rfl
 ·obtain ⟨a,ws,ks,rfl,ha,dr,hk8,q⟩:=h
  have S:=zg9
  have hu:=zck hr
  have B_cls:=BA.cls
  have hlen:=dr.rows.length
  refine ⟨_,zab (zah (i:=1) S.nd rfl (Aj rfl) (pe_mk0 C_Book (hr.mono (by decide)) (by first | exact zdI | exact pass_try | exact zbb | exact zay) rfl))
  (zab (zaZ B8 rfl (zau (pv 0)) (zgs rfl (zaX (zak (i:=2) S.nd rfl (Aj rfl)) (zaX (zak (i:=3) S.nd rfl (Aj rfl)) (zcs))))
   (zae (zaJ (zfN (pv 1) B_cls M_put (hr.mono (by decide)) (by first | exact zdI | exact pass_try | exact zbb | exact zay) (zaa (pv 2) (zaa (zbn zbI rfl T.n_list Hv (zaa (pv 3) zad)) zad))))))
  (zae (zai (pv 1)))),?_⟩
  refine fun b dx nb ndx ndb=>⟨b,dx,rfl,upd_same,fun H1 l d m nl nd B=>⟨rfl,?_⟩⟩
  have hlb:l≠b:=fun z=>by rw [z,upd_same] at nl; cases nl
  have nl0:H l=none:=by
   rw [zaf hlb] at nl
   by_cases z:l=dx
   ·rw [z]; exact ndx
   ·rw [zaf z] at nl; exact nl
  have hdb:d≠b:=fun z=>by rw [z,upd_same] at nd; cases nd
  have nd0:H d=none:=by
   rw [zaf hdb] at nd
   by_cases z:d=dx
   ·rw [z]; exact ndx
   ·rw [zaf z] at nd; exact nd
  have s1:Same H H1:=fun x o e=>m.keep x o (by rw [zaf (zao e nb),zaf (zao e ndx)]; exact e) (zao e nb) (zao e nb)
  refine ⟨_,rfl,_,rfl,⟨_,SqL.of (s1 _ _ ha)⟩,?_⟩
  refine zbA (zaj K a ws) (fun i σ H2=>Same H H2/\∃ G past x2 x3,σ = [some (.ref a),some (.ref b),x2,x3]/\Bk C G H2 b l (ks.take i) past/\past.length=i/\∀ x,G x->H x=none) ⟨s1,_,[],_,_,rfl,B,rfl,fun x g=>by rw [show x=d from g]; exact nd0⟩ (fun i σ H2 _ h=>SqL.of (h.1 _ _ ha)) ?_ ?_
  ·rintro i x σ H2 hx ⟨s2,G,past,x2,x3,rfl,B2,hp,hG⟩
   obtain ⟨k,qa,t,hk,rfl,hq,ht⟩:=(dr.same s2).rows.get hx
   have hi:i < ks.length:=(Ah.mp hk).1
   obtain ⟨hkn,hkg⟩:=dr.good k (Br hk)
   obtain ⟨dx2,d2,hb2,_⟩:=id B2.ins
   refine ⟨qa,_,rfl,SqL.of hq,rfl,_,_,rfl,_,_,rfl,rfl,?_⟩
   refine ⟨_,rfl,b,dx2,_,rfl,hb2,rfl,_,rfl,_,rfl,t,_,rfl,.inl (SqL.of ht),fun p np => ?_⟩
   have s3:Same H2 (upd H2 p (.lst (k.2.map V.int))):=Same.new np
   refine ⟨b,l,G,_,past,k.1,p,k.2,rfl,B2.same s3,SqL.of upd_same,?_,?_,?_⟩
   ·exact big (by have:=zgx hkn; omega)
   ·have:=zgH hkg; omega
   have hlt:(ks.take i).length=i:=by rw [Cf]; omega
   have e:putD (ks.take i) past k.1 k.2 = .ok (ks.take (i + 1)):=by
    unfold putD full
    rw [if_neg (by rw [hkn]; decide),if_neg (by rw [zgG hkg]; decide),zh6 dr.nd hk,if_neg (by simp),if_neg (by omega),if_neg (by omega),zfM (zh6 dr.nd hk),zis hkg,zaA hk]
   rw [e]
   intro H4 G4 m4 B4
   refine ⟨fun x o e'=>m4.keep x o (s3 _ _ (s2 _ _ e')) (zao e' nb) (zao e' nl0),G4,_,_,_,rfl,B4,by rw [Ab,Bf,hp],fun x g => ?_⟩
   rcases m4.new x g with g | g
   ·exact hG x g
   ·exact (s2.trans s3).free g
  ·rintro σ H2 ⟨s2,G,past,x2,x3,rfl,B2,hp,hG⟩
   rw [E1 (by omega)] at B2
   exact ⟨_,rfl,q b l G past H2 s2 nb nl0 hG B2 (by omega)⟩
noncomputable def sp_numbers (K:At):Sp:=fun vs H Q _=>∃ (a b:A3) (xs ys:List Int),vs = [.ref a,.ref b]/\H a=some (.lst (xs.map V.int))/\SqL K H b (ys.map V.int)/\ys.length<=100000/\Q (.bl (decide (xs=ys))) H
theorem list_neq {xs ys:List Int} (hl:xs.length=ys.length) {i:Nat} {x y:Int} (hx:xs[i]?=some x) (hy:ys[i]?=some y) (h:¬ x=y):¬ xs=ys:=by
 intro z
 subst z
 rw [hx] at hy
 cases hy
 exact h rfl
theorem zed:FnScope ["_law_found","_law_due","_law_k"] ["_law_found","_law_due"] (defScope s_numbers):=⟨rfl,rfl,rfl,by decide +kernel,rfl,by decide +kernel,by decide +kernel⟩
theorem ok_numbers (D:DefAt K mg "_law_numbers" s_numbers) (T:Bn mg) (C_whole:Callee P w K mg base "_law_whole" 1 ["_law_found"] sp_whole):Callee P w K mg base "_law_numbers" 2 ["_law_found","_law_due"] (sp_numbers K):=by
 refine D.callee zed (fun _ _ _ _ _ _=>ln2 fun _ _=>rfl) (fun vs H Q E h => ?_) (fun f cdv A outer s H vs Q E hr h => ?_)
 ·obtain ⟨a,b,xs,ys,rfl,_⟩:=h
  rfl
 ·obtain ⟨a,b,xs,ys,rfl,ha,hb,hl,q⟩:=h
  have S:=zed
  refine ⟨_,zab (zaF (PW.pt (zfJ (za8 (zbl (zal (zbQ "list") rfl T.n_isinstance Ew (zaa (pv 0) (zaa (zcu (v := .ty "list") rfl T.n_list Hv rfl) zad))))) (zdF (zap zfO (zal zar rfl T.n_len Bw (zaa (pv 0) zad)) (zal zar rfl T.n_len Bw (zaa (pv 1) zad)) (zav _)))))
   (zae (zai (zbJ)))
   (zan))
  (zab (zaZ B8 rfl (zbm rfl T.n_range (zaa (zal zar rfl T.n_len Bw (zaa (pv 1) zad)) zad)) (zak (i:=2) S.nd rfl (Aj rfl))
   (zae (zaF (PW.pt (zfJ (za8 (zbl (zaz C_whole (hr.mono (by decide)) rfl (zaa (zat zaq (pv 0) (pv 2) (fun _ _=>rfl)) zad)))) (zdF (zap zfO (zat zaq (pv 0) (pv 2) (fun _ _=>rfl)) (zat zaq (pv 1) (pv 2) (fun _ _=>rfl)) (zav _)))))
    (zae (zai (zbJ)))
    (zan))))
  (zae (zai (zbJ)))),?_⟩
  refine ⟨_,rfl,_,_,true,rfl,.lst ha,rfl,_,rfl,?_⟩
  refine iteF ?_
  refine ⟨_,rfl,_,_,rfl,.inl (SqL.of ha),_,rfl,_,_,rfl,.inl hb,rfl,_,rfl,?_⟩
  rw [A1,A1]
  refine ite2 (fun hc => ?_) (fun hc => ?_)
  ·have:¬ xs=ys:=fun z=>by
    subst z
    simp at hc
   rw [decide_eq_false this] at q
   exact q
  ·have hxy:xs.length=ys.length:=by
    have:(xs.length:Int)=ys.length:=by simpa using hc
    omega
   refine ⟨_,rfl,_,_,rfl,.inl hb,_,rfl,?_,?_,?_⟩
   ·rw [A1]; omega
   ·rw [A1]; omega
   rw [A1]
   refine zbA (zaT 0 (ys.length:Int).toNat) (fun i σ H2=>H2=H/\xs.take i=ys.take i/\∃ x2,σ = [some (.ref a),some (.ref b),x2]) ⟨rfl,by simp,_,rfl⟩ (fun _ _ _ _ _=>trivial) ?_ ?_
   ·rintro i x σ H2 hx ⟨rfl,ht,x2,rfl⟩
    have hi:i < (ys.length:Int).toNat:=by
     have:=(Ah.mp hx).1
     simpa using this
    rw [Ad,Ch hi] at hx
    cases hx
    have hiy:i < ys.length:=by omega
    have hix:i < xs.length:=by omega
    have atx:atI (xs.map V.int) (0 + ((i:Nat):Int))=some (V.int xs[i]):=by
     rw [Ga]
     refine zax ?_
     rw [Ad,A8 hix]
     rfl
    have aty:atI (ys.map V.int) (0 + ((i:Nat):Int))=some (V.int ys[i]):=by
     rw [Ga]
     refine zax ?_
     rw [Ad,A8 hiy]
     rfl
    refine ⟨_,rfl,_,rfl,_,_,_,_,rfl,rfl,SqL.of ha,atx,_,rfl,_,rfl,?_⟩
    refine iteF ?_
    refine ⟨_,rfl,_,rfl,_,_,_,_,rfl,rfl,SqL.of ha,atx,_,rfl,_,rfl,_,_,_,_,rfl,rfl,hb,aty,rfl,_,rfl,?_⟩
    refine ite2 (fun hc => ?_) (fun hc => ?_)
    ·have hne:¬ xs[i]=ys[i]:=by simpa using hc
     rw [decide_eq_false (list_neq hxy (A8 hix) (A8 hiy) hne)] at q
     exact q
    ·have he:xs[i]=ys[i]:=by simpa using hc
     refine ⟨rfl,?_,_,rfl⟩
     rw [zaA (A8 hix),zaA (A8 hiy),ht,he]
   ·rintro σ H2 ⟨rfl,ht,x2,rfl⟩
    have:xs=ys:=by
     rw [A1,B0] at ht
     rwa [E1 (by omega),E1 (by omega)] at ht
    rw [decide_eq_true this] at q
    exact q
noncomputable def sp_laying:Sp:=fun vs H Q _=>∃ (q:A3) (a:Int) (x:Str),vs = [.ref q]/\H q=some (.tup [.int a,.str x])/\Q (.bl true) H
theorem zfa:FnScope ["_law_one"] ["_law_one"] (defScope s_laying):=⟨rfl,rfl,rfl,by decide +kernel,rfl,by decide +kernel,by decide +kernel⟩
theorem ok_laying (D:DefAt K mg "_law_laying" s_laying) (T:Bn mg) (C_whole:Callee P w K mg base "_law_whole" 1 ["_law_found"] sp_whole):Callee P w K mg base "_law_laying" 2 ["_law_one"] sp_laying:=by
 refine D.callee zfa (fun _ _ _ _ _ _=>ln1 fun _=>rfl) (fun vs H Q E h => ?_) (fun f cdv A outer s H vs Q E hr h => ?_)
 ·obtain ⟨qa,a,x,rfl,_⟩:=h
  rfl
 ·obtain ⟨qa,a,x,rfl,hq,q⟩:=h
  have S:=zfa
  refine ⟨_,zab (zaF (PW.pt (zfJ (za8 (zbl (zal (zbQ "tuple") rfl T.n_isinstance Ew (zaa (pv 0) (zaa (zcu (v := .ty "tuple") rfl T.n_tuple boot_tuple rfl) zad))))) (zdF (zap zfO (zal zar rfl T.n_len Bw (zaa (pv 0) zad)) (zac) (zav _)))))
   (zae (zai (zbJ)))
   (zan))
  (zae (zai (zhi (zaz C_whole (hr.mono (by decide)) rfl (zaa (zat zbd (pv 0) (zac) (fun _ _=>rfl)) zad)) (zhf (zal (zbQ "str") rfl T.n_isinstance Ew (zaa (zat zbd (pv 0) (zac) (fun _ _=>rfl)) (zaa (zcu (v := .ty "str") rfl T.n_str boot_str rfl) zad))))))),?_⟩
  refine ⟨_,rfl,_,_,true,rfl,.tup hq,rfl,_,rfl,?_⟩
  refine iteF ?_
  refine ⟨_,rfl,_,_,rfl,.inr (SqT.of hq),rfl,_,rfl,?_⟩
  refine iteF ?_
  refine ⟨_,rfl,_,_,_,_,rfl,rfl,SqT.of hq,at0,a,rfl,_,rfl,?_⟩
  refine iteT ?_
  exact ⟨_,rfl,_,_,_,_,rfl,rfl,SqT.of hq,at1,_,_,true,rfl,.str x,rfl,q⟩
noncomputable def sp_layings:Sp:=fun vs H Q _=>∃ (p:A3) (ws:List V),vs = [.ref p]/\H p=some (.lst ws)/\(∀ (i:Nat) x,ws[i]?=some x->∃ q a s,x = .ref q/\H q=some (.tup [.int a,.str s]))/\Q (.bl true) H
theorem zee:FnScope ["_law_found","_law_one"] ["_law_found"] (defScope s_layings):=⟨rfl,rfl,rfl,by decide +kernel,rfl,by decide +kernel,by decide +kernel⟩
theorem ok_layings (D:DefAt K mg "_law_layings" s_layings) (T:Bn mg) (C_laying:Callee P w K mg base "_law_laying" 2 ["_law_one"] sp_laying):Callee P w K mg base "_law_layings" 3 ["_law_found"] sp_layings:=by
 refine D.callee zee (fun _ _ _ _ _ _=>ln1 fun _=>rfl) (fun vs H Q E h => ?_) (fun f cdv A outer s H vs Q E hr h => ?_)
 ·obtain ⟨p,ws,rfl,_⟩:=h
  rfl
 ·obtain ⟨p,ws,rfl,hp,hw,q⟩:=h
  have S:=zee
  refine ⟨_,zab (zaF (za8 (zbl (zal (zbQ "list") rfl T.n_isinstance Ew (zaa (pv 0) (zaa (zcu (v := .ty "list") rfl T.n_list Hv rfl) zad)))))
   (zae (zai (zbJ)))
   (zan))
  (zab (zaZ B8 rfl (zau (pv 0)) (zak (i:=1) S.nd rfl (Aj rfl))
   (zae (zaF (za8 (zbl (zaz C_laying (hr.mono (by decide)) rfl (zaa (pv 1) zad))))
    (zae (zai (zbJ)))
    (zan))))
  (zae (zai (zbJ)))),?_⟩
  refine ⟨_,rfl,_,_,true,rfl,.lst hp,rfl,_,rfl,?_⟩
  refine iteF ?_
  refine ⟨_,rfl,_,rfl,⟨_,SqL.of hp⟩,?_⟩
  refine zbA (zaj K p ws) (fun i σ Hx=>Hx=H/\∃ x1,σ = [some (.ref p),x1]) ⟨rfl,_,rfl⟩ (fun i σ Hx _ h=>by rw [h.1]; exact SqL.of hp) ?_ ?_
  ·rintro i x σ Hx hx ⟨rfl,x1,rfl⟩
   obtain ⟨qa,a,x',rfl,e⟩:=hw i x hx
   refine ⟨_,rfl,qa,a,x',rfl,e,_,rfl,?_⟩
   refine iteF ?_
   exact ⟨rfl,_,rfl⟩
  ·rintro σ Hx ⟨rfl,x1,rfl⟩
   exact q
theorem at4 {x y z u:V}:atI [x,y,z,u] 0=some x/\atI [x,y,z,u] 1=some y/\atI [x,y,z,u] 2=some z/\atI [x,y,z,u] 3=some u:=⟨show atI _ ((0:Nat):Int)=_ from zax rfl,show atI _ ((1:Nat):Int)=_ from zax rfl,show atI _ ((2:Nat):Int)=_ from zax rfl,show atI _ ((3:Nat):Int)=_ from zax rfl⟩
theorem lays_each {H:Hp} {ws:List V} {nm:Nat->Str} {n:Nat} (r:LaysR H ws nm n):∀ (i:Nat) x,ws[i]?=some x->∃ q a s,x = .ref q/\H q=some (.tup [.int a,.str s]):=fun i x h=>by
 obtain ⟨j,_,q,e1,e2⟩:=Cw.rev r h
 exact ⟨q,_,_,e1,e2⟩
theorem zem {H:Hp} {ws:List V} {nm:Nat->Str} {n:Nat} (r:LaysR H ws nm n):∀ (i:Nat) x,ws[i]?=some x->∃ q a s,x = .ref q/\H q=some (.tup [.int a,.str s]):=fun i x h=>by
 obtain ⟨j,_,q,e1,e2⟩:=Cw.rev r h
 exact ⟨q,_,_,e1,e2⟩
noncomputable def sp_kept (C:A3):Sp:=fun vs H Q _=>∃ (b l pk r:A3) (G:A3->Prop) (cs:Combs) (past:List Combs) (ws wl:List V) (n:Nat) (nm0:Nat->Str),vs = [.ref b,.ref pk,.int (n:Nat),.ref r]/\Bk C G H b l cs past/\H pk=some (.lst ws)/\Drawn (fun _=>True) H ws cs/\n<=200/\0 < Wy (srt cs) n 0/\H r=some (.lst wl)/\LaysR H wl nm0 n /\
 ltS (namesOf nm0 n) (namesOf (fnm (srt cs) (A2 "") (Wy (srt cs)) n) n)=false/\∀ H',Same H H'->Q (.bl true) H'
theorem zg7:FnScope ["_law_book_here","_law_kinds","_law_length","_law_first","_law_fits","_law_found"] ["_law_book_here","_law_kinds","_law_length","_law_first"] (defScope s_kept):=⟨rfl,rfl,rfl,by decide +kernel,rfl,by decide +kernel,by decide +kernel⟩
theorem ok_kept {ea:Nat->A3} {C:A3} (D:DefAt K mg "_law_kept" s_kept) (T:Bn mg) (C_fits_flush:Callee1 P w K mg base "fits_flush" 5 ["book","length"] (sp_fitsf ea C)) (C_first_filling:Callee1 P w K mg base "first_filling" 5 ["book","length"] (sp_ffill ea C)) (C_layings:Callee P w K mg base "_law_layings" 3 ["_law_found"] sp_layings) (C_covers:Callee P w K mg base "_law_covers" 2 ["_law_kinds","_law_layings_here","_law_length"] sp_covers):Callee P w K mg base "_law_kept" 6 ["_law_book_here","_law_kinds","_law_length","_law_first"] (sp_kept C):=by
 refine D.callee zg7 (fun _ _ _ _ _ _=>ln4 fun _ _ _ _=>rfl) (fun vs H Q E h => ?_) (fun f cdv A outer s H vs Q E hr h => ?_)
 ·obtain ⟨b,l,pk,r,G,cs,past,ws,wl,n,nm0,rfl,_⟩:=h
  rfl
 ·obtain ⟨b,l,pk,r,G,cs,past,ws,wl,n,nm0,rfl,B,hpk,dr,hn,hw,hr0,lr0,hle,q⟩:=h
  have S:=zg7
  have pm:=zcc dr.nd
  obtain ⟨gcs,_⟩:=zb0 B
  have ne:∀ c∈srt cs,c.1≠A2 "" := fun c hc z=>by
   have:=(dr.good c (pm.mem_iff.mp hc)).1
   rw [z] at this
   exact absurd this (by decide +kernel)
  have nds:((srt cs).map (·.1)).Nodup:=(pm.map _).nodup_iff.mpr dr.nd
  have h0:0<=((n:Nat):Int)/\((n:Nat):Int)<=200:=⟨by omega,by omega⟩
  have h0':0<=((n:Nat):Int)/\((n:Nat):Int)<=1000000000000:=⟨by omega,by omega⟩
  have ek:((n:Nat):Int).toNat=n:=by omega
  refine ⟨_,zab (zah (i:=4) S.nd rfl (Aj rfl) (zba C_fits_flush (hr.mono (by decide)) (by first | exact pass_try | exact zbb | exact zay) rfl (zaa (pv 0) (zaa (pv 2) zad))))
  (zab (zaF (PW.pt (zfJ (za8 (zbl (zal (zbQ "bool") rfl T.n_isinstance Ew (zaa (pv 4) (zaa (zcu (v := .ty "bool") rfl T.n_bool boot_bool rfl) zad))))) (zdF (za8 (zbl (pv 4))))))
   (zae (zai (zbJ)))
   (zan))
  (zab (zah (i:=5) S.nd rfl (Aj rfl) (zba C_first_filling (hr.mono (by decide)) (by first | exact pass_try | exact zbb | exact zay) rfl (zaa (pv 0) (zaa (pv 2) zad))))
  (zab (zaF (PW.pt (zfJ (za8 (zbl (zaz C_layings (hr.mono (by decide)) rfl (zaa (pv 5) zad)))) (zdF (za8 (zbl (zaz C_covers (hr.mono (by decide)) rfl (zaa (pv 1) (zaa (pv 5) (zaa (pv 2) zad)))))))))
   (zae (zai (zbJ)))
   (zan))
  (zae (zai (zeK (op_cmS .LtE (.inr (.inl rfl)) hr.units) (zaM (own := ["_law_one"]) (caps := []) rfl ⟨rfl,rfl,rfl,rfl,trivial⟩ (zau (pv 5)) (fun _ _ _ _ _ _=>zak (i:=0) (zaK (by decide +kernel)) rfl (Aj rfl)) (fun _ _ _ _ _ _=>za2) (fun _ _ _ _ _ _=>zat (zdW K rfl) (pv 0) (zac) (fun _ _=>rfl))) (zaM (own := ["_law_one"]) (caps := []) rfl ⟨rfl,rfl,rfl,rfl,trivial⟩ (zau (pv 3)) (fun _ _ _ _ _ _=>zak (i:=0) (zaK (by decide +kernel)) rfl (Aj rfl)) (fun _ _ _ _ _ _=>za2) (fun _ _ _ _ _ _=>zat (zdW K rfl) (pv 0) (zac) (fun _ _=>rfl))) (zav _))))))),?_⟩
  refine ⟨_,rfl,_,rfl,b,l,G,cs,past,_,rfl,B,?_⟩
  rw [if_pos h0',ek,decide_eq_true ((zc8 gcs).mpr (Wy_pos.mp hw))]
  intro H1 s1
  refine ⟨_,rfl,_,_,true,rfl,.bl _,rfl,_,rfl,?_⟩
  refine iteF ?_
  refine ⟨_,rfl,_,rfl,?_⟩
  refine iteF ?_
  refine ⟨_,rfl,_,rfl,b,l,G,cs,past,_,rfl,B.same s1,?_⟩
  rw [if_pos h0,ek,if_pos hw]
  intro r2 wl2 H2 s2 nr2 hr2 lr2
  have s12:=s1.trans s2
  refine ⟨_,rfl,r2,wl2,rfl,hr2,zem lr2,_,rfl,?_⟩
  refine iteF ?_
  obtain ⟨c1,c2⟩:=zgJ gcs nds ne (ze7 (srt cs) (A2 "")) hw
  refine ⟨_,rfl,_,rfl,_,rfl,pk,r2,n,ws,wl2,cs,laysOf (fnm (srt cs) (A2 "") (Wy (srt cs)) n) n,rfl,s12 _ _ hpk,dr.same s12,hr2,zhr lr2,by omega,zgA pm (fun x hx=>(zcz c1 x hx).2),zew pm nds c2,zfl _ _,fun H3 s3=>⟨_,rfl,?_⟩⟩
  refine iteF ?_
  have s13:=s12.trans s3
  have lr3:LaysR H3 wl2 (fnm (srt cs) (A2 "") (Wy (srt cs)) n) n:=lr2.mono fun _ _ e=>s3 _ _ e
  have lr03:LaysR H3 wl nm0 n:=lr0.mono fun _ _ e=>s13 _ _ e
  generalize fnm (srt cs) (A2 "") (Wy (srt cs)) n=nm at lr3 hle
  have hr3:=s3 _ _ hr2
  have hr03:=s13 _ _ hr0
  refine ⟨_,rfl,_,rfl,⟨_,SqL.of hr3⟩,fun D hD => ?_⟩
  refine zcp (capv := []) (by rfl) (zaj K r2 wl2) (big (by have:=lr3.len; omega)) hD (fun H' s'=>SqL.of (s' _ _ hr3)) (fun _=>true) (fun j=>V.str (nm ((laid nm n).getD j 0))) (fun _ _ _=>nofun) (fun i x hx H R s' h=>h H (Same.refl _)) ?_ ?_
  ·intro j x hx _ H' R s' h
   obtain ⟨j',ej,qa,rfl,e2⟩:=Cw.rev lr3 hx
   refine ⟨_,rfl,_,_,_,_,rfl,rfl,SqT.of (s' _ _ e2),at1,?_⟩
   have:=h H' (Same.refl _)
   rw [Ac,show (laid nm n)[j]?=some j' from ej] at this
   exact this
  intro H4 s4 e4
  have e4:=zek (D9 lr3).symm e4
  refine ⟨_,rfl,_,rfl,⟨_,SqL.of (s4 _ _ hr03)⟩,fun D2 hD2 => ?_⟩
  refine zcp (capv := []) (by rfl) (zaj K r wl) (big (by have:=lr03.len; omega)) hD2 (fun H' s'=>SqL.of (s' _ _ (s4 _ _ hr03))) (fun _=>true) (fun j=>V.str (nm0 ((laid nm0 n).getD j 0))) (fun _ _ _=>nofun) (fun i x hx H R s' h=>h H (Same.refl _)) ?_ ?_
  ·intro j x hx _ H' R s' h
   obtain ⟨j',ej,qa,rfl,e2⟩:=Cw.rev lr03 hx
   refine ⟨_,rfl,_,_,_,_,rfl,rfl,SqT.of (s' _ _ (s4 _ _ e2)),at1,?_⟩
   have:=h H' (Same.refl _)
   rw [Ac,show (laid nm0 n)[j]?=some j' from ej] at this
   exact this
  intro H5 s5 e5
  have e5:=zek (D9 lr03).symm e5
  refine ⟨_,_,_,_,rfl,rfl,SqL.of (s5 _ _ e4),SqL.of e5,?_⟩
  have:cmS .LtE (namesOf nm n) (namesOf nm0 n)=true:=by
   show (!ltS (namesOf nm0 n) (namesOf nm n))=true
   rw [hle]; rfl
  rw [this]
  exact q H5 ((s13.trans s4).trans s5)
theorem one_kind {H0 He:Hp} {t q p:A3} (s:Same H0 He) (nt:He t=none) (nq:upd He t (.lst [.int 0]) q=none) (np:upd (upd He t (.lst [.int 0])) q (.lst [.str (A2 "a"),.ref t]) p=none) :
  Same H0 (upd (upd (upd He t (.lst [.int 0])) q (.lst [.str (A2 "a"),.ref t])) p (.lst [.ref q]))/\Drawn (fun _=>True) (upd (upd (upd He t (.lst [.int 0])) q (.lst [.str (A2 "a"),.ref t])) p (.lst [.ref q])) [.ref q] [(A2 "a",[0])]:=by
 have s2:=Same.new (o := .lst [.str (A2 "a"),.ref t]) nq
 have s3:=Same.new (o := .lst [.ref q]) np
 refine ⟨s.trans ((Same.new nt).trans (s2.trans s3)),⟨⟨q,t,rfl,s3 _ _ upd_same,s3 _ _ (s2 _ _ upd_same),trivial,trivial⟩,trivial⟩,by simp,fun k hk => ?_⟩
 rw [A5.mp hk]
 exact ⟨by decide +kernel,fun i=>i == 0,by decide,rfl⟩
noncomputable def spLaw (K:At):Sp:=fun vs H Q _=>∃ (a:A3) (ns:List Int),vs = [.ref a]/\SqL K H a (ns.map V.int)/\ns.length<=63/\∀ H',Q (.bl true) H'
theorem zhE (C:Combs) {k n:Nat} (h:k<=n):atI (cntL C n) ((k:Nat):Int)=some (.int ((cnt C k 0:Nat):Int)):=by
 refine zax ?_
 unfold cntL
 rw [Ad,Ch (by omega)]
 rfl
theorem cut_to36 (ws:List V) (n:Nat):cutV ws none (some (n:Int))=ws.take n:=by
 unfold cutV
 rw [HT.sIx_nat,HT.sIx_none]
 simp only [Ii,Li]
 rcases Nat.le_total n ws.length with h | h
 ·rw [Nc h]
 ·rw [Nat.min_eq_right h,C6,E1 h]
theorem first_more {C C':Combs} (g:GC C) (g':GC C') (nd':(C'.map (·.1)).Nodup) (ne':∀ c∈C',c.1≠A2 "") (o':Ord C') (h:∀ c∈C,c∈C') {n:Nat} (hw:0 < Wy C n 0) :
  0 < Wy C' n 0/\ltS (namesOf (fnm C (A2 "") (Wy C) n) n) (namesOf (fnm C' (A2 "") (Wy C') n) n)=false:=by
 have S:=ze7 C (A2 "")
 have S':=ze7 C' (A2 "")
 have hw':0 < Wy C' n 0:=Wy_pos.mpr (zdp h (Wy_pos.mp hw))
 refine ⟨hw',?_⟩
 have e1:∀ k (fl:Bool) p,bh (A2 "") (Wy C' k) (ro C' (Wy C') fl k) p=Wy C' k p.2.toNat:=fun k fl p=>by
  unfold bh ro
  cases fl <;> simp
 have e0:∀ k (fl:Bool),ro C (Wy C) fl k=Wy C k:=fun k fl=>by unfold ro; cases fl <;> rfl
 have:=fw_least g' nd' ne' o' S' hw' (f:=fun i=>(fw C (A2 "") (Wy C) n i).1) (nm:=fnm C (A2 "") (Wy C) n) (fl:=fun i=>(fw C (A2 "") (Wy C) n i).2) rfl rfl (fun i hi=>zgc h (zd0 g S hw hi).2.2) (fun i hi=>(zd0 g S hw hi).2.1) (fun i hi=>by
  rw [e1]
  have:=(zhv g S hw (i + 1) (by omega)).2
  rw [e0] at this
  refine Wy_pos.mpr (zdp h ?_)
  rw [show n - 1 - i=n - (i + 1) by omega]
  exact Wy_pos.mp this)
 rcases this with z | z
 ·rw [z]; exact zho _
 ·exact z.2
theorem zhR:FnScope ["_law_script","_law_kinds","_law_new","_law_book_here","_law_graph_here","_law_length","_law_ways","_law_due","_law_first","_law_ahead","_law_strip","_law_more"] ["_law_script"] (defScope s_law):=⟨rfl,rfl,rfl,by decide +kernel,rfl,by decide +kernel,by decide +kernel⟩
theorem ok_law {ea:Nat->A3} {C:A3} (D:DefAt K mg "law" s_law) (T:Bn mg) (BA:BookAt K C) (C_at:Callee P w K mg base "_law_at" 1 ["_law_script","_law_k"] (sp_at K)) (C_combs:Callee P w K mg base "_law_combs" 2 ["_law_script"] (sp_combs K)) (C_book:Callee P w K mg base "_law_book" 4 ["_law_kinds"] (sp_mkbook C)) (C_turned:Callee P w K mg base "_law_turned" 1 ["_law_kinds"] sp_turned) (C_graph:Callee P w K mg base "_law_graph" 3 ["_law_kinds","_law_begin"] sp_graph) (C_manyways:Callee P w K mg base "_law_manyways" 1 ["_law_graph_here","_law_length"] sp_manyways) (C_first_filling:Callee1 P w K mg base "first_filling" 5 ["book","length"] (sp_ffill ea C)) (C_layings:Callee P w K mg base "_law_layings" 3 ["_law_found"] sp_layings) (C_covers:Callee P w K mg base "_law_covers" 2 ["_law_kinds","_law_layings_here","_law_length"] sp_covers) (C_count_fillings:Callee1 P w K mg base "count_fillings" 5 ["book","length"] (sp_count ea C)) (C_fill_strip:Callee1 P w K mg base "fill_strip" 5 ["book"] (sp_strip C)) (M_put:Method P w K mg base C "put" (CX1 P w) 3 ["self","name","teeth"] (sp_put (K:=K) ea C)) (C_count_fillings_with:Callee1 P w K mg base "count_fillings_with" 5 ["book","name","length"] (sp_countw ea C)) (C_numbers:Callee P w K mg base "_law_numbers" 2 ["_law_found","_law_due"] (sp_numbers K)) (C_kept:Callee P w K mg base "_law_kept" 6 ["_law_book_here","_law_kinds","_law_length","_law_first"] (sp_kept C)) (M_undo:Method P w K mg base C "undo" (CX1 P w) 1 ["self"] (sp_bundo ea C)):Callee P w K mg base "law" 7 ["_law_script"] (spLaw K):=by
 refine D.callee zhR (fun _ _ _ _ _ _=>ln1 fun _=>rfl) (fun vs H Q E h => ?_) (fun f cdv A outer s H vs Q E hr h => ?_)
 ·obtain ⟨a,ns,rfl,_⟩:=h
  rfl
 ·obtain ⟨a,ns,rfl,hS,hl,q⟩:=h
  have S:=zhR
  have hu:=zck hr
  have B_cls:=BA.cls
  refine ⟨_,zab (zah (i:=1) S.nd rfl (Aj rfl) (zaz C_combs (hr.mono (by decide)) rfl (zaa (pv 0) zad)))
  (zbi (zaF (zap (zh1 hr.units) (pv 1) (zaB (zad)) (zav _))
   (zae (zah (i:=1) S.nd rfl (Aj rfl) (zaB (zaa (zaB (zaa (zaP) (zaa (zaB (zaa (zac) (zaa (zac) zad))) zad))) zad))))
   (zan))
  (zab (zah (i:=2) S.nd rfl (Aj rfl) (zat zaq (pv 1) (zct zbr (zac)) (fun _ _=>rfl)))
  (zab (zah (i:=3) S.nd rfl (Aj rfl) (zaz C_book (hr.mono (by decide)) rfl (zaa (zcU zdz (pv 1) (zdH) (zdG (zct zbr (zac)))) zad)))
  (zab (zah (i:=4) S.nd rfl (Aj rfl) (zaz C_graph (hr.mono (by decide)) rfl (zaa (zaz C_turned (hr.mono (by decide)) rfl (zaa (zcU zdz (pv 1) (zdH) (zdG (zct zbr (zac)))) zad)) (zaa (zbp (zad)) zad))))
  (zab (zah (i:=5) S.nd rfl (Aj rfl) (zaw zbo (zaw zb5 (zaz C_at (hr.mono (by decide)) rfl (zaa (pv 0) (zaa (zac) zad))) (zac)) (zac)))
  (zab (zah (i:=6) S.nd rfl (Aj rfl) (zaz C_manyways (hr.mono (by decide)) rfl (zaa (pv 4) (zaa (pv 5) zad))))
  (zbi (zcd B8 (PW.pt (zhd (zap zcj (zaw zbo (zaz C_at (hr.mono (by decide)) rfl (zaa (pv 0) (zaa (zac) zad))) (zac)) (zac) (zav _)) (zfK (zap zcj (zat zaq (pv 6) (pv 5) (fun _ _=>rfl)) (zac) (zav _)))))
   (zae (zah (i:=5) S.nd rfl (Aj rfl) (zaw zdm (pv 5) (zac)))))
  (zab (zah (i:=7) S.nd rfl (Aj rfl) (zaB (zaa (zat zaq (pv 6) (pv 5) (fun _ _=>rfl)) (zaa (zat zaq (zaz C_manyways (hr.mono (by decide)) rfl (zaa (zaz C_graph (hr.mono (by decide)) rfl (zaa (zaz C_turned (hr.mono (by decide)) rfl (zaa (pv 1) zad)) (zaa (zbp (zad)) zad))) (zaa (pv 5) zad))) (pv 5) (fun _ _=>rfl)) zad))))
  (zab (zah (i:=8) S.nd rfl (Aj rfl) (zaB (zad)))
  (zbi (zaF (zap zfP (zat zaq (pv 7) (zac) (fun _ _=>rfl)) (zac) (zav _))
   (zab (zah (i:=8) S.nd rfl (Aj rfl) (zba C_first_filling (hr.mono (by decide)) (by first | exact pass_try | exact zbb | exact zay) rfl (zaa (pv 3) (zaa (pv 5) zad))))
   (zae (zaF (PW.pt (zfJ (za8 (zbl (zaz C_layings (hr.mono (by decide)) rfl (zaa (pv 8) zad)))) (zdF (za8 (zbl (zaz C_covers (hr.mono (by decide)) rfl (zaa (zcU zdz (pv 1) (zdH) (zdG (zct zbr (zac)))) (zaa (pv 8) (zaa (pv 5) zad)))))))))
    (zae (zai (zbJ)))
    (zan))))
   (zan))
  (zab (zah (i:=9) S.nd rfl (Aj rfl) (zba C_count_fillings (hr.mono (by decide)) (by first | exact pass_try | exact zbb | exact zay) rfl (zaa (pv 3) (zaa (pv 5) zad))))
  (zab (zah (i:=10) S.nd rfl (Aj rfl) (zba C_fill_strip (hr.mono (by decide)) (by first | exact pass_try | exact zbb | exact zay) rfl (zaa (pv 3) zad)))
  (zab (zaJ (zfN (pv 3) B_cls M_put (hr.mono (by decide)) (by first | exact zdI | exact pass_try | exact zbb | exact zay) (zaa (zat zaq (pv 2) (zac) (fun _ _=>rfl)) (zaa (zbn zbI rfl T.n_list Hv (zaa (zat zaq (pv 2) (zac) (fun _ _=>rfl)) zad)) zad))))
  (zab (zah (i:=11) S.nd rfl (Aj rfl) (zba C_count_fillings_with (hr.mono (by decide)) (by first | exact pass_try | exact zbb | exact zay) rfl (zaa (pv 3) (zaa (zat zaq (pv 2) (zac) (fun _ _=>rfl)) (zaa (pv 5) zad)))))
  (zab (zaF (za8 (zbl (zaz C_numbers (hr.mono (by decide)) rfl (zaa (QE.h (zdl (zag (qe (pv 9)) (zag (qe (zba C_count_fillings (hr.mono (by decide)) (by first | exact pass_try | exact zbb | exact zay) rfl (zaa (pv 3) (zaa (pv 5) zad)))) (zag (qe (pv 11)) (zaQ)))))) (zaa (zaw zfg (pv 7) (zaB (zaa (zaw zdm (zat zaq (pv 7) (zac) (fun _ _=>rfl)) (zat zaq (pv 7) (zac) (fun _ _=>rfl))) zad))) zad)))))
   (zae (zai (zbJ)))
   (zan))
  (zbi (zaF (PW.pt (zhd (zap zfP (zat zaq (pv 7) (zac) (fun _ _=>rfl)) (zac) (zav _)) (zfK (za8 (zbl (zaz C_kept (hr.mono (by decide)) rfl (zaa (pv 3) (zaa (pv 1) (zaa (pv 5) (zaa (pv 8) zad))))))))))
   (zae (zai (zbJ)))
   (zan))
  (zbi (zaF (PW.pt (zhd (zap zcj (zat zbd (pv 10) (zac) (fun _ _=>rfl)) (zaP) (zav _)) (zfK (zap zfO (zat zbd (zba C_fill_strip (hr.mono (by decide)) (by first | exact pass_try | exact zbb | exact zay) rfl (zaa (pv 3) zad)) (zac) (fun _ _=>rfl)) (zaP) (zav _)))))
   (zae (zai (zbJ)))
   (zan))
  (zab (zaJ (zhX (pv 3) B_cls M_undo (hr.mono (by decide)) (by first | exact zdI | exact pass_try | exact zbb | exact zay)))
  (zae (zai (zaz C_numbers (hr.mono (by decide)) rfl (zaa (zaB (zaa (zba C_count_fillings (hr.mono (by decide)) (by first | exact pass_try | exact zbb | exact zay) rfl (zaa (pv 3) (zaa (pv 5) zad))) zad)) (zaa (zcU zdz (pv 7) (zdH) (zdG (zac))) zad))))))))))))))))))))))),?_⟩
  refine ⟨_,rfl,a,ns,rfl,hS,fun pk0 ks0 ws0 H0 s0 npk0 hpk0 dr0 hk80 => ?_⟩
  refine ⟨fun σ Hx=>Same H0 Hx/\∃ pk ws ks,σ = [some (.ref a),some (.ref pk),none,none,none,none,none,none,none,none,none,none]/\Hx pk=some (.lst ws)/\Drawn (fun _=>True) Hx ws ks/\ks.length<=8/\0 < ks.length,?_,?_⟩
  ·refine ⟨_,rfl,bigr rfl,fun le nle => ?_⟩
   have se:Same H0 (upd H0 le (.lst [])):=Same.new nle
   refine ⟨kindsD ks0,.list [],.lst (SqL.of (se _ _ hpk0)) (zfm (dr0.same se).rows),.lst (SqL.of upd_same) .nil,kinds_shaped (fun k hk=>(dr0.good k hk).1),nil_shaped,_,rfl,?_⟩
   rw [if_neg Aa,kinds_nil]
   refine ite2 (fun hz => ?_) (fun hz => ?_)
   ·refine ⟨bigr rfl,fun t1 nt1=>⟨bigr rfl,fun q1 nq1=>⟨bigr rfl,fun p1 np1 => ?_⟩⟩⟩
    have t1':=Same.new (o := .lst [.int 0,.int 2]) nt1
    have t2':=Same.new (o := .lst [.str (A2 "a"),.ref t1]) nq1
    have t3':=Same.new (o := .lst [.ref q1]) np1
    refine ⟨se.trans (t1'.trans (t2'.trans t3')),p1,[.ref q1],[(A2 "a",[0,2])],rfl,upd_same,⟨⟨⟨q1,t1,rfl,t3' _ _ upd_same,t3' _ _ (t2' _ _ upd_same),trivial,trivial⟩,trivial⟩,by simp,fun k hk => ?_⟩,by decide,by decide⟩
    rw [A5.mp hk]
    exact ⟨by decide +kernel,fun i=>i == 0 || i == 2,by decide,rfl⟩
   ·refine ⟨se,_,_,_,rfl,se _ _ hpk0,dr0.same se,hk80,?_⟩
    cases ks0 with
    | nil=>exact absurd rfl hz
    | cons k l=>exact Nat.succ_pos _
  rintro σ H1 ⟨s01,pk,ws,ks,rfl,hpk,dr,hk8,hk0⟩
  have s1:=s0.trans s01
  obtain ⟨kz,nw,rfl⟩:∃ kz nw,ks=kz ++ [nw]:=⟨ks.dropLast,ks.getLast (Is.mp hk0),(G3 _).symm⟩
  obtain ⟨wz,qn,tn,rfl,rz,hqn,htn,_,_⟩:=dr.rows.unsnoc
  have gc:GC (kz ++ [nw]):=fun c hc=>(dr.good c hc).2
  have gcz:GC kz:=fun c hc=>gc c (C9 _ hc)
  have nez:∀ c∈kz ++ [nw],c.1≠A2 "" := fun c hc z=>by
   have:=(dr.good c hc).1
   rw [z] at this
   exact absurd this (by decide +kernel)
  have ndz:(kz.map (·.1)).Nodup:=by have:=dr.nd; rw [Ao,Bz] at this; exact this.1
  have drz:Drawn (fun _=>True) H1 wz kz:=⟨rz,ndz,fun k hk=>dr.good k (C9 _ hk)⟩
  have hk7:kz.length<=7:=by rw [Ab,Bf] at hk8; omega
  refine ⟨_,rfl,_,rfl,_,_,_,_,rfl,rfl,SqL.of hpk,zhG wz _,?_⟩
  refine ⟨_,rfl,_,rfl,_,rfl,_,_,rfl,SqL.of hpk,fun p1 np1 => ?_⟩
  rw [zcy]
  have s2:Same H1 (upd H1 p1 (.lst wz)):=Same.new np1
  have hp1:upd H1 p1 (.lst wz) p1=some (.lst wz):=upd_same
  generalize upd H1 p1 (.lst wz)=H2 at s2 hp1 ⊢
  refine ⟨p1,wz,kz,rfl,hp1,drz.same s2,by omega,fun b l G past H3 s3 nb nl nG B hpl => ?_⟩
  have s23:=s2.trans s3
  obtain ⟨gzs,hz8⟩:=zb0 B
  have pmz:=zcc ndz
  have pm:=zcc dr.nd
  have nek:∀ c∈kz,c.1≠A2 "" := fun c hc=>nez c (C9 _ hc)
  have ewz:∀ k,Wy (srt kz) k 0=cnt (turnC kz) k 0:=fun k=>by rw [ze1 pmz,zih gcz ndz nek,zgP gcz ndz]
  have ewk:∀ k,Wy (srt (kz ++ [nw])) k 0=cnt (turnC (kz ++ [nw])) k 0:=fun k=>by rw [ze1 pm,zih gc dr.nd nez,zgP gc dr.nd]
  have turned:∀ {C:Combs},GC C->C.length<=8->(C.map (·.1)).Nodup->(∀ c∈C,c.1≠A2 "")->GC (turnC C)/\(turnC C).length<=8/\((turnC C).map (·.1)).Nodup/\∀ c∈turnC C,c.1≠A2 "" := fun {C} g h8 nd ne=>⟨zeA g,by unfold turnC; rw [A1]; exact h8,by rw [zbs]; exact nd,fun c hc=>by
   obtain ⟨d,hd,rfl⟩:=A7.mp hc
   exact ne d hd⟩
  obtain ⟨tz1,tz2,tz3,tz4⟩:=turned gcz (by omega) ndz nek
  obtain ⟨tk1,tk2,tk3,tk4⟩:=turned gc hk8 dr.nd nez
  refine ⟨_,rfl,_,rfl,_,rfl,_,_,rfl,SqL.of (s23 _ _ hpk),fun p2 np2 => ?_⟩
  rw [zcy]
  have s4:Same H3 (upd H3 p2 (.lst wz)):=Same.new np2
  have hp2:upd H3 p2 (.lst wz) p2=some (.lst wz):=upd_same
  generalize upd H3 p2 (.lst wz)=H4 at s4 hp2 ⊢
  have s24:=s23.trans s4
  refine ⟨p2,wz,kz,rfl,hp2,(drz.same s24).any.rows,gcz,by omega,fun tk wt H6 s6 htk kt => ?_⟩
  refine ⟨bigr rfl,fun te nte => ?_⟩
  have s7:Same H6 (upd H6 te (.tup [])):=Same.new nte
  have hte:upd H6 te (.tup []) te=some (.tup ((aheadOf ((0:Nat):Int)).map V.int)):=by
   rw [upd_same,show aheadOf ((0:Nat):Int) = [] by decide]; rfl
  have htk7:=s7 _ _ htk
  have kt7:=kt.same s7
  have s67:=(s4.trans s6).trans s7
  generalize upd H6 te (.tup [])=H7 at s67 hte htk7 kt7 ⊢
  refine ⟨tk,te,wt,turnC kz,0,rfl,htk7,kt7,tz2,tz1,by decide,hte,fun g kvs L H8 s8 ng hg gr ndL cl h0L => ?_⟩
  have s38:=s67.trans s8
  have s18:=s23.trans s38
  have sS8:=(s1.trans s18).seq hS
  have p61:(0:Int) < 61:=by decide
  have p2':(0:Int) < 2:=by decide
  refine ⟨_,rfl,a,ns,9,rfl,sS8,by decide,_,_,rfl,rfl,⟨by decide,by decide⟩,_,_,rfl,rfl,p61,?_⟩
  obtain ⟨lo,elo,hlo⟩:∃ lo:Nat,ns.getD (9:Int).toNat 0 / 2 % 61=(lo:Nat)/\lo < 61:=by
   have h1:=Hs (ns.getD (9:Int).toNat 0 / 2) (show (61:Int)≠0 by decide)
   have h2:=Gi (ns.getD (9:Int).toNat 0 / 2) p61
   exact ⟨(ns.getD (9:Int).toNat 0 / 2 % 61).toNat,by omega,by omega⟩
  show gName 5 (V.int (ns.getD (9:Int).toNat 0 / 2 % 61)) _ _ _
  rw [elo]
  refine ⟨_,rfl,_,rfl,g,kvs,turnC kz,L,lo,rfl,hg,gr,ndL,cl,h0L,tz1,tz2,tz3,tz4,by omega,fun pw H9 s9 npw hpw => ?_⟩
  have s39:=s38.trans s9
  have s19:=s18.trans s9
  have sS9:=s9.seq sS8
  have B9:=B.same s39
  refine ⟨fun σ Hx=>Same H9 Hx/\∃ k:Nat,k<=lo /\ σ = [some (.ref a),some (.ref pk),some (.ref qn),some (.ref b),some (.ref g),some (.int (k:Nat)),some (.ref pw),none,none,none,none,none],?_,?_⟩
  ·refine ⟨fun m σ Hx=>Same H9 Hx/\∃ k:Nat,m=k/\k<=lo /\ σ = [some (.ref a),some (.ref pk),some (.ref qn),some (.ref b),some (.ref g),some (.int (k:Nat)),some (.ref pw),none,none,none,none,none],⟨lo,Same.refl _,lo,rfl,A9 _,rfl⟩,?_⟩
   rintro m σ Hx ⟨sx,k,rfl,hk,rfl⟩
   refine ⟨_,rfl,a,ns,9,rfl,sx.seq sS9,by decide,_,_,rfl,rfl,p2',rfl,_,rfl,?_⟩
   refine ite2 (fun _ => ?_) (fun _ => ?_)
   ·refine ⟨_,rfl,_,rfl,_,_,_,_,rfl,rfl,SqL.of (sx _ _ hpw),zhE _ hk,rfl,_,rfl,?_⟩
    rw [zhC]
    refine ite2 (fun hz => ?_) (fun _ => ?_)
    ·have hz:cnt (turnC kz) m 0=0:=by have:=of_decide_eq_true hz; omega
     have hm0:m≠0:=fun z=>by rw [z,zc3,if_pos rfl] at hz; cases hz
     refine ⟨fun σ' H'=>∃ m',m' < m/\Same H9 H'/\∃ k:Nat,m'=k/\k<=lo /\ σ' = [some (.ref a),some (.ref pk),some (.ref qn),some (.ref b),some (.ref g),some (.int (k:Nat)),some (.ref pw),none,none,none,none,none],fun _ _ h=>h,?_⟩
     have e:((m:Nat):Int) - 1=((m - 1:Nat):Int):=by omega
     refine ⟨_,rfl,_,_,rfl,rfl,m - 1,by omega,sx,m - 1,rfl,by omega,?_⟩
     rw [<- e]
     rfl
    ·exact ⟨sx,_,hk,rfl⟩
   ·exact ⟨sx,_,hk,rfl⟩
  rintro σ H10 ⟨s10,k,hk,rfl⟩
  have hpw10:=s10 _ _ hpw
  have s110:=s19.trans s10
  refine ⟨_,rfl,_,rfl,_,_,_,_,rfl,rfl,SqL.of hpw10,zhE _ hk,?_⟩
  refine ⟨_,rfl,pk,wz ++ [.ref qn],kz ++ [nw],rfl,s110 _ _ hpk,(dr.same s110).any.rows,gc,hk8,fun tk' wt' H11 s11 htk' kt' => ?_⟩
  refine ⟨bigr rfl,fun te' nte' => ?_⟩
  have s12:Same H11 (upd H11 te' (.tup [])):=Same.new nte'
  have hte':upd H11 te' (.tup []) te'=some (.tup ((aheadOf ((0:Nat):Int)).map V.int)):=by
   rw [upd_same,show aheadOf ((0:Nat):Int) = [] by decide]; rfl
  have htk'12:=s12 _ _ htk'
  have kt'12:=kt'.same s12
  have s1012:=s11.trans s12
  generalize upd H11 te' (.tup [])=H12 at s1012 hte' htk'12 kt'12 ⊢
  refine ⟨tk',te',wt',turnC (kz ++ [nw]),0,rfl,htk'12,kt'12,tk2,tk1,by decide,hte',fun g' kvs' L' H13 s13 ng' hg' gr' ndL' cl' h0L' => ?_⟩
  refine ⟨_,rfl,g',kvs',turnC (kz ++ [nw]),L',k,rfl,hg',gr',ndL',cl',h0L',tk1,tk2,tk3,tk4,by omega,fun pw' H14 s14 npw' hpw' => ?_⟩
  refine ⟨_,rfl,_,_,_,_,rfl,rfl,SqL.of hpw',zhE _ (A9 k),bigr rfl,fun pd npd => ?_⟩
  have s15:Same H14 (upd H14 pd (.lst [V.int ((cnt (turnC kz) k 0:Nat):Int),V.int ((cnt (turnC (kz ++ [nw])) k 0:Nat):Int)])):=Same.new npd
  have hpd:upd H14 pd (.lst [V.int ((cnt (turnC kz) k 0:Nat):Int),V.int ((cnt (turnC (kz ++ [nw])) k 0:Nat):Int)]) pd=some (.lst [V.int ((cnt (turnC kz) k 0:Nat):Int),V.int ((cnt (turnC (kz ++ [nw])) k 0:Nat):Int)]):=upd_same
  have s1014:=(s1012.trans s13).trans s14
  have B14:=B9.same (s10.trans s1014)
  have liv:∀ {Hy:Hp},Bk C G Hy b l kz past->∀ {p:A3},Hy p=none->p≠l:=fun Bx p np z=>by
   obtain ⟨vs,e2,_⟩:=Bx.lst
   rw [z,e2] at np
   cases np
  have hpdl:=liv B14 npd
  generalize upd H14 pd (.lst [V.int ((cnt (turnC kz) k 0:Nat):Int),V.int ((cnt (turnC (kz ++ [nw])) k 0:Nat):Int)])=H15 at s15 hpd ⊢
  rw [<- ewz,<- ewk] at hpd
  have s1015:=s1014.trans s15
  have s115:=s110.trans s1015
  have B15:=B14.same s15
  refine ⟨bigr rfl,fun pf npf => ?_⟩
  have hpfl:=liv B15 npf
  have s16:Same H15 (upd H15 pf (.lst [])):=Same.new npf
  generalize upd H15 pf (.lst [])=H16 at s16 ⊢
  have B16:=B15.same s16
  have hpd16:=s16 _ _ hpd
  have h0:0<=((k:Nat):Int)/\((k:Nat):Int)<=200:=⟨by omega,by omega⟩
  have ek:((k:Nat):Int).toNat=k:=by omega
  have nds:((srt kz).map (·.1)).Nodup:=(pmz.map _).nodup_iff.mpr ndz
  have nes:∀ c∈srt kz,c.1≠A2 "" := fun c hc=>nek c (pmz.mem_iff.mp hc)
  have s116:=s115.trans s16
  refine ⟨fun σ Hx=>Same H16 Hx/\∃ r:A3,σ = [some (.ref a),some (.ref pk),some (.ref qn),some (.ref b),some (.ref g),some (.int (k:Nat)),some (.ref pw),some (.ref pd),some (.ref r),none,none,none]/\r≠l/\(0 < Wy (srt kz) k 0->∃ wl,Hx r=some (.lst wl)/\LaysR Hx wl (fnm (srt kz) (A2 "") (Wy (srt kz)) k) k),?_,?_⟩
  ·refine ⟨_,rfl,_,_,_,_,rfl,rfl,SqL.of hpd16,at0,_,_,rfl,rfl,_,rfl,?_⟩
   refine ite2 (fun hw => ?_) (fun hw => ?_)
   ·have hw:0 < Wy (srt kz) k 0:=by have:=of_decide_eq_true hw; omega
    refine ⟨_,rfl,_,rfl,b,l,G,kz,past,_,rfl,B16,?_⟩
    rw [if_pos h0,ek,if_pos hw]
    intro r wl H17 s17 nr hr17 lr
    refine ⟨_,rfl,r,wl,rfl,hr17,zem lr,_,rfl,?_⟩
    refine iteF ?_
    obtain ⟨c1,c2⟩:=zgJ gzs nds nes (ze7 (srt kz) (A2 "")) hw
    refine ⟨_,rfl,_,rfl,_,rfl,_,_,rfl,SqL.of (s17 _ _ (s116 _ _ hpk)),fun p3 np3 => ?_⟩
    rw [zcy]
    have s18':Same H17 (upd H17 p3 (.lst wz)):=Same.new np3
    have s1718:=s17.trans s18'
    refine ⟨_,rfl,_,rfl,p3,r,k,wz,wl,kz,laysOf (fnm (srt kz) (A2 "") (Wy (srt kz)) k) k,rfl,upd_same,drz.same (s116.trans s1718),s18' _ _ hr17,zhr (lr.mono fun _ _ e=>s18' _ _ e),by omega,zgA pmz (fun x hx=>(zcz c1 x hx).2),zew pmz nds c2,zfl _ _,fun H18 s18=>⟨_,rfl,?_⟩⟩
    have s1618:=s1718.trans s18
    exact iteF ⟨s1618,r,rfl,liv B16 nr,fun _=>⟨wl,s18 _ _ (s18' _ _ hr17),lr.mono fun _ _ e=>s18 _ _ (s18' _ _ e)⟩⟩
   ·exact ⟨Same.refl _,pf,rfl,hpfl,fun z=>absurd (decide_eq_true (show (0:Int) < ((Wy (srt kz) k 0:Nat):Int) by omega)) (by simpa using hw)⟩
  rintro σ H17 ⟨s17,r,rfl,hrl,hfirst⟩
  have B17:=B16.same s17
  refine ⟨_,rfl,_,rfl,b,l,G,kz,past,_,rfl,B17,?_⟩
  rw [if_pos h0,ek]
  intro H18 s18
  refine ⟨_,rfl,b,l,G,kz,past,rfl,B17.same s18,fun t H19 s19 sr19 => ?_⟩
  have s1719:=s18.trans s19
  have B19:=B17.same s1719
  have s119:=s116.trans (s17.trans s1719)
  obtain ⟨dx,dd,hb19,_⟩:=id B19.ins
  have hqn19:=s119 _ _ hqn
  have htn19:=s119 _ _ htn
  refine ⟨_,rfl,b,dx,_,rfl,hb19,rfl,_,rfl,_,_,_,_,rfl,rfl,SqL.of hqn19,at0,_,rfl,_,_,_,_,rfl,rfl,SqL.of hqn19,at1,tn,_,rfl,.inl (SqL.of htn19),fun p4 np4 => ?_⟩
  have s20:Same H19 (upd H19 p4 (.lst (nw.2.map V.int))):=Same.new np4
  obtain ⟨hnn,hng⟩:=dr.good nw (by simp)
  have hnone:cGet kz nw.1=none:=get_none.mpr fun z=>by
   have:=dr.nd
   rw [Ao,Bz] at this
   exact this.2.2 _ z nw.1 (by simp) rfl
  have hpast:past.length<=7:=by omega
  refine ⟨b,l,G,kz,past,nw.1,p4,nw.2,rfl,B19.same s20,SqL.of upd_same,big (by have:=zgx hnn; omega),by have:=zgH hng; omega,?_⟩
  have e:putD kz past nw.1 nw.2 = .ok (kz ++ [nw]):=by
   unfold putD full
   rw [if_neg (by rw [hnn]; decide),if_neg (by rw [zgG hng]; decide),hnone,if_neg (by simp),if_neg (by omega),if_neg (by omega),zfM hnone,zis hng]
  rw [e]
  generalize upd H19 p4 (.lst (nw.2.map V.int))=H20 at s20
  intro H21 G21 m21 B21
  have B20:=B19.same s20
  have s120:=s119.trans s20
  have off:∀ x,H1 x≠none->x≠b/\x≠l:=fun x hx=>by
   have:H2 x≠none:=fun z=>hx (by cases e:H1 x with | none=>rfl | some o=>rw [s2 x o e] at z; cases z)
   exact ⟨fun z=>this (z ▸ nb),fun z=>this (z ▸ nl)⟩
  have keep1:∀ x o,H1 x=some o->H21 x=some o:=fun x o e=>by
   obtain ⟨n1,n2⟩:=off x (by rw [e]; simp)
   exact m21.keep x o (s120 x o e) n1 n2
  have hpk21:=keep1 _ _ hpk
  have hqn21:=keep1 _ _ hqn
  have dr21:Drawn (fun _=>True) H21 (wz ++ [.ref qn]) (kz ++ [nw]):=⟨dr.rows.mono (fun x o _ e=>keep1 x o e) fun _ g=>g,dr.nd,dr.good⟩
  have s1520:=(s16.trans s17).trans (s1719.trans s20)
  have hpd21:=m21.lst B20 (s1520 _ _ hpd) hpdl
  have s1720:=s1719.trans s20
  have hfirst21:0 < Wy (srt kz) k 0->∃ wl,H21 r=some (.lst wl)/\LaysR H21 wl (fnm (srt kz) (A2 "") (Wy (srt kz)) k) k:=fun hw=>by
   obtain ⟨wl,e1,e2⟩:=hfirst hw
   exact ⟨wl,m21.lst B20 (s1720 _ _ e1) hrl,e2.mono fun q xs e=>m21.tup B20 (s1720 _ _ e)⟩
  have hget:(cGet (kz ++ [nw]) nw.1).isSome=true:=by rw [zb6 dr.nd (show nw∈kz ++ [nw] by simp)]; rfl
  obtain ⟨gks,_⟩:=zb0 B21
  have ndks:((srt (kz ++ [nw])).map (·.1)).Nodup:=(pm.map _).nodup_iff.mpr dr.nd
  have neks:∀ c∈srt (kz ++ [nw]),c.1≠A2 "" := fun c hc=>nez c (pm.mem_iff.mp hc)
  have sub:∀ c∈srt kz,c∈srt (kz ++ [nw]):=fun c hc=>pm.mem_iff.mpr (C9 _ (pmz.mem_iff.mp hc))
  have eww:=Ww_more dr.nd (nez nw (by simp)) k 0
  refine ⟨_,rfl,_,rfl,_,_,_,_,rfl,rfl,SqL.of hqn21,at0,_,rfl,b,l,G21,kz ++ [nw],past ++ [kz],nw.1,_,rfl,B21,?_⟩
  rw [if_pos hget,if_pos h0,ek]
  intro H22 s22
  refine ⟨_,rfl,_,rfl,_,rfl,b,l,G21,kz ++ [nw],past ++ [kz],_,rfl,B21.same s22,?_⟩
  rw [if_pos h0,ek]
  intro H23 s23'
  have s2123:=s22.trans s23'
  refine ⟨_,rfl,bigr rfl,fun pq npq => ?_⟩
  have s24':Same H23 (upd H23 pq (.lst [V.int ((Wy (srt kz) k 0:Nat):Int),V.int ((Wy (srt (kz ++ [nw])) k 0:Nat):Int),V.int ((Ww (srt (kz ++ [nw])) nw.1 k 0:Nat):Int)])):=Same.new npq
  have hpq:upd H23 pq (.lst [V.int ((Wy (srt kz) k 0:Nat):Int),V.int ((Wy (srt (kz ++ [nw])) k 0:Nat):Int),V.int ((Ww (srt (kz ++ [nw])) nw.1 k 0:Nat):Int)]) pq=some (.lst [V.int ((Wy (srt kz) k 0:Nat):Int),V.int ((Wy (srt (kz ++ [nw])) k 0:Nat):Int),V.int ((Ww (srt (kz ++ [nw])) nw.1 k 0:Nat):Int)]):=upd_same
  generalize upd H23 pq (.lst [V.int ((Wy (srt kz) k 0:Nat):Int),V.int ((Wy (srt (kz ++ [nw])) k 0:Nat):Int),V.int ((Ww (srt (kz ++ [nw])) nw.1 k 0:Nat):Int)])=H24 at s24' hpq ⊢
  have s2124:=s2123.trans s24'
  have hpd24:=s2124 _ _ hpd21
  refine ⟨_,rfl,_,rfl,_,_,_,_,rfl,rfl,SqL.of hpd24,at1,_,rfl,_,_,_,_,rfl,rfl,SqL.of hpd24,at0,_,_,rfl,rfl,bigr rfl,fun ps nps => ?_⟩
  have s25:Same H24 (upd H24 ps (.lst [V.int (((Wy (srt (kz ++ [nw])) k 0:Nat):Int) - ((Wy (srt kz) k 0:Nat):Int))])):=Same.new nps
  have hps:upd H24 ps (.lst [V.int (((Wy (srt (kz ++ [nw])) k 0:Nat):Int) - ((Wy (srt kz) k 0:Nat):Int))]) ps=some (.lst [V.int (((Wy (srt (kz ++ [nw])) k 0:Nat):Int) - ((Wy (srt kz) k 0:Nat):Int))]):=upd_same
  refine ⟨_,_,_,_,rfl,rfl,s25 _ _ hpd24,hps,bigr rfl,fun pt npt => ?_⟩
  have s26:=Same.new (H:=upd H24 ps (.lst [V.int (((Wy (srt (kz ++ [nw])) k 0:Nat):Int) - ((Wy (srt kz) k 0:Nat):Int))])) (o:=HO.lst ([V.int ((Wy (srt kz) k 0:Nat):Int),V.int ((Wy (srt (kz ++ [nw])) k 0:Nat):Int)] ++ [V.int (((Wy (srt (kz ++ [nw])) k 0:Nat):Int) - ((Wy (srt kz) k 0:Nat):Int))])) npt
  refine ⟨pq,pt,[((Wy (srt kz) k 0:Nat):Int),((Wy (srt (kz ++ [nw])) k 0:Nat):Int),((Ww (srt (kz ++ [nw])) nw.1 k 0:Nat):Int)],[((Wy (srt kz) k 0:Nat):Int),((Wy (srt (kz ++ [nw])) k 0:Nat):Int),((Wy (srt (kz ++ [nw])) k 0:Nat):Int) - ((Wy (srt kz) k 0:Nat):Int)],rfl,s26 _ _ (s25 _ _ hpq),SqL.of upd_same,Bv (show 3<=100000 by decide) (A9 _),?_⟩
  rw [decide_eq_true (show _=_ by rw [show ((Ww (srt (kz ++ [nw])) nw.1 k 0:Nat):Int)=((Wy (srt (kz ++ [nw])) k 0:Nat):Int) - ((Wy (srt kz) k 0:Nat):Int) by omega])]
  refine ⟨_,rfl,?_⟩
  refine iteF ?_
  have s2126:=(s2124.trans s25).trans s26
  generalize hH26:upd (upd H24 ps (.lst [V.int (((Wy (srt (kz ++ [nw])) k 0:Nat):Int) - ((Wy (srt kz) k 0:Nat):Int))])) pt _=H26 at s2126 ⊢
  clear s26 s25 hps hH26
  have hpd26:=s2126 _ _ hpd21
  have B26:=B21.same s2126
  refine ⟨fun σ Hx=>Same H26 Hx /\ σ = [some (.ref a),some (.ref pk),some (.ref qn),some (.ref b),some (.ref g),some (.int (k:Nat)),some (.ref pw),some (.ref pd),some (.ref r),some (.int ((Wy (srt kz) k 0:Nat):Int)),some (.ref t),some (.int ((Ww (srt (kz ++ [nw])) nw.1 k 0:Nat):Int))],?_,?_⟩
  ·refine ⟨_,rfl,_,_,_,_,rfl,rfl,SqL.of hpd26,at0,_,_,rfl,rfl,_,rfl,?_⟩
   refine ite2 (fun hw => ?_) (fun _=>⟨Same.refl _,rfl⟩)
   have hw:0 < Wy (srt kz) k 0:=by have:=of_decide_eq_true hw; omega
   obtain ⟨wl,e1,e2⟩:=hfirst21 hw
   obtain ⟨hw',hle⟩:=first_more gzs gks ndks neks (srt_ord dr.nd) sub hw
   refine ⟨_,rfl,_,rfl,_,rfl,_,rfl,b,l,pk,r,G21,kz ++ [nw],past ++ [kz],wz ++ [.ref qn],wl,k,_,rfl,B26,s2126 _ _ hpk21,dr21.same s2126,by omega,hw',s2126 _ _ e1,e2.mono fun _ _ e=>s2126 _ _ e,hle,fun H27 s27=>⟨_,rfl,?_⟩⟩
   exact iteF ⟨s27,rfl⟩
  rintro σ H27 ⟨s27,rfl⟩
  have B27:=B26.same s27
  have keepT:∀ q xs,H19 q=some (.tup xs)->H27 q=some (.tup xs):=fun q xs e=>s27 _ _ (s2126 _ _ (m21.tup B20 (s20 _ _ e)))
  refine ⟨fun σ Hx=>Same H27 Hx /\ σ = [some (.ref a),some (.ref pk),some (.ref qn),some (.ref b),some (.ref g),some (.int (k:Nat)),some (.ref pw),some (.ref pd),some (.ref r),some (.int ((Wy (srt kz) k 0:Nat):Int)),some (.ref t),some (.int ((Ww (srt (kz ++ [nw])) nw.1 k 0:Nat):Int))],?_,?_⟩
  ·rcases sr19 with ⟨m',st,n,pl,wl,sd,ht,hpl',la⟩ | ⟨m',j,pr,wl,hfix,hz,e1,e2,e3,ht,hpr,rn⟩
   ·refine ⟨_,rfl,_,_,_,_,rfl,rfl,SqT.of (keepT _ _ ht),at4.1,rfl,_,rfl,?_⟩
    refine iteT ?_
    refine ⟨_,rfl,b,l,G21,kz ++ [nw],past ++ [kz],rfl,B27,fun t2 H28 s28 sr28 => ?_⟩
    rcases sr28 with ⟨m2,st2,n2,pl2,wl2,sd2,ht2,_,_⟩ | ⟨m2,j,pr,wl2,hfix,hz,e1,e2,e3,ht2,hpr,rn⟩
    ·refine ⟨_,_,_,_,rfl,rfl,SqT.of ht2,at4.1,rfl,_,rfl,?_⟩
     exact iteF ⟨s28,rfl⟩
    ·exact absurd (zdp sub (ze3 gzs sd.1 sd.2.1 j)) (rch_none gks e1 (A9 _))
   ·refine ⟨_,rfl,_,_,_,_,rfl,rfl,SqT.of (keepT _ _ ht),at3s.1,rfl,_,rfl,?_⟩
    exact iteF ⟨Same.refl _,rfl⟩
  rintro σ H28 ⟨s28,rfl⟩
  have B28:=B27.same s28
  have s2128:=s2126.trans (s27.trans s28)
  obtain ⟨dx2,dd2,hb28,_⟩:=id B28.ins
  refine ⟨_,rfl,b,dx2,_,rfl,hb28,rfl,b,l,G21,kz ++ [nw],past ++ [kz],rfl,B28,.inr ⟨past,kz,rfl,fun H29 m29 B29 => ?_⟩⟩
  have hpd29:=m29.lst B28 (s2128 _ _ hpd21) hpdl
  refine ⟨_,rfl,_,rfl,b,l,G21,kz,past,_,rfl,B29,?_⟩
  rw [if_pos h0,ek]
  intro H30 s30
  refine ⟨bigr rfl,fun pu npu => ?_⟩
  have s31:Same H30 (upd H30 pu (.lst [V.int ((Wy (srt kz) k 0:Nat):Int)])):=Same.new npu
  have hpu:upd H30 pu (.lst [V.int ((Wy (srt kz) k 0:Nat):Int)]) pu=some (.lst [V.int ((Wy (srt kz) k 0:Nat):Int)]):=upd_same
  generalize upd H30 pu (.lst [V.int ((Wy (srt kz) k 0:Nat):Int)])=H31 at s31 hpu ⊢
  refine ⟨_,rfl,_,rfl,_,_,rfl,SqL.of (s31 _ _ (s30 _ _ hpd29)),fun pv npv => ?_⟩
  have s32:Same H31 (upd H31 pv (.lst (cutV [V.int ((Wy (srt kz) k 0:Nat):Int),V.int ((Wy (srt (kz ++ [nw])) k 0:Nat):Int)] none (some 1)))):=Same.new npv
  have ec:cutV [V.int ((Wy (srt kz) k 0:Nat):Int),V.int ((Wy (srt (kz ++ [nw])) k 0:Nat):Int)] none (some 1) = [V.int ((Wy (srt kz) k 0:Nat):Int)]:=cut_to36 _ 1
  refine ⟨pu,pv,[((Wy (srt kz) k 0:Nat):Int)],[((Wy (srt kz) k 0:Nat):Int)],rfl,s32 _ _ hpu,?_,Bv (show 1<=100000 by decide) (A9 _),?_⟩
  ·rw [ec]; exact SqL.of upd_same
  rw [decide_eq_true rfl]
  exact q _
end
theorem walk {l:Jj} {q:Av} {loose:List Str} {XP:(Str->Option A0)->Ce->Prop} {YP:Bu->Ce->Prop} {d:DefRec} {K:Pc->At} (hn:l.most=some 63) (hdf:d.params.defaults = [])
  (hY:∀ (w:Bu) (h:Ce),YP w h->(K w.params).In h)
  (F:∀ (w:Bu) (mg:Str->Option A0) (fa:A3) (h:Ce),(K w.params).In h->h.Ns mainGlobals mg->mg d.name=some (.ref fa) ->
   ∃ fd:Ej,(∀ (s:A4) (u:A0),K4 s fd ⟨[u],[]⟩ [("_law_script",u)])/\∀ base:Ce,(K w.params).In base->base.Ns mainGlobals mg->FnOk l.prog w (K w.params) mg base CX0 7 fa fd ["_law_script"] (spLaw (K w.params))) :
  Mn q loose XP YP l.row.toRowW d [] (fun f vs=>M0 f vs) :=
 L2.walk_of (n:=63) (k:=7) (x := "_law_script") (CX:=fun _=>CX0) (sp:=fun w=>spLaw (K w.params)) hn (by decide) hdf ⟨rfl,by decide,by decide⟩ hY F (fun _ _ a ns hl _ hS=>⟨a,ns,rfl,hS,hl,fun _=>rfl⟩) fun _ _ _ _ _ z=>z
theorem all {l:Jj} {w:Bu} {K:At} {h:Ce} {mg:Str->Option A0} {fa:A3} (X:K.In h) (G:h.Ns mainGlobals mg) (hfa:mg "law" = some (.ref fa)) (T:Bn mg)
  (V_MOST_COMBS:∃ t,mg "MOST_COMBS" = some (.int 8 t))
  (V_MOST_NAME:∃ t,mg "MOST_NAME" = some (.int 6 t))
  (V_MOST_TOOTH:∃ t,mg "MOST_TOOTH" = some (.int 7 t))
  (V_MOST_DEEDS:∃ t,mg "MOST_DEEDS" = some (.int 300 t))
  (V_SHAPES:∃ t,mg "SHAPES" = some (.int 128 t))
  (V_MOST_LENGTH:∃ t,mg "MOST_LENGTH" = some (.int 1000000000000 t))
  (V_MOST_FILLED:∃ t,mg "MOST_FILLED" = some (.int 200 t))
  {t_TOOTH_WORTH:A3} (G_TOOTH_WORTH:mg "TOOTH_WORTH" = some (.ref t_TOOTH_WORTH)) (TC_TOOTH_WORTH:tupChk K t_TOOTH_WORTH [1,2,4,8,16,32,64,128]=true)
  {C a0 a1 a2 a3 a4 a9 a10 a11 a13 a14:A3}
  (R0:mg "BadName" = some (.ref a0)) (X0:D7 K a0 valErr "ValueError.__new__" = true)
  (R1:mg "BadTeeth" = some (.ref a1)) (X1:D7 K a1 valErr "ValueError.__new__" = true)
  (R2:mg "NameTaken" = some (.ref a2)) (X2:D7 K a2 valErr "ValueError.__new__" = true)
  (R3:mg "BookFull" = some (.ref a3)) (X3:D7 K a3 valErr "ValueError.__new__" = true)
  (R4:mg "NoComb" = some (.ref a4)) (X4:D7 K a4 valErr "ValueError.__new__" = true)
  (R9:mg "DeedsFull" = some (.ref a9)) (X9:D7 K a9 valErr "ValueError.__new__" = true)
  (R10:mg "NothingDone" = some (.ref a10)) (X10:D7 K a10 valErr "ValueError.__new__" = true)
  (R11:mg "BadShape" = some (.ref a11)) (X11:D7 K a11 valErr "ValueError.__new__" = true)
  (R13:mg "BadLength" = some (.ref a13)) (X13:D7 K a13 valErr "ValueError.__new__" = true)
  (R14:mg "NoFilling" = some (.ref a14)) (X14:D7 K a14 valErr "ValueError.__new__" = true)
  (INIT:InitAt K mg C "Book" "Book.__init__" s_Book___init__) (BCHK:bookChk K C=true)
  (N_put:MethAt K C "Book" "put" s_Book_put)
  (N_undo:MethAt K C "Book" "undo" s_Book_undo)
  (N_names:MethAt K C "Book" "names" s_Book_names)
  (N_teeth:MethAt K C "Book" "teeth" s_Book_teeth)
  (N_check_comb:MethAt K C "Book" "check_comb" s_Book_check_comb)
  (N_set_comb:MethAt K C "Book" "set_comb" s_Book_set_comb)
  (N_do_deed:MethAt K C "Book" "do_deed" s_Book_do_deed)
  (D_shape_steps:DefAt K mg "shape_steps" s_shape_steps)
  (D_teeth_worth:DefAt K mg "teeth_worth" s_teeth_worth)
  (D_step_table:DefAt K mg "step_table" s_step_table)
  (D_rows_going_on:DefAt K mg "rows_going_on" s_rows_going_on)
  (D_narrow_row:DefAt K mg "narrow_row" s_narrow_row)
  (D_leads_on:DefAt K mg "leads_on" s_leads_on)
  (D_walk_round:DefAt K mg "walk_round" s_walk_round)
  (D_first_lasting_step:DefAt K mg "first_lasting_step" s_first_lasting_step)
  (D_shapes_behind:DefAt K mg "shapes_behind" s_shapes_behind)
  (D_rows_to_the_end:DefAt K mg "rows_to_the_end" s_rows_to_the_end)
  (D_filled_strip:DefAt K mg "filled_strip" s_filled_strip)
  (D_fill_strip:DefAt K mg "fill_strip" s_fill_strip)
  (D_fits_flush:DefAt K mg "fits_flush" s_fits_flush)
  (D_shortest_length:DefAt K mg "shortest_length" s_shortest_length)
  (D_least_lengths:DefAt K mg "least_lengths" s_least_lengths)
  (D_is_reached:DefAt K mg "is_reached" s_is_reached)
  (D_first_filling:DefAt K mg "first_filling" s_first_filling)
  (D_count_fillings:DefAt K mg "count_fillings" s_count_fillings)
  (D_count_fillings_with:DefAt K mg "count_fillings_with" s_count_fillings_with)
  (D_check_length:DefAt K mg "check_length" s_check_length)
  (D_ways_to_close:DefAt K mg "ways_to_close" s_ways_to_close)
  (D_ways_to_lay:DefAt K mg "ways_to_lay" s_ways_to_lay)
  (D_ways_from:DefAt K mg "ways_from" s_ways_from)
  (D_ways_behind:DefAt K mg "ways_behind" s_ways_behind)
  (D_lay_first:DefAt K mg "lay_first" s_lay_first)
  (D_first_open_step:DefAt K mg "first_open_step" s_first_open_step)
  (D_is_name:DefAt K mg "is_name" s_is_name)
  (D_is_small_letter:DefAt K mg "is_small_letter" s_is_small_letter)
  (D_are_teeth:DefAt K mg "are_teeth" s_are_teeth)
  (D_at:DefAt K mg "_law_at" s_at)
  (D_mixed:DefAt K mg "_law_mixed" s_mixed)
  (D_word:DefAt K mg "_law_word" s_word)
  (D_spare:DefAt K mg "_law_spare" s_spare)
  (D_menu:DefAt K mg "_law_menu" s_menu)
  (D_combs:DefAt K mg "_law_combs" s_combs)
  (D_book:DefAt K mg "_law_book" s_book)
  (D_turned:DefAt K mg "_law_turned" s_turned)
  (D_after:DefAt K mg "_law_after" s_after)
  (D_goes:DefAt K mg "_law_goes" s_goes)
  (D_graph:DefAt K mg "_law_graph" s_graph)
  (D_manyways:DefAt K mg "_law_manyways" s_manyways)
  (D_whole:DefAt K mg "_law_whole" s_whole)
  (D_laying:DefAt K mg "_law_laying" s_laying)
  (D_layings:DefAt K mg "_law_layings" s_layings)
  (D_teeth:DefAt K mg "_law_teeth" s_teeth)
  (D_covers:DefAt K mg "_law_covers" s_covers)
  (D_numbers:DefAt K mg "_law_numbers" s_numbers)
  (D_kept:DefAt K mg "_law_kept" s_kept)
  (D_law:DefAt K mg "law" s_law) :
  ∃ fd:Ej,(∀ (s:A4) (v:A0),K4 s fd ⟨[v],[]⟩ [("_law_script",v)])/\∀ base:Ce,K.In base->base.Ns mainGlobals mg->FnOk l.prog w K mg base CX0 7 fa fd ["_law_script"] (spLaw K):=by
 have BA:=book_of BCHK
 refine D_law.entry hfa (fun _ _ _ _ _ _ v=>rfl) fun base => ?_
 have m_check:=ok_check (P:=l.prog) (w:=w) (base:=base) (ea:=fun i => [a0,a1,a2,a3,a4,0,0,0,0,a9,a10,a11,0,a13,a14].getD i 0) N_check_comb T BA ⟨R4,X4⟩
 have m_do:=ok_do (P:=l.prog) (w:=w) (base:=base) (ea:=fun i => [a0,a1,a2,a3,a4,0,0,0,0,a9,a10,a11,0,a13,a14].getD i 0) N_do_deed T BA V_MOST_DEEDS ⟨R9,X9⟩
 have m_set:=ok_set (ea:=fun i => [a0,a1,a2,a3,a4,0,0,0,0,a9,a10,a11,0,a13,a14].getD i 0) N_set_comb T BA m_do
 have m_put:=ok_put (ea:=fun i => [a0,a1,a2,a3,a4,0,0,0,0,a9,a10,a11,0,a13,a14].getD i 0) N_put T BA V_MOST_COMBS ⟨R0,X0⟩ ⟨R1,X1⟩ ⟨R2,X2⟩ ⟨R3,X3⟩ (ok_name D_is_name T V_MOST_NAME (ok_small D_is_small_letter T)) (ok_teeth D_are_teeth T V_MOST_TOOTH) m_set
 have m_undo:=ok_bundo (P:=l.prog) (w:=w) (base:=base) (ea:=fun i => [a0,a1,a2,a3,a4,0,0,0,0,a9,a10,a11,0,a13,a14].getD i 0) N_undo T BA ⟨R10,X10⟩
 have m_names:=ok_names (P:=l.prog) (w:=w) (base:=base) N_names T BA
 have m_teeth:=ok_bteeth N_teeth T BA m_check
 have c_at:=ok_at (P:=l.prog) (w:=w) (base:=base) D_at T
 have c_whole:=ok_whole (P:=l.prog) (w:=w) (base:=base) D_whole T
 have c_word:=ok_word (P:=l.prog) (w:=w) (base:=base) D_word T
 have c_combs:=ok_combs D_combs T c_at (ok_mixed D_mixed T) c_word (ok_spare D_spare T) (ok_menu D_menu T)
 have c_book:L2.Callee l.prog w K mg base "_law_book" 4 ["_law_kinds"] (sp_mkbook C):=by
  obtain ⟨fi,fdi,mk,fu⟩:=INIT.ex
  exact ok_mkbook D_book T BA ⟨fi,fdi,mk,ok_init fu T BA,INIT.m,fu.binds (fun _ _ _ _ _ _=>ln1 fun _=>rfl)⟩ m_put
 have f_steps:=ok_steps (ea:=fun i => [a0,a1,a2,a3,a4,0,0,0,0,a9,a10,a11,0,a13,a14].getD i 0) D_shape_steps T BA V_SHAPES ⟨R11,X11⟩ (ok_worth D_teeth_worth T G_TOOTH_WORTH (tup_chk TC_TOOTH_WORTH)) m_names m_teeth
 have f_table:=ok_table D_step_table T V_SHAPES f_steps
 have f_rows:=ok_rows (P:=l.prog) (w:=w) (base:=base) D_rows_going_on T (ok_narrow D_narrow_row T (ok_leads D_leads_on T))
 have f_walk:=ok_walk (P:=l.prog) (w:=w) (base:=base) D_walk_round T (ok_first D_first_lasting_step T)
 have f_behind:=ok_behind (P:=l.prog) (w:=w) (base:=base) D_shapes_behind T
 have f_strip:=ok_strip D_fill_strip T f_table f_rows f_walk (ok_fstrip D_filled_strip T) (ok_toend D_rows_to_the_end T f_behind)
 have f_fits:=ok_fitsf (ea:=fun i => [a0,a1,a2,a3,a4,0,0,0,0,a9,a10,a11,0,a13,a14].getD i 0) D_fits_flush T V_MOST_LENGTH ⟨R13,X13⟩ f_table (ok_short D_shortest_length T V_SHAPES f_behind) (ok_least D_least_lengths T f_behind) (ok_reached D_is_reached T)
 have f_bw:=ok_behindw (P:=l.prog) (w:=w) (base:=base) D_ways_behind T
 have f_from:=ok_from D_ways_from T f_bw
 have f_close:=ok_close D_ways_to_close T f_from
 have f_chk:=ok_chk (P:=l.prog) (w:=w) (base:=base) (ea:=fun i => [a0,a1,a2,a3,a4,0,0,0,0,a9,a10,a11,0,a13,a14].getD i 0) D_check_length T V_MOST_FILLED ⟨R13,X13⟩
 have f_ffill:=ok_ffill (ea:=fun i => [a0,a1,a2,a3,a4,0,0,0,0,a9,a10,a11,0,a13,a14].getD i 0) D_first_filling T f_chk f_table f_close (ok_layf (ea:=fun i => [a0,a1,a2,a3,a4,0,0,0,0,a9,a10,a11,0,a13,a14].getD i 0) D_lay_first T ⟨R14,X14⟩ (ok_open D_first_open_step T f_bw))
 have f_count:=ok_count (ea:=fun i => [a0,a1,a2,a3,a4,0,0,0,0,a9,a10,a11,0,a13,a14].getD i 0) D_count_fillings T f_chk f_table f_close
 have f_countw:=ok_countw D_count_fillings_with T BA m_check f_chk f_table f_close (ok_layw D_ways_to_lay T f_from)
 have c_layings:=ok_layings D_layings T (ok_laying (P:=l.prog) (w:=w) (base:=base) D_laying T c_whole)
 have c_covers:=ok_covers (P:=l.prog) (w:=w) (base:=base) D_covers T (ok_lteeth D_teeth T)
 exact ok_law D_law T BA c_at c_combs c_book (ok_turned D_turned T) (ok_graph D_graph T (ok_goes D_goes T (ok_after D_after T))) (ok_manyways D_manyways T) f_ffill c_layings c_covers f_count f_strip m_put f_countw (ok_numbers D_numbers T c_whole) (ok_kept D_kept T f_fits f_ffill c_layings c_covers) m_undo
end K36
open PySem PySem.W PyProof.Rows
namespace PySem.W.Fast
def tw7385052117622323642:=True
def tw10856684822991386857:=True
def tw1789304031707877234:=True
def tw6121160713165619816:=True
def tw1921614071868826467:=True
def tw6153829751689498205:=True
def tw12213568801184760442:=True
def tw1931563615337682778:=True
def tw2119789088026819449:=True
def tw17707333019459629018:=True
def tw4768230077591481254:=True
def tw12652216653852102811:=True
def tw13017625705812926934:=True
def tw316485533297254751:=True
def tw4556215479563862469:=True
def tw1282287330579813264:=True
def tw1403343119261435896:=True
def tw6004434960978312552:=True
def tw17590300936223865026:=True
def tw2194529857583544526:=True
def tw10775341003408010028:=True
def tw10743508690100624418:=True
def tw16816873016581728806:=True
def tw15966047900337480376:=True
def tw16413996761425663837:=True
def tw10470030018318677082:=True
def tw10990065821590097520:=True
def tw8709010414997443995:=True
def tw11052322191966056154:=True
def tw11745347429196681731:=True
def tw14694882584309241760:=True
def tw16638782510521603886:=True
def tw16279700509403306200:=True
def tw17652303246797045159:=True
def tw4393484099943794981:=True
def tw6932713669164255517:=True
def tw1450372429001137435:=True
def tw107363893295912387:=True
def tw9072568500849000088:=True
def tw13530884270764088404:=True
def tw659314702292716408:=True
def tw2664890592357462481:=True
def tw14534885567046877954:=True
def tw15793342990838795035:=True
def tw14896585596633805242:=True
def tw12926970499913685816:=True
def tw8103680426556671353:=True
def tw5985913172201132103:=True
def tw14725748633487086982:=True
def tw1482286511523801185:=True
def tw1468748285924981182:=True
def tw1491386143278926794:=True
def tw497955481066401963:=True
def tw14930235735318620483:=True
def tw1235715243952770267:=True
def tw3477688506727403163:=True
def tw8846634962967498348:=True
def tw915644843340081428:=True
def tw17970955883003463013:=True
def tw518279148635023790:=True
def tw4639584275530992792:=True
def tw15806389967210765961:=True
def tw14839648469497727854:=True
def tw13727258285719797111:=True
def tw6623834418600513748:=True
def tw9148876574358395275:=True
def tw7297524214914877071:=True
def tw7808372011696766550:=True
def tw6224180260699841517:=True
def tw15305058797224919108:=True
def tw12432088053442933716:=True
def tw16675542276073073729:=True
def tw9494966943126870313:=True
def tw3482178109428586523:=True
def tw2148274059460448903:=True
def tw3615980685669749169:=True
def tw5952699202293025756:=True
def tw11648816662706746721:=True
def tw5785503454973471779:=True
def tw15507840207966157774:=True
def tw15544662707210749694:=True
def tw6040133616870417418:=True
def tw6757739419015578965:=True
def tw13671578912182272067:=True
def tw13686091372071471800:=True
def tw3519589021360546845:=True
def tw1485569423135171766:=True
def tw10243630099464374067:=True
def tw822855181721116321:=True
def tw8990949557833919454:=True
def tw4737791074714958376:=True
def tw9574538355607344529:=True
def tw13271003564883717034:=True
def tw4635179325559916510:=True
def tw48694236978788108:=True
def tw17487597456610898071:=True
def tw2953295702794446497:=True
def tw11899823768747653829:=True
def tw1381031796695091068:=True
def tw14595189777344544100:=True
def tw6806768845252259475:=True
def tw2079220014358485546:=True
def tw9868779750754377083:=True
def tw15355745470835586085:=True
def tw1072097054571303696:=True
def tw16005624377897784595:=True
def tw8734726572116363780:=True
def tw17225618962186283191:=True
def tw12313300088101205220:=True
def tw131291613712890181:=True
def tw16703108320261237695:=True
def tw16683938232504453494:=True
def tw14288671912308609337:=True
def tw2014887780299637534:=True
def tw116114475925059173:=True
def tw5575049769070577010:=True
def tw16955092746263246811:=True
def tw7917571792571715248:=True
def tw5643377194460162198:=True
def tw8574920871451636140:=True
def tw1985882558777084458:=True
def tw13100196799974407383:=True
def tw8141083455390757190:=True
def tw3659294364200287809:=True
def tw2351413318421367562:=True
def tw7023547753063647845:=True
def tw13420941956068449647:=True
def tw10326011873839286514:=True
def tw3974546579471072543:=True
def tw16691860711458986609:=True
def tw15722928466172628530:=True
def tw11337590952405869120:=True
def tw8061807310753452888:=True
def tw11023946352984238145:=True
def tw12029494515195172803:=True
def tw2590091024246612567:=True
def tw13433664047113047526:=True
def tw4560259404784049268:=True
def tw1879678610897601412:=True
def tw17008302045018970094:=True
def tw14084292217385105415:=True
def tw7712220623035761749:=True
def tw1433029283578820576:=True
def tw5263153797813345103:=True
def tw17510245645246011841:=True
def tw14661924628042338731:=True
def tw16339977506197025548:=True
def tw14728469389975262194:=True
def tw8441646244767452353:=True
def tw12373845334971231710:=True
def tw1501367374354212419:=True
def tw3194480568502449809:=True
def tw2738002239853616652:=True
def tw14897217675643835786:=True
def tw6171728859054034603:=True
def tw14812598259436698502:=True
def tw15968894033897515663:=True
def tw5650841309303948103:=True
def tw13989265104496268289:=True
def tw18346459330870874526:=True
def tw5168645600710089438:=True
def tw2799134317376574652:=True
def tw8304161387218463334:=True
def tw15454488707358969311:=True
def tw4550721711633184129:=True
def tw14075091096867793203:=True
def tw6359388738136163567:=True
def tw8465741167855575398:=True
def tw6026830666194992738:=True
def tw13092338170269586811:=True
def tw2294800728454919476:=True
def tw12278729964346867966:=True
def tw14246489711586480857:=True
def tw2290922841692651344:=True
def tw7724403392907657473:=True
def tw10908683926238171714:=True
def tw3748902073523475534:=True
def tw17230648706876758759:=True
def tw1155577125004606341:=True
def tw5538849472621658286:=True
def tw17231893199280221308:=True
def tw7321811090099731529:=True
def tw2099172735380147142:=True
def tw8364181248222970486:=True
def tw16671268166787511458:=True
def tw8433064694316404901:=True
def tw9003275248202700308:=True
def tw3113513701858864394:=True
def tw16537410747091546303:=True
def tw13981124768086904030:=True
def tw4011491855117938791:=True
def tw14104982454698510799:=True
def tw15136424787247157201:=True
def tw7262682845515552431:=True
def tw7197797747631136506:=True
def tw10473779398754256577:=True
def tw6775878598264084639:=True
def tw10458593865650012480:=True
def tw6736639098798062172:=True
def tw9720082967696425511:=True
def tw396343728094390485:=True
def tw10501430627498206658:=True
def tw6023844246084790004:=True
def tw681398729612898783:=True
def tw5642046983807832354:=True
def tw13616339708675467431:=True
def tw18217840595543286748:=True
def tw16667678596554866128:=True
def tw14434346360045789760:=True
def tw1556515653450165119:=True
def tw14517925012148746285:=True
def tw3469347039394502602:=True
def tw218938726187168845:=True
def tw17695742490455095077:=True
def tw10941860046083720354:=True
def tw6636070741853805610:=True
def tw9307261399884959226:=True
def tw2177704438632500334:=True
def tw4686229698761443034:=True
def tw6864629386450557351:=True
def tw15497736373008573623:=True
def tw5837691365345621210:=True
def tw4109086067469282591:=True
def tw6170515584222408160:=True
def tw123905037054681116:=True
def tw1487401140190907151:=True
def tw15434722764067562931:=True
def tw5470392422554327916:=True
def tw6688469360819751375:=True
def tw1820344900315752618:=True
def tw9244015194353356766:=True
def tw17074680296790071953:=True
def tw408810678221166764:=True
def tw10284509912752404595:=True
def tw15630118653767895288:=True
def tw9222534529379014519:=True
def tw8772396542660901321:=True
def tw17903572437804845059:=True
def tw17762222850033769221:=True
def tw3147530137702927440:=True
def tw159305589155840689:=True
def tw1833667306164636916:=True
def tw8499213714295162073:=True
def tw13924342554210059757:=True
def tw226748990611386273:=True
def tw7594637398962580203:=True
def tw12970660742400148130:=True
def tw15514070616170473145:=True
def tw13257994026725241787:=True
def tw3016056350740098064:=True
def tw13822217054512467508:=True
def tw17527001621176904752:=True
def tw8320176455787379723:=True
def tw10273200407745903579:=True
def tw15591785392284922318:=True
def tw5503482165472638728:=True
def tw1017647275764314523:=True
def tw7122751432763649150:=True
def tw17217005303480221713:=True
def tw2874114366521028061:=True
def tw17186229905246703324:=True
def tw8727045404110272604:=True
def tw8259278075682931401:=True
def tw12575406458401032658:=True
def tw5950729546569392653:=True
def tw6844298290949021585:=True
def tw17150128668067742106:=True
def tw12739573591319475417:=True
def tw2102801510124705386:=True
def tw14819609476964978555:=True
def tw12013811968368902575:=True
def tw8730304852605422203:=True
def tw640979315976388477:=True
def tw15718623509851283765:=True
def tw10213668548038012476:=True
def tw985774109625061044:=True
def tw6104573414412543356:=True
def tw12792733773543903657:=True
def tw12899499374013174678:=True
def tw558544272835291903:=True
def tw9811841548218892498:=True
def tw926427132940722819:=True
def tw10690230349454276501:=True
def tw6941001974215249105:=True
def tw4136769641087877232:=True
def tw17698617493877178888:=True
def tw6320702926562570633:=True
def tw10329619209101366903:=True
def tw8735723969750311857:=True
def tw1128825425568290501:=True
def tw16462797815259436664:=True
def tw17177575157801352831:=True
def tw7913279524501177240:=True
def tw2009474606200816870:=True
def tw2142946240009519144:=True
def tw7432217761875109275:=True
def tw12732474624478956525:=True
def tw1017721179792000709:=True
def tw6083747178961241090:=True
def tw6731159439477278882:=True
def tw4855456439157219388:=True
def tw4672666723724650134:=True
def tw1975661735418582509:=True
def tw3939394459245711764:=True
def tw15002040067110138189:=True
def tw13813953786767443100:=True
def tw14107033348707739307:=True
def tw9185370043290984327:=True
def tw15602454492291232679:=True
def tw15795533564200003920:=True
def tw9627466227107779150:=True
def tw1750911907472344645:=True
def tw10597773181982797493:=True
def tw13681898206813521318:=True
def tw13050950617757689006:=True
def tw17301555401209711934:=True
def tw13068338972138696208:=True
def tw6425234775518822407:=True
def tw1429359573221515960:=True
def tw2583534704280641444:=True
def tw14140749194434008654:=True
def tw9270821718469654340:=True
def tw583170665700491356:=True
def tw11405585129475058218:=True
def tw3455707649626919015:=True
def tw12210165867371853985:=True
def tw5050170046606586299:=True
def tw3285829385425976071:=True
def tw9179526808338881472:=True
def tw5751611277899473372:=True
def tw8695901278708369639:=True
def tw15524593086317064932:=True
def tw15542028826156193576:=True
def tw10425166793245071576:=True
def tw8376261944399432583:=True
def tw8821436283687960116:=True
def tw6133173883099235621:=True
def tw3743052096555846168:=True
def tw17592224183215611182:=True
def tw3353763929323974566:=True
def tw8525769739470561106:=True
def tw7590500358940234888:=True
def tw7868326878929749566:=True
def tw2632694260566643525:=True
def tw11618409731886407678:=True
def tw16363562037066910421:=True
def tw9047320155513058151:=True
def tw2574144931861472125:=True
def tw288272043431696673:=True
def tw15561201906946071710:=True
def tw14269626599835051842:=True
def tw17825446583221325851:=True
def tw10660606281944230529:=True
def tw8819326689442667350:=True
def tw12335198168174154273:=True
def tw14739535161974726709:=True
def tw14740044343320247899:=True
def tw5759782480210581958:=True
def tw14759702136757274770:=True
def tw7315810178422207692:=True
def tw6845832973182697411:=True
def tw10852075110293902169:=True
def tw6887478825954680606:=True
def tw16013460113856201127:=True
def tw14615754743027540829:=True
def tw1321981943060167609:=True
def tw6043391747553142800:=True
def tw1829881001310742408:=True
def tw12312639836989567222:=True
def tw16224799058450174392:=True
def tw17417595603254984141:=True
def tw16398317814965122274:=True
def tw12150669028475921563:=True
def tw14443619599602973140:=True
def tw2895402748537663148:=True
def tw16293962271653992090:=True
def tw11895700001245121614:=True
def tw2480464359542746783:=True
def tw17279695330842206727:=True
def tw15440431543255412487:=True
def tw8264718084610323821:=True
def tw1860568685613856793:=True
def tw10304802951433520473:=True
def tw5578426142725893543:=True
def tw8974061003506104323:=True
def tw7729484873846925609:=True
def tw5997267941950750514:=True
def tw11330678030349235452:=True
def tw8637046062012741326:=True
def tw13935800127653058214:=True
def tw2588366225878460486:=True
def tw13824147325235690689:=True
def tw1739700264263538422:=True
def tw15664744619899025921:=True
def tw543157755121917629:=True
def tw16796591002670437046:=True
def tw5320607870388704080:=True
def tw14699311298040586511:=True
def tw15879194269802470596:=True
def tw2659887958871546114:=True
def tw15888570516943666587:=True
def tw4869349647244926005:=True
def tw13395619509867502566:=True
def tw275203947569493660:=True
def tw7674533165909925787:=True
def tw2658437615436040277:=True
def tw17664921800480142435:=True
def tw8916609172689084850:=True
def tw13213051787592576498:=True
def tw11990139650018003799:=True
def tw1073624914854459598:=True
def tw12105318977084894885:=True
def tw11792022956275568172:=True
def tw4601161758002227329:=True
def tw17732649829838298654:=True
def tw8587371857662443606:=True
def tw10654057821335082011:=True
def tw6970149825497135557:=True
def tw4035061959526647510:=True
def tw10778152538283427734:=True
def tw16451583848979379009:=True
def tw13724375264540212692:=True
def tw10861012731236175629:=True
def tw8206713116429586485:=True
def tw13529337132259479391:=True
def tw16725745825281853111:=True
def tw910268755666310494:=True
def tw6636961257845421799:=True
def tw3410198070988896644:=True
def tw14112275051767760918:=True
def tw16617150654367178539:=True
def tw17567715231605638681:=True
def tw11871006327164984806:=True
def tw15327723394755986154:=True
def tw954891034887509348:=True
def tw7152728988645175345:=True
def tw8588012903426325527:=True
def tw5478916236461179580:=True
def tw2881088994040746959:=True
def tw14732140522085860537:=True
def tw16754091189607193742:=True
def tw6061128658995293006:=True
def tw10254523086865380863:=True
def tw3417090523530970182:=True
def tw4941932046163218840:=True
def tw11455558914956737979:=True
def tw4977940230403670693:=True
def tw16502038705863181944:=True
def tw10445110285233638126:=True
def tw4294056213501112035:=True
def tw3264369072169563933:=True
def tw18403640646293262873:=True
def tw12126930977123553674:=True
def tw12073596355465505466:=True
def tw15765867359456322999:=True
def tw18146497432715221451:=True
def tw4116404436994017507:=True
def tw2396810903638351665:=True
def tw13315053456553174044:=True
def tw12858901362885921089:=True
def tw4976603151967065850:=True
def tw15974191720060035219:=True
def tw3634697529898138296:=True
def tw15453229155587306214:=True
def tw8443243275620869147:=True
def tw405179275235253353:=True
def tw15931688373040635009:=True
def tw13993336428882161587:=True
def tw8662720190304259638:=True
def tw1018136606040043186:=True
def tw10095003460285776816:=True
def tw18328888578735879552:=True
def tw17680613028141636581:=True
def tw7988976571044085807:=True
def tw3138442567349647473:=True
def tw12699687971924203003:=True
def tw9424615745764189714:=True
def tw12335625515365997807:=True
def tw5566157677872666567:=True
def tw11985098633270568728:=True
def tw15562469849188383004:=True
def tw12600782480247176845:=True
def tw17225585533502918720:=True
def tw13964030912511139503:=True
def tw6308891690468127097:=True
def tw3606468675468895175:=True
def tw4329783737585274159:=True
def tw5824558629281618450:=True
def tw6463165947025030654:=True
def tw17801412118512647306:=True
def tw9332339264710169991:=True
def tw16600553707514685359:=True
def tw16509585026660808127:=True
def tw13690818262623929879:=True
def tw2460785126253344720:=True
def tw16754886645280910948:=True
def tw1053225773184566215:=True
def tw10354079720114731946:=True
def tw15876066957762961525:=True
def tw17690951611603951346:=True
def tw15163287786151469018:=True
def tw5761723205716912064:=True
def tw16422021448186029024:=True
def tw16237066992146865888:=True
def tw2550923328131504513:=True
def tw6293970080056014599:=True
def tw14019463273502460075:=True
def tw9819961825394035955:=True
def tw30047690761538439:=True
def tw18326411894682656339:=True
def tw12923225782876817637:=True
def tw6310213134563513746:=True
def tw17213398572520288932:=True
def tw11784631293506942500:=True
def tw16758572153317226800:=True
def tw2261912376324249142:=True
def tw6617684097744638230:=True
def tw5399611932235464000:=True
def tw8875243222816604657:=True
def tw2899540618892949271:=True
def tw7539800664413691456:=True
def tw16552992027771763212:=True
def tw3249302613590228856:=True
def tw7247813148602381244:=True
def tw7445378032989323163:=True
def tw11394068744313519826:=True
def tw1788290146721696192:=True
def tw6290545823642731799:=True
def tw9584251040009459582:=True
def tw14946613906317507219:=True
def tw14853172916725826969:=True
def tw13290407731813831834:=True
def tw1723742905133700631:=True
def tw15653599330155228092:=True
def tw538251345516187985:=True
def tw7981704969723868244:=True
def tw17622730077277632873:=True
def tw15371629910684026781:=True
def tw1122716275331591746:=True
def tw4725222685430734530:=True
def tw2883414338061591458:=True
def tw7558504120874487258:=True
def tw2342214548973721018:=True
def tw1763870912240219575:=True
def tw11558858507914277070:=True
def tw16343384664731942109:=True
def tw1541581326418284679:=True
def tw15284939440657976639:=True
def tw14531097831052755660:=True
def tw13014855454347656403:=True
def tw11628309875118781033:=True
def tw13487554332269219736:=True
def tw14238023781687855138:=True
def tw2388019481316295992:=True
def tw12208729233602366311:=True
def tw7395273440925059753:=True
def tw658796386029422380:=True
def tw14626666720410923054:=True
def tw10694197515365301983:=True
def tw5615581437644700597:=True
def tw7666796498944650130:=True
def tw11784290189924455478:=True
def tw3377464274347360274:=True
def tw10289232492737421890:=True
def tw12481269555471933648:=True
def tw12281691879039379108:=True
def tw736088816475084382:=True
def tw10311190546580470864:=True
def tw13158796166871605250:=True
def tw242130560338042239:=True
def tw10872931285142163474:=True
def tw15438539457329021630:=True
def tw9835634588128594045:=True
def tw9116878523288810700:=True
def tw9682401588365763767:=True
def tw5471649725732270450:=True
def tw14055016697686065199:=True
def tw4742898456101063094:=True
def tw17642592762847957734:=True
def tw10814397036811987844:=True
def tw1732668899936429100:=True
def tw5242581707944018563:=True
def tw9843483504356246002:=True
def tw2110420690592619750:=True
def tw9280740004269797065:=True
def tw6137652674881177521:=True
def tw1384198333914623995:=True
def tw17588516408183316975:=True
def tw14297343097062110250:=True
def tw16983078487546274591:=True
def tw10677814062021778988:=True
def tw6232268837409881640:=True
def tw9569497961132988688:=True
def tw9892693334359124985:=True
def tw128044762589667030:=True
def tw6135320775581801688:=True
def tw5633003897035353763:=True
def tw12578010976770578953:=True
def tw11811993632062750032:=True
def tw13858779886762491313:=True
def tw18175541278363698355:=True
def tw15050613518215908513:=True
def tw5459564887637228031:=True
def tw2239641593349910650:=True
def tw38985628412723675:=True
def tw9844242305182446031:=True
def tw2379002793501857861:=True
def tw3845185302596550470:=True
def tw8004745467757327185:=True
def tw16197591629422666240:=True
def tw12554779358348165809:=True
def tw17839695075498334141:=True
def tw16772579547155502427:=True
def tw9434448719503946628:=True
def tw2323221341605353432:=True
def tw15158289235241946981:=True
def tw4191230786877596843:=True
def tw9709587178771367935:=True
def tw13081259700431063871:=True
def tw11765871568809187340:=True
def tw12334348558343174566:=True
def tw14572617530650506346:=True
def tw17515682734258897732:=True
def tw5368966501773045618:=True
def tw17444855687545103044:=True
def tw17189142942908707880:=True
def tw8821940864289819983:=True
def tw3428138652045166574:=True
def tw11225518027117117547:=True
def tw6953457818013305110:=True
def tw14686135112386009880:=True
def tw3455265950119821221:=True
def tw14371499837042728841:=True
def tw6208469508839639148:=True
def tw13417135185235978830:=True
def tw15067977664677524627:=True
def tw13370257063128474685:=True
def tw17545636132883519023:=True
def tw4342971465005225795:=True
def tw1832743658236639200:=True
def tw6058537689428160938:=True
def tw17625179603150916900:=True
def tw4131720233473665632:=True
def tw9291123068290125275:=True
def tw6245355721477244073:=True
def tw6710850997805964548:=True
def tw1677209278730786845:=True
def tw18286391495911905250:=True
def tw7530035170264025637:=True
def tw7811390235511477745:=True
def tw1286813574352626164:=True
def tw9381636596011852304:=True
def tw17856795000633055784:=True
def tw11425915421269707050:=True
def tw3676579970099514899:=True
def tw13697072547363142997:=True
def tw18298027350340409943:=True
def tw13547901791695045253:=True
def tw14979403074779524620:=True
def tw7435876663571883690:=True
def tw12365232848714600274:=True
def tw16100084065094909958:=True
def tw2643491494826477656:=True
def tw7462022173980778400:=True
def tw8763834507111304552:=True
def tw4723012253658424137:=True
def tw11267844320683497789:=True
def tw7294752386082891848:=True
def tw9986351136435390329:=True
def tw9134571442091771975:=True
def tw3192052275785932121:=True
def tw1657918346316760331:=True
def tw2465016416191362803:=True
def tw3747536458605740479:=True
def tw8064362385949513068:=True
def tw15696436813784432460:=True
def tw4868390745829187395:=True
def tw1840205055320179763:=True
def tw6630441567950746037:=True
def tw11429269915896766605:=True
def tw606101603476126328:=True
def tw5430508169506968966:=True
def tw9512665936471392833:=True
def tw10529380111096876374:=True
def tw7023957831121293629:=True
def tw7849825605435080465:=True
def tw2989518118640881468:=True
def tw4200412870604427200:=True
def tw18078384975906775396:=True
def tw11121589666190991858:=True
def tw15831378879649396245:=True
def tw2302684281229033058:=True
def tw7108603681763093631:=True
def tw10412830705562173835:=True
def tw13527623691897261360:=True
def tw18361246894389900056:=True
def tw9660593969081270098:=True
def tw3924238490435800986:=True
def tw4019006186503260303:=True
def tw13406616572170453178:=True
def tw4986875516078110274:=True
def tw16230322820704863411:=True
def tw4009324955794618668:=True
def tw11482850825884103104:=True
def tw1045765667732566758:=True
def tw1734608719741453202:=True
def tw18095259327040706993:=True
def tw4419903904948197659:=True
def tw10371575214140785912:=True
def tw15595285034704353121:=True
def tw8565426567281227355:=True
def tw17627520171498030837:=True
def tw8746902076040906265:=True
def tw17054458959108038525:=True
def tw993139069337665364:=True
def tw11712620934888647683:=True
def tw17425462977875426984:=True
def tw15697294065399074115:=True
def tw4386880244072071889:=True
def tw15426759746575205258:=True
def tw1753041034990448438:=True
def tw10937981296411472333:=True
def tw13373776393670713904:=True
def tw16676461106618626163:=True
def tw4403419508237274755:=True
def tw13436679146768714255:=True
def tw13984872049592255528:=True
def tw742297780723141119:=True
def tw11109111433164172961:=True
def tw18298509424905136219:=True
def tw1691413269532657977:=True
def tw17970220498345210572:=True
def tw1031430723437497650:=True
def tw3653074105846264844:=True
def tw7430461212662403506:=True
def tw17132656773179636162:=True
def tw12852377974157420541:=True
def tw10238419855153573681:=True
def tw3160463682637847640:=True
def tw15587965987322185048:=True
def tw6540583389670804046:=True
def tw13018722102478929851:=True
def tw11805780630927894162:=True
def tw16644108105462050055:=True
def tw5304653584260143405:=True
def tw12291234736570727463:=True
def tw13869939302486341822:=True
def tw4954220615530895272:=True
def tw1253947151682813476:=True
def tw9991405992938024341:=True
def tw17993221278060982881:=True
def tw11582526107111678525:=True
def tw15792189348929937242:=True
def tw13376870091837444894:=True
def tw7640524055067882604:=True
def tw11122424613472913543:=True
def tw248174530178771647:=True
def tw6241242347348302152:=True
def tw6026585299192588797:=True
def tw92676646946547256:=True
def tw8355293443922119297:=True
def tw2756020265277532158:=True
def tw4968512203207627876:=True
def tw15491137921345584050:=True
def tw154289350786337034:=True
def tw3329424400414768328:=True
def tw17810429201881223865:=True
def tw11874473763192789549:=True
def tw15199982021168183198:=True
def tw8967857269474628015:=True
def tw17399829905658261465:=True
def tw464307281059956497:=True
def tw17423740956365066286:=True
def tw4864050064388620432:=True
def tw6915539362382994304:=True
def tw18343267971837616599:=True
def tw14232308461535374395:=True
def tw4629539264512937062:=True
def tw5228535894417688671:=True
def tw9109965463228082202:=True
def tw14127941206338168347:=True
def tw6092136464721207467:=True
def tw8458389486383523241:=True
def tw5926770731734435741:=True
def tw17568892171238179040:=True
def tw16028262459419589339:=True
def tw16315443669688277991:=True
def tw17903172292244963084:=True
def tw11538380049307907759:=True
def tw14594390474588658905:=True
def tw3879200021201203760:=True
def tw11965641324388899603:=True
def tw8940430540195048290:=True
def tw12079041977772185422:=True
def tw2382367722231307572:=True
def tw6271687904771788199:=True
end PySem.W.Fast
set_option maxRecDepth 100000 in
set_option maxHeartbeats 0 in
theorem PySem.Challenge.cw_combstrip_k36_whole_one_comb_more_holds : PySem.Challenge.rw_combstrip_k36_whole_one_comb_more.Holds := by
 w_on; o_law; k_head; (case hw=>w_witness2)
 k_fill
 refine K36.walk (l:=PySem.Challenge.rw_combstrip_k36_whole_one_comb_more) rfl rfl (fun w h Y=>PySem.W.kIn_of Y) ?F
 case F =>
  intro w mg fa h KX G hmg
  refine' K36.all KX G hmg (L2.bn_mk KX G ?n0 ?n1 ?n2 ?n3 ?n4 ?n5 ?n6 ?n7 ?n8 ?n9 ?n10 ?n11 ?n12 ?n13 ?n14 ?n15 ?n16 ?n17 ?n18 ?n19 ?n20) ?v0 ?v1 ?v2 ?v3 ?v4 ?v5 ?v6 ?zgt0 ?ztc0 ?r0 ?zx0 ?r1 ?zx1 ?r2 ?zx2 ?r3 ?zx3 ?r4 ?zx4 ?r9 ?zx9 ?r10 ?zx10 ?r11 ?zx11 ?r13 ?zx13 ?r14 ?zx14 ?zini ?zbc ?m0 ?m1 ?m2 ?m3 ?m4 ?m5 ?m6 ?d0 ?d1 ?d2 ?d3 ?d4 ?d5 ?d6 ?d7 ?d8 ?d9 ?d10 ?d11 ?d12 ?d13 ?d14 ?d15 ?d16 ?d17 ?d18 ?d19 ?d20 ?d21 ?d22 ?d23 ?d24 ?d25 ?d26 ?d27 ?d28 ?d29 ?d30 ?d31 ?d32 ?d33 ?d34 ?d35 ?d36 ?d37 ?d38 ?d39 ?d40 ?d41 ?d42 ?d43 ?d44 ?d45 ?d46 ?d47 ?d48
  (case n0=>k_is)
  (case n1=>k_is)
  (case n2=>k_is)
  (case n3=>k_is)
  (case n4=>k_is)
  (case n5=>k_is)
  (case n6=>k_is)
  (case n7=>k_is)
  (case n8=>k_is)
  (case n9=>k_is)
  (case n10=>k_is)
  (case n11=>k_is)
  (case n12=>k_is)
  (case n13=>k_is)
  (case n14=>k_is)
  (case n15=>k_is)
  (case n16=>k_is)
  (case n17=>k_is)
  (case n18=>k_is)
  (case n19=>k_is)
  (case n20=>k_is)
  (case v0=>refine' L2.int_mk KX G ?a; (case a=>k_is))
  (case v1=>refine' L2.int_mk KX G ?a; (case a=>k_is))
  (case v2=>refine' L2.int_mk KX G ?a; (case a=>k_is))
  (case v3=>refine' L2.int_mk KX G ?a; (case a=>k_is))
  (case v4=>refine' L2.int_mk KX G ?a; (case a=>k_is))
  (case v5=>refine' L2.int_mk KX G ?a; (case a=>k_is))
  (case v6=>refine' L2.int_mk KX G ?a; (case a=>k_is))
  (case zgt0=>refine' L2.ref_mk KX G ?a; (case a=>k_is))
  (case ztc0=>kernel_rfl)
  (case r0=>refine' L2.ref_mk KX G ?a; (case a=>k_is))
  (case zx0=>kernel_rfl)
  (case r1=>refine' L2.ref_mk KX G ?a; (case a=>k_is))
  (case zx1=>kernel_rfl)
  (case r2=>refine' L2.ref_mk KX G ?a; (case a=>k_is))
  (case zx2=>kernel_rfl)
  (case r3=>refine' L2.ref_mk KX G ?a; (case a=>k_is))
  (case zx3=>kernel_rfl)
  (case r4=>refine' L2.ref_mk KX G ?a; (case a=>k_is))
  (case zx4=>kernel_rfl)
  (case r9=>refine' L2.ref_mk KX G ?a; (case a=>k_is))
  (case zx9=>kernel_rfl)
  (case r10=>refine' L2.ref_mk KX G ?a; (case a=>k_is))
  (case zx10=>kernel_rfl)
  (case r11=>refine' L2.ref_mk KX G ?a; (case a=>k_is))
  (case zx11=>kernel_rfl)
  (case r13=>refine' L2.ref_mk KX G ?a; (case a=>k_is))
  (case zx13=>kernel_rfl)
  (case r14=>refine' L2.ref_mk KX G ?a; (case a=>k_is))
  (case zx14=>kernel_rfl)
  (case zini=>refine' L2.init_mk (L2.ref_mk KX G ?z) ?a ?l ?c ?k ?i ?k2 ?mk; (case z=>k_is); (case a=>k_is); (case l=>k_is); (case c=>k_is); (case k=>k_is); (case i=>k_is); (case k2=>k_is); (case mk=>k_is))
  (case zbc=>kernel_rfl)
  (case m0=>refine' L2.meth_mk ?a ?l ?c ?k ?i; (case a=>k_is); (case l=>k_is); (case c=>k_is); (case k=>k_is); (case i=>k_is))
  (case m1=>refine' L2.meth_mk ?a ?l ?c ?k ?i; (case a=>k_is); (case l=>k_is); (case c=>k_is); (case k=>k_is); (case i=>k_is))
  (case m2=>refine' L2.meth_mk ?a ?l ?c ?k ?i; (case a=>k_is); (case l=>k_is); (case c=>k_is); (case k=>k_is); (case i=>k_is))
  (case m3=>refine' L2.meth_mk ?a ?l ?c ?k ?i; (case a=>k_is); (case l=>k_is); (case c=>k_is); (case k=>k_is); (case i=>k_is))
  (case m4=>refine' L2.meth_mk ?a ?l ?c ?k ?i; (case a=>k_is); (case l=>k_is); (case c=>k_is); (case k=>k_is); (case i=>k_is))
  (case m5=>refine' L2.meth_mk ?a ?l ?c ?k ?i; (case a=>k_is); (case l=>k_is); (case c=>k_is); (case k=>k_is); (case i=>k_is))
  (case m6=>refine' L2.meth_mk ?a ?l ?c ?k ?i; (case a=>k_is); (case l=>k_is); (case c=>k_is); (case k=>k_is); (case i=>k_is))
  (case d0=>refine' L2.def_mk KX G ?a ?l ?c ?k; (case a=>k_is); (case l=>k_is); (case c=>k_is); (case k=>k_is))
  (case d1=>refine' L2.def_mk KX G ?a ?l ?c ?k; (case a=>k_is); (case l=>k_is); (case c=>k_is); (case k=>k_is))
  (case d2=>refine' L2.def_mk KX G ?a ?l ?c ?k; (case a=>k_is); (case l=>k_is); (case c=>k_is); (case k=>k_is))
  (case d3=>refine' L2.def_mk KX G ?a ?l ?c ?k; (case a=>k_is); (case l=>k_is); (case c=>k_is); (case k=>k_is))
  (case d4=>refine' L2.def_mk KX G ?a ?l ?c ?k; (case a=>k_is); (case l=>k_is); (case c=>k_is); (case k=>k_is))
  (case d5=>refine' L2.def_mk KX G ?a ?l ?c ?k; (case a=>k_is); (case l=>k_is); (case c=>k_is); (case k=>k_is))
  (case d6=>refine' L2.def_mk KX G ?a ?l ?c ?k; (case a=>k_is); (case l=>k_is); (case c=>k_is); (case k=>k_is))
  (case d7=>refine' L2.def_mk KX G ?a ?l ?c ?k; (case a=>k_is); (case l=>k_is); (case c=>k_is); (case k=>k_is))
  (case d8=>refine' L2.def_mk KX G ?a ?l ?c ?k; (case a=>k_is); (case l=>k_is); (case c=>k_is); (case k=>k_is))
  (case d9=>refine' L2.def_mk KX G ?a ?l ?c ?k; (case a=>k_is); (case l=>k_is); (case c=>k_is); (case k=>k_is))
  (case d10=>refine' L2.def_mk KX G ?a ?l ?c ?k; (case a=>k_is); (case l=>k_is); (case c=>k_is); (case k=>k_is))
  (case d11=>refine' L2.def_mk KX G ?a ?l ?c ?k; (case a=>k_is); (case l=>k_is); (case c=>k_is); (case k=>k_is))
  (case d12=>refine' L2.def_mk KX G ?a ?l ?c ?k; (case a=>k_is); (case l=>k_is); (case c=>k_is); (case k=>k_is))
  (case d13=>refine' L2.def_mk KX G ?a ?l ?c ?k; (case a=>k_is); (case l=>k_is); (case c=>k_is); (case k=>k_is))
  (case d14=>refine' L2.def_mk KX G ?a ?l ?c ?k; (case a=>k_is); (case l=>k_is); (case c=>k_is); (case k=>k_is))
  (case d15=>refine' L2.def_mk KX G ?a ?l ?c ?k; (case a=>k_is); (case l=>k_is); (case c=>k_is); (case k=>k_is))
  (case d16=>refine' L2.def_mk KX G ?a ?l ?c ?k; (case a=>k_is); (case l=>k_is); (case c=>k_is); (case k=>k_is))
  (case d17=>refine' L2.def_mk KX G ?a ?l ?c ?k; (case a=>k_is); (case l=>k_is); (case c=>k_is); (case k=>k_is))
  (case d18=>refine' L2.def_mk KX G ?a ?l ?c ?k; (case a=>k_is); (case l=>k_is); (case c=>k_is); (case k=>k_is))
  (case d19=>refine' L2.def_mk KX G ?a ?l ?c ?k; (case a=>k_is); (case l=>k_is); (case c=>k_is); (case k=>k_is))
  (case d20=>refine' L2.def_mk KX G ?a ?l ?c ?k; (case a=>k_is); (case l=>k_is); (case c=>k_is); (case k=>k_is))
  (case d21=>refine' L2.def_mk KX G ?a ?l ?c ?k; (case a=>k_is); (case l=>k_is); (case c=>k_is); (case k=>k_is))
  (case d22=>refine' L2.def_mk KX G ?a ?l ?c ?k; (case a=>k_is); (case l=>k_is); (case c=>k_is); (case k=>k_is))
  (case d23=>refine' L2.def_mk KX G ?a ?l ?c ?k; (case a=>k_is); (case l=>k_is); (case c=>k_is); (case k=>k_is))
  (case d24=>refine' L2.def_mk KX G ?a ?l ?c ?k; (case a=>k_is); (case l=>k_is); (case c=>k_is); (case k=>k_is))
  (case d25=>refine' L2.def_mk KX G ?a ?l ?c ?k; (case a=>k_is); (case l=>k_is); (case c=>k_is); (case k=>k_is))
  (case d26=>refine' L2.def_mk KX G ?a ?l ?c ?k; (case a=>k_is); (case l=>k_is); (case c=>k_is); (case k=>k_is))
  (case d27=>refine' L2.def_mk KX G ?a ?l ?c ?k; (case a=>k_is); (case l=>k_is); (case c=>k_is); (case k=>k_is))
  (case d28=>refine' L2.def_mk KX G ?a ?l ?c ?k; (case a=>k_is); (case l=>k_is); (case c=>k_is); (case k=>k_is))
  (case d29=>refine' L2.def_mk KX G ?a ?l ?c ?k; (case a=>k_is); (case l=>k_is); (case c=>k_is); (case k=>k_is))
  (case d30=>refine' L2.def_mk KX G ?a ?l ?c ?k; (case a=>k_is); (case l=>k_is); (case c=>k_is); (case k=>k_is))
  (case d31=>refine' L2.def_mk KX G ?a ?l ?c ?k; (case a=>k_is); (case l=>k_is); (case c=>k_is); (case k=>k_is))
  (case d32=>refine' L2.def_mk KX G ?a ?l ?c ?k; (case a=>k_is); (case l=>k_is); (case c=>k_is); (case k=>k_is))
  (case d33=>refine' L2.def_mk KX G ?a ?l ?c ?k; (case a=>k_is); (case l=>k_is); (case c=>k_is); (case k=>k_is))
  (case d34=>refine' L2.def_mk KX G ?a ?l ?c ?k; (case a=>k_is); (case l=>k_is); (case c=>k_is); (case k=>k_is))
  (case d35=>refine' L2.def_mk KX G ?a ?l ?c ?k; (case a=>k_is); (case l=>k_is); (case c=>k_is); (case k=>k_is))
  (case d36=>refine' L2.def_mk KX G ?a ?l ?c ?k; (case a=>k_is); (case l=>k_is); (case c=>k_is); (case k=>k_is))
  (case d37=>refine' L2.def_mk KX G ?a ?l ?c ?k; (case a=>k_is); (case l=>k_is); (case c=>k_is); (case k=>k_is))
  (case d38=>refine' L2.def_mk KX G ?a ?l ?c ?k; (case a=>k_is); (case l=>k_is); (case c=>k_is); (case k=>k_is))
  (case d39=>refine' L2.def_mk KX G ?a ?l ?c ?k; (case a=>k_is); (case l=>k_is); (case c=>k_is); (case k=>k_is))
  (case d40=>refine' L2.def_mk KX G ?a ?l ?c ?k; (case a=>k_is); (case l=>k_is); (case c=>k_is); (case k=>k_is))
  (case d41=>refine' L2.def_mk KX G ?a ?l ?c ?k; (case a=>k_is); (case l=>k_is); (case c=>k_is); (case k=>k_is))
  (case d42=>refine' L2.def_mk KX G ?a ?l ?c ?k; (case a=>k_is); (case l=>k_is); (case c=>k_is); (case k=>k_is))
  (case d43=>refine' L2.def_mk KX G ?a ?l ?c ?k; (case a=>k_is); (case l=>k_is); (case c=>k_is); (case k=>k_is))
  (case d44=>refine' L2.def_mk KX G ?a ?l ?c ?k; (case a=>k_is); (case l=>k_is); (case c=>k_is); (case k=>k_is))
  (case d45=>refine' L2.def_mk KX G ?a ?l ?c ?k; (case a=>k_is); (case l=>k_is); (case c=>k_is); (case k=>k_is))
  (case d46=>refine' L2.def_mk KX G ?a ?l ?c ?k; (case a=>k_is); (case l=>k_is); (case c=>k_is); (case k=>k_is))
  (case d47=>refine' L2.def_mk KX G ?a ?l ?c ?k; (case a=>k_is); (case l=>k_is); (case c=>k_is); (case k=>k_is))
  (case d48=>refine' L2.def_mk KX G ?a ?l ?c ?k; (case a=>k_is); (case l=>k_is); (case c=>k_is); (case k=>k_is))
