import PyProof.Rows.All
import Wide.All
import OpenK.AllK
import Wide.FinOn
import Lean
import PyProof.EqAt
import PyProof.EqKinds
import PyProof.TupleCall
import PySem.Challenge.RW_combstrip_k20_filling_covers
set_option Elab.async false
set_option linter.all false
set_option maxRecDepth 100000
set_option maxHeartbeats 40000000
open Array renaming length_toList->As,toList_append->B0,toList_push->Cc,toList_reverse->Cj,getElem?_toList->Ct,getElem_extract->G5,perm_iff_toList_perm->Gk,getElem?_eq_some_iff->Gm,getElem?_eq_getElem->Gv,forIn_toList->Jm,append_assoc->Jn,toList_setIfInBounds->Kx,toList->Lw,size_extract->My,toList_inj->Nk,size_map->O3
open Array.Perm renaming refl->He
open Bool renaming false_ne_true->A9,eq_iff_iff->Bd,false_eq_true->Bp,and_eq_true->Bt,not_true->Eg,false_and->F9,true_and->Ff,not_eq_true'->Fs,or_eq_true->Ko,or_false->Ln,or_true->M5,and_eq_false_iff->Mh,eq_false_iff->Nj,and_false->Ob
open Classical renaming byContradiction->Di,not_not->Rz
open Decidable renaming byContradiction->Ke
open False renaming elim->Cf
open ForInStep renaming yield->Dr,done->Rx
open Int renaming toNat_natCast->D8,emod_lt_of_pos->Da,le_refl->Dk,emod_nonneg->Dz,zero_add->Eo,eq_ofNat_of_zero_le->Hu,fdiv_eq_ediv_of_nonneg->Lc,le_trans->Mf,mul_one->Qb
open List renaming length_map->A5,mem_singleton->A6,mem_cons_of_mem->A8,getElem?_eq_getElem->Aa,mem_map->Ab,range->Ac,mem_cons_self->Ag,length_append->Ah,getElem?_map->Ai,getD_eq_getElem?_getD->Aj,mem_append->Ao,map_cons->Aq,length_cons->Ar,append_assoc->At,getElem?_eq_some_iff->Av,length_range->Ax,size_toArray->B5,mem_cons->B6,mem_range->B9,mem_filter->Bc,map_map->Be,mem_append_left->Bf,mem_of_getElem?->Bh,map_append->Bi,mem_append_right->Bj,length_singleton->Bm,replicate->Bo,any_eq_true->Bs,pairwise_append->Bv,append_nil->Bw,pairwise_map->C4,take_append_drop->C5,getElem?_range->C7,filter_cons->Cb,map_congr_left->Ce,take_length->Ci,length_filter_le->Cm,getElem?_eq_none->Cn,filter_eq_self->Co,getElem_mem->Cr,all_eq_true->Cs,filter_append->Cz,length_take->D0,pairwise_iff_getElem->D3,filter_sublist->D5,take_succ_eq_append_getElem->De,perm_ext_iff_of_nodup->Df,pairwise_lt_range->Dg,getElem?_append_right->Dh,nodup_cons->Dj,getElem?_append_left->Dm,perm_append_comm->Dn,mem_flatMap->Do,nodup_append->Dv,range_succ->Dx,replicate_succ->E1,lookup_cons->E5,nodup_nil->E8,sum_cons->Ef,mem_filterMap->En,find?_cons->Ep,filter_nil->Es,nodup_iff_pairwise_ne->F7,lookup->F8,getElem_of_mem->Fd,length->Fj,take_sublist->Fm,flatten_cons->Fn,ext_getElem?->Fo,drop_sublist->Fp,any_cons->G8,take_succ_cons->Gf,map_nil->Gh,zip_cons_cons->Go,drop_eq_getElem_cons->Gw,map_id->Gy,length_drop->Ho,getElem?_replicate->Hq,take_of_length_le->Ia,length_pos_of_mem->Ib,all_map->Ic,of_mem_zip->Io,length_nil->Ip,foldl_cons->Iq,filter_map->Ir,mem_iff_getElem?->Is,mem_of_mem_take->Iz,mem_iff_getElem->J0,filterMap_cons->Jf,pairwise_cons->Jo,mapM_toArray->Js,map->Jt,getElem_take->Ju,getElem_drop->Jv,filter_congr->Jw,any_map->Jx,cons_append->Kd,eq_nil_of_length_eq_zero->Ki,sum_append->Kl,forIn_cons->Km,dropLast_concat_getLast->Kn,foldl->Kz,drop_drop->L3,mem_take_iff_getElem->La,mem_of_find?_eq_some->Lb,length_erase_of_mem->Ll,getElem?_take_of_lt->Lm,getLast_eq_getElem->Ls,map_id'->M2,getElem?_set_self->M3,singleton_append->Mc,length_replicate->Md,length_dropLast->Mn,getElem?_set_ne->Mo,map_singleton->N1,getElem_range->N2,find?_eq_none->N3,reverse_perm->Nd,reverse_cons->Nf,any_eq_false->Ng,mem_reverse->Nq,getElem_map->Nr,drop_length->Nt,length_set->O1,find?_some->O2,take_zero->O8,drop_zero->O9,take_add->Oi,le_trans->Oj,all_cons->Ol,Nodup->Qa,any->Rm
open List.Nodup renaming mem_erase_iff->Rn
open List.Pairwise renaming sublist->Bg,imp->Ei,nil->Ga,imp_of_mem->Gb
open List.Perm renaming append_left->D4,append_right->Gz,refl->Kb
open Nat renaming le_refl->Ad,lt_of_lt_of_le->Af,ne_of_lt->B7,le_trans->C0,zero_le->C6,lt_irrefl->Dq,add_sub_cancel_left->Dw,lt_succ_self->El,add_assoc->Ew,lt_succ_of_lt->F0,le_of_lt->Fw,zero_testBit->G7,lt_trans->Gj,testBit_lt_two_pow->Ik,sub_self->Il,add_comm->Im,pow_le_pow_right->Ja,mul_le_mul_right->Jb,eq_of_testBit_eq->Jc,ne_of_gt->K9,add_zero->Ka,add_one_mul->Kt,zero_add->Mb,le_of_ble_eq_true->Mm,pow_pos->Mw,le_succ->Mx,sub_add_cancel->Nb,add_sub_cancel->Nc,le_of_not_lt->Nz,le_add_right->O0,zero_lt_one->O6,testBit_and->O7,sub_zero->P9,pow_succ->Pa,mul_comm->Pb,le_of_eq->Pc,mul_pos->Q8,add_mul->Q9
open Ne renaming symm->Dy
open Option renaming map_some->Cq,isSome_iff_exists->D7,isSome_map->Gs,getD_some->Hf,map_eq_some_iff->Lk,none->Oh,map->Ot
open Option.some renaming inj->C1
open Or renaming inl->Au,inr->Fe
open PyProof.Rows renaming wpS_bind->Ak,wpS_pure->Ap,Keyed->Aw,boot_isinstance->Bl,SortSt->By,wpS_forRange->Cw,wpS_mono->E6,IntsAre->Ee,SortKind->F5,callWith_type1->G0,AllBare->Gi,step_dedup->Hi,wpS_get->Hv,IsTup->Jg,wpS_lift->Jp,boot_sorted->Jr,wpS_modify->Kf,pairsOf_size->Kp,lt_int->Ks,units_in1->L6,boot_list->L7,wpS_reverse->Le,boot_tuple->M8,listUpdate_at->Mq,subscriptTail_builtinR->N7,seqEpoch_at->Ny,getElem?_mirror_all->O4,wpAny_notIn_heap->Ow,getElem?_bubble->Pl,entry_list_sort->Pm,mirror->Q4,callWith_builtin1->Q5,bubble->Q6,assign_Tuple->Q7,sortedHeap_old->Qh,slot_list_sort->Qi,boot_all->Qk,args_list_sort->Ql,sortedHeap_at->Qs,plain_sorted->Ro,listItems_at->Rp,entry_sorted->Rq,args_sorted1->Rt,StrsAre->Ru
open PyProof.Rows.SortSt renaming mk'->Os
open PySem renaming Value->A1,wpAny_bind->A2,Addr->A3,Shared->A4,wpAny_pure->Ae,Program->An,Around->B1,World->B8,Heap->Br,boot_len->Bz,Paired->C3,Expr->Ca,Stmt->Cd,wpAny_truthy_bool->Cy,wpAny_holding->D1,wpAny_mono->D9,wpAny_call_entry->Ds,FuncData->Ed,wpAny_newObj_type->Eh,wpAny_typeNameOfWhole_keyiter->Eu,wpAny_passesOwn->F4,Scope->F6,mem_of_lookup->Fc,wpAny_typeNameOf_keyiter->Fl,wpAny_rule->Ft,wpAny_Call_Name_kw->Fu,wpAny_field->Fx,wpAny_callSpecial?_slot->Fy,IsRangeIter->G3,Builtin->G9,wpAny_isInstance->Gd,wpAny_forIn_list->Ge,wpAny_attempt->Gg,wpAny_specialOf->Gp,wpAny_execs_nil->Gq,wpAny_setField->Hg,tupleKind_room_in1->Hh,Model->Hm,wpAny_dictEntries->Hw,PyData->Ij,NameKind->Iw,DictEntry->Ix,codeAny_mono->J5,call_meets->J6,wpAny_isOneOf_keyiter->Jh,isSubtype_tuple_tuple->Ji,wpAny_fieldsOf->Jq,BindsTo->Jz,wpAny_standAt->Kc,wpAny_tupleItemsOf->Kg,wpAny_call->Kh,wpAny_execs_cons->L5,wpAny_dictEpoch->Lp,Within->Lr,wpAny_newFunctionEnv_cells->M7,IsTupleKey->Me,wpAny_newList->Mp,call->Mt,CmpOp->N4,wpAny_pyIter_rangeiter->N5,wpAny_Assign_Subscript->N6,seqIndex_neg->N8,wpAny_isTrue_Compare1->Nl,codeAny_call_function->Nm,wpAny_pyIter_keyiter->Nu,wpAny_of_eq->Nv,sizeLine_eq->Nw,seqIndex_of->Nx,wpAny_setItem_heap->Oc,wpAny_pyIter_range->Od,wpAny_getItem_heap->Oe,wpAny_Name->Of,typeIs_int->Og,wpAny_pyIter_list->On,wpAny_assign_Name->Oo,wpAny_Dict_empty->Ox,PassesOwn->P8,Arguments->Pi,wpAny_ret_mkInt->Pj,wpAny_loadPart'->Pk,Fin->Po,wpAny_seqItems->Qe,wpAny_loadPart->Qf,wpAny_Compare1->Qg,isSubtype_stop->Qj,Result->Qn,Params->Qo,wpAny_handled->Qr,rangeSize_one->Qt,intBits_le_64->Qu,eval_ListComp->Qv,call_list_seq->Qw,codeAny_func->Rr,call_range_1->Rs,Keyword->Rw
open PySem.Around renaming under->Lo,frames_deeper->M6
open PySem.AutoListH renaming list___mul___list_int_3->S0
open PySem.Builtin renaming bitAnd->Dp
open PySem.Builtin.Dict renaming showsAll->Kj,pendingCount->Qc,dictSlotNone->Qd
open PySem.Builtin.Dict_items renaming ownsTuple->Ie
open PySem.Builtin.List renaming listTooLong->Gc
open PySem.Builtin.ObjectAttr renaming bindTo->Iy
open PySem.Builtin.Range renaming rangeSize->Jy
open PySem.Builtin.Tuple renaming tupleHashOf->Et,tupleItemsOf->Pg,tupleCompareSizes->Ph
open PySem.Calls renaming call_function_entry->Gu,Name_function_global->Kw,callWith_builtin->Lv,evalArgs_plain->Mg
open PySem.Code renaming isFrame->M4,frames->Pf
open PySem.Data renaming fields->Pe,cell->Qq
open PySem.DictEntry renaming refKey->Ry
open PySem.EntryCells renaming newEntry->Ld
open PySem.EqMixed renaming ne_str_int->P0,ne_str_bool->P1,ne_int_str->P2,ne_bool_str->P3,eq_str_int->P4,eq_str_bool->P5,eq_int_str->P6,eq_bool_str->P7
open PySem.EqNone renaming ne_str_none->Pp,ne_none_str->Pq,ne_none_none->Pr,ne_none_int->Ps,ne_none_bool->Pt,ne_int_none->Pu,ne_bool_none->Pw,eq_str_none->Px,eq_none_str->Py,eq_none_none->Pz,eq_none_int->Q0,eq_none_bool->Q1,eq_int_none->Q2,eq_bool_none->Q3
open PySem.F renaming plainAttrs_list->Bu,type_list_append->C8,slot_list_append->C9,slot_dict_keyiterator_next->E2,slot_tuple_hash->Hr,slot_tuple_lt->Ht,slot_tuple_eq->J4,slot_dict_getitem->Kk,args_dict_keyiterator_next_1->Kv,args_tuple_lt_2->Ky,entry_dict_keyiterator_next->L4,entry_tuple_lt->L9,slot_range_iterator_next->Lu,excBase_ValueError->Nh,excAttr_ValueError->Ni,slot_dict_iter->Om,slot_int_rmul->Ou,slot_dict_len->Ov
open PySem.Heap renaming get?_push_of_some->A7,lt_size->Am,get?_push_size->Ay,size_push->Ej,SameBut->Fb,get?_update_other->Fq,get?_update_self->G6,ExtBut->Pd
open PySem.Heap.DictOf renaming new->Qp
open PySem.Heap.SameBut renaming update->Ku
open PySem.IsL renaming update->Rv
open PySem.IsRange renaming new->Oa
open PySem.NameKind renaming free->Ck,cell->Iv
open PySem.Obj renaming mapFields->Ev,mapSeq->Fh,data_mapFields->Fi,isFreed_of_fields->Ml,cls_mapFields->Np
open PySem.Paired renaming length->Cp,snoc->Ek,mono->M1
open PySem.PassesOwn renaming never->C2,leaving->M0
open PySem.PyData renaming canLayAll0->Ch,eqv->E3,depthAll->Eb,int->Ez,canLay0->Fk,depth->Hn,eqvAll->J9,strOk->Lj
open PySem.SeqAt renaming shaped->Fa,EqAt->Ms
open PySem.SeqAt.EqAt renaming str_int->Lf,int_str->Lg,int_int->Lh,str_str->Qy,str_none->Qz,str_bool->Ra,same->Rb,none_str->Rc,none_int->Re,none_bool->Rf,int_none->Rg,int_bool->Rh,bool_str->Ri,bool_none->Rj,bool_int->Rk,bool_bool->Rl
open PySem.Str renaming ofString->A0,length->Qm,empty->Qx
open PySem.Value renaming ref->Az,none->Du,type->Em,int->Hj,bool->Hs,builtin->Jd,str->K0,float->M9,isStrOf->O5,isInt->Op,bytes->Oq
open PySem.Value.ref renaming inj->Mz
open PySem.W renaming Frag->Al,mg_none_of->Ba,findIn->Bq,nsIn->Bx,fnOf->Cg,keepIn->Cu,kia_one->Cv,emptyDict->Db,hideAll->Dt,instObj->E9,mroIn->Ec,codeIn->Ex,InstAt->Ey,kitOne->Fg,plainGet->Fv,clsIn->Fz,hasDictIn->Gn,excIn->Gr,isFn->Hk,cellsFrom_some->Hl,looks_findIn->Ig,lookIn->Ih,exmOne->Ii,plainGet_of->Iu,of_hideAll->J7,callWith_K->J8,specialIn->Jj,plainOver->Jk,methodObj->Jl,takesIn->K1,takerIn->K2,makesIn->K7,OpenLaw->K8,mg_of->Kq,Looks->Kr,methodCall_KW->Li,kdu_collect->Lx,hideAll_get->Ly,callWith_K0->Lz,codeRec_of->Ma,kitx_list->Mi,kitx_dict->Mj,handedIn->Mu,findObj->N0,typeIn->N9,kitCls->Na,WalkO->No
open PySem.W.KT renaming app_list->L8
open PySem.W.Looks renaming ld->Oy,here->Oz
open PySem.Within renaming cons->Pn
open Sum renaming inr->D6,inl->Je
open Sum.inr renaming inj->Lq
open True renaming intro->E7
local macro_rules | `(tactic| omega) => `(tactic| first | lia | omega +splitDisjunctions)
namespace L2
open PySem PySem.Spec PyProof.Rows
noncomputable abbrev Key:=Sum Int Str
noncomputable def keyIs:Key->A1->Bool
 | .inl k,v=>Op k v
 | .inr x,v=>O5 x v
noncomputable def keyH (w:B8):Key->Int
 | .inl k=>hashInt k
 | .inr x=>hashStr w x
theorem zaK:∀ {k:Key} {v:A1},keyIs k v=true->(∃ i t,k=Je i/\v=Hj i t)\/(∃ x t,k=D6 x/\v=K0 x t)
 | .inl i,v,h=>by
  obtain ⟨t,e⟩:=Value.isInt_shape (k:=i) (v:=v) h
  exact .inl ⟨i,t,rfl,e⟩
 | .inr x,v,h=>by
  obtain ⟨t,e⟩:=Value.isStrOf_shape (x:=x) (v:=v) h
  exact .inr ⟨x,t,rfl,e⟩
theorem keyIs_int (i:Int) (t:Tok):keyIs (.inl i) (.int i t)=true:=by simp [keyIs,Op]
theorem keyIs_str (x:Str) (t:Tok):keyIs (.inr x) (.str x t)=true:=by simp [keyIs,O5]
theorem key_ll (a b:Int):decide ((Je a:Key)=Je b)=(a == b):=by
 by_cases e:a=b
 ·subst e; simp
 ·have h:¬ (Je a:Key)=Je b:=fun q=>e (Sum.inl.inj q)
  rw [decide_eq_false h]
  exact (beq_eq_false_iff_ne.mpr e).symm
theorem key_rr (a b:Str):decide ((D6 a:Key)=D6 b)=decide (a=b):=by
 by_cases e:a=b
 ·subst e; simp
 ·have h:¬ (D6 a:Key)=D6 b:=fun q=>e (Lq q)
  rw [decide_eq_false h,decide_eq_false e]
theorem key_lr (a:Int) (b:Str):decide ((Je a:Key)=D6 b)=false:=decide_eq_false (fun q=>nomatch q)
theorem key_rl (a:Str) (b:Int):decide ((D6 a:Key)=Je b)=false:=decide_eq_false (fun q=>nomatch q)
noncomputable def mixKind (prog:An) (w:B8):PySem.KeyKind prog w Key where
 is:=keyIs
 hash:=keyH w
 inj:=fun v a b ha hb=>by
  rcases zaK ha with ⟨i,t,rfl,rfl⟩ | ⟨x,t,rfl,rfl⟩
  ·rcases zaK hb with ⟨j,u,rfl,e⟩ | ⟨y,u,rfl,e⟩
   ·injection e with e1 _; rw [e1]
   ·exact nomatch e
  ·rcases zaK hb with ⟨j,u,rfl,e⟩ | ⟨y,u,rfl,e⟩
   ·exact nomatch e
   ·injection e with e1 _; rw [e1]
 byValue:=fun k v h=>by
  rcases zaK h with ⟨i,t,rfl,rfl⟩ | ⟨x,t,rfl,rfl⟩ <;> rfl
 pyHash:=fun hv h=>by
  rcases zaK hv with ⟨i,t,rfl,rfl⟩ | ⟨x,t,rfl,rfl⟩
  ·exact wpAny_pyHash_int h
  ·exact wpAny_pyHash_str h
 eqBool:=fun hu hv h=>by
  rcases zaK hu with ⟨i,t,rfl,rfl⟩ | ⟨x,t,rfl,rfl⟩
  ·rcases zaK hv with ⟨j,u,rfl,rfl⟩ | ⟨y,u,rfl,rfl⟩
   ·rw [key_ll] at h; exact wpAny_eqBool_int h
   ·rw [key_lr] at h; exact Lg i t y u _ _ _ _ h
  ·rcases zaK hv with ⟨j,u,rfl,rfl⟩ | ⟨y,u,rfl,rfl⟩
   ·rw [key_rl] at h; exact Lf x t j u _ _ _ _ h
   ·rw [key_rr] at h; exact wpAny_eqBool_str h
 «strs» := fun k x t v h=>by
  rcases zaK h with ⟨i,u,rfl,e⟩ | ⟨y,u,rfl,e⟩
  ·exact nomatch e
  ·injection e with e1 _
   subst e1
   cases v <;> rfl
theorem mixKind_int (prog:An) (w:B8) (i:Int) (t:Tok):(mixKind prog w).is (.inl i) (.int i t)=true:=keyIs_int i t
theorem mixKind_str (prog:An) (w:B8) (x:Str) (t:Tok):(mixKind prog w).is (.inr x) (.str x t)=true:=keyIs_str x t
inductive V where
 | non | bl (b:Bool) | int (i:Int) | str (x:Str) | byt (b:Array UInt8) | flt (b:UInt64) | ref (a:A3) | ty (n:String)
 deriving DecidableEq
noncomputable def RelV:V->A1->Prop
 | .non,u=>u=Du
 | .bl b,u=>u=Hs b
 | .int i,u=>∃ t,u=Hj i t
 | .str x,u=>∃ t,u=K0 x t
 | .byt b,u=>∃ t,u=Oq b t
 | .flt b,u=>∃ t,u=M9 b t
 | .ref a,u=>u=Az a
 | .ty n,u=>u=Em n
noncomputable abbrev Vals:List V->List A1->Prop:=C3 RelV
theorem Vals.length {xs:List V} {us:List A1} (r:Vals xs us):xs.length=us.length:=Cp r
theorem Vals.get:∀ {xs:List V} {us:List A1} {i:Nat} {x:V},Vals xs us->xs[i]?=some x->∃ u,us[i]?=some u/\RelV x u
 | _,_,_,_,.nil,e=>by simp at e
 | _,_,0,_,.cons r _,e=>by simp at e; subst e; exact ⟨_,rfl,r⟩
 | _,_,i + 1,x,.cons _ t,e=>by
  obtain ⟨u,h1,h2⟩:=Vals.get (i:=i) (x:=x) t (by simpa using e)
  exact ⟨u,by simpa using h1,h2⟩
theorem Vals.set {x:V} {u:A1} (r:RelV x u):∀ {xs:List V} {us:List A1} (i:Nat),Vals xs us->Vals (xs.set i x) (us.set i u)
 | _,_,_,.nil => .nil
 | _,_,0,.cons _ t => .cons r t
 | _,_,i + 1,.cons q t => .cons q (Vals.set r i t)
theorem Vals.append:∀ {xs ys:List V} {us ws:List A1},Vals xs us->Vals ys ws->Vals (xs ++ ys) (us ++ ws)
 | _,_,_,_,.nil,s=>s
 | _,_,_,_,.cons r t,s => .cons r (Vals.append t s)
noncomputable def RelO:Option V->Option A1->Prop
 | some v,some u=>RelV v u
 | none,none=>True
 | _,_=>False
noncomputable def KV {κ : Type}:List (κ × V)->List (κ × A1)->Prop:=C3 fun (p : κ × V) (q : κ × A1)=>p.1=q.1/\RelV p.2 q.2
noncomputable def kV:Key->V
 | .inl i => .int i
 | .inr x => .str x
inductive HO where
  | lst (xs:List V)
  | tup (xs:List V)
  | dK (kvs:List (Key×V)) | dT (kvs:List (List Key×V))
  | set (S:Int->Bool) (n:Nat)
  | ins (C dx:A3) (fs:List (Str×V))
  | own (x:A3)
  | xd (fs:List (Str×V))
  | met (f x:A3)
  | rng (lo hi:Int)
  | frz (o:Obj) (u:HO)
  | tbl (ps:Array A1)
  | ext (φ : Br->Prop)
noncomputable abbrev Hp:=A3->Option HO
noncomputable def upd (H:Hp) (a:A3) (o:HO):Hp:=fun b=>if b=a then some o else H b
theorem zac {H:Hp} {a:A3} {o:HO}:upd H a o a=some o:=by unfold upd; rw [if_pos rfl]
theorem zah {H:Hp} {a b:A3} {o:HO} (h:b≠a):upd H a o b=H b:=by unfold upd; rw [if_neg h]
theorem zhd {H:Hp} {a b:A3} {o u:HO} (h:H a=some o) (h':H b=some u) (d:o≠u):a≠b:=by
 intro e; subst e; rw [h] at h'; exact d (C1 h')
theorem zal {H:Hp} {a b:A3} {o:HO} (h:H a=some o) (h':H b=none):a≠b:=by
 intro e; subst e; rw [h] at h'; cases h'
section
variable (P:An) (w:B8)
noncomputable def ObjOk (H:Hp) (h:Br) (a:A3):HO->Prop
 | .lst xs=>xs.length<=sizeLine/\∃ (its:List A1) (n:Nat),Vals xs its/\h.get? a=some { cls := .type "list",data := .seq its.toArray n }
 | .tup xs=>xs.length<=sizeLine/\∃ its:List A1,Vals xs its/\Jg h a its.toArray
 | .dK kvs=>kvs.length<=sizeLine/\(a == sysModules)=false/\∃ vs,KV kvs vs/\h.DictOf (mixKind P w) a vs
 | .dT kvs=>kvs.length<=sizeLine/\(a == sysModules)=false/\∃ xs:List (List Key×A3×A1),
   C3 (fun (p:List Key×V) (q:List Key×A3×A1)=>p.1=q.1/\H q.2.1=some (.tup (p.1.map kV))/\RelV p.2 q.2.2) kvs xs /\
   ∃ o es ep,h.get? a=some o/\o.ExactDict/\o.data = .dict es ep/\es.toList=xs.map (entryOfKey (tupleKind (mixKind P w)))/\(xs.map (·.1)).Nodup
 | .set S n=>h.SetOf (intKind P w) a S n
 | .ins C dx fs=>H dx=some (.own a)/\fs.length<=1000/\dx≠a/\h.get? a=some (E9 C dx) /\
   ∃ mA,h.Ns1 dx mA/\(∀ f,RelO (fs.lookup f) (mA f))/\Lr mA (fs.map (·.1))
 | .own _=>∃ o,h.get? a=some o
 | .xd fs=>∃ mA,h.Ns1 a mA/\∀ f,RelO (fs.lookup f) (mA f)
 | .rng lo hi=>∃ t u v,h.get? a=some { cls := .type "range",data := .fields #[.int lo t,.int hi u,.int 1 v] }
 | .frz o u=>h.get? a=some o/\ObjOk H h a u
 | .tbl ps=>h.get? a=some { cls := .none,data := .fields ps }
 | .met f x=>h.get? a=some (Jl (.ref f) (.ref x))
 | .ext φ => φ h/\(∃ o,h.get? a=some o)/\∀ h1 h2:Br,φ h1->(∀ o,h1.get? a=some o->h2.get? a=some o) -> φ h2
noncomputable def HOk (H:Hp) (h:Br):Prop:=∀ a o,H a=some o->ObjOk P w H h a o
end
section
variable {P:An} {w:B8} {H H':Hp} {h h':Br} {a:A3} {o:HO}
theorem ObjOk.lt (x:ObjOk P w H h a o):a < h.objs.size:=by
 cases o with
 | lst xs=>obtain ⟨_,_,_,_,e⟩:=x; exact Am e
 | tup xs=>obtain ⟨_,_,_,p⟩:=x; exact p.lt
 | dK kvs=>obtain ⟨_,_,_,_,o,_,_,e,_⟩:=x; exact Am e
 | dT kvs=>obtain ⟨_,_,_,_,o,_,_,e,_⟩:=x; exact Am e
 | set S n=>obtain ⟨o,_,_,_,e,_⟩:=x; exact Am e
 | ins C dx fs=>obtain ⟨_,_,_,e,_⟩:=x; exact Am e
 | own y=>obtain ⟨_,e⟩:=x; exact Am e
 | xd fs=>obtain ⟨_,⟨_,_,_,e,_⟩,_⟩:=x; exact Am e
 | rng lo hi=>obtain ⟨_,_,_,e⟩:=x; exact Am e
 | frz ob u=>obtain ⟨e,_⟩:=x; exact Am e
 | tbl ps=>exact Am (show h.get? a=some _ from x)
 | met f y=>exact Am (show h.get? a=some _ from x)
 | ext φ => obtain ⟨_,⟨_,e⟩,_⟩:=x; exact Am e
theorem C3.mapP {α β : Type} {F G : α -> β -> Prop}:∀ {l₁ : List α} {l₂ : List β},C3 F l₁ l₂ -> (∀ a b,F a b->G a b)->C3 G l₁ l₂
 | _,_,.nil,_ => .nil
 | _,_,.cons r t,f => .cons (f _ _ r) (C3.mapP t f)
theorem ObjOk.stay (x:ObjOk P w H h a o) (k:∀ b u,(b=a\/H b=some (.own a))->h.get? b=some u->h'.get? b=some u)
  (ho:∀ b,H b=some (.own a)->H' b=some (.own a)) (ht:∀ b xs,H b=some (.tup xs)->H' b=some (.tup xs)):ObjOk P w H' h' a o:=by
 induction o with
 | lst xs=>obtain ⟨z,its,n,r,e⟩:=x; exact ⟨z,its,n,r,k _ _ (.inl rfl) e⟩
 | tup xs=>obtain ⟨z,its,r,ob,e,c⟩:=x; exact ⟨z,its,r,ob,k _ _ (.inl rfl) e,c⟩
 | dK kvs=>obtain ⟨z,y,vs,r,ob,es,ep,e,c⟩:=x; exact ⟨z,y,vs,r,ob,es,ep,k _ _ (.inl rfl) e,c⟩
 | dT kvs =>
  obtain ⟨z,y,xs,r,ob,es,ep,e,c⟩:=x
  exact ⟨z,y,xs,C3.mapP r fun p q z=>⟨z.1,ht _ _ z.2.1,z.2.2⟩,ob,es,ep,k _ _ (.inl rfl) e,c⟩
 | set S n=>obtain ⟨ob,es,ep,t,e,c⟩:=x; exact ⟨ob,es,ep,t,k _ _ (.inl rfl) e,c⟩
 | ins C dx fs =>
  obtain ⟨d,z,ne,e,mA,⟨od,es,ep,e2,c⟩,r⟩:=x
  exact ⟨ho _ d,z,ne,k _ _ (.inl rfl) e,mA,⟨od,es,ep,k _ _ (.inr d) e2,c⟩,r⟩
 | own y=>obtain ⟨ob,e⟩:=x; exact ⟨ob,k _ _ (.inl rfl) e⟩
 | xd fs=>obtain ⟨mA,⟨od,es,ep,e,c⟩,r⟩:=x; exact ⟨mA,⟨od,es,ep,k _ _ (.inl rfl) e,c⟩,r⟩
 | rng lo hi=>obtain ⟨t,u,v,e⟩:=x; exact ⟨t,u,v,k _ _ (.inl rfl) e⟩
 | frz ob u ih=>obtain ⟨e,q⟩:=x; exact ⟨k _ _ (.inl rfl) e,ih q⟩
 | tbl ps =>
  have e:h.get? a=some { cls := .none,data := .fields ps }:=x
  show h'.get? a=some { cls := .none,data := .fields ps }
  exact k a _ (.inl rfl) e
 | met f y =>
  have e:h.get? a=some (Jl (.ref f) (.ref y)):=x
  show h'.get? a=some (Jl (.ref f) (.ref y))
  exact k a _ (.inl rfl) e
 | ext φ => obtain ⟨p,⟨o,e⟩,st⟩:=x; exact ⟨st _ _ p fun o q=>k _ _ (.inl rfl) q,⟨o,k _ _ (.inl rfl) e⟩,st⟩
theorem HOk.lt (x:HOk P w H h) (e:H a=some o):a < h.objs.size:=(x a o e).lt
theorem HOk.fresh (x:HOk P w H h) (e:h.objs.size<=a):H a=none:=by
 cases q:H a with
 | none=>rfl
 | some u=>exact absurd (Af (x.lt q) e) (Dq _)
theorem HOk.kept (x:HOk P w H h) (k:∀ b u,h.get? b=some u->h'.get? b=some u):HOk P w H h':=fun a o e =>
 (x a o e).stay (fun b u _ q=>k b u q) (fun _ q=>q) fun _ _ q=>q
theorem HOk.laid (x:HOk P w H h) (k:∀ b u,h.get? b=some u->h'.get? b=some u) (hp:h.objs.size<=a) (new:ObjOk P w (upd H a o) h' a o):HOk P w (upd H a o) h':=fun b u e=>by
 have hn:=x.fresh hp
 by_cases hb:b=a
 ·subst hb; rw [zac] at e; cases e; exact new
 ·rw [zah hb] at e
  exact (x b u e).stay (fun c v _ q=>k c v q) (fun c q=>by rw [zah (zal q hn)]; exact q) fun c xs q=>by rw [zah (zal q hn)]; exact q
end
noncomputable def Rd (H:Hp) (a:A3) (u:HO):Prop:=H a=some u\/∃ o,H a=some (.frz o u)
theorem Rd.ok {P:An} {w:B8} {H:Hp} {h:Br} {a:A3} {u:HO} (r:Rd H a u) (x:HOk P w H h):ObjOk P w H h a u:=by
 rcases r with r | ⟨o,r⟩
 ·exact x a u r
 ·obtain ⟨_,q⟩:=x a _ r
  exact q
noncomputable def Mut:Option HO->Prop
 | some (.lst _)=>True
 | some (.dK _)=>True
 | some (.dT _)=>True
 | some (.set _ _)=>True
 | some (.ins _ _ _)=>True
 | some (.ext _)=>True
 | _=>False
section
variable {P:An} {w:B8} {H:Hp} {h h':Br} {x e:A3} {o':HO}
theorem HOk.write (ok:HOk P w H h) (mu:Mut (H x)) (he:e=x\/H e=some (.own x)) (k:∀ b u,b≠e->h.get? b=some u->h'.get? b=some u) (heo:∃ u,h'.get? e=some u)
  (new:ObjOk P w (upd H x o') h' x o'):HOk P w (upd H x o') h':=fun b u q=>by
 have nown:∀ c y,H c=some (.own y)->c≠x:=fun c y r z=>by subst z; rw [r] at mu; exact mu
 have ntup:∀ c xs,H c=some (.tup xs)->c≠x:=fun c xs r z=>by subst z; rw [r] at mu; exact mu
 by_cases hb:b=x
 ·subst hb; rw [zac] at q; cases q; exact new
 ·rw [zah hb] at q
  by_cases hbe:b=e
  ·have q':H b=some (.own x):=by
    rcases he with z | z
    ·exact absurd (hbe.trans z) hb
    ·rw [hbe]; exact z
   rw [q] at q'; cases q'
   obtain ⟨v,hv⟩:=heo
   exact ⟨v,by rw [hbe]; exact hv⟩
  ·refine (ok b u q).stay (fun c v hc r=>k c v ?_ r) (fun c r=>by rw [zah (nown c b r)]; exact r) fun c xs r=>by rw [zah (ntup c xs r)]; exact r
   rcases hc with rfl | hc
   ·exact hbe
   ·rintro rfl
    rcases he with z | z
    ·exact nown c b hc z
    ·rw [hc] at z; cases z; exact hb rfl
end
structure Un (fs ex:List A3) (H H':Hp) (h h':Br):Prop where
 keep:∀ b o,h.get? b=some o->H b=none->b ∉ fs->b ∉ ex->h'.get? b=some o
 slot:∀ b o,h.get? b=some o->H b=none->b∈fs->b ∉ ex->∃ sl,h'.get? b=some { o with slots:=sl }
 free:∀ b o,h.get? b=some o->H b=none->b ∉ ex->H' b=none
 there:∀ b o,h.get? b=some o->b ∉ ex->∃ o',h'.get? b=some o'
 tups:∀ b xs,H b=some (.tup xs)->H' b=some (.tup xs)
 frzs:∀ b o u,H b=some (.frz o u)->H' b=some (.frz o u)
 tbls:∀ b ps,H b=some (.tbl ps)->∃ more,H' b=some (.tbl (ps ++ more))
section
variable {fs fs' ex ex':List A3} {H H1 H2:Hp} {h h1 h2 h':Br} {a x e:A3} {o:HO}
theorem Un.any (u:Un fs ex H H1 h h1) {b:A3} {ob:Obj} (q:h.get? b=some ob) (n:H b=none) (hx:b ∉ ex):∃ sl,h1.get? b=some { ob with slots:=sl }:=by
 by_cases hb:b∈fs
 ·exact u.slot b ob q n hb hx
 ·exact ⟨ob.slots,u.keep b ob q n hb hx⟩
theorem Un.trans (a:Un fs ex H H1 h h1) (b:Un fs ex H1 H2 h1 h2):Un fs ex H H2 h h2 where
 keep:=fun c ob q n hc hx=>b.keep c ob (a.keep c ob q n hc hx) (a.free c ob q n hx) hc hx
 slot:=fun c ob q n hc hx=>by
  obtain ⟨sl,e1⟩:=a.slot c ob q n hc hx
  obtain ⟨sl',e2⟩:=b.slot c _ e1 (a.free c ob q n hx) hc hx
  exact ⟨sl',e2⟩
 free:=fun c ob q n hx=>by
  obtain ⟨o',e1⟩:=a.there c ob q hx
  exact b.free c o' e1 (a.free c ob q n hx) hx
 there:=fun c ob q hx=>by
  obtain ⟨o',e1⟩:=a.there c ob q hx
  exact b.there c o' e1 hx
 tups:=fun c xs q=>b.tups c xs (a.tups c xs q)
 frzs:=fun c ob xs q=>b.frzs c ob xs (a.frzs c ob xs q)
 tbls:=fun c ps q=>by
  obtain ⟨m1,e1⟩:=a.tbls c ps q
  obtain ⟨m2,e2⟩:=b.tbls c _ e1
  exact ⟨m1 ++ m2,by rw [e2,Jn]⟩
theorem Un.kept (k:∀ b u,h.get? b=some u->h'.get? b=some u):Un fs ex H H h h' :=
 ⟨fun b ob q _ _ _=>k b ob q,fun b ob q _ _ _=>⟨ob.slots,k b ob q⟩,fun _ _ _ n _=>n,fun b ob q _=>⟨ob,k b ob q⟩,fun _ _ q=>q,fun _ _ _ q=>q,fun _ ps q=>⟨#[],by rw [q]; simp⟩⟩
theorem Un.refl:Un fs ex H H h h:=Un.kept fun _ _ q=>q
theorem Un.laid (k:∀ b u,h.get? b=some u->h'.get? b=some u) (hp:h.objs.size<=a) (hn:H a=none):Un fs ex H (upd H a o) h h' where
 keep:=fun b u q _ _ _=>k b u q
 slot:=fun b u q _ _ _=>⟨u.slots,k b u q⟩
 free:=fun b u q n _=>by rw [zah (B7 (Af (Am q) hp))]; exact n
 there:=fun b u q _=>⟨u,k b u q⟩
 tups:=fun b xs q=>by rw [zah (zal q hn)]; exact q
 frzs:=fun b u xs q=>by rw [zah (zal q hn)]; exact q
 tbls:=fun b ps q=>⟨#[],by rw [zah (zal q hn),q]; simp⟩
theorem Un.write (mu:Mut (H x)) (he:e=x\/H e=some (.own x)) (k:∀ b u,b≠e->h.get? b=some u->h'.get? b=some u) (heo:∃ u,h'.get? e=some u):Un fs ex H (upd H x o) h h':=by
 have hx:∀ b,H b=none->b≠x:=fun b n z=>by subst z; rw [n] at mu; exact mu
 have hb:∀ b,H b=none->b≠e:=fun b n z=>by
  subst z
  rcases he with r | r
  ·exact hx b n r
  ·rw [n] at r; cases r
 have hm:∀ b u,H b=some u->¬ Mut (some u)->b≠x:=fun b u q nm z=>by subst z; rw [q] at mu; exact nm mu
 refine ⟨fun b u q n _ _=>k b u (hb b n) q,fun b u q n _ _=>⟨u.slots,k b u (hb b n) q⟩,fun b u q n _=>by rw [zah (hx b n)]; exact n,fun b u q _ => ?_,
  fun b xs q=>by rw [zah (hm b _ q fun z=>z)]; exact q,fun b u xs q=>by rw [zah (hm b _ q fun z=>z)]; exact q,fun b ps q=>⟨#[],by rw [zah (hm b _ q fun z=>z),q]; simp⟩⟩
 by_cases hbe:b=e
 ·subst hbe; exact heo
 ·exact ⟨u,k b u hbe q⟩
end
noncomputable def trk (h:Br) (H:Hp):List A3:=(Ac h.objs.size).filter fun a=>(H a).isSome
noncomputable def hidT (h:Br) (H:Hp):Br:=Dt h (trk h H)
theorem hidT_size (h:Br) (H:Hp):(hidT h H).objs.size=h.objs.size:=PySem.W.hideAll_size _ _
theorem hidT_get {h:Br} {H:Hp} {b:A3} {o:Obj} (e:h.get? b=some o) (n:H b=none):(hidT h H).get? b=some o :=
 Ly _ e fun hm=>by
  have q:(H b).isSome=true:=(Bc.mp hm).2
  rw [n] at q; simp at q
theorem of_hidT {h:Br} {H:Hp} {b:A3} {o:Obj} (e:(hidT h H).get? b=some o):h.get? b=some o/\H b=none:=by
 have e':h.get? b=some o:=J7 (trk h H) e
 refine ⟨e',?_⟩
 cases q:H b with
 | none=>rfl
 | some x =>
  have hm:b∈trk h H:=Bc.mpr ⟨B9.mpr (Am e'),by simp [q]⟩
  have z:(hidT h H).get? b=none:=PySem.W.hideAll_none (trk h H) hm
  rw [z] at e; cases e
noncomputable def allNews (g h:Br) (L:A3):List (A3×Obj):=(Ac h.objs.size).filterMap fun a=>if a=L\/(g.get? a).isSome=true then none else (h.get? a).map fun o=>(a,o)
noncomputable def rest (g h:Br) (L d:A3):List (A3×Obj):=(allNews g h L).filter fun p=>decide (p.1≠d)
structure Mod (K:Al) (mg:Str->Option A1) (base:Br):Prop where
 kin:K.In base
 glob:base.Ns mainGlobals mg
 blt:∃ mb,base.Ns builtinsNs mb/\∀ x:Str,x ≠ "__name__" -> mb x=bootBuiltins x
 nolimit:base.NoLimit
structure Cx where
 prog:An
 w:B8
 K:Al
 mg:Str->Option A1
 base:Br
 A:B1
 N:List Str
 s₀ : A4
 H₀ : Hp
 env:Env
 outer:List Env
 stack:List Env
 ex:List A3
 fn:Str->Bool
 calm:Bool
 pn:List (A3×Obj)
 xe:A1->A4->Prop
noncomputable def frs (l:List Env):List A3:=l.filterMap (·.frame)
noncomputable abbrev Cx.fs (X:Cx):List A3:=frs X.outer
noncomputable def Vis (sc:F6) (x:Str):Prop:=sc.names.lookup x=some .local\/sc.names.lookup x=some .cell\/sc.names.lookup x=some .free
noncomputable def Loc (sc:F6) (x:Str):Prop:=sc.names.lookup x=some .local\/sc.names.lookup x=some .cell
noncomputable def Look (env:Env) (h:Br) (m:Str->Option A1) (x:Str) (u:A1):Prop :=
 (env.kindOf x=some .local/\m x=some u)\/((env.kindOf x=some .cell\/env.kindOf x=some .free)/\∃ c,env.cells.lookup x=some c/\h.IsCell c (some u))
structure Cx.Ok (X:Cx):Prop where
 mod:Mod X.K X.mg X.base
 kind:X.env.scope.kind = .function
 glob:X.env.globals=mainGlobals
 blt:X.env.builtins=builtinsNs
 above:X.s₀.heap.objs.size<=X.env.locals
 inj:∀ x y c,X.env.cells.lookup x=some c->X.env.cells.lookup y=some c->x=y
 has:∀ x,(X.env.kindOf x=some .cell\/X.env.kindOf x=some .free)->∃ c,X.env.cells.lookup x=some c
 cab:∀ x c,X.fn x=true->X.env.cells.lookup x=some c->X.s₀.heap.objs.size<=c
 hd:X.calm=true->X.A.handled=none
 frames:X.A.frames=some X.stack
 stk:X.stack=X.outer\/(X.stack=X.env :: X.outer/\X.env.frame=some X.env.locals)
 exf:∀ b∈X.ex,b≠X.env.locals/\∀ x c,X.env.cells.lookup x=some c->c≠b
 bs:∀ b o,X.base.get? b=some o->X.s₀.heap.get? b=some o/\X.H₀ b=none
 bsz:X.base.objs.size<=X.s₀.heap.objs.size
 noex:∀ b o,X.base.get? b=some o->b ∉ X.ex
 exfs:∀ b∈X.ex,b ∉ X.fs
 funs:X.s₀.heap.FunFrames X.base X.outer
 frf:∀ b∈X.fs,X.H₀ b=none
structure Inv (X:Cx) (pins:List (A3×Obj)) (σ : List (Option V)) (H:Hp) (s:A4):Prop where
 ok:X.Ok
 os:s.os=X.s₀.os
 bare:Gi s.gens
 base:Un X.fs X.ex X.H₀ H X.s₀.heap s.heap
 loc:∃ m,s.heap.Ns X.env.locals m/\∀ (i:Nat) (x:Str) (v:V),X.N[i]?=some x -> σ[i]?=some (some v)->Vis X.env.scope x->∃ u,RelV v u/\Look X.env s.heap m x u
 cell:∀ x c,X.env.cells.lookup x=some c->∃ v,s.heap.IsCell c v
 free:H X.env.locals=none
 freeC:∀ x c,X.env.cells.lookup x=some c->H c=none
 pin:∀ p∈X.pn ++ pins,s.heap.get? p.1=some p.2/\H p.1=none/\p.1≠X.env.locals/\p.1 ∉ X.fs/\∀ v,p.2.data ≠ .cell v
 hok:HOk X.prog X.w H s.heap
 len : σ.length=X.N.length
section
variable {X:Cx} {pins:List (A3×Obj)} {σ : List (Option V)} {H H':Hp} {s:A4} {h':Br}
theorem Cx.Ok.nofr (ok:X.Ok) {b:A3} {o:Obj} (e:X.base.get? b=some o):b ∉ X.fs:=fun hb=>by
 have:=(ok.funs.mem hb).1
 rw [e] at this; cases this
theorem Inv.bs (I:Inv X pins σ H s):∀ b o,X.base.get? b=some o->s.heap.get? b=some o/\H b=none:=fun b o e =>
 ⟨I.base.keep b o (I.ok.bs b o e).1 (I.ok.bs b o e).2 (I.ok.nofr e) (I.ok.noex b o e),I.base.free b o (I.ok.bs b o e).1 (I.ok.bs b o e).2 (I.ok.noex b o e)⟩
theorem Inv.bk (I:Inv X pins σ H s):∀ b o,X.base.get? b=some o->s.heap.get? b=some o:=fun b o e=>(I.bs b o e).1
theorem Inv.mod (I:Inv X pins σ H s):Mod X.K X.mg X.base:=I.ok.mod
theorem Inv.kIn (I:Inv X pins σ H s):X.K.In s.heap:=I.ok.mod.kin.keeps I.bk
theorem Inv.lt (I:Inv X pins σ H s):X.env.locals < s.heap.objs.size:=let ⟨_,hn,_⟩:=I.loc; hn.lt
theorem Inv.sz (I:Inv X pins σ H s):X.s₀.heap.objs.size<=s.heap.objs.size:=C0 I.ok.above (Fw I.lt)
theorem Inv.nofs (I:Inv X pins σ H s) {a:A3} (h:s.heap.objs.size<=a):a ∉ X.fs:=fun hb=>by
 obtain ⟨_,o,ho,_⟩:=I.ok.funs.mem hb
 exact absurd (Af (Am ho) (C0 I.sz h)) (Dq _)
theorem Inv.cne (I:Inv X pins σ H s):∀ x c,X.env.cells.lookup x=some c->c≠X.env.locals:=fun x c e z=>by
 obtain ⟨v,o,ho,hd⟩:=I.cell x c e
 obtain ⟨m,⟨o',es,ep,ho',hd',_⟩,_⟩:=I.loc
 rw [z,ho'] at ho; cases ho; rw [hd'] at hd; cases hd
theorem Inv.funs (I:Inv X pins σ H s):s.heap.FunFrames X.base X.outer:=by
 have all:∀ (l:List Env),(∀ b∈frs l,b∈X.fs)->X.s₀.heap.FunFrames X.base l->s.heap.FunFrames X.base l:=by
  intro l
  induction l with
  | nil=>intro _ _; trivial
  | cons env r ih =>
   intro hs hl
   obtain ⟨hk,⟨L,o,hf,hn,ho,hd⟩,hr⟩:=hl
   have hL:L∈X.fs:=hs L (by unfold frs; rw [Jf,hf]; exact Ag)
   obtain ⟨sl,e⟩:=I.base.slot L o ho (I.ok.frf L hL) hL fun z=>I.ok.exfs L z hL
   exact ⟨hk,⟨L,_,hf,hn,e,hd⟩,ih (fun b hb=>hs b (by unfold frs; rw [Jf,hf]; exact A8 _ hb)) hr⟩
 exact all X.outer (fun _ hb=>hb) I.ok.funs
theorem Inv.stack (I:Inv X pins σ H s):s.heap.FunFrames X.base X.stack:=by
 rcases I.ok.stk with e | ⟨e,hf⟩
 ·rw [e]; exact I.funs
 ·rw [e]
  obtain ⟨m,hn,_⟩:=I.loc
  refine .cons (by rw [I.ok.kind]; decide) hf hn ?_ I.funs
  exact Heap.get?_none_of_le (C0 I.ok.bsz I.ok.above)
theorem Inv.stkSub (I:Inv X pins σ H s):∀ b∈frs X.stack,b∈X.env.locals :: X.fs:=fun b hb=>by
 rcases I.ok.stk with e | ⟨e,hf⟩
 ·rw [e] at hb; exact A8 _ hb
 ·rw [e] at hb
  unfold frs at hb
  rw [Jf,hf] at hb
  exact hb
theorem Inv.stkFree (I:Inv X pins σ H s):∀ b∈frs X.stack,H b=none:=fun b hb=>by
 rcases B6.mp (I.stkSub b hb) with e | hb
 ·rw [e]; exact I.free
 ·obtain ⟨_,o,ho,_⟩:=I.ok.funs.mem hb
  exact I.base.free b o ho (I.ok.frf b hb) fun z=>I.ok.exfs b z hb
theorem Inv.step {g':Array GenState} {t':Nat} {d':Drawn} {ch:List A3} (I:Inv X pins σ H s)
  (hch:∀ b∈ch,(b∈X.ex\/X.s₀.heap.objs.size<=b)/\b≠X.env.locals/\(∀ x c,X.env.cells.lookup x=some c->c≠b)/\∀ p∈X.pn ++ pins,p.1≠b)
  (keep:∀ b o,b≠X.env.locals->b ∉ X.fs->b ∉ ch->s.heap.get? b=some o->H b=none->h'.get? b=some o)
  (slot:∀ b o,b≠X.env.locals->b∈X.fs->b ∉ ch->s.heap.get? b=some o->H b=none->∃ sl,h'.get? b=some { o with slots:=sl }) (free:∀ b o,b ∉ ch->s.heap.get? b=some o->H b=none->H' b=none)
  (there:∀ b o,b ∉ ch->s.heap.get? b=some o->∃ o',h'.get? b=some o')
  (tups:∀ b xs,H b=some (.tup xs)->H' b=some (.tup xs)) (frzs:∀ b o u,H b=some (.frz o u)->H' b=some (.frz o u)) (tbls:∀ b ps,H b=some (.tbl ps)->∃ more,H' b=some (.tbl (ps ++ more)))
  (ns:∀ m,s.heap.Ns X.env.locals m->h'.Ns X.env.locals m) (hok:HOk X.prog X.w H' h') (hg:Gi g') :
  Inv X pins σ H' { s with heap:=h',gens:=g',drawn:=d',toks:=t' }:=by
 have neL:∀ b o,X.s₀.heap.get? b=some o->b≠X.env.locals:=fun b o e=>B7 (Af (Am e) I.ok.above)
 have neC:∀ b o,X.s₀.heap.get? b=some o->b ∉ X.ex->b ∉ ch:=fun b o e hx hb=>by
  rcases (hch b hb).1 with z | z
  ·exact hx z
  ·exact absurd (Af (Am e) z) (Dq _)
 have cellK:∀ x c,X.env.cells.lookup x=some c->∀ v,s.heap.IsCell c v->h'.IsCell c v:=fun x c e v ⟨o,ho,hd⟩=>by
  have nch:c ∉ ch:=fun z=>(hch c z).2.2.1 x c e rfl
  by_cases hc:c∈X.fs
  ·obtain ⟨sl,q⟩:=slot c o (I.cne x c e) hc nch ho (I.freeC x c e)
   exact ⟨_,q,hd⟩
  ·exact ⟨o,keep c o (I.cne x c e) hc nch ho (I.freeC x c e),hd⟩
 refine ⟨I.ok,I.os,hg,⟨fun b o e n hb hx => ?_,fun b o e n hb hx => ?_,fun b o e n hx => ?_,fun b o e hx => ?_,fun b xs e=>tups b xs (I.base.tups b xs e),fun b o xs e=>frzs b o xs (I.base.frzs b o xs e),fun b ps e => ?_⟩,?_,fun x c e => ?_,?_,fun x c e => ?_,fun p hp => ?_,hok,I.len⟩
 ·exact keep b o (neL b o e) hb (neC b o e hx) (I.base.keep b o e n hb hx) (I.base.free b o e n hx)
 ·obtain ⟨sl,e1⟩:=I.base.slot b o e n hb hx
  obtain ⟨sl',e2⟩:=slot b _ (neL b o e) hb (neC b o e hx) e1 (I.base.free b o e n hx)
  exact ⟨sl',e2⟩
 ·obtain ⟨o',e1⟩:=I.base.there b o e hx
  exact free b o' (neC b o e hx) e1 (I.base.free b o e n hx)
 ·obtain ⟨o',e1⟩:=I.base.there b o e hx
  exact there b o' (neC b o e hx) e1
 ·obtain ⟨m1,e1⟩:=I.base.tbls b ps e
  obtain ⟨m2,e2⟩:=tbls b _ e1
  exact ⟨m1 ++ m2,by rw [e2,Jn]⟩
 ·obtain ⟨m,hn,hl⟩:=I.loc
  refine ⟨m,ns m hn,fun i x v e1 e2 e3 => ?_⟩
  obtain ⟨u,r,l⟩:=hl i x v e1 e2 e3
  refine ⟨u,r,?_⟩
  rcases l with l | ⟨k,c,e,z⟩
  ·exact .inl l
  ·exact .inr ⟨k,c,e,cellK x c e _ z⟩
 ·obtain ⟨v,z⟩:=I.cell x c e
  exact ⟨v,cellK x c e v z⟩
 ·obtain ⟨m,⟨o,_,_,ho,_⟩,_⟩:=I.loc
  exact free _ o (fun z=>(hch _ z).2.1 rfl) ho I.free
 ·obtain ⟨v,o,ho,hd⟩:=I.cell x c e
  exact free c o (fun z=>(hch c z).2.2.1 x c e rfl) ho (I.freeC x c e)
 ·obtain ⟨e,n,ne,nf,d⟩:=I.pin p hp
  have nch:p.1 ∉ ch:=fun z=>(hch p.1 z).2.2.2 p hp rfl
  exact ⟨keep p.1 p.2 ne nf nch e n,free p.1 p.2 nch e n,ne,nf,d⟩
theorem Inv.un {t':Nat} (I:Inv X pins σ H s) (u:Un X.fs [] H H' s.heap h') (hok:HOk X.prog X.w H' h'):Inv X pins σ H' { s with heap:=h',toks:=t' }:=by
 obtain ⟨m,⟨o,es,ep,ho,r⟩,_⟩:=id I.loc
 obtain ⟨sl,hL⟩:=u.any ho I.free (by simp)
 exact I.step (g':=s.gens) (d':=s.drawn) (ch := []) (fun _ z=>nomatch z) (fun b o _ hb _ e n=>u.keep b o e n hb (by simp)) (fun b o _ hb _ e n=>u.slot b o e n hb (by simp)) (fun b o _ e n=>u.free b o e n (by simp)) (fun b o _ e=>u.there b o e (by simp)) u.tups u.frzs u.tbls (fun m' hm=>by
  obtain ⟨o',es',ep',ho',r'⟩:=hm
  rw [ho] at ho'; cases ho'
  exact ⟨_,es',ep',hL,r'⟩) hok I.bare
theorem Inv.call {g':Array GenState} {t':Nat} {d':Drawn} {ch:List A3} (I:Inv X pins σ H s) (u:Un (frs X.stack) ch H H' s.heap h') (hok:HOk X.prog X.w H' h') (hg:Gi g')
  (hch:∀ b∈ch,(b∈X.ex\/X.s₀.heap.objs.size<=b)/\b≠X.env.locals/\(∀ x c,X.env.cells.lookup x=some c->c≠b)/\∀ p∈X.pn ++ pins,p.1≠b) :
  Inv X pins σ H' { s with heap:=h',gens:=g',drawn:=d',toks:=t' }:=by
 obtain ⟨m,⟨o,es,ep,ho,r⟩,_⟩:=id I.loc
 obtain ⟨sl,hL⟩:=u.any ho I.free fun z=>(hch _ z).2.1 rfl
 exact I.step (ch:=ch) hch (fun b o hL hb hc e n=>u.keep b o e n (fun z=>(B6.mp (I.stkSub b z)).elim hL hb) hc) (fun b o _ _ hc e n=>u.any e n hc) (fun b o hc e n=>u.free b o e n hc) (fun b o hc e=>u.there b o e hc) u.tups u.frzs u.tbls (fun m' hm=>by
  obtain ⟨o',es',ep',ho',r'⟩:=hm
  rw [ho] at ho'; cases ho'
  exact ⟨_,es',ep',hL,r'⟩) hok hg
theorem Inv.turned {t':Nat} {it:A3} (I:Inv X pins σ H s) (k:∀ b o,b≠it->s.heap.get? b=some o->h'.get? b=some o) (hn:H it=none) (hL:it≠X.env.locals)
  (h1:it∈X.ex\/X.s₀.heap.objs.size<=it) (h2:∀ x c,X.env.cells.lookup x=some c->c≠it) (h3:∀ p∈X.pn ++ pins,p.1≠it):Inv X pins σ H { s with heap:=h',toks:=t' }:=by
 have nit:∀ b u,H b=some u->b≠it:=fun b u e z=>by rw [z,hn] at e; cases e
 refine I.step (g':=s.gens) (d':=s.drawn) (ch := [it]) (fun b hb => ?_) (fun b o _ _ hc e _=>k b o (fun z=>hc (by simp [z])) e) (fun b o _ _ hc e _=>⟨o.slots,k b o (fun z=>hc (by simp [z])) e⟩) (fun _ _ _ _ n=>n)
  (fun b o hc e=>⟨o,k b o (fun z=>hc (by simp [z])) e⟩) (fun _ _ e=>e) (fun _ _ _ e=>e) (fun b ps e=>⟨#[],by rw [e]; simp⟩) (fun m hm => ?_) (fun b u e => ?_) I.bare
 ·have e:b=it:=by simpa using hb
  subst e
  exact ⟨h1,hL,h2,h3⟩
 ·obtain ⟨o,es,ep,ho,r⟩:=hm
  exact ⟨o,es,ep,k _ o (Dy hL) ho,r⟩
 ·refine (I.hok b u e).stay (fun c v hc q=>k c v ?_ q) (fun _ q=>q) fun _ _ q=>q
  rcases hc with z | z
  ·rw [z]; exact nit b u e
  ·exact nit c _ z
theorem Inv.tok (I:Inv X pins σ H s) (t:Nat):Inv X pins σ H { s with toks:=t }:=I.un (h':=s.heap) (t':=t) Un.refl I.hok
theorem Inv.kept {t':Nat} (I:Inv X pins σ H s) (k:∀ b u,s.heap.get? b=some u->h'.get? b=some u):Inv X pins σ H { s with heap:=h',toks:=t' }:=I.un (Un.kept k) (I.hok.kept k)
theorem Inv.laid {a:A3} {o:HO} {t':Nat} (I:Inv X pins σ H s) (k:∀ b u,s.heap.get? b=some u->h'.get? b=some u) (hp:s.heap.objs.size<=a) (new:ObjOk X.prog X.w (upd H a o) h' a o) :
  Inv X pins σ (upd H a o) { s with heap:=h',toks:=t' }:=I.un (Un.laid k hp (I.hok.fresh hp)) (I.hok.laid k hp new)
theorem Inv.write {x e:A3} {o:HO} {t':Nat} (I:Inv X pins σ H s) (mu:Mut (H x)) (he:e=x\/H e=some (.own x)) (k:∀ b u,b≠e->s.heap.get? b=some u->h'.get? b=some u) (heo:∃ u,h'.get? e=some u)
  (new:ObjOk X.prog X.w (upd H x o) h' x o):Inv X pins σ (upd H x o) { s with heap:=h',toks:=t' }:=I.un (Un.write mu he k heo) (I.hok.write mu he k heo new)
theorem Inv.weak {σ':List (Option V)} (I:Inv X pins σ H s) (hl : σ'.length = σ.length) (w:∀ (i:Nat) v,σ'[i]?=some (some v) -> σ[i]?=some (some v)):Inv X pins σ' H s :=
 ⟨I.ok,I.os,I.bare,I.base,let ⟨m,hn,hl'⟩:=I.loc; ⟨m,hn,fun i x v e1 e2 e3=>hl' i x v e1 (w i v e2) e3⟩,I.cell,I.free,I.freeC,I.pin,I.hok,hl.trans I.len⟩
theorem Inv.pins_of {pins':List (A3×Obj)} (I:Inv X pins σ H s) (h:∀ p∈pins',s.heap.get? p.1=some p.2/\H p.1=none/\p.1≠X.env.locals/\p.1 ∉ X.fs/\∀ v,p.2.data ≠ .cell v):Inv X pins' σ H s :=
 ⟨I.ok,I.os,I.bare,I.base,I.loc,I.cell,I.free,I.freeC,fun p hp=>(Ao.mp hp).elim (fun z=>I.pin p (Bf _ z)) (h p),I.hok,I.len⟩
theorem zfw {N:List Str} (hN:N.Nodup) {i j:Nat} {x:Str} (a:N[i]?=some x) (b:N[j]?=some x):i=j:=by
 obtain ⟨h1,e1⟩:=Av.mp a
 obtain ⟨h2,e2⟩:=Av.mp b
 exact (List.getElem_inj hN).mp (e1.trans e2.symm)
theorem zea {M:Hm} {A:B1} {E:A1->A4->Prop} {i:Nat} {x:Str} {v:V} {u:A1} {Q:Unit->A4->Prop} (I:Inv X pins σ H s) (hN:X.N.Nodup) (hi:X.N[i]?=some x) (hx:Loc X.env.scope x) (r:RelV v u)
  (h:∀ s',Inv X pins (σ.set i (some v)) H s'->(∃ a,Fb a s.heap s'.heap/\(a=X.env.locals\/X.env.cells.lookup x=some a))->Q () s') (hf:X.fn x=true\/X.env.scope.names.lookup x=some .local:=by first | exact .inl rfl | exact .inr rfl | assumption):wpAny M A (storeName X.env x u) Q E s:=by
 obtain ⟨m,hn,hl⟩:=id I.loc
 have hcls:(X.env.scope.kind == .class || (X.env.scope.kind == .module && X.env.locals != X.env.globals))=false:=by rw [I.ok.kind]; rfl
 have hiσ : i < σ.length:=by rw [I.len]; exact (Av.mp hi).1
 have cne:=I.cne
 have tracked:∀ {a:A3} {h':Br},(∃ o,s.heap.get? a=some o/\H a=none)->Fb a s.heap h'->HOk X.prog X.w H h':=fun {a h'} ha hs b ob e=>by
  obtain ⟨_,_,hfree⟩:=ha
  refine (I.hok b ob e).stay (fun c w' hc q=>(hs.2 c ?_).trans q) (fun _ q=>q) fun _ _ q=>q
  rintro rfl
  rcases hc with rfl | hc
  ·rw [hfree] at e; cases e
  ·rw [hfree] at hc; cases hc
 rcases hx with hk | hk
 ·refine wpAny_storeName_local hk hn (fun h' hn' hs => ?_) hcls
  obtain ⟨oL,_,_,hoL,_⟩:=id hn
  refine h _ ⟨I.ok,I.os,I.bare,⟨fun b o e n hb hx => ?_,fun b o e n hb hx => ?_,I.base.free,fun b o e hx => ?_,I.base.tups,I.base.frzs,I.base.tbls⟩,⟨_,hn',fun j y v' e1 e2 e3 => ?_⟩,fun y c e => ?_,I.free,I.freeC,fun p hp => ?_,tracked ⟨oL,hoL,I.free⟩ hs,by simpa using I.len⟩ ⟨_,hs,.inl rfl⟩
  ·exact (hs.2 b (B7 (Af (Am e) I.ok.above))).trans (I.base.keep b o e n hb hx)
  ·obtain ⟨sl,e1⟩:=I.base.slot b o e n hb hx
   exact ⟨sl,(hs.2 b (B7 (Af (Am e) I.ok.above))).trans e1⟩
  ·obtain ⟨o',e1⟩:=I.base.there b o e hx
   exact ⟨o',(hs.2 b (B7 (Af (Am e) I.ok.above))).trans e1⟩
  ·by_cases hj:j=i
   ·subst hj
    rw [hi] at e1; cases e1
    rw [M3 hiσ] at e2
    cases e2
    exact ⟨u,r,.inl ⟨hk,by simp⟩⟩
   ·rw [Mo (Dy hj)] at e2
    obtain ⟨u',r',q⟩:=hl j y v' e1 e2 e3
    refine ⟨u',r',?_⟩
    rcases q with ⟨k,e⟩ | ⟨k,c,e,z⟩
    ·refine .inl ⟨k,?_⟩
     have:y≠x:=fun e=>hj (zfw hN e1 (e ▸ hi))
     simp [this,e]
    ·exact .inr ⟨k,c,e,z.sameBut hs (cne y c e)⟩
  ·obtain ⟨w',z⟩:=I.cell y c e
   exact ⟨w',z.sameBut hs (cne y c e)⟩
  ·obtain ⟨e,n,ne,nf,d⟩:=I.pin p hp
   exact ⟨(hs.2 p.1 ne).trans e,n,ne,nf,d⟩
 ·have hfn:X.fn x=true:=by
   rcases hf with z | z
   ·exact z
   ·rw [z] at hk; cases hk
  obtain ⟨c,hc⟩:=I.ok.has x (.inl hk)
  obtain ⟨w',z⟩:=I.cell x c hc
  refine wpAny_storeName_cell I.ok.kind hk hc z (fun h' hc' hs => ?_)
  obtain ⟨oc,hoc,hocd⟩:=id z
  refine h { s with heap:=h' } ⟨I.ok,I.os,I.bare,⟨fun b o e n hb hx => ?_,fun b o e n hb hx => ?_,I.base.free,fun b o e hx => ?_,I.base.tups,I.base.frzs,I.base.tbls⟩,⟨m,hn.sameBut hs (Dy (cne x c hc)),fun j y v' e1 e2 e3 => ?_⟩,fun y c' e => ?_,I.free,I.freeC,fun p hp => ?_,tracked ⟨oc,hoc,I.freeC x c hc⟩ hs,by simpa using I.len⟩ ⟨c,hs,.inr hc⟩
  ·exact (hs.2 b (B7 (Af (Am e) (I.ok.cab x c hfn hc)))).trans (I.base.keep b o e n hb hx)
  ·obtain ⟨sl,e1⟩:=I.base.slot b o e n hb hx
   exact ⟨sl,(hs.2 b (B7 (Af (Am e) (I.ok.cab x c hfn hc)))).trans e1⟩
  ·obtain ⟨o',e1⟩:=I.base.there b o e hx
   exact ⟨o',(hs.2 b (B7 (Af (Am e) (I.ok.cab x c hfn hc)))).trans e1⟩
  ·by_cases hj:j=i
   ·subst hj
    rw [hi] at e1; cases e1
    rw [M3 hiσ] at e2
    cases e2
    exact ⟨u,r,.inr ⟨.inl hk,c,hc,hc'⟩⟩
   ·rw [Mo (Dy hj)] at e2
    obtain ⟨u',r',q⟩:=hl j y v' e1 e2 e3
    refine ⟨u',r',?_⟩
    rcases q with q | ⟨k,c',e,z'⟩
    ·exact .inl q
    ·refine .inr ⟨k,c',e,z'.sameBut hs ?_⟩
     rintro rfl
     exact hj (zfw hN e1 (I.ok.inj _ _ _ e hc ▸ hi))
  ·by_cases hcc:c'=c
   ·subst hcc; exact ⟨_,hc'⟩
   ·obtain ⟨w2,z2⟩:=I.cell y c' e
    exact ⟨w2,z2.sameBut hs hcc⟩
  ·obtain ⟨e,n,ne,nf,d⟩:=I.pin p hp
   refine ⟨(hs.2 p.1 ?_).trans e,n,ne,nf,d⟩
   intro q
   rw [q,hoc] at e
   have q':oc=p.2:=C1 e
   exact d w' (by rw [<- q']; exact hocd)
theorem zdM {M:Hm} {A:B1} {E:A1->A4->Prop} {i:Nat} {x:Str} {v:V} {u:A1} {Q:Unit->A4->Prop} (I:Inv X pins σ H s) (hN:X.N.Nodup) (hi:X.N[i]?=some x) (hx:Loc X.env.scope x) (r:RelV v u)
  (h:∀ s',Inv X pins (σ.set i (some v)) H s'->Q () s') (hf:X.fn x=true\/X.env.scope.names.lookup x=some .local:=by first | exact .inl rfl | exact .inr rfl | assumption):wpAny M A (storeName X.env x u) Q E s :=
 zea I hN hi hx r (fun s' I' _=>h s' I') hf
theorem Inv.call' {s':A4} {ch:List A3} (I:Inv X pins σ H s) (ho:s'.os=s.os) (u:Un (frs X.stack) ch H H' s.heap s'.heap) (hok:HOk X.prog X.w H' s'.heap) (hg:Gi s'.gens)
  (hch:∀ b∈ch,(b∈X.ex\/X.s₀.heap.objs.size<=b)/\b≠X.env.locals/\(∀ x c,X.env.cells.lookup x=some c->c≠b)/\∀ p∈X.pn ++ pins,p.1≠b):Inv X pins σ H' s':=by
 obtain ⟨h',g',d',t',o'⟩:=s'
 have e:o'=s.os:=ho
 subst e
 exact I.call (g':=g') (t':=t') (d':=d') u hok hg hch
end
noncomputable abbrev XK:=A1->Option A3->Hp->Prop
noncomputable abbrev St:=List (Option V)
noncomputable abbrev VK:=V->Hp->Prop
noncomputable abbrev TE:=St->Hp->VK->Prop
noncomputable abbrev TT:=St->Hp->(Bool->Hp->Prop)->Prop
noncomputable abbrev TA:=St->Hp->(List V->Hp->Prop)->Prop
structure Ends where
 nx:St->Hp->Prop
 rt:VK
 bk:St->Hp->Prop:=fun _ _=>False
 ct:St->Hp->Prop:=fun _ _=>False
noncomputable abbrev TS:=Ends->St->Hp->Prop
noncomputable def EP (X:Cx) (pins:List (A3×Obj)) (σ : St) (Q:VK) (u:A1) (s':A4):Prop:=∃ v H',Inv X pins σ H' s'/\RelV v u/\Q v H'
noncomputable def TP (X:Cx) (pins:List (A3×Obj)) (σ : St) (Q:Bool->Hp->Prop) (b:Bool) (s':A4):Prop:=∃ H',Inv X pins σ H' s'/\Q b H'
noncomputable def AP (X:Cx) (pins:List (A3×Obj)) (σ : St) (Q:List V->Hp->Prop) (us:List A1) (s':A4):Prop:=∃ vs H',Inv X pins σ H' s'/\Vals vs us/\Q vs H'
noncomputable def SP (X:Cx) (pins:List (A3×Obj)) (D:Ends) (f:Flow) (s':A4):Prop :=
 match f with
 | .next=>∃ σ' H',Inv X pins σ' H' s'/\D.nx σ' H'
 | .brk=>∃ σ' H',Inv X pins σ' H' s'/\D.bk σ' H'
 | .cont=>∃ σ' H',Inv X pins σ' H' s'/\D.ct σ' H'
 | .ret u=>∃ v σ' H',Inv X pins σ' H' s'/\RelV v u/\D.rt v H'
noncomputable def PE (X:Cx) (e:Ca) (t:TE):Prop :=
 ∀ (pins:List (A3×Obj)) (s:A4) (σ : St) (H:Hp) (Q:VK),Inv X pins σ H s->t σ H Q->wpAny (model X.prog X.w) X.A (eval e X.env) (EP X pins σ Q) X.xe s
noncomputable def PT (X:Cx) (e:Ca) (t:TT):Prop :=
 ∀ (pins:List (A3×Obj)) (s:A4) (σ : St) (H:Hp) (Q:Bool->Hp->Prop),Inv X pins σ H s->t σ H Q->wpAny (model X.prog X.w) X.A (isTrue e X.env (eval e X.env)) (TP X pins σ Q) X.xe s
noncomputable def PW (X:Cx) (e:Ca) (t:TT):Prop :=
 ∀ (whole:Sem A1) (pins:List (A3×Obj)) (s:A4) (σ : St) (H:Hp) (Q:Bool->Hp->Prop),Inv X pins σ H s->t σ H Q->wpAny (model X.prog X.w) X.A (isTrue e X.env whole) (TP X pins σ Q) X.xe s
theorem PW.pt {X:Cx} {e:Ca} {t:TT} (h:PW X e t):PT X e t:=h _
noncomputable def PA (X:Cx) (es:List Ca) (t:TA):Prop :=
 ∀ (pos:Pos) (pins:List (A3×Obj)) (s:A4) (σ : St) (H:Hp) (Q:List V->Hp->Prop),Inv X pins σ H s->t σ H Q->wpAny (model X.prog X.w) X.A (spliced (backTo pos (starEach es X.env))) (AP X pins σ Q) X.xe s
noncomputable def PS (X:Cx) (st:Cd) (t:TS):Prop :=
 ∀ (pins:List (A3×Obj)) (s:A4) (σ : St) (H:Hp) (D:Ends),Inv X pins σ H s->t D σ H->wpAny (model X.prog X.w) X.A (exec st X.env) (SP X pins D) X.xe s
noncomputable def PSs (X:Cx) (st:List Cd) (t:TS):Prop :=
 ∀ (pins:List (A3×Obj)) (s:A4) (σ : St) (H:Hp) (D:Ends),Inv X pins σ H s->t D σ H->wpAny (model X.prog X.w) X.A (execs st X.env) (SP X pins D) X.xe s
theorem thn {α : Type} {t:Sem α} {Q Q' : α -> A4->Prop} {M:Hm} {A:B1} {E:A1->A4->Prop} {s:A4} (h:wpAny M A t Q E s) (hQ:∀ a s,Q a s->Q' a s):wpAny M A t Q' E s:=D9 h hQ fun _ _ x=>x
section
variable {X:Cx}
theorem bin {a b:Ca} {ta tb:TE} (ha:PE X a ta) (hb:PE X b tb) {pins:List (A3×Obj)} {s:A4} {σ : St} {H:Hp} {R:V->V->Hp->Prop} (I:Inv X pins σ H s) (h:ta σ H fun x H1=>tb σ H1 fun y H2=>R x y H2)
  {α : Type} {Q : α -> A4->Prop} {f:A1->A1->Sem α}
  (hf:∀ v u s2 x y H2,Inv X pins σ H2 s2->RelV x v->RelV y u->R x y H2->wpAny (model X.prog X.w) X.A (f v u) Q X.xe s2) :
  wpAny (model X.prog X.w) X.A (eval a X.env) (fun v s₁ => wpAny (model X.prog X.w) X.A (eval b X.env) (fun u s₂ => wpAny (model X.prog X.w) X.A (f v u) Q X.xe s₂) X.xe s₁) X.xe s:=by
 refine thn (ha pins s σ H _ I h) fun v s1 ⟨x,H1,I1,r1,q1⟩ => ?_
 refine thn (hb pins s1 σ H1 _ I1 q1) fun u s2 ⟨y,H2,I2,r2,q2⟩ => ?_
 exact hf v u s2 x y H2 I2 r1 r2 q2
noncomputable def tVar (i:Nat):TE:=fun σ H Q=>∃ v,σ[i]?=some (some v)/\Q v H
noncomputable def tC (v:V):TE:=fun _ H Q=>Q v H
theorem pe_var {i:Nat} {x:Str} {pos:Pos} (hN:X.N[i]?=some x) (hv:Vis X.env.scope x) (hd:(x == ("__debug__" : Str))=false:=by decide) (hcd:(x == ("__classdict__" : Str))=false:=by decide):PE X (.Name x pos) (tVar i):=by
 intro pins s σ H Q I h
 obtain ⟨v,e,h⟩:=h
 obtain ⟨m,hn,hl⟩:=I.loc
 obtain ⟨u,r,l⟩:=hl i x v hN e hv
 have fin:EP X pins σ Q u s:=⟨v,H,I,r,h⟩
 rcases l with ⟨hk,hm⟩ | ⟨hk,c,hc,hcell⟩
 ·exact Of (wpAny_loadName_local I.ok.kind hk hn hm fin) hd
 ·rcases hk with hk | hk
  ·exact Of (wpAny_loadName_cell I.ok.kind hk hc hcell fin) hd
  ·exact Of (wpAny_loadName_free I.ok.kind hk hc hcell fin hcd) hd
theorem zab {i j pos}:PE X (.Constant (.int i) j pos) (tC (.int i)):=fun _ _ _ H _ I h=>wpAny_Constant_int ⟨.int i,H,I.tok _,⟨_,rfl⟩,h⟩
theorem zb6 {b j pos}:PE X (.Constant (.bool b) j pos) (tC (.bl b)):=fun _ _ _ H _ I h=>Constant_bool ⟨.bl b,H,I,rfl,h⟩
theorem zgW {j pos}:PE X (.Constant .none j pos) (tC .non):=fun _ _ _ H _ I h=>Constant_none ⟨.non,H,I,rfl,h⟩
theorem zau {x j pos}:PE X (.Constant (.str x) j pos) (tC (.str x)):=fun _ _ _ H _ I h=>Calls.Constant_str ⟨.str x,H,I.tok _,⟨_,rfl⟩,h⟩
noncomputable def Gl (X:Cx) (x:Str):Prop:=X.env.kindOf x=some .globalImplicit
theorem zcB {E:A1->A4->Prop} {pins:List (A3×Obj)} {s:A4} {σ : St} {H:Hp} {x:Str} {u:A1} {pos:Pos} {Q:A1->A4->Prop} (I:Inv X pins σ H s) (hg:Gl X x) (hm:X.mg x=some u) (h:Q u s)
  (hd:(x == ("__debug__" : Str))=false:=by decide):wpAny (model X.prog X.w) X.A (eval (.Name x pos) X.env) Q E s :=
 Kw I.ok.kind hg (Calls.loadGlobal_global (by rw [I.ok.glob]; exact I.mod.glob.keeps I.bk) hm h) hd
theorem zes {E:A1->A4->Prop} {pins:List (A3×Obj)} {s:A4} {σ : St} {H:Hp} {x:Str} {u:A1} {pos:Pos} {Q:A1->A4->Prop} (I:Inv X pins σ H s) (hg:Gl X x) (hm:X.mg x=none) (hv:bootBuiltins x=some u) (h:Q u s)
  (hn:x ≠ "__name__" := by decide) (hd:(x == ("__debug__" : Str))=false:=by decide):wpAny (model X.prog X.w) X.A (eval (.Name x pos) X.env) Q E s:=by
 obtain ⟨mb,h1,h2⟩:=I.mod.blt
 exact Kw I.ok.kind hg (Calls.loadGlobal_builtin (by rw [I.ok.glob]; exact I.mod.glob.keeps I.bk) hm (by rw [I.ok.blt]; exact h1.keeps I.bk) ((h2 x hn).trans hv) h) hd
theorem zgc {x:Str} {v:V} {u:A1} {pos:Pos} (hg:Gl X x) (hm:X.mg x=some u) (r:RelV v u) (hd:(x == ("__debug__" : Str))=false:=by decide):PE X (.Name x pos) (tC v) :=
 fun _ _ _ H _ I h=>zcB I hg hm ⟨v,H,I,r,h⟩ hd
theorem zbS {x:Str} {v:V} {u:A1} {pos:Pos} (hg:Gl X x) (hm:X.mg x=none) (hv:bootBuiltins x=some u) (r:RelV v u) (hn:x ≠ "__name__" := by decide) (hd:(x == ("__debug__" : Str))=false:=by decide):PE X (.Name x pos) (tC v) :=
 fun _ _ _ H _ I h=>zes I hg hm hv ⟨v,H,I,r,h⟩ hn hd
variable {a b:Ca} {ta tb:TE} {pos:Pos}
noncomputable def PC (X:Cx) (op:N4) (a b:Ca) (t:TE):Prop :=
 ∀ (pins:List (A3×Obj)) (s:A4) (σ : St) (H:Hp) (Q:VK),Inv X pins σ H s->t σ H Q ->
  wpAny (model X.prog X.w) X.A (eval a X.env) (fun v s₁ => wpAny (model X.prog X.w) X.A (eval b X.env) (fun u s₂ => wpAny (model X.prog X.w) X.A (compareOp op v u) (EP X pins σ Q) X.xe s₂) X.xe s₁) X.xe s
noncomputable def tB (t:TE):TT:=fun σ H Q=>t σ H fun x H1=>∃ c,x = .bl c/\Q c H1
theorem pe_cmp {op:N4} {t:TE} (h:PC X op a b t) (h1:behindInMarks op b=false:=by first | exact nobehind _ (by decide) (by decide) | rfl):PE X (.Compare a [op] [b] pos) t:=fun pins s σ H Q I hw=>Qg (h pins s σ H Q I hw) h1
theorem zei {op:N4} {t:TE} (h:PC X op a b t) (h1:behindInMarks op b=false:=by first | exact nobehind _ (by decide) (by decide) | rfl):PT X (.Compare a [op] [b] pos) (tB t):=by
 intro pins s σ H Q I hw
 refine Nl (thn (h pins s σ H _ I hw) fun v s1 h1=>thn h1 fun u s2 h2=>thn h2 fun c s3 ⟨x,H1,I1,r1,q1⟩ => ?_) h1
 obtain ⟨d,rfl,q⟩:=q1
 cases r1
 exact Cy ⟨H1,I1,q⟩
theorem zbz {e:Ca} {t:TE} (h:PE X e t) (he:∀ whole,isTrue e X.env whole=(do let v <- whole; standAt e.pos; holding [v] (truthy v)):=by intro _; rfl):PT X e (tB t):=by
 intro pins s σ H Q I hw
 refine isTrue_plain (thn (h pins s σ H _ I hw) fun v s1 ⟨x,H1,I1,r1,q1⟩ => ?_) (he _)
 obtain ⟨d,rfl,q⟩:=q1
 cases r1
 exact Cy ⟨H1,I1,q⟩
variable {tA tB':TT} {rest:List Ca}
noncomputable def tOr (t u:TT):TT:=fun σ H Q=>t σ H fun c H1=>if c=true then Q true H1 else u σ H1 Q
noncomputable def tNot (t:TT):TT:=fun σ H Q=>t σ H fun c H1=>Q (!c) H1
theorem zc3 (ha:PT X a tA):PW X (.BoolOp .Or [a] pos) tA:=by
 intro wh pins s σ H Q I h
 refine isTrue_or (thn (ha pins s σ H Q I h) fun c s1 e => ?_)
 cases c with
 | false=>exact isTrue_or_nil e
 | true=>exact e
theorem zeh (ha:PT X a tA) (hb:PW X (.BoolOp .Or (b :: rest) pos) tB'):PW X (.BoolOp .Or (a :: b :: rest) pos) (tOr tA tB'):=by
 intro wh pins s σ H Q I h
 refine isTrue_or (thn (ha pins s σ H _ I h) fun c s1 ⟨H1,I1,q1⟩ => ?_)
 cases c with
 | true=>exact ⟨H1,I1,q1⟩
 | false=>exact hb wh pins s1 σ H1 Q I1 q1
theorem zbA (ha:PT X a tA):PT X (.UnaryOp .Not a pos) (tNot tA):=by
 intro pins s σ H Q I h
 exact isTrue_not (ha pins s σ H (fun c H1=>Q (!c) H1) I h)
noncomputable def tAndV (ta tb:TE):TE:=fun σ H Q=>ta σ H fun x H1=>∃ c,x = .bl c/\if c=true then tb σ H1 Q else Q (.bl false) H1
noncomputable def tNotV (ta:TE):TE:=fun σ H Q=>ta σ H fun x H1=>∃ c,x = .bl c/\Q (.bl (!c)) H1
theorem zgV {op} {t:TE} (h:PE X a t):PE X (.BoolOp op [a] pos) t:=fun pins s σ H Q I hw=>BoolOp_one (h pins s σ H Q I hw)
theorem zgY (ha:PE X a ta) (hb:PE X (.BoolOp .And (b :: rest) pos) tb):PE X (.BoolOp .And (a :: b :: rest) pos) (tAndV ta tb):=by
 intro pins s σ H Q I h
 refine BoolOp_and (thn (ha pins s σ H _ I h) fun v s1 ⟨x,H1,I1,r1,q1⟩ => ?_)
 obtain ⟨c,rfl,q1⟩:=q1
 cases r1
 refine Cy ?_
 cases c with
 | true=>exact hb pins s1 σ H1 Q I1 q1
 | false=>exact ⟨.bl false,H1,I1,rfl,q1⟩
theorem pe_not (ha:PE X a ta):PE X (.UnaryOp .Not a pos) (tNotV ta):=by
 intro pins s σ H Q I h
 refine UnaryOp_ (thn (ha pins s σ H _ I h) fun v s1 ⟨x,H1,I1,r1,q1⟩ => ?_)
 obtain ⟨c,rfl,q1⟩:=q1
 cases r1
 exact not_of (Cy ⟨.bl (!c),H1,I1,rfl,q1⟩)
noncomputable def tIf (t:TT) (ta tb:TE):TE:=fun σ H Q=>t σ H fun c H1=>if c=true then ta σ H1 Q else tb σ H1 Q
theorem pe_ifExp {c:Ca} (hc:PT X c tA) (ha:PE X a ta) (hb:PE X b tb):PE X (.IfExp c a b pos) (tIf tA ta tb):=by
 intro pins s σ H Q I h
 refine wpAny_IfExp (thn (hc pins s σ H _ I h) fun d s1 ⟨H1,I1,q1⟩ => ?_)
 cases d with
 | true=>exact ha pins s1 σ H1 Q I1 q1
 | false=>exact hb pins s1 σ H1 Q I1 q1
end
noncomputable def SqL (K:Al) (H:Hp) (a:A3) (xs:List V):Prop :=
 Rd H a (.lst xs) \/
  ∃ (o:Obj) (its:Array A1) (n:Nat),K.lookup a=some o/\o.cls = .type "list" /\ o.dict=none/\o.data = .seq its n/\its.size<=sizeLine/\Vals xs its.toList
noncomputable def SqT (K:Al) (H:Hp) (a:A3) (xs:List V):Prop :=
 Rd H a (.tup xs) \/
  ∃ (o:Obj) (its:Array A1) (n:Nat),K.lookup a=some o/\o.cls = .type "tuple" /\ o.data = .seq its n/\its.size<=sizeLine/\Vals xs its.toList
noncomputable def absV:A1->Option V
 | .none=>some .non
 | .bool b=>some (.bl b)
 | .int i _=>some (.int i)
 | .str x _=>some (.str x)
 | .bytes b _=>some (.byt b)
 | .float b _=>some (.flt b)
 | .ref a=>some (.ref a)
 | .type n=>some (.ty n)
 | _=>none
theorem RelV.abs {x:V} {u:A1} (r:RelV x u):absV u=some x:=by
 cases x with
 | non=>cases r; rfl
 | bl _=>cases r; rfl
 | int _=>obtain ⟨t,rfl⟩:=r; rfl
 | str _=>obtain ⟨t,rfl⟩:=r; rfl
 | byt _=>obtain ⟨t,rfl⟩:=r; rfl
 | flt _=>obtain ⟨t,rfl⟩:=r; rfl
 | ref _=>cases r; rfl
 | ty _=>cases r; rfl
theorem RelV.inj {x y:V} {u:A1} (r:RelV x u) (q:RelV y u):x=y:=C1 (r.abs.symm.trans q.abs)
theorem Vals.inj:∀ {xs ys:List V} {us:List A1},Vals xs us->Vals ys us->xs=ys
 | _,_,_,.nil,.nil=>rfl
 | _,_,_,.cons r t,.cons r' t'=>by rw [r.inj r',Vals.inj t t']
section
variable {X:Cx} {pins:List (A3×Obj)} {σ : St} {H:Hp} {s:A4} {a:A3} {xs ys:List V}
theorem SqL.of {K:Al} (h:H a=some (.lst xs)):SqL K H a xs := .inl (.inl h)
theorem SqT.of {K:Al} (h:H a=some (.tup xs)):SqT K H a xs := .inl (.inl h)
theorem Inv.list (I:Inv X pins σ H s) (h:SqL X.K H a xs):∃ its:List A1,Vals xs its/\PlainL s.heap a its.toArray/\xs.length<=sizeLine:=by
 rcases h with h | ⟨o,its,n,hk,hc,hd,hs,hz,r⟩
 ·obtain ⟨z,its,n,r,e⟩:=h.ok I.hok
  exact ⟨its,r,⟨_,n,e,rfl,rfl,rfl⟩,z⟩
 ·refine ⟨its.toList,r,⟨o,n,I.kIn a o hk,hc,hd,by simpa using hs⟩,?_⟩
  have e:=r.length
  simp only [As] at e
  omega
theorem Inv.tuple (I:Inv X pins σ H s) (h:SqT X.K H a xs):∃ its:List A1,Vals xs its/\Jg s.heap a its.toArray/\xs.length<=sizeLine:=by
 rcases h with h | ⟨o,its,n,hk,hc,hs,hz,r⟩
 ·obtain ⟨z,its,r,p⟩:=h.ok I.hok
  exact ⟨its,r,p,z⟩
 ·refine ⟨its.toList,r,⟨o,I.kIn a o hk,hc,n,by simpa using hs⟩,?_⟩
  have e:=r.length
  simp only [As] at e
  omega
theorem Inv.list_inj (I:Inv X pins σ H s) (h:SqL X.K H a xs) (h':SqL X.K H a ys):xs=ys:=by
 obtain ⟨its,r,⟨o,n,e,_,_,d⟩,_⟩:=I.list h
 obtain ⟨its',r',⟨o',n',e',_,_,d'⟩,_⟩:=I.list h'
 rw [e] at e'; cases e'
 rw [d] at d'
 injection d' with d1 _
 have:its=its':=by simpa using congrArg Lw d1
 subst this
 exact r.inj r'
theorem Inv.tuple_inj (I:Inv X pins σ H s) (h:SqT X.K H a xs) (h':SqT X.K H a ys):xs=ys:=by
 obtain ⟨its,r,⟨o,e,_,n,d⟩,_⟩:=I.tuple h
 obtain ⟨its',r',⟨o',e',_,n',d'⟩,_⟩:=I.tuple h'
 rw [e] at e'; cases e'
 rw [d] at d'
 injection d' with d1 _
 have:its=its':=by simpa using congrArg Lw d1
 subst this
 exact r.inj r'
end
noncomputable abbrev Cx.wish (X:Cx) (E:A1->A4->Prop):Cx:={ X with xe:=E }
noncomputable abbrev Cx.nox (X:Cx):Cx:=X.wish fun _ _=>False
theorem Cx.Ok.wish {X:Cx} (ok:X.Ok) (E:A1->A4->Prop):(X.wish E).Ok :=
 ⟨ok.mod,ok.kind,ok.glob,ok.blt,ok.above,ok.inj,ok.has,ok.cab,ok.hd,ok.frames,ok.stk,ok.exf,ok.bs,ok.bsz,ok.noex,ok.exfs,ok.funs,ok.frf⟩
theorem Cx.Ok.unwish {X:Cx} {E:A1->A4->Prop} (ok:(X.wish E).Ok):X.Ok :=
 ⟨ok.mod,ok.kind,ok.glob,ok.blt,ok.above,ok.inj,ok.has,ok.cab,ok.hd,ok.frames,ok.stk,ok.exf,ok.bs,ok.bsz,ok.noex,ok.exfs,ok.funs,ok.frf⟩
section
variable {X:Cx} {pins:List (A3×Obj)} {σ : St} {H:Hp} {s:A4} {E:A1->A4->Prop}
theorem Inv.wish (I:Inv X pins σ H s) (E:A1->A4->Prop):Inv (X.wish E) pins σ H s:=⟨I.ok.wish E,I.os,I.bare,I.base,I.loc,I.cell,I.free,I.freeC,I.pin,I.hok,I.len⟩
theorem Inv.unwish (I:Inv (X.wish E) pins σ H s):Inv X pins σ H s:=⟨I.ok.unwish,I.os,I.bare,I.base,I.loc,I.cell,I.free,I.freeC,I.pin,I.hok,I.len⟩
theorem SP.unwish {D:Ends} {f:Flow} {s':A4} (h:SP (X.wish E) pins D f s'):SP X pins D f s':=by
 cases f with
 | next=>obtain ⟨σ',H',I,q⟩:=h; exact ⟨σ',H',I.unwish,q⟩
 | brk=>obtain ⟨σ',H',I,q⟩:=h; exact ⟨σ',H',I.unwish,q⟩
 | cont=>obtain ⟨σ',H',I,q⟩:=h; exact ⟨σ',H',I.unwish,q⟩
 | ret u=>obtain ⟨v,σ',H',I,r,q⟩:=h; exact ⟨v,σ',H',I.unwish,r,q⟩
theorem PSs.nox {st:List Cd} {t:TS} (h:PSs X.nox st t):PSs X st t:=fun pins s σ H D I hw =>
 D9 (h pins s σ H D (I.wish _) hw) (fun _ _ q=>q.unwish) fun _ _ z=>Cf z
end
section
variable {X:Cx} {st:Cd} {rest:List Cd} {t u:TS} {e:Ca} {te:TE} {pos:Pos}
noncomputable def tNext:TS:=fun D σ H=>D.nx σ H
noncomputable def tSeq (t u:TS):TS:=fun D σ H=>t { D with nx:=u D } σ H
theorem zam:PSs X [] tNext:=fun _ _ σ H _ I h=>Gq ⟨σ,H,I,h⟩
theorem zaf (h1:PS X st t) (h2:PSs X rest u):PSs X (st :: rest) (tSeq t u):=by
 intro pins s σ H D I h
 refine L5 (thn (h1 pins s σ H { D with nx:=u D } I h) fun f s1 q => ?_)
 cases f with
 | next =>
  obtain ⟨σ',H',I',q⟩:=q
  exact h2 pins s1 σ' H' D I' q
 | ret v=>exact q
 | brk=>exact q
 | cont=>exact q
theorem zag (h1:PS X st t):PSs X [st] t:=by
 intro pins s σ H D I h
 refine L5 (thn (h1 pins s σ H D I h) fun f s1 q => ?_)
 cases f with
 | next=>exact Gq q
 | ret v=>exact q
 | brk=>exact q
 | cont=>exact q
theorem Inv.quiet {pins:List (A3×Obj)} {σ : St} {H:Hp} {s:A4} (I:Inv X pins σ H s):interactive X.env=false:=by simp [interactive,I.ok.kind]
noncomputable def tDrop (te:TE):TS:=fun D σ H=>te σ H fun _ H1=>D.nx σ H1
theorem za5 (he:PE X e te) (hs:swapsWith e none pos.line X.env=pure false:=by rfl):PS X (.Expr e pos) (tDrop te):=by
 intro pins s σ H D I h
 exact wpAny_Expr_any (thn (he pins s σ H _ I h) fun v s1 ⟨x,H1,I1,r1,q1⟩=>⟨σ,H1,I1,q1⟩) I.quiet hs
noncomputable def tRet (te:TE):TS:=fun D σ H=>te σ H D.rt
theorem zaj (he:PE X e te):PS X (.Return (some e) pos) (tRet te):=by
 intro pins s σ H D I h
 exact wpAny_Return_some (thn (he pins s σ H _ I h) fun v s1 ⟨x,H1,I1,r1,q1⟩=>⟨x,σ,H1,I1,r1,q1⟩)
noncomputable def tIfS (c:TT) (t u:TS):TS:=fun D σ H=>c σ H fun b H1=>if b=true then t D σ H1 else u D σ H1
theorem zaF {c:Ca} {a b:List Cd} {tc:TT} (hc:PT X c tc) (ha:PSs X a t) (hb:PSs X b u):PS X (.If c a b pos) (tIfS tc t u):=by
 intro pins s σ H D I h
 refine wpAny_If (thn (hc pins s σ H _ I h) fun d s1 ⟨H1,I1,q1⟩ => ?_)
 cases d with
 | true=>exact ha pins s1 σ H1 D I1 q1
 | false=>exact hb pins s1 σ H1 D I1 q1
end
noncomputable abbrev TG:=V->St->Hp->(St->Hp->Prop)->Prop
noncomputable abbrev TGs:=List V->St->Hp->(St->Hp->Prop)->Prop
noncomputable def PG (X:Cx) (target:Ca) (t:TG):Prop :=
 ∀ (pins:List (A3×Obj)) (s:A4) (σ : St) (H:Hp) (v:V) (u:A1) (Q:St->Hp->Prop),Inv X pins σ H s->RelV v u->t v σ H Q ->
  wpAny (model X.prog X.w) X.A (assign target X.env u) (fun _ s'=>∃ σ' H',Inv X pins σ' H' s'/\Q σ' H') X.xe s
noncomputable def PGs (X:Cx) (ts:List Ca) (t:TGs):Prop :=
 ∀ (pins:List (A3×Obj)) (s:A4) (σ : St) (H:Hp) (vs:List V) (us:List A1) (Q:St->Hp->Prop),Inv X pins σ H s->Vals vs us->t vs σ H Q ->
  wpAny (model X.prog X.w) X.A (assignInOrder ((assignEach ts X.env).map (·.2)) us) (fun _ s'=>∃ σ' H',Inv X pins σ' H' s'/\Q σ' H') X.xe s
noncomputable abbrev TSet:=V->V->V->Hp->(Hp->Prop)->Prop
noncomputable def PSet (X:Cx) (t:TSet):Prop :=
 ∀ (pins:List (A3×Obj)) (s:A4) (σ : St) (H:Hp) (o i v:V) (ov iv u:A1) (Q:Hp->Prop),Inv X pins σ H s->RelV o ov->RelV i iv->RelV v u->t o i v H Q ->
  wpAny (model X.prog X.w) X.A (setItem ov iv u) (fun _ s'=>∃ H',Inv X pins σ H' s'/\Q H') X.xe s
section
variable {X:Cx} {pos:Pos}
noncomputable def gName (i:Nat):TG:=fun v σ H Q=>Q (σ.set i (some v)) H
theorem zan {i:Nat} {x:Str} (hN:X.N.Nodup) (hi:X.N[i]?=some x) (hx:Loc X.env.scope x) (hf:X.fn x=true\/X.env.scope.names.lookup x=some .local:=by first | exact .inl rfl | exact .inr rfl | assumption):PG X (.Name x pos) (gName i):=by
 intro pins s σ H v u Q I r h
 exact Oo (zdM I hN hi hx r (fun s' I'=>⟨_,H,I',h⟩) hf)
noncomputable def gNil:TGs:=fun vs σ H Q=>vs = []/\Q σ H
noncomputable def gCons (t:TG) (u:TGs):TGs:=fun vs σ H Q=>∃ v r,vs=v :: r/\t v σ H fun σ' H'=>u r σ' H' Q
theorem zbE:PGs X [] gNil:=by
 intro pins s σ H vs us Q I r h
 obtain ⟨e,h⟩:=h
 subst e
 cases r
 exact assignInOrder_nil ⟨σ,H,I,h⟩
theorem zaE {e:Ca} {es:List Ca} {t:TG} {u:TGs} (h1:PG X e t) (h2:PGs X es u)
  (hs:(assignEach (e :: es) X.env).map (·.2)=assign e X.env :: (assignEach es X.env).map (·.2):=by rfl):PGs X (e :: es) (gCons t u):=by
 intro pins s σ H vs us Q I r h
 obtain ⟨v,vr,e1,h⟩:=h
 subst e1
 cases r with
 | cons r rr =>
  rw [hs]
  refine assignInOrder_cons (thn (h1 pins s σ H _ _ _ I r h) fun _ s1 ⟨σ1,H1,I1,q1⟩ => ?_)
  exact h2 pins s1 σ1 H1 _ _ Q I1 rr q1
noncomputable def gTup (K:Al) (n:Nat) (t:TGs):TG:=fun v σ H Q=>∃ a xs,v = .ref a/\SqT K H a xs/\xs.length=n/\t xs σ H Q
theorem zej {es:List Ca} {k:Nat} {t:TGs} {n:Nat} (hc:X.calm=true) (h:PGs X es t)
  (hn:(assignEach es X.env).length=n:=by rfl) (hst:(assignEach es X.env).findIdx? (·.1)=none:=by rfl):PG X (.Tuple es k pos) (gTup X.K n t):=by
 intro pins s σ H v u Q I r hw
 obtain ⟨a,xs,e1,hq,hl,hw⟩:=hw
 subst e1
 cases r
 obtain ⟨its,rv,ht,hz⟩:=I.tuple hq
 refine assign_Tuple_tuple (I.ok.hd hc) ht (by simp [hn,<- hl,rv.length]) hst fun h' hx => ?_
 have I1:Inv X pins σ H { s with heap:=h' }:=I.kept (t':=s.toks) fun b o e=>hx b o (B7 (Am e)) e
 exact h pins _ σ H xs _ Q I1 (by simpa using rv) hw
noncomputable def gSub (to ti:TE) (t:TSet):TG:=fun v σ H Q=>to σ H fun o H1=>ti σ H1 fun i H2=>t o i v H2 fun H3=>Q σ H3
theorem zgU {o i:Ca} {to ti:TE} {t:TSet} (ho:PE X o to) (hi:PE X i ti) (hs:PSet X t)
  (ha:∀ v,assign (.Subscript o i pos) X.env v=(do
   let ov <- holding [v] (eval o X.env)
   let iv <- holding [v,ov] (eval i X.env)
   standAt pos
   holding [v,ov,iv] (setItem ov iv v)
   release [v,ov,iv] []):=by intro _; rfl):PG X (.Subscript o i pos) (gSub to ti t):=by
 intro pins s σ H v u Q I r h
 rw [ha]
 refine A2 (D1 (thn (ho pins s σ H _ I h) fun ov s1 ⟨x,H1,I1,r1,q1⟩ => ?_))
 refine A2 (D1 (thn (hi pins s1 σ H1 _ I1 q1) fun iv s2 ⟨y,H2,I2,r2,q2⟩ => ?_))
 refine A2 (Kc (A2 (D1 (thn (hs pins s2 σ H2 x y v ov iv u _ I2 r1 r2 r q2) fun _ s3 ⟨H3,I3,q3⟩ => ?_))))
 exact wpAny_release ⟨σ,H3,I3,q3⟩
noncomputable def tAsg (te:TE) (g:TG):TS:=fun D σ H=>te σ H fun x H1=>g x σ H1 D.nx
theorem zf9 {tg e:Ca} {te:TE} {g:TG} (he:PE X e te) (hg:PG X tg g) (hs:swapsWithSole [tg] e pos.line X.env=pure false:=by rfl) (hw:swappedStores [tg] e X.env=pure none:=by rfl)
  (h1:(assignEach [tg] X.env).map (·.2) = [assign tg X.env]:=by rfl):PS X (.Assign [tg] e pos) (tAsg te g):=by
 intro pins s σ H D I h
 refine wpAny_Assign_stores (thn (he pins s σ H _ I h) fun v s1 ⟨x,H1,I1,r1,q1⟩ => ?_) hs hw
 rw [h1]
 exact thn (hg pins s1 σ H1 x v _ I1 r1 q1) fun _ s2 q=>q
theorem zaq {i:Nat} {x:Str} {e:Ca} {te:TE} {pos':Pos} (hN:X.N.Nodup) (hi:X.N[i]?=some x) (hx:Loc X.env.scope x) (he:PE X e te) (hs:swapsWith e (some (.Name x pos')) pos.line X.env=pure false:=by rfl) (hf:X.fn x=true\/X.env.scope.names.lookup x=some .local:=by first | exact .inl rfl | exact .inr rfl | assumption) :
  PS X (.Assign [.Name x pos'] e pos) (tAsg te (gName i)):=by
 intro pins s σ H D I h
 refine wpAny_Assign_Name (thn (he pins s σ H _ I h) fun v s1 ⟨y,H1,I1,r1,q1⟩ => ?_) hs
 exact zdM I1 hN hi hx r1 (fun s2 I2=>⟨_,H1,I2,q1⟩) hf
end
section
variable {X:Cx} {pos:Pos}
noncomputable def tWhile (c:TT) (tb:TS):TS:=fun D σ H=>∃ W:Nat->St->Hp->Prop,(∃ m,W m σ H)/\∀ m σ H,W m σ H ->
 c σ H fun b H1=>if b=true then ∃ N:St->Hp->Prop,(∀ σ' H',N σ' H'->∃ m',m' < m/\W m' σ' H')/\tb { D with nx:=N,ct:=N,bk:=D.nx } σ H1 else D.nx σ H1
theorem zdR {c:Ca} {body:List Cd} {tc:TT} {tb:TS} (hp:P8 (model X.prog X.w) X.A X.env X.xe) (hc:PT X c tc) (hb:PSs X body tb):PS X (.While c body [] pos) (tWhile tc tb):=by
 intro pins s σ H D I h
 obtain ⟨W,⟨m0,w0⟩,turn⟩:=h
 refine wpAny_While (codeAny_whileLoop (fun n s'=>∃ σ' H',Inv X pins σ' H' s'/\W n σ' H') ?_ m0 ⟨σ,H,I,w0⟩)
 rintro n s1 ⟨σ1,H1,I1,w1⟩
 refine F4 hp (thn (hc pins s1 σ1 H1 _ I1 (turn n σ1 H1 w1)) fun b s2 ⟨H2,I2,q2⟩ => ?_)
 cases b with
 | true =>
  obtain ⟨N,hN,q2⟩:=q2
  rw [if_pos rfl]
  refine F4 hp (thn (hb pins s2 σ1 H2 _ I2 q2) fun f s3 q3 => ?_)
  cases f with
  | next =>
   obtain ⟨σ3,H3,I3,n3⟩:=q3
   obtain ⟨m',hm,w3⟩:=hN σ3 H3 n3
   exact ⟨m',hm,σ3,H3,I3,w3⟩
  | cont =>
   obtain ⟨σ3,H3,I3,n3⟩:=q3
   obtain ⟨m',hm,w3⟩:=hN σ3 H3 n3
   exact ⟨m',hm,σ3,H3,I3,w3⟩
  | brk=>exact q3
  | ret v=>exact q3
 | false =>
  rw [if_neg A9]
  exact Gq ⟨σ1,H2,I2,q2⟩
end
structure It where
 go:Nat->Hp->Prop
 yld:Nat->Hp->V->Hp->Prop
 stop:Nat->Hp->Prop
noncomputable def FpOk (X:Cx) (pins:List (A3×Obj)) (H:Hp) (b:A3):Prop :=
 H b=none/\b≠X.env.locals/\b ∉ X.fs/\(b∈X.ex\/X.s₀.heap.objs.size<=b)/\(∀ x c,X.env.cells.lookup x=some c->c≠b)/\∀ p∈X.pn ++ pins,p.1≠b
theorem Inv.fpOk {X:Cx} {pins:List (A3×Obj)} {σ : St} {H H':Hp} {s:A4} {b:A3} (I:Inv X pins σ H s) (hb:s.heap.objs.size<=b) (hn:H' b=none):FpOk X pins H' b:=by
 refine ⟨hn,K9 (Af I.lt hb),I.nofs hb,.inr (C0 I.sz hb),fun x c e z => ?_,fun p hp z => ?_⟩
 ·obtain ⟨v,q⟩:=I.cell x c e
  exact absurd (Af q.lt (by rw [z]; exact hb)) (Dq _)
 ·exact absurd (Af (Am (I.pin p hp).1) (by rw [z]; exact hb)) (Dq _)
structure Turn (P:An) (w:B8) (K:Al) (tg:Ca) (J:It) (fp:List A3) (it:A3) (tn:Nat->Br->Prop):Prop where
 mem:it∈fp
 obj:∀ i h,tn i h->∀ b∈fp,∃ o,h.get? b=some o/\∀ v,o.data ≠ .cell v
 keep:∀ i h h',tn i h->(∀ b∈fp,∀ o,h.get? b=some o->h'.get? b=some o)->tn i h'
 item:∀ (X:Cx),X.prog=P->X.w=w->X.K=K->X.calm=true->∀ (i:Nat) (pins:List (A3×Obj)) (s:A4) (σ : St) (H:Hp) (E:A1->A4->Prop),Inv X pins σ H s->(∀ b∈fp,FpOk X pins H b)->tn i s.heap->J.go i H ->
  wpAny (model P w) X.A (pyNext (.ref it)) (fun r s1=>∃ u,r=some u /\
   wpAny (model P w) X.A (letOwnedTupleGo tg (.ref it) u) (fun _ s2=>∃ x H',Inv X pins σ H' s2/\RelV x u/\J.yld i H x H'/\tn (i + 1) s2.heap/\∀ b∈fp,H' b=none) E s1) E s
 done:∀ (X:Cx),X.prog=P->X.w=w->X.K=K->X.calm=true->∀ (i:Nat) (pins:List (A3×Obj)) (s:A4) (σ : St) (H:Hp) (E:A1->A4->Prop),Inv X pins σ H s->(∀ b∈fp,FpOk X pins H b)->tn i s.heap->J.stop i H ->
  wpAny (model P w) X.A (pyNext (.ref it)) (fun r s1=>r=none/\Inv X pins σ H s1) E s
 self:∀ (A:B1) (i:Nat) (s:A4) (Q:A1->A4->Prop) (E:A1->A4->Prop),tn i s.heap->Q (.ref it) s->wpAny (model P w) A (pyIter (.ref it)) Q E s
noncomputable abbrev TI:=St->Hp->(It->Hp->Prop)->Prop
noncomputable def PIE (X:Cx) (pins:List (A3×Obj)) (σ : St) (tg:Ca) (R:It->Hp->Prop) (itv:A1) (s2:A4):Prop :=
 ∃ (it:A3) (fp:List A3) (tn:Nat->Br->Prop) (J:It) (H':Hp),itv = .ref it/\Inv X pins σ H' s2/\Turn X.prog X.w X.K tg J fp it tn/\tn 0 s2.heap/\(∀ b∈fp,FpOk X pins H' b)/\R J H'
noncomputable def PI (X:Cx) (tg iter:Ca) (wi:TI):Prop :=
 ∀ (pins:List (A3×Obj)) (s:A4) (σ : St) (H:Hp) (R:It->Hp->Prop),Inv X pins σ H s->wi σ H R ->
  wpAny (model X.prog X.w) X.A (eval iter X.env) (fun v s1=>wpAny (model X.prog X.w) X.A (pyIter v) (PIE X pins σ tg R) X.xe s1) X.xe s
theorem zfM {M:Hm} {A:B1} {E:A1->A4->Prop} {s:A4} {tg:Ca} {it:A3} {u:A1} {o:Obj} {n:String} {vs:Array A1} {Q:Unit->A4->Prop} (ho:s.heap.get? it=some o) (hc:o.cls = .type n) (hd:o.data = .fields vs)
  (hn : ["enumerate","zip","dict_itemiterator","dict_reverseitemiterator","odict_iterator","itertools.zip_longest","itertools.pairwise"].contains n=false) (hQ:Q () s):wpAny M A (letOwnedTupleGo tg (.ref it) u) Q E s:=by
 unfold letOwnedTupleGo
 cases tg <;> first
  | exact Ae hQ
  | (cases u <;> first
    | exact Ae hQ
    | (refine A2 (wpAny_load ho ?_)
       rw [hc,hd]
       show wpAny M A (if (["enumerate","zip","dict_itemiterator","dict_reverseitemiterator","odict_iterator","itertools.zip_longest","itertools.pairwise"].contains n && vs[0]? == some (rawInt _))=true then _ else _) Q E s
       rw [if_neg (by intro h; rw [hn,F9] at h; cases h)]
       exact Ae hQ))
noncomputable def Itl (K:Al) (a:A3):It :=
 ⟨fun i H=>∃ xs x,SqL K H a xs/\xs[i]?=some x,fun i H x H'=>H'=H/\∀ xs,SqL K H a xs->xs[i]?=some x,fun i H=>∃ xs,SqL K H a xs/\xs.length<=i⟩
noncomputable def Itt (K:Al) (a:A3):It :=
 ⟨fun i H=>∃ xs x,SqT K H a xs/\xs[i]?=some x,fun i H x H'=>H'=H/\∀ xs,SqT K H a xs->xs[i]?=some x,fun i H=>∃ xs,SqT K H a xs/\xs.length<=i⟩
noncomputable def Itr (lo:Int) (n:Nat):It:=⟨fun i _=>i < n,fun i H x H'=>H'=H/\x = .int (lo + i),fun i _=>n<=i⟩
theorem turn_list {P:An} {w:B8} {K:Al} {tg:Ca} (a it:A3):Turn P w K tg (Itl K a) [it] it (fun i h=>h.IsListIter it a i) where
 mem:=by simp
 obj:=fun i h st b hb=>by
  have e:b=it:=by simpa using hb
  subst e
  obtain ⟨o,e,c,d⟩:=st
  exact ⟨o,e,fun v z=>by rw [d] at z; cases z⟩
 keep:=fun i h h' st k=>st.at fun o e=>k it (by simp) o e
 item:=by
  intro X hP hw hK hc i pins s σ H E I hf st hg
  subst hP hw hK
  obtain ⟨xs,x,hq,hx⟩:=hg
  obtain ⟨its,rv,p,hz⟩:=I.list hq
  obtain ⟨u,hu,ru⟩:=rv.get hx
  obtain ⟨f0,f1,f2,f3,f4,f5⟩:=hf it (by simp)
  refine wpAny_pyNext_list_item st p.isList (x:=u) (by simpa using hu) fun h' st' sb => ?_
  have I1:Inv X pins σ H { s with heap:=h' }:=I.turned (t':=s.toks) (fun b o hb e=>(sb.2 b hb).trans e) f0 f1 f3 f4 f5
  obtain ⟨o,e,c,d⟩:=id st'
  exact ⟨u,rfl,zfM (s:={ s with heap:=h' }) e c d (by decide) ⟨x,H,I1,ru,⟨rfl,fun ys hy=>by rw [I.list_inj hy hq]; exact hx⟩,st',fun b hb=>(hf b hb).1⟩⟩
 done:=by
  intro X hP hw hK hc i pins s σ H E I hf st hg
  subst hP hw hK
  obtain ⟨xs,hq,hx⟩:=hg
  obtain ⟨its,rv,p,hz⟩:=I.list hq
  obtain ⟨f0,f1,f2,f3,f4,f5⟩:=hf it (by simp)
  have hl:=rv.length
  exact wpAny_pyNext_list_end (I.ok.hd hc) st p.isList (by simp; omega) fun h' eb=>⟨rfl,I.turned (t':=s.toks) (fun b o hb e=>eb b o hb e) f0 f1 f3 f4 f5⟩
 self:=fun _ _ _ _ _ st h=>wpAny_pyIter_listiter st h
theorem turn_tuple {P:An} {w:B8} {K:Al} {tg:Ca} (a it:A3):Turn P w K tg (Itt K a) [it] it (fun i h=>h.IsTupleIter it a i) where
 mem:=by simp
 obj:=fun i h st b hb=>by
  have e:b=it:=by simpa using hb
  subst e
  obtain ⟨o,e,c,d⟩:=st
  exact ⟨o,e,fun v z=>by rw [d] at z; cases z⟩
 keep:=fun i h h' st k=>st.at fun o e=>k it (by simp) o e
 item:=by
  intro X hP hw hK hc i pins s σ H E I hf st hg
  subst hP hw hK
  obtain ⟨xs,x,hq,hx⟩:=hg
  obtain ⟨its,rv,p,hz⟩:=I.tuple hq
  obtain ⟨u,hu,ru⟩:=rv.get hx
  obtain ⟨f0,f1,f2,f3,f4,f5⟩:=hf it (by simp)
  refine wpAny_pyNext_tuple_item st (show s.heap.IsTuple a its.toArray from p) (x:=u) (by simpa using hu) fun h' st' sb => ?_
  have I1:Inv X pins σ H { s with heap:=h' }:=I.turned (t':=s.toks) (fun b o hb e=>(sb.2 b hb).trans e) f0 f1 f3 f4 f5
  obtain ⟨o,e,c,d⟩:=id st'
  exact ⟨u,rfl,zfM (s:={ s with heap:=h' }) e c d (by decide) ⟨x,H,I1,ru,⟨rfl,fun ys hy=>by rw [I.tuple_inj hy hq]; exact hx⟩,st',fun b hb=>(hf b hb).1⟩⟩
 done:=by
  intro X hP hw hK hc i pins s σ H E I hf st hg
  subst hP hw hK
  obtain ⟨xs,hq,hx⟩:=hg
  obtain ⟨its,rv,p,hz⟩:=I.tuple hq
  obtain ⟨f0,f1,f2,f3,f4,f5⟩:=hf it (by simp)
  have hl:=rv.length
  exact wpAny_pyNext_tuple_end (I.ok.hd hc) st (show s.heap.IsTuple a its.toArray from p) (by simp; omega) fun h' eb=>⟨rfl,I.turned (t':=s.toks) (fun b o hb e=>eb b o hb e) f0 f1 f3 f4 f5⟩
 self:=fun _ _ _ _ _ st h=>wpAny_pyIter_tupleiter st h
theorem turn_range {P:An} {w:B8} {K:Al} {tg:Ca} (it:A3) (lo:Int) (n:Nat):Turn P w K tg (Itr lo n) [it] it (fun i h=>G3 h it (lo + (i:Nat) * 1) ((n:Int) - (i:Nat)) 1) where
 mem:=by simp
 obj:=fun i h st b hb=>by
  have e:b=it:=by simpa using hb
  subst e
  exact ⟨_,st,fun v z=>by
   have z':Pe _=Qq v:=z
   cases z'⟩
 keep:=fun i h h' st k=>k it (by simp) _ st
 item:=by
  intro X hP hw hK hc i pins s σ H E I hf st hg
  subst hP hw hK
  obtain ⟨f0,f1,f2,f3,f4,f5⟩:=hf it (by simp)
  have W:=Walks.range (prog:=X.prog) (w:=X.w) (I.ok.hd hc) it lo 1 n
  refine W.item i s _ _ hg st fun v h' tk hv st' kk => ?_
  obtain ⟨t,rfl⟩:=hv
  have I1:Inv X pins σ H { s with heap:=h',toks:=tk }:=I.turned (fun b o hb e=>kk b o (by simpa using hb) e) f0 f1 f3 f4 f5
  refine ⟨_,rfl,zfM (s:={ s with heap:=h',toks:=tk }) (n := "range_iterator") st' rfl rfl (by decide) ⟨.int (lo + i),H,I1,⟨t,?_⟩,⟨rfl,rfl⟩,st',fun b hb=>(hf b hb).1⟩⟩
  rw [Qb]
 done:=by
  intro X hP hw hK hc i pins s σ H E I hf st hg
  subst hP hw hK
  obtain ⟨f0,f1,f2,f3,f4,f5⟩:=hf it (by simp)
  exact wpAny_pyNext_range_end (I.ok.hd hc) st (by have:n<=i:=hg; omega) fun h' eb=>⟨rfl,I.turned (t':=s.toks) (fun b o hb e=>eb b o hb e) f0 f1 f3 f4 f5⟩
 self:=fun _ _ _ _ _ st h=>N5 st h
section
variable {X:Cx} {tg:Ca}
noncomputable def iList (K:Al) (tl:TE):TI:=fun σ H R=>tl σ H fun x H1=>∃ a,x = .ref a/\(∃ xs,SqL K H1 a xs)/\R (Itl K a) H1
noncomputable def iTup (K:Al) (tl:TE):TI:=fun σ H R=>tl σ H fun x H1=>∃ a,x = .ref a/\(∃ xs,SqT K H1 a xs)/\R (Itt K a) H1
theorem zaI {l:Ca} {tl:TE} (hl:PE X l tl):PI X tg l (iList X.K tl):=by
 intro pins s σ H R I h
 refine thn (hl pins s σ H _ I h) fun v s1 ⟨x,H1,I1,r1,q1⟩ => ?_
 obtain ⟨a,e,⟨xs,hq⟩,q⟩:=q1
 subst e
 cases r1
 obtain ⟨its,rv,p,hz⟩:=I1.list hq
 refine On p.isList ?_
 refine ⟨s1.heap.objs.size,[s1.heap.objs.size],_,_,H1,rfl,I1.kept (t':=s1.toks) fun b o e=>A7 _ e,turn_list a _,⟨_,Ay _ rfl,rfl,rfl⟩,fun b hb => ?_,q⟩
 have e:b=s1.heap.objs.size:=by simpa using hb
 subst e
 exact I1.fpOk (Ad _) (I1.hok.fresh (Ad _))
theorem pi_tup {l:Ca} {tl:TE} (hl:PE X l tl):PI X tg l (iTup X.K tl):=by
 intro pins s σ H R I h
 refine thn (hl pins s σ H _ I h) fun v s1 ⟨x,H1,I1,r1,q1⟩ => ?_
 obtain ⟨a,e,⟨xs,hq⟩,q⟩:=q1
 subst e
 cases r1
 obtain ⟨its,rv,p,hz⟩:=I1.tuple hq
 refine wpAny_pyIter_tuple (show s1.heap.IsTuple a its.toArray from p) ?_
 refine ⟨s1.heap.objs.size,[s1.heap.objs.size],_,_,H1,rfl,I1.kept (t':=s1.toks) fun b o e=>A7 _ e,turn_tuple a _,⟨_,Ay _ rfl,rfl,rfl⟩,fun b hb => ?_,q⟩
 have e:b=s1.heap.objs.size:=by simpa using hb
 subst e
 exact I1.fpOk (Ad _) (I1.hok.fresh (Ad _))
theorem range_it {pins:List (A3×Obj)} {σ : St} {H:Hp} {s:A4} {R:It->Hp->Prop} {E:A1->A4->Prop} {lo hi:Int} {t u v:Tok} {tk:Nat} (I:Inv X pins σ H s) (h1 : -(2 ^ 62)<=lo) (h2:lo < 2 ^ 62) (h3 : -(2 ^ 62)<=hi) (h4:hi < 2 ^ 62)
  (q:R (Itr lo (hi - lo).toNat) H):wpAny (model X.prog X.w) X.A (pyIter (.ref s.heap.objs.size)) (PIE X pins σ tg R) E { s with heap:=s.heap.push { cls := .type "range",data := .fields #[.int lo t,.int hi u,.int 1 v] },toks:=tk }:=by
 refine Od (Oa ..) (small_one h1 h2 h3 h4) ?_
 have I1:Inv X pins σ H { s with heap:=s.heap.push { cls := .type "range",data := .fields #[.int lo t,.int hi u,.int 1 v] },toks:=tk }:=I.kept fun b o e=>A7 _ e
 refine ⟨(s.heap.push { cls := .type "range",data := .fields #[.int lo t,.int hi u,.int 1 v] }).objs.size,[(s.heap.push { cls := .type "range",data := .fields #[.int lo t,.int hi u,.int 1 v] }).objs.size],_,_,H,rfl,
  I1.kept (t':=tk) fun b o e=>A7 _ e,turn_range _ lo (hi - lo).toNat,?_,fun b hb => ?_,q⟩
 ·have e1:lo + ((0:Nat):Int) * 1=lo:=by simp
  have e2:(((hi - lo).toNat:Nat):Int) - ((0:Nat):Int)=Jy lo hi 1:=by rw [Qt]; split <;> omega
  show G3 _ _ (lo + ((0:Nat):Int) * 1) ((((hi - lo).toNat:Nat):Int) - ((0:Nat):Int)) 1
  rw [e1,e2]
  exact Ay _ rfl
 ·have e:b=(s.heap.push { cls := .type "range",data := .fields #[.int lo t,.int hi u,.int 1 v] }).objs.size:=by simpa using hb
  subst e
  exact I1.fpOk (Ad _) (I1.hok.fresh (Ad _))
noncomputable def iRng1 (ta:TA):TI:=fun σ H R=>ta σ H fun vs H1=>∃ j:Int,vs = [.int j] /\ -(2 ^ 62)<=j/\j < 2 ^ 62/\R (Itr 0 j.toNat) H1
theorem zbm {a:Ca} {ta:TA} {p pos:Pos} (hg:Gl X "range") (hm:X.mg "range" = none) (ha:PA X [a] ta) (hs:starEach [a] X.env = [(false,eval a X.env)]:=by rfl):PI X tg (.Call (.Name "range" p) [a] [] pos) (iRng1 ta):=by
 intro pins s σ H R I h
 refine Call_ (zes I hg hm boot_range (G0 (thn (ha pos pins s σ H _ I h) fun us s1 ⟨vs,H1,I1,r1,q1⟩ => ?_) hs rfl))
 obtain ⟨j,e,q1,q2,q⟩:=q1
 subst e
 cases r1 with
 | cons r rr =>
  cases rr
  obtain ⟨t,rfl⟩:=r
  exact Rs (range_it I1 (by omega) (by omega) q1 q2 (by simpa using q))
noncomputable def tFor (wi:TI) (g:TG) (tb:TS):TS:=fun D σ H=>wi σ H fun J H1=>∃ W:Nat->Nat->St->Hp->Prop,(∃ m,W 0 m σ H1)/\∀ i m σ H,W i m σ H ->
 (J.stop i H/\D.nx σ H)\/(J.go i H/\∃ N:St->Hp->Prop,(∀ σ' H',N σ' H'->∃ m',m' < m/\W (i + 1) m' σ' H')/\∀ x H',J.yld i H x H'->g x σ H' fun σ2 H2=>tb { D with nx:=N,ct:=N,bk:=D.nx } σ2 H2)
noncomputable def pinsAt (fp:List A3) (h:Br):List (A3×Obj):=fp.filterMap fun b=>(h.get? b).map fun o=>(b,o)
theorem zb0 {fp:List A3} {h:Br} {b:A3} {o:Obj} (hb:b∈fp) (e:h.get? b=some o):(b,o)∈pinsAt fp h:=En.mpr ⟨b,hb,by rw [e]; rfl⟩
theorem of_pinsAt {fp:List A3} {h:Br} {p:A3×Obj} (hp:p∈pinsAt fp h):p.1∈fp/\h.get? p.1=some p.2:=by
 obtain ⟨b,hb,e⟩:=En.mp hp
 cases q:h.get? b with
 | none=>rw [q] at e; cases e
 | some o =>
  rw [q] at e
  have e':(b,o)=p:=C1 e
  subst e'
  exact ⟨hb,q⟩
theorem Inv.pinned {pins:List (A3×Obj)} {σ : St} {H:Hp} {s:A4} {fp:List A3} (I:Inv X pins σ H s) (hf:∀ b∈fp,FpOk X pins H b) (ho:∀ b∈fp,∃ o,s.heap.get? b=some o/\∀ v,o.data ≠ .cell v):Inv X (pins ++ pinsAt fp s.heap) σ H s :=
 I.pins_of fun p hp=>(Ao.mp hp).elim (fun z=>I.pin p (Bj _ z)) fun z=>by
  obtain ⟨hb,e⟩:=of_pinsAt z
  obtain ⟨f0,f1,f2,_⟩:=hf p.1 hb
  obtain ⟨o,e',d⟩:=ho p.1 hb
  rw [e] at e'; cases e'
  exact ⟨e,f0,f1,f2,d⟩
theorem Inv.unpinned {pins pl:List (A3×Obj)} {σ : St} {H:Hp} {s:A4} (I:Inv X (pins ++ pl) σ H s):Inv X pins σ H s:=I.pins_of fun p hp=>I.pin p (Bj _ (Bf _ hp))
theorem zbe {iter:Ca} {body:List Cd} {wi:TI} {g:TG} {tb:TS} {pos:Pos} (hp:P8 (model X.prog X.w) X.A X.env X.xe) (hc:X.calm=true) (hi:PI X tg iter wi) (hg:PG X tg g) (hb:PSs X body tb)
  (hs:∀ x,foldedSetIterable iter X.env x=pure x:=by intro _; rfl):PS X (.For tg iter body [] pos) (tFor wi g tb):=by
 intro pins s σ H D I h
 refine wpAny_For (thn (hi pins s σ H _ I h) fun v s1 h1=>thn h1 fun itv s2 h2 => ?_) hs
 obtain ⟨it,fp,tn,J,H2,e,I2,T,st2,f2,W,⟨m0,w0⟩,turn⟩:=h2
 subst e
 have stat:∀ {H':Hp},(∀ b∈fp,H' b=none)->∀ b∈fp,FpOk X pins H' b:=fun hn b hb=>⟨hn b hb,(f2 b hb).2⟩
 refine codeAny_forLoop_any (fun n s'=>∃ i σ' H',Inv X pins σ' H' s'/\tn i s'.heap/\(∀ b∈fp,H' b=none)/\W i n σ' H') ?_ m0 ⟨0,σ,H2,I2,st2,fun b hb=>(f2 b hb).1,w0⟩
 rintro n s3 ⟨i,σ3,H3,I3,st3,fr3,w3⟩
 rcases turn i n σ3 H3 w3 with ⟨stop,qn⟩ | ⟨go,N,hN,step⟩
 ·refine F4 hp (thn (T.done X rfl rfl rfl hc i pins s3 σ3 H3 X.xe I3 (stat fr3) st3 stop) fun r s4 ⟨hr,I4⟩ => ?_)
  subst hr
  exact Gq ⟨σ3,H3,I4,qn⟩
 ·refine F4 hp (thn (T.item X rfl rfl rfl hc i pins s3 σ3 H3 X.xe I3 (stat fr3) st3 go) fun r s4 ⟨u,hr,h4⟩ => ?_)
  subst hr
  refine F4 hp (thn h4 fun _ s5 ⟨x,H5,I5,r5,y5,st5,fr5⟩ => ?_)
  have I5':=I5.pinned (stat fr5) (T.obj _ _ st5)
  refine F4 hp (thn (hg _ s5 σ3 H5 x u _ I5' r5 (step x H5 y5)) fun _ s6 ⟨σ6,H6,I6,q6⟩ => ?_)
  refine F4 hp (thn (hb _ s6 σ6 H6 _ I6 q6) fun f s7 q7 => ?_)
  have again:∀ {σ7:St} {H7:Hp},Inv X (pins ++ pinsAt fp s5.heap) σ7 H7 s7->N σ7 H7->∃ m,m < n/\∃ i σ' H',Inv X pins σ' H' s7/\tn i s7.heap/\(∀ b∈fp,H' b=none)/\W i m σ' H':=fun {σ7 H7} I7 n7=>by
   obtain ⟨m',hm,w7⟩:=hN σ7 H7 n7
   refine ⟨m',hm,i + 1,σ7,H7,I7.unpinned,T.keep _ _ _ st5 fun b hb o e=>(I7.pin (b,o) (Bj _ (Bj _ (zb0 hb e)))).1,fun b hb => ?_,w7⟩
   obtain ⟨o,e,d⟩:=T.obj _ _ st5 b hb
   exact (I7.pin (b,o) (Bj _ (Bj _ (zb0 hb e)))).2.1
  cases f with
  | next=>obtain ⟨σ7,H7,I7,n7⟩:=q7; exact again I7 n7
  | cont=>obtain ⟨σ7,H7,I7,n7⟩:=q7; exact again I7 n7
  | brk=>obtain ⟨σ7,H7,I7,q7⟩:=q7; exact ⟨σ7,H7,I7.unpinned,q7⟩
  | ret v=>obtain ⟨x7,σ7,H7,I7,r7,q7⟩:=q7; exact ⟨x7,σ7,H7,I7.unpinned,r7,q7⟩
end
noncomputable abbrev R2:=V->V->Hp->VK->Prop
noncomputable def OpR (X:Cx) (f:A1->A1->Sem A1) (r:R2):Prop :=
 ∀ (pins:List (A3×Obj)) (s:A4) (σ : St) (H:Hp) (x y:V) (v u:A1) (Q:VK),Inv X pins σ H s->RelV x v->RelV y u->r x y H Q ->
  wpAny (model X.prog X.w) X.A (f v u) (EP X pins σ Q) X.xe s
noncomputable def UnR (X:Cx) (f:A1->Sem A1) (r:V->Hp->VK->Prop):Prop :=
 ∀ (pins:List (A3×Obj)) (s:A4) (σ : St) (H:Hp) (x:V) (v:A1) (Q:VK),Inv X pins σ H s->RelV x v->r x H Q ->
  wpAny (model X.prog X.w) X.A (f v) (EP X pins σ Q) X.xe s
noncomputable def CallR (X:Cx) (f:A1) (r:List V->Hp->VK->Prop):Prop :=
 ∀ (pins:List (A3×Obj)) (s:A4) (σ : St) (H:Hp) (xs:List V) (us:List A1) (Q:VK),Inv X pins σ H s->Vals xs us->r xs H Q ->
  wpAny (model X.prog X.w) X.A (call f us) (EP X pins σ Q) X.xe s
noncomputable def tOp (r:R2) (ta tb:TE):TE:=fun σ H Q=>ta σ H fun x H1=>tb σ H1 fun y H2=>r x y H2 Q
noncomputable def tUn (r:V->Hp->VK->Prop) (ta:TE):TE:=fun σ H Q=>ta σ H fun x H1=>r x H1 Q
noncomputable def rI (C:Int->Int->Prop) (g:Int->Int->V):R2:=fun x y H Q=>∃ i j,x = .int i/\y = .int j/\C i j/\Q (g i j) H
noncomputable def rI0 (g:Int->Int->V):R2:=fun x y H Q=>∃ i j,x = .int i/\y = .int j/\Q (g i j) H
noncomputable def rU (g:Int->V):V->Hp->VK->Prop:=fun x H Q=>∃ i,x = .int i/\Q (g i) H
section
variable {X:Cx} {a b c:Ca} {ta tb tc:TE} {pos:Pos}
theorem binT (ha:PE X a ta) (hb:PE X b tb) {pins:List (A3×Obj)} {s:A4} {σ : St} {H:Hp} {R:V->V->Hp->Prop} (I:Inv X pins σ H s)
  (h:ta σ H fun x H1=>tb σ H1 fun y H2=>R x y H2) {Q:A1->A4->Prop} {f:A1->A1->Sem A1}
  (hf:∀ v u s2 x y H2,Inv X pins σ H2 s2->RelV x v->RelV y u->R x y H2->wpAny (model X.prog X.w) X.A (f v u) Q X.xe s2) :
  wpAny (model X.prog X.w) X.A (eval a X.env) (fun v s₁ => wpAny (model X.prog X.w) X.A (eval b X.env) (fun u s₂ => wpAny (model X.prog X.w) X.A (f v u) Q X.xe s₂) X.xe s₁) X.xe s:=by
 refine thn (ha pins s σ H _ I h) fun v s1 ⟨x,H1,I1,r1,q1⟩ => ?_
 refine thn (hb pins s1 σ H1 _ I1 q1) fun u s2 ⟨y,H2,I2,r2,q2⟩ => ?_
 exact hf v u s2 x y H2 I2 r1 r2 q2
theorem zas {op:Operator} {r:R2} (ho:OpR X (binaryOp op) r) (ha:PE X a ta) (hb:PE X b tb):PE X (.BinOp a op b pos) (tOp r ta tb):=by
 intro pins s σ H Q I h
 exact wpAny_BinOp (binT ha hb I h fun v u s2 x y H2 I2 rx ry q=>ho pins s2 σ H2 x y v u Q I2 rx ry q)
theorem zeT {op:UnaryOp} {r:V->Hp->VK->Prop} (ho:UnR X (unaryOp op) r) (ha:PE X a ta):PE X (.UnaryOp op a pos) (tUn r ta):=by
 intro pins s σ H Q I h
 exact UnaryOp_ (thn (ha pins s σ H _ I h) fun v s1 ⟨x,H1,I1,r1,q1⟩=>ho pins s1 σ H1 x v Q I1 r1 q1)
theorem opI {f:A1->A1->Sem A1} {C:Int->Int->Prop} {g:Int->Int->Int}
  (rule:∀ (i j:Int) (t u:Tok) (s:A4) (Q:A1->A4->Prop) (E:A1->A4->Prop),C i j->Q (.int (g i j) s.toks) { s with toks:=s.toks + 1 }->wpAny (model X.prog X.w) X.A (f (.int i t) (.int j u)) Q E s) :
  OpR X f (rI C fun i j => .int (g i j)):=by
 intro pins s σ H x y v u Q I rx ry h
 obtain ⟨i,j,rfl,rfl,hc,q⟩:=h
 obtain ⟨t,rfl⟩:=rx
 obtain ⟨t',rfl⟩:=ry
 exact rule i j t t' s _ _ hc ⟨.int (g i j),H,I.tok _,⟨_,rfl⟩,q⟩
theorem opI0 {f:A1->A1->Sem A1} {g:Int->Int->Int}
  (rule:∀ (i j:Int) (t u:Tok) (s:A4) (Q:A1->A4->Prop) (E:A1->A4->Prop),Q (.int (g i j) s.toks) { s with toks:=s.toks + 1 }->wpAny (model X.prog X.w) X.A (f (.int i t) (.int j u)) Q E s) :
  OpR X f (rI0 fun i j => .int (g i j)):=by
 intro pins s σ H x y v u Q I rx ry h
 obtain ⟨i,j,rfl,rfl,q⟩:=h
 obtain ⟨t,rfl⟩:=rx
 obtain ⟨t',rfl⟩:=ry
 exact rule i j t t' s _ _ ⟨.int (g i j),H,I.tok _,⟨_,rfl⟩,q⟩
theorem opB0 {f:A1->A1->Sem A1} {g:Int->Int->Bool}
  (rule:∀ (i j:Int) (t u:Tok) (s:A4) (Q:A1->A4->Prop) (E:A1->A4->Prop),Q (.bool (g i j)) s->wpAny (model X.prog X.w) X.A (f (.int i t) (.int j u)) Q E s) :
  OpR X f (rI0 fun i j => .bl (g i j)):=by
 intro pins s σ H x y v u Q I rx ry h
 obtain ⟨i,j,rfl,rfl,q⟩:=h
 obtain ⟨t,rfl⟩:=rx
 obtain ⟨t',rfl⟩:=ry
 exact rule i j t t' s _ _ ⟨.bl (g i j),H,I,rfl,q⟩
noncomputable def CDiv (i j:Int):Prop:=0 < j/\j < 1073741824
noncomputable def CPow (i j:Int):Prop:=0<=j/\j<=1000000/\i.natAbs < 2 ^ 64
noncomputable def CMul (i j:Int):Prop:=(-(2 ^ 64) < i/\i < 2 ^ 64)\/(-(2 ^ 64) < j/\j < 2 ^ 64)
theorem CMul.ok {i j:Int} (h:CMul i j):IntMulOk i j:=by
 rcases h with ⟨h1,h2⟩ | ⟨h1,h2⟩
 ·exact .of_left (Qu h1 h2)
 ·exact .of_right (Qu h1 h2)
theorem two_pow_nn (k:Nat):(0:Int)<=2 ^ k:=by
 rw [two_pow_cast]
 exact Int.natCast_nonneg _
theorem zbv:OpR X (binaryOp .Add) (rI0 fun i j => .int (i + j)):=opI0 fun _ _ _ _ _ _ _ q=>add_int q
theorem zdF:OpR X (binaryOp .Sub) (rI0 fun i j => .int (i - j)):=opI0 fun _ _ _ _ _ _ _ q=>sub_int q
theorem zdG:OpR X (binaryOp .Mult) (rI CMul fun i j => .int (i * j)):=opI fun _ _ _ _ _ _ _ hc q=>mul_int q hc.ok
theorem zbh:OpR X (binaryOp .FloorDiv) (rI CDiv fun i j => .int (i / j)):=opI fun i j _ _ _ _ _ hc q=>by
 have h1:(0:Int) < j:=hc.1
 have h2:j < 1073741824:=hc.2
 exact floordiv_int (by omega) (by rw [Lc i (by omega)]; exact q) (.inl (PyProof.noPylong_small (by omega)))
theorem zaQ:OpR X (binaryOp .Mod) (rI (fun _ j=>0 < j) fun i j => .int (i % j)):=opI fun i j _ _ _ _ _ hc q=>by
 have h1:(0:Int) < j:=hc
 exact mod_int' (by omega) (by rw [Int.fmod_eq_emod_of_nonneg i (by omega)]; exact q)
theorem zfv:OpR X (binaryOp .Pow) (rI CPow fun i j => .int (i ^ j.toNat)):=opI fun _ _ _ _ _ _ _ hc q=>pow_int_small hc.1 hc.2.1 hc.2.2 q
theorem op_shr:OpR X (binaryOp .RShift) (rI (fun _ j=>0<=j) fun i j => .int (i / 2 ^ j.toNat)):=opI fun i j _ _ _ _ _ hc q =>
 rshift_int hc (by rw [Lc i (two_pow_nn _)]; exact q)
theorem zg0:OpR X (binaryOp .BitAnd) (rI0 fun i j => .int (Dp i j)):=opI0 fun _ _ _ _ _ _ _ q=>and_int q
theorem unI {f:A1->Sem A1} {g:Int->Int}
  (rule:∀ (i:Int) (t:Tok) (s:A4) (Q:A1->A4->Prop) (E:A1->A4->Prop),Q (.int (g i) s.toks) { s with toks:=s.toks + 1 }->wpAny (model X.prog X.w) X.A (f (.int i t)) Q E s) :
  UnR X f (rU fun i => .int (g i)):=by
 intro pins s σ H x v Q I rx h
 obtain ⟨i,rfl,q⟩:=h
 obtain ⟨t,rfl⟩:=rx
 exact rule i t s _ _ ⟨.int (g i),H,I.tok _,⟨_,rfl⟩,q⟩
theorem zcX:UnR X (unaryOp .USub) (rU fun i => .int (-i)):=unI fun _ _ _ _ _ q=>neg_int q
end
noncomputable def scal:V->V->Bool
 | .non,.non=>true | .non,.int _=>true | .int _,.non=>true | .non,.bl _=>true | .bl _,.non=>true | .non,.str _=>true | .str _,.non=>true
 | .int _,.int _=>true | .bl _,.bl _=>true | .str _,.str _=>true | .byt _,.byt _=>true
 | .int _,.str _=>true | .str _,.int _=>true | .bl _,.str _=>true | .str _,.bl _=>true
 | _,_=>false
noncomputable def rEq:R2:=fun x y H Q=>scal x y=true/\Q (.bl (decide (x=y))) H
noncomputable def rNe:R2:=fun x y H Q=>scal x y=true/\Q (.bl (!decide (x=y))) H
theorem zgE {i j:Int}:decide (V.int i=V.int j)=(i == j):=by
 rw [Bd]
 simp
theorem zg7 {i j:Bool}:decide (V.bl i=V.bl j)=(i == j):=by
 rw [Bd]
 simp
theorem zgD {i j:Str}:decide (V.str i=V.str j)=(i == j):=by
 rw [Bd]
 simp
theorem zgF {i j:Array UInt8}:decide (V.byt i=V.byt j)=(i.toList == j.toList):=by
 rw [Bd]
 cases i
 cases j
 simp
section
variable {X:Cx} {a b c:Ca} {ta tb tc:TE} {pos:Pos}
theorem zaA {pins:List (A3×Obj)} {σ : St} {H:Hp} {s:A4} {Q:VK} {k k':Bool} (I:Inv X pins σ H s) (q:Q (.bl k) H) (e:k=k'):EP X pins σ Q (.bool k') s:=by
 subst e
 exact ⟨.bl k,H,I,rfl,q⟩
theorem zcA:OpR X (compareOp .Eq) rEq:=by
 intro pins s σ H x y v u Q I rx ry h
 obtain ⟨hs,q⟩:=h
 cases x with
 | non =>
  cases rx
  cases y with
  | non=>cases ry; exact Pz (zaA I q (by simp))
  | bl j=>cases ry; exact Q1 (zaA I q (by simp))
  | int j=>obtain ⟨t',rfl⟩:=ry; exact Q0 (zaA I q (by simp))
  | str j=>obtain ⟨t',rfl⟩:=ry; exact Py (zaA I q (by simp))
  | _=>exact absurd (show false=true from hs) A9
 | bl i =>
  cases rx
  cases y with
  | non=>cases ry; exact Q3 (zaA I q (by simp))
  | bl j=>cases ry; exact eq_bool (zaA I q zg7)
  | str j=>obtain ⟨t',rfl⟩:=ry; exact P7 (zaA I q (by simp))
  | _=>exact absurd (show false=true from hs) A9
 | int i =>
  obtain ⟨t,rfl⟩:=rx
  cases y with
  | non=>cases ry; exact Q2 (zaA I q (by simp))
  | int j=>obtain ⟨t',rfl⟩:=ry; exact eq_int (zaA I q zgE)
  | str j=>obtain ⟨t',rfl⟩:=ry; exact P6 (zaA I q (by simp))
  | _=>exact absurd (show false=true from hs) A9
 | str i =>
  obtain ⟨t,rfl⟩:=rx
  cases y with
  | non=>cases ry; exact Px (zaA I q (by simp))
  | bl j=>cases ry; exact P5 (zaA I q (by simp))
  | int j=>obtain ⟨t',rfl⟩:=ry; exact P4 (zaA I q (by simp))
  | str j=>obtain ⟨t',rfl⟩:=ry; exact eq_str (zaA I q zgD)
  | _=>exact absurd (show false=true from hs) A9
 | byt i =>
  obtain ⟨t,rfl⟩:=rx
  cases y with
  | byt j=>obtain ⟨t',rfl⟩:=ry; exact PySem.W.eq_bytes (zaA I q zgF)
  | _=>exact absurd (show false=true from hs) A9
 | _=>cases y <;> exact absurd (show false=true from hs) A9
theorem zdU:OpR X (compareOp .NotEq) rNe:=by
 intro pins s σ H x y v u Q I rx ry h
 obtain ⟨hs,q⟩:=h
 cases x with
 | non =>
  cases rx
  cases y with
  | non=>cases ry; exact Pr (zaA I q (by simp))
  | bl j=>cases ry; exact Pt (zaA I q (by simp))
  | int j=>obtain ⟨t',rfl⟩:=ry; exact Ps (zaA I q (by simp))
  | str j=>obtain ⟨t',rfl⟩:=ry; exact Pq (zaA I q (by simp))
  | _=>exact absurd (show false=true from hs) A9
 | bl i =>
  cases rx
  cases y with
  | non=>cases ry; exact Pw (zaA I q (by simp))
  | bl j=>cases ry; exact ne_bool (zaA I q (congrArg not zg7))
  | str j=>obtain ⟨t',rfl⟩:=ry; exact P3 (zaA I q (by simp))
  | _=>exact absurd (show false=true from hs) A9
 | int i =>
  obtain ⟨t,rfl⟩:=rx
  cases y with
  | non=>cases ry; exact Pu (zaA I q (by simp))
  | int j=>obtain ⟨t',rfl⟩:=ry; exact ne_int (zaA I q (congrArg not zgE))
  | str j=>obtain ⟨t',rfl⟩:=ry; exact P2 (zaA I q (by simp))
  | _=>exact absurd (show false=true from hs) A9
 | str i =>
  obtain ⟨t,rfl⟩:=rx
  cases y with
  | non=>cases ry; exact Pp (zaA I q (by simp))
  | bl j=>cases ry; exact P1 (zaA I q (by simp))
  | int j=>obtain ⟨t',rfl⟩:=ry; exact P0 (zaA I q (by simp))
  | str j=>obtain ⟨t',rfl⟩:=ry; exact ne_str (zaA I q (congrArg not zgD))
  | _=>exact absurd (show false=true from hs) A9
 | byt i =>
  obtain ⟨t,rfl⟩:=rx
  cases y with
  | byt j=>obtain ⟨t',rfl⟩:=ry; exact PySem.W.ne_bytes (zaA I q (congrArg not zgF))
  | _=>exact absurd (show false=true from hs) A9
 | _=>cases y <;> exact absurd (show false=true from hs) A9
theorem zgg:OpR X (compareOp .Lt) (rI0 fun i j => .bl (decide (i < j))):=opB0 fun _ _ _ _ _ _ _ q=>lt_int q
theorem zeo:OpR X (compareOp .LtE) (rI0 fun i j => .bl (decide (i<=j))):=opB0 fun _ _ _ _ _ _ _ q=>le_int q
theorem zgh:OpR X (compareOp .Gt) (rI0 fun i j => .bl (decide (j < i))):=opB0 fun _ _ _ _ _ _ _ q=>gt_int q
theorem zhb:OpR X (compareOp .GtE) (rI0 fun i j => .bl (decide (j<=i))):=opB0 fun _ _ _ _ _ _ _ q=>ge_int q
theorem op_notN:OpR X (compareOp .IsNot) (fun x y H Q=>y = .non/\Q (.bl (!decide (x = .non))) H):=by
 intro pins s σ H x y v u Q I rx ry h
 obtain ⟨rfl,q⟩:=h
 cases ry
 refine isnot_none_gen (zaA I q ?_)
 cases x <;> first
  | (cases rx; rfl)
  | (obtain ⟨t,rfl⟩:=rx; rfl)
theorem zav (b:Ca) {op:N4} (h:op ≠ .In:=by decide) (h2:op ≠ .NotIn:=by decide):behindInMarks op b=false:=by
 have e1:(op == CmpOp.In)=false:=by cases op <;> first | rfl | exact absurd rfl h
 have e2:(op == CmpOp.NotIn)=false:=by cases op <;> first | rfl | exact absurd rfl h2
 cases b <;> simp [behindInMarks,e1,e2]
theorem zeU {op:N4} {r:R2} (ho:OpR X (compareOp op) r) (ha:PE X a ta) (hb:PE X b tb) (hm:behindInMarks op b=false):PE X (.Compare a [op] [b] pos) (tOp r ta tb):=by
 intro pins s σ H Q I h
 exact Qg (binT ha hb I h fun v u s2 x y H2 I2 rx ry q=>ho pins s2 σ H2 x y v u Q I2 rx ry q) hm
noncomputable def tTest (t:TE):TT:=fun σ H Q=>t σ H fun x H'=>∃ k,x = .bl k/\Q k H'
theorem zao {op:N4} {r:R2} (ho:OpR X (compareOp op) r) (ha:PE X a ta) (hb:PE X b tb) (hm:behindInMarks op b=false):PT X (.Compare a [op] [b] pos) (tTest (tOp r ta tb)):=by
 intro pins s σ H Q I h
 refine Nl (thn (ha pins s σ H _ I h) fun v s1 ⟨x,H1,I1,r1,q1⟩=>thn (hb pins s1 σ H1 _ I1 q1) fun u s2 ⟨y,H2,I2,r2,q2⟩ =>
  thn (ho pins s2 σ H2 x y v u _ I2 r1 r2 q2) fun c s3 ⟨z,H3,I3,r3,k,e,q3⟩ => ?_) hm
 subst e
 cases r3
 exact Cy ⟨H3,I3,q3⟩
noncomputable def tChain (r r':R2) (ta tb tc:TE):TE:=fun σ H Q=>ta σ H fun x H1=>tb σ H1 fun y H2=>r x y H2 fun z H3=>∃ k,z = .bl k /\
 (if k=true then tc σ H3 fun w' H4=>r' y w' H4 Q else Q (.bl false) H3)
theorem zfu {op op':N4} {r r':R2} (ho:OpR X (compareOp op) r) (ho':OpR X (compareOp op') r') (ha:PE X a ta) (hb:PE X b tb) (hc:PE X c tc)
  (hm:lastMarks [op,op'] [b,c]=false:=by with_unfolding_all rfl):PE X (.Compare a [op,op'] [b,c] pos) (tChain r r' ta tb tc):=by
 intro pins s σ H Q I h
 refine Compare_chain (thn (ha pins s σ H _ I h) fun v s1 ⟨x,H1,I1,r1,q1⟩=>chain_link (thn (hb pins s1 σ H1 _ I1 q1) fun u s2 ⟨y,H2,I2,r2,q2⟩ =>
  thn (ho pins s2 σ H2 x y v u _ I2 r1 r2 q2) fun d s3 ⟨z,H3,I3,r3,k,e,q3⟩ => ?_)) hm
 subst e
 cases r3
 refine Cy ?_
 cases k with
 | false=>exact ite_ff ⟨.bl false,H3,I3,rfl,q3⟩
 | true=>exact ite_tt (chain_last (thn (hc pins s3 σ H3 _ I3 q3) fun w' s4 ⟨z',H4,I4,r4,q4⟩=>ho' pins s4 σ H4 y z' u w' Q I4 r2 r4 q4))
theorem zdQ {op op':N4} {r r':R2} (ho:OpR X (compareOp op) r) (ho':OpR X (compareOp op') r') (ha:PE X a ta) (hb:PE X b tb) (hc:PE X c tc)
  (hm:lastMarks [op,op'] [b,c]=false:=by with_unfolding_all rfl):PT X (.Compare a [op,op'] [b,c] pos) (tTest (tChain r r' ta tb tc)):=by
 intro pins s σ H Q I h
 refine isTrue_chain (thn (ha pins s σ H _ I h) fun v s1 ⟨x,H1,I1,r1,q1⟩=>test_link (thn (hb pins s1 σ H1 _ I1 q1) fun u s2 ⟨y,H2,I2,r2,q2⟩ =>
  thn (ho pins s2 σ H2 x y v u _ I2 r1 r2 q2) fun d s3 ⟨z,H3,I3,r3,k,e,q3⟩ => ?_)) hm
 subst e
 cases r3
 refine Cy ?_
 cases k with
 | false =>
  obtain ⟨k',e',q'⟩:=q3
  cases e'
  exact ite_ff ⟨H3,I3,q'⟩
 | true =>
  refine ite_tt (test_last (thn (hc pins s3 σ H3 _ I3 q3) fun w' s4 ⟨z',H4,I4,r4,q4⟩=>thn (ho' pins s4 σ H4 y z' u w' _ I4 r2 r4 q4) fun d' s5 ⟨z2,H5,I5,r5,k2,e2,q5⟩ => ?_))
  subst e2
  cases r5
  exact Cy ⟨H5,I5,q5⟩
theorem zdH:(sizeLine:Nat) < 2 ^ 63:=by rw [Nw]; decide
theorem op_add_str:OpR X (binaryOp .Add) (fun x y H Q=>∃ i j,x = .str i/\y = .str j/\i.length + j.length<=sizeLine/\Q (.str (i ++ j)) H):=by
 intro pins s σ H x y v u Q I rx ry h
 obtain ⟨i,j,rfl,rfl,hz,q⟩:=h
 obtain ⟨t,rfl⟩:=rx
 obtain ⟨t',rfl⟩:=ry
 exact add_str (fun t' tk=>⟨.str (i ++ j),H,I.tok _,⟨_,rfl⟩,q⟩) hz
theorem zb5 {x:V} {us:List A1} (r:Vals [x] us):∃ u,us = [u]/\RelV x u:=by
 cases r with
 | cons r1 r2=>cases r2; exact ⟨_,rfl,r1⟩
theorem zg9 {x y:V} {us:List A1} (r:Vals [x,y] us):∃ u w',us = [u,w']/\RelV x u/\RelV y w':=by
 cases r with
 | cons r1 r2 =>
  cases r2 with
  | cons r3 r4=>cases r4; exact ⟨_,_,rfl,r1,r3⟩
theorem call_min2 (hc:X.calm=true):CallR X (.builtin "min") (fun xs H Q=>∃ i j,xs = [.int i,.int j]/\Q (.int (if j < i then j else i)) H):=by
 intro pins s σ H xs us Q I r h
 obtain ⟨i,j,rfl,q⟩:=h
 obtain ⟨u,w',rfl,⟨t,rfl⟩,⟨t',rfl⟩⟩:=zg9 r
 refine min_two_ints (I.ok.hd hc) fun h' tk k=>⟨_,H,I.kept k,?_,q⟩
 by_cases hj:j < i
 ·rw [if_pos hj,if_pos hj]; exact ⟨_,rfl⟩
 ·rw [if_neg hj,if_neg hj]; exact ⟨_,rfl⟩
end
structure ObjM (h:Br) (x dx C:A3) (mA:Str->Option A1):Prop where
 obj:h.get? x=some (E9 C dx)
 ns:h.Ns1 dx mA
 ne:dx≠x
theorem lookIn_ns {h:Br} {dx:A3} {mA:Str->Option A1} (n:h.Ns1 dx mA):∃ od,h.get? dx=some od/\∀ name,Ih name od=some (mA name):=by
 obtain ⟨o,es,ep,ho,hd,hk,_,hm⟩:=n
 refine ⟨o,ho,fun name => ?_⟩
 have e:=hm name
 unfold nsFind findBy at e
 rw [<- Array.find?_toList] at e
 unfold Ih
 rw [hd]
 dsimp only
 split
 ·rename_i y q
  rw [q] at e
  exact congrArg some e
 ·rename_i q
  rw [q] at e
  have a:es.toList.any (·.refKey)=false:=by
   rw [Ng]
   intro y hy
   obtain ⟨z,t,hkey⟩:=hk y (Array.mem_toList_iff.mp hy)
   simp [Ry,hkey]
  have a':¬ es.toList.any (·.refKey)=true:=by rw [a]; exact A9
  rw [if_neg a']
  exact congrArg some e
theorem ObjM.look {h:Br} {x dx C:A3} {mA:Str->Option A1} (I:ObjM h x dx C mA):∃ od,Ey h x (E9 C dx) C (some od)/\∀ name,Ih name od=some (mA name) :=
 let ⟨od,ho,hl⟩:=lookIn_ns I.ns
 ⟨od,⟨I.obj,rfl,rfl,ho⟩,hl⟩
section
variable {prog:An} {w:B8} {A:B1} {E:A1->A4->Prop} {s:A4} {K:Al} {x dx C f:A3} {mA:Str->Option A1} {name:Str} {v:A1}
theorem get_map {expr:Bool} {Q:A1->A4->Prop} (X:K.In s.heap) (I:ObjM s.heap x dx C mA) (hg:Fv K C name=true) (hh:Gn K C=true)
  (ha:Bq K (.ref C) name=some none) (hv:mA name=some v) (hv':Mu v=true) (h:Q v { s with toks:=s.toks + 1 }) :
  wpAny (model prog w) A (getAttr (.ref x) name expr) Q E s:=by
 obtain ⟨od,J,hl⟩:=I.look
 exact PySem.W.get_value X J (Iu hg).1 (PySem.W.findObj_own hh ha rfl (by rw [hl,hv])) hv' h
theorem get_meth {pl:Sem Bool} {Q:A1×List A1->A4->Prop} (X:K.In s.heap) (I:ObjM s.heap x dx C mA) (hg:Fv K C name=true)
  (hf:Bq K (.ref C) name=some (some (.ref f))) (ht:Hk K (.ref f)=true) (hv:mA name=none) (h:Q (.ref f,[.ref x]) s) :
  wpAny (model prog w) A (getMethod (.ref x) name pl) Q E s:=by
 obtain ⟨od,J,hl⟩:=I.look
 exact PySem.W.method_fn X J (Iu hg).1 (Iu hg).2 hf (beq_iff_eq.mp ht) (by show (Ih name od).map (·.isSome)=some false; rw [hl,hv]; rfl) h
theorem set_map {ns:List Str} {Q:Unit->A4->Prop} (X:K.In s.heap) (I:ObjM s.heap x dx C mA)
  (hs:Bq K (.ref C) "__setattr__" = some (some (.builtin "object.__setattr__"))) (hp:Jk K C=true) (ht:K2 K C name=some none) (hh:Gn K C=true)
  (hw:Lr mA ns) (hsz:ns.length<=sizeLine)
  (h:∀ h',ObjM h' x dx C (fun y=>if y=name then some v else mA y)->Fb dx s.heap h'->Q () { s with heap:=h',toks:=s.toks + 2 }) :
  wpAny (model prog w) A (setAttr (.ref x) name v) Q E s:=by
 obtain ⟨od,J,hl⟩:=I.look
 refine PySem.W.set_plain X J hs (PySem.W.osa_open (s:={ s with toks:=s.toks + 1 }) (r:=none) X J hp ht fun b => ?_)
 obtain ⟨cd,hc,hd'⟩:=PySem.W.any_some hh
 have hx:s.heap.get? x=some ⟨.ref C,some dx,.plain,#[]⟩:=I.obj
 refine A2 (Ae (A2 (A2 (Qf hx (A2 (Oz (s:={ s with toks:=s.toks + 1 }) (PySem.W.looks_clsIn X hc) ?_))))))
 rw [hd']
 refine Ae (a:=some dx) (A2 (Ae (A2 ?_)))
 refine wpAny_nsSet1 (s:={ s with toks:=s.toks + 1 }) I.ns fun h' hn2 hs2 => ?_
 obtain ⟨oD,esD,epD,hoD,hdD,hcD⟩:=hn2.count (Pn name v hw)
 refine A2 (wpAny_lookBehind hoD (by rw [hdD]; exact pastItsLine_dict (C0 hcD (by rw [Ar]; omega))) ?_)
 exact Ae (h _ ⟨(hs2.2 _ (Dy I.ne)).trans I.obj,hn2,I.ne⟩ hs2)
theorem make_map {R:Qn->A4->Prop} {vs:List A1} {kw:List (Str×A1)} (X:K.In s.heap) (hm:K7 K C=true)
  (hi:Bq K (.ref C) "__init__" = some (some (.ref f))) (hf:N9 K (.ref f)=some (.type "function"))
  (h:codeAny (model prog w) (A.under (.builtin "type.__call__" ⟨.ref C :: vs,kw⟩)) (.call (.ref f) ⟨.ref (s.heap.objs.size + 1) :: vs,kw⟩) (PySem.W.InitBack (s.heap.objs.size + 1) R)
   { s with heap:=(s.heap.push Db).push (E9 C s.heap.objs.size) }) :
  codeAny (model prog w) A (.call (.ref C) ⟨vs,kw⟩) R s:=by
 obtain ⟨hh,g,d,t,os⟩:=s
 exact PySem.W.make_core (PySem.W.makes_of X hm) (Ig X hi) (fun self=>PySem.W.bind_fn X self hf) (.inl rfl) h
end
noncomputable def putF (f:Str) (v:V):List (Str×V)->List (Str×V)
 | [] => [(f,v)]
 | (g,x) :: r=>if g=f then (g,v) :: r else (g,x) :: putF f v r
theorem zc8 (f g:Str) (v:V):∀ fs:List (Str×V),(putF f v fs).lookup g=if g=f then some v else fs.lookup g
 | []=>by
  show F8 g [(f,v)]=_
  by_cases h:g=f
  ·have hb:(g == f)=true:=beq_iff_eq.mpr h
   simp only [F8,hb,if_pos h]
  ·have hb:(g == f)=false:=beq_eq_false_iff_ne.mpr h
   simp only [F8,hb,if_neg h]
 | (k,x) :: r=>by
  have ih:=zc8 f g v r
  rw [show putF f v ((k,x) :: r)=(if k=f then (k,v) :: r else (k,x) :: putF f v r) from rfl]
  by_cases hk:k=f
  ·rw [if_pos hk]
   by_cases h:g=k
   ·have hb:(g == k)=true:=beq_iff_eq.mpr h
    simp only [F8,hb,if_pos (h.trans hk)]
   ·have hb:(g == k)=false:=beq_eq_false_iff_ne.mpr h
    simp only [F8,hb,if_neg (fun e:g=f=>h (e.trans hk.symm))]
  ·rw [if_neg hk]
   by_cases h:g=k
   ·have hb:(g == k)=true:=beq_iff_eq.mpr h
    simp only [F8,hb,if_neg (fun e:g=f=>hk (h.symm.trans e))]
   ·have hb:(g == k)=false:=beq_eq_false_iff_ne.mpr h
    simp only [F8,hb]
    exact ih
theorem zdb (f:Str) (v:V):∀ fs:List (Str×V),f∈(putF f v fs).map (·.1)/\∀ g,g∈fs.map (·.1)->g∈(putF f v fs).map (·.1)
 | []=>⟨by simp [putF],fun g h=>by simp at h⟩
 | (k,x) :: r=>by
  obtain ⟨i1,i2⟩:=zdb f v r
  rw [show putF f v ((k,x) :: r)=(if k=f then (k,v) :: r else (k,x) :: putF f v r) from rfl]
  by_cases hk:k=f
  ·rw [if_pos hk]
   subst hk
   exact ⟨by simp,fun g h=>by simpa using h⟩
  ·rw [if_neg hk]
   refine ⟨?_,fun g h => ?_⟩
   ·rw [Aq]
    exact A8 _ i1
   ·rw [Aq] at h ⊢
    rcases B6.mp h with e | e
    ·exact B6.mpr (.inl e)
    ·exact A8 _ (i2 g e)
theorem zda (f:Str) (v:V):∀ fs:List (Str×V),(putF f v fs).length<=fs.length + 1
 | []=>by simp [putF]
 | (k,x) :: r=>by
  have ih:=zda f v r
  rw [show putF f v ((k,x) :: r)=(if k=f then (k,v) :: r else (k,x) :: putF f v r) from rfl]
  by_cases hk:k=f
  ·rw [if_pos hk,Ar,Ar]; omega
  ·rw [if_neg hk,Ar,Ar]; omega
theorem RelO.some_of {v:V} {o:Option A1} (r:RelO (some v) o):∃ u,o=some u/\RelV v u:=by
 cases o with
 | none=>exact (show False from r).elim
 | some u=>exact ⟨u,rfl,r⟩
theorem RelO.none_of {o:Option A1} (r:RelO none o):o=none:=by
 cases o with
 | none=>rfl
 | some u=>exact (show False from r).elim
theorem handed_of {v:V} {u:A1} (r:RelV v u):Mu u=true:=by
 cases v with
 | non=>cases (show u=Du from r); rfl
 | bl b=>cases (show u=Hs b from r); rfl
 | int i=>obtain ⟨t,e⟩:=(show ∃ t,u=Hj i t from r); cases e; rfl
 | str x=>obtain ⟨t,e⟩:=(show ∃ t,u=K0 x t from r); cases e; rfl
 | byt b=>obtain ⟨t,e⟩:=(show ∃ t,u=Oq b t from r); cases e; rfl
 | flt b=>obtain ⟨t,e⟩:=(show ∃ t,u=M9 b t from r); cases e; rfl
 | ref a=>cases (show u=Az a from r); rfl
 | ty n=>cases (show u=Em n from r); rfl
section
variable {P:An} {w:B8} {H H':Hp} {h h':Br} {a C dx:A3} {fs fs':List (Str×V)}
theorem zd0 (hok:HOk P w H h) (e:H a=some (.ins C dx fs)):∃ mA,ObjM h a dx C mA/\(∀ f,RelO (fs.lookup f) (mA f))/\Lr mA (fs.map (·.1))/\fs.length<=1000/\H dx=some (.own a):=by
 obtain ⟨d,z,ne,ob,mA,n,r,q⟩:=(show ObjOk P w H h a (.ins C dx fs) from hok a _ e)
 exact ⟨mA,⟨ob,n,ne⟩,r,q,z,d⟩
end
structure Cls (K:Al) (C:A3):Prop where
 pg:Fv K C Qx=true
 hd:Gn K C=true
 po:Jk K C=true
 sa:Bq K (.ref C) "__setattr__" = some (some (.builtin "object.__setattr__"))
theorem Cls.get {K:Al} {C:A3} (c:Cls K C) (f:Str):Fv K C f=true:=c.pg
noncomputable def NoAttr (K:Al) (C:A3) (f:Str):Prop:=Bq K (.ref C) f=some none
theorem NoAttr.taker {K:Al} {C:A3} {f:Str} (n:NoAttr K C f):K2 K C f=some none:=by
 unfold K2
 rw [show Bq K (.ref C) f=some none from n]
 rfl
structure Meth (K:Al) (C:A3) (m:Str) (f:A3):Prop where
 at_:Bq K (.ref C) m=some (some (.ref f))
 fn:Hk K (.ref f)=true
 kp:Cu K (.ref f)=true
section
variable {X:Cx} {pins:List (A3×Obj)} {σ : St} {H:Hp} {s:A4} {a C dx:A3} {fs:List (Str×V)} {f:Str} {v:V} {A:B1} {E:A1->A4->Prop}
theorem getattr_ok {b:Bool} {Q:A1->A4->Prop} (I:Inv X pins σ H s) (e:H a=some (.ins C dx fs)) (c:Cls X.K C) (n:NoAttr X.K C f) (l:fs.lookup f=some v)
  (h:∀ u s',Inv X pins σ H s'->RelV v u->Q u s'):wpAny (model X.prog X.w) A (getAttr (.ref a) f b) Q E s:=by
 obtain ⟨mA,O,r,_,_,_⟩:=zd0 I.hok e
 obtain ⟨u,hu,ru⟩:=RelO.some_of (v:=v) (o:=mA f) (by rw [<- l]; exact r f)
 exact get_map I.kIn O (c.get f) c.hd n hu (handed_of ru) (h u _ (I.tok _) ru)
theorem zdJ {m:Str} {g:A3} {pl:Sem Bool} {Q:A1×List A1->A4->Prop} (I:Inv X pins σ H s) (e:H a=some (.ins C dx fs)) (c:Cls X.K C) (k:Meth X.K C m g) (l:fs.lookup m=none)
  (h:Q (.ref g,[.ref a]) s):wpAny (model X.prog X.w) A (getMethod (.ref a) m pl) Q E s:=by
 obtain ⟨mA,O,r,_,_,_⟩:=zd0 I.hok e
 have hn:mA m=none:=RelO.none_of (by rw [<- l]; exact r m)
 exact get_meth I.kIn O (c.get m) k.at_ k.fn hn h
theorem setattr_ok {y:V} {u:A1} {Q:Unit->A4->Prop} (I:Inv X pins σ H s) (e:H a=some (.ins C dx fs)) (c:Cls X.K C) (n:NoAttr X.K C f) (hl:fs.length < 1000) (ry:RelV y u)
  (h:∀ s',Inv X pins σ (upd H a (.ins C dx (putF f y fs))) s'->Q () s'):wpAny (model X.prog X.w) A (setAttr (.ref a) f u) Q E s:=by
 obtain ⟨mA,O,r,wi,_,ho⟩:=zd0 I.hok e
 have hz:(fs.map (·.1)).length<=sizeLine:=by rw [A5,Nw]; omega
 refine set_map I.kIn O c.sa c.po n.taker c.hd wi hz fun h' O' sb=>h _ ?_
 have hd:∃ o,h'.get? dx=some o:=let ⟨o,_,_,e',_⟩:=O'.ns; ⟨o,e'⟩
 refine I.write (x:=a) (e:=dx) (by rw [e]; exact E7) (.inr ho) (fun b q hb z=>(sb.2 b hb).trans z) hd ?_
 refine ⟨by rw [zah O.ne]; exact ho,?_,O.ne,O'.obj,_,O'.ns,fun g => ?_,fun g hg => ?_⟩
 ·have:=zda f y fs; omega
 ·show RelO ((putF f y fs).lookup g) (if g=f then some u else mA g)
  rw [zc8]
  by_cases q:g=f
  ·rw [if_pos q,if_pos q]; exact ry
  ·rw [if_neg q,if_neg q]; exact r g
 ·by_cases q:g=f
  ·rw [q]; exact (zdb f y fs).1
  ·refine (zdb f y fs).2 g (wi g fun z=>hg ?_)
   show (if g=f then some u else mA g)=none
   rw [if_neg q]; exact z
theorem Inv.made (I:Inv X pins σ H s):Inv X pins σ (upd (upd H s.heap.objs.size (.own (s.heap.objs.size + 1))) (s.heap.objs.size + 1) (.ins C s.heap.objs.size []))
  { s with heap:=(s.heap.push Db).push (E9 C s.heap.objs.size) }:=by
 have e1:(s.heap.push Db).get? s.heap.objs.size=some Db:=Ay s.heap rfl
 have e2:((s.heap.push Db).push (E9 C s.heap.objs.size)).get? (s.heap.objs.size + 1)=some (E9 C s.heap.objs.size):=by
  have:=Ay (s.heap.push Db) (o:=E9 C s.heap.objs.size) rfl
  rwa [Ej] at this
 have e3:(s.heap.push Db).Ns s.heap.objs.size (fun _=>none):=⟨Db,#[],_,e1,rfl,(fun e he=>absurd he (by simp)),fun _=>rfl⟩
 have I1:=I.laid (a:=s.heap.objs.size) (o := .own (s.heap.objs.size + 1)) (h':=s.heap.push Db) (t':=s.toks) (fun b u q=>A7 _ q) (Ad _) ⟨_,e1⟩
 refine I1.laid (a:=s.heap.objs.size + 1) (o := .ins C s.heap.objs.size []) (t':=s.toks) (fun b u q=>A7 _ q) (Pc (Ej _ _)) ?_
 have ne:s.heap.objs.size≠s.heap.objs.size + 1:=B7 (El _)
 refine ⟨by rw [zah ne,zac],C6 _,ne,e2,fun _=>none,(Heap.Ns1.of_empty e3).at fun o q=>A7 _ q,fun _=>E7,fun y hy=>absurd rfl hy⟩
theorem attr_of {prog:An} {w:B8} {env:Env} {e:Ca} {f:Str} {pos:Pos} {s:A4} {Q:A1->A4->Prop} (hb:attributeBase e f env (eval e env)=eval e env)
  (h:wpAny (model prog w) A (eval e env) (fun o s₁ => wpAny (model prog w) A (getAttr o f true) Q E s₁) E s):wpAny (model prog w) A (eval (.Attribute e f pos) env) Q E s :=
 Attribute_any_ h (by rw [arm_eval_Attribute,hb])
end
noncomputable def tFld (K:Al) (ta:TE) (f:Str):TE:=fun σ H Q=>ta σ H fun x H1=>∃ a C dx fs v,x = .ref a/\H1 a=some (.ins C dx fs)/\Cls K C/\NoAttr K C f/\fs.lookup f=some v/\Q v H1
noncomputable def sFld (K:Al) (ta tv:TE) (f:Str):TS:=fun D σ H=>tv σ H fun y H1=>ta σ H1 fun x H2=>∃ a C dx fs,x = .ref a/\H2 a=some (.ins C dx fs)/\Cls K C/\NoAttr K C f/\fs.length < 1000 /\
 D.nx σ (upd H2 a (.ins C dx (putF f y fs)))
section
variable {X:Cx} {o e value:Ca} {f:Str} {pos pos' tpos:Pos} {ta tv:TE}
theorem zbR (he:PE X e ta) (hb:attributeBase e f X.env (eval e X.env)=eval e X.env):PE X (.Attribute e f pos) (tFld X.K ta f):=by
 intro pins s σ H Q I h
 refine attr_of hb (thn (he pins s σ H _ I h) fun u s1 ⟨x,H1,I1,rx,a,C,dx,fs,v,ex,ea,c,n,l,q⟩ => ?_)
 subst ex
 obtain rfl:u=Az a:=rx
 exact getattr_ok I1 ea c n l fun u' s2 I2 ru=>⟨v,H1,I2,ru,q⟩
theorem zf8 (ha:PE X o ta) (hv:PE X value tv) (hs:swapsWith value (some (.Attribute o f pos')) pos.line X.env=pure false):PS X (.Assign [.Attribute o f pos'] value pos) (sFld X.K ta tv f):=by
 intro pins s σ H D I h
 refine plainObj_wpAny_Assign_Attribute (thn (hv pins s σ H _ I h) fun u s1 ⟨y,H1,I1,ry,q⟩=>thn (ha pins s1 σ H1 _ I1 q) fun ov s2 ⟨x,H2,I2,rx,a,C,dx,fs,ex,ea,c,n,l,q2⟩ => ?_) hs
 subst ex
 obtain rfl:ov=Az a:=rx
 exact setattr_ok I2 ea c n l ry fun s3 I3=>⟨σ,_,I3,q2⟩
end
section
variable {X:Cx} {pins:List (A3×Obj)} {σ : St} {H:Hp} {s:A4} {A:B1} {E:A1->A4->Prop} {Q:A1->A4->Prop} {c:A1} {b:Bool}
inductive TyOf (K:Al) (H:Hp):V->A1->Prop where
 | non:TyOf K H .non (.type "NoneType")
 | bl (x:Bool):TyOf K H (.bl x) (.type "bool")
 | int (i:Int):TyOf K H (.int i) (.type "int")
 | str (x:Str):TyOf K H (.str x) (.type "str")
 | flt (x:UInt64):TyOf K H (.flt x) (.type "float")
 | lst {a:A3} {xs:List V} (e:H a=some (.lst xs)):TyOf K H (.ref a) (.type "list")
 | frz {a:A3} {o:Obj} {xs:List V} (e:H a=some (.frz o (.lst xs))):TyOf K H (.ref a) (.type "list")
 | tup {a:A3} {xs:List V} (e:H a=some (.tup xs)):TyOf K H (.ref a) (.type "tuple")
 | dK {a:A3} {kvs:List (Key×V)} (e:H a=some (.dK kvs)):TyOf K H (.ref a) (.type "dict")
 | dT {a:A3} {kvs:List (List Key×V)} (e:H a=some (.dT kvs)):TyOf K H (.ref a) (.type "dict")
 | ins {a C dx:A3} {fs:List (Str×V)} (e:H a=some (.ins C dx fs)) (cl:Cls K C) (ha:Bq K (.ref C) "__class__" = some (some (.builtin "object.__class__")))
   (hn:Jj K (.builtin "object.__class__") "__get__" = some (some (.builtin "getset_descriptor.__get__"))) (htk:K1 K (.builtin "object.__class__")=some true)
   (hm:Ec K C (.type "object")=some true):TyOf K H (.ref a) (.ref C)
theorem isinst_ok {x:V} {u t:A1} (I:Inv X pins σ H s) (rx:RelV x u) (ty:TyOf X.K H x t) (e:Fg X.K t c=some b) (h:∀ tk,Q (.bool b) { s with toks:=tk }) :
  wpAny (model X.prog X.w) A (call (.builtin "isinstance") [u,c]) Q E s:=by
 cases ty with
 | non=>cases (show u=Du from rx); exact Cv PySem.W.kitx_none I.kIn E7 e (fun z=>nomatch z) h
 | bl y=>cases (show u=Hs y from rx); exact Cv PySem.W.kitx_bool I.kIn E7 e (fun z=>nomatch z) h
 | int i=>obtain ⟨t,q⟩:=(show ∃ t,u=Hj i t from rx); cases q; exact Cv PySem.W.kitx_int I.kIn E7 e (fun z=>nomatch z) h
 | str y=>obtain ⟨t,q⟩:=(show ∃ t,u=K0 y t from rx); cases q; exact Cv PySem.W.kitx_str I.kIn E7 e (fun z=>nomatch z) h
 | flt y=>obtain ⟨t,q⟩:=(show ∃ t,u=M9 y t from rx); cases q; exact Cv PySem.W.kitx_float I.kIn E7 e (fun z=>nomatch z) h
 | @lst a xs ea =>
  cases (show u=Az a from rx)
  obtain ⟨_,_,n,_,h1⟩:=(show ObjOk X.prog X.w H s.heap a (.lst xs) from I.hok a _ ea)
  exact Cv Mi I.kIn ⟨_,h1,rfl⟩ e (fun z=>nomatch z) h
 | @frz a ob xs ea =>
  cases (show u=Az a from rx)
  obtain ⟨_,_,_,n,_,h1⟩:=(show ObjOk X.prog X.w H s.heap a (.frz ob (.lst xs)) from I.hok a _ ea)
  exact Cv Mi I.kIn ⟨_,h1,rfl⟩ e (fun z=>nomatch z) h
 | @tup a xs ea =>
  cases (show u=Az a from rx)
  obtain ⟨_,_,_,p⟩:=(show ObjOk X.prog X.w H s.heap a (.tup xs) from I.hok a _ ea)
  obtain ⟨o,h1,h2,_⟩:=p
  exact Cv PySem.W.kitx_tuple I.kIn ⟨o,h1,h2⟩ e (fun z=>nomatch z) h
 | @dK a kvs ea =>
  cases (show u=Az a from rx)
  obtain ⟨_,_,vs,_,p⟩:=(show ObjOk X.prog X.w H s.heap a (.dK kvs) from I.hok a _ ea)
  obtain ⟨o,es,ep,h1,h2,_⟩:=p
  exact Cv Mj I.kIn ⟨o,h1,h2.1⟩ e (fun z=>nomatch z) h
 | @dT a kvs ea =>
  cases (show u=Az a from rx)
  obtain ⟨_,_,xs,_,o,es,ep,h1,h2,_⟩:=(show ObjOk X.prog X.w H s.heap a (.dT kvs) from I.hok a _ ea)
  exact Cv Mj I.kIn ⟨o,h1,h2.1⟩ e (fun z=>nomatch z) h
 | @ins a C dx fs ea cl ha hn htk hm =>
  cases (show u=Az a from rx)
  obtain ⟨mA,O,_⟩:=zd0 I.hok ea
  obtain ⟨od,J,_⟩:=O.look
  exact Cv (PySem.W.kitx_own (cl.get _) cl.hd ha hn htk hm) I.kIn J e (fun z=>nomatch z) h
end
structure Room (k:Nat) (A:B1):Prop where
 hd:A.handled=none
 dp:A.depth + 3 * k + 5 < recursionLimit
 un:A.units + 16 * k + 200 < cLine
theorem Room.mono {j k:Nat} {A:B1} (r:Room k A) (h:j<=k):Room j A:=⟨r.hd,by have:=r.dp; omega,by have:=r.un; omega⟩
theorem Room.deeper {k:Nat} {A:B1} (r:Room (k + 1) A) (env:Env):Room k (A.deeper env) :=
 ⟨r.hd,by have:=r.dp; show A.depth + 1 + 3 * k + 5 < _; omega,by have:=r.un; show A.units + 3 + 16 * k + 200 < _; omega⟩
theorem make_depth {A:B1} {C:A3} {us:List A1} {kw:List (Str×A1)}:(A.under (.builtin "type.__call__" ⟨.ref C :: us,kw⟩)).depth=A.depth + 1:=by
 first | rfl | simp [Lo,Code.weight,Code.isCreation,Code.isGuard,Code.isCaller,Pf,M4,guardIds]
theorem make_units {A:B1} {C:A3} {us:List A1} {kw:List (Str×A1)}:(A.under (.builtin "type.__call__" ⟨.ref C :: us,kw⟩)).units=A.units + 1:=by
 first | rfl | simp [Lo,Code.cUnits,Pf,M4]
theorem Room.make {k:Nat} {A:B1} (r:Room (k + 1) A) (C:A3) (us:List A1) (kw:List (Str×A1)):Room k (A.under (.builtin "type.__call__" ⟨.ref C :: us,kw⟩)) :=
 ⟨r.hd,by have:=r.dp; rw [make_depth]; omega,by have:=r.un; rw [make_units]; omega⟩
theorem Room.depth {k:Nat} {A:B1} (r:Room k A):A.depth < recursionLimit:=by have:=r.dp; omega
theorem Room.units {k:Nat} {A:B1} (r:Room k A):A.units + 64 < cLine:=by have:=r.un; omega
noncomputable def tNil:TA:=fun _ H Q=>Q [] H
noncomputable def tCons (ta:TE) (tr:TA):TA:=fun σ H Q=>ta σ H fun x H1=>tr σ H1 fun xs H2=>Q (x :: xs) H2
section
variable {X:Cx} {e:Ca} {es:List Ca} {te:TE} {t:TA} {pos:Pos}
theorem zad:PA X [] tNil:=fun _ _ _ _ H Q I h=>Calls.spliced_nil ⟨[],H,I,.nil,h⟩
theorem zaa (ha:PE X e te) (hr:PA X es t) (hs:starEach (e :: es) X.env=(false,eval e X.env) :: starEach es X.env:=by rfl):PA X (e :: es) (tCons te t):=by
 intro pos pins s σ H Q I h
 rw [hs]
 show wpAny _ _ (spliced ((false,eval e X.env) :: backTo pos (starEach es X.env))) _ _ s
 refine Calls.spliced_cons (thn (ha pins s σ H _ I h) fun u s1 ⟨x,H1,I1,r1,q1⟩ => ?_)
 exact thn (hr pos pins s1 σ H1 _ I1 q1) fun us s2 ⟨xs,H2,I2,r2,q2⟩=>⟨x :: xs,H2,I2,.cons r1 r2,q2⟩
noncomputable def tTup (t:TA):TE:=fun σ H Q=>t σ H fun xs H1=>xs.length<=sizeLine/\∀ p,H1 p=none->Q (.ref p) (upd H1 p (.tup xs))
noncomputable def tLst (t:TA):TE:=fun σ H Q=>t σ H fun xs H1=>xs.length<=sizeLine/\∀ p,H1 p=none->Q (.ref p) (upd H1 p (.lst xs))
theorem zbu {x1} (h:PA X es t):PE X (.Tuple es x1 pos) (tTup t):=by
 intro pins s σ H Q I hq
 refine wpAny_Tuple_spliced (thn (h pos pins s σ H _ I hq) fun us s1 ⟨xs,H1,I1,r,z,q⟩=>⟨by rw [<- r.length]; exact z,?_⟩)
 have hf:H1 s1.heap.objs.size=none:=I1.hok.fresh (Ad _)
 refine ⟨.ref s1.heap.objs.size,upd H1 s1.heap.objs.size (.tup xs),I1.laid (t':=s1.toks) (fun b u e=>A7 _ e) (Ad _) ?_,rfl,q _ hf⟩
 exact ⟨z,us,r,⟨_,Ay _ rfl,rfl,_,rfl⟩⟩
theorem za4 (h:PA X es t):PE X (.List es pos) (tLst t):=by
 intro pins s σ H Q I hq
 refine wpAny_List_spliced (thn (h pos pins s σ H _ I hq) fun us s1 ⟨xs,H1,I1,r,z,q⟩=>⟨by rw [<- r.length]; exact z,?_⟩)
 have hf:H1 s1.heap.objs.size=none:=I1.hok.fresh (Ad _)
 refine ⟨.ref s1.heap.objs.size,upd H1 s1.heap.objs.size (.lst xs),I1.laid (t':=s1.toks) (fun b u e=>A7 _ e) (Ad _) ?_,rfl,q _ hf⟩
 exact ⟨z,us,0,r,Ay _ rfl⟩
end
noncomputable abbrev Sp:=List V->Hp->VK->XK->Prop
noncomputable abbrev CXT:=List Env->Hp->A4->XK->A1->A4->Prop
structure Env0 (P:An) (w:B8) (K:Al) (mg:Str->Option A1) (base:Br) (A:B1) (outer:List Env) (s:A4) (H:Hp):Prop where
 frames:A.frames=some outer
 mod:Mod K mg base
 bs:∀ b o,base.get? b=some o->s.heap.get? b=some o/\H b=none
 bsz:base.objs.size<=s.heap.objs.size
 funs:s.heap.FunFrames base outer
 frf:∀ b∈frs outer,H b=none
 hok:HOk P w H s.heap
 bare:Gi s.gens
noncomputable def CE (outer:List Env) (P:An) (w:B8) (H:Hp) (s:A4) (Q:VK) (u:A1) (s':A4):Prop :=
 ∃ v H',s'.os=s.os/\Gi s'.gens/\Un (frs outer) [] H H' s.heap s'.heap/\HOk P w H' s'.heap/\RelV v u/\Q v H'
noncomputable def CR (CX:CXT) (outer:List Env) (P:An) (w:B8) (H:Hp) (s:A4) (Q:VK) (E:XK) (r:Qn) (s':A4):Prop :=
 match r with
 | .ok (.ret u)=>CE outer P w H s Q u s'
 | .ok _=>False
 | .error e=>CX outer H s E e s'
structure FnOk (P:An) (w:B8) (K:Al) (mg:Str->Option A1) (base:Br) (CX:CXT) (k:Nat) (f:A3) (fd:Ed) (ps:List Str) (sp:Sp):Prop where
 len:∀ vs H Q E,sp vs H Q E->vs.length=ps.length
 run:∀ (A:B1) (outer:List Env) (s:A4) (H:Hp) (args:Args) (us:List A1) (vs:List V) (Q:VK) (E:XK),Room k A->Env0 P w K mg base A outer s H->Jz s fd args (ps.zip us)->Vals vs us->sp vs H Q E ->
  codeAny (model P w) A (.call (.ref f) args) (CR CX outer P w H s Q E) s
theorem Env0.make {P:An} {w:B8} {K:Al} {mg:Str->Option A1} {base:Br} {A:B1} {outer:List Env} {s:A4} {H:Hp} (e:Env0 P w K mg base A outer s H) (C:A3) (us:List A1) (kw:List (Str×A1)) :
  Env0 P w K mg base (A.under (.builtin "type.__call__" ⟨.ref C :: us,kw⟩)) outer s H:=⟨by first | exact e.frames | (simpa [Lo,Code.envs,M4,pushEnvs] using e.frames),e.mod,e.bs,e.bsz,e.funs,e.frf,e.hok,e.bare⟩
section
variable {X:Cx} {pins:List (A3×Obj)} {σ : St} {H:Hp} {s s':A4}
theorem Inv.env0 (I:Inv X pins σ H s):Env0 X.prog X.w X.K X.mg X.base X.A X.stack s H :=
 ⟨I.ok.frames,I.ok.mod,I.bs,C0 I.ok.bsz I.sz,I.stack,I.stkFree,I.hok,I.bare⟩
theorem Inv.after {Q:VK} {u:A1} (I:Inv X pins σ H s) (h:CE X.stack X.prog X.w H s Q u s'):EP X pins σ Q u s':=by
 obtain ⟨v,H',os,bare,un,hok,r,q⟩:=h
 obtain ⟨hh,g,d,t,os'⟩:=s'
 obtain rfl:os'=s.os:=os
 exact ⟨v,H',I.call (h':=hh) (g':=g) (d':=d) (t':=t) (ch := []) un hok bare (fun b z=>absurd z (by simp)),r,q⟩
end
noncomputable def tCall (sp:Sp) (dvs:List V) (E:XK) (t:TA):TE:=fun σ H Q=>t σ H fun vs H1=>sp (vs ++ dvs) H1 Q E
noncomputable def tMeth (C:A3) (m:Str) (sp:Sp) (dvs:List V) (E:XK) (ta:TE) (t:TA):TE:=fun σ H Q=>ta σ H fun x H1=>∃ a dx fs,x = .ref a/\H1 a=some (.ins C dx fs)/\fs.lookup m=none /\
 t σ H1 fun vs H2=>sp (x :: (vs ++ dvs)) H2 Q E
noncomputable def tMake (C:A3) (sp:Sp) (dvs:List V) (E:XK) (t:TA):TE:=fun σ H Q=>t σ H fun vs H1=>∀ x dx,H1 x=none->H1 dx=none->dx≠x ->
 sp (.ref x :: (vs ++ dvs)) (upd (upd H1 dx (.own x)) x (.ins C dx [])) (fun v H2=>v = .non/\Q (.ref x) H2) E
noncomputable def Binds (K:Al) (fd:Ed) (ps:List Str) (ds:List A1):Prop :=
 ∀ (s:A4) (us:List A1),K.In s.heap->(us ++ ds).length=ps.length->Jz s fd ⟨us,[]⟩ (ps.zip (us ++ ds))
theorem Binds.all {K:Al} {fd:Ed} {ps:List Str} (h:∀ us:List A1,us.length=ps.length->bindArgs fd ⟨us,[]⟩=pure (ps.zip us)):Binds K fd ps []:=fun s us _ hl=>by
 rw [Bw] at hl ⊢
 exact .of_eq (h us hl)
noncomputable def Passes (CX:CXT) (X:Cx) (E:XK):Prop:=∀ (pins:List (A3×Obj)) (σ : St) (H:Hp) (s:A4) (e:A1) (s':A4),Inv X pins σ H s->CX X.stack H s E e s'->X.xe e s'
section
variable {X:Cx} {CX:CXT} {k:Nat} {f C:A3} {fd:Ed} {ps:List Str} {sp:Sp} {dvs:List V} {ds:List A1} {E:XK} {x m:Str} {p pos apos:Pos} {e o:Ca} {es:List Ca} {ta:TE} {t:TA}
theorem zf4 {pins:List (A3×Obj)} {σ : St} {H:Hp} {s:A4} {Q:VK} {us:List A1} {vs:List V} (F:FnOk X.prog X.w X.K X.mg X.base CX k f fd ps sp) (hr:Room k X.A) (hb:Binds X.K fd ps ds) (hd:Vals dvs ds) (hx:Passes CX X E)
  (I:Inv X pins σ H s) (r:Vals vs us) (h:sp (vs ++ dvs) H Q E):wpAny (model X.prog X.w) X.A (call (.ref f) us) (EP X pins σ Q) X.xe s:=by
 have r2:Vals (vs ++ dvs) (us ++ ds):=r.append hd
 have hl:(us ++ ds).length=ps.length:=by rw [<- r2.length]; exact F.len _ _ _ _ h
 refine Kh (J5 (F.run X.A X.stack s H ⟨us,[]⟩ (us ++ ds) (vs ++ dvs) Q E hr I.env0 (hb s us I.kIn hl) r2 h) fun r s' hq => ?_)
 cases r with
 | error e=>exact hx pins σ H s e s' I hq
 | ok fl =>
  cases fl with
  | ret u=>exact I.after hq
  | next=>exact Cf hq
  | brk=>exact Cf hq
  | cont=>exact Cf hq
theorem zgd (F:FnOk X.prog X.w X.K X.mg X.base CX k f fd ps sp) (hr:Room k X.A) (hg:Gl X x) (hm:X.mg x=some (.ref f)) (hk:Cu X.K (.ref f)=true) (hb:Binds X.K fd ps ds) (hd:Vals dvs ds) (hx:Passes CX X E)
  (ha:PA X (e :: es) t) (hdb:(x == ("__debug__" : Str))=false:=by decide) (he:starEach (e :: es) X.env=(false,eval e X.env) :: starEach es X.env:=by rfl) (hpl:(backTo pos (starEach es X.env)).any (·.1)=false:=by rfl) :
  PE X (.Call (.Name x p) (e :: es) [] pos) (tCall sp dvs E t):=by
 intro pins s σ H Q I h
 refine Fu (zcB I hg hm ?_ hdb)
 refine J8 (h₀ := X.base) I.ok.mod.kin hk (thn (ha pos pins s σ H _ I h) fun us s1 ⟨vs,H1,I1,r,q⟩=>⟨I1.kIn,?_⟩) he hpl
 exact zf4 F hr hb hd hx I1 r q
theorem pe_meth {pl:Sem Bool} (he:PE X o ta) (c:Cls X.K C) (hm:Meth X.K C m f) (F:FnOk X.prog X.w X.K X.mg X.base CX k f fd ps sp) (hr:Room k X.A) (hb:Binds X.K fd ps ds) (hd:Vals dvs ds) (hx:Passes CX X E) (ha:PA X (e :: es) t)
  (hst:starEach (e :: es) X.env=(false,eval e X.env) :: starEach es X.env:=by rfl) (hpl:(backTo pos (starEach es X.env)).any (·.1)=false:=by rfl)
  (ht:eval (.Call (.Attribute o m apos) (e :: es) [] pos) X.env=(do
   let ov <- eval o X.env
   standAt apos.atName
   let (f,first) <- holding [ov] (getMethod ov m pl)
   callWith pos f first (backTo pos (starEach (e :: es) X.env)) (backToKw pos (keywordEach [] X.env))):=by rfl) :
  PE X (.Call (.Attribute o m apos) (e :: es) [] pos) (tMeth C m sp dvs E ta t):=by
 intro pins s σ H Q I h
 refine Li (pl:=pl) (thn (he pins s σ H _ I h) fun u s1 ⟨x,H1,I1,rx,a,dx,fs,ex,ea,l,q⟩ => ?_) ht
 subst ex
 obtain rfl:u=Az a:=rx
 refine zdJ I1 ea c hm l ?_
 refine J8 (first := [.ref a]) (h₀ := X.base) I.ok.mod.kin hm.kp (thn (ha pos pins s1 σ H1 _ I1 q) fun us s2 ⟨vs,H2,I2,r,q2⟩=>⟨I2.kIn,?_⟩) hst hpl
 exact zf4 (us := .ref a :: us) (vs := .ref a :: vs) F hr hb hd hx I2 (.cons rfl r) q2
theorem pe_meth0 {pl:Sem Bool} (he:PE X o ta) (c:Cls X.K C) (hm:Meth X.K C m f) (F:FnOk X.prog X.w X.K X.mg X.base CX k f fd ps sp) (hr:Room k X.A) (hb:Binds X.K fd ps ds) (hd:Vals dvs ds) (hx:Passes CX X E)
  (ht:eval (.Call (.Attribute o m apos) [] [] pos) X.env=(do
   let ov <- eval o X.env
   standAt apos.atName
   let (f,first) <- holding [ov] (getMethod ov m pl)
   callWith pos f first (backTo pos (starEach [] X.env)) (backToKw pos (keywordEach [] X.env))):=by rfl) :
  PE X (.Call (.Attribute o m apos) [] [] pos) (tMeth C m sp dvs E ta tNil):=by
 intro pins s σ H Q I h
 refine Li (pl:=pl) (thn (he pins s σ H _ I h) fun u s1 ⟨x,H1,I1,rx,a,dx,fs,ex,ea,l,q⟩ => ?_) ht
 subst ex
 obtain rfl:u=Az a:=rx
 refine zdJ I1 ea c hm l ?_
 exact Lz (first := [.ref a]) I1.kIn hm.kp (zf4 (us := [.ref a]) (vs := [.ref a]) F hr hb hd hx I1 (.cons rfl .nil) q)
structure Mk (K:Al) (C f:A3):Prop where
 makes:K7 K C=true
 init:Bq K (.ref C) "__init__" = some (some (.ref f))
 fn:Hk K (.ref f)=true
 kp:Cu K (.ref C)=true
theorem run_make {pins:List (A3×Obj)} {σ : St} {H:Hp} {s:A4} {Q:VK} {us:List A1} {vs:List V} (M:Mk X.K C f) (F:FnOk X.prog X.w X.K X.mg X.base CX k f fd ps sp) (hr:Room (k + 1) X.A) (hb:Binds X.K fd ps ds) (hd:Vals dvs ds)
  (hx:Passes CX X E) (I:Inv X pins σ H s) (r:Vals vs us)
  (h:∀ x dx,H x=none->H dx=none->dx≠x->sp (.ref x :: (vs ++ dvs)) (upd (upd H dx (.own x)) x (.ins C dx [])) (fun v H2=>v = .non/\Q (.ref x) H2) E) :
  wpAny (model X.prog X.w) X.A (call (.ref C) us) (EP X pins σ Q) X.xe s:=by
 have hq:=h (s.heap.objs.size + 1) s.heap.objs.size (I.hok.fresh (Mx _)) (I.hok.fresh (Ad _)) (B7 (El _))
 have I2:=Inv.made (C:=C) I
 have r2:Vals (V.ref (s.heap.objs.size + 1) :: (vs ++ dvs)) (Az (s.heap.objs.size + 1) :: (us ++ ds)) := .cons rfl (r.append hd)
 have hl:(Az (s.heap.objs.size + 1) :: us ++ ds).length=ps.length:=by
  have e:=r2.length
  rw [F.len _ _ _ _ hq] at e
  exact e.symm
 refine Kh (make_map (f:=f) I.kIn M.makes M.init (beq_iff_eq.mp M.fn) (J5 (F.run _ X.stack _ _ ⟨Az (s.heap.objs.size + 1) :: us,[]⟩ (Az (s.heap.objs.size + 1) :: (us ++ ds)) _ _ E (hr.make C us [])
  (I2.env0.make C us []) (hb _ (Az (s.heap.objs.size + 1) :: us) I2.kIn hl) r2 hq) fun r s' hq' => ?_))
 cases r with
 | error e=>exact hx pins σ _ _ e s' I2 hq'
 | ok fl =>
  cases fl with
  | ret u =>
   obtain ⟨v,H',I3,rv,ev,q3⟩:=I2.after hq'
   subst ev
   exact ⟨rv,⟨V.ref (s.heap.objs.size + 1),H',I3,rfl,q3⟩⟩
  | next=>exact Cf hq'
  | brk=>exact Cf hq'
  | cont=>exact Cf hq'
theorem pe_make0 (M:Mk X.K C f) (F:FnOk X.prog X.w X.K X.mg X.base CX k f fd ps sp) (hr:Room (k + 1) X.A) (hg:Gl X x) (hm:X.mg x=some (.ref C)) (hb:Binds X.K fd ps ds) (hd:Vals dvs ds) (hx:Passes CX X E)
  (hdb:(x == ("__debug__" : Str))=false:=by decide):PE X (.Call (.Name x p) [] [] pos) (tMake C sp dvs E tNil):=by
 intro pins s σ H Q I h
 refine Fu (zcB I hg hm ?_ hdb)
 exact Lz I.kIn M.kp (run_make (us := []) M F hr hb hd hx I .nil h)
end
section
variable {X:Cx} {CX:CXT} {k:Nat} {f C:A3} {fd:Ed} {ps ks:List Str} {sp:Sp} {E:XK} {x m:Str} {p pos apos kpos:Pos} {e o:Ca} {es:List Ca} {kws:List Rw} {te ta:TE} {t tk:TA} {nm:Option Str}
variable {g:List A1->List A1->List A1} {gV:List V->List V->List V}
end
structure FnScope (N P:List Str) (sc:F6):Prop where
 kind:sc.kind = .function
 co:sc.isCoroutine=false
 gen:sc.isGenerator=false
 nd:N.Nodup
 pre:N.take P.length=P
 par:∀ x∈P,sc.names.lookup x=some .local\/sc.names.lookup x=some .cell
 nofree:∀ y∈sc.names,y.2 ≠ .free
theorem zeI {kindOf:Str->Option Iw} {x:Str}:∀ {binds:List (Str×A1)} {m:Str->Option A1},(∀ v,(x,v) ∉ binds)->bindL kindOf binds m x=m x
 | [],_,_=>rfl
 | (n,v) :: r,m,h=>by
  unfold bindL
  rw [zeI fun w hw=>h w (A8 _ hw)]
  split
  ·have:x≠n:=by rintro rfl; exact h v Ag
   simp [this]
  ·rfl
theorem zeK {kindOf:Str->Option Iw} {x:Str}:∀ {binds:List (Str×A1)} {m:Str->Option A1},(∀ v,(x,v) ∉ binds)->bindC kindOf binds m x=m x
 | [],_,_=>rfl
 | (n,v) :: r,m,h=>by
  unfold bindC
  rw [zeK fun w hw=>h w (A8 _ hw)]
  split
  ·rfl
  ·have:x≠n:=by rintro rfl; exact h v Ag
   simp [this]
theorem zeJ {kindOf:Str->Option Iw} {x:Str} {v:A1}:∀ {P:List Str} {vs:List A1} {i:Nat} {m:Str->Option A1},P.Nodup->P[i]?=some x->vs[i]?=some v->kindOf x=some .local ->
  bindL kindOf (P.zip vs) m x=some v
 | [],_,_,_,_,h,_,_=>by simp at h
 | _ :: _,[],_,_,_,_,h,_=>by simp at h
 | p :: P,w :: vs,0,m,nd,h1,h2,hk=>by
  simp at h1 h2; subst h1; subst h2
  show bindL kindOf ((p,w) :: P.zip vs) m p=_
  unfold bindL
  rw [zeI fun v hv=>(Dj.mp nd).1 (Io hv).1,if_pos hk]
  simp
 | p :: P,w :: vs,i + 1,m,nd,h1,h2,hk=>by
  show bindL kindOf ((p,w) :: P.zip vs) m x=_
  unfold bindL
  exact zeJ (i:=i) (Dj.mp nd).2 (by simpa using h1) (by simpa using h2) hk
theorem zeL {kindOf:Str->Option Iw} {x:Str} {v:A1}:∀ {P:List Str} {vs:List A1} {i:Nat} {m:Str->Option A1},P.Nodup->P[i]?=some x->vs[i]?=some v->kindOf x≠some .local ->
  bindC kindOf (P.zip vs) m x=some v
 | [],_,_,_,_,h,_,_=>by simp at h
 | _ :: _,[],_,_,_,_,h,_=>by simp at h
 | p :: P,w :: vs,0,m,nd,h1,h2,hk=>by
  simp at h1 h2; subst h1; subst h2
  show bindC kindOf ((p,w) :: P.zip vs) m p=_
  unfold bindC
  rw [zeK fun v hv=>(Dj.mp nd).1 (Io hv).1,if_neg hk]
  simp
 | p :: P,w :: vs,i + 1,m,nd,h1,h2,hk=>by
  show bindC kindOf ((p,w) :: P.zip vs) m x=_
  unfold bindC
  exact zeL (i:=i) (Dj.mp nd).2 (by simpa using h1) (by simpa using h2) hk
noncomputable def start (N:List Str) (vs:List V):St:=vs.map some ++ Bo (N.length - vs.length) none
noncomputable def cxOf (CX:CXT) (P:An) (w:B8) (K:Al) (mg:Str->Option A1) (base:Br) (N:List Str) (qual:Str) (scope:F6) (f:A3) (cd:A1) (A:B1) (outer:List Env) (s:A4) (H:Hp) (E:XK):Cx where
 prog:=P
 w:=w
 K:=K
 mg:=mg
 base:=base
 A:=A.deeper (envOfC qual scope s.heap.objs.size f cd)
 N:=N
 s₀ := s
 H₀ := H
 env:=envOfC qual scope s.heap.objs.size f cd
 outer:=outer
 stack:=envOfC qual scope s.heap.objs.size f cd :: outer
 ex := []
 calm:=true
 fn:=fun _=>true
 pn := []
 xe:=fun e s'=>wpAny (model P w) (A.deeper (envOfC qual scope s.heap.objs.size f cd)) (leaving (envOfC qual scope s.heap.objs.size f cd) e) (fun _ s''=>CX outer H s E e s'') (fun e' s''=>CX outer H s E e' s'') s'
theorem zfJ {sc:F6} {n:Nat} {x:Str} (h:sc.names.lookup x=some .cell):∃ c,(cellsFrom n sc.names []).lookup x=some c:=by
 have q:=Hl sc.names n [] (.inl h)
 exact D7.mp q
theorem zew {CX:CXT} {P:An} {w:B8} {K:Al} {mg:Str->Option A1} {base:Br} {N ps:List Str} {qual:Str} {scope:F6} {f:A3} {cd:A1} {A:B1} {outer:List Env} {s s1:A4} {H:Hp} {E:XK} {us:List A1} {vs:List V}
  (S:FnScope N ps scope) (hd:A.handled=none) (e0:Env0 P w K mg base A outer s H) (hl:vs.length=ps.length) (r:Vals vs us)
  (x:InCallC s s.heap.objs.size (bindL (envOfC qual scope s.heap.objs.size f cd).kindOf (ps.zip us) fun _=>none) (cellsFrom (s.heap.objs.size + 1) scope.names []) (bindC (envOfC qual scope s.heap.objs.size f cd).kindOf (ps.zip us) fun _=>none) s1) :
  Inv (cxOf CX P w K mg base N qual scope f cd A outer s H E) [] (start N vs) H s1:=by
 have hpl:ps.length<=N.length:=by have:=congrArg Fj S.pre; rw [D0] at this; omega
 obtain ⟨h1,tk,rfl,hk⟩:=x.done
 have noA:∀ b:A3,b ∉ (cxOf CX P w K mg base N qual scope f cd A outer s H E).ex:=fun b z=>absurd (show b∈([]:List A3) from z) (by simp)
 refine ⟨⟨e0.mod,S.kind,rfl,rfl,Ad _,fun y z c h1 h2 => ?_,fun y hy => ?_,fun y c _ h => ?_,fun _=>hd,M6 e0.frames,.inr ⟨rfl,rfl⟩,fun b z=>absurd z (noA b),e0.bs,e0.bsz,fun b _ _=>noA b,fun b z=>absurd z (noA b),e0.funs,e0.frf⟩,
  rfl,e0.bare,Un.kept hk,⟨_,x.toInCall.ns,fun i y v h1 h2 h3 => ?_⟩,fun y c h=>⟨_,x.cell y c h⟩,e0.hok.fresh (Ad _),fun y c h => ?_,fun p hp=>absurd (show p∈([]:List (A3×Obj)) from hp) (by simp),e0.hok.kept hk,?_⟩
 ·exact name_of_addr x.apart (Fc h1) (Fc h2)
 ·have hy:scope.names.lookup y=some .cell\/scope.names.lookup y=some .free:=hy
  rcases hy with hy | hy
  ·exact zfJ hy
  ·exact absurd rfl (S.nofree _ (Fc hy))
 ·exact Fw (x.above y c (Fc h))
 ·have hi:i < vs.length:=by
   unfold start at h2
   by_cases hi:i < vs.length
   ·exact hi
   ·rw [Dh (by simpa using hi)] at h2
    rw [Hq] at h2
    split at h2 <;> cases h2
  have ha:vs[i]?=some v:=by
   unfold start at h2
   rw [Dm (by simpa using hi),Ai] at h2
   cases e:vs[i]? with
   | none=>rw [e] at h2; cases h2
   | some a=>rw [e] at h2; cases h2; rfl
  obtain ⟨u,hu,rv⟩:=r.get ha
  have hp:ps[i]?=some y:=by
   rw [<- S.pre,Lm (by omega)]; exact h1
  have ndP:ps.Nodup:=by rw [<- S.pre]; exact S.nd.sublist (Fm _ _)
  refine ⟨u,rv,?_⟩
  rcases S.par y (Bh hp) with k | k
  ·exact .inl ⟨k,zeJ ndP hp hu k⟩
  ·obtain ⟨c,e⟩:=zfJ (n:=s.heap.objs.size + 1) k
   refine .inr ⟨.inl k,c,e,?_⟩
   have q:=x.cell y c e
   rw [zeL ndP hp hu (by show scope.names.lookup y≠_; rw [k]; decide)] at q
   exact q
 ·exact e0.hok.fresh (Fw (x.above y c (Fc h)))
 ·unfold start
  show _=N.length
  rw [Ah,A5,Md]
  omega
theorem zhi {CX:CXT} {P:An} {w:B8} {K:Al} {mg:Str->Option A1} {base:Br} {k:Nat} {f:A3} {name qual:Str} {params:Pi} {body:List Cd} {scope:F6} {dV kV doc pm cdv ct oc:A1} {an od:Option A3}
  {osl:Array (Option A1)} {N ps:List Str} {sp:Sp} (lk:K.lookup f=some ⟨oc,od,.func (Cg name qual params body scope dV kV doc pm an cdv ct),osl⟩) (hcd:Ex K cdv qual=true) (S:FnScope N ps scope)
  (len:∀ vs H Q E,sp vs H Q E->vs.length=ps.length)
  (hbody:∀ (A:B1) (outer:List Env) (s:A4) (H:Hp) (vs:List V) (Q:VK) (E:XK),Room k (A.deeper (envOfC qual scope s.heap.objs.size f cdv))->sp vs H Q E ->
   ∃ t,PSs (cxOf CX P w K mg base N qual scope f cdv A outer s H E) body t/\t { nx:=fun _ H'=>Q .non H',rt:=Q } (start N vs) H) :
  FnOk P w K mg base CX (k + 1) f (Cg name qual params body scope dV kV doc pm an cdv ct) ps sp:=by
 refine ⟨len,fun A outer s H args us vs Q E hr e0 hb r hsp => ?_⟩
 have hl:=len _ _ _ _ hsp
 have KX:K.In s.heap:=e0.mod.kin.keeps fun b o e=>(e0.bs b o e).1
 have lim:s.heap.NoLimit:=e0.mod.nolimit.keeps fun b o e=>(e0.bs b o e).1
 have hkind:∀ y∈ps.zip us,scope.names.lookup y.1=some .local\/(scope.names.lookup y.1=some .cell/\((cellsFrom (s.heap.objs.size + 1) scope.names []).lookup y.1).isSome=true):=fun ⟨n,v⟩ hy=>by
  rcases S.par n (Io hy).1 with q | q
  ·exact .inl q
  ·exact .inr ⟨q,Hl _ _ _ (.inl q)⟩
 refine Nm hr.depth (KX _ _ lk) rfl S.co S.gen rfl (Ma KX hcd) (hb _ _ _ _ ?_)
 refine M7 S.kind hkind fun env he s1 x => ?_
 subst he
 refine ⟨lim.keeps x.toInCall.keep,Rr ?_⟩
 obtain ⟨t,ht,hq⟩:=hbody A outer s H vs Q E (hr.deeper _) hsp
 have I:Inv (cxOf CX P w K mg base N qual scope f cdv A outer s H E) [] (start N vs) H s1:=zew S hr.hd e0 hl r x
 refine D9 (ht [] s1 (start N vs) H _ I hq) (fun fl s' hs => ?_) fun e s' hs=>hs
 have fin:∀ {σ':St} {H':Hp} {v:V} {u:A1},Inv (cxOf CX P w K mg base N qual scope f cdv A outer s H E) [] σ' H' s'->RelV v u->Q v H'->CE outer P w H s Q u s' :=
  fun {σ' H' v u} J rv q=>⟨v,H',J.os,J.bare,J.base,J.hok,rv,q⟩
 cases fl with
 | ret u =>
  obtain ⟨v,σ',H',J,rv,q⟩:=hs
  exact fin J rv q
 | next =>
  obtain ⟨σ',H',J,q⟩:=hs
  exact fin (v:=V.non) (u:=Du) J rfl q
 | brk =>
  obtain ⟨_,_,_,q⟩:=hs
  exact Cf q
 | cont =>
  obtain ⟨_,_,_,q⟩:=hs
  exact Cf q
section
variable {X:Cx} {x:Str} {p pos:Pos} {e:Ca} {es:List Ca} {t:TA} {id T:String} {r:List V->Hp->VK->Prop}
noncomputable def tCB (r:List V->Hp->VK->Prop) (t:TA):TE:=fun σ H Q=>t σ H fun vs H1=>r vs H1 Q
theorem zai (hc:CallR X (.builtin id) r) (hg:Gl X x) (hm:X.mg x=none) (hv:bootBuiltins x=some (.builtin id)) (ha:PA X (e :: es) t) (hn:x ≠ "__name__" := by decide) (hdb:(x == ("__debug__" : Str))=false:=by decide)
  (he:starEach (e :: es) X.env=(false,eval e X.env) :: starEach es X.env:=by rfl) (hpl:(backTo pos (starEach es X.env)).any (·.1)=false:=by rfl):PE X (.Call (.Name x p) (e :: es) [] pos) (tCB r t):=by
 intro pins s σ H Q I h
 refine Fu (zes I hg hm hv ?_ hn hdb)
 exact Q5 (thn (ha pos pins s σ H _ I h) fun us s1 ⟨vs,H1,I1,r1,q1⟩=>hc pins s1 σ H1 vs us Q I1 r1 q1) he hpl
theorem zbn (hc:CallR X (.type T) r) (hg:Gl X x) (hm:X.mg x=none) (hv:bootBuiltins x=some (.type T)) (ha:PA X (e :: es) t) (hn:x ≠ "__name__" := by decide) (hdb:(x == ("__debug__" : Str))=false:=by decide)
  (he:starEach (e :: es) X.env=(false,eval e X.env) :: starEach es X.env:=by rfl) (hpl:(backTo pos (starEach es X.env)).any (·.1)=false:=by rfl):PE X (.Call (.Name x p) (e :: es) [] pos) (tCB r t):=by
 intro pins s σ H Q I h
 refine Fu (zes I hg hm hv ?_ hn hdb)
 exact G0 (thn (ha pos pins s σ H _ I h) fun us s1 ⟨vs,H1,I1,r1,q1⟩=>hc pins s1 σ H1 vs us Q I1 r1 q1) he hpl
end
end L2
namespace HT
open PySem PyProof.Rows
noncomputable def lexLt:List Int->List Int->Bool
 | [],[]=>false
 | [],_ :: _=>true
 | _ :: _,[]=>false
 | x :: xs,y :: ys=>if x=y then lexLt xs ys else decide (x < y)
theorem lexLt_cons (x y:Int) (xs ys:List Int):lexLt (x :: xs) (y :: ys)=if x=y then lexLt xs ys else decide (x < y):=rfl
theorem lexLt_nil_nil:lexLt [] []=false:=rfl
theorem lexLt_nil_cons (y:Int) (ys:List Int):lexLt [] (y :: ys)=true:=rfl
theorem lexLt_cons_nil (x:Int) (xs:List Int):lexLt (x :: xs) []=false:=rfl
theorem eqAt_int (A:B1) (s:A4) (a:Int) (t:Tok) (c:Int) (u:Tok):∃ e,Ms A s (.int a t) (.int c u) e/\(e=true ↔ a=c) :=
 ⟨(a == c),Lh a t c u,by simp⟩
theorem rcLt_int (A:B1) (s:A4) (a:Int) (t:Tok) (c:Int) (u:Tok) (prog:An) (w:B8) (E:A1->A4->Prop) (Q:A1->A4->Prop) (h:Q (.bool (decide (a < c))) s) :
  wpAny (model prog w) A (richCompare .Lt (.int a t) (.int c u)) Q E s :=
 (Ks h:wpAny (model prog w) A (compareOp .Lt (.int a t) (.int c u)) Q E s)
section
open PySem.SeqAt
open PySem.AutoSeq1 (wpAny_loadPart')
open PySem.MeetsSeq PySem.MeetsSeq2 PySem.MeetsSeq3
theorem tuple_lt_ints (l b:A3) (items items2:Array A1) (n n2:Nat) (dd dd2:Option A3) (sl sl2:Array (Option A1)) (ns ms:List Int) (hi:Ee items.toList ns) (hj:Ee items2.toList ms) :
  Meets (G9.«tuple.__lt__» ⟨[.ref l,.ref b],[]⟩)
   (fun _ R s=>s.heap.get? l=some { cls := .type "tuple",dict:=dd,data := .seq items n,slots:=sl }/\s.heap.get? b=some { cls := .type "tuple",dict:=dd2,data := .seq items2 n2,slots:=sl2 } /\
    R (.ok (.ret (.bool (lexLt ns ms)))) s) :=
 .of_wp fun prog w A R s h=>by
  obtain ⟨hp,g,d,tk,os⟩:=s; obtain ⟨hl,hb,h⟩:=h
  have f2:=AutoSeq1.sub_tuple_tuple
  have z1:items.size=ns.length:=by rw [<- hi.length]; simp
  have z2:items2.size=ms.length:=by rw [<- hj.length]; simp
  wp_walk using Pk hl,Pk hb,Ge _ (fun rest b s'=>b.1=none/\s'=⟨hp,g,d,tk,os⟩/\∃ (vs ws:List A1) (ns' ms':List Int),rest=vs.zip ws /\
   Ee vs ns'/\Ee ws ms'/\ns'.length + items2.size=ms'.length + items.size/\R (.ok (.ret (.bool (lexLt ns' ms')))) ⟨hp,g,d,tk,os⟩) _
  case turn =>
   rintro ⟨y,x⟩ rest b s' ⟨hb',rfl,vs,ws,ns',ms',hz,hvi,hwi,hlen,hR⟩
   cases hvi with
   | nil=>rw [List.zip_nil_left] at hz; cases hz
   | cons a t hvi' =>
    cases hwi with
    | nil=>rw [List.zip_nil_right] at hz; cases hz
    | cons c u hwi' =>
     rw [Go] at hz
     injection hz with hyx hrest
     injection hyx with hy hx
     subst hy hx
     rw [lexLt_cons] at hR
     simp only [Ar] at hlen
     obtain ⟨e,he,hiff⟩:=eqAt_int A.in1 ⟨hp,g,d,tk,os⟩ a t c u
     refine A2 (he prog w _ _ ?_)
     cases e with
     | true =>
      rw [if_pos (hiff.mp rfl)] at hR
      wp_walk
      exact ⟨rfl,rfl,_,_,_,_,hrest,hvi',hwi',by omega,hR⟩
     | false =>
      rw [if_neg (fun q=>absurd (hiff.mpr q) A9)] at hR
      have hri:=rcLt_int A.in1 ⟨hp,g,d,tk,os⟩ a t c u prog w
      wp_walk using hri
      exact ⟨_,rfl,by simpa using hR⟩
  case fin =>
   rintro ⟨b1,b2⟩ s' ⟨hb',rfl,vs,ws,ns',ms',hz,hvi,hwi,hlen,hR⟩
   simp only at hb'
   subst hb'
   have hv:lexLt ns' ms'=decide (items.size < items2.size):=by
    cases hvi with
    | nil =>
     cases hwi with
     | nil =>
      simp only [Ip] at hlen
      rw [lexLt_nil_nil]
      exact (decide_eq_false (by omega)).symm
     | cons c u hw =>
      simp only [Ip,Ar] at hlen
      rw [lexLt_nil_cons]
      exact (decide_eq_true (by omega)).symm
    | cons a t hv =>
     cases hwi with
     | nil =>
      simp only [Ip,Ar] at hlen
      rw [lexLt_cons_nil]
      exact (decide_eq_false (by omega)).symm
     | cons c u hw =>
      rw [Go] at hz
      cases hz
   rw [hv] at hR
   wp_walk
   exact ⟨_,rfl,by simpa [Ph] using hR⟩
  case h =>
   exact ⟨rfl,rfl,items.toList,items2.toList,ns,ms,rfl,hi,hj,by omega,h⟩
end
section
variable {prog:An} {w:B8} {A:B1} {E:A1->A4->Prop} {s:A4}
theorem lt_tupInts {l b:A3} {items items2:Array A1} {ns ms:List Int} {Q:A1->A4->Prop} (hl:Jg s.heap l items) (hb:Jg s.heap b items2) (hi:Ee items.toList ns) (hj:Ee items2.toList ms)
  (hu:A.units < cLine) (h:Q (.bool (lexLt ns ms)) s):wpAny (model prog w) A (compareOp .Lt (.ref l) (.ref b)) Q E s:=by
 obtain ⟨⟨cls,dd,data,sl⟩,ho,hc,n,hd⟩:=id hl
 obtain ⟨⟨cls2,dd2,data2,sl2⟩,ho2,hc2,n2,hd2⟩:=id hb
 simp only at hc hd hc2 hd2
 subst hc hd hc2 hd2
 exact richCompare_meets_room (op := .Lt) ⟨_,ho,rfl⟩ ⟨_,ho2,rfl⟩ Ht L9 (Ky _ _) (tuple_lt_ints l b items items2 n n2 dd dd2 sl sl2 ns ms hi hj)
  ⟨ho,ho2,show Hs (lexLt ns ms)≠Value.notImplemented/\Q (.bool (lexLt ns ms)) s from ⟨(fun x=>nomatch x),h⟩⟩ hu
end
end HT
namespace L2
open PySem PySem.Spec PyProof.Rows
noncomputable abbrev TO:=St->Hp->(Option Int->Hp->Prop)->Prop
section
variable {X:Cx} {e:Ca} {te:TE} {lo hi:Option Ca} {tl th:TO} {pos p2:Pos}
end
noncomputable def ixN (n:Nat) (i:Int):Option Nat:=if 0<=i then (if i < n then some i.toNat else none) else if -(n:Int)<=i then some (i + n).toNat else none
noncomputable def atI {α : Type} (xs:List α) (i:Int):Option α := (ixN xs.length i).bind fun j=>xs[j]?
theorem zgp {n:Nat} {i:Int} {j:Nat} (h:ixN n i=some j):seqIndex? i n=some j/\j < n /\ -(n:Int)<=i/\i < n:=by
 unfold ixN at h
 by_cases h0:0<=i
 ·rw [if_pos h0] at h
  by_cases h1:i < n
  ·rw [if_pos h1] at h
   have e:i.toNat=j:=C1 h
   exact ⟨by rw [Nx h0 h1,e],by omega,by omega,h1⟩
  ·rw [if_neg h1] at h; cases h
 ·rw [if_neg h0] at h
  by_cases h1 : -(n:Int)<=i
  ·rw [if_pos h1] at h
   have e:(i + n).toNat=j:=C1 h
   exact ⟨by rw [N8 (by omega) h1,e],by omega,h1,by omega⟩
  ·rw [if_neg h1] at h; cases h
theorem ze4 {α : Type} {xs:List α} {i:Int} {v : α} (h:atI xs i=some v):∃ j,seqIndex? i xs.length=some j/\xs[j]?=some v/\j < xs.length /\ -(xs.length:Int)<=i/\i < xs.length:=by
 unfold atI at h
 cases e:ixN xs.length i with
 | none=>rw [e] at h; cases h
 | some j =>
  rw [e] at h
  obtain ⟨h1,h2,h3,h4⟩:=zgp e
  exact ⟨j,h1,h,h2,h3,h4⟩
theorem zax {α : Type} {xs:List α} {j:Nat} {v : α} (h:xs[j]?=some v):atI xs (j:Int)=some v:=by
 have hj:j < xs.length:=(Av.mp h).1
 have e:ixN xs.length (j:Int)=some j:=by
  unfold ixN
  rw [if_pos (by omega),if_pos (by omega)]; simp
 unfold atI; rw [e]; exact h
noncomputable def PlainIx (b:Ca):Prop:=∀ o i,subscripted b false o i=operate [o,i] (getItem o i)
noncomputable def IxR (X:Cx) (r:R2):Prop :=
 ∀ (value slice:Ca) (pins:List (A3×Obj)) (s:A4) (σ : St) (H:Hp) (x y:V) (v u:A1) (Q:VK),Inv X pins σ H s->RelV x v->RelV y u->r x y H Q ->
  subscripted slice false v u=operate [v,u] (getItem v u)->wpAny (model X.prog X.w) X.A (subscriptTail value slice v u) (EP X pins σ Q) X.xe s
noncomputable def MtR (X:Cx) (id:String) (r:V->List V->Hp->VK->Prop):Prop :=
 ∀ (pins:List (A3×Obj)) (s:A4) (σ : St) (H:Hp) (x:V) (xs:List V) (v:A1) (us:List A1) (Q:VK),Inv X pins σ H s->RelV x v->Vals xs us->r x xs H Q ->
  wpAny (model X.prog X.w) X.A (call (.builtin id) (v :: us)) (EP X pins σ Q) X.xe s
section
variable {X:Cx} {a b:Ca} {ta tb:TE} {pos:Pos}
theorem zaL {r:R2} (hr:IxR X r) (ha:PE X a ta) (hb:PE X b tb) (hs:PlainIx b):PE X (.Subscript a b pos) (tOp r ta tb):=by
 intro pins s σ H Q I h
 exact Subscript_ (binT ha hb I h fun v u s2 x y H2 I2 rx ry q=>hr a b pins s2 σ H2 x y v u Q I2 rx ry q (hs _ _))
noncomputable def rIxL (K:Al):R2:=fun x y H Q=>∃ p xs i v,x = .ref p/\y = .int i/\SqL K H p xs/\atI xs i=some v/\Q v H
noncomputable def rIxT (K:Al):R2:=fun x y H Q=>∃ p xs i v,x = .ref p/\y = .int i/\SqT K H p xs/\atI xs i=some v/\Q v H
noncomputable def rIxS:R2:=fun x y H Q=>∃ z i c,x = .str z/\y = .int i/\z.length<=sizeLine/\atI z.cps.toList i=some c/\Q (.str ⟨#[c]⟩) H
theorem zaN:IxR X (rIxL X.K):=by
 intro value slice pins s σ H x y v u Q I rx ry h hs
 obtain ⟨p,xs,i,z,rfl,rfl,hq,he,q⟩:=h
 cases rx
 obtain ⟨t,rfl⟩:=ry
 obtain ⟨its,r,pl,hz⟩:=I.list hq
 obtain ⟨j,h1,h2,h3,h4,h5⟩:=ze4 he
 obtain ⟨w,ew,rw'⟩:=r.get h2
 have hl:=r.length
 have hn:=zdH
 have fin:EP X pins σ Q w s:=⟨z,H,I,rw',q⟩
 by_cases h0:0<=i
 ·have hj:i.toNat=j:=by
   rw [Nx h0 h5] at h1
   exact C1 h1
  exact item_listR pl.isList h0 (by omega) (by rw [hj]; simpa using ew) fin hs
 ·have hj:(i + (its.toArray.size:Int)).toNat=j:=by
   rw [N8 (by omega) h4] at h1
   rw [B5,<- hl]
   exact C1 h1
  exact N7 (x:=w) pl.isList.typeIs slot_list_getitem.lookup
   (wpAny_getItem_list_neg (Q:=fun r s'=>r=w/\EP X pins σ Q r s') pl.isList (by omega) (by rw [B5] <;> omega) (by omega) (by rw [hj]; simpa using ew) ⟨rfl,fin⟩) hs
theorem za9:IxR X (rIxT X.K):=by
 intro value slice pins s σ H x y v u Q I rx ry h hs
 obtain ⟨p,xs,i,z,rfl,rfl,hq,he,q⟩:=h
 cases rx
 obtain ⟨t,rfl⟩:=ry
 obtain ⟨its,r,pl,hz⟩:=I.tuple hq
 obtain ⟨j,h1,h2,h3,h4,h5⟩:=ze4 he
 obtain ⟨w,ew,rw'⟩:=r.get h2
 have hl:=r.length
 have hn:=zdH
 have fin:EP X pins σ Q w s:=⟨z,H,I,rw',q⟩
 exact N7 (x:=w) pl.typeIs slot_tuple_getitem.lookup
  (getItem_tuple (j:=j) (Q:=fun r s'=>r=w/\EP X pins σ Q r s') pl (by omega) (by omega) (by rw [B5,<- hl]; exact h1) (by simpa using ew) ⟨rfl,fin⟩) hs
theorem ix_str:IxR X rIxS:=by
 intro value slice pins s σ H x y v u Q I rx ry h hs
 obtain ⟨z,i,c,rfl,rfl,hz,he,q⟩:=h
 obtain ⟨t,rfl⟩:=rx
 obtain ⟨t',rfl⟩:=ry
 obtain ⟨j,h1,h2,h3,h4,h5⟩:=ze4 he
 have hl:z.cps.toList.length=z.length:=by simp [Qm]
 rw [hl] at h1 h4 h5
 have hn:=zdH
 exact tail_any (typeIs_str s z t) slot_str_getitem.lookup (getItem_str (c:=c) (by
  have e1:decide (i < -(2 ^ 63:Int))=false:=decide_eq_false (by omega)
  have e2:decide (i>=2 ^ 63)=false:=decide_eq_false (by omega)
  rw [e1,e2,Ln]) (by rw [h1]; simpa using h2) ⟨.str ⟨#[c]⟩,H,I.tok _,⟨_,rfl⟩,q⟩) hs
theorem mapSeq_set (its:List A1) (n j:Nat) (u:A1):Fh (·.setIfInBounds j u) { cls := .type "list",data := .seq its.toArray n }={ cls := .type "list",data := .seq (its.set j u).toArray n }:=by
 simp [Fh]
theorem Inv.lst {pins:List (A3×Obj)} {σ : St} {H:Hp} {s:A4} {p:A3} {xs:List V} (I:Inv X pins σ H s) (h:H p=some (.lst xs)) :
  ∃ (its:List A1) (n:Nat),Vals xs its/\s.heap.get? p=some { cls := .type "list",data := .seq its.toArray n }/\xs.length<=sizeLine:=by
 obtain ⟨z,its,n,r,e⟩:=I.hok p _ h
 exact ⟨its,n,r,e,z⟩
theorem Inv.lstUpd {pins:List (A3×Obj)} {σ : St} {H:Hp} {s:A4} {p:A3} {xs ys:List V} {its its':List A1} {n n':Nat} {f:Obj->Obj} (I:Inv X pins σ H s) (h:H p=some (.lst xs))
  (ho:s.heap.get? p=some { cls := .type "list",data := .seq its.toArray n }) (hf:f { cls := .type "list",data := .seq its.toArray n }={ cls := .type "list",data := .seq its'.toArray n' }) (r:Vals ys its') (hz:ys.length<=sizeLine) (t:Nat) :
  Inv X pins σ (upd H p (.lst ys)) { s with heap:=s.heap.update p f,toks:=t }:=by
 have e:(s.heap.update p f).get? p=some { cls := .type "list",data := .seq its'.toArray n' }:=by
  rw [G6 f ho (by rw [hf] <;> rfl),hf]
 refine I.write (x:=p) (e:=p) (by rw [h]; trivial) (.inl rfl) (fun b u hb q=>(Fq _ _ (Dy hb)).trans q) ⟨_,e⟩ ?_
 exact ⟨hz,its',n',r,e⟩
noncomputable def rSetL:V->V->V->Hp->(Hp->Prop)->Prop:=fun o i v H Q=>∃ p xs k j,o = .ref p/\i = .int k/\H p=some (.lst xs)/\ixN xs.length k=some j/\Q (upd H p (.lst (xs.set j v)))
theorem zfg:PSet X rSetL:=by
 intro pins s σ H o i v ov iv u Q I ro ri rv h
 obtain ⟨p,xs,k,j,rfl,rfl,hp,hj,q⟩:=h
 cases ro
 obtain ⟨t,rfl⟩:=ri
 obtain ⟨its,n,r,ho,hz⟩:=I.lst hp
 obtain ⟨h1,h2,h3,h4⟩:=zgp hj
 have hl:=r.length
 have hn:=zdH
 have I':Inv X pins σ (upd H p (.lst (xs.set j v))) { s with heap:=s.heap.update p (Fh (·.setIfInBounds j u)) } :=
  I.lstUpd hp ho (mapSeq_set its n j u) (r.set rv j) (by rw [O1]; exact hz) s.toks
 by_cases h0:0<=k
 ·have hk:k.toNat=j:=by
   rw [Nx h0 h4] at h1
   exact C1 h1
  exact PySem.W.ki_setAt ho h0 (by omega) (by rw [B5,<- hl]; exact h4) (by rw [hk]; exact ⟨_,I',q⟩)
 ·have hk:(k + (its.toArray.size:Int)).toNat=j:=by
   rw [N8 (by omega) h3] at h1
   rw [B5,<- hl]
   exact C1 h1
  exact PySem.W.ki_setBack ho (by omega) (by rw [B5,<- hl]; exact h3) (by omega) (by rw [hk]; exact ⟨_,I',q⟩)
noncomputable def flatV:V->Bool
 | .non=>true
 | .bl _=>true
 | .int _=>true
 | .str _=>true
 | _=>false
noncomputable def eqV:V->V->Bool
 | .non,.non=>true
 | .bl a,.bl b=>a == b
 | .bl a,.int b=>(if a then 1 else 0) == b
 | .int a,.bl b=>a == (if b then 1 else 0)
 | .int a,.int b=>a == b
 | .str a,.str b=>a == b
 | _,_=>false
theorem eqAt_V {A:B1} {s:A4} {y x:V} {u v:A1} (ry:RelV y u) (rx:RelV x v) (fy:flatV y=true) (fx:flatV x=true):Ms A s u v (eqV y x):=by
 cases y with
 | non =>
  cases ry
  cases x with
  | non=>cases rx; exact Rb _
  | bl b=>cases rx; exact Rf b
  | int b=>obtain ⟨t,rfl⟩:=rx; exact Re b t
  | str b=>obtain ⟨t,rfl⟩:=rx; exact Rc b t
  | _=>exact absurd (show false=true from fx) A9
 | bl a =>
  cases ry
  cases x with
  | non=>cases rx; exact Rj a
  | bl b=>cases rx; exact Rl a b
  | int b=>obtain ⟨t,rfl⟩:=rx; exact Rk a b t
  | str b=>obtain ⟨t,rfl⟩:=rx; exact Ri a b t
  | _=>exact absurd (show false=true from fx) A9
 | int a =>
  obtain ⟨t',rfl⟩:=ry
  cases x with
  | non=>cases rx; exact Rg a t'
  | bl b=>cases rx; exact Rh a t' b
  | int b=>obtain ⟨t,rfl⟩:=rx; exact Lh a t' b t
  | str b=>obtain ⟨t,rfl⟩:=rx; exact Lg a t' b t
  | _=>exact absurd (show false=true from fx) A9
 | str a =>
  obtain ⟨t',rfl⟩:=ry
  cases x with
  | non=>cases rx; exact Qz a t'
  | bl b=>cases rx; exact Ra a t' b
  | int b=>obtain ⟨t,rfl⟩:=rx; exact Lf a t' b t
  | str b=>obtain ⟨t,rfl⟩:=rx; exact Qy a t' b t
  | _=>exact absurd (show false=true from fx) A9
 | _=>exact absurd (show false=true from fy) A9
noncomputable def eqU (x:V) (u:A1):Bool:=match u with
 | .none=>eqV .non x
 | .bool b=>eqV (.bl b) x
 | .int i _=>eqV (.int i) x
 | .str z _=>eqV (.str z) x
 | _=>false
theorem zg4 {x y:V} {u:A1} (r:RelV y u) (f:flatV y=true):eqU x u=eqV y x:=by
 cases y with
 | non=>cases r; rfl
 | bl b=>cases r; rfl
 | int i=>obtain ⟨t,rfl⟩:=r; rfl
 | str z=>obtain ⟨t,rfl⟩:=r; rfl
 | _=>exact absurd (show false=true from f) A9
theorem zdl {x:V}:∀ {xs:List V} {us:List A1},Vals xs us->xs.all flatV=true->us.any (eqU x)=xs.any fun y=>eqV y x
 | _,_,.nil,_=>rfl
 | y :: xs,u :: us,.cons r t,f=>by
  rw [Ol,Bt] at f
  rw [G8,G8,zg4 r f.1,zdl t f.2]
theorem zcr {A:B1} {s:A4} {x:V} {v:A1} (rx:RelV x v) (fx:flatV x=true):∀ {xs:List V} {us:List A1},Vals xs us->xs.all flatV=true->∀ u∈us,Ms A s u v (eqU x u)
 | _,_,.nil,_=>fun u hu=>by cases hu
 | y :: xs,u :: us,.cons r t,f=>fun u' hu=>by
  rw [Ol,Bt] at f
  rcases B6.mp hu with rfl | hu
  ·rw [zg4 r f.1]; exact eqAt_V r rx f.1 fx
  ·exact zcr rx fx t f.2 u' hu
noncomputable def inV (x:V) (xs:List V):Bool:=xs.any fun y=>eqV y x
noncomputable def rIn (K:Al) (neg:Bool):R2:=fun x y H Q=>∃ p xs,y = .ref p/\(SqL K H p xs\/SqT K H p xs)/\flatV x=true/\xs.all flatV=true/\Q (.bl (if neg then !inV x xs else inV x xs)) H
theorem zep:OpR X (compareOp .In) (rIn X.K false):=by
 intro pins s σ H x y v u Q I rx ry h
 obtain ⟨p,xs,rfl,hq,fx,fs,q⟩:=h
 cases ry
 rcases hq with hq | hq
 ·obtain ⟨its,r,pl,hz⟩:=I.list hq
  refine SeqAt.in_listAt (eqU x) pl.isList (fun w hw=>zcr rx fx r fs w (by simpa using hw)) ⟨.bl _,H,I,rfl,?_⟩
  rw [show its.toArray.any (eqU x)=its.any (eqU x) by simp,zdl r fs]
  exact q
 ·obtain ⟨its,r,pl,hz⟩:=I.tuple hq
  refine SeqAt.in_tupleAt (eqU x) pl (fun w hw=>zcr rx fx r fs w (by simpa using hw)) ⟨.bl _,H,I,rfl,?_⟩
  rw [show its.toArray.any (eqU x)=its.any (eqU x) by simp,zdl r fs]
  exact q
theorem zbT:OpR X (compareOp .NotIn) (rIn X.K true):=by
 intro pins s σ H x y v u Q I rx ry h
 obtain ⟨p,xs,rfl,hq,fx,fs,q⟩:=h
 cases ry
 rcases hq with hq | hq
 ·obtain ⟨its,r,pl,hz⟩:=I.list hq
  refine SeqAt.notIn_listAt (eqU x) pl.isList (fun w hw=>zcr rx fx r fs w (by simpa using hw)) ⟨.bl _,H,I,rfl,?_⟩
  rw [show its.toArray.any (eqU x)=its.any (eqU x) by simp,zdl r fs]
  exact q
 ·obtain ⟨its,r,pl,hz⟩:=I.tuple hq
  refine SeqAt.notIn_tupleAt (eqU x) pl (fun w hw=>zcr rx fx r fs w (by simpa using hw)) ⟨.bl _,H,I,rfl,?_⟩
  rw [show its.toArray.any (eqU x)=its.any (eqU x) by simp,zdl r fs]
  exact q
theorem zat:CallR X (.builtin "len") (fun xs H Q=>∃ p ys,xs = [.ref p]/\(SqL X.K H p ys\/SqT X.K H p ys)/\Q (.int ys.length) H):=by
 intro pins s σ H xs us Q I r h
 obtain ⟨p,ys,rfl,hq,q⟩:=h
 obtain ⟨u,rfl,rx⟩:=zb5 r
 cases rx
 have hn:=zdH
 rcases hq with hq | hq
 ·obtain ⟨its,r',pl,hz⟩:=I.list hq
  have hlen:=r'.length
  exact Calls.call_len_list pl.isList (by simp only [B5] <;> omega) ⟨.int ys.length,H,I.tok _,⟨s.toks + 1,by rw [B5,hlen]⟩,q⟩
 ·obtain ⟨its,r',pl,hz⟩:=I.tuple hq
  have hlen:=r'.length
  exact len_tuple pl (by simp only [B5] <;> omega) ⟨.int ys.length,H,I.tok _,⟨s.toks + 1,by rw [B5,hlen]⟩,q⟩
theorem call_len_str:CallR X (.builtin "len") (fun xs H Q=>∃ z,xs = [.str z]/\z.length<=sizeLine/\Q (.int z.length) H):=by
 intro pins s σ H xs us Q I r h
 obtain ⟨z,rfl,hz,q⟩:=h
 obtain ⟨u,rfl,t,rfl⟩:=zb5 r
 have hn:=zdH
 exact len_str (by omega) ⟨.int z.length,H,I.tok _,⟨_,rfl⟩,q⟩
theorem zbY:CallR X (.type "list") (fun xs H Q=>∃ p ys,xs = [.ref p]/\(SqL X.K H p ys\/SqT X.K H p ys)/\∀ l,H l=none->Q (.ref l) (upd H l (.lst ys))):=by
 intro pins s σ H xs us Q I r h
 obtain ⟨p,ys,rfl,hq,q⟩:=h
 obtain ⟨u,rfl,rx⟩:=zb5 r
 cases rx
 have fin:∀ (its:List A1),Vals ys its->ys.length<=sizeLine->∀ (h':Br) (c':Nat),(∀ b o',s.heap.get? b=some o'->h'.get? b=some o') ->
   h'.get? s.heap.objs.size=some { cls := .type "list",dict:=none,data := .seq its.toArray c',slots := #[] }->EP X pins σ Q (.ref s.heap.objs.size) { s with heap:=h' }:=fun its r' hz h' c' kp e =>
  ⟨.ref s.heap.objs.size,_,I.laid (t':=s.toks) kp (Ad _) (show ObjOk X.prog X.w _ h' _ (.lst ys) from ⟨hz,its,c',r',e⟩),rfl,q _ (I.hok.fresh (Ad _))⟩
 rcases hq with hq | hq
 ·obtain ⟨its,r',pl,hz⟩:=I.list hq
  have hlen:=r'.length
  obtain ⟨o,ho,hc,n,hd⟩:=pl.isList
  exact Qw p (.inl rfl) ho hc hd (fun h' c' kp e=>fin its r' hz h' c' kp e) (by simp only [B5] <;> omega)
 ·obtain ⟨its,r',pl,hz⟩:=I.tuple hq
  have hlen:=r'.length
  obtain ⟨o,ho,hc,n,hd⟩:=pl
  exact Qw p (.inr rfl) ho hc hd (fun h' c' kp e=>fin its r' hz h' c' kp e) (by simp only [B5] <;> omega)
theorem zct:CallR X (.type "tuple") (fun xs H Q=>∃ p ys,xs = [.ref p]/\((SqL X.K H p ys/\∀ l,H l=none->Q (.ref l) (upd H l (.tup ys)))\/(SqT X.K H p ys/\Q (.ref p) H))):=by
 intro pins s σ H xs us Q I r h
 obtain ⟨p,ys,rfl,h⟩:=h
 obtain ⟨u,rfl,rx⟩:=zb5 r
 cases rx
 rcases h with ⟨hq,q⟩ | ⟨hq,q⟩
 ·obtain ⟨its,r',pl,hz⟩:=I.list hq
  have hlen:=r'.length
  refine call_tuple_list pl.isList (fun h' kp => ?_) (by simp only [B5] <;> omega)
  have I1:Inv X pins σ H { s with heap:=h' }:=I.kept (t':=s.toks) kp
  have I2:Inv X pins σ (upd H h'.objs.size (.tup ys)) { s with heap:=h'.push { cls := .type "tuple",data := .seq its.toArray } } :=
   I1.laid (t':=s.toks) (fun b o e=>A7 _ e) (Ad _) (show ObjOk X.prog X.w _ _ _ (.tup ys) from ⟨hz,its,r',IsTup.new _ _⟩)
  exact ⟨.ref h'.objs.size,_,I2,rfl,q _ (I1.hok.fresh (Ad _))⟩
 ·obtain ⟨its,r',pl,hz⟩:=I.tuple hq
  exact call_tuple_same pl ⟨.ref p,H,I,rfl,q⟩
noncomputable def tyV (K:Al) (T:String) (x:V) (H:Hp):Prop:=match x with
 | .str _=>T = "str"
 | .int _=>T = "int"
 | .ref p=>(T = "list" /\ ∃ xs,SqL K H p xs)\/(T = "tuple" /\ ∃ o,K.lookup p=some o/\o.cls = .type "tuple" /\ o.dict=none) \/
   (T = "dict" /\ ((∃ kvs,H p=some (.dK kvs))\/∃ kvs,H p=some (.dT kvs)))\/(T = "set" /\ ∃ S n,H p=some (.set S n))
 | _=>False
theorem zgO {pins:List (A3×Obj)} {σ : St} {H:Hp} {s:A4} {T:String} {x:V} {v:A1} (I:Inv X pins σ H s) (r:RelV x v) (ty:tyV X.K T x H) :
  s.TypeIs v T/\∀ a,v = .ref a->∃ ob,s.heap.get? a=some ob/\ob.dict=none:=by
 cases x with
 | str z =>
  obtain ⟨t,rfl⟩:=r
  cases (show T = "str" from ty)
  exact ⟨typeIs_str s z t,fun _ e=>nomatch e⟩
 | int i =>
  obtain ⟨t,rfl⟩:=r
  cases (show T = "int" from ty)
  exact ⟨Og s i t,fun _ e=>nomatch e⟩
 | ref p =>
  cases r
  rcases ty with ⟨rfl,xs,hq⟩ | ⟨rfl,o,hk,hc,hd⟩ | ⟨rfl,hk⟩ | ⟨rfl,S,n,hk⟩
  ·obtain ⟨its,_,pl,_⟩:=I.list hq
   refine ⟨pl.isList.typeIs,fun a e => ?_⟩
   cases e
   obtain ⟨o,n,e,c,hd,_⟩:=pl
   exact ⟨o,e,hd⟩
  ·refine ⟨⟨o,I.kIn p o hk,hc⟩,fun a e => ?_⟩
   cases e
   exact ⟨o,I.kIn _ o hk,hd⟩
  ·have z:∃ o,s.heap.get? p=some o/\o.ExactDict:=by
    rcases hk with ⟨kvs,hk⟩ | ⟨kvs,hk⟩
    ·obtain ⟨_,_,_,_,o,_,_,e,ex,_⟩:=I.hok p _ hk
     exact ⟨o,e,ex⟩
    ·obtain ⟨_,_,_,_,o,_,_,e,ex,_⟩:=I.hok p _ hk
     exact ⟨o,e,ex⟩
   obtain ⟨o,e,ex⟩:=z
   refine ⟨⟨o,e,ex.1⟩,fun a e2 => ?_⟩
   cases e2
   exact ⟨o,e,ex.2.1⟩
  ·obtain ⟨o,_,_,_,e,ex,_⟩:=I.hok p _ hk
   refine ⟨⟨o,e,ex.1⟩,fun a e2 => ?_⟩
   cases e2
   exact ⟨o,e,ex.2.1⟩
 | _=>exact Cf ty
noncomputable def tBM0 (K:Al) (T:String) (r:V->List V->Hp->VK->Prop) (to:TE):TE:=fun σ H Q=>to σ H fun x H1=>tyV K T x H1/\r x [] H1 Q
noncomputable def tBM (K:Al) (T:String) (r:V->List V->Hp->VK->Prop) (to:TE) (t:TA):TE:=fun σ H Q=>to σ H fun x H1=>tyV K T x H1/\t σ H1 fun xs H2=>r x xs H2 Q
variable {o e:Ca} {es:List Ca} {to:TE} {t:TA} {name:Str} {apos cpos:Pos} {T id:String} {r:V->List V->Hp->VK->Prop}
theorem zgX (pa:PlainAttrs T) (slot:Slot T name id) (hty:typeOf (.builtin id)=pure (.type "method_descriptor")) (hm:MtR X id r) (ho:PE X o to)
  (hbase:attributeBase o name X.env (eval o X.env)=eval o X.env:=by rfl) (hline:(apos.endLine == cpos.line)=true:=by rfl):PE X (.Call (.Attribute o name apos) [] [] cpos) (tBM0 X.K T r to):=by
 intro pins s σ H Q I h
 refine wpAny_Call_method0_late hbase hline (thn (ho pins s σ H _ I h) fun v s1 ⟨x,H1,I1,r1,ty,q1⟩ => ?_)
 obtain ⟨h1,h2⟩:=zgO I1 r1 ty
 exact ⟨T,id,pa,slot,hty,h1,h2,Lv rfl (PySem.evalArgs_none (hm pins s1 σ H1 x [] v [] Q I1 r1 .nil q1))⟩
theorem zdp (pa:PlainAttrs T) (slot:Slot T name id) (hty:typeOf (.builtin id)=pure (.type "method_descriptor")) (hm:MtR X id r) (ho:PE X o to) (ha:PA X (e :: es) t)
  (hbase:attributeBase o name X.env (eval o X.env)=eval o X.env:=by rfl)
  (hfew:((backTo cpos (starEach (e :: es) X.env)).all (fun x => !x.1) && (backToKw cpos (keywordEach [] X.env)).all (fun x=>x.1.isSome)
   && decide ((e :: es).length + ([]:List Rw).length + (if ([]:List Rw).isEmpty then 0 else 1) < 30))=true:=by rfl)
  (hline:(apos.endLine == cpos.line)=true:=by rfl) (hs:starEach (e :: es) X.env=(false,eval e X.env) :: starEach es X.env:=by rfl) (hplain:(backTo cpos (starEach es X.env)).any (·.1)=false:=by rfl) :
  PE X (.Call (.Attribute o name apos) (e :: es) [] cpos) (tBM X.K T r to t):=by
 intro pins s σ H Q I h
 refine wpAny_Call_method_late hbase hfew hline rfl (thn (ho pins s σ H _ I h) fun v s1 ⟨x,H1,I1,r1,ty,q1⟩ => ?_)
 obtain ⟨h1,h2⟩:=zgO I1 r1 ty
 refine ⟨T,id,pa,slot,hty,h1,h2,?_⟩
 have hA:=ha cpos pins s1 σ H1 _ I1 q1
 rw [hs] at hA ⊢
 refine Lv (by show (false || (backTo cpos (starEach es X.env)).any (·.1))=false; rw [hplain] <;> rfl) (Mg ?_)
 exact thn hA fun us s2 ⟨vs,H2,I2,r2,q2⟩=>hm pins s2 σ H2 x vs v us Q I2 r1 r2 q2
end
noncomputable def MtM (X:Cx) (id:String) (r:V->List V->Hp->VK->Prop):Prop :=
 ∀ (pins:List (A3×Obj)) (s:A4) (σ : St) (H:Hp) (x:V) (xs:List V) (v:A1) (us:List A1) (Q:VK),Inv X pins σ H s->RelV x v->Vals xs us->r x xs H Q ->
  wpAny (model X.prog X.w) X.A (call (.builtin id) (v :: us)) (EP X pins σ Q) X.xe s
theorem Vals.one:∀ {x:V} {us:List A1},Vals [x] us->∃ u,us = [u]/\RelV x u
 | _,_,.cons r .nil=>⟨_,rfl,r⟩
theorem Vals.zero:∀ {us:List A1},Vals [] us->us = []
 | _,.nil=>rfl
theorem Vals.dropLast {xs:List V} {us:List A1} (h:Vals xs us):Vals xs.dropLast us.dropLast:=by
 induction h with
 | nil=>exact .nil
 | cons r t ih =>
  cases t with
  | nil=>exact .nil
  | cons q t'=>exact .cons r ih
theorem Vals.rep {xs:List V} {us:List A1} (h:Vals xs us):∀ k:Nat,Vals (Bo k xs).flatten (Bo k us).flatten
 | 0 => .nil
 | k + 1=>by
  rw [E1,E1,Fn,Fn]
  exact Vals.append h (Vals.rep h k)
theorem erase_last {α : Type} (l:List α):l.eraseIdx (l.length - 1)=l.dropLast:=by
 induction l with
 | nil=>rfl
 | cons a r ih =>
  cases r with
  | nil=>rfl
  | cons b r =>
   have e:(a :: b :: r).length - 1=((b :: r).length - 1) + 1:=by
    have h1:(a :: b :: r).length=r.length + 2:=rfl
    have h2:(b :: r).length=r.length + 1:=rfl
    omega
   rw [e,List.eraseIdx_cons_succ,ih]
   all_goals rfl
theorem zeC (its:List A1):∀ (k:Nat) (acc:List A1),
  Kz (fun x1 x2=>x1 ++ x2) acc.toArray (Bo k its.toArray)=(acc ++ (Bo k its).flatten).toArray
 | 0,acc=>by simp
 | k + 1,acc=>by
  have e:acc.toArray ++ its.toArray=(acc ++ its).toArray:=by simp
  have e2:(acc ++ its) ++ (Bo k its).flatten=acc ++ (Bo (k + 1) its).flatten:=by
   rw [E1,Fn,At]
  rw [<- e2,<- zeC its k (acc ++ its),<- e,E1,Iq]
section
variable {X:Cx} {pins:List (A3×Obj)} {σ : St} {H:Hp} {s:A4} {l b:A3} {xs ys zs:List V}
theorem Inv.lset {its its':List A1} {n:Nat} {f:Array A1->Array A1} {t':Nat} (I:Inv X pins σ H s) (hH:H l=some (.lst xs))
  (e:s.heap.get? l=some { cls := .type "list",data := .seq its.toArray n }) (hf:f its.toArray=its'.toArray) (hv:Vals ys its') (hz:ys.length<=sizeLine) :
  Inv X pins σ (upd H l (.lst ys)) { s with heap:=s.heap.update l (Fh f),toks:=t' }:=by
 have q:=Rv e f
 rw [hf] at q
 refine I.write (x:=l) (e:=l) (by rw [hH]; exact trivial) (.inl rfl) (fun b' u hb hu=>(Fq s.heap (Fh f) (Dy hb)).trans hu) ⟨_,q⟩ ?_
 exact ⟨hz,its',_,hv,q⟩
theorem Inv.lnew {its:List A1} {t':Nat} (I:Inv X pins σ H s) (hv:Vals ys its) (hz:ys.length<=sizeLine) :
  Inv X pins σ (upd H s.heap.objs.size (.lst ys)) { s with heap:=s.heap.push { cls := .type "list",data := .seq its.toArray },toks:=t' } :=
 I.laid (fun _ _ q=>A7 _ q) (Ad _) ⟨hz,its,0,hv,Ay _ rfl⟩
theorem Inv.fresh (I:Inv X pins σ H s):H s.heap.objs.size=none:=I.hok.fresh (Ad _)
theorem Inv.lstM (I:Inv X pins σ H s) (hH:H l=some (.lst xs)):xs.length<=sizeLine/\∃ (its:List A1) (n:Nat),Vals xs its/\xs.length=its.length/\s.heap.get? l=some { cls := .type "list",data := .seq its.toArray n }:=by
 obtain ⟨z,its,n,r,e⟩:=I.hok l _ hH
 exact ⟨z,its,n,r,r.length,e⟩
theorem notLongL {n:Nat} (h:n<=sizeLine):Gc n=false:=by
 unfold Gc
 exact decide_eq_false (by omega)
end
section
variable {X:Cx}
noncomputable def rAppend:V->List V->Hp->VK->Prop:=fun x vs H Q=>∃ l xs y,x = .ref l/\vs = [y]/\H l=some (.lst xs)/\xs.length < sizeLine/\Q .non (upd H l (.lst (xs ++ [y])))
theorem zaV:MtM X "list.append" rAppend:=by
 intro pins s σ H x vs v us Q I rx rv h
 obtain ⟨l,xs,y,rfl,rfl,hH,hz,q⟩:=h
 cases rx
 obtain ⟨u,rfl,ru⟩:=rv.one
 obtain ⟨z,its,n,r,hl,e⟩:=I.lstM hH
 refine J6 F.slot_list_append ⟨_,e,rfl⟩ F.entry_list_append (F.args_list_append_2 _ _) (PySem.list_append l its.toArray n u (by rw [B5]; omega)) ⟨e,?_⟩
 refine ⟨.non,_,I.lset (its':=its ++ [u]) hH e (by simp) (r.append (.cons ru .nil)) ?_,rfl,q⟩
 rw [Ah,Bm]
 omega
noncomputable def rPop:V->List V->Hp->VK->Prop:=fun x vs H Q=>∃ l xs y,x = .ref l/\vs = []/\H l=some (.lst xs)/\xs[xs.length - 1]?=some y/\Q y (upd H l (.lst xs.dropLast))
theorem mt_pop:MtM X "list.pop" rPop:=by
 intro pins s σ H x vs v us Q I rx rv h
 obtain ⟨l,xs,y,rfl,rfl,hH,hy,q⟩:=h
 cases rx
 have hus:=rv.zero
 subst hus
 obtain ⟨z,its,n,r,hl,e⟩:=I.lstM hH
 obtain ⟨u,hu,ru⟩:=r.get hy
 have hy':its.toArray[its.toArray.size - 1]?=some u:=by
  show its.toArray[its.length - 1]?=some u
  rw [<- Ct,<- hl]
  exact hu
 refine J6 F.slot_list_pop ⟨_,e,rfl⟩ F.entry_list_pop (F.args_list_pop_1 _) (MeetsSeq.list_pop_last l its.toArray n u hy' (by rw [B5]; omega)) ⟨e,?_⟩
 refine ⟨y,_,I.lset (its':=its.dropLast) hH e ?_ r.dropLast ?_,ru,q⟩
 ·show its.toArray.eraseIdxIfInBounds (its.toArray.size - 1)=its.dropLast.toArray
  rw [B5,List.eraseIdxIfInBounds_toArray,erase_last]
 ·rw [Mn]
  omega
noncomputable def rClear:V->List V->Hp->VK->Prop:=fun x vs H Q=>∃ l xs,x = .ref l/\vs = []/\H l=some (.lst xs)/\Q .non (upd H l (.lst []))
theorem mt_clear:MtM X "list.clear" rClear:=by
 intro pins s σ H x vs v us Q I rx rv h
 obtain ⟨l,xs,rfl,rfl,hH,q⟩:=h
 cases rx
 have hus:=rv.zero
 subst hus
 obtain ⟨z,its,n,r,hl,e⟩:=I.lstM hH
 refine J6 F.slot_list_clear ⟨_,e,rfl⟩ F.entry_list_clear (F.args_list_clear_1 _) (AutoSeq1.list_clear_list_0 l its.toArray n (by rw [B5]; omega)) ⟨e,?_⟩
 exact ⟨.non,_,I.lset (its' := []) (ys := []) hH e rfl .nil (C6 _),rfl,q⟩
noncomputable def rCat:R2:=fun x y H Q=>∃ l b xs zs,x = .ref l/\y = .ref b/\H l=some (.lst xs)/\H b=some (.lst zs)/\xs.length + zs.length<=sizeLine/\∀ p,H p=none->Q (.ref p) (upd H p (.lst (xs ++ zs)))
theorem zbU:OpR X (binaryOp .Add) rCat:=by
 intro pins s σ H x y v u Q I rx ry h
 obtain ⟨l,b,xs,zs,rfl,rfl,hH,hB,hz,q⟩:=h
 cases rx
 cases ry
 obtain ⟨z,its,n,r,hl,e⟩:=I.lstM hH
 obtain ⟨z2,its2,n2,r2,hl2,e2⟩:=I.lstM hB
 refine PySem.P.add_list e e2 ?_ (by rw [B5,B5]; omega)
 have ea:its.toArray ++ its2.toArray=(its ++ its2).toArray:=by simp
 rw [ea]
 exact ⟨.ref _,_,I.lnew (t':=s.toks) (r.append r2) (by rw [Ah]; omega),rfl,q _ I.fresh⟩
noncomputable def rRep:R2:=fun x y H Q=>∃ l k xs,x = .ref l/\y = .int k/\H l=some (.lst xs) /\ -(2 ^ 63)<=k/\k < 2 ^ 63/\xs.length * k.toNat<=sizeLine /\
 ∀ p,H p=none->Q (.ref p) (upd H p (.lst (Bo k.toNat xs).flatten))
theorem len_rep {α : Type} (xs:List α) (k:Nat):(Bo k xs).flatten.length=k * xs.length:=by
 induction k with
 | zero=>simp
 | succ k ih=>rw [E1,Fn,Ah,ih,Nat.succ_mul,Im]
theorem op_rep:OpR X (binaryOp .Mult) rRep:=by
 intro pins s σ H x y v u Q I rx ry h
 obtain ⟨l,k,xs,rfl,rfl,hH,h1,h2,hz,q⟩:=h
 cases rx
 obtain ⟨t,rfl⟩:=ry
 obtain ⟨z,its,n,r,hl,e⟩:=I.lstM hH
 have hlen:its.toArray.size * k.toNat<=sizeLine:=by rw [B5,<- hl]; exact hz
 have hcap:¬ its.toArray.size * k.toNat > (2 ^ 63 - 1) / 8:=by
  have:(sizeLine:Nat)<=(2 ^ 63 - 1) / 8:=by decide
  omega
 have hfit:¬ (!Builtin.List.listFitsIndex k)=true:=by
  rw [fitsIndex_both h1 h2]
  exact A9
 have hlong:¬ Gc (its.toArray.size * k.toNat)=true:=by
  rw [notLongL hlen]
  exact A9
 have hnew:Kz (fun x1 x2=>x1 ++ x2) #[] (Bo (if its.toArray.isEmpty=true then 0 else k.toNat) its.toArray)=(Bo k.toNat its).flatten.toArray:=by
  have f0:∀ m:Nat,Kz (fun x1 x2=>x1 ++ x2) #[] (Bo m its.toArray)=(Bo m its).flatten.toArray:=fun m=>by
   have:=zeC its m []
   rw [List.nil_append] at this
   exact this
  rw [f0]
  cases its with
  | nil=>simp
  | cons a r'=>rw [if_neg (by simp)]
 refine wpAny_binaryOp_repeat_ref (T := "list") (U := "int") (by decide) ⟨_,e,rfl⟩ (fun s'=>Og s' k t) noFill_list_mul F.fills_int_mul Ou repeat_list F.slot_int_index.lookup
  (J6 Ou (Og s k t) F.entry_int_rmul (F.args_int_rmul_2 _ _) (int___rmul___int_list k t l its.toArray n)
   ⟨e,rfl,⟨_,e,rfl⟩,J6 F.slot_list_mul ⟨_,e,rfl⟩ F.entry_list_mul (F.args_list_mul_2 _ _) (S0 l its.toArray n k t hfit hcap hlong) ⟨e,?_⟩⟩)
 rw [hnew]
 exact ⟨.ref _,_,I.lnew (t':=s.toks) (r.rep k.toNat) (by rw [len_rep,Pb]; exact hz),rfl,q _ I.fresh⟩
end
section
variable {prog:An} {w:B8} {A:B1} {E:A1->A4->Prop} {s:A4}
end
section
variable {X:Cx}
end
section
variable {κ : Type} [DecidableEq κ]
noncomputable def valV (kvs:List (κ × V)) (k : κ):Option V:=(kvs.find? fun kv=>decide (kv.1=k)).map (·.2)
noncomputable def putK (kvs:List (κ × V)) (k : κ) (v:V):List (κ × V) :=
 if (kvs.any fun kv=>decide (kv.1=k))=true then kvs.map (fun kv=>if kv.1=k then (kv.1,v) else kv) else kvs ++ [(k,v)]
theorem zaZ {p : κ × V} {r:List (κ × V)} {k : κ} (e:p.1=k):valV (p :: r) k=some p.2:=by simp [valV,Ep,e]
theorem zaS {p : κ × V} {r:List (κ × V)} {k : κ} (e:¬ p.1=k):valV (p :: r) k=valV r k:=by simp [valV,Ep,e]
theorem zbj (k : κ):∀ kvs:List (κ × V),(kvs.any fun kv=>decide (kv.1=k))=(valV kvs k).isSome
 | []=>rfl
 | p :: r=>by
  rw [G8]
  by_cases e:p.1=k
  ·simp only [zaZ e,decide_eq_true e,Bool.true_or,Option.isSome_some]
  ·rw [zaS e,decide_eq_false e,Bool.false_or]; exact zbj k r
theorem zfa (k j : κ) (y:V):∀ kvs:List (κ × V),valV (kvs.map fun kv=>if kv.1=k then (kv.1,y) else kv) j=(valV kvs j).map fun x=>if j=k then y else x
 | []=>rfl
 | p :: r=>by
  have ih:=zfa k j y r
  rw [Aq]
  by_cases h:p.1=k
  ·rw [if_pos h]
   by_cases e:p.1=j
   ·rw [zaZ (p:=(p.1,y)) e,zaZ e,Cq,if_pos (e.symm.trans h)]
   ·rw [zaS (p:=(p.1,y)) e,zaS e,ih]
  ·rw [if_neg h]
   by_cases e:p.1=j
   ·rw [zaZ (p:=p) e,zaZ e,Cq,if_neg (fun z=>h (e.trans z))]
   ·rw [zaS (p:=p) e,zaS e,ih]
theorem zd9 (k j : κ) (y:V):∀ kvs:List (κ × V),valV kvs k=none->valV (kvs ++ [(k,y)]) j=if j=k then some y else valV kvs j
 | [],_=>by
  by_cases e:k=j
  ·rw [if_pos e.symm]; exact zaZ (p:=(k,y)) e
  ·rw [if_neg (fun z=>e z.symm)]; exact zaS (p:=(k,y)) e
 | p :: r,hn=>by
  rw [Kd]
  have hk:¬ p.1=k:=fun z=>by rw [zaZ z] at hn; cases hn
  rw [zaS hk] at hn
  have ih:=zd9 k j y r hn
  by_cases e:p.1=j
  ·rw [zaZ e,zaZ e,if_neg (fun z=>hk (e.trans z))]
  ·rw [zaS e,zaS e,ih]
theorem valV_put (kvs:List (κ × V)) (k j : κ) (y:V):valV (putK kvs k y) j=if j=k then some y else valV kvs j:=by
 unfold putK
 by_cases a:(kvs.any fun kv=>decide (kv.1=k))=true
 ·rw [if_pos a,zfa]
  rw [zbj] at a
  by_cases e:j=k
  ·obtain ⟨x,hx⟩:=D7.mp a
   rw [if_pos e,e,hx,Cq,if_pos rfl]
  ·rw [if_neg e]
   cases valV kvs j with
   | none=>rfl
   | some x=>rw [Cq,if_neg e]
 ·rw [if_neg a]
  refine zd9 k j y kvs ?_
  rw [zbj] at a
  cases q:valV kvs k with
  | none=>rfl
  | some x=>rw [q] at a; exact (a rfl).elim
theorem zc9 (kvs:List (κ × V)) (k : κ) (v:V):(putK kvs k v).length<=kvs.length + 1:=by
 unfold putK
 split
 ·rw [A5]; omega
 ·rw [Ah,Ar,Ip]; omega
theorem zfq {kvs:List (κ × V)} {k : κ} (v:V) (h:valV kvs k=none):putK kvs k v=kvs ++ [(k,v)]:=by
 unfold putK
 rw [zbj,h]
 exact if_neg (by decide)
theorem RelO.isSome_eq {o:Option V} {u:Option A1} (r:RelO o u):o.isSome=u.isSome:=by
 cases o with
 | none=>cases u with
  | none=>rfl
  | some _=>exact (show False from r).elim
 | some _=>cases u with
  | none=>exact (show False from r).elim
  | some _=>rfl
theorem KV.val {kvs:List (κ × V)} {vs:List (κ × A1)} (r:KV kvs vs) (k : κ):RelO (valV kvs k) (valueAt vs k):=by
 unfold KV at r
 induction r with
 | nil=>exact E7
 | @cons p q ps qs h t ih =>
  obtain ⟨h1,h2⟩:=h
  by_cases e:p.1=k
  ·have e':q.1=k:=h1.symm.trans e
   have b:valueAt (q :: qs) k=some q.2:=by simp [valueAt,Ep,e']
   rw [zaZ e,b]; exact h2
  ·have e':¬ q.1=k:=fun z=>e (h1.trans z)
   have b:valueAt (q :: qs) k=valueAt qs k:=by simp [valueAt,Ep,e']
   rw [zaS e,b]; exact ih
theorem KV.any {kvs:List (κ × V)} {vs:List (κ × A1)} (r:KV kvs vs) (k : κ):(kvs.any fun kv=>decide (kv.1=k))=vs.any fun kv=>decide (kv.1=k):=by
 unfold KV at r
 induction r with
 | nil=>rfl
 | cons h t ih=>rw [G8,G8,ih,h.1]
theorem KV.repl {kvs:List (κ × V)} {vs:List (κ × A1)} (r:KV kvs vs) (k : κ) {y:V} {u:A1} (ry:RelV y u) :
  KV (kvs.map fun kv=>if kv.1=k then (kv.1,y) else kv) (vs.map fun kv=>if kv.1=k then (kv.1,u) else kv):=by
 unfold KV at r ⊢
 induction r with
 | nil=>exact .nil
 | @cons p q ps qs h t ih =>
  rw [Aq,Aq]
  refine .cons ?_ ih
  obtain ⟨h1,h2⟩:=h
  by_cases e:p.1=k
  ·rw [if_pos e,if_pos (h1.symm.trans e)]; exact ⟨h1,ry⟩
  ·rw [if_neg e,if_neg (fun z=>e (h1.trans z))]; exact ⟨h1,h2⟩
theorem KV.put {kvs:List (κ × V)} {vs:List (κ × A1)} (r:KV kvs vs) (k : κ) {y:V} {u:A1} (ry:RelV y u):KV (putK kvs k y) (stored vs k u):=by
 unfold putK stored
 rw [r.any k]
 by_cases e:(vs.any fun kv=>decide (kv.1=k))=true
 ·rw [if_pos e,if_pos e]; exact r.repl k ry
 ·rw [if_neg e,if_neg e]; exact Ek r ⟨rfl,ry⟩
theorem KV.length {kvs:List (κ × V)} {vs:List (κ × A1)} (r:KV kvs vs):kvs.length=vs.length:=Cp r
end
theorem zgo {P:An} {w:B8} {k:Key} {u:A1} (r:RelV (kV k) u):(mixKind P w).is k u=true:=by
 cases k with
 | inl i=>obtain ⟨t,e⟩:=(show ∃ t,u=Hj i t from r); subst e; exact mixKind_int P w i t
 | inr x=>obtain ⟨t,e⟩:=(show ∃ t,u=K0 x t from r); subst e; exact mixKind_str P w x t
theorem zev {P:An} {w:B8}:∀ {ks:List Key} {us:List A1},Vals (ks.map kV) us->ItemsAre (mixKind P w) ks us
 | [],_,r=>by rw [Gh] at r; cases r; exact .nil
 | k :: ks,_,r=>by
  rw [Aq] at r
  cases r with
  | cons h t=>exact .cons (zgo h) (zev t)
noncomputable abbrev KT (H:Hp):List (List Key×V)->List (List Key×A3×A1)->Prop:=C3 fun p q=>p.1=q.1/\H q.2.1=some (.tup (p.1.map kV))/\RelV p.2 q.2.2
theorem KT.val {H:Hp} {kvs:List (List Key×V)} {xs:List (List Key×A3×A1)} (r:KT H kvs xs) (k:List Key):RelO (valV kvs k) ((atKey xs k).map (·.2)):=by
 induction r with
 | nil=>exact E7
 | @cons p q ps qs h t ih =>
  obtain ⟨h1,_,h2⟩:=h
  by_cases e:p.1=k
  ·have e':q.1=k:=h1.symm.trans e
   have b:atKey (q :: qs) k=some q.2:=by simp [atKey,Ep,e']
   rw [zaZ e,b]; exact h2
  ·have e':¬ q.1=k:=fun z=>e (h1.trans z)
   have b:atKey (q :: qs) k=atKey qs k:=by simp [atKey,Ep,e']
   rw [zaS e,b]; exact ih
theorem KT.repl {H:Hp} {kvs:List (List Key×V)} {xs:List (List Key×A3×A1)} (r:KT H kvs xs) (k:List Key) {y:V} {u:A1} (ry:RelV y u) :
  KT H (kvs.map fun kv=>if kv.1=k then (kv.1,y) else kv) (xs.map (putAt k u)):=by
 induction r with
 | nil=>exact .nil
 | @cons p q ps qs h t ih =>
  rw [Aq,Aq]
  refine .cons ?_ ih
  obtain ⟨h1,h2,h3⟩:=h
  unfold putAt
  by_cases e:p.1=k
  ·rw [if_pos e,if_pos (h1.symm.trans e)]; exact ⟨h1,h2,ry⟩
  ·rw [if_neg e,if_neg (fun z=>e (h1.trans z))]; exact ⟨h1,h2,h3⟩
theorem KT.put {H:Hp} {kvs:List (List Key×V)} {xs:List (List Key×A3×A1)} (r:KT H kvs xs) (k:List Key) {b:A3} {y:V} {u:A1} (hb:H b=some (.tup (k.map kV))) (ry:RelV y u) :
  KT H (putK kvs k y) (storedH xs k b u):=by
 have e:(kvs.any fun kv=>decide (kv.1=k))=(atKey xs k).isSome:=by
  rw [zbj,(r.val k).isSome_eq,Gs]
 unfold putK storedH
 rw [e]
 by_cases q:(atKey xs k).isSome=true
 ·rw [if_pos q,if_pos q]; exact r.repl k ry
 ·rw [if_neg q,if_neg q]; exact Ek r ⟨rfl,hb,ry⟩
theorem KT.keeps {H H':Hp} {kvs:List (List Key×V)} {xs:List (List Key×A3×A1)} (r:KT H kvs xs) (ht:∀ b ys,H b=some (.tup ys)->H' b=some (.tup ys)):KT H' kvs xs :=
 C3.mapP r fun _ _ z=>⟨z.1,ht _ _ z.2.1,z.2.2⟩
section
variable {P:An} {w:B8} {H:Hp} {h:Br} {a:A3}
theorem zhg {u:HO} (ok:HOk P w H h) (e:Rd H a u):ObjOk P w H h a u:=e.ok ok
theorem ze3 {kvs:List (Key×V)} (ok:HOk P w H h) (e:Rd H a (.dK kvs)):kvs.length<=sizeLine/\(a == sysModules)=false/\∃ vs,KV kvs vs/\h.DictOf (mixKind P w) a vs :=
 show ObjOk P w H h a (.dK kvs) from zhg ok e
theorem zhk {kvs:List (Key×V)} (ok:HOk P w H h) (e:H a=some (.dK kvs)):kvs.length<=sizeLine/\(a == sysModules)=false/\∃ vs,KV kvs vs/\h.DictOf (mixKind P w) a vs:=ze3 ok (.inl e)
theorem zdc {ks:List Key} (ok:HOk P w H h) (e:H a=some (.tup (ks.map kV))):(tupleKind (mixKind P w)).is h ks a:=by
 obtain ⟨_,its,r,o,h1,h2,n,h3⟩:=(show ObjOk P w H h a (.tup (ks.map kV)) from ok a _ e)
 exact ⟨o,its.toArray,n,h1,h2,h3,by simpa using zev r⟩
theorem zgC {kvs:List (List Key×V)} (ok:HOk P w H h) (e:Rd H a (.dT kvs)):kvs.length<=sizeLine/\(a == sysModules)=false /\
  ∃ xs,KT H kvs xs/\h.DictOfH (tupleKind (mixKind P w)) a xs:=by
 obtain ⟨z,y,xs,r,o,es,ep,h1,h2,h3,h4,h5⟩:=(show ObjOk P w H h a (.dT kvs) from zhg ok e)
 refine ⟨z,y,xs,r,o,es,ep,h1,h2,h3,h4,fun x hx => ?_,h5⟩
 have all:∀ {l:List (List Key×V)} {m:List (List Key×A3×A1)},KT H l m->∀ x∈m,(tupleKind (mixKind P w)).is h x.1 x.2.1:=by
  intro l m q
  induction q with
  | nil=>intro x hx; exact nomatch hx
  | @cons p q ps qs hq t ih =>
   intro x hx
   rcases B6.mp hx with e | hx
   ·subst e
    exact zdc ok (by rw [<- hq.1]; exact hq.2.1)
   ·exact ih x hx
 exact all r x hx
theorem zhj {kvs:List (List Key×V)} (ok:HOk P w H h) (e:H a=some (.dT kvs)):kvs.length<=sizeLine/\(a == sysModules)=false /\
  ∃ xs,KT H kvs xs/\h.DictOfH (tupleKind (mixKind P w)) a xs:=zgC ok (.inl e)
end
noncomputable def DGet (H:Hp) (a:A3) (y:V) (r:Option V):Prop :=
 (∃ kvs k,Rd H a (.dK kvs)/\y=kV k/\r=valV kvs k)\/∃ kvs k b,Rd H a (.dT kvs)/\y = .ref b/\H b=some (.tup (k.map kV))/\r=valV kvs k
noncomputable def DPut (H:Hp) (a:A3) (y v:V) (H':Hp):Prop :=
 (∃ kvs k,H a=some (.dK kvs)/\y=kV k/\kvs.length < sizeLine/\H'=upd H a (.dK (putK kvs k v))) \/
 ∃ kvs k b,H a=some (.dT kvs)/\y = .ref b/\H b=some (.tup (k.map kV))/\kvs.length < sizeLine/\H'=upd H a (.dT (putK kvs k v))
theorem DGet.k {H:Hp} {a:A3} {kvs:List (Key×V)} {k:Key} (e:H a=some (.dK kvs)):DGet H a (kV k) (valV kvs k) := .inl ⟨kvs,k,.inl e,rfl,rfl⟩
theorem DGet.t {H:Hp} {a b:A3} {kvs:List (List Key×V)} {k:List Key} (e:H a=some (.dT kvs)) (eb:H b=some (.tup (k.map kV))):DGet H a (.ref b) (valV kvs k) := .inr ⟨kvs,k,b,.inl e,rfl,eb,rfl⟩
theorem DPut.k {H:Hp} {a:A3} {kvs:List (Key×V)} {k:Key} {v:V} (e:H a=some (.dK kvs)) (hl:kvs.length < sizeLine):DPut H a (kV k) v (upd H a (.dK (putK kvs k v))) := .inl ⟨kvs,k,e,rfl,hl,rfl⟩
theorem DPut.t {H:Hp} {a b:A3} {kvs:List (List Key×V)} {k:List Key} {v:V} (e:H a=some (.dT kvs)) (eb:H b=some (.tup (k.map kV))) (hl:kvs.length < sizeLine) :
  DPut H a (.ref b) v (upd H a (.dT (putK kvs k v))) := .inr ⟨kvs,k,b,e,rfl,eb,hl,rfl⟩
section
variable {X:Cx} {pins:List (A3×Obj)} {σ : St} {H:Hp} {s:A4} {a:A3} {y v:V} {u r:A1} {o:Option V} {A:B1} {E:A1->A4->Prop}
theorem Inv.big (I:Inv X pins σ H s):sysModules < s.heap.objs.size:=by
 have h:mainGlobals < s.heap.objs.size:=(I.mod.glob.keeps I.bk).lt
 exact Gj (by decide) h
theorem d_getItem {Q:A1->A4->Prop} (hu:A.units + 1 < cLine) (I:Inv X pins σ H s) (g:DGet H a y (some v)) (ry:RelV y u) (h:∀ w' s',Inv X pins σ H s'->RelV v w'->Q w' s') :
  wpAny (model X.prog X.w) A (getItem (.ref a) u) Q E s:=by
 rcases g with ⟨kvs,k,e,ey,l⟩ | ⟨kvs,k,b,e,ey,eb,l⟩
 ·subst ey
  obtain ⟨z,hd,vs,rel,dd⟩:=ze3 I.hok e
  obtain ⟨w',hw,rw'⟩:=RelO.some_of (v:=v) (o:=valueAt vs k) (by rw [l]; exact rel.val k)
  exact wpAny_getItem_of (zgo ry) dd.mapOf hw (h w' _ (I.tok _) rw')
 ·subst ey
  cases (show u=Az b from ry)
  obtain ⟨z,hd,xs,rel,dd⟩:=zgC I.hok e
  obtain ⟨w',hw,rw'⟩:=RelO.some_of (v:=v) (o:=(atKey xs k).map (·.2)) (by rw [l]; exact rel.val k)
  obtain ⟨p,hp,hp2⟩:=Lk.mp hw
  refine Oe (Hh hu) (zdc I.hok eb) dd hp ?_
  rw [hp2]
  exact h w' _ (I.tok _) rw'
theorem d_in {Q:A1->A4->Prop} (hu:A.units + 1 < cLine) (I:Inv X pins σ H s) (g:DGet H a y o) (ry:RelV y u) (h:∀ s',Inv X pins σ H s'->Q (.bool o.isSome) s') :
  wpAny (model X.prog X.w) A (compareOp .In u (.ref a)) Q E s:=by
 rcases g with ⟨kvs,k,e,ey,l⟩ | ⟨kvs,k,b,e,ey,eb,l⟩
 ·subst ey
  obtain ⟨z,hd,vs,rel,dd⟩:=ze3 I.hok e
  refine wpAny_in_of (zgo ry) hd dd.mapOf ?_
  rw [<- (rel.val k).isSome_eq,<- l]
  exact h _ (I.tok _)
 ·subst ey
  cases (show u=Az b from ry)
  obtain ⟨z,hd,xs,rel,dd⟩:=zgC I.hok e
  refine wpAny_in_heap (Hh hu) (zdc I.hok eb) hd dd ?_
  have q:=(rel.val k).isSome_eq
  rw [Gs] at q
  rw [<- q,<- l]
  exact h _ (I.tok _)
theorem d_notIn {Q:A1->A4->Prop} (hu:A.units + 1 < cLine) (I:Inv X pins σ H s) (g:DGet H a y o) (ry:RelV y u) (h:∀ s',Inv X pins σ H s'->Q (.bool (!o.isSome)) s') :
  wpAny (model X.prog X.w) A (compareOp .NotIn u (.ref a)) Q E s:=by
 rcases g with ⟨kvs,k,e,ey,l⟩ | ⟨kvs,k,b,e,ey,eb,l⟩
 ·subst ey
  obtain ⟨z,hd,vs,rel,dd⟩:=ze3 I.hok e
  refine wpAny_notIn_of (zgo ry) hd dd.mapOf ?_
  rw [<- (rel.val k).isSome_eq,<- l]
  exact h _ (I.tok _)
 ·subst ey
  cases (show u=Az b from ry)
  obtain ⟨z,hd,xs,rel,dd⟩:=zgC I.hok e
  refine Ow (Hh hu) (zdc I.hok eb) hd dd ?_
  have q:=(rel.val k).isSome_eq
  rw [Gs] at q
  rw [<- q,<- l]
  exact h _ (I.tok _)
theorem zd3 {h':Br} {t':Nat} {ob:HO} (I:Inv X pins σ H s) (mu:Mut (H a)) (hs:Fb a s.heap h') (he:∃ q,h'.get? a=some q) (new:ObjOk X.prog X.w (upd H a ob) h' a ob) :
  Inv X pins σ (upd H a ob) { s with heap:=h',toks:=t' } :=
 I.write (x:=a) (e:=a) mu (.inl rfl) (fun b q hb z=>(hs.2 b hb).trans z) he new
theorem zg6 {P:An} {w:B8} {H':Hp} {h':Br} {kvs:List (Key×V)} {vs:List (Key×A1)} (z:kvs.length<=sizeLine) (hd:(a == sysModules)=false) (rel:KV kvs vs) (dd:h'.DictOf (mixKind P w) a vs) :
  ObjOk P w H' h' a (.dK kvs):=⟨z,hd,vs,rel,dd⟩
theorem d_setItem {H':Hp} {Q:Unit->A4->Prop} (hu:A.units + 1 < cLine) (I:Inv X pins σ H s) (g:DPut H a y v H') (ry:RelV y u) (rv:RelV v r) (h:∀ s',Inv X pins σ H' s'->Q () s') :
  wpAny (model X.prog X.w) A (setItem (.ref a) u r) Q E s:=by
 rcases g with ⟨kvs,k,e,ey,l,eH⟩ | ⟨kvs,k,b,e,ey,eb,l,eH⟩
 ·subst ey eH
  obtain ⟨z,hd,vs,rel,dd⟩:=zhk I.hok e
  have hz:vs.length<=sizeLine:=by rw [<- rel.length]; exact z
  have hl:(putK kvs k v).length<=sizeLine:=by have:=zc9 kvs k v; omega
  refine wpAny_setItem_pairs (hsz:=hz) (zgo ry) dd fun h' dd' hs=>h _ ?_
  have he:∃ q,h'.get? a=some q:=let ⟨q,_,_,hq,_⟩:=dd'; ⟨q,hq⟩
  exact zd3 I (by rw [e]; exact E7) hs he (zg6 hl hd (rel.put k rv) dd')
 ·subst ey eH
  cases (show u=Az b from ry)
  obtain ⟨z,hd,xs,rel,dd⟩:=zhj I.hok e
  have hz:xs.length<=sizeLine:=by rw [<- Cp rel]; exact z
  have hl:(putK kvs k v).length<=sizeLine:=by have:=zc9 kvs k v; omega
  refine Oc (hsz:=hz) (Hh hu) (zdc I.hok eb) dd fun h' dd' hs=>h _ ?_
  obtain ⟨q,es,ep,hq,h2,h3,h4,_,h5⟩:=dd'
  refine zd3 I (by rw [e]; exact E7) hs ⟨q,hq⟩ ⟨hl,hd,_,(rel.put k eb rv).keeps fun c ys ec => ?_,q,es,ep,hq,h2,h3,h4,h5⟩
  rw [zah (zhd ec e (fun z=>nomatch z))]
  exact ec
end
section
variable {X:Cx} {pins:List (A3×Obj)} {σ : St} {H:Hp} {s:A4} {a:A3} {kvs:List (Key×V)} {k:Key} {u:A1} {A:B1} {E:A1->A4->Prop}
theorem d_len {Q:A1->A4->Prop} (I:Inv X pins σ H s) (e:Rd H a (.dK kvs)) (h:∀ t s',Inv X pins σ H s'->Q (.int kvs.length t) s'):wpAny (model X.prog X.w) A (call (.builtin "len") [.ref a]) Q E s:=by
 obtain ⟨z,hd,vs,rel,dd⟩:=ze3 I.hok e
 refine call_len_dict hd dd (by rw [<- rel.length]; rw [Nw] at z; omega) ?_
 rw [<- rel.length]
 exact h _ _ (I.tok _)
end
noncomputable def NoSl (i:Ca):Prop:=∀ ov iv,subscripted i false ov iv=operate [ov,iv] (getItem ov iv)
theorem zfT {prog:An} {w:B8} {A:B1} {E:A1->A4->Prop} {s:A4} {env:Env} {value slice:Ca} {pos:Pos} {T id:String} {Q:A1->A4->Prop}
  (hl:typeLookup (.type T) "__getitem__" = pure (some (.builtin id))) (hs:NoSl slice)
  (h:wpAny (model prog w) A (eval value env) (fun o s₁ => wpAny (model prog w) A (eval slice env) (fun i s₂ => s₂.TypeIs o T/\wpAny (model prog w) A (getItem o i) Q E s₂) E s₁) E s) :
  wpAny (model prog w) A (eval (.Subscript value slice pos) env) Q E s:=by
 refine Subscript_ (D9 h (fun o s₁ h₁ => D9 h₁ (fun i s₂ h₂ => ?_) fun _ _ x=>x) fun _ _ x=>x)
 obtain ⟨hT,h₂⟩:=h₂
 unfold subscriptTail
 refine A2 ?_
 rw [getitemInPython_of_ne hT.not_modules]
 refine A2 (Gp hT hl ?_)
 have fin:wpAny (model prog w) A (subscripted slice false o i) (fun r s₃ => wpAny (model prog w) A (letTemporaryGo value o r >>= fun _=>pure r) Q E s₃) E s₂ := by
  rw [hs o i]
  exact wpAny_operating (D9 h₂ (fun r s₃ h₃ => A2 (wpAny_letTemporaryGo (Ae h₃))) fun _ _ x=>x)
 first
  | exact Ae (A2 fin)
  | exact A2 (Ae (A2 fin))
  | exact A2 fin
theorem dict_typeIs {X:Cx} {pins:List (A3×Obj)} {σ : St} {H:Hp} {s:A4} {a:A3} {y:V} {o:Option V} (I:Inv X pins σ H s) (g:DGet H a y o):s.TypeIs (.ref a) "dict" := by
 rcases g with ⟨kvs,k,e,_,_⟩ | ⟨kvs,k,b,e,_,_,_⟩
 ·obtain ⟨_,_,vs,_,dd⟩:=ze3 I.hok e
  exact dd.typeIs
 ·obtain ⟨_,_,xs,_,dd⟩:=zgC I.hok e
  exact dd.typeIs
noncomputable def tDGet (td ty:TE):TE:=fun σ H Q=>td σ H fun x H1=>ty σ H1 fun y H2=>∃ a v,x = .ref a/\DGet H2 a y (some v)/\Q v H2
noncomputable def tDIn (ty td:TE):TE:=fun σ H Q=>ty σ H fun y H1=>td σ H1 fun x H2=>∃ a o,x = .ref a/\DGet H2 a y o/\Q (.bl o.isSome) H2
noncomputable def tDNotIn (ty td:TE):TE:=fun σ H Q=>ty σ H fun y H1=>td σ H1 fun x H2=>∃ a o,x = .ref a/\DGet H2 a y o/\Q (.bl (!o.isSome)) H2
noncomputable def sDPut (td ty tv:TE):TS:=fun D σ H=>tv σ H fun v H1=>td σ H1 fun x H2=>ty σ H2 fun y H3=>∃ a H4,x = .ref a/\DPut H3 a y v H4/\D.nx σ H4
section
variable {X:Cx} {o i e value:Ca} {pos pos' tpos:Pos} {td ty tv:TE}
theorem zdT (hu:X.A.units + 1 < cLine) (ho:PE X o td) (hi:PE X i ty) (hs:NoSl i):PE X (.Subscript o i pos) (tDGet td ty):=by
 intro pins s σ H Q I h
 refine zfT Kk.lookup hs (thn (ho pins s σ H _ I h) fun u s1 ⟨x,H1,I1,rx,q1⟩=>thn (hi pins s1 σ H1 _ I1 q1) fun iv s2 ⟨y,H2,I2,ry,a,v,ex,g,q2⟩ => ?_)
 subst ex
 obtain rfl:u=Az a:=rx
 exact ⟨dict_typeIs I2 g,d_getItem hu I2 g ry fun w' s3 I3 rw'=>⟨v,H2,I3,rw',q2⟩⟩
theorem zge (hu:X.A.units + 1 < cLine) (hi:PE X i ty) (ho:PE X o td):PC X .In i o (tDIn ty td):=by
 intro pins s σ H Q I h
 refine thn (hi pins s σ H _ I h) fun iv s1 ⟨y,H1,I1,ry,q1⟩=>thn (ho pins s1 σ H1 _ I1 q1) fun u s2 ⟨x,H2,I2,rx,a,ov,ex,g,q2⟩ => ?_
 subst ex
 obtain rfl:u=Az a:=rx
 exact d_in hu I2 g ry fun s3 I3=>⟨.bl ov.isSome,H2,I3,rfl,q2⟩
theorem zel (hu:X.A.units + 1 < cLine) (hi:PE X i ty) (ho:PE X o td):PC X .NotIn i o (tDNotIn ty td):=by
 intro pins s σ H Q I h
 refine thn (hi pins s σ H _ I h) fun iv s1 ⟨y,H1,I1,ry,q1⟩=>thn (ho pins s1 σ H1 _ I1 q1) fun u s2 ⟨x,H2,I2,rx,a,ov,ex,g,q2⟩ => ?_
 subst ex
 obtain rfl:u=Az a:=rx
 exact d_notIn hu I2 g ry fun s3 I3=>⟨.bl (!ov.isSome),H2,I3,rfl,q2⟩
theorem zdS (hu:X.A.units + 1 < cLine) (ho:PE X o td) (hi:PE X i ty) (hv:PE X value tv) (hs:swapsWith value (some (.Subscript o i pos')) pos.line X.env=pure false) :
  PS X (.Assign [.Subscript o i pos'] value pos) (sDPut td ty tv):=by
 intro pins s σ H D I h
 refine N6 (thn (hv pins s σ H _ I h) fun r s1 ⟨v,H1,I1,rv,q1⟩=>thn (ho pins s1 σ H1 _ I1 q1) fun u s2 ⟨x,H2,I2,rx,q2⟩=>thn (hi pins s2 σ H2 _ I2 q2) fun iv s3 ⟨y,H3,I3,ry,a,H4,ex,g,q3⟩ => ?_) hs
 subst ex
 obtain rfl:u=Az a:=rx
 exact d_setItem hu I3 g ry rv fun s4 I4=>⟨σ,H4,I4,q3⟩
end
theorem dk_empty {P:An} {w:B8} {H:Hp} (h:Br) (hb:sysModules < h.objs.size):ObjOk P w H (h.push { cls := .type "dict",data := .dict #[] }) h.objs.size (.dK []) :=
 ⟨C6 _,beq_eq_false_iff_ne.mpr (Dy (B7 hb)),[],.nil,Qp h⟩
theorem zfI {P:An} {w:B8} {H:Hp} (h:Br) (hb:sysModules < h.objs.size):ObjOk P w H (h.push { cls := .type "dict",data := .dict #[] }) h.objs.size (.dT []) :=
 ⟨C6 _,beq_eq_false_iff_ne.mpr (Dy (B7 hb)),[],.nil,_,#[],0,Ay _ rfl,⟨rfl,rfl,rfl⟩,rfl,rfl,E8⟩
noncomputable def tDNewK:TE:=fun _ H Q=>∀ p,H p=none->Q (.ref p) (upd H p (.dK []))
noncomputable def tDNewT:TE:=fun _ H Q=>∀ p,H p=none->Q (.ref p) (upd H p (.dT []))
section
variable {X:Cx} {pos:Pos}
theorem zft:PE X (.Dict [] [] pos) tDNewK:=fun pins s σ H Q I h =>
 Ox ⟨.ref s.heap.objs.size,_,I.laid (a:=s.heap.objs.size) (o := .dK []) (t':=s.toks) (fun _ _ q=>A7 _ q) (Ad _) (dk_empty s.heap I.big),rfl,h _ (I.hok.fresh (Ad _))⟩
theorem zfs:PE X (.Dict [] [] pos) tDNewT:=fun pins s σ H Q I h =>
 Ox ⟨.ref s.heap.objs.size,_,I.laid (a:=s.heap.objs.size) (o := .dT []) (t':=s.toks) (fun _ _ q=>A7 _ q) (Ad _) (zfI s.heap I.big),rfl,h _ (I.hok.fresh (Ad _))⟩
end
section
variable {X:Cx} {pins:List (A3×Obj)} {σ : St} {H:Hp} {s:A4} {a:A3} {y d:V} {u r:A1} {o:Option V} {A:B1} {E:A1->A4->Prop}
end
section
variable {X:Cx} {o e f:Ca} {apos cpos:Pos} {td ty tx:TE}
end
section
variable {X:Cx} {pins:List (A3×Obj)} {σ : St} {H:Hp} {s:A4} {a:A3} {kvs:List (Key×V)} {A:B1} {E:A1->A4->Prop}
theorem d_copyOf {Q:A1->A4->Prop} (I:Inv X pins σ H s) (e:Rd H a (.dK kvs)) (h:∀ p s',H p=none->Inv X pins σ (upd H p (.dK kvs)) s'->Q (.ref p) s'):wpAny (model X.prog X.w) A (call (.type "dict") [.ref a]) Q E s:=by
 obtain ⟨z,hd,vs,rel,dd⟩:=ze3 I.hok e
 refine kt_call_dict hd dd (by rw [<- rel.length]; exact z) fun h' dd' hs => ?_
 refine h _ _ (I.hok.fresh (Ad _)) (I.laid (a:=s.heap.objs.size) (o := .dK kvs) (t':=s.toks) (fun b q hq => ?_) (Ad _) (zg6 z (beq_eq_false_iff_ne.mpr (Dy (B7 I.big))) rel dd'))
 exact (hs.2 b (B7 (Am hq))).trans (A7 _ hq)
end
section
variable {X:Cx} {pins:List (A3×Obj)} {σ : St} {H:Hp} {s:A4} {a:A3} {y:V} {u:A1} {A:B1} {E:A1->A4->Prop}
end
end L2
namespace Att
open PySem PySem.W PySem.Calls PyProof.Rows
theorem ints_of_wellAll {P:Qo} {h:Br}:∀ (ns:List Int) (vs:List A1),WellAll P h vs (ns.map WData.int)->Ee vs ns:=by
 intro ns
 induction ns with
 | nil =>
  intro vs w
  rw [Gh] at w
  cases w
  exact .nil
 | cons n ns ih =>
  intro vs w
  rw [Aq] at w
  cases w with
  | cons a b =>
   cases a
   exact .cons _ _ (ih _ b)
theorem script_of {l:OpenLaw} {n:Nat} (hn:l.most=some n) {P:Qo} {h:Br} {args:List WData} {vals:List A1}
  (hpre:l.row.toRowW.claim.pre args=true) (hwl:WellAll P h vals args) :
  ∃ a vs ns,vals = [Az a]/\args = [WData.list (ns.map WData.int)]/\h.get? a=some { cls := .type "list",data := .seq vs.toArray }/\Ee vs ns/\ns.length<=n:=by
 have hsh:WShape.hasAll [] args [.list .int]=true:=(pre_splitW hpre).1
 have hc:l.pre.holds [] { args:=args }=true:=(pre_splitW hpre).2
 obtain ⟨d,r,rfl,h1,h2⟩:=hasAllW_cons hsh
 obtain rfl:=hasAllW_nil h2
 obtain ⟨xs,rfl,h3⟩:=hasW_list h1
 obtain ⟨ns,rfl⟩:=items_int h3
 have hlen:ns.length<=n:=by
  unfold OpenLaw.pre at hc
  have h4:(WTm.not (.lt (.lit (.int (n:Int))) (.len (.arg 0)))).holds [] { args := [.list (ns.map .int)] }=true:=by
   have h4:=(holds_andW hc).1
   rw [hn] at h4
   exact h4
  have h5:=condW_of h4 (w_not (w_lt w_lit (w_len_list (w_arg rfl))))
  rw [A5] at h5
  refine Nz fun q => ?_
  have q':(n:Int) < ((ns.length:Nat):Int):=by omega
  first
   | (rw [decide_eq_true q'] at h5; exact absurd h5 (by decide))
   | (simp at h5; omega)
 cases hwl with
 | cons w1 w2 =>
  cases w2
  cases w1 with
  | list ho hall=>exact ⟨_,_,ns,rfl,rfl,ho,ints_of_wellAll ns _ hall,hlen⟩
theorem post_true (l:OpenLaw) (args:List WData):l.row.toRowW.claim.post args (.bool true) args=true :=
 postW_of (r:=l.row.toRowW) (X:=(true == true))
  (show WShape.has [] (.bool true) .bool=true by first | rfl | decide | simp [WShape.has,WShape.arms,WShape.armsAll])
  (show (WTm.eq .res (.lit (.bool true))).value [] { args:=args,res:=some (.bool true),after:=args }=some (.bool (true == true)) from w_eq_bool (w_res rfl) w_lit) rfl
theorem attach_call {l:OpenLaw} {n:Nat} {q:An} {loose:List Str} {XP:(Str->Option A1)->Br->Prop} {YP:B8->Br->Prop} {d:DefRec}
  (hn:l.most=some n) (hdf:d.params.defaults = [])
  (call:∀ (w:B8) (s₀ s₁ : A4) (mg mb:Str->Option A1) (fa:A3) (o:Obj) (pm cd doc:A1) (a:A3) (vs:List A1) (ns:List Int),
   Ground q loose [] XP w s₀ mg mb s₁.heap->YP w s₁.heap ->
   s₁.heap.get? fa=some o->o.data = .func (docDef d.name d.params d.body d.scope pm cd doc)->s₁.heap.CodeRec cd d.name->mg d.name=some (.ref fa) ->
   s₁.heap.get? a=some { cls := .type "list",data := .seq vs.toArray }->Ee vs ns->ns.length<=n->s₁.gens = #[] ->
   codeAny (model l.prog w) callerA (.call (.ref fa) ⟨[.ref a],[]⟩) (fun r s'=>r = .ok (.ret (.bool true))/\OldK s₁.heap s'.heap/\s'.os=s₁.os/\Gi s'.gens) s₁) :
  WalkO q loose XP YP l.row.toRowW d [] (fun f vs=>Mt f vs):=by
 intro w s₀ s₁ mg mb G Y fa o pm cd doc dV kV ho hd hcd hD hmg hg args vals as hpre hlay hrd hwl hlo
 obtain rfl:dV = .none:=Dflts.none hD hdf
 obtain rfl:kV = .none:=Dflts.noKw hD
 obtain ⟨a,vs,ns,rfl,rfl,hobj,hints,hlen⟩:=script_of hn hpre hwl
 refine enter_call (J5 (call w s₀ s₁ mg mb fa o pm cd doc a vs ns G Y ho (fd_plain hd) hcd hmg hobj hints hlen hg) fun r s' hq => ?_)
 obtain ⟨rfl,h2,h3,h4⟩:=hq
 exact ⟨.inl ⟨.bool true,.bool true,[],rfl,fun _=>rfl,.bool true,post_true l _,fun _=>⟨Ga,fun _ hm=>(nomatch hm)⟩⟩,h2,h3,h4⟩
section
variable {prog:An} {w:B8} {A:B1} {E:A1->A4->Prop} {s:A4} {K:Frag}
noncomputable def ledger (h:Br) (L d:A3):List (A3×Obj):=(Ac h.objs.size).filterMap fun a=>if a=L\/a=d then none else (h.get? a).map fun o=>(a,o)
end
end Att
namespace L2
open PySem PySem.Spec PyProof.Rows
theorem zcW:∀ {vs:List A1} {ns:List Int},Ee vs ns->Vals (ns.map V.int) vs
 | _,_,.nil => .nil
 | _,_,.cons n t h => .cons ⟨t,rfl⟩ (zcW h)
noncomputable def Only (H:Hp):Prop:=∀ b,H b=none\/∃ o xs,H b=some (.frz o (.lst xs))
theorem law_call {P:An} {w:B8} {K:Al} {mg mb:Str->Option A1} {CX:CXT} {k:Nat} {fa a:A3} {fd:Ed} {x:Str} {sp:Sp} {s₁ : A4} {vs:List A1} {ns:List Int}
  (KX:K.In s₁.heap) (hns:s₁.heap.Ns mainGlobals mg) (hb:s₁.heap.Ns builtinsNs mb) (hbb:∀ x:Str,x ≠ "__name__" -> mb x=bootBuiltins x) (hlim:s₁.heap.NoLimit) (hg:s₁.gens = #[])
  (ha:s₁.heap.get? a=some { cls := .type "list",data := .seq vs.toArray }) (hi:Ee vs ns) (hl:ns.length<=sizeLine) (hr:Room k callerA)
  (F:∀ base:Br,K.In base->base.Ns mainGlobals mg->FnOk P w K mg base CX k fa fd [x] sp) (hbind:∀ (s:A4) (u:A1),Jz s fd ⟨[u],[]⟩ [(x,u)])
  (hsp:∀ H:Hp,Only H->SqL K H a (ns.map V.int)->sp [.ref a] H (fun v _=>v = .bl true) fun _ _ _=>False)
  (hCX:∀ H e s',CX [] H s₁ (fun _ _ _=>False) e s'->False) :
  codeAny (model P w) callerA (.call (.ref fa) ⟨[.ref a],[]⟩) (fun r s'=>r = .ok (.ret (.bool true))/\OldK s₁.heap s'.heap/\s'.os=s₁.os/\Gi s'.gens) s₁ := by
 have rv:=zcW hi
 have lenV:=hi.length
 have core:∀ H:Hp,Only H->SqL K H a (ns.map V.int)->HOk P w H s₁.heap->(∀ b,H b≠none->b=a)->(H a≠none->K.lookup a=none) ->
   codeAny (model P w) callerA (.call (.ref fa) ⟨[.ref a],[]⟩) (fun r s'=>r = .ok (.ret (.bool true))/\OldK s₁.heap s'.heap/\s'.os=s₁.os/\Gi s'.gens) s₁ := by
  intro H hO hS hok hA hK
  have base_of:∀ {b:A3} {o:Obj},s₁.heap.get? b=some o->H b=none->(hidT s₁.heap H).get? b=some o:=fun e n=>hidT_get e n
  have noA:∀ {b:A3} {o:Obj} {es:Array Ix} {ep:Nat},s₁.heap.get? b=some o->o.data = .dict es ep->H b=none:=fun {b o es ep} e d=>by
   cases q:H b with
   | none=>rfl
   | some u =>
    have e':b=a:=hA b (by rw [q]; simp)
    subst e'
    rw [ha] at e; cases e
    have d':Data.seq vs.toArray _=Data.dict es ep:=d
    cases d'
  have nsK:∀ {b:A3} {m:Str->Option A1},s₁.heap.Ns b m->(hidT s₁.heap H).Ns b m:=fun {b m} ⟨o,es,ep,e,d,r⟩=>⟨o,es,ep,base_of e (noA e d),d,r⟩
  have hKb:K.In (hidT s₁.heap H):=fun b o e=>base_of (KX b o e) (by
   cases q:H b with
   | none=>rfl
   | some u =>
    have e':b=a:=hA b (by rw [q]; simp)
    subst e'
    rw [hK (by rw [q]; simp)] at e; cases e)
  have hM:Mod K mg (hidT s₁.heap H):=⟨hKb,nsK hns,⟨mb,nsK hb,hbb⟩,let ⟨mc,h1,h2⟩:=hlim; ⟨mc,nsK h1,h2⟩⟩
  have e0:Env0 P w K mg (hidT s₁.heap H) callerA [] s₁ H:=⟨rfl,hM,fun b o e=>of_hidT e,Pc (hidT_size _ _),trivial,fun b hb=>absurd (show b∈([]:List A3) from hb) (by simp),hok,.of_eq hg⟩
  refine J5 ((F _ hKb (nsK hns)).run callerA [] s₁ H ⟨[.ref a],[]⟩ [.ref a] [.ref a] _ _ hr e0 (hbind s₁ (.ref a)) (.cons rfl .nil) (hsp H hO hS)) fun r s' h => ?_
  cases r with
  | error e=>exact (hCX H e s' h).elim
  | ok fl =>
   cases fl with
   | next=>exact Cf h
   | brk=>exact Cf h
   | cont=>exact Cf h
   | ret u =>
    obtain ⟨v,H',os,bare,un,hok',r',q⟩:=h
    have q':v = .bl true:=q
    subst q'
    obtain rfl:u=Hs true:=r'
    refine ⟨rfl,OldK.of_keep fun b o e => ?_,os,bare⟩
    cases q:H b with
    | none=>exact un.keep b o e q (by intro z; exact absurd (show b∈([]:List A3) from z) (by simp)) (by simp)
    | some u =>
     rcases hO b with z | ⟨ob,xs,z⟩
     ·rw [q] at z; cases z
     ·have z2:=un.frzs b ob _ z
      obtain ⟨e1,_⟩:=hok b _ z
      obtain ⟨e2,_⟩:=hok' b _ z2
      rw [e] at e1; cases e1
      exact e2
 cases hk:K.lookup a with
 | some o =>
  have e:=KX a o hk
  rw [ha] at e
  cases e
  refine core (fun _=>none) (fun _ => .inl rfl) (.inr ⟨_,vs.toArray,_,hk,rfl,rfl,rfl,by rw [B5,lenV]; exact hl,by simpa using rv⟩) (fun b u z=>by have z':(none:Option HO)=some u:=z; cases z') (fun b z=>absurd rfl z) fun z=>absurd rfl z
 | none =>
  refine core (fun b=>if b=a then some (.frz { cls := .type "list",data := .seq vs.toArray } (.lst (ns.map V.int))) else none) (fun b => ?_) (.inl (.inr ⟨{ cls := .type "list",data := .seq vs.toArray },if_pos rfl⟩)) (fun b u z => ?_) (fun b z => ?_) fun _=>hk
  ·by_cases hb:b=a
   ·exact .inr ⟨_,_,if_pos hb⟩
   ·exact .inl (if_neg hb)
  ·by_cases hb:b=a
   ·have z':=(if_pos hb).symm.trans z
    cases z'
    subst hb
    exact ⟨ha,by rw [A5]; exact hl,vs,_,rv,ha⟩
   ·have z':=(if_neg hb).symm.trans z
    cases z'
  ·by_cases hb:b=a
   ·exact hb
   ·exact absurd (if_neg hb) z
theorem walk_of {l:K8} {n k:Nat} {q:An} {loose:List Str} {XP:(Str->Option A1)->Br->Prop} {YP:B8->Br->Prop} {d:DefRec} {K:Qo->Al} {CX:B8->CXT} {sp:B8->Sp} {x:Str}
  (hn:l.most=some n) (hn2:n<=sizeLine) (hdf:d.params.defaults = []) (hr:Room k callerA)
  (hY:∀ (w:B8) (h:Br),YP w h->(K w.params).In h)
  (F:∀ (w:B8) (mg:Str->Option A1) (fa:A3) (h:Br),(K w.params).In h->h.Ns mainGlobals mg->mg d.name=some (.ref fa) ->
   ∃ fd:Ed,(∀ (s:A4) (u:A1),Jz s fd ⟨[u],[]⟩ [(x,u)]) /\
    ∀ base:Br,(K w.params).In base->base.Ns mainGlobals mg->FnOk l.prog w (K w.params) mg base (CX w) k fa fd [x] (sp w))
  (hsp:∀ (w:B8) (H:Hp) (a:A3) (ns:List Int),ns.length<=n->Only H->SqL (K w.params) H a (ns.map V.int)->sp w [.ref a] H (fun v _=>v = .bl true) fun _ _ _=>False)
  (hCX:∀ (w:B8) (H:Hp) (s:A4) (e:A1) (s':A4),CX w [] H s (fun _ _ _=>False) e s'->False) :
  No q loose XP YP l.row.toRowW d [] (fun f vs=>Mt f vs):=by
 refine Att.attach_call hn hdf fun w s₀ s₁ mg mb fa o pm cd doc a vs ns G Y ho hd hcd hmg hobj hints hlen hg => ?_
 have KX:=hY w _ Y
 obtain ⟨fd,hb,hF⟩:=F w mg fa _ KX G.T.g hmg
 exact law_call KX G.T.g G.T.b G.T.builtins G.T.nolimit hg hobj hints (C0 hlen hn2) hr hF hb (fun H hO hS=>hsp w H a ns hlen hO hS) fun H e s'=>hCX w H s₁ e s'
noncomputable def inClass (s:Cd) (j:Nat):Cd:=match s with
 | .ClassDef _ _ _ body _ _ _ _ _ _ _=>body.getD j (.Pass ⟨0,0,0,0⟩)
 | _ => .Pass ⟨0,0,0,0⟩
noncomputable def defArgs (s:Cd):Pi:=match s with
 | .FunctionDef _ a _ _ _ _ _ _ _ _=>a
 | _=>{ posonlyargs := [],args := [],vararg:=none,kwonlyargs := [],kw_defaults := [],kwarg:=none,defaults := [] }
noncomputable def defBody (s:Cd):List Cd:=match s with
 | .FunctionDef _ _ b _ _ _ _ _ _ _=>b
 | _ => []
noncomputable def defScope (s:Cd):F6:=match s with
 | .FunctionDef _ _ _ _ _ _ sc _ _ _=>sc
 | _=>{ kind := .function,names := [],isGenerator:=false,isCoroutine:=false }
noncomputable abbrev CX0:CXT:=fun _ _ _ _ _ _=>False
noncomputable abbrev E0:XK:=fun _ _ _=>False
theorem zem {X:Cx}:Passes CX0 X E0:=fun _ _ _ _ _ _ _ h=>h.elim
structure Fun (K:Al) (x qual:Str) (st:Cd) (f:A3) (fd:Ed):Prop where
 ex:∃ (oc:A1) (od:Option A3) (kV doc pm:A1) (an:Option A3) (cdv ct:A1) (osl:Array (Option A1)),
  fd=Cg x qual (defArgs st) (defBody st) (defScope st) .none kV doc pm an cdv ct/\K.lookup f=some ⟨oc,od,.func fd,osl⟩/\Ex K cdv qual=true
 kp:Cu K (.ref f)=true
section
variable {P:An} {w:B8} {K:Al} {mg:Str->Option A1} {base:Br}
theorem Fun.ok {x qual:Str} {st:Cd} {f:A3} {fd:Ed} {N ps:List Str} {k:Nat} {sp:Sp} (F:Fun K x qual st f fd) (S:FnScope N ps (defScope st)) (len:∀ vs H Q E,sp vs H Q E->vs.length=ps.length)
  (hbody:∀ (cdv:A1) (A:B1) (outer:List Env) (s:A4) (H:Hp) (vs:List V) (Q:VK) (E:XK),Room k (A.deeper (envOfC qual (defScope st) s.heap.objs.size f cdv))->sp vs H Q E ->
   ∃ t,PSs (cxOf CX0 P w K mg base N qual (defScope st) f cdv A outer s H E).nox (defBody st) t/\t { nx:=fun _ H'=>Q .non H',rt:=Q } (start N vs) H):FnOk P w K mg base CX0 (k + 1) f fd ps sp:=by
 obtain ⟨oc,od,kV,doc,pm,an,cdv,ct,osl,rfl,lk,hcd⟩:=F.ex
 refine zhi lk hcd S len fun A outer s H vs Q E hr hsp => ?_
 obtain ⟨t,h,q⟩:=hbody cdv A outer s H vs Q E hr hsp
 exact ⟨t,h.nox,q⟩
theorem Fun.binds {x qual:Str} {st:Cd} {f:A3} {fd:Ed} {ps:List Str} (F:Fun K x qual st f fd)
  (h:∀ (kV doc pm:A1) (an:Option A3) (cdv ct:A1) (us:List A1),us.length=ps.length->bindArgs (Cg x qual (defArgs st) (defBody st) (defScope st) .none kV doc pm an cdv ct) ⟨us,[]⟩=pure (ps.zip us)):Binds K fd ps []:=by
 obtain ⟨oc,od,kV,doc,pm,an,cdv,ct,osl,rfl,lk,hcd⟩:=F.ex
 exact .all (h kV doc pm an cdv ct)
theorem zgx {x qual:Str} {st:Cd} {f:A3} {oc:A1} {od an:Option A3} {osl:Array (Option A1)} {kV doc pm cdv ct:A1} (l:K.lookup f=some ⟨oc,od,.func (Cg x qual (defArgs st) (defBody st) (defScope st) .none kV doc pm an cdv ct),osl⟩)
  (c:Ex K cdv qual=true) (k:Cu K (.ref f)=true):Fun K x qual st f (Cg x qual (defArgs st) (defBody st) (defScope st) .none kV doc pm an cdv ct):=⟨⟨oc,od,kV,doc,pm,an,cdv,ct,osl,rfl,l,c⟩,k⟩
end
theorem zde {A:B1} {k:Nat} (hr:Room k A):A.units + 1 < cLine:=Nat.lt_of_le_of_lt (Nat.add_le_add_left (by decide:1<=64) _) hr.units
section
variable {X:Cx}
theorem pv (i:Nat) {x:Str} {pos:Pos} (hN:X.N[i]?=some x:=by rfl) (hv:Vis X.env.scope x:=by first | exact Au rfl | exact Fe (Au rfl) | exact Fe (Fe rfl)) (hd:(x == ("__debug__" : Str))=false:=by decide)
  (hcd:(x == ("__classdict__" : Str))=false:=by decide):PE X (.Name x pos) (tVar i):=pe_var hN hv hd hcd
theorem call_lenD:CallR X (.builtin "len") (fun xs H Q=>∃ a kvs,xs = [V.ref a]/\H a=some (.dK kvs)/\Q (.int kvs.length) H):=by
 intro pins s σ H xs us Q I r h
 obtain ⟨a,kvs,rfl,ha,q⟩:=h
 obtain ⟨u,rfl,ru⟩:=zb5 r
 cases ru
 exact d_len I (.inl ha) fun t s' I'=>⟨.int kvs.length,H,I',⟨t,rfl⟩,q⟩
end
theorem iteF {A B:Prop} (h:B):if false=true then A else B:=by
 rw [if_neg A9]
 exact h
theorem iteT {A B:Prop} (h:A):if true=true then A else B:=by
 rw [if_pos rfl]
 exact h
theorem ite2 {c A B:Prop} [Decidable c] (h1:c->A) (h2:¬ c->B):if c then A else B:=by
 by_cases h:c
 ·rw [if_pos h]
  exact h1 h
 ·rw [if_neg h]
  exact h2 h
noncomputable def Same (H H':Hp):Prop:=∀ b o,H b=some o->H' b=some o
theorem Same.refl (H:Hp):Same H H:=fun _ _ h=>h
theorem Same.trans {H H1 H2:Hp} (a:Same H H1) (b:Same H1 H2):Same H H2:=fun c o h=>b c o (a c o h)
theorem Same.free {H H':Hp} (e:Same H H') {l:A3} (h:H' l=Oh):H l=Oh:=by
 cases q:H l with
 | none=>rfl
 | some o =>
  rw [e l o q] at h
  cases h
theorem Same.seq {K:Al} {H H':Hp} {a:A3} {xs:List V} (e:Same H H') (h:SqL K H a xs):SqL K H' a xs:=by
 rcases h with (h | ⟨o,h⟩) | h
 ·exact .inl (.inl (e _ _ h))
 ·exact .inl (.inr ⟨o,e _ _ h⟩)
 ·exact .inr h
section
variable {κ : Type} [DecidableEq κ]
theorem zgj:∀ {l:List κ} {k : κ},l.Nodup->¬ k∈l->(l ++ [k]).Nodup
 | [],k,_,_=>by simp
 | a :: r,k,h,hk=>by
  obtain ⟨h1,h2⟩:=Dj.mp h
  show (a :: (r ++ [k])).Nodup
  refine Dj.mpr ⟨fun m => ?_,zgj h2 fun m=>hk (B6.mpr (Fe m))⟩
  rcases Ao.mp m with q | q
  ·exact h1 q
  ·exact hk (B6.mpr (Au (A6.mp q).symm))
end
theorem zc6 {κ β : Type} [BEq κ] [LawfulBEq κ] {k : κ} {v : β}:∀ {l:List (κ × β)},l.lookup k=some v->(k,v)∈l
 | [],h=>by simp at h
 | (a,b) :: r,h=>by
  rw [E5] at h
  cases e:k == a with
  | true =>
   rw [e] at h
   simp at h
   rw [eq_of_beq e,h]
   exact Ag
  | false =>
   rw [e] at h
   exact A8 _ (zc6 h)
theorem zeq {κ β : Type} [BEq κ] [LawfulBEq κ] {k : κ} {v : β}:∀ {l:List (κ × β)},(k,v)∈l->∃ w,l.lookup k=some w
 | [],h=>by simp at h
 | (a,b) :: r,h=>by
  rw [E5]
  cases e:k == a with
  | true=>exact ⟨b,rfl⟩
  | false =>
   rcases B6.mp h with h | h
   ·injection h with h1 h2
    rw [h1] at e
    simp at e
   ·exact zeq h
theorem closure_ok {env:Env} {scope:F6} (h:∀ x∈scope.names,x.2 = .free->∃ c,env.cells.lookup x.1=some c) :
  ∃ cl,closureFor scope env=pure cl/\(∀ x c,(x,c)∈cl->(x,Ck)∈scope.names/\env.cells.lookup x=some c)/\∀ x,(x,Ck)∈scope.names->∃ c,(x,c)∈cl:=by
 have all:∀ (names:List (Str×Iw)) (acc:List (Str×A3)),(∀ x∈names,x.2 = .free->∃ c,env.cells.lookup x.1=some c) ->
   ∃ cl:List (Str×A3),(forIn names acc fun (x:Str×Iw) (r:List (Str×A3))=>(if (x.2 == Ck)=true then do let c <- cellOf env x.1; pure (Dr ((x.1,c) :: r)) else pure (Dr r):Sem (ForInStep (List (Str×A3)))))=pure cl /\
    (∀ x c,(x,c)∈cl->(x,c)∈acc\/((x,Ck)∈names/\env.cells.lookup x=some c))/\(∀ p∈acc,p∈cl)/\∀ x,(x,Ck)∈names->∃ c,(x,c)∈cl:=by
  intro names
  induction names with
  | nil=>intro acc _; exact ⟨acc,rfl,fun x c h => .inl h,fun p h=>h,fun x h=>by simp at h⟩
  | cons y r ih =>
   intro acc hy
   obtain ⟨n,k⟩:=y
   by_cases hk:k = .free
   ·subst hk
    obtain ⟨c,hc⟩:=hy (n,.free) Ag rfl
    obtain ⟨cl,e,h1,h2,h3⟩:=ih ((n,c) :: acc) fun x hx=>hy x (A8 _ hx)
    refine ⟨cl,?_,fun x d hd => ?_,fun p hp=>h2 p (A8 _ hp),fun x hx => ?_⟩
    ·rw [Km]
     have hcell:cellOf env n=pure c:=by unfold cellOf; rw [hc]
     simp only [beq_self_eq_true,if_true,hcell,pure_bind]
     exact e
    ·rcases h1 x d hd with q | ⟨q1,q2⟩
     ·rcases B6.mp q with q | q
      ·injection q with q1 q2
       subst q1 q2
       exact .inr ⟨Ag,hc⟩
      ·exact .inl q
     ·exact .inr ⟨A8 _ q1,q2⟩
    ·rcases B6.mp hx with q | q
     ·injection q with q1 _
      subst q1
      exact ⟨c,h2 _ Ag⟩
     ·exact h3 x q
   ·obtain ⟨cl,e,h1,h2,h3⟩:=ih acc fun x hx=>hy x (A8 _ hx)
    refine ⟨cl,?_,fun x d hd=>(h1 x d hd).imp id fun q=>⟨A8 _ q.1,q.2⟩,h2,fun x hx => ?_⟩
    ·rw [Km]
     have hb:(k == Ck)=false:=by simpa using hk
     simp only [hb,Bp,if_false,pure_bind]
     exact e
    ·rcases B6.mp hx with q | q
     ·injection q with _ q2
      exact absurd q2.symm hk
     ·exact h3 x q
 obtain ⟨cl,e,h1,_,h3⟩:=all scope.names [] h
 refine ⟨cl,?_,fun x c q=>(h1 x c q).resolve_left (by simp),h3⟩
 show ((forIn scope.names ([]:List (Str×A3)) fun (x:Str×Iw) (r:List (Str×A3))=>(if (x.2 == Ck)=true then do let c <- cellOf env x.1; pure (Dr ((x.1,c) :: r)) else pure (Dr r):Sem (ForInStep (List (Str×A3))))) >>= fun r=>pure r)=pure cl
 rw [e]
 rfl
theorem zbp {env:Env}:∀ {names:List (Str×Iw)} {x:Str},names.lookup x=some .free ->
  (names.map fun (n,k)=>if (k == Ck && env.scope.kind == .function && env.kindOf n == some .cell) then (n,Iv) else (n,k)).lookup x=some .cell \/
  (names.map fun (n,k)=>if (k == Ck && env.scope.kind == .function && env.kindOf n == some .cell) then (n,Iv) else (n,k)).lookup x=some .free
 | [],_,h=>by simp at h
 | (n,k) :: r,x,h=>by
  have ih := @zbp env r x
  show F8 x ((if (k == Ck && env.scope.kind == .function && env.kindOf n == some .cell)=true then (n,Iv) else (n,k)) :: _)=_\/F8 x ((if (k == Ck && env.scope.kind == .function && env.kindOf n == some .cell)=true then (n,Iv) else (n,k)) :: _)=_
  cases hx:x == n with
  | true =>
   simp only [E5,hx] at h
   cases h
   by_cases hc:(Ck == Ck && env.scope.kind == .function && env.kindOf n == some .cell)=true
   ·rw [if_pos hc]; simp only [E5,hx]; exact .inl trivial
   ·rw [if_neg hc]; simp only [E5,hx]; exact .inr trivial
  | false =>
   simp only [E5,hx] at h
   by_cases hc:(k == Ck && env.scope.kind == .function && env.kindOf n == some .cell)=true
   ·rw [if_pos hc]; simp only [E5,hx]; exact ih h
   ·rw [if_neg hc]; simp only [E5,hx]; exact ih h
noncomputable def cxComp (X:Cx) (scope:F6) (N:List Str) (cl:List (Str×A3)) (C:A3) (s:A4) (H:Hp) (fp:List A3) (pn:List (A3×Obj)):Cx :=
 { X with N:=N,s₀ := s,H₀ := H,env:=compEnvC scope cl C X.env,outer:=X.stack,stack:=X.stack,ex:=fp,fn:=fun _=>false,pn:=pn,xe:=fun _ _=>False }
noncomputable def CapsOk (X:Cx) (scope:F6):List (Nat×Str)->Prop
 | []=>True
 | p :: r=>(X.N[p.1]?=some p.2/\scope.names.lookup p.2=some .free/\(X.env.scope.names.lookup p.2=some .cell\/X.env.scope.names.lookup p.2=some .free))/\CapsOk X scope r
theorem CapsOk.get {X:Cx} {scope:F6}:∀ {caps:List (Nat×Str)} {j:Nat} {p:Nat×Str},CapsOk X scope caps->caps[j]?=some p ->
  X.N[p.1]?=some p.2/\scope.names.lookup p.2=some .free/\(X.env.scope.names.lookup p.2=some .cell\/X.env.scope.names.lookup p.2=some .free)
 | [],_,_,_,h=>by simp at h
 | q :: r,0,p,h,e=>by simp at e; subst e; exact h.1
 | q :: r,j + 1,p,h,e=>CapsOk.get h.2 (by simpa using e)
noncomputable def capSt (own:List Str) (caps:List (Nat×Str)) (σ : St):St:=own.map (fun _=>none) ++ caps.map fun p=>(σ[p.1]?).join
noncomputable def CompW (J:It) (D:A3) (σ0:St) (H1:Hp) (g:TG) (tf:TT) (te:TE) (Q:VK):Prop:=∃ W:Nat->Nat->St->Hp->Prop,
 (∃ m,W 0 m σ0 (upd H1 D (.lst [])))/\∀ i m σ' H',W i m σ' H' ->
  (J.stop i H'/\Q (.ref D) H')\/(J.go i H'/\∀ x H2,J.yld i H' x H2->g x σ' H2 fun σ2 H3=>tf σ2 H3 fun b H4 =>
   if b=true then te σ2 H4 fun v H5=>∃ ys,H5 D=some (.lst ys)/\ys.length < sizeLine/\∃ m',m' < m/\W (i + 1) m' σ2 (upd H5 D (.lst (ys ++ [v])))
   else ∃ m',m' < m/\W (i + 1) m' σ2 H4)
noncomputable def tComp (wi:TI) (own:List Str) (caps:List (Nat×Str)) (g:TG) (tf:TT) (te:TE):TE:=fun σ H Q=>wi σ H fun J H1=>∀ D,H1 D=none->CompW J D (capSt own caps σ) H1 g tf te Q
noncomputable def PTs (X:Cx) (ifs:List Ca) (t:TT):Prop :=
 ∀ (pins:List (A3×Obj)) (s:A4) (σ : St) (H:Hp) (Q:Bool->Hp->Prop),Inv X pins σ H s->t σ H Q->wpAny (model X.prog X.w) X.A (forIn ifs true fun c r=>if r=true then do let ok <- isTrue c X.env (eval c X.env); pure (Dr ok) else pure (Dr r)) (TP X pins σ Q) X.xe s
noncomputable def tTrue:TT:=fun _ H Q=>Q true H
theorem zby {X:Cx}:PTs X [] tTrue:=fun _ _ _ H _ I h=>wpAny_tests_nil ⟨H,I,h⟩
theorem zcz {X:Cx} {c:Ca} {t:TT} (h:PT X c t):PTs X [c] t:=fun pins s σ H Q I hw=>wpAny_tests_one (h pins s σ H Q I hw)
theorem comp_loop {prog:An} {w:B8} {A:B1} {R:Qn->A4->Prop} {s:A4} {elt target iter:Ca} {ifs:List Ca} {scope:F6} {pos:Pos} {it acc:A1} {env:Env} (I:Nat->A4->Prop)
  (turn:∀ n s,I n s->wpAny (model prog w) A (pyNext it) (fun r s₁ => match r with
   | none=>R (.ok .next) s₁
   | some v=>wpAny (model prog w) A (letOwnedTupleGo target it v) (fun _ s₁'=>wpAny (model prog w) A (assign target env v) (fun _ s₂ =>
     wpAny (model prog w) A (forIn ifs true fun c r=>if r=true then do let ok <- isTrue c env (eval c env); pure (Dr ok) else pure (Dr r)) (fun ok s₃ =>
      if ok=true then wpAny (model prog w) A (eval elt env) (fun x s₄ =>
       wpAny (model prog w) A (call (.builtin "list.append") [acc,x]) (fun _ s₅ => ∃ m,m < n/\I m s₅) (fun _ _=>False) s₄) (fun _ _=>False) s₃
      else ∃ m,m < n/\I m s₃) (fun _ _=>False) s₂) (fun _ _=>False) s₁') (fun _ _=>False) s₁) (fun _ _=>False) s)
  (n:Nat) (h:I n s) :
  codeAny (model prog w) A (.compLoop (.ListComp elt [⟨target,iter,ifs,0⟩] scope pos) 0 it acc env) R s:=by
 refine codeAny_loop rfl I (fun n s hI => ?_) n h
 show wpAny _ A ((compTurn (.ListComp elt [⟨target,iter,ifs,0⟩] scope pos) 0 it acc env).onRaise (fun x=>do noteFrame x env; theTreesLotGoes x)) _ _ s
 refine wpAny_noted ?_
 rw [compTurn_list]
 refine A2 (Kc (A2 (D9 (turn n s hI) (fun r s₁ h₁ => ?_) fun _ _ h'=>h'.elim)))
 cases r with
 | none=>exact Ae h₁
 | some v =>
  refine A2 (D9 h₁ (fun _ s₁' h₁' => ?_) fun _ _ h'=>h'.elim)
  refine A2 (D9 h₁' (fun _ s₂ h₂ => A2 (D9 h₂ (fun ok s₃ h₃ => ?_) fun _ _ h'=>h'.elim)) fun _ _ h'=>h'.elim)
  cases ok with
  | false=>exact Ae ⟨rfl,h₃⟩
  | true =>
   exact A2 (A2 (D9 h₃ (fun x s₄ h₄ => A2 (D9 h₄ (fun _ s₅ h₅ => Ae (Ae ⟨rfl,h₅⟩)) fun _ _ h'=>h'.elim)) fun _ _ h'=>h'.elim))
section
variable {X:Cx} {pins:List (A3×Obj)} {σ : St}
theorem comp_ok {H2:Hp} {s2:A4} {fp:List A3} {scope:F6} {N:List Str} {cl:List (Str×A3)} {C:A3} (I2:Inv X pins σ H2 s2) (f2:∀ b∈fp,FpOk X pins H2 b) (hC:s2.heap.objs.size < C)
  (hfs:∀ b∈fp,b < s2.heap.objs.size) (hkind:scope.kind = .function) (hcl:∀ x c,cl.lookup x=some c->X.env.cells.lookup x=some c)
  (hhas:∀ x,((relabel scope X.env).names.lookup x=some .cell\/(relabel scope X.env).names.lookup x=some .free)->∃ c,cl.lookup x=some c) :
  (cxComp X scope N cl C s2 H2 fp (X.pn ++ pins)).Ok where
 mod:=I2.ok.mod
 kind:=hkind
 glob:=I2.ok.glob
 blt:=I2.ok.blt
 above:=Fw hC
 inj:=fun x y c h1 h2=>I2.ok.inj x y c (hcl x c h1) (hcl y c h2)
 has:=hhas
 cab:=fun _ _ h _=>by cases h
 hd:=I2.ok.hd
 frames:=I2.ok.frames
 stk := .inl rfl
 exf:=fun b hb=>⟨B7 (Gj (hfs b hb) hC),fun x c e=>(f2 b hb).2.2.2.2.1 x c (hcl x c e)⟩
 bs:=I2.bs
 bsz:=C0 I2.ok.bsz I2.sz
 noex:=fun b o e hb=>by
  rcases (f2 b hb).2.2.2.1 with z | z
  ·exact I2.ok.noex b o e z
  ·exact absurd (Af (Am e) (C0 I2.ok.bsz z)) (Dq _)
 exfs:=fun b hb z=>(B6.mp (I2.stkSub b z)).elim (f2 b hb).2.1 (f2 b hb).2.2.1
 funs:=I2.stack
 frf:=I2.stkFree
theorem comp_start {H2:Hp} {s2:A4} {fp:List A3} {scope:F6} {own:List Str} {caps:List (Nat×Str)} {cl:List (Str×A3)} {D C:A3} {h1:Br} {tk:Nat} {m:Str->Option A1}
  (I2:Inv X pins σ H2 s2) (f2:∀ b∈fp,FpOk X pins H2 b) (hC : @Eq Nat C (s2.heap.objs.size + 1)) (hD : @Eq Nat D s2.heap.objs.size)
  (hfs:∀ b∈fp,b < s2.heap.objs.size) (hkind:scope.kind = .function) (hcl:∀ x c,cl.lookup x=some c->X.env.cells.lookup x=some c)
  (hhas:∀ x,((relabel scope X.env).names.lookup x=some .cell\/(relabel scope X.env).names.lookup x=some .free)->∃ c,cl.lookup x=some c)
  (hcap:CapsOk X scope caps) (hns:h1.Ns C m) (old:∀ b o,s2.heap.get? b=some o->h1.get? b=some o) (hlst:∃ n,h1.get? D=some { cls := .type "list",data := .seq #[] n }) :
  Inv (cxComp X scope (own ++ caps.map (·.2)) cl C s2 H2 fp (X.pn ++ pins)) [] (capSt own caps σ) (upd H2 D (.lst [])) { s2 with heap:=h1,toks:=tk }:=by
 have hCs:s2.heap.objs.size < C:=by omega
 have hDn:H2 D=none:=I2.hok.fresh (by omega)
 have hCn:H2 C=none:=I2.hok.fresh (by omega)
 have hCD:C≠D:=by show ¬ @Eq Nat C D; omega
 have hDs:s2.heap.objs.size<=D:=by show @LE.le Nat _ s2.heap.objs.size D; omega
 have new:ObjOk X.prog X.w (upd H2 D (.lst [])) h1 D (.lst []):=let ⟨n,e⟩:=hlst; ⟨C6 _,[],n,.nil,e⟩
 refine ⟨comp_ok I2 f2 hCs hfs hkind hcl hhas,rfl,I2.bare,Un.laid old hDs hDn,⟨m,hns,fun i x v e1 e2 e3 => ?_⟩,fun x c e => ?_,?_,fun x c e => ?_,fun p hp => ?_,I2.hok.laid old hDs new,?_⟩
 ·-- a captured name
  have e2':(capSt own caps σ)[i]?=some (some v):=e2
  unfold capSt at e2'
  by_cases hi:i < own.length
  ·rw [Dm (by simpa using hi),Ai] at e2'
   cases q:own[i]? with
   | none=>rw [q] at e2'; cases e2'
   | some y=>rw [q] at e2'; cases e2'
  ·have hle:own.length<=i:=Nz hi
   rw [Dh (by simpa using hle),Ai,A5] at e2'
   have e1':(own ++ caps.map (·.2))[i]?=some x:=e1
   rw [Dh hle,Ai] at e1'
   cases q:caps[i - own.length]? with
   | none=>rw [q] at e2'; cases e2'
   | some p =>
    rw [q] at e2' e1'
    have ex:p.2=x:=C1 e1'
    have ev:(σ[p.1]?).join=some v:=C1 e2'
    obtain ⟨hN,hf,hv⟩:=hcap.get q
    have hσ : σ[p.1]?=some (some v):=by
     cases r : σ[p.1]? with
     | none=>rw [r] at ev; cases ev
     | some y=>rw [r] at ev; rw [show y=some v from ev]
    obtain ⟨mX,_,hl⟩:=I2.loc
    obtain ⟨u,ru,lk⟩:=hl p.1 p.2 v hN hσ (.inr hv)
    subst ex
    refine ⟨u,ru,.inr ⟨zbp hf,?_⟩⟩
    rcases lk with ⟨k,_⟩ | ⟨_,c,e,z⟩
    ·have k':X.env.scope.names.lookup p.2=some .local:=k
     rw [k'] at hv
     rcases hv with z | z <;> cases z
    ·obtain ⟨c',e'⟩:=hhas p.2 (zbp hf)
     have e2:=hcl p.2 c' e'
     rw [e] at e2
     cases e2
     obtain ⟨o,ho,hd⟩:=z
     exact ⟨c,e',o,old c o ho,hd⟩
 ·obtain ⟨v,o,ho,hd⟩:=I2.cell x c (hcl x c e)
  exact ⟨v,o,old c o ho,hd⟩
 ·show upd H2 D (.lst []) C=none
  rw [zah hCD]; exact hCn
 ·obtain ⟨v,q⟩:=I2.cell x c (hcl x c e)
  rw [zah (B7 (Af q.lt hDs))]
  exact I2.freeC x c (hcl x c e)
 ·have hp':p∈X.pn ++ pins:=by
   have hp2:p∈(X.pn ++ pins) ++ []:=hp
   rwa [Bw] at hp2
  obtain ⟨e,n,ne,nf,d⟩:=I2.pin p hp'
  have lt:=Am e
  refine ⟨old p.1 p.2 e,by rw [zah (B7 (Af lt hDs))]; exact n,?_,fun z=>(B6.mp (I2.stkSub p.1 z)).elim ne nf,d⟩
  exact B7 (Gj lt hCs)
 ·show (capSt own caps σ).length=(own ++ caps.map (·.2)).length
  unfold capSt
  simp
theorem comp_back {H2 H':Hp} {s2 s':A4} {fp:List A3} {scope:F6} {N:List Str} {cl:List (Str×A3)} {C:A3} {σ':St} {pn:List (A3×Obj)} (I2:Inv X pins σ H2 s2) (f2:∀ b∈fp,FpOk X pins H2 b)
  (J:Inv (cxComp X scope N cl C s2 H2 fp pn) [] σ' H' s'):Inv X pins σ H' s' :=
 I2.call' (s':=s') (ch:=fp) J.os J.base J.hok J.bare fun b hb=>⟨(f2 b hb).2.2.2.1,(f2 b hb).2.1,(f2 b hb).2.2.2.2.1,(f2 b hb).2.2.2.2.2⟩
theorem Inv.gone {H:Hp} {s:A4} {C:A3} {h':Br} (I:Inv X pins σ H s) (hs:Fb C s.heap h') (hn:H C=none) (h0:X.s₀.heap.objs.size<=C) (hL:C≠X.env.locals) (h2:∀ x c,X.env.cells.lookup x=some c->c≠C) (h3:∀ p∈X.pn ++ pins,p.1≠C) :
  Inv X pins σ H { s with heap:=h' }:=I.turned (t':=s.toks) (fun b o hb e=>(hs.2 b hb).trans e) hn hL (.inr h0) h2 h3
end
theorem free_of_relabel {env:Env} {scope:F6} {x:Str} (hcell:∀ y∈scope.names,y.2 ≠ .cell) (h:(relabel scope env).names.lookup x=some .cell\/(relabel scope env).names.lookup x=some .free):(x,Ck)∈scope.names:=by
 have all:∀ k,(relabel scope env).names.lookup x=some k->(k = .cell\/k = .free)->(x,Ck)∈scope.names:=by
  intro k e hk
  have m:=zc6 e
  obtain ⟨⟨n,j⟩,hm,q⟩:=Ab.mp (show (x,k)∈scope.names.map _ from m)
  dsimp only at q
  by_cases c:(j == Ck && env.scope.kind == .function && env.kindOf n == some .cell)=true
  ·rw [if_pos c] at q
   injection q with q1 q2
   subst q1
   have jf:j = .free:=by
    simp only [Bt] at c
    exact eq_of_beq c.1.1
   rw [<- jf]; exact hm
  ·rw [if_neg c] at q
   injection q with q1 q2
   subst q1 q2
   rcases hk with z | z
   ·exact absurd z (hcell _ hm)
   ·rw [z] at hm; exact hm
 rcases h with h | h
 ·exact all _ h (.inl rfl)
 ·exact all _ h (.inr rfl)
structure Steps (Y:Cx) (tg:Ca) (J:It) (fp:List A3) (it:A3) (tn:Nat->Br->Prop):Prop where
 item:∀ (i:Nat) (pins:List (A3×Obj)) (s:A4) (σ : St) (H:Hp) (E:A1->A4->Prop),Inv Y pins σ H s->(∀ b∈fp,FpOk Y pins H b)->tn i s.heap->J.go i H ->
  wpAny (model Y.prog Y.w) Y.A (pyNext (.ref it)) (fun r s1=>∃ u,r=some u /\
   wpAny (model Y.prog Y.w) Y.A (letOwnedTupleGo tg (.ref it) u) (fun _ s2=>∃ x H',Inv Y pins σ H' s2/\RelV x u/\J.yld i H x H'/\tn (i + 1) s2.heap/\∀ b∈fp,H' b=none) E s1) E s
 done:∀ (i:Nat) (pins:List (A3×Obj)) (s:A4) (σ : St) (H:Hp) (E:A1->A4->Prop),Inv Y pins σ H s->(∀ b∈fp,FpOk Y pins H b)->tn i s.heap->J.stop i H ->
  wpAny (model Y.prog Y.w) Y.A (pyNext (.ref it)) (fun r s1=>r=none/\Inv Y pins σ H s1) E s
structure Trn (P:An) (w:B8) (K:Al) (Z:Cx->Prop) (tg:Ca) (J:It) (fp:List A3) (it:A3) (tn:Nat->Br->Prop):Prop where
 obj:∀ i h,tn i h->∀ b∈fp,∃ o,h.get? b=some o/\∀ v,o.data ≠ .cell v
 keep:∀ i h h',tn i h->(∀ b∈fp,∀ o,h.get? b=some o->h'.get? b=some o)->tn i h'
 steps:∀ Y:Cx,Y.prog=P->Y.w=w->Y.K=K->Z Y->Steps Y tg J fp it tn
 self:∀ (A:B1) (i:Nat) (s:A4) (Q:A1->A4->Prop) (E:A1->A4->Prop),tn i s.heap->Q (.ref it) s->wpAny (model P w) A (pyIter (.ref it)) Q E s
noncomputable def PIEq (Z:Cx->Prop) (X:Cx) (pins:List (A3×Obj)) (σ : St) (tg:Ca) (R:It->Hp->Prop) (itv:A1) (s2:A4):Prop :=
 ∃ (it:A3) (fp:List A3) (tn:Nat->Br->Prop) (J:It) (H':Hp),itv = .ref it/\Inv X pins σ H' s2/\Trn X.prog X.w X.K Z tg J fp it tn/\tn 0 s2.heap/\(∀ b∈fp,FpOk X pins H' b)/\R J H'
noncomputable def PIq (Z:Cx->Prop) (X:Cx) (tg iter:Ca) (wi:TI):Prop :=
 ∀ (pins:List (A3×Obj)) (s:A4) (σ : St) (H:Hp) (R:It->Hp->Prop),Inv X pins σ H s->wi σ H R ->
  wpAny (model X.prog X.w) X.A (eval iter X.env) (fun v s1=>wpAny (model X.prog X.w) X.A (pyIter v) (PIEq Z X pins σ tg R) X.xe s1) X.xe s
theorem PI.q {X:Cx} {tg iter:Ca} {wi:TI} (h:PI X tg iter wi):PIq (fun Y=>Y.calm=true) X tg iter wi:=fun pins s σ H R I q =>
 thn (h pins s σ H R I q) fun v s1 h1=>thn h1 fun itv s2 h2=>by
  obtain ⟨it,fp,tn,J,H',e,I',T,t0,f,r⟩:=h2
  exact ⟨it,fp,tn,J,H',e,I',⟨T.obj,T.keep,fun Y hP hw hK hz=>⟨fun i pins s σ H E=>hP ▸ hw ▸ T.item Y hP hw hK hz i pins s σ H E,fun i pins s σ H E=>hP ▸ hw ▸ T.done Y hP hw hK hz i pins s σ H E⟩,T.self⟩,t0,f,r⟩
section
variable {X:Cx} {elt target iter:Ca} {ifs:List Ca} {scope:F6} {pos:Pos} {own:List Str} {caps:List (Nat×Str)} {wi:TI} {g:TG} {tf:TT} {te:TE}
structure CompScope (X:Cx) (scope:F6) (caps:List (Nat×Str)):Prop where
 kind:scope.kind = .function
 cell:(scope.names.all fun y => !(y.2 == .cell))=true
 names:(scope.names.all fun y => !(y.2 == .local) || scope.names.lookup y.1 == some .local)=true
 free:(scope.names.all fun y => !(y.2 == .free) || (X.env.scope.names.lookup y.1 == some .cell || X.env.scope.names.lookup y.1 == some .free))=true
 caps:CapsOk X scope caps
theorem zdi {use:Option (A1->Sem Unit)} {R:A1->A4->Prop} {pins:List (A3×Obj)} {σ : St} {s:A4} {H:Hp} {Q:VK} (Z:Cx->Prop) (hc:∀ cl C s H fp pins,Z (cxComp X scope (own ++ caps.map (·.2)) cl C s H fp (X.pn ++ pins))) (S:CompScope X scope caps) (hi:PIq Z X target iter wi)
  (hg:∀ cl C s H fp pn,PG (cxComp X scope (own ++ caps.map (·.2)) cl C s H fp pn) target g)
  (ht:∀ cl C s H fp pn,PTs (cxComp X scope (own ++ caps.map (·.2)) cl C s H fp pn) ifs tf)
  (he:∀ cl C s H fp pn,PE (cxComp X scope (own ++ caps.map (·.2)) cl C s H fp pn) elt te)
  (I:Inv X pins σ H s) (h:tComp wi own caps g tf te σ H Q)
  (fin:∀ D C H' s' m,Inv X pins σ H' s'->s'.heap.Ns C m->H' C=none->X.s₀.heap.objs.size<=C->C≠X.env.locals->(∀ x c,X.env.cells.lookup x=some c->c≠C)->(∀ p∈X.pn ++ pins,p.1≠C)->Q (.ref D) H' ->
   compPost (model X.prog X.w) X.A X.xe use R (.ref D) C (.ok .next) s')
  (hs:∀ x,foldedSetIterable iter X.env x=pure x) :
  wpAny (model X.prog X.w) X.A (comprehension (.ListComp elt [⟨target,iter,ifs,0⟩] scope pos) scope X.env (firstIterPos [⟨target,iter,ifs,0⟩] pos) (newList []) false (eval iter X.env) use) R X.xe s:=by
 have hcell:∀ y∈scope.names,y.2 ≠ .cell:=fun y hy z=>by
  have:=Cs.mp S.cell y hy
  rw [z] at this; cases this
 have hnames:∀ y∈scope.names,y.2 = .local->scope.names.lookup y.1=some .local:=fun y hy z=>by
  have:=Cs.mp S.names y hy
  rw [z] at this
  simpa using this
 have hfree:∀ y∈scope.names,y.2 = .free->X.env.scope.names.lookup y.1=some .cell\/X.env.scope.names.lookup y.1=some .free:=fun y hy z=>by
  have:=Cs.mp S.free y hy
  rw [z] at this
  simpa using this
 obtain ⟨cl,hclos,hcl0,hcl1⟩:=closure_ok (env:=X.env) (scope:=scope) fun y hy z=>I.ok.has y.1 (hfree y hy z)
 have hcl:∀ x c,cl.lookup x=some c->X.env.cells.lookup x=some c:=fun x c e=>(hcl0 x c (zc6 e)).2
 have hhas:∀ x,((relabel scope X.env).names.lookup x=some .cell\/(relabel scope X.env).names.lookup x=some .free)->∃ c,cl.lookup x=some c:=fun x hx=>by
  obtain ⟨c,hm⟩:=hcl1 x (free_of_relabel hcell hx)
  exact zeq hm
 refine wpAny_comprehension_free (g:=⟨target,iter,ifs,0⟩) (gs := []) rfl hs hclos S.kind hnames (thn (hi pins s σ H _ I h) fun v s1 h1=>thn h1 fun itv s2 h2 => ?_)
 obtain ⟨it,fp,tn,J,H2,e,I2,T,st2,f2,cont⟩:=h2
 subst e
 obtain ⟨W,⟨m0,w0⟩,turn⟩:=cont s2.heap.objs.size (I2.hok.fresh (Ad _))
 refine Eh (wpAny_newFunctionEnv hcell (by intro y hy; simp at hy) (fun h₁ hns₁ hsb₁ => ?_) S.kind)
 dsimp only at hns₁ hsb₁ ⊢
 generalize hH2:s2.heap.push { cls := .type "list",dict:=none,data := .seq ([]:List A1).toArray }=HL at hns₁ hsb₁ ⊢
 have hC:HL.objs.size=s2.heap.objs.size + 1:=by rw [<- hH2,Ej]
 have hfs:∀ b∈fp,b < s2.heap.objs.size:=fun b hb=>let ⟨_,e,_⟩:=T.obj 0 _ st2 b hb; Am e
 have old:∀ b o,s2.heap.get? b=some o->h₁.get? b=some o:=fun b o e =>
  hsb₁.extBut b o (by rw [hC]; exact B7 (F0 (Am e))) (A7 _ (hH2 ▸ A7 _ e))
 have hlst:∃ n,h₁.get? s2.heap.objs.size=some { cls := .type "list",data := .seq #[] n }:=⟨_,hsb₁.extBut _ _ (by rw [hC]; exact B7 (El _)) (A7 _ (hH2 ▸ Ay _ rfl))⟩
 have I4:Inv (cxComp X scope (own ++ caps.map (·.2)) cl HL.objs.size s2 H2 fp (X.pn ++ pins)) [] (capSt own caps σ) (upd H2 s2.heap.objs.size (.lst [])) { s2 with heap:=h₁,toks:=s2.toks + ([]:List (Str×A1)).length } :=
  comp_start I2 f2 hC rfl hfs S.kind hcl hhas S.caps hns₁ old hlst
 have st4:tn 0 h₁ := T.keep 0 _ _ st2 fun b hb o e=>old b o e
 have fr4:∀ b∈fp,upd H2 s2.heap.objs.size (.lst []) b=none:=fun b hb=>by
  rw [zah (B7 (hfs b hb))]; exact (f2 b hb).1
 have hCs:s2.heap.objs.size < HL.objs.size:=by rw [hC]; exact El _
 have loop:codeAny (model X.prog X.w) X.A (.compLoop (.ListComp elt [⟨target,iter,ifs,0⟩] scope pos) 0 (.ref it) (.ref s2.heap.objs.size) (compEnvC scope cl HL.objs.size X.env))
   (compPost (model X.prog X.w) X.A X.xe use R (.ref s2.heap.objs.size) HL.objs.size) { s2 with heap:=h₁,toks:=s2.toks + ([]:List (Str×A1)).length }:=by
  refine comp_loop (fun n s'=>∃ i σ' H',Inv (cxComp X scope (own ++ caps.map (·.2)) cl HL.objs.size s2 H2 fp (X.pn ++ pins)) [] σ' H' s'/\tn i s'.heap/\(∀ b∈fp,H' b=none)/\W i n σ' H') ?_ m0 ⟨0,_,_,I4,st4,fr4,w0⟩
  have U:=T.steps (cxComp X scope (own ++ caps.map (·.2)) cl HL.objs.size s2 H2 fp (X.pn ++ pins)) rfl rfl rfl (hc _ _ _ _ _ _)
  rintro n s3 ⟨i,σ3,H3,I3,st3,fr3,w3⟩
  have stat:∀ {H':Hp},(∀ b∈fp,H' b=none)->∀ b∈fp,FpOk (cxComp X scope (own ++ caps.map (·.2)) cl HL.objs.size s2 H2 fp (X.pn ++ pins)) [] H' b:=fun {H'} hn b hb=>by
   refine ⟨hn b hb,(I3.ok.exf b hb).1,I3.ok.exfs b hb,.inl hb,(I3.ok.exf b hb).2,fun p hp => ?_⟩
   have hp':p∈X.pn ++ pins:=by
    have hp2:p∈(X.pn ++ pins) ++ []:=hp
    rwa [Bw] at hp2
   exact (f2 b hb).2.2.2.2.2 p hp'
  rcases turn i n σ3 H3 w3 with ⟨stop,qn⟩ | ⟨go,step⟩
  ·refine thn (U.done i [] s3 σ3 H3 _ I3 (stat fr3) st3 stop) fun r s4 ⟨hr,I4⟩ => ?_
   subst hr
   obtain ⟨m,hm,_⟩:=I4.loc
   refine fin s2.heap.objs.size HL.objs.size H3 s4 m (comp_back I2 f2 I4) hm I4.free (C0 I2.sz (Fw hCs)) (K9 (Gj I2.lt hCs)) (fun x c e z => ?_) (fun p hp z => ?_) qn
   ·obtain ⟨v,q⟩:=I2.cell x c e
    exact absurd (Gj q.lt hCs) (by rw [z]; exact Dq _)
   ·exact absurd (Gj (Am (I2.pin p hp).1) hCs) (by rw [z]; exact Dq _)
  ·refine thn (U.item i [] s3 σ3 H3 _ I3 (stat fr3) st3 go) fun r s4 ⟨u,hr,h4⟩ => ?_
   subst hr
   refine thn h4 fun _ s5 ⟨x,H5,I5,r5,y5,st5,fr5⟩ => ?_
   have I5':=I5.pinned (stat fr5) (T.obj _ _ st5)
   refine thn (hg cl HL.objs.size s2 H2 fp (X.pn ++ pins) _ s5 σ3 H5 x u _ I5' r5 (step x H5 y5)) fun _ s6 ⟨σ6,H6,I6,q6⟩ => ?_
   refine thn (ht cl HL.objs.size s2 H2 fp (X.pn ++ pins) _ s6 σ6 H6 _ I6 q6) fun b s7 ⟨H7,I7,q7⟩ => ?_
   have again:∀ {σ8:St} {H8:Hp} {s8:A4} {m':Nat},Inv (cxComp X scope (own ++ caps.map (·.2)) cl HL.objs.size s2 H2 fp (X.pn ++ pins)) ([] ++ pinsAt fp s5.heap) σ8 H8 s8->m' < n->W (i + 1) m' σ8 H8 ->
     ∃ m,m < n/\∃ i σ' H',Inv (cxComp X scope (own ++ caps.map (·.2)) cl HL.objs.size s2 H2 fp (X.pn ++ pins)) [] σ' H' s8/\tn i s8.heap/\(∀ b∈fp,H' b=none)/\W i m σ' H':=fun {σ8 H8 s8 m'} I8 hm w8=>by
    refine ⟨m',hm,i + 1,σ8,H8,I8.unpinned,T.keep _ _ _ st5 fun b hb o e=>(I8.pin (b,o) (Bj _ (Bj _ (zb0 hb e)))).1,fun b hb => ?_,w8⟩
    obtain ⟨o,e,d⟩:=T.obj _ _ st5 b hb
    exact (I8.pin (b,o) (Bj _ (Bj _ (zb0 hb e)))).2.1
   cases b with
   | false =>
    rw [if_neg A9] at q7 ⊢
    obtain ⟨m',hm,w7⟩:=q7
    exact again I7 hm w7
   | true =>
    rw [if_pos rfl] at q7 ⊢
    refine thn (he cl HL.objs.size s2 H2 fp (X.pn ++ pins) _ s7 σ6 H7 _ I7 q7) fun y s8 ⟨v,H8,I8,r8,ys,hy,hz,m',hm,w8⟩ => ?_
    refine thn (zaV _ s8 σ6 H8 (.ref s2.heap.objs.size) [v] (.ref s2.heap.objs.size) [y] (fun _ H9=>H9=upd H8 s2.heap.objs.size (.lst (ys ++ [v]))) I8 rfl (.cons r8 .nil) ⟨_,ys,v,rfl,rfl,hy,hz,rfl⟩) fun z s9 ⟨_,H9,I9,_,e9⟩ => ?_
    subst e9
    exact again I9 hm w8
 exact codeAny_compStart_list loop (T.self _ 0 _ _ _ st4 loop)
theorem za6 (hc:X.calm=true) (S:CompScope X scope caps) (hi:PI X target iter wi)
  (hg:∀ cl C s H fp pn,PG (cxComp X scope (own ++ caps.map (·.2)) cl C s H fp pn) target g)
  (ht:∀ cl C s H fp pn,PTs (cxComp X scope (own ++ caps.map (·.2)) cl C s H fp pn) ifs tf)
  (he:∀ cl C s H fp pn,PE (cxComp X scope (own ++ caps.map (·.2)) cl C s H fp pn) elt te)
  (hs:∀ x,foldedSetIterable iter X.env x=pure x:=by intro _; rfl):PE X (.ListComp elt [⟨target,iter,ifs,0⟩] scope pos) (tComp wi own caps g tf te):=by
 intro pins s σ H Q I h
 rw [Qv]
 refine zdi (Q:=Q) (fun Y=>Y.calm=true) (fun _ _ _ _ _ _=>hc) S hi.q hg ht he I h (fun D C H' s' m I' hm hn h0 hL h2 h3 q => ?_) hs
 exact ⟨m,hm,fun h' hs'=>⟨.ref D,H',I'.gone hs' hn h0 hL h2 h3,rfl,q⟩⟩
theorem pe_compq (Z:Cx->Prop) (hc:∀ cl C s H fp pins,Z (cxComp X scope (own ++ caps.map (·.2)) cl C s H fp (X.pn ++ pins))) (S:CompScope X scope caps) (hi:PIq Z X target iter wi)
  (hg:∀ cl C s H fp pn,PG (cxComp X scope (own ++ caps.map (·.2)) cl C s H fp pn) target g)
  (ht:∀ cl C s H fp pn,PTs (cxComp X scope (own ++ caps.map (·.2)) cl C s H fp pn) ifs tf)
  (he:∀ cl C s H fp pn,PE (cxComp X scope (own ++ caps.map (·.2)) cl C s H fp pn) elt te)
  (hs:∀ x,foldedSetIterable iter X.env x=pure x:=by intro _; rfl):PE X (.ListComp elt [⟨target,iter,ifs,0⟩] scope pos) (tComp wi own caps g tf te):=by
 intro pins s σ H Q I h
 rw [Qv]
 refine zdi (Q:=Q) Z hc S hi hg ht he I h (fun D C H' s' m I' hm hn h0 hL h2 h3 q => ?_) hs
 exact ⟨m,hm,fun h' hs'=>⟨.ref D,H',I'.gone hs' hn h0 hL h2 h3,rfl,q⟩⟩
theorem ps_setC {i:Nat} {x:Str} {pos' spos:Pos} (hN:X.N.Nodup) (hn:X.N[i]?=some x) (hx:Loc X.env.scope x) (hc:X.calm=true) (S:CompScope X scope caps) (hi:PI X target iter wi)
  (hg:∀ cl C s H fp pn,PG (cxComp X scope (own ++ caps.map (·.2)) cl C s H fp pn) target g)
  (ht:∀ cl C s H fp pn,PTs (cxComp X scope (own ++ caps.map (·.2)) cl C s H fp pn) ifs tf)
  (he:∀ cl C s H fp pn,PE (cxComp X scope (own ++ caps.map (·.2)) cl C s H fp pn) elt te)
  (hsw:swapsWith (.ListComp elt [⟨target,iter,ifs,0⟩] scope pos) (some (.Name x pos')) spos.line X.env=pure true:=by rfl)
  (hf:X.fn x=true\/X.env.scope.names.lookup x=some .local:=by first | exact .inl rfl | exact .inr rfl | assumption)
  (hs:∀ x,foldedSetIterable iter X.env x=pure x:=by intro _; rfl):PS X (.Assign [.Name x pos'] (.ListComp elt [⟨target,iter,ifs,0⟩] scope pos) spos) (tAsg (tComp wi own caps g tf te) (gName i)):=by
 intro pins s σ H D I h
 rw [exec_Assign_Name_used _ _ _ _ hsw]
 refine A2 (Kc (A2 ?_))
 show wpAny _ _ (do let _ <- comprehension (.ListComp elt [⟨target,iter,ifs,0⟩] scope pos) scope X.env _ (newList []) false (eval iter X.env) (some (assign (.Name x pos') X.env))) _ _ s
 refine A2 (D9 (zdi (use:=some (assign (.Name x pos') X.env)) (R:=fun _ s'=>SP X pins D .next s') (Q:=fun v H1=>gName i v σ H1 D.nx) (fun Y=>Y.calm=true) (fun _ _ _ _ _ _=>hc) S hi.q hg ht he I h (fun Dl C H' s' m I' hm hnC h0 hL h2 h3 q => ?_) hs)
  (fun _ s' hq=>Ae (Ae hq)) fun _ _ e=>e)
 show wpAny _ _ (assign (.Name x pos') X.env (.ref Dl)) _ _ s'
 refine Oo (zea I' hN hn hx (show RelV (.ref Dl) (.ref Dl) from rfl) (fun s'' I'' sb => ?_) hf)
 obtain ⟨a,hsb,ha⟩:=sb
 have hCa:C≠a:=by
  rcases ha with z | z
  ·rw [z]; exact hL
  ·exact Dy (h2 x a z)
 exact ⟨m,hm.sameBut hsb hCa,fun h' hs'=>⟨_,H',I''.gone hs' hnC h0 hL h2 h3,q⟩⟩
end
noncomputable def sgn (c:Nat):V := .str ⟨#[c]⟩
noncomputable def Its (x:Str):It:=⟨fun i _=>i < x.cps.size,fun i H v H'=>H'=H/\∃ c,x.cps[i]?=some c/\v=sgn c,fun i _=>i=x.cps.size⟩
theorem zfb {P:An} {w:B8} {K:Al} {tg:Ca} (it:A3) (x:Str) (t:Tok) (ty:String)
  (hty : ["enumerate","zip","dict_itemiterator","dict_reverseitemiterator","odict_iterator","itertools.zip_longest","itertools.pairwise"].contains ty=false)
  (W:∀ A:B1,A.handled=none->Walks P w A it [it] [it] x.cps.size (SignAt x) (fun i h=>h.IsStrIter it ty x t i))
  (sf:∀ (A:B1) (i:Nat) (s:A4) (Q:A1->A4->Prop) (E:A1->A4->Prop),s.heap.IsStrIter it ty x t i->Q (.ref it) s->wpAny (model P w) A (pyIter (.ref it)) Q E s) :
  Turn P w K tg (Its x) [it] it (fun i h=>h.IsStrIter it ty x t i) where
 mem:=by simp
 obj:=fun i h st b hb=>by
  have e:b=it:=by simpa using hb
  subst e
  obtain ⟨o,e,c,d⟩:=st
  exact ⟨o,e,fun v z=>by rw [d] at z; cases z⟩
 keep:=fun i h h' st k=>by
  obtain ⟨o,e,r⟩:=st
  exact ⟨o,k it (by simp) o e,r⟩
 item:=by
  intro X hP hw hK hc i pins s σ H E I hf st hg
  subst hP hw hK
  obtain ⟨f0,f1,f2,f3,f4,f5⟩:=hf it (by simp)
  refine (W X.A (I.ok.hd hc)).item i s _ _ hg st fun v h' tk hv st' kk => ?_
  obtain ⟨c,u,hc',rfl⟩:=hv
  have I1:Inv X pins σ H { s with heap:=h',toks:=tk }:=I.turned (fun b o hb e=>kk b o (by simpa using hb) e) f0 f1 f3 f4 f5
  obtain ⟨o,e,cc,d⟩:=id st'
  exact ⟨_,rfl,zfM (s:={ s with heap:=h',toks:=tk }) e cc d hty ⟨sgn c,H,I1,⟨u,rfl⟩,⟨rfl,c,hc',rfl⟩,st',fun b hb=>(hf b hb).1⟩⟩
 done:=by
  intro X hP hw hK hc i pins s σ H E I hf st hg
  subst hP hw hK
  obtain ⟨f0,f1,f2,f3,f4,f5⟩:=hf it (by simp)
  have hi:i=x.cps.size:=hg
  subst hi
  exact (W X.A (I.ok.hd hc)).done s _ _ st fun h' tk kk=>⟨rfl,I.turned (fun b o hb e=>kk b o (by simpa using hb) e) f0 f1 f3 f4 f5⟩
 self:=fun A i s Q E st h=>sf A i s Q E st h
section
variable {X:Cx} {tg:Ca}
noncomputable def iStr (tl:TE):TI:=fun σ H R=>tl σ H fun v H1=>∃ x,v = .str x/\R (Its x) H1
theorem zgT {l:Ca} {tl:TE} (hl:PE X l tl):PI X tg l (iStr tl):=by
 intro pins s σ H R I h
 refine thn (hl pins s σ H _ I h) fun v s1 ⟨y,H1,I1,r1,q1⟩ => ?_
 obtain ⟨x,e,q⟩:=q1
 subst e
 obtain ⟨t,rfl⟩:=r1
 have hf:∀ o:Obj,∀ b ∈ [s1.heap.objs.size],FpOk X pins H1 b:=fun o b hb=>by
  have e:b=s1.heap.objs.size:=by simpa using hb
  subst e
  exact I1.fpOk (Ad _) (I1.hok.fresh (Ad _))
 cases ha:x.cps.all (· < 128)
 ·exact wpAny_pyIter_wide ha ⟨s1.heap.objs.size,[s1.heap.objs.size],_,_,H1,rfl,I1.kept (t':=s1.toks) fun b o e=>A7 _ e,
   zfb _ x t "str_iterator" (by decide) (fun A hA=>Walks.strWide hA _ x t) (fun A i s Q E st h=>wpAny_pyIter_striter_wide st h),⟨_,Ay _ rfl,rfl,rfl⟩,hf default,q⟩
 ·exact wpAny_pyIter_ascii ha ⟨s1.heap.objs.size,[s1.heap.objs.size],_,_,H1,rfl,I1.kept (t':=s1.toks) fun b o e=>A7 _ e,
   zfb _ x t "str_ascii_iterator" (by decide) (fun A hA=>Walks.strAscii hA _ x t) (fun A i s Q E st h=>wpAny_pyIter_striter_ascii st h),⟨_,Ay _ rfl,rfl,rfl⟩,hf default,q⟩
end
structure Gives (J:It) (Ok:Hp->Prop) (L:List V):Prop where
 go:∀ i H,Ok H->i < L.length->J.go i H
 yld:∀ i H x H',Ok H->J.yld i H x H'->i < L.length->H'=H/\L[i]?=some x
 stop:∀ H,Ok H->J.stop L.length H
theorem zaX (lo:Int) (n:Nat):Gives (Itr lo n) (fun _=>True) ((Ac n).map fun i=>V.int (lo + (i:Nat))) where
 go:=fun i H _ h=>by
  have:i < n:=by simpa using h
  exact this
 yld:=fun i H x H' _ y h=>by
  obtain ⟨e,rfl⟩:=y
  have:i < n:=by simpa using h
  exact ⟨e,by simp [this]⟩
 stop:=fun H _=>by
  show n<=_
  simp
theorem zeB (x:Str):Gives (Its x) (fun _=>True) (x.cps.toList.map sgn) where
 go:=fun i H _ h=>by
  have:i < x.cps.size:=by simpa using h
  exact this
 yld:=fun i H v H' _ y h=>by
  obtain ⟨e,c,hc,rfl⟩:=y
  refine ⟨e,?_⟩
  rw [Ai]
  simp [hc]
 stop:=fun H _=>by
  show _=x.cps.size
  simp
theorem zar (K:Al) (a:A3) (xs:List V):Gives (Itl K a) (fun H=>SqL K H a xs) xs where
 go:=fun i H q h=>⟨xs,xs[i],q,by simp [h]⟩
 yld:=fun i H v H' q y h=>⟨y.1,y.2 xs q⟩
 stop:=fun H q=>⟨xs,q,Ad _⟩
theorem gives_tup (K:Al) (a:A3) (xs:List V):Gives (Itt K a) (fun H=>SqT K H a xs) xs where
 go:=fun i H q h=>⟨xs,xs[i],q,by simp [h]⟩
 yld:=fun i H v H' q y h=>⟨y.1,y.2 xs q⟩
 stop:=fun H q=>⟨xs,q,Ad _⟩
theorem zb7 {J:It} {Ok:Hp->Prop} {L:List V} {g:TG} {tb:TS} {D:Ends} {σ : St} {H:Hp} (G:Gives J Ok L) (Pv:Nat->St->Hp->Prop) (h0:Pv 0 σ H) (hk:∀ i σ H,i<=L.length->Pv i σ H->Ok H)
  (hs:∀ i x σ H,L[i]?=some x->Pv i σ H->g x σ H fun σ2 H2=>tb { D with nx:=Pv (i + 1),ct:=Pv (i + 1),bk:=D.nx } σ2 H2) (hd:∀ σ H,Pv L.length σ H->D.nx σ H) :
  ∃ W:Nat->Nat->St->Hp->Prop,(∃ m,W 0 m σ H)/\∀ i m σ H,W i m σ H ->
   (J.stop i H/\D.nx σ H)\/(J.go i H/\∃ N:St->Hp->Prop,(∀ σ' H',N σ' H'->∃ m',m' < m/\W (i + 1) m' σ' H')/\∀ x H',J.yld i H x H'->g x σ H' fun σ2 H2=>tb { D with nx:=N,ct:=N,bk:=D.nx } σ2 H2):=by
 refine ⟨fun i m σ H=>m=L.length - i/\i<=L.length/\Pv i σ H,⟨L.length,by simp,C6 _,h0⟩,?_⟩
 rintro i m σ H ⟨rfl,hi,p⟩
 have q:=hk i σ H hi p
 by_cases hlt:i < L.length
 ·refine .inr ⟨G.go i H q hlt,Pv (i + 1),fun σ' H' p'=>⟨L.length - (i + 1),by omega,rfl,hlt,p'⟩,fun x H' y => ?_⟩
  obtain ⟨e,yy⟩:=G.yld i H x H' q y hlt
  subst e
  exact hs i x σ _ yy p
 ·have e:i=L.length:=by omega
  subst e
  exact .inl ⟨G.stop H q,hd σ H p⟩
noncomputable def CNext (D:A3) (L:List V) (Pv:Nat->List V->St->Hp->Prop) (i:Nat) (σ2:St) (v:V) (H5:Hp):Prop :=
 ∃ ys,H5 D=some (.lst ys)/\ys.length < sizeLine/\∃ m',m' < L.length - i/\(m'=L.length - (i + 1)/\i + 1<=L.length/\∃ xs,Pv (i + 1) xs σ2 (upd H5 D (.lst (ys ++ [v]))))
noncomputable def CSkip (L:List V) (Pv:Nat->List V->St->Hp->Prop) (i:Nat) (σ2:St) (H4:Hp):Prop :=
 ∃ m',m' < L.length - i/\(m'=L.length - (i + 1)/\i + 1<=L.length/\∃ xs,Pv (i + 1) xs σ2 H4)
theorem CNext.of {D:A3} {L:List V} {Pv:Nat->List V->St->Hp->Prop} {i:Nat} {σ2:St} {v:V} {H5:Hp} {xs:List V} (hi:i < L.length) (hL:L.length<=sizeLine) (h5:H5 D=some (.lst xs)) (hx:xs.length<=i) (p:Pv (i + 1) (xs ++ [v]) σ2 (upd H5 D (.lst (xs ++ [v])))):CNext D L Pv i σ2 v H5 :=
 ⟨xs,h5,by omega,L.length - (i + 1),by omega,rfl,hi,_,p⟩
theorem CSkip.of {L:List V} {Pv:Nat->List V->St->Hp->Prop} {i:Nat} {σ2:St} {H4:Hp} {xs:List V} (hi:i < L.length) (p:Pv (i + 1) xs σ2 H4):CSkip L Pv i σ2 H4:=⟨L.length - (i + 1),by omega,rfl,hi,_,p⟩
theorem zgH {J:It} {Ok:Hp->Prop} {L:List V} {g:TG} {tf:TT} {te:TE} {D:A3} {σ0:St} {H1:Hp} {Q:VK} (G:Gives J Ok L) (Pv:Nat->List V->St->Hp->Prop) (h0:Pv 0 [] σ0 (upd H1 D (.lst [])))
  (hk:∀ i xs σ H,i<=L.length->Pv i xs σ H->Ok H)
  (hs:∀ i x xs σ H,i < L.length->L[i]?=some x->Pv i xs σ H->g x σ H fun σ2 H3=>tf σ2 H3 fun b H4=>if b=true then te σ2 H4 fun v H5=>CNext D L Pv i σ2 v H5 else CSkip L Pv i σ2 H4)
  (hd:∀ xs σ H,Pv L.length xs σ H->Q (.ref D) H) :
  CompW J D σ0 H1 g tf te Q:=by
 refine ⟨fun i m σ H=>m=L.length - i/\i<=L.length/\∃ xs,Pv i xs σ H,⟨L.length,by simp,C6 _,[],h0⟩,?_⟩
 rintro i m σ H ⟨rfl,hi,xs,p⟩
 have q:=hk i xs σ H hi p
 by_cases hlt:i < L.length
 ·refine .inr ⟨G.go i H q hlt,fun x H' y => ?_⟩
  obtain ⟨e,yy⟩:=G.yld i H x H' q y hlt
  subst e
  exact hs i x xs σ _ hlt yy p
 ·have e:i=L.length:=by omega
  subst e
  exact .inl ⟨G.stop H q,hd xs σ H p⟩
theorem Same.put {H0 H:Hp} {p:A3} {o:HO} (s:Same H0 H) (n:H0 p=none):Same H0 (upd H p o):=fun b u e=>by
 rw [zah (zal e n)]
 exact s b u e
theorem Same.new {H:Hp} {p:A3} {o:HO} (n:H p=none):Same H (upd H p o):=(Same.refl H).put n
theorem Same.tup {K:Al} {H H':Hp} {a:A3} {xs:List V} (e:Same H H') (h:SqT K H a xs):SqT K H' a xs:=by
 rcases h with (h | ⟨o,h⟩) | h
 ·exact .inl (.inl (e _ _ h))
 ·exact .inl (.inr ⟨o,e _ _ h⟩)
 ·exact .inr h
theorem zaG {α : Type} {l:List α} {i:Nat} {x : α} (h:l[i]?=some x):l.take (i + 1)=l.take i ++ [x]:=by
 rw [List.take_add_one,h]
 rfl
theorem zbW {J:It} {Ok:Hp->Prop} {L:List V} {tf:TT} {te:TE} {D:A3} {σ0 capv:St} {H1:Hp} {Q:VK} (hσ : σ0=none :: capv) (G:Gives J Ok L) (hL:L.length<=sizeLine) (hD:H1 D=none) (hOk:∀ H,Same H1 H->Ok H) (p:V->Bool) (F:V->V)
  (ht:∀ x∈L,∀ H R,Same H1 H->(∀ H',Same H H'->R (p x) H')->tf (some x :: capv) H R)
  (he:∀ x∈L,p x=true->∀ H R,Same H1 H->(∀ H',Same H H'->R (F x) H')->te (some x :: capv) H R)
  (hd:∀ H,Same H1 H->H D=some (.lst ((L.filter p).map F))->Q (.ref D) H) :
  CompW J D σ0 H1 (gName 0) tf te Q:=by
 subst hσ
 refine zgH G (fun i xs σ H=>(∃ o,σ = o :: capv)/\Same H1 H/\H D=some (.lst xs)/\xs=((L.take i).filter p).map F) ⟨⟨none,rfl⟩,Same.new hD,zac,by simp⟩ (fun i xs σ H _ h=>hOk H h.2.1) ?_ ?_
 ·rintro i x xs σ H hi hx ⟨⟨o,rfl⟩,s,e,exs⟩
  have hm:x∈L:=Bh hx
  have hxl:xs.length<=i:=by
   rw [exs,A5]
   exact C0 (Cm _ _) (by rw [D0]; omega)
  show tf (some x :: capv) H _
  refine ht x hm H _ s fun H' s' => ?_
  cases hp:p x with
  | true =>
   rw [if_pos rfl]
   refine he x hm hp H' _ (s.trans s') fun H'' s'' => ?_
   have e'':H'' D=some (.lst xs):=s'' _ _ (s' _ _ e)
   refine CNext.of hi hL e'' hxl ⟨⟨some x,rfl⟩,((s.trans s').trans s'').put hD,zac,?_⟩
   rw [zaG hx,Cz,Bi,exs]
   simp [hp]
  | false =>
   rw [if_neg A9]
   refine CSkip.of hi ⟨⟨some x,rfl⟩,s.trans s',s' _ _ e,?_⟩
   rw [zaG hx,Cz,Bi,exs]
   simp [hp]
 ·rintro xs σ H ⟨_,s,e,exs⟩
  refine hd H s ?_
  rw [e,exs,Ci]
theorem zck {P:An} {w:B8} {A:B1} {E:A1->A4->Prop} {s:A4} {a:A3} {its:List A1} {Q:A1->A4->Prop} (hh:A.handled=none) (hl:s.heap.IsList a its.toArray)
  (h:∀ (I:A3) (s2:A4),s2={ s with heap:=s.heap.push { cls := .type "list_iterator",data := .fields #[.ref a,.int 0 0] } }->I=s.heap.objs.size ->
   Walks P w A I [I,a] [I] its.length (fun i v=>its[i]?=some v) (fun i h=>h.IsListIter I a i/\h.IsList a its.toArray)->(s2.heap.IsListIter I a 0/\s2.heap.IsList a its.toArray)->(∀ b ∈ [I,a],b < s2.heap.objs.size) ->
   (∀ h':Br,(∀ b o,b ∉ [I]->s2.heap.get? b=some o->h'.get? b=some o)->∀ b o,s.heap.get? b=some o->h'.get? b=some o)->Q (.ref I) s2) :
  wpAny (model P w) A (pyIter (.ref a)) Q E s:=by
 have hlt:a < s.heap.objs.size:=by obtain ⟨_,e,_⟩:=hl; exact Am e
 refine On hl (h _ _ rfl rfl ?_ ⟨⟨_,Ay _ rfl,rfl,rfl⟩,hl.push _⟩ (fun b hb => ?_) (fun h' k b o e=>k b o ?_ (A7 _ e)))
 ·have W:=Walks.list (prog:=P) (w:=w) (A:=A) hh s.heap.objs.size a (B7 hlt) its.toArray
  simpa using W
 ·show b < (s.heap.push _).objs.size
  rw [Ej]
  rcases B6.mp hb with rfl | hb
  ·exact El _
  ·have e:b=a:=by simpa using hb
   subst e
   exact F0 hlt
 ·intro z
  have e2:b=s.heap.objs.size:=by simpa using z
  subst e2
  exact absurd (Am e) (Dq _)
theorem ze9 {xs:List V} {us:List A1} (r:Vals xs us) {i:Nat} {u:A1} (h:us[i]?=some u):∃ x,xs[i]?=some x/\RelV x u:=by
 have hi:i < xs.length:=by rw [r.length]; exact (Av.mp h).1
 obtain ⟨u',hu,ru⟩:=r.get (x:=xs[i]) (i:=i) (by simp [hi])
 rw [h] at hu
 cases hu
 exact ⟨_,by simp [hi],ru⟩
theorem range_all_map (bs:List Bool):(Ac bs.length).all (fun i=>bs.getD i false)=bs.all id:=by
 rw [Bd,Cs,Cs]
 constructor
 ·intro h x hx
  obtain ⟨i,hi,e⟩:=J0.mp hx
  have:=h i (B9.mpr hi)
  simp only [Aj,hi,getElem?_pos,Hf,e] at this
  exact this
 ·intro h i hi
  have hi':=B9.mp hi
  simp only [Aj,hi',getElem?_pos,Hf]
  exact h _ (Cr hi')
theorem range_any_map (bs:List Bool):(Ac bs.length).any (fun i=>bs.getD i false)=bs.any id:=by
 rw [Bd,Bs,Bs]
 constructor
 ·rintro ⟨i,hi,h⟩
  have hi':=B9.mp hi
  simp only [Aj,hi',getElem?_pos,Hf] at h
  exact ⟨_,Cr hi',h⟩
 ·rintro ⟨x,hx,h⟩
  obtain ⟨i,hi,e⟩:=J0.mp hx
  refine ⟨i,B9.mpr hi,?_⟩
  simp only [Aj,hi,getElem?_pos,Hf,e]
  exact h
section
variable {X:Cx}
theorem zfc {P:An} {w:B8} {A:B1} {bs:List Bool} {its:List A1} (r:Vals (bs.map V.bl) its):TruthOf P w A (fun i v=>its[i]?=some v) (fun i=>bs.getD i false):=by
 intro i v s Q E hv q
 obtain ⟨x,hx,rx⟩:=ze9 r hv
 rw [Ai] at hx
 cases e:bs[i]? with
 | none=>rw [e] at hx; cases hx
 | some b =>
  rw [e] at hx
  cases hx
  cases (show v=Hs b from rx)
  refine Cy ?_
  have eb:bs.getD i false=b:=by rw [Aj,e]; rfl
  rw [<- eb]
  exact q
theorem zd5 (hc:X.calm=true):CallR X (.builtin "all") (fun xs H Q=>∃ (a:A3) (bs:List Bool),xs = [V.ref a]/\SqL X.K H a (bs.map V.bl)/\Q (.bl (bs.all id)) H):=by
 intro pins s σ H xs us Q I r h
 obtain ⟨a,bs,rfl,hq,q⟩:=h
 obtain ⟨u,rfl,ru⟩:=zb5 r
 cases ru
 obtain ⟨its,rv,p,hz⟩:=I.list hq
 refine call_all_walk (zck (A:=X.A.in1) (I.ok.hd hc) p.isList fun It s2 e2 eI W st hf old => ?_)
 have hl:bs.length=its.length:=by have:=rv.length; rwa [A5] at this
 refine ⟨It,_,_,its.length,_,_,_,rfl,W,st,zfc rv,fun h' tk k => ?_⟩
 subst e2
 rw [<- hl,range_all_map]
 exact ⟨.bl _,H,I.kept (t':=tk) (old h' k),rfl,q⟩
theorem call_any (hc:X.calm=true):CallR X (.builtin "any") (fun xs H Q=>∃ (a:A3) (bs:List Bool),xs = [V.ref a]/\SqL X.K H a (bs.map V.bl)/\Q (.bl (bs.any id)) H):=by
 intro pins s σ H xs us Q I r h
 obtain ⟨a,bs,rfl,hq,q⟩:=h
 obtain ⟨u,rfl,ru⟩:=zb5 r
 cases ru
 obtain ⟨its,rv,p,hz⟩:=I.list hq
 refine call_any_walk (zck (A:=X.A.in1) (I.ok.hd hc) p.isList fun It s2 e2 eI W st hf old => ?_)
 have hl:bs.length=its.length:=by have:=rv.length; rwa [A5] at this
 refine ⟨It,_,_,its.length,_,_,_,rfl,W,st,zfc rv,fun h' tk k => ?_⟩
 subst e2
 rw [<- hl,range_any_map]
 exact ⟨.bl _,H,I.kept (t':=tk) (old h' k),rfl,q⟩
theorem zcO:∀ {ns:List Int} {its:List A1},Vals (ns.map V.int) its->Ee its ns
 | [],_,r=>by rw [Gh] at r; cases r; exact .nil
 | n :: ns,_,r=>by
  rw [Aq] at r
  cases r with
  | cons h t =>
   obtain ⟨tk,e⟩:=(show ∃ t,_=Hj n t from h)
   subst e
   exact .cons n tk (zcO t)
theorem zdZ {ns:List Int} {its:List A1} (r:Vals (ns.map V.int) its) {i:Nat} {v:A1} (h:its[i]?=some v):∃ t,v = .int (ns.getD i 0) t:=by
 obtain ⟨x,hx,rx⟩:=ze9 r h
 rw [Ai] at hx
 cases e:ns[i]? with
 | none=>rw [e] at hx; cases hx
 | some n =>
  rw [e] at hx
  cases hx
  have en:ns.getD i 0=n:=by rw [Aj,e]; rfl
  rw [en]
  exact rx
theorem call_max1 (hc:X.calm=true):CallR X (.builtin "max") (fun xs H Q=>∃ (a:A3) (ns:List Int),xs = [V.ref a]/\SqL X.K H a (ns.map V.int)/\0 < ns.length/\∀ M,M∈ns->(∀ n∈ns,n<=M)->Q (.int M) H):=by
 intro pins s σ H xs us Q I r h
 obtain ⟨a,ns,rfl,hq,hne,q⟩:=h
 obtain ⟨u,rfl,ru⟩:=zb5 r
 cases ru
 obtain ⟨its,rv,p,hz⟩:=I.list hq
 have hl:ns.length=its.length:=by have:=rv.length; rwa [A5] at this
 refine call_max_walk (zck (A:=X.A.in1) (I.ok.hd hc) p.isList fun It s2 e2 eI W st hf old => ?_)
 refine ⟨It,_,_,its.length,_,_,_,rfl,W,st,hf,by omega,CmpOf.ints_gt (fun i=>ns.getD i 0) (fun _ _=>zdZ rv),fun v h' tk hv k => ?_⟩
 subst e2
 obtain ⟨t,rfl⟩:=zdZ rv hv
 obtain ⟨h1,h2⟩:=argBest_gt (fun i=>ns.getD i 0) (its.length - 1)
 refine ⟨.int _,H,I.kept (t':=tk) (old h' k),⟨t,rfl⟩,q _ ?_ fun n hn => ?_⟩
 ·have hlt:argBest (fun i j=>decide (ns.getD i 0 > ns.getD j 0)) (its.length - 1) < ns.length:=by omega
  rw [Aj,Aa hlt]
  exact Cr hlt
 ·obtain ⟨j,hj,e⟩:=J0.mp hn
  have:=h2 j (by omega)
  have ej:ns.getD j 0=n:=by
   rw [Aj,Aa hj,e]
   rfl
  rw [ej] at this
  exact this
theorem zdE (ns:List Int):∀ k,k<=ns.length->preSum (fun i=>ns.getD i 0) k=(ns.take k).sum
 | 0,_=>rfl
 | k + 1,h=>by
  have hk:k < ns.length:=by omega
  rw [preSum,zdE ns k (by omega),zaG (x:=ns[k]) (by simp [hk]),Kl]
  simp [Aj,hk]
theorem zeG (hc:X.calm=true):CallR X (.builtin "sum") (fun xs H Q=>∃ (a:A3) (ns:List Int),xs = [V.ref a]/\SqL X.K H a (ns.map V.int)/\Q (.int ns.sum) H):=by
 intro pins s σ H xs us Q I r h
 obtain ⟨a,ns,rfl,hq,q⟩:=h
 obtain ⟨u,rfl,ru⟩:=zb5 r
 cases ru
 obtain ⟨its,rv,p,hz⟩:=I.list hq
 have hl:ns.length=its.length:=by have:=rv.length; rwa [A5] at this
 refine call_sum_walkG (zck (A:=X.A.in1) (I.ok.hd hc) p.isList fun It s2 e2 eI W st hf old => ?_)
 refine ⟨It,_,_,its.length,_,_,(fun i=>ns.getD i 0),rfl,W,st,hf,(fun _ _=>zdZ rv),fun h' tk t' k => ?_⟩
 subst e2
 refine ⟨.int _,H,I.kept (t':=tk) (old h' k),⟨t',rfl⟩,?_⟩
 rw [<- hl,zdE ns _ (Ad _),Ci]
 exact q
noncomputable def many (ns:List Int):Nat:=(firstMet (fun i=>ns.getD i 0) ns.length).length
theorem call_set1 (hc:X.calm=true):CallR X (.type "set") (fun xs H Q=>∃ (a:A3) (ns:List Int),xs = [V.ref a]/\SqL X.K H a (ns.map V.int)/\ns.length + 1 < scanBound/\∀ p,H p=none->Q (.ref p) (upd H p (.set (fun k=>(firstMet (fun i=>ns.getD i 0) ns.length).any (· == k)) (many ns)))):=by
 intro pins s σ H xs us Q I r h
 obtain ⟨a,ns,rfl,hq,hb,q⟩:=h
 obtain ⟨u,rfl,ru⟩:=zb5 r
 cases ru
 obtain ⟨its,rv,p,hz⟩:=I.list hq
 have hl:ns.length=its.length:=by have:=rv.length; rwa [A5] at this
 have hsz:its.toArray.size=ns.length:=by rw [B5,hl]
 refine call_set_list (items:=its.toArray) (ns:=ns) (I.ok.hd hc) p.isList (by simpa using zcO rv) (by rw [hsz]; exact hb) fun h' tk hS k => ?_
 rw [hsz] at hS
 have I':Inv X pins σ (upd H s.heap.objs.size (.set (fun k=>(firstMet (fun i=>ns.getD i 0) ns.length).any (· == k)) (many ns))) { s with heap:=h',toks:=tk } :=
  I.laid (fun b o e=>k b o (Am e) e) (Ad _) hS
 exact ⟨.ref _,_,I',rfl,q _ (I.hok.fresh (Ad _))⟩
theorem call_lenS:CallR X (.builtin "len") (fun xs H Q=>∃ a S n,xs = [V.ref a]/\H a=some (.set S n)/\Q (.int n) H):=by
 intro pins s σ H xs us Q I r h
 obtain ⟨a,S,n,rfl,hq,q⟩:=h
 obtain ⟨u,rfl,ru⟩:=zb5 r
 cases ru
 obtain ⟨o,es,ep,t,h1,h2,h3,h4,h5,h6,h7,h8⟩:=(show s.heap.SetOf (intKind X.prog X.w) a S n from I.hok a _ hq)
 have hfit:(es.size:Int) < 2 ^ 63:=by
  have:(es.size:Int) < 4096:=by unfold scanBound at h6; omega
  exact Int.lt_of_lt_of_le this (by decide)
 exact call_len_set h1 h2 h3 h7 hfit ⟨.int n,H,I.tok _,⟨_,by rw [h8]⟩,q⟩
theorem zen:OpR X (compareOp .LtE) (fun x y H Q=>∃ i j,x = .str i/\y = .str j/\Q (.bl (!decide (j.cps.toList < i.cps.toList))) H):=by
 intro pins s σ H x y v u Q I rx ry h
 obtain ⟨i,j,rfl,rfl,q⟩:=h
 obtain ⟨t,rfl⟩:=rx
 obtain ⟨t',rfl⟩:=ry
 exact PySem.P.le_str (zaA I q rfl)
theorem call_isi {c:A1} {cv:V} (hcv:RelV cv c) (huniq:∀ u,RelV cv u->u=c):CallR X (.builtin "isinstance") (fun xs H Q=>∃ x t b,xs = [x,cv]/\TyOf X.K H x t/\Fg X.K t c=some b/\Q (.bl b) H):=by
 intro pins s σ H xs us Q I r h
 obtain ⟨x,t,b,rfl,ty,e,q⟩:=h
 obtain ⟨u,u',rfl,ru,ru'⟩:=zg9 r
 have:=huniq u' ru'
 subst this
 exact isinst_ok I ru ty e fun tk=>⟨.bl b,H,I.tok _,rfl,q⟩
theorem zbw (T:String):CallR X (.builtin "isinstance") (fun xs H Q=>∃ x t b,xs = [x,.ty T]/\TyOf X.K H x t/\Fg X.K t (.type T)=some b/\Q (.bl b) H):=call_isi (c := .type T) (cv := .ty T) rfl fun _ h=>h
end
section
variable {X:Cx}
noncomputable def tCut (t u:TS):TS:=fun D σ H=>∃ M:St->Hp->Prop,t { D with nx:=M } σ H/\∀ σ' H',M σ' H'->u D σ' H'
theorem zbQ {st:Cd} {rest:List Cd} {t u:TS} (h1:PS X st t) (h2:PSs X rest u):PSs X (st :: rest) (tCut t u):=by
 intro pins s σ H D I h
 obtain ⟨M,h,hM⟩:=h
 refine L5 (thn (h1 pins s σ H { D with nx:=M } I h) fun f s1 q => ?_)
 cases f with
 | next =>
  obtain ⟨σ',H',I',q⟩:=q
  exact h2 pins s1 σ' H' D I' (hM σ' H' q)
 | ret v=>exact q
 | brk=>exact q
 | cont=>exact q
theorem zaU {scope:F6} {N:List Str} {cl:List (Str×A3)} {C:A3} {s:A4} {H:Hp} {fp:List A3} {pn:List (A3×Obj)} (h:N.Nodup):(cxComp X scope N cl C s H fp pn).N.Nodup:=h
theorem zbF {x:Str} {i:Int} {pos:Pos} (hg:Gl X x) (hm:∃ t,X.mg x=some (.int i t)) (hd:(x == ("__debug__" : Str))=false:=by decide):PE X (.Name x pos) (tC (.int i)):=by
 obtain ⟨t,hm⟩:=hm
 exact zgc hg hm ⟨t,rfl⟩ hd
end
theorem ln1 {P:List A1->Prop} {p:Str} (h:∀ a,P [a]):∀ us:List A1,us.length = [p].length->P us
 | [a],_=>h a
theorem ln2 {P:List A1->Prop} {p q:Str} (h:∀ a b,P [a,b]):∀ us:List A1,us.length = [p,q].length->P us
 | [a,b],_=>h a b
theorem ln3 {P:List A1->Prop} {p q r:Str} (h:∀ a b c,P [a,b,c]):∀ us:List A1,us.length = [p,q,r].length->P us
 | [a,b,c],_=>h a b c
theorem ln4 {P:List A1->Prop} {p q r s:Str} (h:∀ a b c d,P [a,b,c,d]):∀ us:List A1,us.length = [p,q,r,s].length->P us
 | [a,b,c,d],_=>h a b c d
structure Callee (P:An) (w:B8) (K:Al) (mg:Str->Option A1) (base:Br) (x:Str) (k:Nat) (ps:List Str) (sp:Sp):Prop where
 ex:∃ f fd,FnOk P w K mg base CX0 k f fd ps sp/\mg x=some (.ref f)/\Cu K (.ref f)=true/\Binds K fd ps []/\∃ o,K.lookup f=some o/\o.data = .func fd
structure DefAt (K:Al) (mg:Str->Option A1) (x:Str) (st:Cd):Prop where
 ex:∃ f fd,Fun K x x st f fd/\mg x=some (.ref f)
theorem def_mk {K:Al} {mg:Str->Option A1} {h:Br} {x:Str} {st:Cd} {f:A3} {oc:A1} {od an:Option A3} {osl:Array (Option A1)} {kV doc pm cdv ct:A1} (X:K.In h) (G:h.Ns mainGlobals mg)
  (a:Bx K mainGlobals x=some (some (.ref f)))
  (l:K.lookup f=some ⟨oc,od,.func (Cg x x (defArgs st) (defBody st) (defScope st) .none kV doc pm an cdv ct),osl⟩)
  (c:Ex K cdv x=true) (k:Cu K (.ref f)=true):DefAt K mg x st:=⟨f,_,zgx l c k,Kq X G a⟩
theorem int_mk {K:Al} {mg:Str->Option A1} {h:Br} {x:Str} {i:Int} {t:Tok} (X:K.In h) (G:h.Ns mainGlobals mg) (a:Bx K mainGlobals x=some (some (.int i t))):∃ t,mg x=some (.int i t):=⟨t,Kq X G a⟩
section
variable {P:An} {w:B8} {K:Al} {mg:Str->Option A1} {base:Br}
theorem DefAt.callee {x:Str} {st:Cd} {N ps:List Str} {k:Nat} {sp:Sp} (D:DefAt K mg x st) (S:FnScope N ps (defScope st))
  (hb:∀ (kV doc pm:A1) (an:Option A3) (cdv ct:A1) (us:List A1),us.length=ps.length->bindArgs (Cg x x (defArgs st) (defBody st) (defScope st) .none kV doc pm an cdv ct) ⟨us,[]⟩=pure (ps.zip us))
  (len:∀ vs H Q E,sp vs H Q E->vs.length=ps.length)
  (hbody:∀ (f:A3) (cdv:A1) (A:B1) (outer:List Env) (s:A4) (H:Hp) (vs:List V) (Q:VK) (E:XK),Room k (A.deeper (envOfC x (defScope st) s.heap.objs.size f cdv))->sp vs H Q E ->
   ∃ t,PSs (cxOf CX0 P w K mg base N x (defScope st) f cdv A outer s H E).nox (defBody st) t/\t { nx:=fun _ H'=>Q .non H',rt:=Q } (start N vs) H):Callee P w K mg base x (k + 1) ps sp:=by
 obtain ⟨f,fd,F,m⟩:=D.ex
 obtain ⟨oc,od,kV,doc,pm,an,cdv,ct,osl,e,lk,hcd⟩:=id F.ex
 exact ⟨f,fd,F.ok S len (fun cdv A outer s H vs Q E hr h=>hbody f cdv A outer s H vs Q E hr h),m,F.kp,F.binds hb,_,lk,rfl⟩
end
section
variable {X:Cx} {x:Str} {k:Nat} {ps:List Str} {sp:Sp} {p pos:Pos} {e:Ca} {es:List Ca} {t:TA}
theorem zaJ (C:Callee X.prog X.w X.K X.mg X.base x k ps sp) (hr:Room k X.A) (hg:Gl X x) (ha:PA X (e :: es) t) (hdb:(x == ("__debug__" : Str))=false:=by decide)
  (he:starEach (e :: es) X.env=(false,eval e X.env) :: starEach es X.env:=by rfl) (hpl:(backTo pos (starEach es X.env)).any (·.1)=false:=by rfl):PE X (.Call (.Name x p) (e :: es) [] pos) (tCall sp [] E0 t):=by
 obtain ⟨f,fd,F,hm,hk,hb,_⟩:=C.ex
 exact zgd F hr hg hm hk hb .nil zem ha hdb he hpl
end
structure Bn (mg:Str->Option A1):Prop where
 n_len:mg "len" = none
 n_all:mg "all" = none
 n_any:mg "any" = none
 n_max:mg "max" = none
 n_min:mg "min" = none
 n_sum:mg "sum" = none
 n_sorted:mg "sorted" = none
 n_isinstance:mg "isinstance" = none
 n_int:mg "int" = none
 n_bool:mg "bool" = none
 n_str:mg "str" = none
 n_list:mg "list" = none
 n_tuple:mg "tuple" = none
 n_dict:mg "dict" = none
 n_set:mg "set" = none
 n_range:mg "range" = none
 n_reversed:mg "reversed" = none
 n_repr:mg "repr" = none
 n_abs:mg "abs" = none
 n_enumerate:mg "enumerate" = none
 n_zip:mg "zip" = none
theorem bn_mk {K:Al} {mg:Str->Option A1} {h:Br} (X:K.In h) (G:h.Ns mainGlobals mg)
  (a_len:Bx K mainGlobals "len" = some none)
  (a_all:Bx K mainGlobals "all" = some none)
  (a_any:Bx K mainGlobals "any" = some none)
  (a_max:Bx K mainGlobals "max" = some none)
  (a_min:Bx K mainGlobals "min" = some none)
  (a_sum:Bx K mainGlobals "sum" = some none)
  (a_sorted:Bx K mainGlobals "sorted" = some none)
  (a_isinstance:Bx K mainGlobals "isinstance" = some none)
  (a_int:Bx K mainGlobals "int" = some none)
  (a_bool:Bx K mainGlobals "bool" = some none)
  (a_str:Bx K mainGlobals "str" = some none)
  (a_list:Bx K mainGlobals "list" = some none)
  (a_tuple:Bx K mainGlobals "tuple" = some none)
  (a_dict:Bx K mainGlobals "dict" = some none)
  (a_set:Bx K mainGlobals "set" = some none)
  (a_range:Bx K mainGlobals "range" = some none)
  (a_reversed:Bx K mainGlobals "reversed" = some none)
  (a_repr:Bx K mainGlobals "repr" = some none)
  (a_abs:Bx K mainGlobals "abs" = some none)
  (a_enumerate:Bx K mainGlobals "enumerate" = some none)
  (a_zip:Bx K mainGlobals "zip" = some none)
  : Bn mg:=⟨Ba X G a_len,Ba X G a_all,Ba X G a_any,Ba X G a_max,Ba X G a_min,Ba X G a_sum,Ba X G a_sorted,Ba X G a_isinstance,Ba X G a_int,Ba X G a_bool,Ba X G a_str,Ba X G a_list,Ba X G a_tuple,Ba X G a_dict,Ba X G a_set,Ba X G a_range,Ba X G a_reversed,Ba X G a_repr,Ba X G a_abs,Ba X G a_enumerate,Ba X G a_zip⟩
theorem DefAt.entry {P:An} {w:B8} {K:Al} {mg:Str->Option A1} {x p:Str} {st:Cd} {k:Nat} {sp:Sp} {fa:A3} (D:DefAt K mg x st) (hfa:mg x=some (.ref fa))
  (hb:∀ (kV doc pm:A1) (an:Option A3) (cdv ct v:A1),bindArgs (Cg x x (defArgs st) (defBody st) (defScope st) .none kV doc pm an cdv ct) ⟨[v],[]⟩=pure [(p,v)])
  (C:∀ base:Br,Callee P w K mg base x k [p] sp) :
  ∃ fd:Ed,(∀ (s:A4) (v:A1),Jz s fd ⟨[v],[]⟩ [(p,v)])/\∀ base:Br,K.In base->base.Ns mainGlobals mg->FnOk P w K mg base CX0 k fa fd [p] sp:=by
 obtain ⟨f,fd,F,m⟩:=D.ex
 rw [m] at hfa
 cases hfa
 obtain ⟨oc,od,kV,doc,pm,an,cdv,ct,osl,rfl,lk,hcd⟩:=F.ex
 refine ⟨_,fun s v => .of_eq (hb kV doc pm an cdv ct v),fun base _ _ => ?_⟩
 obtain ⟨f',fd',G,m',_,_,o,lo,ed⟩:=(C base).ex
 rw [m] at m'
 cases m'
 rw [lk] at lo
 cases lo
 cases ed
 exact G
structure Fly (B:Br) (l:List Env) (x:A3) (c fl:A1) (h:Br):Prop where
 stay:B.StaysIn h
 new:B.get? x=none
 frs:h.FunFrames B l
 obj:∃ (oe:Obj) (vs:Array A1) (T:A3) (oT:Obj) (ts:Array A1),h.get? x=some oe/\(oe.cls=c/\oe.dict=none)/\oe.data = .fields vs/\vs[1]?=some (.ref T)/\vs[2]?=some .none/\B.get? T=none/\T≠x/\h.get? T=some oT/\oT.data = .fields ts/\ts[3]?=some fl
structure Fresh (B:Br) (l:List Env) (x:A3) (c:A1) (h:Br):Prop where
 stay:B.StaysIn h
 new:B.get? x=none
 frs:h.FunFrames B l
 obj:∃ (oe:Obj) (vs:Array A1),h.get? x=some oe/\(oe.cls=c/\oe.dict=none)/\oe.data = .fields vs/\vs[1]?=some .none/\vs[2]?=some .none
section
variable {M:Hm} {A:B1} {E:A1->A4->Prop} {s:A4} {B:Br} {l outer:List Env} {env:Env} {x L:A3} {c:A1}
theorem dict_mapFields (o:Obj) (f:Array A1->Array A1):(o.mapFields f).dict=o.dict:=by
 unfold Ev
 split <;> rfl
theorem zaH {h:Br} {a b:A3} {o:Obj} {vs:Array A1} {f:Array A1->Array A1} (ha:h.get? a=some o) (hd:o.data = .fields vs) :
  (h.update a (Ev f)).get? a=some (o.mapFields f)/\(b≠a->(h.update a (Ev f)).get? b=h.get? b) :=
 ⟨G6 _ ha (Ml (Fi hd f)),fun hb=>Fq _ _ (Dy hb)⟩
theorem zeD {oe:Obj} {vs:Array A1} {head:A1} {hadNext:Bool} {Q:Unit->A4->Prop} (hfr:A.frames=some (env :: outer)) (hl:s.heap.FunFrames B (env :: outer)) (hf:env.frame=some L)
  (st:B.StaysIn s.heap) (nx:B.get? x=none) (hx:s.heap.get? x=some oe) (hc:oe.cls=c/\oe.dict=none) (hd:oe.data = .fields vs) (h2:vs[2]?=some .none)
  (k:∀ h',Fly B (env :: outer) x c (rawInt L) h'->s.heap.UpToSlots h'->Q () { s with heap:=h' }) :
  wpAny M A (do let a <- frameOf env; let pl <- entryPlaceOf L hadNext; let b <- Ld head a .none (rawInt L) .none pl; setField (.ref x) 1 b) Q E s:=by
 have hsz:2 < vs.size:=(Gm.mp h2).1
 have xnf:x ∉ (env :: outer).filterMap (·.frame):=fun hm=>by
  obtain ⟨_,o,ho,hno⟩:=hl.mem hm
  rw [hx] at ho
  cases ho
  exact hno vs hd
 refine A2 (wpAny_frameOf_fun hfr hl hf fun g1 so=>A2 (wpAny_entryPlaceOf fun pl hpl => ?_))
 unfold Ld newFields
 refine A2 (Eh ?_ (hpl.sizeOk5 _ _ _ _ _))
 have hx1:g1.get? x=some oe:=(so.2.1 x xnf).trans hx
 have st1:B.StaysIn g1:=fun b o hb=>by
  refine (so.2.1 b fun hm => ?_).trans (st b o hb)
  have:=(hl.mem hm).1
  rw [hb] at this
  cases this
 have big:x < g1.objs.size:=Am hx1
 generalize hnew:({ cls := .type "traceback",dict:=none,data := .fields ([head,.ref L,.none,rawInt L,.none] ++ (if pl.isEmpty then Bo 6 Du else pl)).toArray }:Obj)=tb
 have hx2:(g1.push tb).get? x=some oe:=A7 tb hx1
 refine Hg hx2 hd (by omega) (k _ ?_ ?_)
 ·have tx:g1.objs.size≠x:=K9 big
  obtain ⟨e1,e2⟩:=zaH (b:=g1.objs.size) (f:=fun a=>a.setIfInBounds 1 (Az g1.objs.size)) hx2 hd
  have hT:(g1.push tb).get? g1.objs.size=some tb:=Ay g1 (by rw [<- hnew]; rfl)
  refine ⟨fun b o hb => ?_,nx,hl.of_keeps fun b o hb hno => ?_,_,_,g1.objs.size,tb,_,e1,⟨(Np _ _).trans hc.1,(dict_mapFields _ _).trans hc.2⟩,Fi hd _,(by show (vs.setIfInBounds 1 (Az g1.objs.size))[1]?=_; simp [show 1 < vs.size by omega]),?_,st1.fresh,tx,(e2 tx).trans hT,by rw [<- hnew],?_⟩
  ·obtain ⟨_,e3⟩:=zaH (b:=b) (f:=fun a=>a.setIfInBounds 1 (Az g1.objs.size)) hx2 hd
   refine (e3 fun z => ?_).trans (A7 tb (st1 b o hb))
   rw [z,nx] at hb
   cases hb
  ·have bx:b≠x:=fun z=>by
    rw [z,hx] at hb
    cases hb
    exact hno vs hd
   obtain ⟨sl,hs⟩:=so.2.2 b o hb
   obtain ⟨_,e3⟩:=zaH (b:=b) (f:=fun a=>a.setIfInBounds 1 (Az g1.objs.size)) hx2 hd
   exact ⟨_,(e3 bx).trans (A7 tb hs),rfl⟩
  ·rw [Array.getElem?_setIfInBounds_ne (by decide)]
   exact h2
  ·rcases hpl with rfl | ⟨_,_,_,_,_,_,_,rfl⟩ <;> rfl
 ·intro b o hb hno
  have bx:b≠x:=fun z=>by
   rw [z,hx] at hb
   cases hb
   exact hno vs hd
  obtain ⟨sl,hs⟩:=so.2.2 b o hb
  obtain ⟨_,e3⟩:=zaH (b:=b) (f:=fun a=>a.setIfInBounds 1 (Az g1.objs.size)) hx2 hd
  exact ⟨sl,(e3 bx).trans (A7 tb hs)⟩
theorem zcQ {fl:A1} {Q:Unit->A4->Prop} (F:Fly B l x c fl s.heap) (k:∀ h',Fly B l x c .none h'->s.heap.UpToSlots h'->Q () { s with heap:=h' }):wpAny M A (setFlight (.ref x) none) Q E s:=by
 obtain ⟨oe,vs,T,oT,ts,hx,hc,hd,h1,h2,nT,tx,hT,dT,h3⟩:=F.obj
 have hsz:3 < ts.size:=(Gm.mp h3).1
 unfold setFlight
 refine A2 (Fx hx hd h1 ?_)
 rw [if_pos (by simp)]
 refine Hg hT dT hsz (k _ ?_ ?_)
 ·have e:∀ b,b≠T->(s.heap.update T (Ev (·.setIfInBounds 3 ((none:Option A3).elim Du fun f=>rawInt f)))).get? b=s.heap.get? b:=fun b hb=>(zaH hT dT).2 hb
  refine ⟨fun b o hb=>(e b fun z => ?_).trans (F.stay b o hb),F.new,F.frs.of_keeps fun b o hb hno=>⟨o,(e b fun z => ?_).trans hb,rfl⟩,oe,vs,T,_,_,(e x (Dy tx)).trans hx,hc,hd,h1,h2,nT,tx,(zaH (b:=T) hT dT).1,Fi dT _,by simp [hsz]⟩
  ·rw [z,nT] at hb; cases hb
  ·rw [z,hT] at hb; cases hb; exact hno ts dT
 ·intro b o hb hno
  refine ⟨o.slots,((zaH hT dT).2 fun z => ?_).trans hb⟩
  rw [z,hT] at hb; cases hb; exact hno ts dT
theorem zfF {Q:Unit->A4->Prop} (hfr:A.frames=some (env :: outer)) (hf:env.frame=some L) (F:Fly B (env :: outer) x c .none s.heap)
  (k:∀ h',Fly B (env :: outer) x c (rawInt L) h'->s.heap.UpToSlots h'->Q () { s with heap:=h' }):wpAny M A (noteFrame (.ref x) env) Q E s:=by
 obtain ⟨oe,vs,T,oT,ts,hx,hc,hd,h1,h2,nT,tx,hT,dT,h3⟩:=F.obj
 have hsz:3 < ts.size:=(Gm.mp h3).1
 unfold noteFrame
 simp only [hf]
 refine A2 (Fx hx hd h1 ?_)
 rw [if_pos (by simp)]
 refine A2 (Fx hT dT h3 ?_)
 rw [if_neg (by simp [rawInt])]
 refine A2 (Hg hT dT hsz ?_)
 have e:∀ b,b≠T->(s.heap.update T (Ev (·.setIfInBounds 3 Du))).get? b=s.heap.get? b:=fun b hb=>(zaH hT dT).2 hb
 have nf:∀ b o,s.heap.get? b=some o->(∀ vs,o.data ≠ .fields vs)->b≠T:=fun b o hb hno z=>by
  rw [z,hT] at hb; cases hb; exact hno ts dT
 refine zeD hfr (F.frs.of_keeps fun b o hb hno=>⟨o,(e b (nf b o hb hno)).trans hb,rfl⟩) hf (fun b o hb=>(e b fun z => ?_).trans (F.stay b o hb)) F.new ((e x (Dy tx)).trans hx) hc hd h2 fun h' F' u=>k h' F' fun b o hb hno => ?_
 ·rw [z,nT] at hb; cases hb
 ·exact u b o ((e b (nf b o hb hno)).trans hb) hno
theorem fresh_note {Q:Unit->A4->Prop} (hfr:A.frames=some (env :: outer)) (hf:env.frame=some L) (F:Fresh B (env :: outer) x c s.heap)
  (k:∀ h',Fly B (env :: outer) x c (rawInt L) h'->s.heap.UpToSlots h'->Q () { s with heap:=h' }):wpAny M A (noteFrame (.ref x) env) Q E s:=by
 obtain ⟨oe,vs,hx,hc,hd,h1,h2⟩:=F.obj
 unfold noteFrame
 simp only [hf]
 refine A2 (Fx hx hd h1 ?_)
 rw [if_neg (by decide)]
 exact zeD hfr F.frs hf F.stay F.new hx hc hd h2 k
theorem Fly.tail {fl:A1} {h:Br} (F:Fly B (env :: outer) x c fl h):Fly B outer x c fl h:=⟨F.stay,F.new,F.frs.2.2,F.obj⟩
theorem fly_leave {Q:Unit->A4->Prop} (hfr:A.frames=some (env :: outer)) (hf:env.frame=some L) (F:Fly B (env :: outer) x c .none s.heap)
  (k:∀ h',Fly B outer x c .none h'->s.heap.UpToSlots h'->Q () { s with heap:=h' }):wpAny M A (leaving env (.ref x)) Q E s:=by
 unfold leaving
 exact A2 (zfF hfr hf F fun h1 F1 u1=>zcQ (s:={ s with heap:=h1 }) F1 fun h2 F2 u2=>k h2 F2.tail (u1.trans u2))
theorem fresh_leave {Q:Unit->A4->Prop} (hfr:A.frames=some (env :: outer)) (hf:env.frame=some L) (F:Fresh B (env :: outer) x c s.heap)
  (k:∀ h',Fly B outer x c .none h'->s.heap.UpToSlots h'->Q () { s with heap:=h' }):wpAny M A (leaving env (.ref x)) Q E s:=by
 unfold leaving
 exact A2 (fresh_note hfr hf F fun h1 F1 u1=>zcQ (s:={ s with heap:=h1 }) F1 fun h2 F2 u2=>k h2 F2.tail (u1.trans u2))
end
section
variable {P:An} {w:B8}
theorem ObjOk.there {H:Hp} {h:Br} {a:A3} {o:HO} (x:ObjOk P w H h a o):∃ ob,h.get? a=some ob:=by
 cases o with
 | lst xs=>obtain ⟨_,_,_,_,e⟩:=x; exact ⟨_,e⟩
 | tup xs=>obtain ⟨_,_,_,o,e,_⟩:=x; exact ⟨o,e⟩
 | dK kvs=>obtain ⟨_,_,_,_,o,_,_,e,_⟩:=x; exact ⟨o,e⟩
 | dT kvs=>obtain ⟨_,_,_,_,o,_,_,e,_⟩:=x; exact ⟨o,e⟩
 | set S n=>obtain ⟨o,_,_,_,e,_⟩:=x; exact ⟨o,e⟩
 | ins C dx fs=>obtain ⟨_,_,_,e,_⟩:=x; exact ⟨_,e⟩
 | own y=>exact x
 | xd fs=>obtain ⟨_,⟨o,_,_,e,_⟩,_⟩:=x; exact ⟨o,e⟩
 | rng lo hi=>obtain ⟨_,_,_,e⟩:=x; exact ⟨_,e⟩
 | frz ob u=>obtain ⟨e,_⟩:=x; exact ⟨_,e⟩
 | tbl ps=>exact ⟨_,(show h.get? a=some _ from x)⟩
 | met f y=>exact ⟨_,(show h.get? a=some _ from x)⟩
 | ext φ => obtain ⟨_,e,_⟩:=x; exact e
noncomputable def CX1 (P:An) (w:B8):CXT:=fun outer H s E e s'=>∃ (x:A3) (c:A1) (B:Br) (H':Hp),e = .ref x/\Fly B outer x c .none s'.heap/\s'.os=s.os/\Gi s'.gens/\Un (frs outer) [] H H' s.heap s'.heap/\HOk P w H' s'.heap/\H' x=none /\
 (∀ b o,H' b=some o->∃ ob,B.get? b=some ob)/\(∀ b o,s.heap.get? b=some o->b ∉ frs outer->∃ ob,B.get? b=some ob)/\E c none H'
theorem ze1 {B h h':Br} {H:Hp} (ok:HOk P w H h) (st:B.StaysIn h) (st':B.StaysIn h') (inB:∀ b o,H b=some o->∃ ob,B.get? b=some ob):HOk P w H h':=fun a o e=>by
 refine (ok a o e).stay (fun b u hb q => ?_) (fun _ q=>q) fun _ _ q=>q
 have ⟨ob,hB⟩:∃ ob,B.get? b=some ob:=by
  rcases hb with z | z
  ·rw [z]; exact inB a o e
  ·exact inB b _ z
 have:=st b ob hB
 rw [q] at this
 cases this
 exact st' b _ hB
theorem zgy {B h0 h h':Br} {fs:List A3} {H H':Hp} (u:Un fs [] H H' h0 h) (st:B.StaysIn h) (st':B.StaysIn h') (up:h.UpToSlots h') (inB:∀ b o,h0.get? b=some o->b ∉ fs->∃ ob,B.get? b=some ob)
  (hfs:∀ b∈fs,∀ o,h.get? b=some o->∀ vs,o.data ≠ .fields vs):Un fs [] H H' h0 h' where
 keep:=fun b o e n hb hx=>by
  obtain ⟨ob,hB⟩:=inB b o e hb
  have q:=u.keep b o e n hb hx
  have:=st b ob hB
  rw [q] at this
  cases this
  exact st' b _ hB
 slot:=fun b o e n hb hx=>by
  obtain ⟨sl,q⟩:=u.slot b o e n hb hx
  obtain ⟨sl',q'⟩:=up b _ q (hfs b hb _ q)
  exact ⟨sl',q'⟩
 free:=u.free
 there:=fun b o e hx=>by
  by_cases hb:b∈fs
  ·obtain ⟨o',q⟩:=u.there b o e hx
   obtain ⟨sl,q'⟩:=up b o' q (hfs b hb o' q)
   exact ⟨_,q'⟩
  ·obtain ⟨ob,hB⟩:=inB b o e hb
   exact ⟨ob,st' b ob hB⟩
 tups:=u.tups
 frzs:=u.frzs
 tbls:=u.tbls
theorem zcR {B h:Br} {l:List Env} (f:h.FunFrames B l):∀ b∈frs l,∀ o,h.get? b=some o->∀ vs,o.data ≠ .fields vs:=fun b hb o e vs=>by
 obtain ⟨_,o',e',hno⟩:=f.mem hb
 rw [e] at e'
 cases e'
 exact hno vs
theorem zdr {X:Cx} {pins:List (A3×Obj)} {σ : St} {H H':Hp} {s:A4} {h':Br} (I:Inv X pins σ H s) (hex:X.ex = []) (u:Un (frs X.stack) [] H H' s.heap h'):Un X.fs [] X.H₀ H' X.s₀.heap h':=by
 have nl:∀ b o,X.s₀.heap.get? b=some o->b≠X.env.locals:=fun b o e=>B7 (Af (Am e) I.ok.above)
 have nst:∀ b o,X.s₀.heap.get? b=some o->b ∉ X.fs->b ∉ frs X.stack:=fun b o e hb z=>(B6.mp (I.stkSub b z)).elim (nl b o e) hb
 have B:=I.base
 rw [hex] at B
 refine ⟨fun b o e n hb hx=>u.keep b o (B.keep b o e n hb hx) (B.free b o e n hx) (nst b o e hb) hx,fun b o e n hb hx => ?_,fun b o e n hx => ?_,fun b o e hx => ?_,fun b xs e=>u.tups b xs (B.tups b xs e),fun b o v e=>u.frzs b o v (B.frzs b o v e),fun b ps e => ?_⟩
 ·obtain ⟨sl,e1⟩:=B.slot b o e n hb hx
  obtain ⟨sl',e2⟩:=u.any e1 (B.free b o e n hx) hx
  exact ⟨sl',e2⟩
 ·obtain ⟨o',e1⟩:=B.there b o e hx
  exact u.free b o' e1 (B.free b o e n hx) hx
 ·obtain ⟨o',e1⟩:=B.there b o e hx
  exact u.there b o' e1 hx
 ·obtain ⟨m1,e1⟩:=B.tbls b ps e
  obtain ⟨m2,e2⟩:=u.tbls b _ e1
  exact ⟨m1 ++ m2,by rw [e2,Jn]⟩
theorem zcJ {K:Al} {mg:Str->Option A1} {base:Br} {N:List Str} {qual:Str} {scope:F6} {f:A3} {cd:A1} {A:B1} {outer:List Env} {s₀ : A4} {H₀ : Hp} {E:XK} :
  Passes (CX1 P w) (cxOf (CX1 P w) P w K mg base N qual scope f cd A outer s₀ H₀ E) E:=by
 intro pins σ H s e s' I h
 obtain ⟨x,c,B,H',rfl,F,ho,hg,u,ok,nx,inB,old,q⟩:=h
 have hfr:(A.deeper (envOfC qual scope s₀.heap.objs.size f cd)).frames=some (envOfC qual scope s₀.heap.objs.size f cd :: outer):=I.ok.frames
 have ut:Un (frs outer) [] H₀ H' s₀.heap s'.heap:=zdr I rfl u
 have old':∀ b o,s₀.heap.get? b=some o->b ∉ frs outer->∃ ob,B.get? b=some ob:=fun b o e hb=>by
  obtain ⟨o',e1⟩:=I.base.there b o e (by show b ∉ ([]:List A3); simp)
  refine old b o' e1 fun z => ?_
  rcases B6.mp (I.stkSub b z) with z | z
  ·exact absurd (Af (Am e) I.ok.above) (by rw [z]; exact Dq _)
  ·exact hb z
 show wpAny (model P w) _ (leaving _ (.ref x)) _ _ s'
 refine fly_leave hfr rfl F fun h' F' up=>⟨x,c,B,H',rfl,F',(show s'.os=s₀.os from ho.trans I.os),hg,zgy ut F.stay F'.stay up old' (zcR F.tail.frs),ze1 ok F.stay F'.stay inB,nx,inB,old',q⟩
theorem pass_no {X:Cx} {E:XK} (hE:∀ c d H,¬ E c d H):Passes (CX1 P w) X E:=fun _ _ _ _ _ _ _ h=>by
 obtain ⟨_,_,_,_,_,_,_,_,_,_,_,_,_,q⟩:=h
 exact (hE _ _ _ q).elim
theorem zbg {X:Cx}:Passes (CX1 P w) X E0:=pass_no fun _ _ _ h=>h
theorem raise_out {K:Al} {mg:Str->Option A1} {base:Br} {N:List Str} {qual:Str} {scope:F6} {f:A3} {cd:A1} {A:B1} {outer:List Env} {s₀ : A4} {H₀ : Hp} {E:XK} {pins:List (A3×Obj)} {σ : St} {H:Hp} {s s':A4} {x:A3} {c:A1} {args:List A1}
  (I:Inv (cxOf (CX1 P w) P w K mg base N qual scope f cd A outer s₀ H₀ E) pins σ H s) (hx:Heap.MadeExcOf s.heap s'.heap x c args) (ho:s'.os=s.os) (hg:Gi s'.gens) (q:E c none H) :
  (cxOf (CX1 P w) P w K mg base N qual scope f cd A outer s₀ H₀ E).xe (.ref x) s':=by
 have hfr:(A.deeper (envOfC qual scope s₀.heap.objs.size f cd)).frames=some (envOfC qual scope s₀.heap.objs.size f cd :: outer):=I.ok.frames
 have hin:∀ env∈envOfC qual scope s₀.heap.objs.size f cd :: outer,∀ a,env.frame=some a->a∈frs (envOfC qual scope s₀.heap.objs.size f cd :: outer):=fun env he a ha=>En.mpr ⟨env,he,ha⟩
 have st:(Dt s.heap (frs (envOfC qual scope s₀.heap.objs.size f cd :: outer))).StaysIn s'.heap:=fun b o e=>hx.keeps b o (J7 _ e)
 have nx:(Dt s.heap (frs (envOfC qual scope s₀.heap.objs.size f cd :: outer))).get? x=none:=by
  cases e:(Dt s.heap (frs (envOfC qual scope s₀.heap.objs.size f cd :: outer))).get? x with
  | none=>rfl
  | some o =>
   have:=J7 _ e
   rw [hx.new] at this
   cases this
 have fr0:s.heap.FunFrames (Dt s.heap (frs (envOfC qual scope s₀.heap.objs.size f cd :: outer))) (envOfC qual scope s₀.heap.objs.size f cd :: outer):=PySem.W.funFrames_hide I.stack hin
 obtain ⟨t,hobj,_,_⟩:=hx.there
 have F:Fresh (Dt s.heap (frs (envOfC qual scope s₀.heap.objs.size f cd :: outer))) (envOfC qual scope s₀.heap.objs.size f cd :: outer) x c s'.heap :=
  ⟨st,nx,fr0.of_keeps fun b o hb _=>⟨o,hx.keeps b o hb,rfl⟩,_,_,hobj,⟨rfl,rfl⟩,rfl,rfl,rfl⟩
 have inB:∀ b o,s.heap.get? b=some o->b ∉ frs (envOfC qual scope s₀.heap.objs.size f cd :: outer)->∃ ob,(Dt s.heap (frs (envOfC qual scope s₀.heap.objs.size f cd :: outer))).get? b=some ob:=fun b o e hb=>⟨o,Ly _ e hb⟩
 have trk:∀ b o,H b=some o->∃ ob,(Dt s.heap (frs (envOfC qual scope s₀.heap.objs.size f cd :: outer))).get? b=some ob:=fun b o e=>by
  have lt:=I.hok.lt e
  cases e2:s.heap.get? b with
  | none =>
   exfalso
   have ok:=I.hok b o e
   obtain ⟨ob,hob⟩:=ok.there
   rw [e2] at hob
   cases hob
  | some ob =>
   refine inB b ob e2 fun z => ?_
   have:=I.stkFree b z
   rw [e] at this
   cases this
 have old:∀ b o,s₀.heap.get? b=some o->b ∉ frs outer->∃ ob,(Dt s.heap (frs (envOfC qual scope s₀.heap.objs.size f cd :: outer))).get? b=some ob:=fun b o e hb=>by
  obtain ⟨o',e1⟩:=I.base.there b o e (by show b ∉ ([]:List A3); simp)
  refine inB b o' e1 fun z => ?_
  rcases B6.mp (I.stkSub b z) with z | z
  ·exact absurd (Af (Am e) I.ok.above) (by rw [z]; exact Dq _)
  ·exact hb z
 have u0:Un (frs outer) [] H₀ H s₀.heap s.heap:=zdr I rfl Un.refl
 have u1:Un (frs outer) [] H₀ H s₀.heap s'.heap:=u0.trans (Un.kept hx.keeps)
 have ok1:HOk P w H s'.heap:=I.hok.kept hx.keeps
 have nxH:H x=none:=by
  cases e:H x with
  | none=>rfl
  | some o =>
   obtain ⟨ob,hob⟩:=(I.hok x o e).there
   rw [hx.new] at hob
   cases hob
 show wpAny (model P w) _ (leaving _ (.ref x)) _ _ s'
 exact fresh_leave hfr rfl F fun h' F' up=>⟨x,c,_,H,rfl,F',(show s'.os=s₀.os from ho.trans I.os),hg,zgy u1 F.stay F'.stay up old (zcR F.frs.2.2),ze1 ok1 F.stay F'.stay trk,nxH,trk,old,q⟩
end
theorem entry_unchain:entryFor table "proto.unchain" = some G9.«proto.unchain» := entryFor_of_tree (by kernel_rfl)
section
variable {prog:An} {w:B8} {A:B1} {E:A1->A4->Prop} {s:A4}
theorem raiseNew_h {α : Type} {x e:A3} {ox oe:Obj} {vs xs:Array A1} {Q : α -> A4->Prop} (hh:A.handled=some (.ref e)) (hx:s.heap.get? x=some ox) (dx:ox.data = .fields xs) (hs:2 < xs.size) (ne:e≠x)
  (he:s.heap.get? e=some oe) (de:oe.data = .fields vs) (h2:vs[2]?=some .none)
  (h:E (.ref x) { s with heap:=s.heap.update x (Ev (·.setIfInBounds 2 (.ref e))) }):wpAny (model prog w) A (raiseNew (.ref x):Sem α) Q E s:=by
 unfold raiseNew
 refine A2 (Qr ?_)
 rw [hh]
 dsimp only
 rw [if_pos (by simpa using ne)]
 refine A2 (D1 (wpAny_runValue (codeAny_builtin entry_unchain ?_)))
 unfold G9.«proto.unchain»
 dsimp only
 refine A2 (Fx he de h2 ?_)
 rw [if_pos (by decide)]
 refine Ae ?_
 dsimp only
 refine A2 ?_
 unfold updateField
 refine A2 (wpAny_load hx ?_)
 rw [dx]
 dsimp only
 rw [if_pos hs]
 refine wpAny_update hx ?_
 exact wpAny_throw h
theorem range_end_h {it e:A3} {oe:Obj} {vs:Array A1} {x left step:Int} {Q:Option A1->A4->Prop} (hh:A.handled=some (.ref e)) (he:s.heap.get? e=some oe) (de:oe.data = .fields vs) (h2:vs[2]?=some .none)
  (hit:G3 s.heap it x left step) (hleft:left<=0)
  (hQ:∀ h',Pd it s.heap h'->Q none { s with heap:=h' }):wpAny (model prog w) A (pyNext (.ref it)) Q E s:=by
 have ty:s.TypeIs (.ref it) "range_iterator" := ⟨_,hit,rfl⟩
 unfold pyNext
 refine A2 (Gg (Fy (name:=A0 "__next__") ty Lu (Ds Lu ty F.entry_range_iterator_next (?_:wpAny _ _ (field (.ref it) 0 >>= _) _ _ s) (F.args_range_iterator_next_1 _))))
 refine A2 (Fx hit rfl (x:=rawInt x) rfl (?_:wpAny _ _ (field (.ref it) 1 >>= _) _ _ s))
 refine A2 (Fx hit rfl (x:=rawInt left) rfl (?_:wpAny _ _ (field (.ref it) 2 >>= _) _ _ s))
 refine A2 (Fx hit rfl (x:=rawInt step) rfl (?_:wpAny _ _ (if left<=0 then _ else _) _ _ s))
 rw [if_pos hleft]
 refine A2 (Ft (A2 (?_:wpAny _ _ (newExc (.type "StopIteration") [] >>= _) _ _ _)))
 refine A2 (?_:wpAny _ _ (newTuple [] >>= _) _ _ _)
 simp only [newTuple]
 refine A2 (Eh (A2 (m:=firstArgMember _ _) (Nv (a:=Du) (by first | rfl | (simp only [firstArgMember]; rfl)) (Eh ?_ (by size_fits)))) (by size_fits))
 refine raiseNew_h (A:=A.in1) (e:=e) (oe:=oe) (vs:=vs) (show A.in1.handled=some (.ref e) from hh) (Ay _ rfl) rfl (by rw [Array.size_append]; exact Af (show 2 < 6 by decide) (O0 _ _)) ?_ (A7 _ (A7 _ he)) de h2 ?_
 ·rw [Ej]
  exact B7 (F0 (Am he))
 ·refine A2 (Gd (T := "StopIteration") (b:=true) ⟨_,G6 _ (Ay _ rfl) rfl,rfl⟩ Qj ?_)
  refine Ae (hQ _ fun b o hb hbo => ?_)
  rw [Fq _ _ ?_]
  ·exact A7 _ (A7 _ hbo)
  ·rw [Ej]
   exact K9 (F0 (Am hbo))
end
noncomputable def QH (e:A3) (oe:Obj) (Y:Cx):Prop:=Y.A.handled=some (.ref e)/\(e,oe)∈Y.pn/\∃ vs,oe.data = .fields vs/\vs[2]?=some .none
section
variable {X:Cx} {tg:Ca} {e:A3} {oe:Obj}
theorem QH.comp {scope:F6} {N:List Str} {cl:List (Str×A3)} {C:A3} {s:A4} {H:Hp} {fp:List A3} {pins:List (A3×Obj)} (q:QH e oe X):QH e oe (cxComp X scope N cl C s H fp (X.pn ++ pins)) :=
 ⟨q.1,Bf _ q.2.1,q.2.2⟩
theorem range_item_q {it:A3} {lo:Int} {n i:Nat} {pins:List (A3×Obj)} {s:A4} {σ : St} {H:Hp} {E:A1->A4->Prop} (I:Inv X pins σ H s) (hf:∀ b ∈ [it],FpOk X pins H b)
  (st:G3 s.heap it (lo + (i:Nat) * 1) ((n:Int) - (i:Nat)) 1) (hg:i < n) :
  wpAny (model X.prog X.w) X.A (pyNext (.ref it)) (fun r s1=>∃ u,r=some u /\
   wpAny (model X.prog X.w) X.A (letOwnedTupleGo tg (.ref it) u) (fun _ s2=>∃ x H',Inv X pins σ H' s2/\RelV x u/\(Itr lo n).yld i H x H'/\G3 s2.heap it (lo + ((i + 1:Nat):Int) * 1) ((n:Int) - ((i + 1:Nat):Int)) 1/\∀ b ∈ [it],H' b=none) E s1) E s:=by
 obtain ⟨f0,f1,f2,f3,f4,f5⟩:=hf it (by simp)
 refine wpAny_pyNext_range_item st (by omega) fun h' st' sb => ?_
 have I1:Inv X pins σ H { s with heap:=h',toks:=s.toks + 1 }:=I.turned (fun b o hb e=>(sb.2 b hb).trans e) f0 f1 f3 f4 f5
 have st2:G3 h' it (lo + ((i + 1:Nat):Int) * 1) ((n:Int) - ((i + 1:Nat):Int)) 1:=by
  have e1:lo + ((i + 1:Nat):Int) * 1=lo + (i:Nat) * 1 + 1:=by omega
  have e2:(n:Int) - ((i + 1:Nat):Int)=(n:Int) - (i:Nat) - 1:=by omega
  rw [e1,e2]; exact st'
 refine ⟨_,rfl,zfM (s:={ s with heap:=h',toks:=s.toks + 1 }) (n := "range_iterator") st2 rfl rfl (by decide) ⟨.int (lo + i),H,I1,⟨s.toks,?_⟩,⟨rfl,rfl⟩,st2,fun b hb=>(hf b hb).1⟩⟩
 rw [Qb]
theorem trn_range {P:An} {w:B8} {K:Al} (it:A3) (lo:Int) (n:Nat):Trn P w K (QH e oe) tg (Itr lo n) [it] it (fun i h=>G3 h it (lo + (i:Nat) * 1) ((n:Int) - (i:Nat)) 1) where
 obj:=fun i h st b hb=>by
  have e:b=it:=by simpa using hb
  subst e
  exact ⟨_,st,fun v z=>by
   have z':Pe _=Qq v:=z
   cases z'⟩
 keep:=fun i h h' st k=>k it (by simp) _ st
 steps:=fun Y hP hw hK hz=>⟨fun i pins s σ H E I hf st hg=>range_item_q I hf st hg,fun i pins s σ H E I hf st hg=>by
  obtain ⟨hh,hm,vs,de,h2⟩:=hz
  obtain ⟨f0,f1,f2,f3,f4,f5⟩:=hf it (by simp)
  exact range_end_h hh (I.pin (e,oe) (Bf _ hm)).1 de h2 st (by have:n<=i:=hg; omega) fun h' eb=>⟨rfl,I.turned (t':=s.toks) (fun b o hb e=>eb b o hb e) f0 f1 f3 f4 f5⟩⟩
 self:=fun _ _ _ _ _ st h=>N5 st h
theorem range_itq {pins:List (A3×Obj)} {σ : St} {H:Hp} {s:A4} {R:It->Hp->Prop} {E:A1->A4->Prop} {lo hi:Int} {t u v:Tok} {tk:Nat} (I:Inv X pins σ H s) (h1 : -(2 ^ 62)<=lo) (h2:lo < 2 ^ 62) (h3 : -(2 ^ 62)<=hi) (h4:hi < 2 ^ 62)
  (q:R (Itr lo (hi - lo).toNat) H):wpAny (model X.prog X.w) X.A (pyIter (.ref s.heap.objs.size)) (PIEq (QH e oe) X pins σ tg R) E { s with heap:=s.heap.push { cls := .type "range",data := .fields #[.int lo t,.int hi u,.int 1 v] },toks:=tk }:=by
 refine Od (Oa ..) (small_one h1 h2 h3 h4) ?_
 have I1:Inv X pins σ H { s with heap:=s.heap.push { cls := .type "range",data := .fields #[.int lo t,.int hi u,.int 1 v] },toks:=tk }:=I.kept fun b o e=>A7 _ e
 refine ⟨(s.heap.push { cls := .type "range",data := .fields #[.int lo t,.int hi u,.int 1 v] }).objs.size,[(s.heap.push { cls := .type "range",data := .fields #[.int lo t,.int hi u,.int 1 v] }).objs.size],_,_,H,rfl,
  I1.kept (t':=tk) fun b o e=>A7 _ e,trn_range _ lo (hi - lo).toNat,?_,fun b hb => ?_,q⟩
 ·have e1:lo + ((0:Nat):Int) * 1=lo:=by simp
  have e2:(((hi - lo).toNat:Nat):Int) - ((0:Nat):Int)=Jy lo hi 1:=by rw [Qt]; split <;> omega
  show G3 _ _ (lo + ((0:Nat):Int) * 1) ((((hi - lo).toNat:Nat):Int) - ((0:Nat):Int)) 1
  rw [e1,e2]
  exact Ay _ rfl
 ·have e:b=(s.heap.push { cls := .type "range",data := .fields #[.int lo t,.int hi u,.int 1 v] }).objs.size:=by simpa using hb
  subst e
  exact I1.fpOk (Ad _) (I1.hok.fresh (Ad _))
theorem pi_range1q {a:Ca} {ta:TA} {p pos:Pos} (hg:Gl X "range") (hm:X.mg "range" = none) (ha:PA X [a] ta) (hs:starEach [a] X.env = [(false,eval a X.env)]:=by rfl):PIq (QH e oe) X tg (.Call (.Name "range" p) [a] [] pos) (iRng1 ta):=by
 intro pins s σ H R I h
 refine Call_ (zes I hg hm boot_range (G0 (thn (ha pos pins s σ H _ I h) fun us s1 ⟨vs,H1,I1,r1,q1⟩ => ?_) hs rfl))
 obtain ⟨j,e,q1,q2,q⟩:=q1
 subst e
 cases r1 with
 | cons r rr =>
  cases rr
  obtain ⟨t,rfl⟩:=r
  exact Rs (range_itq I1 (by omega) (by omega) q1 q2 (by simpa using q))
end
structure RoomH (k:Nat) (A:B1) (e:A3):Prop where
 hd:A.handled=some (.ref e)
 dp:A.depth + 3 * k + 5 < recursionLimit
 un:A.units + 16 * k + 200 < cLine
theorem Room.mark {k:Nat} {A:B1} {e:A3} (r:Room k A):RoomH k (A.mark (some (.ref e))) e:=⟨rfl,r.dp,r.un⟩
theorem RoomH.depth {k:Nat} {A:B1} {e:A3} (r:RoomH k A e):A.depth < recursionLimit:=by have:=r.dp; omega
structure FnOkH (P:An) (w:B8) (K:Al) (mg:Str->Option A1) (base:Br) (e:A3) (oe:Obj) (k:Nat) (f:A3) (fd:Ed) (ps:List Str) (sp:Sp):Prop where
 len:∀ vs H Q E,sp vs H Q E->vs.length=ps.length
 run:∀ (A:B1) (outer:List Env) (s:A4) (H:Hp) (args:Args) (us:List A1) (vs:List V) (Q:VK),RoomH k A e->Env0 P w K mg base A outer s H->s.heap.get? e=some oe->H e=none->e ∉ frs outer->(∀ v,oe.data ≠ .cell v) ->
  Jz s fd args (ps.zip us)->Vals vs us->sp vs H Q E0->codeAny (model P w) A (.call (.ref f) args) (CR CX0 outer P w H s Q E0) s
noncomputable def cxH (P:An) (w:B8) (K:Al) (mg:Str->Option A1) (base:Br) (N:List Str) (qual:Str) (scope:F6) (f:A3) (cd:A1) (A:B1) (outer:List Env) (s:A4) (H:Hp) (e:A3) (oe:Obj):Cx :=
 { cxOf CX0 P w K mg base N qual scope f cd A outer s H E0 with calm:=false,pn := [(e,oe)],xe:=fun _ _=>False }
theorem cxH_q {P:An} {w:B8} {K:Al} {mg:Str->Option A1} {base:Br} {N:List Str} {qual:Str} {scope:F6} {f:A3} {cd:A1} {A:B1} {outer:List Env} {s:A4} {H:Hp} {e:A3} {oe:Obj} {vs:Array A1}
  (hh:A.handled=some (.ref e)) (de:oe.data = .fields vs) (h2:vs[2]?=some .none):QH e oe (cxH P w K mg base N qual scope f cd A outer s H e oe):=⟨hh,A6.mpr rfl,vs,de,h2⟩
theorem fn_ofH {P:An} {w:B8} {K:Al} {mg:Str->Option A1} {base:Br} {e:A3} {oe:Obj} {k:Nat} {f:A3} {name qual:Str} {params:Pi} {body:List Cd} {scope:F6} {dV kV doc pm cdv ct oc:A1} {an od:Option A3}
  {osl:Array (Option A1)} {N ps:List Str} {sp:Sp} (lk:K.lookup f=some ⟨oc,od,.func (Cg name qual params body scope dV kV doc pm an cdv ct),osl⟩) (hcd:Ex K cdv qual=true) (S:FnScope N ps scope)
  (len:∀ vs H Q E,sp vs H Q E->vs.length=ps.length)
  (hbody:∀ (A:B1) (outer:List Env) (s:A4) (H:Hp) (vs:List V) (Q:VK),A.handled=some (.ref e)->sp vs H Q E0 ->
   ∃ t,PSs (cxH P w K mg base N qual scope f cdv A outer s H e oe) body t/\t { nx:=fun _ H'=>Q .non H',rt:=Q } (start N vs) H) :
  FnOkH P w K mg base e oe (k + 1) f (Cg name qual params body scope dV kV doc pm an cdv ct) ps sp:=by
 refine ⟨len,fun A outer s H args us vs Q hr e0 he hn hne hnc hb r hsp => ?_⟩
 have hl:=len _ _ _ _ hsp
 have KX:K.In s.heap:=e0.mod.kin.keeps fun b o e=>(e0.bs b o e).1
 have lim:s.heap.NoLimit:=e0.mod.nolimit.keeps fun b o e=>(e0.bs b o e).1
 have hkind:∀ y∈ps.zip us,scope.names.lookup y.1=some .local\/(scope.names.lookup y.1=some .cell/\((cellsFrom (s.heap.objs.size + 1) scope.names []).lookup y.1).isSome=true):=fun ⟨n,v⟩ hy=>by
  rcases S.par n (Io hy).1 with q | q
  ·exact .inl q
  ·exact .inr ⟨q,Hl _ _ _ (.inl q)⟩
 refine Nm hr.depth (KX _ _ lk) rfl S.co S.gen rfl (Ma KX hcd) (hb _ _ _ _ ?_)
 refine M7 S.kind hkind fun env hen s1 x => ?_
 subst hen
 refine ⟨lim.keeps x.toInCall.keep,Rr ?_⟩
 obtain ⟨t,ht,hq⟩:=hbody A outer s H vs Q hr.hd hsp
 have I0:Inv (cxOf CX0 P w K mg base N qual scope f cdv { A with handled:=none } outer s H E0) [] (start N vs) H s1 :=
  zew S rfl ⟨e0.frames,e0.mod,e0.bs,e0.bsz,e0.funs,e0.frf,e0.hok,e0.bare⟩ hl r x
 have I:Inv (cxH P w K mg base N qual scope f cdv A outer s H e oe) [] (start N vs) H s1:=by
  refine ⟨⟨I0.ok.mod,I0.ok.kind,I0.ok.glob,I0.ok.blt,I0.ok.above,I0.ok.inj,I0.ok.has,I0.ok.cab,(fun z=>absurd z A9),M6 e0.frames,I0.ok.stk,I0.ok.exf,I0.ok.bs,I0.ok.bsz,I0.ok.noex,I0.ok.exfs,I0.ok.funs,I0.ok.frf⟩,
   I0.os,I0.bare,I0.base,I0.loc,I0.cell,I0.free,I0.freeC,fun p hp => ?_,I0.hok,I0.len⟩
  have e1:p=(e,oe):=by
   rcases Ao.mp hp with z | z
   ·exact A6.mp z
   ·cases z
  subst e1
  exact ⟨x.toInCall.keep _ _ he,hn,B7 (Am he),hne,hnc⟩
 refine D9 (ht [] s1 (start N vs) H _ I hq) (fun fl s' hs => ?_) fun e s' hs=>Cf hs
 have fin:∀ {σ':St} {H':Hp} {v:V} {u:A1},Inv (cxH P w K mg base N qual scope f cdv A outer s H e oe) [] σ' H' s'->RelV v u->Q v H'->CE outer P w H s Q u s' :=
  fun {σ' H' v u} J rv q=>⟨v,H',J.os,J.bare,J.base,J.hok,rv,q⟩
 cases fl with
 | ret u =>
  obtain ⟨v,σ',H',J,rv,q⟩:=hs
  exact fin J rv q
 | next =>
  obtain ⟨σ',H',J,q⟩:=hs
  exact fin (v:=V.non) (u:=Du) J rfl q
 | brk =>
  obtain ⟨_,_,_,q⟩:=hs
  exact Cf q
 | cont =>
  obtain ⟨_,_,_,q⟩:=hs
  exact Cf q
section
variable {X:Cx} {k:Nat} {f:A3} {fd:Ed} {ps:List Str} {sp:Sp} {x:Str} {p pos:Pos} {ex:Ca} {es:List Ca} {t:TA} {e:A3} {oe:Obj}
theorem pe_callH (F:FnOkH X.prog X.w X.K X.mg X.base e oe k f fd ps sp) (hr:RoomH k X.A e) (hp:(e,oe)∈X.pn) (hgd:e ∉ frs X.stack) (hg:Gl X x) (hm:X.mg x=some (.ref f)) (hk:Cu X.K (.ref f)=true) (hb:Binds X.K fd ps [])
  (ha:PA X (ex :: es) t) (hdb:(x == ("__debug__" : Str))=false:=by decide) (he:starEach (ex :: es) X.env=(false,eval ex X.env) :: starEach es X.env:=by rfl) (hpl:(backTo pos (starEach es X.env)).any (·.1)=false:=by rfl) :
  PE X (.Call (.Name x p) (ex :: es) [] pos) (tCall sp [] E0 t):=by
 intro pins s σ H Q I h
 refine Fu (zcB I hg hm ?_ hdb)
 refine J8 (h₀ := X.base) I.ok.mod.kin hk (thn (ha pos pins s σ H _ I h) fun us s1 ⟨vs,H1,I1,r,q⟩=>⟨I1.kIn,?_⟩) he hpl
 have q':sp vs H1 Q E0:=by simpa using q
 have hl:us.length=ps.length:=by rw [<- r.length]; exact F.len _ _ _ _ q'
 obtain ⟨e1,e2,e3,e4,e5⟩:=I1.pin (e,oe) (Bf _ hp)
 have hb':=hb s1 us I1.kIn (by simpa using hl)
 rw [Bw] at hb'
 refine Kh (J5 (F.run X.A X.stack s1 H1 ⟨us,[]⟩ us vs Q hr I1.env0 e1 e2 hgd e5 hb' r q') fun r s' hq => ?_)
 cases r with
 | error e=>exact Cf hq
 | ok fl =>
  cases fl with
  | ret u=>exact I1.after hq
  | next=>exact Cf hq
  | brk=>exact Cf hq
  | cont=>exact Cf hq
end
structure Air (P:An) (w:B8) (outer:List Env) (H:Hp) (s:A4) (E:XK) (B:Br) (x:A3) (c:A1) (H':Hp) (fl:A1) (s':A4):Prop where
 fly:Fly B outer x c fl s'.heap
 os:s'.os=s.os
 bare:Gi s'.gens
 un:Un (frs outer) [] H H' s.heap s'.heap
 hok:HOk P w H' s'.heap
 nx:H' x=none
 trk:∀ b o,H' b=some o->∃ ob,B.get? b=some ob
 old:∀ b o,s.heap.get? b=some o->b ∉ frs outer->∃ ob,B.get? b=some ob
 e:E c none H'
theorem Air.move {P:An} {w:B8} {outer:List Env} {H:Hp} {s:A4} {E:XK} {B:Br} {x:A3} {c:A1} {H':Hp} {fl fl':A1} {s':A4} {h':Br} (a:Air P w outer H s E B x c H' fl s') (F:Fly B outer x c fl' h') (up:s'.heap.UpToSlots h') :
  Air P w outer H s E B x c H' fl' { s' with heap:=h' } :=
 ⟨F,a.os,a.bare,zgy a.un a.fly.stay F.stay up a.old (zcR a.fly.frs),ze1 a.hok a.fly.stay F.stay a.trk,a.nx,a.trk,a.old,a.e⟩
noncomputable def cxTry (X:Cx) (E:XK) (pn:List (A3×Obj)):Cx :=
 { X with pn:=pn,xe:=fun e s'=>∃ pins σ H s,Inv { X with pn:=pn,xe:=fun _ _=>False } pins σ H s/\CX1 X.prog X.w X.stack H s E e s' }
noncomputable def cxHand (X:Cx) (x:A3) (ox:Obj) (pn:List (A3×Obj)):Cx :=
 { X with A:=X.A.mark (some (.ref x)),calm:=false,pn:=(x,ox) :: pn,xe:=fun _ _=>False }
section
variable {X:Cx} {pins:List (A3×Obj)} {σ : St} {H:Hp} {s:A4}
theorem za3 {E:XK} {pn:List (A3×Obj)}:Passes (CX1 X.prog X.w) (cxTry X E pn) E:=fun pins σ H s e s' I h =>
 ⟨pins,σ,H,s,⟨⟨I.ok.mod,I.ok.kind,I.ok.glob,I.ok.blt,I.ok.above,I.ok.inj,I.ok.has,I.ok.cab,I.ok.hd,I.ok.frames,I.ok.stk,I.ok.exf,I.ok.bs,I.ok.bsz,I.ok.noex,I.ok.exfs,I.ok.funs,I.ok.frf⟩,I.os,I.bare,I.base,I.loc,I.cell,I.free,I.freeC,I.pin,I.hok,I.len⟩,h⟩
theorem Inv.other {A:B1} {cm:Bool} {pn:List (A3×Obj)} {xe:A1->A4->Prop} {pins':List (A3×Obj)} (I:Inv X pins σ H s) (hf:A.frames=X.A.frames) (hd:cm=true->A.handled=none)
  (hp:∀ p∈pn ++ pins',s.heap.get? p.1=some p.2/\H p.1=none/\p.1≠X.env.locals/\p.1 ∉ X.fs/\∀ v,p.2.data ≠ .cell v):Inv { X with A:=A,calm:=cm,pn:=pn,xe:=xe } pins' σ H s :=
 ⟨⟨I.ok.mod,I.ok.kind,I.ok.glob,I.ok.blt,I.ok.above,I.ok.inj,I.ok.has,I.ok.cab,hd,hf.trans I.ok.frames,I.ok.stk,I.ok.exf,I.ok.bs,I.ok.bsz,I.ok.noex,I.ok.exfs,I.ok.funs,I.ok.frf⟩,I.os,I.bare,I.base,I.loc,I.cell,I.free,I.freeC,hp,I.hok,I.len⟩
theorem Inv.lost {h':Br} {m':Str->Option A1} {t':Nat} (I:Inv X pins σ H s) (hn':h'.Ns X.env.locals m') (hs:Fb X.env.locals s.heap h'):Inv X pins (Bo X.N.length none) H { s with heap:=h',toks:=t' }:=by
 obtain ⟨m,hn,hl⟩:=id I.loc
 obtain ⟨oL,_,_,hoL,_⟩:=id hn
 refine ⟨I.ok,I.os,I.bare,⟨fun b o e n hb hx => ?_,fun b o e n hb hx => ?_,I.base.free,fun b o e hx => ?_,I.base.tups,I.base.frzs,I.base.tbls⟩,⟨m',hn',fun j y v' e1 e2 e3 => ?_⟩,fun y c e => ?_,I.free,I.freeC,fun p hp => ?_,fun b ob e => ?_,by simp⟩
 ·exact (hs.2 b (B7 (Af (Am e) I.ok.above))).trans (I.base.keep b o e n hb hx)
 ·obtain ⟨sl,e1⟩:=I.base.slot b o e n hb hx
  exact ⟨sl,(hs.2 b (B7 (Af (Am e) I.ok.above))).trans e1⟩
 ·obtain ⟨o',e1⟩:=I.base.there b o e hx
  exact ⟨o',(hs.2 b (B7 (Af (Am e) I.ok.above))).trans e1⟩
 ·rw [Hq] at e2
  split at e2 <;> cases e2
 ·obtain ⟨w',z⟩:=I.cell y c e
  exact ⟨w',z.sameBut hs (I.cne y c e)⟩
 ·obtain ⟨e,n,ne,nf,d⟩:=I.pin p hp
  exact ⟨(hs.2 p.1 ne).trans e,n,ne,nf,d⟩
 ·refine (I.hok b ob e).stay (fun c w' hc q=>(hs.2 c ?_).trans q) (fun _ q=>q) fun _ _ q=>q
  intro hcl
  rw [hcl] at hc
  rcases hc with z | z
  ·rw [<- z,I.free] at e; cases e
  ·rw [I.free] at z; cases z
noncomputable def tTry (X:Cx) (CE:A1) (i:Nat) (tb:XK->TS) (th:A3->A1->TS):TS:=fun D σ H=>∃ E:XK,tb E D σ H /\
 ∀ c H' x,E c none H'->H' x=none->Ii X.K c CE=some true/\th x c { nx:=fun _ _=>False,rt:=D.rt,bk:=fun _ _=>False,ct:=fun _ _=>False } ((Bo X.N.length none).set i (some (.ref x))) H'
theorem ps_try {body:List Cd} {cn n:Str} {np hpos pos:Pos} {b₀ : Cd} {suite:List Cd} {i:Nat} {CE:A1} {tb:XK->TS} {th:A3->A1->TS} (hst:X.stack=X.env :: X.outer) (hfr:X.env.frame=some X.env.locals) (hN:X.N.Nodup) (hi:X.N[i]?=some n)
  (hl:X.env.scope.names.lookup n=some .local) (hg:Gl X cn) (hm:X.mg cn=some CE)
  (hb:∀ E pn,PSs (cxTry X E pn) body (tb E))
  (hh:∀ x c ox pn vs,ox.cls=c/\ox.dict=none->ox.data = .fields vs->vs[2]?=some .none->x ∉ frs X.stack->PSs (cxHand X x ox pn) (b₀ :: suite) (th x c))
  (hd:(cn == ("__debug__" : Str))=false:=by decide) :
  PS X (.Try body [.ExceptHandler (some (.Name cn np)) (some n) (b₀ :: suite) hpos] [] [] pos) (tTry X CE i tb th):=by
 intro pins s σ H D I h
 obtain ⟨E,hbd,hex⟩:=h
 have I1:Inv (cxTry X E (X.pn ++ pins)) [] σ H s:=I.other rfl I.ok.hd (by rw [Bw]; exact I.pin)
 have back:∀ {σ' H' s'},Inv (cxTry X E (X.pn ++ pins)) [] σ' H' s'->Inv X pins σ' H' s':=fun {σ' H' s'} J =>
  Inv.other (X:=cxTry X E (X.pn ++ pins)) (A:=X.A) (cm:=X.calm) (pn:=X.pn) (xe:=X.xe) J rfl I.ok.hd fun p hp=>J.pin p (Bf _ hp)
 refine wpAny_Try_except (D9 (hb E (X.pn ++ pins) [] s σ H D I1 hbd) (fun f s1 q => ?_) fun e s1 q => ?_)
 ·cases f with
  | next=>obtain ⟨σ',H',J,q⟩:=q; exact Gq ⟨σ',H',back J,q⟩
  | ret u=>obtain ⟨v,σ',H',J,r,q⟩:=q; exact ⟨v,σ',H',back J,r,q⟩
  | brk=>obtain ⟨σ',H',J,q⟩:=q; exact ⟨σ',H',back J,q⟩
  | cont=>obtain ⟨σ',H',J,q⟩:=q; exact ⟨σ',H',back J,q⟩
 ·obtain ⟨pins',σ',H1,s0,J,x,c,B,H2,rfl,F,ho,hgn,u,ok,nx,inB,old,q⟩:=q
  have a0:Air X.prog X.w (X.env :: X.outer) H1 s0 E B x c H2 .none s1:=hst ▸ ⟨F,ho,hgn,u,ok,nx,inB,old,q⟩
  have hfrm:X.A.frames=some (X.env :: X.outer):=hst ▸ I.ok.frames
  refine zfF hfrm hfr a0.fly fun h1 F1 u1 => ?_
  have a1:=a0.move F1 u1
  refine zcQ a1.fly fun h2 F2 u2 => ?_
  have a2:=a1.move F2 u2
  obtain ⟨hE,hth⟩:=hex c H2 x q nx
  have inv2:∀ {fl s'},Air X.prog X.w (X.env :: X.outer) H1 s0 E B x c H2 fl s'->Inv { X with pn:=X.pn ++ pins,xe:=fun _ _=>False } pins' σ' H2 s':=fun {fl s'} a =>
   J.call' a.os (show Un (frs X.stack) [] H1 H2 s0.heap s'.heap by rw [hst]; exact a.un) a.hok a.bare fun b z=>absurd z (by simp)
  have J2:=inv2 a2
  have xo:x ∉ frs X.stack:=fun z=>by
   rw [hst] at z
   obtain ⟨oe,vs,_,_,_,h1,_,h2,_⟩:=a2.fly.obj
   exact zcR a2.fly.frs x z oe h1 vs h2
  have xl:x≠X.env.locals:=fun z=>xo (by rw [hst]; exact En.mpr ⟨X.env,Ag,by rw [z]; exact hfr⟩)
  have xf:x ∉ X.fs:=fun z=>xo (by
   rw [hst]
   obtain ⟨y,hy,e⟩:=En.mp z
   exact En.mpr ⟨y,A8 _ hy,e⟩)
  have J2m:Inv { X with A:=X.A.mark (some (.ref x)),calm:=false,pn := [],xe:=fun _ _=>False } [] σ' H2 { s1 with heap:=h2 }:=J2.other rfl (fun z=>absurd z A9) fun p hp=>absurd hp (by simp)
  refine wpAny_handleBy_cons (codeAny_handlers_test (zcB (X:={ X with A:=X.A.mark (some (.ref x)),calm:=false,pn := [],xe:=fun _ _=>False }) J2m hg hm ?_ hd)) (by intro q; cases q)
  have LT:Kr (model X.prog X.w) h2 (typeOf (.ref x)) c:=by
   obtain ⟨oe,vs,_,_,_,h1,hc,_⟩:=a2.fly.obj
   rw [<- hc.1]
   exact (Oy h1).andThen .now
  refine (PySem.W.exm_one (M:=model X.prog X.w) J2.kIn LT hE).here ?_
  dsimp only
  rw [if_pos rfl]
  refine codeAny_handlers_suite_as ?_
  refine zcQ a2.fly fun h3 F3 u3 => ?_
  have a3:=a2.move F3 u3
  have J3:=inv2 a3
  obtain ⟨ox,vs,T,oT,ts,hx,hc,hdx,h1x,h2x,nT,tx,hT,dT,h3x⟩:=a3.fly.obj
  have K3:Inv (cxHand X x ox (X.pn ++ pins)) [] σ' H2 { s1 with heap:=h3 }:=J3.other (A:=X.A.mark (some (.ref x))) (cm:=false) (pn:=(x,ox) :: (X.pn ++ pins)) (xe:=fun _ _=>False) rfl (fun z=>absurd z A9) fun p hp=>by
   rw [Bw] at hp
   rcases B6.mp hp with z | z
   ·subst z; exact ⟨hx,nx,xl,xf,fun v z=>by rw [hdx] at z; cases z⟩
   ·exact J3.pin p (Bf _ z)
  have K3w:=K3.weak (σ':=Bo X.N.length none) (by rw [Md]; exact K3.len.symm) fun i v e=>by
   rw [Hq] at e
   split at e <;> cases e
  refine zdM (X:=cxHand X x ox (X.pn ++ pins)) (v:=V.ref x) K3w hN hi (.inl hl) rfl (fun s4 K4 => ?_) (.inr hl)
  refine D9 (hh x c ox (X.pn ++ pins) vs hc hdx h2x xo [] s4 _ H2 _ K4 hth) (fun f s5 q5 => ?_) fun _ _ z=>Cf z
  cases f with
  | next=>obtain ⟨_,_,_,z⟩:=q5; exact Cf z
  | brk=>obtain ⟨_,_,_,z⟩:=q5; exact Cf z
  | cont=>obtain ⟨_,_,_,z⟩:=q5; exact Cf z
  | ret u5 =>
   obtain ⟨v,σ5,H5,K5,r5,q5⟩:=q5
   obtain ⟨m5,hn5,_⟩:=id K5.loc
   refine wpAny_nameGoes (env:=X.env) (show X.env.kindOf n=some .local from hl) hn5 (by rw [I.ok.kind]; rfl) fun h6 m6 hn6 sb6 => ?_
   have K6:=K5.lost (t':=s5.toks + 1) hn6 sb6
   refine ⟨v,Bo X.N.length none,H5,?_,r5,q5⟩
   exact Inv.other (X:=cxHand X x ox (X.pn ++ pins)) (A:=X.A) (cm:=X.calm) (pn:=X.pn) (xe:=X.xe) K6 rfl I.ok.hd fun p hp=>K6.pin p (Bf _ (A8 _ hp))
end
structure ErrCls (K:Al) (D:A3):Prop where
 ga:Bq K (.ref D) "__getattribute__" = some (some (.builtin "BaseException.__getattribute__"))
 gh:Bq K (.ref D) "__getattr__" = some none
 hc:(Fz K D).isSome=true
 ha:Bq K (.ref D) "__class__" = some (some (.builtin "object.__class__"))
 hn:Jj K (.builtin "object.__class__") "__get__" = some (some (.builtin "getset_descriptor.__get__"))
 ht:K1 K (.builtin "object.__class__")=some true
 hm:Ec K D (.type "object")=some true
 hb:Ec K D (.type "BaseException")=some true
theorem find_cls {K:Al} {D:A3} (E:ErrCls K D) (od:Option Obj):N0 K D od "__class__" = some (.bind (.builtin "getset_descriptor.__get__") (.builtin "object.__class__")):=by
 obtain ⟨cd,hc⟩:=D7.mp E.hc
 unfold N0
 rw [hc]
 simp [E.ha,E.hn,E.ht]
section
variable {prog:An} {w:B8} {A:B1} {E:A1->A4->Prop} {s:A4} {K:Al} {x D:A3} {ox:Obj}
theorem exc_check {M:Hm} {nameV:A1} {Q:Unit->A4->Prop} (Er:ErrCls K D) (X:K.In s.heap) (I:Ey s.heap x ox D none) (hq:Q () s) :
  wpAny M A (checkBuiltinCall "BaseException.__getattribute__" ⟨[.ref x,nameV],[]⟩) Q E s:=by
 have hk:builtinKind "BaseException.__getattribute__" = some .slot:=by decide +kernel
 have hsplit:splitId "BaseException.__getattribute__" = some ("BaseException","__getattribute__"):=by decide +kernel
 have ha:=F.args_bexc_ga (.ref x) nameV
 have L0:=I.type (M:=M)
 have L1:=PySem.W.looks_mroIn (M:=M) X Er.hb
 have LI:Kr M s.heap (isInstance (.ref x) (.type "BaseException")) true:=L0.andThen L1
 obtain ⟨h,g,d,t,os⟩:=s
 simp only [checkBuiltinCall,hk,hsplit]
 refine A2 (LI.at ?_)
 repeat (any_goals (first | assumption | wp_step))
theorem exc_entry {tk:Tok} {Q:Fin->A4->Prop} (Er:ErrCls K D) (X:K.In s.heap) (I:Ey s.heap x ox D none) (hq:Q (.done (.ret (.ref D))) s) :
  wpAny (model prog w) A (G9.«object.__getattribute__» ⟨[.ref x,.str "__class__" tk],[]⟩) Q E s:=by
 obtain ⟨h,g,d,t,os⟩:=s
 have L0:=I.type (M:=model prog w)
 have L1:=PySem.W.looks_find (M:=model prog w) X I (find_cls Er none)
 unfold G9.«object.__getattribute__»
 refine A2 (Nv (a:=(.ref x,[.str "__class__" tk])) (by rfl) ?_)
 dsimp only
 refine A2 (Ae (A2 (L0.at (A2 (L1.at ?_)))))
 show wpAny _ _ (Iy (.builtin "getset_descriptor.__get__") (.builtin "object.__class__") (.ref x) (.ref D)) _ _ _
 unfold Iy
 dsimp only
 refine A2 (D1 (Kh (PySem.W.class_get (s:=⟨h,g,d,t,os⟩) (ox:=ox) (od:=none) X I Er.hm ?_)))
 exact Ae hq
theorem exc_call {tk:Tok} {R:Qn->A4->Prop} (Er:ErrCls K D) (X:K.In s.heap) (I:Ey s.heap x ox D none) (hq:R (.ok (.ret (.ref D))) s) :
  codeAny (model prog w) A (.call (.builtin "BaseException.__getattribute__") ⟨[.ref x,.str "__class__" tk],[]⟩) R s :=
 codeAny_call_builtin Ni.ga.plain F.entry_bexc_ga (exc_check Er X I (exc_entry Er X I hq))
theorem exc_class {Q:Option A1->A4->Prop} (Er:ErrCls K D) (X:K.In s.heap) (I:Ey s.heap x ox D none) (hq:Q (some (.ref D)) { s with toks:=s.toks + 1 }):wpAny (model prog w) A (getAttr? (.ref x) "__class__") Q E s:=by
 obtain ⟨h,g,d,t,os⟩:=s
 have L0:=I.type (M:=model prog w)
 have L1:=Ig (M:=model prog w) X Er.ga
 have L2:=Ig (M:=model prog w) X Er.gh
 have f3:=Ni.ga.bind (.ref x)
 unfold getAttr? getAttrBy? getAttrBy
 refine A2 (wpAny_mkText (A2 (Gg (D1 (A2 (L0.at (A2 (L1.at ?_))))))))
 have hx2:(onTheHeap (Az D) && Jd "BaseException.__getattribute__" == Jd "object.__getattribute__")=false:=by
  have hx1:(Jd "BaseException.__getattribute__" == Jd "object.__getattribute__")=false:=by decide +kernel
  rw [hx1,Ob]
 dsimp only
 rw [hx2,if_neg A9]
 unfold getAttrByItsOwn hookBefore
 refine A2 ?_
 rw [if_pos (by rfl)]
 refine L2.at ?_
 refine A2 (Gg (D1 ?_))
 unfold callGetattribute
 rw [if_neg (by decide)]
 unfold boundAndCalled
 refine A2 ?_
 rw [f3]
 refine Ae ?_
 refine Kh (exc_call (s:=⟨h,g,d,t + 1,os⟩) Er X I ?_)
 exact PySem.W.handed_on rfl (Ae hq)
end
theorem isType_cls {K:Al} {D:A3} {M:Hm} {h:Br} (X:K.In h) (hc:(Fz K D).isSome=true):Kr M h (isType (.ref D)) true:=by
 obtain ⟨cd,hc⟩:=D7.mp hc
 unfold Fz at hc
 split at hc
 ·next ho =>
  intro A Q E s k q
  unfold isType loadHead
  exact A2 (Qf (k _ _ (X _ _ ho)) (Ae q))
 ·cases hc
theorem kitx_exc {K:Al} {x D:A3} {ox:Obj} (Er:ErrCls K D):PySem.W.KitX K (.ref x) (.ref D) (fun h=>Ey h x ox D none) where
 ty:=fun _ _ _ I=>I.type
 it:=fun _ _ X _=>isType_cls X Er.hc
 ne:=fun h tp dd its n sl X htp=>by
  obtain ⟨cd,hc⟩:=D7.mp Er.hc
  refine Nj.mpr fun q => ?_
  have e:D=tp:=Mz (beq_iff_eq.mp q)
  subst e
  unfold Fz at hc
  split at hc
  ·next ho =>
   have z:=(X _ _ ho).symm.trans htp
   cases z
  ·cases hc
 ca:=fun X I k=>exc_class Er X I k
section
variable {X:Cx}
theorem zaP:CallR X (.builtin "isinstance") (fun xs H Q=>∃ (e C D:A3) (oe:Obj) (b:Bool),xs = [.ref e,.ref C]/\((e,oe)∈X.pn/\(oe.cls = .ref D/\oe.dict=none)/\∃ vs,oe.data = .fields vs)/\ErrCls X.K D/\Fg X.K (.ref D) (.ref C)=some b/\Q (.bl b) H):=by
 intro pins s σ H xs us Q I r h
 obtain ⟨e,C,D,oe,b,rfl,⟨hp,⟨hc,hd⟩,vs,hv⟩,Er,hk,q⟩:=h
 obtain ⟨u,u',rfl,ru,ru'⟩:=zg9 r
 cases (show u=Az e from ru)
 cases (show u'=Az C from ru')
 have ia:Ey s.heap e oe D none:=⟨(I.pin (e,oe) (Bf _ hp)).1,hc,by unfold PySem.W.notCls; rw [hv],by rw [hd]; trivial⟩
 exact Cv (kitx_exc (ox:=oe) Er) I.kIn ia hk (fun z=>nomatch z) fun tk=>⟨.bl b,H,I.tok _,rfl,q⟩
end
structure Err (K:Al) (mg:Str->Option A1) (x:Str) (C:A3):Prop where
 bound:mg x=some (.ref C)
 exc:Gr K C [.type "ValueError",.type "Exception",.type "BaseException",.type "object"] "ValueError.__new__" = true
theorem err_obj {K:Al} {h:Br} {C:A3} {bmB:List A1} {newId:String} (X:K.In h) (q:Gr K C bmB newId=true) :
  ∃ bm N nm q bs hdct sn sub ab col dd k0 k1 k2 k3 k5 mN,h.get? C=some (excClassObj nm q C N bs bm hdct sn sub ab col dd k0 k1 k2 k3 k5 newId)/\h.Ns N mN/\mN "__init__" = none/\OwnTail h bmB bm:=by
 unfold Gr at q
 split at q
 ·next dd cd sl ho =>
  split at q
  ·next C' bm k0 k1 k2 k3 n k5 hm hs =>
   simp only [Bt,beq_iff_eq,Fs] at q
   obtain ⟨⟨⟨⟨⟨r1,r2⟩,hdel⟩,ht⟩,hok⟩,hni⟩:=q
   subst r1 r2
   cases cd with
   | mk nm bs mro ns qn hd sn sub ab col del =>
    dsimp only at hm hdel hok hni
    subst hm hdel
    cases sl with
    | mk l =>
     simp only at hs
     subst hs
     exact ⟨bm,ns,nm,qn,bs,hd,sn,sub,ab,col,dd,k0,k1,k2,k3,k5,_,X _ _ ho,.of_isNs (PySem.W.isNs_of_in X hok),PySem.W.nsMap_none_of_in X hok hni,PySem.W.tail_of_in X ht⟩
  ·cases q
 ·cases q
noncomputable def tRaise (E:XK) (C:A3) (ta:TA):TS:=fun _ σ H=>ta σ H fun vs H1=>vs.length<=sizeLine/\E (.ref C) none H1
section
variable {P:An} {w:B8} {K:Al} {mg:Str->Option A1} {base:Br} {N:List Str} {qual:Str} {scope:F6} {f:A3} {cd:A1} {A:B1} {outer:List Env} {s₀ : A4} {H₀ : Hp} {E:XK}
theorem zbk {x:Str} {C:A3} {np cpos pos:Pos} {e:Ca} {es:List Ca} {t:TA} (O:Err K mg x C) (hg:Gl (cxOf (CX1 P w) P w K mg base N qual scope f cd A outer s₀ H₀ E) x)
  (ha:PA (cxOf (CX1 P w) P w K mg base N qual scope f cd A outer s₀ H₀ E) (e :: es) t) (hd:(x == ("__debug__" : Str))=false:=by decide)
  (he:starEach (e :: es) (envOfC qual scope s₀.heap.objs.size f cd)=(false,eval e (envOfC qual scope s₀.heap.objs.size f cd)) :: starEach es (envOfC qual scope s₀.heap.objs.size f cd):=by rfl)
  (hpl:(backTo cpos (starEach es (envOfC qual scope s₀.heap.objs.size f cd))).any (·.1)=false:=by rfl) :
  PS (cxOf (CX1 P w) P w K mg base N qual scope f cd A outer s₀ H₀ E) (.Raise (some (.Call (.Name x np) (e :: es) [] cpos)) none pos) (tRaise E C t):=by
 intro pins s σ H D I h
 obtain ⟨bm,Nn,nm,q,bs,hdct,sn,sub,ab,col,dd,k0,k1,k2,k3,k5,mN,hC,hN,hni,T⟩:=err_obj I.ok.mod.kin O.exc
 refine wpAny_Raise_call_subT (C:=C) (nm:=nm) (q:=q) (N:=Nn) (bs:=bs) (bm:=bm) (hdct:=hdct) (sn:=sn) (sub:=sub) (ab:=ab) (col:=col) (dd:=dd) (k0:=k0) (k1:=k1) (k2:=k2) (k3:=k3) (k5:=k5) (env:=envOfC qual scope s₀.heap.objs.size f cd)
  Nh (mN:=mN) (T.hasType Nh.hasBase) (I.ok.hd rfl) ?_ hni (zcB I hg O.bound ⟨rfl,?_⟩ hd)
 ·rw [he]
  show (false || (backTo cpos (starEach es (envOfC qual scope s₀.heap.objs.size f cd))).any (·.1))=false
  rw [hpl]; rfl
 ·have g:=ha cpos pins s σ H _ I h
  change wpAny _ _ (spliced (backTo cpos (starEach (e :: es) (envOfC qual scope s₀.heap.objs.size f cd)))) _ _ s at g
  rw [he] at g ⊢
  refine Mg (thn g fun us s2 ⟨vs,H1,I1,r,hl,q⟩ => ?_)
  exact ⟨rfl,by rw [<- r.length]; exact hl,I1.bk _ _ hC,hN.keeps I1.bk,T.keeps I1.bk,fun h' x hx=>raise_out I1 hx rfl I1.bare q⟩
end
structure Callee1 (P:An) (w:B8) (K:Al) (mg:Str->Option A1) (base:Br) (x:Str) (k:Nat) (ps:List Str) (sp:Sp):Prop where
 ex:∃ f fd,FnOk P w K mg base (CX1 P w) k f fd ps sp/\mg x=some (.ref f)/\Cu K (.ref f)=true/\Binds K fd ps []
structure MethAt (K:Al) (C:A3) (cn m:Str) (st:Cd):Prop where
 ex:∃ f fd,Fun K m (cn ++ A0 "." ++ m) st f fd/\Meth K C m f
structure Method (P:An) (w:B8) (K:Al) (mg:Str->Option A1) (base:Br) (C:A3) (m:Str) (CX:CXT) (k:Nat) (ps:List Str) (sp:Sp):Prop where
 ex:∃ f fd,FnOk P w K mg base CX k f fd ps sp/\Meth K C m f/\Binds K fd ps []
section
variable {P:An} {w:B8} {K:Al} {mg:Str->Option A1} {base:Br}
theorem Fun.ok1 {x qual:Str} {st:Cd} {f:A3} {fd:Ed} {N ps:List Str} {k:Nat} {sp:Sp} (F:Fun K x qual st f fd) (S:FnScope N ps (defScope st)) (len:∀ vs H Q E,sp vs H Q E->vs.length=ps.length)
  (hbody:∀ (cdv:A1) (A:B1) (outer:List Env) (s:A4) (H:Hp) (vs:List V) (Q:VK) (E:XK),Room k (A.deeper (envOfC qual (defScope st) s.heap.objs.size f cdv))->sp vs H Q E ->
   ∃ t,PSs (cxOf (CX1 P w) P w K mg base N qual (defScope st) f cdv A outer s H E) (defBody st) t/\t { nx:=fun _ H'=>Q .non H',rt:=Q } (start N vs) H):FnOk P w K mg base (CX1 P w) (k + 1) f fd ps sp:=by
 obtain ⟨oc,od,kV,doc,pm,an,cdv,ct,osl,rfl,lk,hcd⟩:=F.ex
 exact zhi lk hcd S len fun A outer s H vs Q E hr hsp=>hbody cdv A outer s H vs Q E hr hsp
theorem DefAt.callee1 {x:Str} {st:Cd} {N ps:List Str} {k:Nat} {sp:Sp} (D:DefAt K mg x st) (S:FnScope N ps (defScope st))
  (hb:∀ (kV doc pm:A1) (an:Option A3) (cdv ct:A1) (us:List A1),us.length=ps.length->bindArgs (Cg x x (defArgs st) (defBody st) (defScope st) .none kV doc pm an cdv ct) ⟨us,[]⟩=pure (ps.zip us))
  (len:∀ vs H Q E,sp vs H Q E->vs.length=ps.length)
  (hbody:∀ (f:A3) (cdv:A1) (A:B1) (outer:List Env) (s:A4) (H:Hp) (vs:List V) (Q:VK) (E:XK),Room k (A.deeper (envOfC x (defScope st) s.heap.objs.size f cdv))->sp vs H Q E ->
   ∃ t,PSs (cxOf (CX1 P w) P w K mg base N x (defScope st) f cdv A outer s H E) (defBody st) t/\t { nx:=fun _ H'=>Q .non H',rt:=Q } (start N vs) H):Callee1 P w K mg base x (k + 1) ps sp:=by
 obtain ⟨f,fd,F,m⟩:=D.ex
 exact ⟨f,fd,F.ok1 S len (fun cdv A outer s H vs Q E hr h=>hbody f cdv A outer s H vs Q E hr h),m,F.kp,F.binds hb⟩
theorem MethAt.meth1 {cn m:Str} {C:A3} {st:Cd} {N ps:List Str} {k:Nat} {sp:Sp} (D:MethAt K C cn m st) (S:FnScope N ps (defScope st))
  (hb:∀ (kV doc pm:A1) (an:Option A3) (cdv ct:A1) (us:List A1),us.length=ps.length->bindArgs (Cg m (cn ++ A0 "." ++ m) (defArgs st) (defBody st) (defScope st) .none kV doc pm an cdv ct) ⟨us,[]⟩=pure (ps.zip us))
  (len:∀ vs H Q E,sp vs H Q E->vs.length=ps.length)
  (hbody:∀ (f:A3) (cdv:A1) (A:B1) (outer:List Env) (s:A4) (H:Hp) (vs:List V) (Q:VK) (E:XK),Room k (A.deeper (envOfC (cn ++ A0 "." ++ m) (defScope st) s.heap.objs.size f cdv))->sp vs H Q E ->
   ∃ t,PSs (cxOf (CX1 P w) P w K mg base N (cn ++ A0 "." ++ m) (defScope st) f cdv A outer s H E) (defBody st) t/\t { nx:=fun _ H'=>Q .non H',rt:=Q } (start N vs) H):Method P w K mg base C m (CX1 P w) (k + 1) ps sp:=by
 obtain ⟨f,fd,F,m⟩:=D.ex
 exact ⟨f,fd,F.ok1 S len (fun cdv A outer s H vs Q E hr h=>hbody f cdv A outer s H vs Q E hr h),m,F.binds hb⟩
theorem MethAt.meth0 {cn m:Str} {C:A3} {st:Cd} {N ps:List Str} {k:Nat} {sp:Sp} (D:MethAt K C cn m st) (S:FnScope N ps (defScope st))
  (hb:∀ (kV doc pm:A1) (an:Option A3) (cdv ct:A1) (us:List A1),us.length=ps.length->bindArgs (Cg m (cn ++ A0 "." ++ m) (defArgs st) (defBody st) (defScope st) .none kV doc pm an cdv ct) ⟨us,[]⟩=pure (ps.zip us))
  (len:∀ vs H Q E,sp vs H Q E->vs.length=ps.length)
  (hbody:∀ (f:A3) (cdv:A1) (A:B1) (outer:List Env) (s:A4) (H:Hp) (vs:List V) (Q:VK) (E:XK),Room k (A.deeper (envOfC (cn ++ A0 "." ++ m) (defScope st) s.heap.objs.size f cdv))->sp vs H Q E ->
   ∃ t,PSs (cxOf CX0 P w K mg base N (cn ++ A0 "." ++ m) (defScope st) f cdv A outer s H E).nox (defBody st) t/\t { nx:=fun _ H'=>Q .non H',rt:=Q } (start N vs) H):Method P w K mg base C m CX0 (k + 1) ps sp:=by
 obtain ⟨f,fd,F,m⟩:=D.ex
 exact ⟨f,fd,F.ok S len (fun cdv A outer s H vs Q E hr h=>hbody f cdv A outer s H vs Q E hr h),m,F.binds hb⟩
end
section
variable {X:Cx} {x m:Str} {k:Nat} {ps:List Str} {sp:Sp} {p pos apos:Pos} {o e:Ca} {es:List Ca} {ta:TE} {t:TA} {E:XK} {C:A3} {CX:CXT}
theorem zek (F:Callee1 X.prog X.w X.K X.mg X.base x k ps sp) (hr:Room k X.A) (hx:Passes (CX1 X.prog X.w) X E) (hg:Gl X x) (ha:PA X (e :: es) t) (hdb:(x == ("__debug__" : Str))=false:=by decide)
  (he:starEach (e :: es) X.env=(false,eval e X.env) :: starEach es X.env:=by rfl) (hpl:(backTo pos (starEach es X.env)).any (·.1)=false:=by rfl):PE X (.Call (.Name x p) (e :: es) [] pos) (tCall sp [] E t):=by
 obtain ⟨f,fd,F,hm,hk,hb⟩:=F.ex
 exact zgd F hr hg hm hk hb .nil hx ha hdb he hpl
theorem zgb {pl:Sem Bool} (he:PE X o ta) (c:Cls X.K C) (F:Method X.prog X.w X.K X.mg X.base C m CX k ps sp) (hr:Room k X.A) (hx:Passes CX X E) (ha:PA X (e :: es) t)
  (hst:starEach (e :: es) X.env=(false,eval e X.env) :: starEach es X.env:=by rfl) (hpl:(backTo pos (starEach es X.env)).any (·.1)=false:=by rfl)
  (ht:eval (.Call (.Attribute o m apos) (e :: es) [] pos) X.env=(do
   let ov <- eval o X.env
   standAt apos.atName
   let (f,first) <- holding [ov] (getMethod ov m pl)
   callWith pos f first (backTo pos (starEach (e :: es) X.env)) (backToKw pos (keywordEach [] X.env))):=by rfl) :
  PE X (.Call (.Attribute o m apos) (e :: es) [] pos) (tMeth C m sp [] E ta t):=by
 obtain ⟨f,fd,F,hm,hb⟩:=F.ex
 exact pe_meth he c hm F hr hb .nil hx ha hst hpl ht
theorem pe_mt0 {pl:Sem Bool} (he:PE X o ta) (c:Cls X.K C) (F:Method X.prog X.w X.K X.mg X.base C m CX k ps sp) (hr:Room k X.A) (hx:Passes CX X E)
  (ht:eval (.Call (.Attribute o m apos) [] [] pos) X.env=(do
   let ov <- eval o X.env
   standAt apos.atName
   let (f,first) <- holding [ov] (getMethod ov m pl)
   callWith pos f first (backTo pos (starEach [] X.env)) (backToKw pos (keywordEach [] X.env))):=by rfl) :
  PE X (.Call (.Attribute o m apos) [] [] pos) (tMeth C m sp [] E ta tNil):=by
 obtain ⟨f,fd,F,hm,hb⟩:=F.ex
 exact pe_meth0 he c hm F hr hb .nil hx ht
end
section
variable {X:Cx}
noncomputable def gLst (K:Al) (n:Nat) (t:TGs):TG:=fun v σ H Q=>∃ a xs,v = .ref a/\SqL K H a xs/\xs.length=n/\t xs σ H Q
theorem zfr {es:List Ca} {k:Nat} {t:TGs} {n:Nat} {pos:Pos} (hc:X.calm=true) (h:PGs X es t)
  (hn:(assignEach es X.env).length=n:=by rfl) (hst:(assignEach es X.env).findIdx? (·.1)=none:=by rfl):PG X (.Tuple es k pos) (gLst X.K n t):=by
 intro pins s σ H v u Q I r hw
 obtain ⟨a,xs,e1,hq,hl,hw⟩:=hw
 subst e1
 cases r
 obtain ⟨its,rv,p,hz⟩:=I.list hq
 rw [Q7]
 refine A2 (Kc ?_)
 unfold unpack
 have hsz:(assignEach es X.env).length=its.toArray.size:=by simp [hn,<- hl,rv.length]
 rw [hsz,hst]
 refine A2 (D1 (PySem.W.kun_itemsOf (I.ok.hd hc) p.isList fun h' hx => ?_))
 have I1:Inv X pins σ H { s with heap:=h' }:=I.kept (t':=s.toks) fun b o e=>hx b o (B7 (Am e)) e
 exact h pins _ σ H xs _ Q I1 (by simpa using rv) hw
end
mutual
inductive VD (K:Al) (H:Hp):V->Ij->Prop
 | non:VD K H .non .none
 | bl (b:Bool):VD K H (.bl b) (.bool b)
 | int (i:Int):VD K H (.int i) (.int i)
 | str (x:Str):VD K H (.str x) (.str x)
 | lst {a:A3} {xs:List V} {ds:List Ij}:SqL K H a xs->VDs K H xs ds->VD K H (.ref a) (.list ds)
 | tup {a:A3} {xs:List V} {ds:List Ij}:SqT K H a xs->VDs K H xs ds->VD K H (.ref a) (.tuple ds)
inductive VDs (K:Al) (H:Hp):List V->List Ij->Prop
 | nil:VDs K H [] []
 | cons {x:V} {d:Ij} {xs:List V} {ds:List Ij}:VD K H x d->VDs K H xs ds->VDs K H (x :: xs) (d :: ds)
end
theorem VDs.map {K:Al} {H:Hp} {α : Type} {f : α -> V} {g : α -> Ij}:∀ {l:List α},(∀ x∈l,VD K H (f x) (g x))->VDs K H (l.map f) (l.map g)
 | [],_ => .nil
 | x :: l,h => .cons (h x Ag) (VDs.map fun y hy=>h y (A8 _ hy))
section
variable {X:Cx} {pins:List (A3×Obj)} {σ : St} {H:Hp} {s:A4}
mutual
theorem VD.reads (I:Inv X pins σ H s):∀ {v:V} {d:Ij} {u:A1},VD X.K H v d->RelV v u->∃ as,Reads s.heap u d as
 | _,_,_,.non,r=>by cases r; exact ⟨_,.none⟩
 | _,_,_,.bl b,r=>by cases r; exact ⟨_,.bool b⟩
 | _,_,_,.int i,r=>by obtain ⟨t,rfl⟩:=r; exact ⟨_,.int i t⟩
 | _,_,_,.str x,r=>by obtain ⟨t,rfl⟩:=r; exact ⟨_,.str x t⟩
 | _,_,_,.lst hq hs,r=>by
  cases r
  obtain ⟨its,rv,⟨o,n,e,c,_,d⟩,_⟩:=I.list hq
  obtain ⟨as,ra⟩:=VDs.reads I hs rv
  exact ⟨_,.list e c d (by simpa using ra)⟩
 | _,_,_,.tup hq hs,r=>by
  cases r
  obtain ⟨its,rv,⟨o,e,c,n,d⟩,_⟩:=I.tuple hq
  obtain ⟨as,ra⟩:=VDs.reads I hs rv
  exact ⟨_,.tuple e c d (by simpa using ra)⟩
theorem VDs.reads (I:Inv X pins σ H s):∀ {vs:List V} {ds:List Ij} {us:List A1},VDs X.K H vs ds->Vals vs us->∃ as,ReadsAll s.heap us ds as
 | _,_,_,.nil,r=>by cases r; exact ⟨_,.nil⟩
 | _,_,_,.cons h hs,r=>by
  cases r with
  | cons r rr =>
   obtain ⟨a1,r1⟩:=VD.reads I h r
   obtain ⟨a2,r2⟩:=VDs.reads I hs rr
   exact ⟨_,.cons r1 r2⟩
end
end
section
variable {X:Cx}
noncomputable def rEqD (K:Al) (neg:Bool):R2:=fun x y H Q=>∃ d e,VD K H x d/\VD K H y e/\Fa d=true/\Fa e=true/\Q (.bl (if neg then !PyData.eqv d e else E3 d e)) H
theorem zgZ (hu:X.A.units + 64 < cLine):OpR X (compareOp .Eq) (rEqD X.K false):=by
 intro pins s σ H x y v u Q I rx ry h
 obtain ⟨d,e,hd,he,s1,s2,q⟩:=h
 obtain ⟨a1,r1⟩:=hd.reads I rx
 obtain ⟨a2,r2⟩:=he.reads I ry
 exact eq_dataH r1 r2 s1 s2 hu ⟨.bl _,H,I,rfl,q⟩
theorem op_neD (hu:X.A.units + 64 < cLine):OpR X (compareOp .NotEq) (rEqD X.K true):=by
 intro pins s σ H x y v u Q I rx ry h
 obtain ⟨d,e,hd,he,s1,s2,q⟩:=h
 obtain ⟨a1,r1⟩:=hd.reads I rx
 obtain ⟨a2,r2⟩:=he.reads I ry
 exact ne_dataH r1 r2 s1 s2 hu ⟨.bl _,H,I,rfl,q⟩
theorem zd8:∀ {xs:List Str} {us:List A1},Ru us xs->Vals (xs.map V.str) us
 | _,_,.nil => .nil
 | _,_,.cons _ t r => .cons ⟨t,rfl⟩ (zd8 r)
theorem sorted_fin {pins:List (A3×Obj)} {σ : St} {H:Hp} {s:A4} {Q:VK} {vs:List A1} {out:Array A1} {ys:List V} (I:Inv X pins σ H s) (hl:ys.length<=sizeLine) (r:Vals ys out.toList)
  (q:Q (.ref (s.heap.objs.size + 1)) (upd H (s.heap.objs.size + 1) (.lst ys))):EP X pins σ Q (.ref (s.heap.objs.size + 1)) { s with heap:=sortedAll s.heap vs out }:=by
 obtain ⟨e,he⟩:=sortedAll_at s.heap vs out
 exact ⟨.ref (s.heap.objs.size + 1),_,I.laid (t':=s.toks) (fun b o=>sortedAll_old) (Mx _) (show ObjOk X.prog X.w _ _ _ (.lst ys) from ⟨hl,out.toList,e,r,by simpa using he⟩),rfl,q⟩
theorem zbX:CallR X (.builtin "sorted") (fun xs H Q=>∃ (a:A3) (ns:List Int),xs = [V.ref a]/\SqL X.K H a (ns.map V.int)/\ns.length < 64/\∀ p (ns':List Int),H p=none->ns'.Perm ns->ns'.Pairwise (· <= ·)->Q (.ref p) (upd H p (.lst (ns'.map V.int)))):=by
 intro pins s σ H xs us Q I r h
 obtain ⟨a,ns,rfl,hq,hb,q⟩:=h
 obtain ⟨u,rfl,ru⟩:=zb5 r
 cases ru
 obtain ⟨its,rv,p,hz⟩:=I.list hq
 have hl:ns.length=its.length:=by have:=rv.length; rwa [A5] at this
 refine sorted_ints p.isList (zcO rv) (by omega) fun out ns' a1 a2 a3 => ?_
 exact sorted_fin I (by rw [A5,a2.length_eq]; exact C0 (Fw hb) (by decide)) (zcW a1) (q _ ns' (I.hok.fresh (Mx _)) a2 a3)
end
theorem zds:∀ {l:List A1} {ss:List Str},l.length=ss.length->(∀ (j:Nat) (v:A1) (x:Str),l[j]?=some v->ss[j]?=some x->∃ t,v = .str x t)->Ru l ss
 | [],[],_,_ => .nil
 | v :: l,x :: ss,hl,h=>by
  obtain ⟨t,rfl⟩:=h 0 v x rfl rfl
  exact .cons _ _ (zds (by simpa using hl) fun j u y e1 e2=>h (j + 1) u y (by simpa using e1) (by simpa using e2))
theorem KV.get {κ : Type}:∀ {a:List (κ × V)} {b:List (κ × A1)} {i:Nat} {k : κ} {x:A1},KV a b->b[i]?=some (k,x)->∃ v,a[i]?=some (k,v)/\RelV v x
 | [],_,_,_,_,h,e=>by cases h; simp at e
 | (k',v') :: a,_,i,k,x,h,e=>by
  cases h with
  | cons r rr =>
   cases i with
   | zero =>
    simp at e
    obtain ⟨r1,r2⟩:=r
    simp only at r1
    rw [e] at r1 r2
    exact ⟨v',by rw [r1]; rfl,r2⟩
   | succ i=>exact KV.get (i:=i) rr (by simpa using e)
section
variable {X:Cx}
theorem call_sortedD (hc:X.calm=true):CallR X (.builtin "sorted") (fun xs H Q=>∃ (a:A3) (kvs:List (Key×V)) (ss:List Str),xs = [V.ref a]/\Rd H a (.dK kvs)/\kvs.map (·.1)=ss.map D6/\ss.length < 64 /\
  ∀ p (ss':List Str),H p=none->ss'.Perm ss->sortedS ss'=true->Q (.ref p) (upd H p (.lst (ss'.map V.str)))):=by
 intro pins s σ H xs us Q I r h
 obtain ⟨a,kvs,ss,rfl,hq,hk,h64,q⟩:=h
 obtain ⟨u,rfl,ru⟩:=zb5 r
 cases ru
 obtain ⟨hz,lo,vs,kv,hD⟩:=(show ObjOk X.prog X.w H s.heap a (.dK kvs) from hq.ok I.hok)
 obtain ⟨ep,hat⟩:=hD.dictAt
 have hlen:vs.length=ss.length:=by
  have e1:=kv.length
  have e2:=congrArg Fj hk
  rw [A5,A5] at e2
  omega
 have big64:(64:Nat)<=sizeLine:=by decide
 refine Gu kind_sorted Ro Rq (Rt _) ?_
 unfold G9.«sorted»
 refine A2 (m:=checkCount "sorted" 1 1 _) (Ae ?_)
 refine A2 (Lx (A:=X.A.in1) (PySem.W.kdl_dict (knd:=mixKind X.prog X.w) (kvs:=vs) (ep:=ep) lo) (I.ok.hd hc) hat (by omega) fun h' tk acc hkeep hacc => ?_)
 have hl:acc.toList.length=vs.length:=by rw [As]; exact hacc.1
 have hS:Ru acc.toList ss:=by
  refine zds (by omega) fun j v x e1 e2 => ?_
  obtain ⟨k,y,e3,hk2⟩:=hacc.2 j v (by rw [<- Ct]; exact e1)
  obtain ⟨v',e4,_⟩:=kv.get e3
  have e5:(kvs.map (·.1))[j]?=some k:=by rw [Ai,e4]; rfl
  rw [hk,Ai,e2] at e5
  have e6:D6 x=k:=C1 e5
  subst e6
  rcases zaK (show keyIs (D6 x) v=true from hk2) with ⟨i,t,e,_⟩ | ⟨y,t,e,e7⟩
  ·cases e
  ·cases e; exact ⟨t,e7⟩
 refine A2 (Mp ?_ (by rw [hl]; omega))
 have hoL:(h'.push (seqObj "list" acc.toList.toArray 0)).get? h'.objs.size=some (seqObj "list" acc.toList.toArray 0):=Ay _ rfl
 refine A2 (D1 (Ds Qi ⟨_,hoL,rfl⟩ Pm (list_sort_treeK strKind_oneLt hoL hS.keysOf (fun v₁ v₂ rest e=>keyKind_strs (by rw [<- e]; exact hS)) (by omega) fun st' hp hs=>⟨_,rfl,?_⟩) (Ql _)))
 obtain ⟨ss',a1,a2,a3⟩:=sorted_out_str hS hp hs
 refine Ae ⟨_,rfl,?_⟩
 obtain ⟨e,he⟩:=Qs (out:=(arrOf st').map (·.2)) hoL
 have I1:Inv X pins σ H { s with heap:=h',toks:=tk }:=I.kept hkeep
 have I2:=Inv.laid (o := .lst (ss'.map V.str)) (a:=h'.objs.size) (h':=sortedHeap (h'.push (seqObj "list" acc.toList.toArray 0)) h'.objs.size acc.toList ((arrOf st').map (·.2))) (t':=tk) I1 (fun b o hb=>by
  have lt:=Am hb
  rw [Qh (B7 lt) (by rw [Ej]; exact F0 lt)]
  exact A7 _ hb) (Ad _) (show ObjOk X.prog X.w _ _ _ (.lst (ss'.map V.str)) from ⟨by rw [A5,a2.length_eq]; omega,_,e,zd8 a1,by rw [Array.toArray_toList]; exact he⟩)
 exact ⟨.ref h'.objs.size,_,I2,rfl,q _ ss' (I1.hok.fresh (Ad _)) a2 a3⟩
end
section
variable {X:Cx} {pins:List (A3×Obj)} {σ : St} {H:Hp} {s:A4} {a:A3} {kvs:List (Key×V)}
end
section
variable {X:Cx} {tg:Ca}
end
structure HCallee (P:An) (w:B8) (K:Al) (mg:Str->Option A1) (base:Br) (x:Str) (k:Nat) (ps:List Str) (spf:A3->A1->Sp):Prop where
 ex:∃ f fd,(∀ (e:A3) (oe:Obj) (c:A1) (vs:Array A1),oe.cls=c/\oe.dict=none->oe.data = .fields vs->vs[2]?=some .none->FnOkH P w K mg base e oe k f fd ps (spf e c)) /\
  mg x=some (.ref f)/\Cu K (.ref f)=true/\Binds K fd ps []
theorem DefAt.hcallee {P:An} {w:B8} {K:Al} {mg:Str->Option A1} {base:Br} {x:Str} {st:Cd} {N ps:List Str} {k:Nat} {spf:A3->A1->Sp} (D:DefAt K mg x st) (S:FnScope N ps (defScope st))
  (hb:∀ (kV doc pm:A1) (an:Option A3) (cdv ct:A1) (us:List A1),us.length=ps.length->bindArgs (Cg x x (defArgs st) (defBody st) (defScope st) .none kV doc pm an cdv ct) ⟨us,[]⟩=pure (ps.zip us))
  (len:∀ e c vs H Q E,spf e c vs H Q E->vs.length=ps.length)
  (hbody:∀ (f:A3) (cdv:A1) (A:B1) (outer:List Env) (s:A4) (H:Hp) (vs:List V) (Q:VK) (e:A3) (oe:Obj) (c:A1) (ws:Array A1),oe.cls=c/\oe.dict=none->oe.data = .fields ws->QH e oe (cxH P w K mg base N x (defScope st) f cdv A outer s H e oe)->spf e c vs H Q E0 ->
   ∃ t,PSs (cxH P w K mg base N x (defScope st) f cdv A outer s H e oe) (defBody st) t/\t { nx:=fun _ H'=>Q .non H',rt:=Q } (start N vs) H):HCallee P w K mg base x (k + 1) ps spf:=by
 obtain ⟨f,fd,F,m⟩:=D.ex
 have hbi:=F.binds hb
 obtain ⟨oc,od,kV,doc,pm,an,cdv,ct,osl,rfl,lk,hcd⟩:=id F.ex
 exact ⟨f,_,fun e oe c ws hc hd h2=>fn_ofH lk hcd S (len e c) fun A outer s H vs Q hh h=>hbody f cdv A outer s H vs Q e oe c ws hc hd (cxH_q hh hd h2) h,m,F.kp,hbi⟩
section
variable {X:Cx} {f:Str} {k k':Nat} {ps:List Str} {spf:A3->A1->Sp} {p pos:Pos} {e:Ca} {es:List Ca} {t:TA} {x:A3} {c:A1} {ox:Obj} {pn:List (A3×Obj)} {vs:Array A1}
theorem pe_hand (C:HCallee X.prog X.w X.K X.mg X.base f k ps spf) (hr:Room k' X.A) (hx:x ∉ frs X.stack) (hc:ox.cls=c/\ox.dict=none) (hd:ox.data = .fields vs) (h2:vs[2]?=some .none) (hk:k<=k') (hg:Gl X f)
  (ha:PA (cxHand X x ox pn) (e :: es) t) (hdb:(f == ("__debug__" : Str))=false:=by decide)
  (he:starEach (e :: es) X.env=(false,eval e X.env) :: starEach es X.env:=by rfl) (hpl:(backTo pos (starEach es X.env)).any (·.1)=false:=by rfl):PE (cxHand X x ox pn) (.Call (.Name f p) (e :: es) [] pos) (tCall (spf x c) [] E0 t):=by
 obtain ⟨fa,fd,F,m,kp,hb⟩:=C.ex
 exact pe_callH (X:=cxHand X x ox pn) (F x ox c vs hc hd h2) (Room.mark (hr.mono hk)) Ag hx hg m kp hb ha hdb he hpl
end
structure Maker (P:An) (w:B8) (K:Al) (mg:Str->Option A1) (base:Br) (x:Str) (C:A3) (CX:CXT) (k:Nat) (ps:List Str) (sp:Sp):Prop where
 ex:∃ f fd,Mk K C f/\FnOk P w K mg base CX k f fd ps sp/\mg x=some (.ref C)/\Binds K fd ps []
theorem pe_mk0 {X:Cx} {x:Str} {C:A3} {CX:CXT} {k:Nat} {ps:List Str} {sp:Sp} {E:XK} {p pos:Pos} (M:Maker X.prog X.w X.K X.mg X.base x C CX k ps sp) (hr:Room (k + 1) X.A) (hx:Passes CX X E) (hg:Gl X x) (hdb:(x == ("__debug__" : Str))=false:=by decide) :
  PE X (.Call (.Name x p) [] [] pos) (tMake C sp [] E tNil):=by
 obtain ⟨f,fd,M,F,m,b⟩:=M.ex
 exact pe_make0 M F hr hg m b .nil hx hdb
section
variable {Y:Cx}
theorem op_notIn_seq' (K:Al) (h:Y.K=K):OpR Y (compareOp .NotIn) (rIn K true):=by subst h; exact zbT
theorem zcs (K:Al) (h:Y.K=K):IxR Y (rIxL K):=by subst h; exact zaN
theorem ix_tup' (K:Al) (h:Y.K=K):IxR Y (rIxT K):=by subst h; exact za9
end
noncomputable def isStar:Ca->Bool
 | .Starred _ _=>true
 | _=>false
theorem star_cons {e:Ca} (es:List Ca) (env:Env) (h:isStar e=false):starEach (e :: es) env=(false,eval e env) :: starEach es env:=by
 cases e <;> first | rfl | cases h
structure QA (X:Cx) (es:List Ca) (t:TA):Prop where h:PA X es t
structure QE (X:Cx) (e:Ca) (t:TE):Prop where h:PE X e t
section
variable {X:Cx} {e:Ca} {es:List Ca} {te:TE} {t:TA} {pos:Pos}
theorem qe (h:PE X e te):QE X e te:=⟨h⟩
theorem zaw:QA X [] tNil:=⟨zad⟩
theorem zae (ha:QE X e te) (hr:QA X es t) (h:isStar e=false:=by rfl):QA X (e :: es) (tCons te t):=⟨zaa ha.h hr.h (star_cons es X.env h)⟩
theorem za8 {k} (h:QA X es t):QE X (.Tuple es k pos) (tTup t):=⟨zbu h.h⟩
theorem zbd (h:QA X es t):QE X (.List es pos) (tLst t):=⟨za4 h.h⟩
end
structure QS (X:Cx) (st:Cd) (t:TS):Prop where h:PS X st t
structure QSs (X:Cx) (st:List Cd) (t:TS):Prop where h:PSs X st t
section
variable {X:Cx} {st:Cd} {rest:List Cd} {t u:TS} {a b e:Ca} {ta tb te:TE} {pos:Pos}
theorem qs (h:PS X st t):QS X st t:=⟨h⟩
theorem zeR (h:QS X st t):QSs X [st] t:=⟨zag h.h⟩
theorem qe_ix {r:R2} (hr:IxR X r) (ha:QE X a ta) (hb:QE X b tb) (hs:PlainIx b):QE X (.Subscript a b pos) (tOp r ta tb):=⟨zaL hr ha.h hb.h hs⟩
theorem zdo {op:Operator} {r:R2} (ho:OpR X (binaryOp op) r) (ha:QE X a ta) (hb:QE X b tb):QE X (.BinOp a op b pos) (tOp r ta tb):=⟨zas ho ha.h hb.h⟩
theorem zay (h:QS X st t) (hr:QSs X rest u):QSs X (st :: rest) (tSeq t u):=⟨zaf h.h hr.h⟩
theorem qss_cut (h:QS X st t) (hr:QSs X rest u):QSs X (st :: rest) (tCut t u):=⟨zbQ h.h hr.h⟩
theorem zf6 (h:QE X e te):QS X (.Return (some e) pos) (tRet te):=⟨zaj h.h⟩
theorem za7 {i:Nat} {x:Str} {pos':Pos} (hN:X.N.Nodup) (hi:X.N[i]?=some x) (hx:Loc X.env.scope x) (he:QE X e te) (hs:swapsWith e (some (.Name x pos')) pos.line X.env=pure false:=by rfl) (hf:X.fn x=true\/X.env.scope.names.lookup x=some .local:=by first | exact .inl rfl | exact .inr rfl | assumption) :
  QS X (.Assign [.Name x pos'] e pos) (tAsg te (gName i)):=⟨zaq hN hi hx he.h hs hf⟩
end
theorem DefAt.calleeQ {P:An} {w:B8} {K:Al} {mg:Str->Option A1} {base:Br} {x:Str} {st:Cd} {N ps:List Str} {k:Nat} {sp:Sp} (D:DefAt K mg x st) (S:FnScope N ps (defScope st))
  (hb:∀ (kV doc pm:A1) (an:Option A3) (cdv ct:A1) (us:List A1),us.length=ps.length->bindArgs (Cg x x (defArgs st) (defBody st) (defScope st) .none kV doc pm an cdv ct) ⟨us,[]⟩=pure (ps.zip us))
  (len:∀ vs H Q E,sp vs H Q E->vs.length=ps.length)
  (hbody:∀ (f:A3) (cdv:A1) (A:B1) (outer:List Env) (s:A4) (H:Hp) (vs:List V) (Q:VK) (E:XK),Room k (A.deeper (envOfC x (defScope st) s.heap.objs.size f cdv))->sp vs H Q E ->
   ∃ t,QSs (cxOf CX0 P w K mg base N x (defScope st) f cdv A outer s H E).nox (defBody st) t/\t { nx:=fun _ H'=>Q .non H',rt:=Q } (start N vs) H):Callee P w K mg base x (k + 1) ps sp :=
 D.callee S hb len fun f cdv A outer s H vs Q E hr h=>let ⟨t,q,r⟩:=hbody f cdv A outer s H vs Q E hr h; ⟨t,q.h,r⟩
theorem DefAt.hcalleeQ {P:An} {w:B8} {K:Al} {mg:Str->Option A1} {base:Br} {x:Str} {st:Cd} {N ps:List Str} {k:Nat} {spf:A3->A1->Sp} (D:DefAt K mg x st) (S:FnScope N ps (defScope st))
  (hb:∀ (kV doc pm:A1) (an:Option A3) (cdv ct:A1) (us:List A1),us.length=ps.length->bindArgs (Cg x x (defArgs st) (defBody st) (defScope st) .none kV doc pm an cdv ct) ⟨us,[]⟩=pure (ps.zip us))
  (len:∀ e c vs H Q E,spf e c vs H Q E->vs.length=ps.length)
  (hbody:∀ (f:A3) (cdv:A1) (A:B1) (outer:List Env) (s:A4) (H:Hp) (vs:List V) (Q:VK) (e:A3) (oe:Obj) (c:A1) (ws:Array A1),oe.cls=c/\oe.dict=none->oe.data = .fields ws->QH e oe (cxH P w K mg base N x (defScope st) f cdv A outer s H e oe)->spf e c vs H Q E0 ->
   ∃ t,QSs (cxH P w K mg base N x (defScope st) f cdv A outer s H e oe) (defBody st) t/\t { nx:=fun _ H'=>Q .non H',rt:=Q } (start N vs) H):HCallee P w K mg base x (k + 1) ps spf :=
 D.hcallee S hb len fun f cdv A outer s H vs Q e oe c ws hc hd hq h=>let ⟨t,q,r⟩:=hbody f cdv A outer s H vs Q e oe c ws hc hd hq h; ⟨t,q.h,r⟩
theorem zbi {X:Cx} {x:Str} {C:A3} {pos:Pos} (hg:Gl X x) (hm:X.mg x=some (.ref C)) (hd:(x == ("__debug__" : Str))=false:=by decide):PE X (.Name x pos) (tC (.ref C)):=zgc (v := .ref C) hg hm rfl hd
section
variable {K:Al} {C D CE:A3} {oc:A1} {od:Option A3} {cd:ClassData} {sl:Array (Option A1)} {b:Bool}
end
theorem zbf {H:Hp} {p l:A3} {ys:List V} {o:HO} (h:H l=some (.lst ys)) (n:H p=none):upd H p o l=some (.lst ys):=by rw [zah (zal h n)]; exact h
theorem Same.lstE {H0 H:Hp} (m:Same H0 H) {o:HO} {p:A3} (n:H p=none):Same H0 (upd H p o)/\upd H p o p=some o:=⟨m.put (m.free n),zac⟩
theorem zfK {ns:List Int} {k:Int} (h0:0<=k) (h:k < (ns.length:Int)):atI (ns.map V.int) k=some (V.int (ns.getD k.toNat 0)):=by
 have hk:k.toNat < ns.length:=by omega
 have e:((k.toNat:Nat):Int)=k:=by omega
 rw [<- e]
 refine zax ?_
 rw [Ai,Aj,D8,Aa hk]
 rfl
theorem getD_big {ns:List Int} {k:Int} (h:¬ k < (ns.length:Int)):ns.getD k.toNat 0=0:=by
 rw [Aj,Cn (by omega)]
 rfl
theorem zcw {x:Str}:x.cps.toList.length=x.length:=by simp [Qm]
theorem za0:1000<=sizeLine:=by decide
theorem big {n:Nat} (h:n<=1000):n<=sizeLine:=C0 h za0
theorem bigr {n:Nat} (h:Nat.ble n 1000=true):n<=sizeLine:=big (Mm h)
theorem p2:(0:Int) < 2:=by decide
theorem p6:(0:Int) < 6:=by decide
theorem len_app (x y:Str):(x ++ y).length=x.length + y.length:=by
 have:=congrArg Fj (L8 x y)
 rw [Ah,zcw,zcw,zcw] at this
 exact this
theorem zdY (c:Nat):(⟨#[c]⟩:Str).length=1:=rfl
theorem dec_ii {a b:Int}:decide (V.int a=V.int b)=decide (a=b):=by
 rw [decide_eq_decide]
 exact ⟨fun h=>by injection h,fun h=>by rw [h]⟩
theorem zbP {i n:Nat} {lo:Int} {x:V} (h:((Ac n).map fun i=>V.int (lo + ((i:Nat):Int)))[i]?=some x):i < n/\x=V.int (lo + ((i:Nat):Int)):=by
 have hi:i < n:=by
  have:=(Av.mp h).1
  simpa using this
 rw [Ai,C7 hi] at h
 cases h
 exact ⟨hi,rfl⟩
noncomputable def small (c:Nat):Bool:=decide (97<=c) && decide (c<=122)
noncomputable def isName (x:Str):Bool:=(decide (1<=x.length) && decide (x.length<=6)) && x.cps.toList.all small
noncomputable def abc:Str:=A0 "abcdefghijklmnopqrstuvwxyz"
theorem zd6:abc.cps.toList=(Ac 26).map (97 + ·):=by decide +kernel
theorem ze6:abc.length=26:=by decide +kernel
theorem abc_at {k:Int} (h0:0<=k) (h:k < 26):∃ c,atI abc.cps.toList k=some c/\small c=true:=by
 have e:((k.toNat:Nat):Int)=k:=by omega
 refine ⟨97 + k.toNat,?_,?_⟩
 ·rw [<- e]
  refine zax ?_
  rw [zd6,Ai,C7 (by omega),D8]
  rfl
 ·unfold small
  rw [decide_eq_true (by omega:97<=97 + k.toNat),decide_eq_true (by omega:97 + k.toNat<=122)]
  rfl
theorem zgk {x:Str} (h1:1<=x.length) (h2:x.length<=6) (h3:x.cps.toList.all small=true):isName x=true:=by
 unfold isName
 rw [decide_eq_true h1,decide_eq_true h2,h3]
 rfl
theorem name_one {c:Nat} (h:small c=true):isName ⟨#[c]⟩=true:=zgk (by rw [zdY]; decide) (by rw [zdY]; decide) (by simp [h])
theorem name_len {x:Str} (h:isName x=true):1<=x.length/\x.length<=6:=by
 unfold isName at h
 simp only [Bt,decide_eq_true_eq] at h
 exact h.1
theorem app_list (x y:Str):(x ++ y).cps.toList=x.cps.toList ++ y.cps.toList:=L8 x y
theorem zcM {α : Type} [DecidableEq α]:∀ {l m:List α},l.Nodup->(∀ x∈l,x∈m)->l.length<=m.length
 | [],_,_,_=>C6 _
 | x :: l,m,hn,h=>by
  have hx:=h x Ag
  have hn:=Dj.mp hn
  have ih:=zcM (m:=m.erase x) hn.2 fun y hy=>(List.mem_erase_of_ne (fun z:y=x=>hn.1 (by rw [<- z]; exact hy))).mpr (h y (A8 _ hy))
  have e:=Ll hx
  have:=Ib hx
  rw [Ar]
  omega
theorem zgq (x:Str) (us:List Str):inV (V.str x) (us.map V.str)=decide (x∈us):=by
 unfold inV
 rw [Jx,Bd,Bs,decide_eq_true_eq]
 constructor
 ·rintro ⟨y,hy,e⟩
  have e':(y == x)=true:=e
  rw [<- eq_of_beq e']; exact hy
 ·intro h
  exact ⟨x,h,beq_self_eq_true x⟩
theorem zeE (us:List Str):(us.map V.str).all flatV=true:=by
 rw [Ic,Cs]
 intro x _
 rfl
theorem spare_some (us:List Str) (h:us.length<=25):∃ c∈abc.cps.toList,(⟨#[c]⟩:Str) ∉ us:=by
 apply Di
 intro hn
 have hall:∀ y∈abc.cps.toList.map (fun c=>(⟨#[c]⟩:Str)),y∈us:=fun y hy=>by
  obtain ⟨c,hc,rfl⟩:=Ab.mp hy
  exact Di fun z=>hn ⟨c,hc,z⟩
 have nd:(abc.cps.toList.map (fun c=>(⟨#[c]⟩:Str))).Nodup:=by
  rw [zd6,Be]
  decide +kernel
 have:=zcM nd hall
 rw [A5,zcw,ze6] at this
 omega
theorem abc_small {c:Nat} (h:c∈abc.cps.toList):small c=true:=by
 rw [zd6] at h
 obtain ⟨i,hi,rfl⟩:=Ab.mp h
 have:=B9.mp hi
 unfold small
 rw [decide_eq_true (by omega:97<=97 + i),decide_eq_true (by omega:97 + i<=122)]
 rfl
theorem zdg:∀ (ns acc:List Int),(ns.foldl Hi acc).length<=acc.length + ns.length/\(acc.Nodup->((ns.foldl Hi acc).length=acc.length + ns.length ↔ (acc ++ ns).Nodup))
 | [],acc=>⟨by simp,fun h=>by simp [h]⟩
 | n :: ns,acc=>by
  rw [Iq]
  by_cases hm:n∈acc
  ·have e:Hi acc n=acc:=by
    unfold Hi
    rw [if_pos (Bs.mpr ⟨n,hm,by simp⟩)]
   rw [e]
   have ih:=zdg ns acc
   refine ⟨by have:=ih.1; rw [Ar]; omega,fun _=>⟨fun z => ?_,fun z => ?_⟩⟩
   ·have:=ih.1
    rw [Ar] at z
    omega
   ·exact absurd rfl ((Dv.mp z).2.2 n hm n Ag)
  ·have e:Hi acc n=acc ++ [n]:=by
    unfold Hi
    rw [if_neg]
    intro z
    obtain ⟨x,hx,ex⟩:=Bs.mp z
    have:x=n:=by simpa using ex
    subst this
    exact hm hx
   rw [e]
   have ih:=zdg ns (acc ++ [n])
   rw [Ah,Bm,At] at ih
   refine ⟨by have:=ih.1; rw [Ar]; omega,fun h => ?_⟩
   have hn:(acc ++ [n]).Nodup:=by
    refine Dv.mpr ⟨h,by simp,fun a ha b hb => ?_⟩
    have:b=n:=by simpa using hb
    subst this
    intro z
    subst z
    exact hm ha
   have:=ih.2 hn
   rw [Ar]
   rw [show acc.length + (ns.length + 1)=acc.length + 1 + ns.length by omega]
   exact this
theorem many_eq (ns:List Int):many ns=(ns.foldl Hi []).length:=by
 unfold many firstMet
 congr 2
 apply Fo
 intro i
 rw [Ai]
 by_cases h:i < ns.length
 ·rw [C7 h]
  simp [Aj,h]
 ·rw [Cn (by simpa using h),Cn (by simpa using h)]
  rfl
theorem many_nodup (ns:List Int):many ns=ns.length ↔ ns.Nodup:=by
 rw [many_eq]
 have:=(zdg ns []).2 E8
 simpa using this
noncomputable def inR (t:Int):Bool:=decide (0<=t) && decide (t<=7)
noncomputable def areTeeth (ts:List Int):Bool:=decide (0∈ts) && (decide (many ts=ts.length) && ts.all inR)
theorem in_zero (ts:List Int):inV (V.int 0) (ts.map V.int)=decide (0∈ts):=by
 unfold inV
 rw [Jx,Bd,Bs,decide_eq_true_eq]
 constructor
 ·rintro ⟨x,hx,e⟩
  have:x=0:=by
   have e':(x == 0)=true:=e
   exact eq_of_beq e'
  rw [<- this]; exact hx
 ·intro h
  exact ⟨0,h,rfl⟩
theorem zhe (ts:List Int):(ts.map V.int).all flatV=true:=by
 rw [Ic,Cs]
 intro x _
 rfl
noncomputable def KindsL (G:A3->Prop) (H:Hp):List V->List (Str×List Int)->Prop
 | [],[]=>True
 | v :: vs,k :: ks=>(∃ q t,v = .ref q/\H q=some (.lst [.str k.1,.ref t])/\H t=some (.lst (k.2.map V.int))/\G q/\G t)/\KindsL G H vs ks
 | _,_=>False
theorem KindsL.mono {G G':A3->Prop} {H H':Hp} (s:∀ a o,G a->H a=some o->H' a=some o) (g:∀ a,G a->G' a):∀ {vs:List V} {ks:List (Str×List Int)},KindsL G H vs ks->KindsL G' H' vs ks
 | [],[],_=>trivial
 | _ :: _,_ :: _,⟨⟨q,t,e,h1,h2,g1,g2⟩,r⟩=>⟨⟨q,t,e,s _ _ g1 h1,s _ _ g2 h2,g _ g1,g _ g2⟩,KindsL.mono s g r⟩
 | [],_ :: _,h=>h.elim
 | _ :: _,[],h=>h.elim
theorem KindsL.same {G:A3->Prop} {H H':Hp} {vs:List V} {ks:List (Str×List Int)} (s:Same H H') (h:KindsL G H vs ks):KindsL G H' vs ks:=h.mono (fun a o _ e=>s a o e) fun _ g=>g
theorem KindsL.upd {G:A3->Prop} {H:Hp} {p:A3} {o:HO} {vs:List V} {ks:List (Str×List Int)} (h:KindsL G H vs ks) (n:¬ G p):KindsL G (upd H p o) vs ks:=h.mono (fun a u g e=>by rw [zah (fun z:a=p=>n (by rw [<- z]; exact g))]; exact e) fun _ g=>g
theorem KindsL.snoc {G:A3->Prop} {H:Hp} {q t:A3} {k:Str×List Int} (h1:H q=some (.lst [.str k.1,.ref t])) (h2:H t=some (.lst (k.2.map V.int))) (g1:G q) (g2:G t):∀ {vs:List V} {ks:List (Str×List Int)},KindsL G H vs ks->KindsL G H (vs ++ [.ref q]) (ks ++ [k])
 | [],[],_=>⟨⟨q,t,rfl,h1,h2,g1,g2⟩,trivial⟩
 | _ :: _,_ :: _,⟨a,b⟩=>⟨a,KindsL.snoc h1 h2 g1 g2 b⟩
 | [],_ :: _,x=>x.elim
 | _ :: _,[],x=>x.elim
theorem KindsL.length {G:A3->Prop} {H:Hp}:∀ {vs:List V} {ks:List (Str×List Int)},KindsL G H vs ks->vs.length=ks.length
 | [],[],_=>rfl
 | _ :: _,_ :: _,⟨_,b⟩=>by rw [Ar,Ar,KindsL.length b]
 | [],_ :: _,x=>x.elim
 | _ :: _,[],x=>x.elim
theorem KindsL.get {G:A3->Prop} {H:Hp}:∀ {vs:List V} {ks:List (Str×List Int)} {i:Nat} {v:V},KindsL G H vs ks->vs[i]?=some v->∃ k q t,ks[i]?=some k/\v = .ref q/\H q=some (.lst [.str k.1,.ref t])/\H t=some (.lst (k.2.map V.int))
 | [],[],_,_,_,e=>by simp at e
 | _ :: _,k :: _,0,_,⟨⟨q,t,e,h1,h2,_⟩,_⟩,z=>by
  simp at z
  subst z
  exact ⟨k,q,t,rfl,e,h1,h2⟩
 | _ :: _,_ :: _,i + 1,_,⟨_,b⟩,z=>by
  obtain ⟨k,q,t,h⟩:=KindsL.get (i:=i) b (by simpa using z)
  exact ⟨k,q,t,by simpa using h⟩
 | [],_ :: _,_,_,x,_=>x.elim
 | _ :: _,[],_,_,x,_=>x.elim
noncomputable def GT (ts:List Int):Prop:=∃ f:Nat->Bool,ts=((Ac 8).filter f).map (fun i=>((i:Nat):Int))/\f 0=true
structure Drawn (G:A3->Prop) (H:Hp) (vs:List V) (ks:List (Str×List Int)):Prop where
 rows:KindsL G H vs ks
 nd:(ks.map (·.1)).Nodup
 good:∀ k∈ks,isName k.1=true/\GT k.2
theorem Drawn.same {G:A3->Prop} {H H':Hp} {vs:List V} {ks:List (Str×List Int)} (d:Drawn G H vs ks) (s:Same H H'):Drawn G H' vs ks:=⟨d.rows.same s,d.nd,d.good⟩
theorem Drawn.upd {G:A3->Prop} {H:Hp} {p:A3} {o:HO} {vs:List V} {ks:List (Str×List Int)} (d:Drawn G H vs ks) (n:¬ G p):Drawn G (upd H p o) vs ks:=⟨d.rows.upd n,d.nd,d.good⟩
theorem Drawn.any {G:A3->Prop} {H:Hp} {vs:List V} {ks:List (Str×List Int)} (d:Drawn G H vs ks):Drawn (fun _=>True) H vs ks:=⟨d.rows.mono (fun _ _ _ e=>e) fun _ _=>trivial,d.nd,d.good⟩
theorem Drawn.snoc {G:A3->Prop} {H:Hp} {vs:List V} {ks:List (Str×List Int)} {q t:A3} {k:Str×List Int} (d:Drawn G H vs ks) (h1:H q=some (.lst [.str k.1,.ref t])) (h2:H t=some (.lst (k.2.map V.int))) (g1:G q) (g2:G t) (hn:k.1 ∉ ks.map (·.1)) (hk:isName k.1=true/\GT k.2):Drawn G H (vs ++ [.ref q]) (ks ++ [k]):=by
 refine ⟨KindsL.snoc h1 h2 g1 g2 d.rows,?_,fun x hx => ?_⟩
 ·rw [Bi]
  refine Dv.mpr ⟨d.nd,by simp,fun a ha b hb => ?_⟩
  have e:b=k.1:=by simpa using hb
  rw [e]
  exact fun z=>hn (z ▸ ha)
 ·rcases Ao.mp hx with z | z
  ·exact d.good x z
  ·rw [A6.mp z]; exact hk
noncomputable abbrev Combs:=List (Str×List Int)
noncomputable def cGet (cs:Combs) (x:Str):Option (List Int):=(cs.find? fun c=>decide (c.1=x)).map (·.2)
noncomputable def cPut (cs:Combs) (x:Str) (ts:List Int):Combs:=if (cs.any fun c=>decide (c.1=x))=true then cs.map (fun c=>if c.1=x then (c.1,ts) else c) else cs ++ [(x,ts)]
noncomputable def canon (ts:List Int):List Int:=((Ac 8).filter fun i=>decide (((i:Nat):Int)∈ts)).map fun i=>((i:Nat):Int)
theorem zg1 (f:Nat->Bool):(((Ac 8).filter f).map fun i=>((i:Nat):Int)).Pairwise (· < ·):=by
 rw [C4]
 refine Bg D5 ?_
 refine Ei ?_ (Dg (n:=8))
 intro a b h
 omega
theorem zd4 (ts:List Int):(canon ts).Pairwise (· < ·):=zg1 _
theorem mem_canon {ts:List Int} {t:Int}:t∈canon ts ↔ t∈ts/\0<=t/\t<=7:=by
 unfold canon
 simp only [Ab,Bc,B9,decide_eq_true_eq]
 constructor
 ·rintro ⟨i,⟨hi,hm⟩,rfl⟩
  exact ⟨hm,by omega,by omega⟩
 ·rintro ⟨hm,h0,h7⟩
  refine ⟨t.toNat,⟨by omega,?_⟩,by omega⟩
  rwa [show ((t.toNat:Nat):Int)=t by omega]
theorem zaT {l:List Int} (h:l.Pairwise (· < ·)):l.Nodup:=h.imp fun h=>by omega
theorem zcg (ts:List Int):(canon ts).Nodup:=zaT (zd4 ts)
theorem zbD {a b:List Int} (hp:a.Perm b) (ha:a.Pairwise (· <= ·)) (hb:b.Pairwise (· <= ·)):a=b :=
 hp.eq_of_pairwise (fun x y _ _ h1 h2=>Int.le_antisymm h1 h2) ha hb
theorem zcT {ns ts:List Int} (hp:ns.Perm ts) (hs:ns.Pairwise (· <= ·)) (hn:ts.Nodup) (hr:∀ t∈ts,0<=t/\t<=7):ns=canon ts:=by
 refine zbD (hp.trans ?_) hs ((zd4 ts).imp fun h=>by omega)
 rw [Df hn (zcg ts)]
 intro t
 rw [mem_canon]
 exact ⟨fun h=>⟨h,hr t h⟩,fun h=>h.1⟩
theorem zd1 {ts:List Int} (h:GT ts):ts.Pairwise (· < ·):=by
 obtain ⟨f,rfl,_⟩:=h
 exact zg1 f
theorem zbV {ts:List Int} (h:GT ts):∀ t∈ts,0<=t/\t<=7:=by
 obtain ⟨f,rfl,_⟩:=h
 intro t ht
 obtain ⟨i,hi,rfl⟩:=Ab.mp ht
 have:=B9.mp (Bc.mp hi).1
 omega
theorem zcD {ts:List Int} (h:GT ts):(0:Int)∈ts:=by
 obtain ⟨f,rfl,h0⟩:=h
 exact Ab.mpr ⟨0,Bc.mpr ⟨by decide,h0⟩,rfl⟩
theorem zfE {ts:List Int} (h0:(0:Int)∈ts):GT (canon ts):=⟨_,rfl,decide_eq_true h0⟩
theorem gt_eq {ts:List Int} (h:GT ts):canon ts=ts:=by
 symm
 refine zcT (Kb _) ((zd1 h).imp fun h=>by omega) (zaT (zd1 h)) (zbV h)
theorem zgv {ts:List Int} (h:GT ts):ts.length<=8:=by
 obtain ⟨f,rfl,_⟩:=h
 rw [A5]
 exact C0 (Cm _ _) (by simp)
theorem canon_len (ts:List Int):(canon ts).length<=8:=by
 unfold canon
 rw [A5]
 exact C0 (Cm _ _) (by simp)
theorem inR_iff {t:Int}:inR t=true ↔ 0<=t/\t<=7:=by unfold inR; simp
theorem teeth_iff {ts:List Int}:areTeeth ts=true ↔ (0:Int)∈ts/\ts.Nodup/\∀ t∈ts,0<=t/\t<=7:=by
 unfold areTeeth
 simp only [Bt,decide_eq_true_eq,many_nodup,Cs,inR_iff]
theorem zcY {ts:List Int} (hn:ts.Nodup) (hr:∀ t∈ts,0<=t/\t<=7):ts.length<=8:=by
 have:ts.length<=(canon ts).length:=zcM hn fun x hx=>mem_canon.mpr ⟨hx,hr x hx⟩
 have:=canon_len ts
 omega
theorem gt_teeth {ts:List Int} (h:GT ts):areTeeth ts=true:=teeth_iff.mpr ⟨zcD h,zaT (zd1 h),zbV h⟩
structure Good (cs:Combs):Prop where
 len:cs.length<=8
 nd:(cs.map (·.1)).Nodup
 ok:∀ c∈cs,isName c.1=true/\GT c.2
theorem good_nil:Good []:=⟨by decide,E8,by simp⟩
theorem zd2 {cs:Combs} {x:Str} {ts:List Int} (h:cGet cs x=some ts):(x,ts)∈cs:=by
 unfold cGet at h
 obtain ⟨c,hc,rfl⟩:=Lk.mp h
 have h1:=Lb hc
 have h2:c.1=x:=by simpa using O2 hc
 rw [<- h2]
 exact h1
theorem get_none {cs:Combs} {x:Str}:cGet cs x=none ↔ x ∉ cs.map (·.1):=by
 unfold cGet
 rw [Option.map_eq_none_iff,N3]
 simp only [decide_eq_true_eq,Ab,not_exists,not_and]
theorem ze5 {cs:Combs} {x:Str}:(cs.any fun c=>decide (c.1=x))=(cGet cs x).isSome:=by
 rw [Bd,Bs,Option.isSome_iff_ne_none,ne_eq,get_none,Rz,Ab]
 simp
theorem zcP {c:Str×List Int} {cs:Combs} {x:Str}:cGet (c :: cs) x=if c.1=x then some c.2 else cGet cs x:=by
 unfold cGet
 rw [Ep]
 by_cases h:c.1=x
 ·simp [h]
 ·simp [h]
theorem zf7 {cs:Combs} {x:Str} {ts:List Int} (h:cGet cs x=none):cPut cs x ts=cs ++ [(x,ts)]:=by
 unfold cPut
 rw [ze5,h]
 rfl
theorem zeS {cs:Combs} {x:Str} {ts us:List Int} (h:cGet cs x=some us):cPut cs x ts=cs.map (fun c=>if c.1=x then (c.1,ts) else c):=by
 unfold cPut
 rw [ze5,h]
 rfl
theorem put_keys {cs:Combs} {x:Str} {ts us:List Int} (h:cGet cs x=some us):(cPut cs x ts).map (·.1)=cs.map (·.1):=by
 rw [zeS h,Be]
 apply Ce
 intro c _
 show (if c.1=x then (c.1,ts) else c).1=c.1
 split <;> rfl
theorem Good.put {cs:Combs} {x:Str} {ts:List Int} (g:Good cs) (hx:isName x=true) (ht:GT ts) (hl:cs.length < 8\/(cGet cs x).isSome=true):Good (cPut cs x ts):=by
 cases e:cGet cs x with
 | none =>
  rw [zf7 e]
  refine ⟨?_,?_,?_⟩
  ·rw [e] at hl
   rw [Ah,Bm]
   rcases hl with h | h
   ·omega
   ·cases h
  ·rw [Bi]
   exact zgj g.nd (get_none.mp e)
  ·intro c hc
   rcases Ao.mp hc with h | h
   ·exact g.ok c h
   ·rw [A6.mp h]; exact ⟨hx,ht⟩
 | some us =>
  refine ⟨?_,by rw [put_keys e]; exact g.nd,?_⟩
  ·rw [zeS e,A5]; exact g.len
  ·rw [zeS e]
   intro c hc
   obtain ⟨c0,h0,rfl⟩:=Ab.mp hc
   split
   ·exact ⟨(g.ok c0 h0).1,ht⟩
   ·exact g.ok c0 h0
noncomputable def KvR (G:A3->Prop) (H:Hp):List (Key×V)->Combs->Prop:=C3 fun kv c=>∃ t,kv=(D6 c.1,V.ref t)/\H t=some (.lst (c.2.map V.int))/\G t
noncomputable def DictR (G:A3->Prop) (H:Hp) (d:A3) (cs:Combs):Prop:=G d/\∃ kvs,H d=some (.dK kvs)/\KvR G H kvs cs
theorem KvR.mono {G G':A3->Prop} {H H':Hp} {kvs:List (Key×V)} {cs:Combs} (s:∀ a o,G a->H a=some o->H' a=some o) (g:∀ a,G a->G' a) (h:KvR G H kvs cs):KvR G' H' kvs cs :=
 M1 (fun _ _ ⟨t,e,h1,g1⟩=>⟨t,e,s _ _ g1 h1,g _ g1⟩) h
theorem DictR.mono {G G':A3->Prop} {H H':Hp} {d:A3} {cs:Combs} (s:∀ a o,G a->H a=some o->H' a=some o) (g:∀ a,G a->G' a) (h:DictR G H d cs):DictR G' H' d cs :=
 let ⟨g0,kvs,e,r⟩:=h
 ⟨g _ g0,kvs,s _ _ g0 e,r.mono s g⟩
theorem KvR.keys {G:A3->Prop} {H:Hp}:∀ {kvs:List (Key×V)} {cs:Combs},KvR G H kvs cs->kvs.map (·.1)=(cs.map (·.1)).map D6
 | _,_,.nil=>rfl
 | _,_,.cons ⟨t,e,_⟩ r=>by
  subst e
  show _ :: _=_ :: _
  rw [show Jt _ _=_ from KvR.keys r]
theorem KvR.val {G:A3->Prop} {H:Hp} {x:Str}:∀ {kvs:List (Key×V)} {cs:Combs},KvR G H kvs cs ->
  (cGet cs x=none/\valV kvs (D6 x)=none)\/∃ ts t,cGet cs x=some ts/\valV kvs (D6 x)=some (.ref t)/\H t=some (.lst (ts.map V.int))/\G t
 | _,_,.nil => .inl ⟨rfl,rfl⟩
 | _,_,.cons (b:=c) ⟨t,e,h1,g1⟩ r=>by
  subst e
  by_cases h:c.1=x
  ·refine .inr ⟨c.2,t,by rw [zcP,if_pos h],zaZ (by rw [h]),h1,g1⟩
  ·have hn:¬ ((D6 c.1:Key)=D6 x):=fun z=>h (Lq z)
   rcases KvR.val (x:=x) r with ⟨e1,e2⟩ | ⟨ts,t',e1,e2,e3⟩
   ·exact .inl ⟨by rw [zcP,if_neg h]; exact e1,by rw [zaS hn]; exact e2⟩
   ·exact .inr ⟨ts,t',by rw [zcP,if_neg h]; exact e1,by rw [zaS hn]; exact e2,e3⟩
theorem KvR.some {G:A3->Prop} {H:Hp} {kvs:List (Key×V)} {cs:Combs} {x:Str} (r:KvR G H kvs cs):(valV kvs (D6 x)).isSome=(cGet cs x).isSome:=by
 rcases r.val (x:=x) with ⟨e1,e2⟩ | ⟨ts,t',e1,e2,e3⟩
 ·rw [e1,e2]; rfl
 ·rw [e1,e2]; rfl
theorem KvR.map {G:A3->Prop} {H:Hp} {x:Str} {t:A3} {ts:List Int} (h1:H t = .some (.lst (ts.map V.int))) (g1:G t):∀ {kvs:List (Key×V)} {cs:Combs},KvR G H kvs cs ->
  KvR G H (kvs.map fun kv=>if kv.1=D6 x then (kv.1,V.ref t) else kv) (cs.map fun c=>if c.1=x then (c.1,ts) else c)
 | _,_,.nil => .nil
 | _,_,.cons (b:=c) ⟨t',e,h2,g2⟩ r=>by
  subst e
  refine .cons ?_ (KvR.map h1 g1 r)
  dsimp only
  by_cases hx:c.1=x
  ·rw [if_pos hx,if_pos (by rw [hx])]
   exact ⟨t,rfl,h1,g1⟩
  ·rw [if_neg hx,if_neg (fun z=>hx (Lq z))]
   exact ⟨t',rfl,h2,g2⟩
theorem KvR.put {G:A3->Prop} {H:Hp} {kvs:List (Key×V)} {cs:Combs} {x:Str} {t:A3} {ts:List Int} (r:KvR G H kvs cs) (h1:H t = .some (.lst (ts.map V.int))) (g1:G t):KvR G H (putK kvs (D6 x) (.ref t)) (cPut cs x ts):=by
 unfold putK cPut
 rw [zbj,ze5,r.some]
 split
 ·exact r.map h1 g1
 ·exact Ek r ⟨t,rfl,h1,g1⟩
noncomputable abbrev PastR (G:A3->Prop) (H:Hp):List V->List Combs->Prop:=C3 fun v cs=>∃ d,v = .ref d/\DictR G H d cs
structure Bk (C:A3) (G:A3->Prop) (H:Hp) (b l:A3) (cs:Combs) (past:List Combs):Prop where
 live:∀ x,G x->H x≠none
 nb:¬ G b
 nl:¬ G l
 ins:∃ dx d,H b=some (.ins C dx [("combs",.ref d),("past",.ref l)])/\DictR G H d cs
 lst:∃ vs,H l=some (.lst vs)/\PastR G H vs past
 good:Good cs
 goods:∀ p∈past,Good p
 few:past.length<=300
theorem Bk.move {C:A3} {G:A3->Prop} {H H':Hp} {b l:A3} {cs:Combs} {past:List Combs} (B:Bk C G H b l cs past) (s:∀ a o,G a\/a=b\/a=l->H a=some o->H' a=some o):Bk C G H' b l cs past:=by
 have s':∀ a o,G a->H a=some o->H' a=some o:=fun a o g e=>s a o (.inl g) e
 obtain ⟨dx,d,e1,r1⟩:=B.ins
 obtain ⟨vs,e2,r2⟩:=B.lst
 refine ⟨fun x g => ?_,B.nb,B.nl,⟨dx,d,s _ _ (.inr (.inl rfl)) e1,r1.mono s' fun _ g=>g⟩,⟨vs,s _ _ (.inr (.inr rfl)) e2,?_⟩,B.good,B.goods,B.few⟩
 ·have:=B.live x g
  cases e:H x with
  | none=>exact absurd e this
  | some o=>rw [s' x o g e]; simp
 ·exact M1 (fun _ _ ⟨d,e,r⟩=>⟨d,e,r.mono s' fun _ g=>g⟩) r2
theorem Bk.same {C:A3} {G:A3->Prop} {H H':Hp} {b l:A3} {cs:Combs} {past:List Combs} (B:Bk C G H b l cs past) (s:Same H H'):Bk C G H' b l cs past:=B.move fun a o _ e=>s a o e
theorem Bk.liveB {C:A3} {G:A3->Prop} {H:Hp} {b l:A3} {cs:Combs} {past:List Combs} (B:Bk C G H b l cs past):H b≠none/\H l≠none:=by
 obtain ⟨dx,d,e1,r1⟩:=B.ins
 obtain ⟨vs,e2,r2⟩:=B.lst
 exact ⟨by rw [e1]; simp,by rw [e2]; simp⟩
structure Mv (b l:A3) (G G':A3->Prop) (H H':Hp):Prop where
 keep:∀ a o,H a=some o->a≠b->a≠l->H' a=some o
 on:∀ a,H a≠none->H' a≠none
 new:∀ a,G' a->G a\/H a=none
theorem zer {H H':Hp} (s:Same H H'):∀ a,H a≠none->H' a≠none:=fun a h=>by
 cases e:H a with
 | none=>exact absurd e h
 | some o=>rw [s a o e]; simp
theorem Mv.ofSame {b l:A3} {G:A3->Prop} {H H':Hp} (s:Same H H'):Mv b l G G H H':=⟨fun a o e _ _=>s a o e,zer s,fun _ g => .inl g⟩
theorem Mv.trans {b l:A3} {G G1 G2:A3->Prop} {H H1 H2:Hp} (m:Mv b l G G1 H H1) (m':Mv b l G1 G2 H1 H2):Mv b l G G2 H H2:=by
 refine ⟨fun a o e n1 n2=>m'.keep a o (m.keep a o e n1 n2) n1 n2,fun a h=>m'.on a (m.on a h),fun a g => ?_⟩
 rcases m'.new a g with g1 | e
 ·exact m.new a g1
 ·refine .inr ?_
  cases q:H a with
  | none=>rfl
  | some o=>exact absurd e (m.on a (by rw [q]; simp))
noncomputable def Deed (ea:Nat->A3) (C:A3) (G:A3->Prop) (H:Hp) (b l:A3) (cs:Combs) (past:List Combs) (Q:VK) (E:XK):Except Nat Combs->Prop
 | .error j=>∀ H',Same H H'->E (.ref (ea j)) none H'
 | .ok cs'=>∀ H' G',Mv b l G G' H H'->Bk C G' H' b l cs' (past ++ [cs])->Q (.int ((past.length:Int) + 1)) H'
theorem Deed.from {ea:Nat->A3} {C:A3} {G:A3->Prop} {H H1:Hp} {b l:A3} {cs:Combs} {past:List Combs} {Q:VK} {E:XK} {r:Except Nat Combs} (d:Deed ea C G H b l cs past Q E r) (s:Same H H1):Deed ea C G H1 b l cs past Q E r:=by
 cases r with
 | error j=>exact fun H' s'=>d H' (s.trans s')
 | ok cs'=>exact fun H' G' m B=>d H' G' ((Mv.ofSame s).trans m) B
noncomputable def full (past:List Combs) (cs':Combs):Except Nat Combs:=if 300<=past.length then .error 9 else .ok cs'
noncomputable def putD (cs:Combs) (past:List Combs) (x:Str) (ts:List Int):Except Nat Combs :=
 if isName x=false then .error 0 else if areTeeth ts=false then .error 1 else if (cGet cs x).isSome=true then .error 2 else if 8<=cs.length then .error 3 else full past (cPut cs x (canon ts))
theorem call_dictD {X:Cx}:CallR X (.type "dict") (fun xs H Q=>∃ a kvs,xs = [V.ref a]/\Rd H a (.dK kvs)/\∀ p,H p=none->Q (.ref p) (upd H p (.dK kvs))):=by
 intro pins s σ H xs us Q I r h
 obtain ⟨a,kvs,rfl,ha,q⟩:=h
 obtain ⟨u,rfl,ru⟩:=zb5 r
 cases ru
 exact d_copyOf I ha fun p s' np I'=>⟨.ref p,_,I',rfl,q p np⟩
noncomputable def sle (a b:Str):Prop:=a.cps.toList<=b.cps.toList
theorem sle_iff {a b:Str}:sle a b ↔ ltCps b.cps.toList a.cps.toList=false:=by
 unfold sle
 rw [ltCps_eq,decide_eq_false_iff_not,List.not_lt]
theorem sle_trans {a b c:Str} (h1:sle a b) (h2:sle b c):sle a c:=Oj h1 h2
theorem sle_antisymm {a b:Str} (h1:sle a b) (h2:sle b a):a=b:=by
 have:=List.le_antisymm h1 h2
 cases a; cases b
 simp only at this
 rw [Str.mk.injEq,<- Nk]
 exact this
theorem zdD:∀ {l:List Str} {p:Str},risingS p l=true->(p :: l).Pairwise sle
 | [],p,_=>by simp
 | x :: r,p,h=>by
  simp only [risingS,Bt,Fs] at h
  have ih:=zdD h.2
  have hpx:sle p x:=sle_iff.mpr h.1
  refine Jo.mpr ⟨fun y hy => ?_,ih⟩
  rcases B6.mp hy with rfl | hm
  ·exact hpx
  ·exact sle_trans hpx ((Jo.mp ih).1 y hm)
theorem zdx {l:List Str} (h:sortedS l=true):l.Pairwise sle:=by
 cases l with
 | nil=>exact Ga
 | cons x r=>exact zdD h
theorem strs_same {a b:List Str} (hp:a.Perm b) (ha:sortedS a=true) (hb:sortedS b=true):a=b :=
 hp.eq_of_pairwise (fun _ _ _ _ h1 h2=>sle_antisymm h1 h2) (zdx ha) (zdx hb)
theorem atI_int {α : Type} {xs:List α} {k:Int} {v : α} (h0:0<=k) (h:xs[k.toNat]?=some v):atI xs k=some v:=by
 have e:((k.toNat:Nat):Int)=k:=by omega
 rw [<- e]
 exact zax h
noncomputable def errNames:List Str := [A0 "BadName",A0 "BadTeeth",A0 "NameTaken",A0 "BookFull",A0 "NoComb",A0 "BadTooth",A0 "ToothThere",A0 "FirstTooth",A0 "ToothMissing",A0 "DeedsFull",A0 "NothingDone",A0 "BadShape",A0 "BadPlace",A0 "BadLength",A0 "NoFilling"]
noncomputable def errName (j:Nat):Str:=errNames.getD j (A0 "")
noncomputable def valErr:List A1 := [.type "ValueError",.type "Exception",.type "BaseException",.type "object"]
noncomputable def clsChk (K:Al) (C:A3):Bool:=(Fz K C).isSome && N9 K (.ref C) == some (.type "type")
noncomputable def errChk1 (K:Al) (l:List A3) (ce:A3) (D:A3) (j:Nat):Bool :=
 (Ac 15).all (fun i=>Ec K D (.ref (l.getD i 0)) == some (i == j)) && (Ec K D (.ref ce) == some true &&
 (Bq K (.ref D) "__getattribute__" == some (some (.builtin "BaseException.__getattribute__")) && (Bq K (.ref D) "__getattr__" == some none &&
 (Bq K (.ref D) "__class__" == some (some (.builtin "object.__class__")) && (Ec K D (.type "object") == some true && (Ec K D (.type "BaseException") == some true && Gr K D valErr "ValueError.__new__"))))))
noncomputable def errChk (K:Al) (l:List A3) (ce:A3) (js:List Nat):Bool :=
 (Ac 15).all (fun i=>clsChk K (l.getD i 0)) && (clsChk K ce && (Ec K ce (.type "BaseException") == some true &&
 (Jj K (.builtin "object.__class__") "__get__" == some (some (.builtin "getset_descriptor.__get__")) && (K1 K (.builtin "object.__class__") == some true && js.all fun j=>errChk1 K l ce (l.getD j 0) j))))
structure KindF (K:Al) (ea:Nat->A3) (D:A3) (j:Nat):Prop where
 lt:j < 15
 cls:ErrCls K D
 kit:∀ i,i < 15->Fg K (.ref D) (.ref (ea i))=some (decide (i=j))
structure EJ (K:Al) (ea:Nat->A3) (ce:A1) (j:Nat):Prop where
 kf:KindF K ea (ea j) j
 ex:Ii K (.ref (ea j)) ce=some true
 exc:Gr K (ea j) valErr "ValueError.__new__" = true
theorem zet {K:Al} {D C:A3} {b:Bool} (h:clsChk K C=true) (m:Ec K D (.ref C)=some b):Na K (.ref D) (.ref C)=some b:=by
 unfold clsChk at h
 simp only [Bt,beq_iff_eq] at h
 unfold Na
 simp only [h.1,h.2]
 rw [if_pos (by decide)]
 exact m
theorem ej_of {K:Al} {l:List A3} {ce:A3} {js:List Nat} {j:Nat} (h:errChk K l ce js=true) (hj:j∈js) (hlt:j < 15):EJ K (fun i=>l.getD i 0) (.ref ce) j:=by
 unfold errChk at h
 simp only [Bt,beq_iff_eq,Cs,B9] at h
 obtain ⟨h1,h2,h3,h4,h5,h6⟩:=h
 have h7:=h6 j hj
 unfold errChk1 at h7
 simp only [Bt,beq_iff_eq,Cs,B9] at h7
 obtain ⟨g1,g2,g3,g4,g5,g6,g7,g8⟩:=h7
 have hc:(Fz K (l.getD j 0)).isSome=true:=by
  have:=h1 j hlt
  unfold clsChk at this
  simp only [Bt] at this
  exact this.1
 refine ⟨⟨hlt,⟨g3,g4,hc,g5,h4,h5,g6,g7⟩,fun i hi => ?_⟩,?_,g8⟩
 ·have m:=g1 i hi
  unfold Fg
  by_cases e:i=j
  ·subst e
   rw [if_pos (beq_self_eq_true _),decide_eq_true rfl]
  ·have ne:l.getD j 0≠l.getD i 0:=fun z=>by
    have m2:=g1 j hlt
    rw [<- z] at m
    rw [m] at m2
    simp [e] at m2
   rw [if_neg (fun z=>ne (Mz (beq_iff_eq.mp z))),decide_eq_false e]
   have e2:(i == j)=false:=beq_eq_false_iff_ne.mpr e
   rw [e2] at m
   exact zet (h1 i hi) m
 ·unfold Ii
  rw [if_pos (by rw [show PySem.W.subIn K (.ref ce) (.type "BaseException")=some true from h3]; rfl)]
  exact zet h2 g2
theorem EJ.err {K:Al} {mg:Str->Option A1} {ea:Nat->A3} {ce:A1} {j:Nat} {x:Str} (e:EJ K ea ce j) (hm:mg x=some (.ref (ea j))):Err K mg x (ea j):=⟨hm,e.exc⟩
structure BookAt (K:Al) (C:A3):Prop where
 cls:Cls K C
 nc:NoAttr K C "combs"
 np:NoAttr K C "past"
noncomputable def bookChk (K:Al) (C:A3):Bool:=Fv K C Qx && (Gn K C && (Jk K C && (Bq K (.ref C) "__setattr__" == some (some (.builtin "object.__setattr__")) && (Bq K (.ref C) "combs" == some none && Bq K (.ref C) "past" == some none))))
theorem book_of {K:Al} {C:A3} (h:bookChk K C=true):BookAt K C:=by
 unfold bookChk at h
 simp only [Bt,beq_iff_eq] at h
 obtain ⟨h1,h2,h3,h4,h5,h6⟩:=h
 exact ⟨⟨h1,h2,h3,h4⟩,h5,h6⟩
theorem meth_mk {K:Al} {C:A3} {cn m:Str} {st:Cd} {f:A3} {oc:A1} {od an:Option A3} {osl:Array (Option A1)} {kV doc pm cdv ct:A1} (a:Bq K (.ref C) m=some (some (.ref f)))
  (l:K.lookup f=some ⟨oc,od,.func (Cg m (cn ++ A0 "." ++ m) (defArgs st) (defBody st) (defScope st) .none kV doc pm an cdv ct),osl⟩) (c:Ex K cdv (cn ++ A0 "." ++ m)=true) (k:Cu K (.ref f)=true) (i:Hk K (.ref f)=true):MethAt K C cn m st :=
 ⟨f,_,zgx l c k,a,i,k⟩
structure InitAt (K:Al) (mg:Str->Option A1) (C:A3) (x qual:Str) (st:Cd):Prop where
 ex:∃ f fd,Mk K C f/\Fun K "__init__" qual st f fd
 m:mg x=some (.ref C)
theorem init_mk {K:Al} {mg:Str->Option A1} {C:A3} {x qual:Str} {st:Cd} {f:A3} {oc:A1} {od an:Option A3} {osl:Array (Option A1)} {kV doc pm cdv ct:A1} (hm:mg x=some (.ref C)) (a:Bq K (.ref C) "__init__" = some (some (.ref f)))
  (l:K.lookup f=some ⟨oc,od,.func (Cg "__init__" qual (defArgs st) (defBody st) (defScope st) .none kV doc pm an cdv ct),osl⟩) (c:Ex K cdv qual=true) (k:Cu K (.ref f)=true) (i:Hk K (.ref f)=true) (k2:Cu K (.ref C)=true) (mk:K7 K C=true):InitAt K mg C x qual st :=
 ⟨⟨f,_,⟨mk,a,i,k2⟩,zgx l c k⟩,hm⟩
theorem ref_mk {K:Al} {mg:Str->Option A1} {h:Br} {x:Str} {f:A3} (X:K.In h) (G:h.Ns mainGlobals mg) (a:Bx K mainGlobals x=some (some (.ref f))):mg x=some (.ref f):=Kq X G a
theorem at_last {α : Type} (l:List α) (a : α):atI (l ++ [a]) (-1)=some a:=by
 unfold atI ixN
 rw [if_neg (by decide),if_pos (by rw [Ah,Bm]; omega)]
 have e:((-1:Int) + (((l ++ [a]).length:Nat):Int)).toNat=l.length:=by rw [Ah,Bm]; omega
 rw [e]
 simp
section
variable {X:Cx}
end
section
variable {X:Cx} {T id:String} {name:Str} {r:V->List V->Hp->VK->Prop} {o e:Ca} {es:List Ca} {to:TE} {t:TA} {apos cpos:Pos}
end
noncomputable def pw (t:Int):Int:=2 ^ t.toNat
noncomputable def worth (ts:List Int):Int:=(ts.map pw).sum
noncomputable def aheadOf (n:Int):List Int:=((Ac 7).filter fun d=>n.toNat.testBit d).map fun i=>((i:Nat):Int)
noncomputable def meets (ah ts:List Int):Bool:=ts.any fun t=>decide (t∈ah)
noncomputable def afterOf (ah ts:List Int):List Int:=((canon (ah ++ ts)).filter fun d=>decide (0 < d)).map fun d=>d - 1
theorem zd7:worth []=0:=rfl
theorem zaY (t:Int) (ts:List Int):worth (t :: ts)=pw t + worth ts:=rfl
theorem zcE (a b:List Int):worth (a ++ b)=worth a + worth b:=by
 induction a with
 | nil=>simp [worth]
 | cons t a ih=>rw [Kd,zaY,zaY,ih]; omega
theorem worth_perm {a b:List Int} (h:a.Perm b):worth a=worth b:=by
 induction h with
 | nil=>rfl
 | cons x _ ih=>rw [zaY,zaY,ih]
 | swap x y l=>simp only [zaY]; omega
 | trans _ _ h1 h2=>exact h1.trans h2
theorem pw_pos (t:Int):0 < pw t:=by unfold pw; exact Int.pow_pos (by decide)
theorem ze8 (ts:List Int):0<=worth ts:=by
 induction ts with
 | nil=>exact Dk _
 | cons t ts ih=>rw [zaY]; have:=pw_pos t; omega
noncomputable def bitSum (f:Nat->Bool):Nat->Nat
 | 0=>0
 | k + 1=>2 ^ k * (if f k then 1 else 0) + bitSum f k
theorem zci (f:Nat->Bool) (k:Nat):bitSum f (k + 1)=2 ^ k * (if f k then 1 else 0) + bitSum f k:=rfl
theorem zcu (f:Nat->Bool):∀ k,bitSum f k < 2 ^ k
 | 0=>O6
 | k + 1=>by
  have:=zcu f k
  rw [zci]
  rw [Pa]
  cases f k
  ·simp; omega
  ·simp; omega
theorem zbH (f:Nat->Bool) (i:Nat):∀ k,(bitSum f k).testBit i=(decide (i < k) && f i)
 | 0=>by simp [bitSum]
 | k + 1=>by
  rw [zci,Nat.testBit_two_pow_mul_add _ (zcu f k),zbH f i k]
  by_cases h:i < k
  ·rw [if_pos h,decide_eq_true h,decide_eq_true (show i < k + 1 by omega)]
  ·rw [if_neg h]
   by_cases e:i=k
   ·subst e
    rw [Il,decide_eq_true (El i)]
    cases f i <;> rfl
   ·rw [decide_eq_false (show ¬ i < k + 1 by omega),F9]
    cases f k
    ·exact G7 _
    ·show (1:Nat).testBit (i - k)=false
     rw [Nj]
     exact fun z=>absurd (Nat.testBit_one_eq_true_iff_self_eq_zero.mp z) (by omega)
theorem zbZ (f:Nat->Bool):∀ k,worth (((Ac k).filter f).map fun i=>((i:Nat):Int))=((bitSum f k:Nat):Int)
 | 0=>rfl
 | k + 1=>by
  rw [Dx,Cz,Bi,zcE,zbZ f k,zci]
  cases h:f k
  ·simp [h,worth]
  ·simp only [h,Cb,Es,if_true,Aq,Gh,zaY,zd7]
   unfold pw
   rw [D8]
   push_cast
   omega
theorem zdk {f:Nat->Bool} {k:Nat} (i:Nat):(worth (((Ac k).filter f).map fun i=>((i:Nat):Int))).toNat.testBit i=(decide (i < k) && f i):=by
 rw [zbZ,D8,zbH]
theorem ahead_worth (f:Nat->Bool):aheadOf (worth (((Ac 7).filter f).map fun i=>((i:Nat):Int)))=((Ac 7).filter f).map fun i=>((i:Nat):Int):=by
 unfold aheadOf
 congr 1
 refine Jw fun i hi => ?_
 rw [zdk,decide_eq_true (B9.mp hi),Ff]
theorem zbb {n:Int} (h0:0<=n) (h1:n < 128):worth (aheadOf n)=n:=by
 unfold aheadOf
 rw [zbZ]
 have:bitSum (fun d=>n.toNat.testBit d) 7=n.toNat:=by
  refine Jc fun i => ?_
  rw [zbH]
  by_cases h:i < 7
  ·rw [decide_eq_true h,Ff]
  ·rw [decide_eq_false h,F9]
   symm
   refine Ik (Af (show n.toNat < 2 ^ 7 by omega) (Ja (by decide) (by omega)))
 rw [this]
 omega
theorem mem_ahead {n t:Int}:t∈aheadOf n ↔ 0<=t/\t<=6/\n.toNat.testBit t.toNat=true:=by
 unfold aheadOf
 simp only [Ab,Bc,B9]
 constructor
 ·rintro ⟨i,⟨hi,hb⟩,rfl⟩
  exact ⟨by omega,by omega,by simpa using hb⟩
 ·rintro ⟨h0,h6,hb⟩
  exact ⟨t.toNat,⟨by omega,hb⟩,by omega⟩
theorem meets_false {ah ts:List Int}:meets ah ts=false ↔ ∀ t∈ts,t ∉ ah:=by
 unfold meets
 simp [Ng]
theorem zeN {n:Int} {ts:List Int} (h0:0<=n) (h1:n < 128) (g:GT ts):Dp n (worth ts)=0 ↔ meets (aheadOf n) ts=false:=by
 have hb:Dp n (worth ts)=((n.toNat &&& (worth ts).toNat:Nat):Int):=by
  unfold Dp
  rw [decide_eq_true h0,decide_eq_true (ze8 ts)]
 rw [hb,meets_false]
 obtain ⟨f,rfl,_⟩:=g
 constructor
 ·intro h t ht ha
  obtain ⟨t0,t6,tb⟩:=mem_ahead.mp ha
  obtain ⟨i,hi,rfl⟩:=Ab.mp ht
  obtain ⟨hr,hf⟩:=Bc.mp hi
  have z:(n.toNat &&& (worth (((Ac 8).filter f).map fun i=>((i:Nat):Int))).toNat)=0:=by omega
  have z:=congrArg (fun m=>m.testBit i) z
  simp only [O7,zdk,G7] at z
  rw [D8] at tb
  rw [tb,hf,decide_eq_true (B9.mp hr)] at z
  exact absurd z (by decide)
 ·intro h
  have z:(n.toNat &&& (worth (((Ac 8).filter f).map fun i=>((i:Nat):Int))).toNat)=0:=by
   refine Jc fun i => ?_
   rw [O7,zdk,G7]
   cases e:n.toNat.testBit i with
   | false=>rfl
   | true =>
    have hi:i < 7:=by
     apply Di
     intro hn
     have:=Ik (Af (show n.toNat < 2 ^ 7 by omega) (Ja (by decide) (show 7<=i by omega)))
     rw [this] at e
     exact absurd e (by decide)
    cases ef:f i with
    | false=>simp
    | true =>
     exfalso
     refine h (i:Int) (Ab.mpr ⟨i,Bc.mpr ⟨B9.mpr (by omega),ef⟩,rfl⟩) (mem_ahead.mpr ⟨by omega,by omega,?_⟩)
     rwa [D8]
  omega
theorem worth_half (l:List Int) (h:∀ t∈l,0<=t):worth l=2 * worth ((l.filter fun d=>decide (0 < d)).map fun d=>d - 1) + ((l.count 0:Nat):Int):=by
 induction l with
 | nil=>rfl
 | cons t l ih =>
  have ih:=ih fun x hx=>h x (A8 _ hx)
  have t0:=h t Ag
  rw [zaY,Cb,List.count_cons]
  by_cases e:t=0
  ·subst e
   rw [ih]
   simp [pw]
   omega
  ·have hp:0 < t:=by omega
   have:pw t=2 * pw (t - 1):=by
    unfold pw
    rw [show t.toNat=(t - 1).toNat + 1 by omega,Int.pow_succ]
    omega
   rw [if_pos (decide_eq_true hp),Aq,zaY,this,ih]
   rw [if_neg (by simpa using e)]
   omega
theorem zfL {ah ts:List Int}:∀ d∈afterOf ah ts,0<=d/\d<=6:=by
 intro d hd
 obtain ⟨x,hx,rfl⟩:=Ab.mp hd
 obtain ⟨hc,hp⟩:=Bc.mp hx
 have:=(mem_canon.mp hc).2
 have:=of_decide_eq_true hp
 omega
theorem zcV (ah ts:List Int):(afterOf ah ts).Pairwise (· < ·):=by
 unfold afterOf
 rw [C4]
 exact ((zd4 (ah ++ ts)).sublist D5).imp fun h=>by omega
theorem zcj (n:Int):(aheadOf n).Nodup:=by
 refine zaT ?_
 unfold aheadOf
 rw [C4]
 refine Bg D5 (Ei ?_ (Dg (n:=7)))
 intro a b h
 omega
theorem zdn {ah ts:List Int} (ha:ah.Nodup) (hr:∀ t∈ah,0<=t/\t<=6) (ht:ts.Nodup) (hr':∀ t∈ts,0<=t/\t<=7) (hm:meets ah ts=false):worth (afterOf ah ts)=(worth ah + worth ts) / 2:=by
 have hn:(ah ++ ts).Nodup:=Dv.mpr ⟨ha,ht,fun a h1 b h2 e=>meets_false.mp hm b h2 (e ▸ h1)⟩
 have hp:(canon (ah ++ ts)).Perm (ah ++ ts):=by
  rw [Df (zcg _) hn]
  intro t
  rw [mem_canon]
  refine ⟨fun h=>h.1,fun h=>⟨h,?_⟩⟩
  rcases Ao.mp h with z | z
  ·have:=hr t z; omega
  ·exact hr' t z
 have hw:=worth_half (canon (ah ++ ts)) fun t h=>(mem_canon.mp h).2.1
 rw [worth_perm hp,zcE] at hw
 have hc:=List.nodup_iff_count.mp (zcg (ah ++ ts)) 0
 unfold afterOf
 omega
theorem zbx {n:Int}:∀ t∈aheadOf n,0<=t/\t<=6:=fun t h=>⟨(mem_ahead.mp h).1,(mem_ahead.mp h).2.1⟩
theorem zdq {n:Int} (h0:0<=n):(0:Int)∈aheadOf n ↔ n % 2=1:=by
 rw [mem_ahead]
 have:n.toNat.testBit 0=decide (n.toNat % 2=1):=Nat.testBit_zero _
 rw [show (0:Int).toNat=0 from rfl,this,decide_eq_true_eq]
 omega
noncomputable def stepsOf (cs:Combs) (n:Int):List (Str×Int):=if n % 2=1 then [("",n / 2)] else (cs.filter fun c=>decide (Builtin.bitAnd n (worth c.2)=0)).map fun c=>(c.1,(n + worth c.2) / 2)
noncomputable def goesOf (cs:Combs) (ah:List Int):List (Str×List Int):=if (0:Int)∈ah then [("",afterOf ah [])] else (cs.filter fun c => !meets ah c.2).map fun c=>(c.1,afterOf ah c.2)
theorem zdv {cs:Combs} {n:Int} (h0:0<=n) (h1:n < 128) (g:∀ c∈cs,GT c.2):(goesOf cs (aheadOf n)).map (fun p=>(p.1,worth p.2))=stepsOf cs n:=by
 unfold goesOf stepsOf
 by_cases e:n % 2=1
 ·rw [if_pos e,if_pos ((zdq h0).mpr e),Aq,Gh,zdn (zcj n) zbx E8 (by simp) (by rfl),zbb h0 h1,zd7,Int.add_zero]
 ·rw [if_neg e,if_neg fun z=>e ((zdq h0).mp z),Be]
  have hf:(cs.filter fun c => !meets (aheadOf n) c.2)=cs.filter fun c=>decide (Dp n (worth c.2)=0):=by
   refine Jw fun c hc => ?_
   rw [Bd,decide_eq_true_eq,zeN h0 h1 (g c hc),Fs]
  rw [hf]
  refine Ce fun c hc => ?_
  obtain ⟨hc,hz⟩:=Bc.mp hc
  have gc:=g c hc
  show (c.1,worth (afterOf (aheadOf n) c.2))=_
  rw [zdn (zcj n) zbx (zaT (zd1 gc)) (zbV gc) ((zeN h0 h1 gc).mp (of_decide_eq_true hz)),zbb h0 h1]
theorem steps_lt {cs:Combs} {n:Int} (h0:0<=n) (h1:n < 128) (g:∀ c∈cs,GT c.2):∀ p∈stepsOf cs n,0<=p.2/\p.2 < 128:=by
 rw [<- zdv h0 h1 g]
 intro p hp
 obtain ⟨q,hq,rfl⟩:=Ab.mp hp
 have:∃ a b,q.2=afterOf a b:=by
  unfold goesOf at hq
  split at hq
  ·rw [A6.mp hq]; exact ⟨_,_,rfl⟩
  ·obtain ⟨c,_,rfl⟩:=Ab.mp hq; exact ⟨_,_,rfl⟩
 obtain ⟨a,b,e⟩:=this
 show 0<=worth q.2/\worth q.2 < 128
 rw [e]
 refine ⟨ze8 _,?_⟩
 have hs:afterOf a b=((Ac 7).filter fun i=>decide (((i:Nat):Int)∈afterOf a b)).map fun i=>((i:Nat):Int):=by
  refine zbD ?_ ((zcV a b).imp fun h=>by omega) ?_
  ·rw [Df (zaT (zcV a b))]
   ·intro t
    simp only [Ab,Bc,B9,decide_eq_true_eq]
    constructor
    ·intro h
     have:=zfL t h
     exact ⟨t.toNat,⟨by omega,by rwa [show ((t.toNat:Nat):Int)=t by omega]⟩,by omega⟩
    ·rintro ⟨i,⟨_,h⟩,rfl⟩
     exact h
   ·refine zaT ?_
    rw [C4]
    refine Bg D5 (Ei ?_ (Dg (n:=7)))
    intro a b h
    omega
  ·rw [C4]
   refine Bg D5 (Ei ?_ (Dg (n:=7)))
   intro a b h
   omega
 rw [hs,zbZ]
 have:=zcu (fun i=>decide (((i:Nat):Int)∈afterOf a b)) 7
 omega
noncomputable def StepsR (H:Hp):List V->List (Str×Int)->Prop
 | [],[]=>True
 | v :: vs,s :: ss=>(∃ q,v = .ref q/\H q=some (.tup [.str s.1,.int s.2]))/\StepsR H vs ss
 | _,_=>False
theorem StepsR.mono {H H':Hp} (m:∀ q xs,H q=some (.tup xs)->H' q=some (.tup xs)):∀ {vs:List V} {ss:List (Str×Int)},StepsR H vs ss->StepsR H' vs ss
 | [],[],_=>trivial
 | _ :: _,_ :: _,⟨⟨q,e,h⟩,r⟩=>⟨⟨q,e,m q _ h⟩,r.mono m⟩
 | [],_ :: _,x=>x.elim
 | _ :: _,[],x=>x.elim
theorem StepsR.length {H:Hp}:∀ {vs:List V} {ss:List (Str×Int)},StepsR H vs ss->vs.length=ss.length
 | [],[],_=>rfl
 | _ :: _,_ :: _,⟨_,r⟩=>by rw [Ar,Ar,r.length]
 | [],_ :: _,x=>x.elim
 | _ :: _,[],x=>x.elim
theorem StepsR.snoc {H:Hp} {q:A3} {s:Str×Int} (hq:H q=some (.tup [.str s.1,.int s.2])):∀ {vs:List V} {ss:List (Str×Int)},StepsR H vs ss->StepsR H (vs ++ [.ref q]) (ss ++ [s])
 | [],[],_=>⟨⟨q,rfl,hq⟩,trivial⟩
 | _ :: _,_ :: _,⟨a,r⟩=>⟨a,r.snoc hq⟩
 | [],_ :: _,x=>x.elim
 | _ :: _,[],x=>x.elim
theorem StepsR.get {H:Hp} {i:Nat} {s:Str×Int}:∀ {vs:List V} {ss:List (Str×Int)},StepsR H vs ss->ss[i]?=some s->∃ q,vs[i]?=some (.ref q)/\H q=some (.tup [.str s.1,.int s.2]):=by
 induction i with
 | zero =>
  intro vs ss r e
  match vs,ss,r with
  | [],[],_=>simp at e
  | v :: _,x :: _,⟨⟨q,ev,h⟩,_⟩ =>
   simp at e
   subst e
   exact ⟨q,by rw [ev]; rfl,h⟩
 | succ i ih =>
  intro vs ss r e
  match vs,ss,r with
  | [],[],_=>simp at e
  | v :: vs,x :: ss,⟨_,r⟩ =>
   obtain ⟨q,e1,e2⟩:=ih r (by simpa using e)
   exact ⟨q,by simpa using e1,e2⟩
noncomputable def byNames (cs:Combs) (nm:List Str):Combs:=nm.map fun x=>(x,(cGet cs x).getD [])
theorem byNames_snoc {cs:Combs} {nm:List Str} {x:Str} {ts:List Int} (h:cGet cs x=some ts):byNames cs (nm ++ [x])=byNames cs nm ++ [(x,ts)]:=by
 unfold byNames
 rw [Bi,Aq,Gh,h]
 rfl
theorem zdu {cs:Combs} {c:Str×List Int} {n:Int} (h:¬ n % 2=1):stepsOf (cs ++ [c]) n=stepsOf cs n ++ if Builtin.bitAnd n (worth c.2)=0 then [(c.1,(n + worth c.2) / 2)] else []:=by
 unfold stepsOf
 rw [if_neg h,if_neg h,Cz,Bi]
 congr 1
 by_cases e:Dp n (worth c.2)=0
 ·rw [if_pos e,Cb,if_pos (decide_eq_true e)]
  rfl
 ·rw [if_neg e,Cb,if_neg (by simpa using e)]
  rfl
theorem steps_nil {n:Int} (h:¬ n % 2=1):stepsOf [] n = []:=by
 unfold stepsOf
 rw [if_neg h]
 rfl
theorem zeb {cs:Combs} {n:Int} (h:n % 2=1):stepsOf cs n = [((Str.ofString "" : Str),n / 2)]:=by
 unfold stepsOf
 exact if_pos h
theorem steps_len {cs:Combs} {n:Int} (h:¬ n % 2=1):(stepsOf cs n).length<=cs.length:=by
 unfold stepsOf
 rw [if_neg h,A5]
 exact Cm _ _
theorem zgr (t:Int) (ts:List Int):inV (V.int t) (ts.map V.int)=decide (t∈ts):=by
 unfold inV
 rw [Jx,Bd,Bs,decide_eq_true_eq]
 constructor
 ·rintro ⟨x,hx,e⟩
  have:x=t:=by
   have e':(x == t)=true:=e
   exact eq_of_beq e'
  rw [<- this]; exact hx
 ·intro h
  exact ⟨t,h,beq_self_eq_true t⟩
theorem after_canon {ah ts ns:List Int} (ha:ah.Nodup) (hr:∀ t∈ah,0<=t/\t<=6) (ht:ts.Nodup) (hr':∀ t∈ts,0<=t/\t<=7) (hm:meets ah ts=false) (hp:ns.Perm (ah ++ ts)) (hs:ns.Pairwise (· <= ·)):ns=canon (ah ++ ts):=by
 refine zcT hp hs (Dv.mpr ⟨ha,ht,fun a h1 b h2 e=>meets_false.mp hm b h2 (e ▸ h1)⟩) fun t h => ?_
 rcases Ao.mp h with z | z
 ·have:=hr t z; omega
 ·exact hr' t z
noncomputable def GoesR (H:Hp):List V->List (Str×List Int)->Prop
 | [],[]=>True
 | v :: vs,s :: ss=>(∃ q t,v = .ref q/\H q=some (.tup [.str s.1,.ref t])/\H t=some (.tup (s.2.map V.int)))/\GoesR H vs ss
 | _,_=>False
theorem GoesR.mono {H H':Hp} (m:∀ q xs,H q=some (.tup xs)->H' q=some (.tup xs)):∀ {vs:List V} {ss:List (Str×List Int)},GoesR H vs ss->GoesR H' vs ss
 | [],[],_=>trivial
 | _ :: _,_ :: _,⟨⟨q,t,e,h,h2⟩,r⟩=>⟨⟨q,t,e,m q _ h,m t _ h2⟩,r.mono m⟩
 | [],_ :: _,x=>x.elim
 | _ :: _,[],x=>x.elim
theorem GoesR.length {H:Hp}:∀ {vs:List V} {ss:List (Str×List Int)},GoesR H vs ss->vs.length=ss.length
 | [],[],_=>rfl
 | _ :: _,_ :: _,⟨_,r⟩=>by rw [Ar,Ar,r.length]
 | [],_ :: _,x=>x.elim
 | _ :: _,[],x=>x.elim
theorem GoesR.snoc {H:Hp} {q t:A3} {s:Str×List Int} (hq:H q=some (.tup [.str s.1,.ref t])) (ht:H t=some (.tup (s.2.map V.int))):∀ {vs:List V} {ss:List (Str×List Int)},GoesR H vs ss->GoesR H (vs ++ [.ref q]) (ss ++ [s])
 | [],[],_=>⟨⟨q,t,rfl,hq,ht⟩,trivial⟩
 | _ :: _,_ :: _,⟨a,r⟩=>⟨a,r.snoc hq ht⟩
 | [],_ :: _,x=>x.elim
 | _ :: _,[],x=>x.elim
theorem GoesR.get {H:Hp} {i:Nat} {s:Str×List Int}:∀ {vs:List V} {ss:List (Str×List Int)},GoesR H vs ss->ss[i]?=some s->∃ q t,vs[i]?=some (.ref q)/\H q=some (.tup [.str s.1,.ref t])/\H t=some (.tup (s.2.map V.int)):=by
 induction i with
 | zero =>
  intro vs ss r e
  match vs,ss,r with
  | [],[],_=>simp at e
  | v :: _,x :: _,⟨⟨q,t,ev,h,h2⟩,_⟩ =>
   simp at e
   subst e
   exact ⟨q,t,by rw [ev]; rfl,h,h2⟩
 | succ i ih =>
  intro vs ss r e
  match vs,ss,r with
  | [],[],_=>simp at e
  | v :: vs,x :: ss,⟨_,r⟩ =>
   obtain ⟨q,t,e1,e2⟩:=ih r (by simpa using e)
   exact ⟨q,t,by simpa using e1,e2⟩
theorem goes_in {cs:Combs} {ah:List Int} (h:(0:Int)∈ah):goesOf cs ah = [((A0 "" : Str),afterOf ah [])]:=by
 unfold goesOf
 exact if_pos h
theorem goes_nil {ah:List Int} (h:(0:Int) ∉ ah):goesOf [] ah = []:=by
 unfold goesOf
 rw [if_neg h]
 rfl
theorem zey {cs:Combs} {c:Str×List Int} {ah:List Int} (h:(0:Int) ∉ ah):goesOf (cs ++ [c]) ah=goesOf cs ah ++ if meets ah c.2=true then [] else [(c.1,afterOf ah c.2)]:=by
 unfold goesOf
 rw [if_neg h,if_neg h,Cz,Bi]
 congr 1
 by_cases e:meets ah c.2=true
 ·rw [if_pos e,Cb,if_neg (by rw [e]; decide)]
  rfl
 ·rw [if_neg e,Cb,if_pos (by simpa using e)]
  rfl
end L2
namespace L2
open PySem PySem.Spec PyProof.Rows PySem.W
structure LtOk (n:Nat) (lt:Nat->Nat->Bool):Prop where
 tr:∀ {a b c},lt a b=true->lt b c=true->lt a c=true
 tot:∀ {a b},a < n->b < n->a≠b->lt a b=false->lt b a=true
 irr:∀ a,lt a a=false
noncomputable abbrev gd (p:Array Nat) (i:Nat):Nat:=p.getD i 0
section
variable {n:Nat} {lt:Nat->Nat->Bool} {cmp:Nat->Nat->(Bool->A4->Prop)->A4->Prop} {s:A4}
variable (L:LtOk n lt) (hc:∀ i j C,i < n->j < n->i≠j->C (lt i j) s->cmp i j C s)
include L hc
omit hc L in
omit hc L in
omit hc L in
end
end L2
namespace L2
open PySem PySem.Spec PyProof.Rows PySem.W
open AutoSeq1 (wpAny_loadPart')
open MeetsSeq MeetsSeq2 MeetsSeq3
section
variable {prog:An} {w:B8} {A:B1} {E:A1->A4->Prop} {s:A4}
end
noncomputable def kd (ks:List (Str×List Int)) (i:Nat):Str×List Int:=ks.getD i (A0 "",[])
section
variable {X:Cx}
end
noncomputable def intsChk:List A1->List Int->Bool
 | [],[]=>true
 | .int i _ :: r,k :: s=>decide (i=k) && intsChk r s
 | _,_=>false
theorem zfz:∀ {us:List A1} {ns:List Int},intsChk us ns=true->Vals (ns.map V.int) us
 | [],[],_ => .nil
 | .int i t :: r,k :: s,h=>by
  simp only [intsChk,Bt,decide_eq_true_eq] at h
  obtain ⟨rfl,h⟩:=h
  exact .cons ⟨t,rfl⟩ (zfz h)
 | [],_ :: _,h=>by cases h
noncomputable def tupChk (K:Al) (a:A3) (ns:List Int):Bool:=match K.lookup a with
 | some o=>(o.cls == .type "tuple") && match o.data with
  | .seq its _=>intsChk its.toList ns && decide (its.size<=1000)
  | _=>false
 | none=>false
theorem tup_chk {K:Al} {a:A3} {ns:List Int} (h:tupChk K a ns=true) (H:Hp):SqT K H a (ns.map V.int):=by
 unfold tupChk at h
 split at h
 ·rename_i o e
  rw [Bt] at h
  obtain ⟨hc,h⟩:=h
  split at h
  ·rename_i its n ed
   rw [Bt] at h
   exact .inr ⟨o,its,n,e,eq_of_beq hc,ed,big (of_decide_eq_true h.2),zfz h.1⟩
  ·cases h
 ·cases h
end L2
namespace L2
open PySem PySem.Spec PyProof.Rows
theorem zg8 {J:It} {Ok:Hp->Prop} {L:List V} {tf:TT} {te:TE} {D:A3} {σ0 capv:St} {H1:Hp} {Q:VK} (hσ : σ0=none :: capv) (G:Gives J Ok L) (hL:L.length<=sizeLine) (hD:H1 D=none) (hOk:∀ H,Same H1 H->Ok H) (p:Nat->Bool) (Rel:Hp->Nat->V->Prop)
  (hm:∀ H H' i v,Same H H'->Rel H i v->Rel H' i v) (hw:∀ H i v l l',v ≠ .ref D->H D=some (.lst l)->Rel H i v->Rel (upd H D (.lst l')) i v)
  (ht:∀ (i:Nat) x,L[i]?=some x->∀ H R,Same H1 H->(∀ H',Same H H'->R (p i) H')->tf (some x :: capv) H R)
  (he:∀ (i:Nat) x,L[i]?=some x->p i=true->∀ H R,Same H1 H->H D≠none->(∀ H' v,Same H H'->v ≠ .ref D->Rel H' i v->R v H')->te (some x :: capv) H R)
  (hd:∀ H ys,Same H1 H->H D=some (.lst ys)->C3 (fun i y=>y ≠ .ref D/\Rel H i y) ((Ac L.length).filter p) ys->Q (.ref D) H) :
  CompW J D σ0 H1 (gName 0) tf te Q:=by
 subst hσ
 refine zgH G (fun i xs σ H=>(∃ o,σ = o :: capv)/\Same H1 H/\H D=some (.lst xs)/\C3 (fun i y=>y ≠ .ref D/\Rel H i y) ((Ac i).filter p) xs) ⟨⟨none,rfl⟩,Same.new hD,zac,.nil⟩ (fun i xs σ H _ h=>hOk H h.2.1) ?_ ?_
 ·rintro i x xs σ H hi hx ⟨⟨o,rfl⟩,s,e,hr⟩
  show tf (some x :: capv) H _
  refine ht i x hx H _ s fun H' s' => ?_
  have hxl:xs.length<=i:=by
   rw [<- Cp hr]
   exact C0 (Cm _ _) (by rw [Ax]; omega)
  have efil:(Ac (i + 1)).filter p=(Ac i).filter p ++ if p i=true then [i] else []:=by
   rw [Dx,Cz]
   congr 1
   rw [Cb,Es]
  cases hp:p i with
  | true =>
   rw [if_pos rfl]
   refine he i x hx hp H' _ (s.trans s') (by rw [s' _ _ e]; exact nofun) fun H2 v s2 hv rv => ?_
   have e2:=s2 _ _ (s' _ _ e)
   refine CNext.of hi hL e2 hxl ⟨⟨some x,rfl⟩,((s.trans s').trans s2).put hD,zac,?_⟩
   rw [efil,if_pos hp]
   exact Ek (C3.mapP hr fun j y z=>⟨z.1,hw _ _ _ _ _ z.1 e2 (hm _ _ _ _ (s'.trans s2) z.2)⟩) ⟨hv,hw _ _ _ _ _ hv e2 rv⟩
  | false =>
   rw [if_neg A9]
   refine CSkip.of (xs:=xs) hi ⟨⟨some x,rfl⟩,s.trans s',s' _ _ e,?_⟩
   rw [efil,if_neg (by rw [hp]; exact A9),Bw]
   exact C3.mapP hr fun j y z=>⟨z.1,hm _ _ _ _ s' z.2⟩
 ·rintro xs σ H ⟨_,s,e,hr⟩
  exact hd H xs s e hr
theorem C3.at {α β : Type} {R : α -> β -> Prop}:∀ {l:List α} {m:List β} {i:Nat} {x : α},C3 R l m->l[i]?=some x->∃ y,m[i]?=some y/\R x y
 | _,_,i,x,.nil,h=>by simp at h
 | _,_,0,x,.cons h r,e=>by
  simp at e
  subst e
  exact ⟨_,rfl,h⟩
 | _,_,i + 1,x,.cons h r,e=>by
  obtain ⟨y,e1,e2⟩:=C3.at (i:=i) r (by simpa using e)
  exact ⟨y,by simpa using e1,e2⟩
theorem zgG {J:It} {Ok:Hp->Prop} {L:List V} {tf:TT} {te:TE} {D:A3} {σ0 capv:St} {H1:Hp} {Q:VK} (hσ : σ0=none :: capv) (G:Gives J Ok L) (hL:L.length<=sizeLine) (hD:H1 D=none) (hOk:∀ H,Same H1 H->Ok H) (p:Nat->Bool) (F:Nat->V) (hF:∀ i,i < L.length->p i=true->F i ≠ .ref D)
  (ht:∀ (i:Nat) x,L[i]?=some x->∀ H R,Same H1 H->(∀ H',Same H H'->R (p i) H')->tf (some x :: capv) H R)
  (he:∀ (i:Nat) x,L[i]?=some x->p i=true->∀ H R,Same H1 H->(∀ H',Same H H'->R (F i) H')->te (some x :: capv) H R)
  (hd:∀ H,Same H1 H->H D=some (.lst (((Ac L.length).filter p).map F))->Q (.ref D) H) :
  CompW J D σ0 H1 (gName 0) tf te Q:=by
 refine zg8 hσ G hL hD hOk p (fun _ i v=>v=F i) (fun _ _ _ _ _ h=>h) (fun _ _ _ _ _ _ _ h=>h) ht (fun i x hx hp H R s _ h=>he i x hx hp H R s fun H' s'=>h H' _ s' (hF i (Av.mp hx).1 hp) rfl) fun H ys s e pr=>hd H s ?_
 rw [e]
 have:∀ {l:List Nat} {m:List V},C3 (fun i y=>y ≠ .ref D/\y=F i) l m->m=l.map F:=by
  intro l m q
  induction q with
  | nil=>rfl
  | cons h _ ih=>rw [Aq,<- ih,h.2]
 rw [this pr]
noncomputable def nmSort (cs:Combs):List Str:=(cs.map (·.1)).mergeSort fun a b=>decide (a.cps.toList<=b.cps.toList)
theorem zgi (cs:Combs):(nmSort cs).Perm (cs.map (·.1)):=List.mergeSort_perm _ _
theorem nm_sorted (cs:Combs):sortedS (nmSort cs)=true:=by
 refine sortedS_of_pairwise _ ?_
 have h:=List.pairwise_mergeSort (le:=fun a b:Str=>decide (a.cps.toList<=b.cps.toList)) (fun a b c h1 h2=>decide_eq_true (Oj (of_decide_eq_true h1) (of_decide_eq_true h2))) (fun a b=>by
  rcases List.le_total a.cps.toList b.cps.toList with h | h
  ·rw [decide_eq_true h]; rfl
  ·rw [decide_eq_true h,M5]) (cs.map (·.1))
 exact h.imp fun {a b} h=>sle_iff.mp (show a.cps.toList<=b.cps.toList from of_decide_eq_true h)
noncomputable def srt (cs:Combs):Combs:=byNames cs (nmSort cs)
theorem zcd {cs:Combs} (nd:(cs.map (·.1)).Nodup) {c:Str×List Int} (h:c∈cs):cGet cs c.1=some c.2:=by
 induction cs with
 | nil=>cases h
 | cons d cs ih =>
  rw [zcP]
  rw [Aq,Dj] at nd
  rcases B6.mp h with rfl | h
  ·exact if_pos rfl
  ·rw [if_neg (fun z:d.1=c.1=>nd.1 (z ▸ Ab.mpr ⟨c,h,rfl⟩))]
   exact ih nd.2 h
theorem by_same {cs ks:Combs} (nd:(cs.map (·.1)).Nodup) (p:ks.Perm cs):byNames cs (ks.map (·.1))=ks:=by
 unfold byNames
 rw [Be]
 conv=>rhs; rw [<- Gy ks]
 refine Ce fun k hk => ?_
 show (k.1,(cGet cs k.1).getD [])=k
 rw [zcd nd (p.mem_iff.mp hk)]
 rfl
theorem zff {cs:Combs} (nd:(cs.map (·.1)).Nodup):(srt cs).Perm cs:=by
 have h:(byNames cs (nmSort cs)).Perm (byNames cs (cs.map (·.1))):=(zgi cs).map _
 rw [by_same nd (Kb _)] at h
 exact h
noncomputable def stp (C:Combs) (s:Nat):List (Str×Int):=stepsOf C (s:Int)
noncomputable abbrev tr (r:List Bool) (s:Nat):Bool:=r.getD s false
noncomputable def GC (C:Combs):Prop:=∀ c∈C,GT c.2
theorem zdt {C:Combs} (g:GC C) {s:Nat} (h:s < 128) {p:Str×Int} (hp:p∈stp C s):0<=p.2/\p.2.toNat < 128:=by
 have:=steps_lt (n:=(s:Int)) (by omega) (by omega) g p hp
 omega
theorem zbO (lo:Int) (n:Nat):((Ac n).map fun i=>V.int (lo + ((i:Nat):Int))).length=n:=by rw [A5,Ax]
theorem at0 {x y:V}:atI [x,y] 0=some x:=show atI [x,y] ((0:Nat):Int)=_ from zax rfl
theorem at1 {x y:V}:atI [x,y] 1=some y:=show atI [x,y] ((1:Nat):Int)=_ from zax rfl
theorem zeQ {C:Combs} (h8:C.length<=8) (s:Nat):(stp C s).length<=8:=by
 unfold stp
 by_cases e:(s:Int) % 2=1
 ·rw [zeb e]; exact Mm rfl
 ·exact C0 (steps_len e) h8
theorem at_end {α : Type} {ws:List α} {m:Nat} {x : α} (hl:ws.length=m + 1) (h:ws[m]?=some x):atI ws (-1)=some x:=by
 have hne:ws ≠ []:=fun z=>by rw [z] at hl; simp at hl
 have e:ws=ws.dropLast ++ [ws.getLast hne]:=(Kn hne).symm
 have e2:ws.getLast hne=x:=by
  rw [Ls]
  have:ws[m]?=some (ws[ws.length - 1]'(by omega)):=by rw [Aa (by omega)]; congr 2; omega
  rw [h] at this
  exact (C1 this).symm
 rw [e,e2]
 exact at_last _ _
section
variable {X:Cx}
end
theorem zaC:∀ (n:Nat) (l:List Nat),l.Nodup->(∀ x∈l,x < n)->l.length<=n
 | 0,[],_,_=>Ad _
 | 0,x :: l,_,h=>absurd (h x Ag) (by omega)
 | n + 1,l,nd,h=>by
  by_cases hn:n∈l
  ·have e:=Ll hn
   have:=zaC n (l.erase n) (nd.erase n) (fun x hx=>by
    have h1:=h x (List.mem_of_mem_erase hx)
    have h2:x≠n:=((Rn nd).mp hx).1
    omega)
   omega
  ·have:=zaC n l nd (fun x hx=>by
    have h1:=h x hx
    have h2:x≠n:=fun z=>hn (z ▸ hx)
    omega)
   omega
noncomputable def nx (C:Combs) (row:List Bool) (s:Nat):Option (Str×Int):=(stp C s).find? fun p=>tr row p.2.toNat
noncomputable def LaysR (H:Hp) (vs:List V) (n:Nat->Str) (i:Nat):Prop:=C3 (fun (j:Nat) (v:V)=>∃ q,v = .ref q/\H q=some (.tup [.int (j:Int),.str (n j)])) ((Ac i).filter fun j=>decide (n j≠A0 "")) vs
theorem LaysR.mono {H H':Hp} {vs:List V} {n:Nat->Str} {i:Nat} (m:∀ q xs,H q=some (.tup xs)->H' q=some (.tup xs)) (r:LaysR H vs n i):LaysR H' vs n i:=C3.mapP r fun _ _ ⟨q,a,b⟩=>⟨q,a,m _ _ b⟩
theorem LaysR.skip {H:Hp} {vs:List V} {n:Nat->Str} {i:Nat} (r:LaysR H vs n i) (h:n i=A0 ""):LaysR H vs n (i + 1):=by
 unfold LaysR
 rw [Dx,Cz,Cb,if_neg (by simpa using h),Es,Bw]
 exact r
theorem LaysR.snoc {H:Hp} {vs:List V} {n:Nat->Str} {i:Nat} {q:A3} (r:LaysR H vs n i) (h:n i≠A0 "") (hq:H q=some (.tup [.int (i:Int),.str (n i)])):LaysR H (vs ++ [.ref q]) n (i + 1):=by
 unfold LaysR
 rw [Dx,Cz,Cb,if_pos (by simpa using h),Es]
 exact Ek r ⟨q,rfl,hq⟩
theorem LaysR.len {H:Hp} {vs:List V} {n:Nat->Str} {i:Nat} (r:LaysR H vs n i):vs.length<=i:=by
 rw [<- Cp r]
 exact C0 (Cm _ _) (by rw [Ax]; omega)
section
variable {prog:An} {w:B8} {A:B1} {E:A1->A4->Prop} {s:A4} {d it:A3} {o:Obj} {es:Array Ix} {ep i:Nat}
theorem zgz (ho:s.heap.get? d=some o) (hc:o.ExactDict):s.TypeIs (.ref d) "dict" := ⟨o,ho,hc.1⟩
theorem zgB {Q:A1->A4->Prop} (hd:(d == sysModules)=false) (ho:s.heap.get? d=some o) (hc:o.ExactDict) (hdat:o.data = .dict es ep)
  (hQ:Q (.ref s.heap.objs.size) { s with heap:=s.heap.push { cls := .type "dict_keyiterator",data := .fields #[.ref d,.int 0 0,.int es.size 0,.int ep 0] } }):wpAny (model prog w) A (pyIter (.ref d)) Q E s:=by
 have hT:=zgz ho hc
 refine wpAny_pyIter_slot hT Om (Ds Om hT F.entry_dict_iter (show wpAny _ _ (G9.«dict.__iter__» _) _ _ _ from ?_) (F.args_dict_iter_1 _))
 unfold G9.«dict.__iter__»; refine A2 ?_
 unfold Qd; refine A2 (wpAny_notOrdered_dict hT (show wpAny _ _ (pure (Az d)) _ _ s from Ae (show wpAny _ _ (Kj d >>= _) _ _ s from ?_)))
 unfold Kj; rw [if_neg (by rw [hd]; exact A9)]
 refine A2 (Ae (A2 (Hw ho hdat (A2 (Lp ho hdat (A2 (Eh (Ae ⟨_,rfl,"dict_keyiterator",_,⟨_,Ay _ rfl,rfl⟩,E2.lookup,?_⟩))))))))
 simpa [rawInt] using hQ
theorem zgA {Q:Option A1->A4->Prop} (hit:s.heap.IsKeyIter it d i es.size ep) (hod:s.heap.get? d=some o) (hdd:o.data = .dict es ep) (hlt:i < es.size)
  (hQ:∀ h',h'.IsKeyIter it d (i + 1) es.size ep->Fb it s.heap h'->Q (some es[i].key) { s with heap:=h' }):wpAny (model prog w) A (pyNext (.ref it)) Q E s:=by
 obtain ⟨oi,hi,hc,hd⟩:=id hit
 have hown:Ie "dict_keyiterator" = false:=by decide
 unfold pyNext
 refine A2 (Gg (Fy (name:=A0 "__next__") hit.typeIs E2 (Ds E2 hit.typeIs L4 ?_ (Kv _))))
 refine A2 (Ae (A2 (A2 ?_)))
 first | refine A2 (Eu hit.typeIs (Ae (A2 (Jq hi hd ?_)))) | refine A2 (Fl hit.typeIs (Ae (A2 (Jq hi hd ?_))))
 simp only [hown,Bp,if_false]
 show wpAny _ _ (if (Az d == Du)=true then _ else _) _ _ s
 rw [if_neg (show ¬ ((Az d == Du)=true) from A9)]; refine A2 (Ae (A2 (Hw hod hdd ?_)))
 rw [if_neg (by simp)]; refine A2 (Ae (A2 (Lp hod hdd ?_)))
 rw [if_neg (by simp)]; refine Ae ?_
 simp only [show ¬ ((i:Int) < 0) from by omega,if_false,D8,Gv hlt]; refine A2 ?_
 first | refine A2 (Eu hit.typeIs (Ae (A2 (Jh hit.typeIs ?_)))) | refine A2 (Fl hit.typeIs (Ae (A2 (Jh hit.typeIs ?_))))
 have hit':(s.heap.update it (Ev (·.setIfInBounds 1 (rawInt ((i:Int) + 1))))).IsKeyIter it d (i + 1) es.size ep:=⟨_,G6 _ hi (Ml (Fi hd _)),(Np ..).trans hc,by rw [Fi hd]; simp [rawInt]⟩
 refine (show wpAny _ _ (setField (.ref it) 1 (rawInt ((i:Int) + 1)) >>= _) _ _ s from A2 (Hg hi hd (by simp) (A2 (D1 (A2 (Jh (s:={ s with heap:=s.heap.update it (Ev (·.setIfInBounds 1 (rawInt ((i:Int) + 1)))) }) hit'.typeIs ?_))))))
 show wpAny _ _ (pure es[i].key) _ _ _
 exact Ae (Ae ⟨_,rfl,Ae (hQ _ hit' (Ku ..))⟩)
theorem zg5 {Q:Option A1->A4->Prop} (hh:A.handled=none) (hit:s.heap.IsKeyIter it d i es.size ep) (hod:s.heap.get? d=some o) (hdd:o.data = .dict es ep) (hge:es.size<=i)
  (hQ:∀ h',Pd it s.heap h'->Q none { s with heap:=h' }):wpAny (model prog w) A (pyNext (.ref it)) Q E s:=by
 obtain ⟨oi,hi,hc,hd⟩:=id hit
 have hown:Ie "dict_keyiterator" = false:=by decide
 unfold pyNext
 refine A2 (Gg (Fy (name:=A0 "__next__") hit.typeIs E2 (Ds E2 hit.typeIs L4 ?_ (Kv _))))
 refine A2 (Ae (A2 (A2 ?_)))
 first | refine A2 (Eu hit.typeIs (Ae (A2 (Jq hi hd ?_)))) | refine A2 (Fl hit.typeIs (Ae (A2 (Jq hi hd ?_))))
 simp only [hown,Bp,if_false]
 show wpAny _ _ (if (Az d == Du)=true then _ else _) _ _ s
 rw [if_neg (show ¬ ((Az d == Du)=true) from A9)]; refine A2 (Ae (A2 (Hw hod hdd ?_)))
 rw [if_neg (by simp)]; refine A2 (Ae (A2 (Lp hod hdd ?_)))
 rw [if_neg (by simp)]; refine Ae ?_
 simp only [show ¬ ((i:Int) < 0) from by omega,if_false,D8,Array.getElem?_eq_none hge]; refine A2 ?_
 first | refine A2 (Eu hit.typeIs (Ae ?_)) | refine A2 (Fl hit.typeIs (Ae ?_))
 refine (show wpAny _ _ (setField (.ref it) 0 .none >>= _) _ _ s from A2 (Hg hi hd (by simp) (show wpAny _ _ (newExc (.type "StopIteration") [] >>= _) _ _ _ from A2 ?_)))
 simp only [newExc,newTuple]; refine A2 (Eh ?_ (by size_fits))
 refine A2 (m:=firstArgMember _ _) (Nv (a:=Du) (by first | rfl | (simp only [firstArgMember]; rfl)) (Eh ?_ (by size_fits)))
 simp only [raiseNew]; refine A2 (Qr ?_); rw [show A.in1.handled=none from hh]
 refine A2 (Ae (wpAny_throw ?_)); refine A2 (Gd (T := "StopIteration") (b:=true) ⟨_,Ay _ rfl,rfl⟩ Qj ?_); exact Ae (hQ _ (((Ku ..).extBut.push _).push _))
end
theorem C3.rev {α β : Type} {R : α -> β -> Prop}:∀ {l:List α} {m:List β} {i:Nat} {y : β},C3 R l m->m[i]?=some y->∃ x,l[i]?=some x/\R x y
 | _,_,i,x,.nil,h=>by simp at h
 | _,_,0,x,.cons h r,e=>by
  simp at e
  subst e
  exact ⟨_,rfl,h⟩
 | _,_,i + 1,x,.cons h r,e=>by
  obtain ⟨y,e1,e2⟩:=C3.rev (i:=i) r (by simpa using e)
  exact ⟨y,by simpa using e1,e2⟩
section
variable {X:Cx} {pins:List (A3×Obj)} {σ : St} {H:Hp} {s:A4} {a:A3} {kvs:List (List Key×V)}
theorem Inv.freezeT (I:Inv X pins σ H s) (h:H a=some (.dT kvs)):∃ o,s.heap.get? a=some o/\Inv X pins σ (upd H a (.frz o (.dT kvs))) s:=by
 have ok:=(show ObjOk X.prog X.w H s.heap a (.dT kvs) from I.hok a _ h)
 obtain ⟨o,ho⟩:=ok.there
 refine ⟨o,ho,?_⟩
 have:=Inv.write (x:=a) (e:=a) (o := .frz o (.dT kvs)) (h':=s.heap) (t':=s.toks) I (by rw [h]; trivial) (.inl rfl) (fun _ _ _ q=>q) ⟨o,ho⟩ ⟨ho,ok.stay (fun _ _ _ q=>q) (fun b q=>by rw [zah (fun z=>by rw [z,h] at q; cases q)]; exact q) fun b xs q=>by rw [zah (fun z=>by rw [z,h] at q; cases q)]; exact q⟩
 exact this
theorem Inv.unfreezeT {o:Obj} (I:Inv X pins σ H s) (h:H a=some (.frz o (.dT kvs))) (h0:∀ o u,X.H₀ a≠some (.frz o u)):Inv X pins σ (upd H a (.dT kvs)) s:=by
 have nn:∀ b,H b=none->b≠a:=fun b q z=>by rw [z,h] at q; cases q
 obtain ⟨ho,ok⟩:=(show ObjOk X.prog X.w H s.heap a (.frz o (.dT kvs)) from I.hok a _ h)
 have own:∀ b y,H b=some (.own y)->upd H a (.dT kvs) b=some (.own y):=fun b y q=>by rw [zah (fun z=>by rw [z,h] at q; cases q)]; exact q
 have tups:∀ b xs,H b=some (.tup xs)->upd H a (.dT kvs) b=some (.tup xs):=fun b y q=>by rw [zah (fun z=>by rw [z,h] at q; cases q)]; exact q
 refine ⟨I.ok,I.os,I.bare,⟨I.base.keep,I.base.slot,fun b u q n hx => ?_,I.base.there,fun b xs q=>tups b xs (I.base.tups b xs q),fun b u v q => ?_,fun b ps q => ?_⟩,I.loc,I.cell,?_,fun y c e => ?_,fun p hp => ?_,fun b u q => ?_,I.len⟩
 ·have:=I.base.free b u q n hx
  rw [zah (nn b this)]; exact this
 ·have q':=I.base.frzs b u v q
  rw [zah (fun z=>h0 _ _ (z ▸ q))]; exact q'
 ·obtain ⟨m,e⟩:=I.base.tbls b ps q
  exact ⟨m,by rw [zah (fun z=>by rw [z,h] at e; cases e)]; exact e⟩
 ·rw [zah (nn _ I.free)]; exact I.free
 ·rw [zah (nn _ (I.freeC y c e))]; exact I.freeC y c e
 ·obtain ⟨e1,e2,e3,e4,e5⟩:=I.pin p hp
  exact ⟨e1,by rw [zah (nn _ e2)]; exact e2,e3,e4,e5⟩
 ·by_cases hb:b=a
  ·subst hb
   rw [zac] at q
   cases q
   exact ok.stay (fun _ _ _ q=>q) (fun c q=>own c _ q) tups
  ·rw [zah hb] at q
   exact (I.hok b u q).stay (fun _ _ _ q=>q) (fun c q=>own c _ q) tups
end
noncomputable def IttD (a:A3) (o:Obj) (kvs:List (List Key×V)):It:=⟨fun i H=>H a=some (.frz o (.dT kvs))/\i < kvs.length,fun i H v H'=>H'=H/\∃ k y b,kvs[i]?=some (k,y)/\v = .ref b/\H b=some (.tup (k.map kV)),fun i H=>H a=some (.frz o (.dT kvs))/\kvs.length<=i⟩
theorem ze0 {X:Cx} {pins:List (A3×Obj)} {σ : St} {H:Hp} {s:A4} {a:A3} {o:Obj} {kvs:List (List Key×V)} {es:Array Ix} {ep:Nat} (I:Inv X pins σ H s) (h:H a=some (.frz o (.dT kvs))) (hd:o.data = .dict es ep) :
  s.heap.get? a=some o/\(a == sysModules)=false/\o.ExactDict/\es.size=kvs.length/\∀ i (hi:i < es.size),∃ k y b,kvs[i]?=some (k,y)/\es[i].key = .ref b/\H b=some (.tup (k.map kV)):=by
 obtain ⟨ho,hz,lo,xs,kt,o',es',ep',ho',c,d,r,_⟩:=(show ObjOk X.prog X.w H s.heap a (.frz o (.dT kvs)) from I.hok a _ h)
 rw [ho] at ho'
 cases ho'
 rw [hd] at d
 cases d
 have hl:=Cp kt
 have hl2:es.size=xs.length:=by rw [<- As,r,A5]
 refine ⟨ho,lo,c,by omega,fun i hi => ?_⟩
 have e1:es.toList[i]?=some es[i]:=by simp [hi]
 rw [r,Ai] at e1
 cases ex:xs[i]? with
 | none=>rw [ex] at e1; cases e1
 | some x =>
  rw [ex] at e1
  obtain ⟨p,ep,h1,h2,h3⟩:=C3.rev kt ex
  refine ⟨p.1,p.2,x.2.1,ep,?_,h2⟩
  rw [<- C1 e1]
  rfl
theorem turn_dictT {P:An} {w:B8} {K:Al} {tg:Ca} (a it:A3) (o:Obj) (kvs:List (List Key×V)) (es:Array Ix) (ep:Nat) (hd:o.data = .dict es ep) :
  Turn P w K tg (IttD a o kvs) [it] it (fun i h=>h.IsKeyIter it a i es.size ep) where
 mem:=by simp
 obj:=fun i h st b hb=>by
  have e:b=it:=by simpa using hb
  subst e
  obtain ⟨o,e,c,d⟩:=st
  exact ⟨o,e,fun v z=>by rw [d] at z; cases z⟩
 keep:=fun i h h' st k=>by
  obtain ⟨o,e,r⟩:=st
  exact ⟨o,k it (by simp) o e,r⟩
 item:=by
  intro X hP hw hK hc i pins s σ H E I hf st hg
  subst hP hw hK
  obtain ⟨hz,hi⟩:=hg
  obtain ⟨ho,lo,hex,hsz,hk⟩:=ze0 I hz hd
  obtain ⟨f0,f1,f2,f3,f4,f5⟩:=hf it (by simp)
  obtain ⟨k,y,b,e1,e2,e3⟩:=hk i (by omega)
  refine zgA st ho hd (by omega) fun h' st' sb => ?_
  have I1:Inv X pins σ H { s with heap:=h' }:=I.turned (t':=s.toks) (fun b o hb e=>(sb.2 b hb).trans e) f0 f1 f3 f4 f5
  obtain ⟨o',e,c,d⟩:=id st'
  refine ⟨_,rfl,zfM (s:={ s with heap:=h' }) e c d (by decide) ⟨.ref b,H,I1,e2,⟨rfl,k,y,b,e1,rfl,e3⟩,st',fun b hb=>(hf b hb).1⟩⟩
 done:=by
  intro X hP hw hK hc i pins s σ H E I hf st hg
  subst hP hw hK
  obtain ⟨hz,hi⟩:=hg
  obtain ⟨ho,lo,hex,hsz,hk⟩:=ze0 I hz hd
  obtain ⟨f0,f1,f2,f3,f4,f5⟩:=hf it (by simp)
  exact zg5 (I.ok.hd hc) st ho hd (by omega) fun h' eb=>⟨rfl,I.turned (t':=s.toks) (fun b o hb e=>eb b o hb e) f0 f1 f3 f4 f5⟩
 self:=fun A i s Q E st h=>by
  obtain ⟨o,e,c,d⟩:=st
  exact Nu ⟨o,e,c,d⟩ h
section
variable {X:Cx} {tg:Ca}
noncomputable def iDicT (i:Nat):TI:=fun σ H R=>∃ a o kvs,σ[i]?=some (some (.ref a))/\H a=some (.frz o (.dT kvs))/\R (IttD a o kvs) H
theorem pi_dicT {i:Nat} {x:Str} {np:Pos} (hx:PE X (.Name x np) (tVar i)):PI X tg (.Name x np) (iDicT i):=by
 intro pins s σ H R I h
 obtain ⟨a,o,kvs,hσ,ha,q⟩:=h
 refine thn (hx pins s σ H (fun v H1=>v = .ref a/\H1=H) I ⟨_,hσ,rfl,rfl⟩) fun v s1 ⟨y,H1,I1,r1,e1,e2⟩ => ?_
 subst e1 e2
 cases r1
 obtain ⟨ho,_,_,_,_,o',es,ep,ho',_,d,_⟩:=(show ObjOk X.prog X.w H1 s1.heap a (.frz o (.dT kvs)) from I1.hok a _ ha)
 rw [ho] at ho'
 cases ho'
 obtain ⟨_,lo,hex,hsz,_⟩:=ze0 I1 ha d
 refine zgB lo ho hex d ?_
 refine ⟨s1.heap.objs.size,[s1.heap.objs.size],_,_,H1,rfl,I1.kept (t':=s1.toks) fun b o e=>A7 _ e,turn_dictT a _ o kvs es ep d,?_,fun b hb => ?_,q⟩
 ·exact ⟨_,Ay _ rfl,rfl,rfl⟩
 ·have e:b=s1.heap.objs.size:=by simpa using hb
  subst e
  exact I1.fpOk (Ad _) (I1.hok.fresh (Ad _))
noncomputable def DfrzT (a:A3) (o:Obj) (kvs:List (List Key×V)) (D:Ends):Ends:={ nx:=fun σ H=>H a=some (.frz o (.dT kvs))/\D.nx σ (upd H a (.dT kvs)),rt:=fun v H=>H a=some (.frz o (.dT kvs))/\D.rt v (upd H a (.dT kvs)),bk:=fun σ H=>H a=some (.frz o (.dT kvs))/\D.bk σ (upd H a (.dT kvs)),ct:=fun σ H=>H a=some (.frz o (.dT kvs))/\D.ct σ (upd H a (.dT kvs)) }
noncomputable def tForT (i:Nat) (g:TG) (tb:TS):TS:=fun D σ H=>∃ a kvs,σ[i]?=some (some (.ref a))/\H a=some (.dT kvs)/\∀ o,∃ W:Nat->Nat->St->Hp->Prop,(∃ m,W 0 m σ (upd H a (.frz o (.dT kvs))))/\∀ j m σ H,W j m σ H ->
 ((IttD a o kvs).stop j H/\(DfrzT a o kvs D).nx σ H)\/((IttD a o kvs).go j H/\∃ N:St->Hp->Prop,(∀ σ' H',N σ' H'->∃ m',m' < m/\W (j + 1) m' σ' H') /\
  ∀ x H',(IttD a o kvs).yld j H x H'->g x σ H' fun σ2 H2=>tb { DfrzT a o kvs D with nx:=N,ct:=N,bk:=(DfrzT a o kvs D).nx } σ2 H2)
theorem ps_forT {i:Nat} {x:Str} {body:List Cd} {g:TG} {tb:TS} {np pos:Pos} (hp:P8 (model X.prog X.w) X.A X.env X.xe) (hc:X.calm=true) (hx:PE X (.Name x np) (tVar i)) (hg:PG X tg g) (hb:PSs X body tb)
  (hs:∀ y,foldedSetIterable (.Name x np) X.env y=pure y:=by intro _; rfl):PS X (.For tg (.Name x np) body [] pos) (tForT i g tb):=by
 intro pins s σ H D I h
 obtain ⟨a,kvs,hσ,ha,h⟩:=h
 obtain ⟨o,ho,I1⟩:=I.freezeT ha
 have h0:∀ o u,X.H₀ a≠some (.frz o u):=fun o' u z=>by
  have:=I.base.frzs a o' u z
  rw [ha] at this
  cases this
 refine D9 (zbe hp hc (pi_dicT hx) hg hb hs pins s σ (upd H a (.frz o (.dT kvs))) (DfrzT a o kvs D) I1 ⟨a,o,kvs,hσ,zac,h o⟩) (fun f s' q => ?_) fun _ _ z=>z
 cases f with
 | next=>obtain ⟨σ',H',J,e,q⟩:=q; exact ⟨σ',_,J.unfreezeT e h0,q⟩
 | brk=>obtain ⟨σ',H',J,e,q⟩:=q; exact ⟨σ',_,J.unfreezeT e h0,q⟩
 | cont=>obtain ⟨σ',H',J,e,q⟩:=q; exact ⟨σ',_,J.unfreezeT e h0,q⟩
 | ret u=>obtain ⟨v,σ',H',J,r,e,q⟩:=q; exact ⟨v,σ',_,J.unfreezeT e h0,r,q⟩
end
section
variable {prog:An} {w:B8} {A:B1} {E:A1->A4->Prop} {s:A4} {d:A3} {o:Obj} {es:Array Ix} {ep:Nat}
theorem ed_len {Q:A1->A4->Prop} (hd:(d == sysModules)=false) (ho:s.heap.get? d=some o) (hc:o.ExactDict) (hdat:o.data = .dict es ep) (hfit:(es.size:Int) < 2 ^ 63) (h:Q (.int es.size (s.toks + 1)) { s with toks:=s.toks + 1 + 1 }):wpAny (model prog w) A (call (.builtin "len") [.ref d]) Q E s:=by
 have hT:=zgz ho hc
 refine Gu kind_len plain_len entry_len (args_len1 _) (show wpAny _ _ (G9.«len» _) _ _ _ from ?_)
 unfold G9.«len»; refine A2 (m:=oneArg "len" _) (Ae ?_)
 refine A2 (m:=callSpecial? (.ref d) (A0 "__len__")) (Fy (name:=A0 "__len__") hT Ov (Ds Ov hT F.entry_dict_len (show wpAny _ _ (dictSize d >>= _) _ _ s from ?_) (F.args_dict_len_1 _)))
 unfold dictSize; refine A2 (A2 (Hw ho hdat (Ae (show wpAny _ _ (Qc d >>= _) _ _ s from A2 (wpAny_pendingCount_other hd (Pj ?_))))))
 show wpAny _ _ _ _ _ { s with toks:=s.toks + 1 }; refine A2 (D1 (Ae (A2 (wpAny_letGo ?_))))
 show wpAny _ _ (if ((es.size + 0:Nat):Int) < 0 then _ else _) _ _ _
 rw [if_neg (by omega)]
 show wpAny _ _ (if ((es.size + 0:Nat):Int)>=2 ^ 63 then _ else _) _ _ _
 rw [if_neg (by omega)]
 exact A2 (wpAny_mkInt (Ae ⟨_,rfl,h⟩))
end
noncomputable def kI (ns:List Int):List Key:=ns.map Je
theorem kI_V (ns:List Int):(kI ns).map kV=ns.map V.int:=by unfold kI; rw [Be]; rfl
theorem zeu:∀ {a b:List Int},kI a=kI b->a=b
 | [],[],_=>rfl
 | [],_ :: _,h=>by cases h
 | _ :: _,[],h=>by cases h
 | x :: a,y :: b,h=>by
  unfold kI at h
  rw [Aq,Aq] at h
  injection h with h1 h2
  injection h1 with h1
  rw [h1,zeu h2]
section
variable {X:Cx}
theorem zeH:CallR X (.builtin "len") (fun xs H Q=>∃ (a:A3) (kvs:List (List Key×V)),xs = [V.ref a]/\H a=some (.dT kvs)/\Q (.int kvs.length) H):=by
 intro pins s σ H xs us Q I r h
 obtain ⟨a,kvs,rfl,ha,q⟩:=h
 obtain ⟨u,rfl,ru⟩:=zb5 r
 cases ru
 obtain ⟨hz,lo,xs,kt,o,es,ep,ho,c,d,e,_⟩:=(show ObjOk X.prog X.w H s.heap a (.dT kvs) from I.hok a _ ha)
 have hl:=Cp kt
 have hl2:es.size=xs.length:=by rw [<- As,e,A5]
 have hz2:sizeLine < 2 ^ 62:=by decide
 refine ed_len lo ho c d (by omega) ⟨.int _,H,I.tok _,⟨_,rfl⟩,?_⟩
 rw [show es.size=kvs.length by omega]
 exact q
end
theorem steps_perm {C C':Combs} (p:C.Perm C') (n:Int):(stepsOf C n).Perm (stepsOf C' n):=by
 unfold stepsOf
 split
 ·exact Kb _
 ·exact (p.filter _).map _
theorem any_perm {α : Type} {l l':List α} (p:l.Perm l') (f : α -> Bool):l.any f=l'.any f:=by
 rw [Bd,Bs,Bs]
 exact ⟨fun ⟨x,h,e⟩=>⟨x,p.mem_iff.mp h,e⟩,fun ⟨x,h,e⟩=>⟨x,p.mem_iff.mpr h,e⟩⟩
theorem fold_max (l:List Int) (a:Int):(∀ x∈l,x<=l.foldl max a)/\a<=l.foldl max a/\(l.foldl max a=a\/l.foldl max a∈l):=by
 induction l generalizing a with
 | nil=>exact ⟨by simp,Dk _,.inl rfl⟩
 | cons x l ih =>
  obtain ⟨h1,h2,h3⟩:=ih (max a x)
  rw [Iq]
  refine ⟨fun y hy => ?_,by omega,?_⟩
  ·rcases B6.mp hy with rfl | hy
   ·omega
   ·exact h1 y hy
  ·rcases h3 with h | h
   ·rcases Int.le_total a x with z | z
    ·exact .inr (by rw [h,Int.max_eq_right z]; exact Ag)
    ·exact .inl (by rw [h,Int.max_eq_left z])
   ·exact .inr (A8 _ h)
theorem zdm {a b:Nat} (ha:a < 128) (hb:b < 128) (h:aheadOf (a:Int)=aheadOf (b:Int)):a=b:=by
 have h1:=zbb (n:=(a:Int)) (by omega) (by omega)
 have h2:=zbb (n:=(b:Int)) (by omega) (by omega)
 rw [h,h2] at h1
 omega
noncomputable def akey (s:Nat):List Key:=kI (aheadOf (s:Int))
theorem zcU {a b:Nat} (ha:a < 128) (hb:b < 128) (h:akey a=akey b):a=b:=zdm ha hb (zeu h)
theorem valV_mem {κ : Type} [DecidableEq κ] {kvs:List (κ × V)} {k : κ}:(valV kvs k).isSome=true ↔ k∈kvs.map (·.1):=by
 rw [<- zbj,Bs,Ab]
 constructor
 ·rintro ⟨x,hx,e⟩; exact ⟨x,hx,of_decide_eq_true e⟩
 ·rintro ⟨x,hx,e⟩; exact ⟨x,hx,decide_eq_true e⟩
theorem zfO {κ : Type} [DecidableEq κ]:∀ {kvs:List (κ × V)} {i:Nat} {k : κ} {v:V},(kvs.map (·.1)).Nodup->kvs[i]?=some (k,v)->valV kvs k=some v
 | [],_,_,_,_,h=>by simp at h
 | p :: kvs,0,k,v,nd,h=>by
  simp at h
  subst h
  exact zaZ rfl
 | p :: kvs,i + 1,k,v,nd,h=>by
  rw [Aq,Dj] at nd
  have h':kvs[i]?=some (k,v):=by simpa using h
  rw [zaS (fun z=>nd.1 (z ▸ Ab.mpr ⟨(k,v),Bh h',rfl⟩))]
  exact zfO nd.2 h'
theorem zbl {ks:Combs} {s:Nat} (hs:s < 128) (g:GC ks):(goesOf ks (aheadOf (s:Int))).map (fun p=>(p.1,worth p.2))=stp ks s:=zdv (by omega) (by omega) g
theorem zb1 {ks:Combs} {s:Nat} (hs:s < 128) (g:GC ks) {p:Str×List Int} (hp:p∈goesOf ks (aheadOf (s:Int))):(worth p.2).toNat < 128/\0<=worth p.2/\kI p.2=akey (worth p.2).toNat/\(p.1,worth p.2)∈stp ks s:=by
 have hm:(p.1,worth p.2)∈stp ks s:=by rw [<- zbl hs g]; exact Ab.mpr ⟨p,hp,rfl⟩
 have hlt:=zdt g hs hm
 refine ⟨hlt.2,hlt.1,?_,hm⟩
 have:∃ a b,p.2=afterOf a b:=by
  unfold goesOf at hp
  split at hp
  ·rw [A6.mp hp]; exact ⟨_,_,rfl⟩
  ·obtain ⟨c,_,rfl⟩:=Ab.mp hp; exact ⟨_,_,rfl⟩
 obtain ⟨a,b,e⟩:=this
 unfold akey
 rw [show (((worth p.2).toNat:Nat):Int)=worth p.2 by have:=hlt.1; show _=_; omega]
 congr 1
 rw [e]
 have hs:afterOf a b=((Ac 7).filter fun i=>decide (((i:Nat):Int)∈afterOf a b)).map fun i=>((i:Nat):Int):=by
  refine zbD ?_ ((zcV a b).imp fun h=>by omega) ?_
  ·rw [Df (zaT (zcV a b))]
   ·intro t
    simp only [Ab,Bc,B9,decide_eq_true_eq]
    constructor
    ·intro h
     have:=zfL t h
     exact ⟨t.toNat,⟨by omega,by rwa [show ((t.toNat:Nat):Int)=t by omega]⟩,by omega⟩
    ·rintro ⟨i,⟨_,h⟩,rfl⟩
     exact h
   ·refine zaT ?_
    rw [C4]
    refine Bg D5 (Ei ?_ (Dg (n:=7)))
    intro a b h
    omega
  ·rw [C4]
   refine Bg D5 (Ei ?_ (Dg (n:=7)))
   intro a b h
   omega
 rw [hs]
 exact (ahead_worth _).symm
theorem forT_g {a:A3} {o:Obj} {kvs:List (List Key×V)} {g:TG} {tb:TS} {D:Ends} {σ : St} {H:Hp} (Pv:Nat->St->Hp->Prop) (h0:Pv 0 σ H) (hk:∀ i σ H,Pv i σ H->H a=some (.frz o (.dT kvs)))
  (hs:∀ i k y b σ H,kvs[i]?=some (k,y)->H b=some (.tup (k.map kV))->Pv i σ H->g (.ref b) σ H fun σ2 H2=>tb { D with nx:=Pv (i + 1),ct:=Pv (i + 1),bk:=D.nx } σ2 H2) (hd:∀ σ H,Pv kvs.length σ H->D.nx σ H) :
  ∃ W:Nat->Nat->St->Hp->Prop,(∃ m,W 0 m σ H)/\∀ j m σ H,W j m σ H->((IttD a o kvs).stop j H/\D.nx σ H)\/((IttD a o kvs).go j H/\∃ N:St->Hp->Prop,(∀ σ' H',N σ' H'->∃ m',m' < m/\W (j + 1) m' σ' H') /\
   ∀ x H',(IttD a o kvs).yld j H x H'->g x σ H' fun σ2 H2=>tb { D with nx:=N,ct:=N,bk:=D.nx } σ2 H2):=by
 refine ⟨fun j m σ H=>m=kvs.length - j/\j<=kvs.length/\Pv j σ H,⟨_,rfl,C6 _,h0⟩,?_⟩
 rintro j m σ H ⟨rfl,hj,p⟩
 by_cases hlt:j < kvs.length
 ·refine .inr ⟨⟨hk _ _ _ p,hlt⟩,Pv (j + 1),fun σ' H' p'=>⟨kvs.length - (j + 1),by omega,rfl,hlt,p'⟩,?_⟩
  rintro x H' ⟨rfl,k,y,b,e1,rfl,e3⟩
  exact hs j k y b σ _ e1 e3 p
 ·have e:j=kvs.length:=by omega
  subst e
  exact .inl ⟨⟨hk _ _ _ p,Ad _⟩,hd σ H p⟩
theorem comp_x2 {K:Al} {J:It} {Ok:Hp->Prop} {L:List V} {tf:TT} {te:TE} {D:A3} {σ0 capv:St} {H1:Hp} {Q:VK} (hσ : σ0=none :: none :: capv) (G:Gives J Ok L) (hL:L.length<=sizeLine) (hD:H1 D=none) (hOk:∀ H,Same H1 H->Ok H) (X Y:Nat->V) (hXY:∀ (i:Nat) x,L[i]?=some x->∃ q,x = .ref q/\H1 q=some (.tup [X i,Y i])) (p:Nat->Bool) (Rel:Hp->Nat->V->Prop)
  (hm:∀ H H' i v,Same H H'->Rel H i v->Rel H' i v) (hw:∀ H i v l l',v ≠ .ref D->H D=some (.lst l)->Rel H i v->Rel (upd H D (.lst l')) i v)
  (ht:∀ i,i < L.length->∀ H R,Same H1 H->(∀ H',Same H H'->R (p i) H')->tf (some (X i) :: some (Y i) :: capv) H R)
  (he:∀ i,i < L.length->p i=true->∀ H R,Same H1 H->H D≠none->(∀ H' v,Same H H'->v ≠ .ref D->Rel H' i v->R v H')->te (some (X i) :: some (Y i) :: capv) H R)
  (hd:∀ H ys,Same H1 H->H D=some (.lst ys)->C3 (fun i y=>y ≠ .ref D/\Rel H i y) ((Ac L.length).filter p) ys->Q (.ref D) H) :
  CompW J D σ0 H1 (gTup K 2 (gCons (gName 0) (gCons (gName 1) gNil))) tf te Q:=by
 subst hσ
 refine zgH G (fun i xs σ H=>(∃ o1 o2,σ = o1 :: o2 :: capv)/\Same H1 H/\H D=some (.lst xs)/\C3 (fun i y=>y ≠ .ref D/\Rel H i y) ((Ac i).filter p) xs) ⟨⟨none,none,rfl⟩,Same.new hD,zac,.nil⟩ (fun i xs σ H _ h=>hOk H h.2.1) ?_ ?_
 ·rintro i x xs σ H hi hx ⟨⟨o1,o2,rfl⟩,s,e,hr⟩
  obtain ⟨qx,rfl,hqx⟩:=hXY i x hx
  refine ⟨qx,[X i,Y i],rfl,SqT.of (s _ _ hqx),rfl,_,_,rfl,_,_,rfl,rfl,?_⟩
  show tf (some (X i) :: some (Y i) :: capv) H _
  refine ht i hi H _ s fun H' s' => ?_
  have hxl:xs.length<=i:=by
   rw [<- Cp hr]
   exact C0 (Cm _ _) (by rw [Ax]; omega)
  have efil:(Ac (i + 1)).filter p=(Ac i).filter p ++ if p i=true then [i] else []:=by
   rw [Dx,Cz]
   congr 1
   rw [Cb,Es]
  cases hp:p i with
  | true =>
   rw [if_pos rfl]
   refine he i hi hp H' _ (s.trans s') (by rw [s' _ _ e]; exact nofun) fun H2 v s2 hv rv => ?_
   have e2:=s2 _ _ (s' _ _ e)
   refine CNext.of hi hL e2 hxl ⟨⟨_,_,rfl⟩,((s.trans s').trans s2).put hD,zac,?_⟩
   rw [efil,if_pos hp]
   exact Ek (C3.mapP hr fun j y z=>⟨z.1,hw _ _ _ _ _ z.1 e2 (hm _ _ _ _ (s'.trans s2) z.2)⟩) ⟨hv,hw _ _ _ _ _ hv e2 rv⟩
  | false =>
   rw [if_neg A9]
   refine CSkip.of (xs:=xs) hi ⟨⟨_,_,rfl⟩,s.trans s',s' _ _ e,?_⟩
   rw [efil,if_neg (by rw [hp]; exact A9),Bw]
   exact C3.mapP hr fun j y z=>⟨z.1,hm _ _ _ _ s' z.2⟩
 ·rintro xs σ H ⟨_,s,e,hr⟩
  exact hd H xs s e hr
theorem comp_i2 {K:Al} {J:It} {Ok:Hp->Prop} {L:List V} {tf:TT} {te:TE} {D:A3} {σ0 capv:St} {H1:Hp} {Q:VK} (hσ : σ0=none :: none :: capv) (G:Gives J Ok L) (hL:L.length<=sizeLine) (hD:H1 D=none) (hOk:∀ H,Same H1 H->Ok H) (X Y:Nat->V) (hXY:∀ (i:Nat) x,L[i]?=some x->∃ q,x = .ref q/\H1 q=some (.tup [X i,Y i])) (p:Nat->Bool) (F:Nat->V) (hF:∀ i,i < L.length->p i=true->F i ≠ .ref D)
  (ht:∀ i,i < L.length->∀ H R,Same H1 H->(∀ H',Same H H'->R (p i) H')->tf (some (X i) :: some (Y i) :: capv) H R)
  (he:∀ i,i < L.length->p i=true->∀ H R,Same H1 H->(∀ H',Same H H'->R (F i) H')->te (some (X i) :: some (Y i) :: capv) H R)
  (hd:∀ H,Same H1 H->H D=some (.lst (((Ac L.length).filter p).map F))->Q (.ref D) H) :
  CompW J D σ0 H1 (gTup K 2 (gCons (gName 0) (gCons (gName 1) gNil))) tf te Q:=by
 refine comp_x2 hσ G hL hD hOk X Y hXY p (fun _ i v=>v=F i) (fun _ _ _ _ _ h=>h) (fun _ _ _ _ _ _ _ h=>h) ht (fun i hi hp H R s _ h=>he i hi hp H R s fun H' s'=>h H' _ s' (hF i hi hp) rfl) fun H ys s e pr=>hd H s ?_
 rw [e]
 have:∀ {l:List Nat} {m:List V},C3 (fun i y=>y ≠ .ref D/\y=F i) l m->m=l.map F:=by
  intro l m q
  induction q with
  | nil=>rfl
  | cons h _ ih=>rw [Aq,<- ih,h.2]
 rw [this pr]
theorem GoesR.nth {H:Hp} {vs:List V} {gs:List (Str×List Int)} (r:GoesR H vs gs) {i:Nat} {x:V} (h:vs[i]?=some x):∃ q t,x = .ref q/\H q=some (.tup [.str (gs.getD i ("",[])).1,.ref t])/\H t=some (.tup ((gs.getD i ("",[])).2.map V.int))/\i < gs.length:=by
 have hi:i < gs.length:=by rw [<- r.length]; exact (Av.mp h).1
 obtain ⟨q,t,e1,e2,e3⟩:=r.get (Aa hi)
 rw [h] at e1
 cases e1
 refine ⟨q,t,rfl,?_,?_,hi⟩
 ·rw [Aj,Aa hi]; exact e2
 ·rw [Aj,Aa hi]; exact e3
noncomputable def tupY (H:Hp) (vs:List V) (i:Nat):V:=match vs[i]? with
 | some (.ref q)=>match H q with
  | some (.tup [_,y])=>y
  | _ => .non
 | _ => .non
theorem zfP {H:Hp} {vs:List V} {i:Nat} {q:A3} {x y:V} (h1:vs[i]?=some (.ref q)) (h2:H q=some (.tup [x,y])):tupY H vs i=y:=by
 unfold tupY
 rw [h1]
 simp only [h2]
theorem pg_tup' {X:Cx} {pos:Pos} (K:Al) (hK:X.K=K) {es:List Ca} {k:Nat} {t:TGs} {n:Nat} (hc:X.calm=true) (h:PGs X es t)
  (hn:(assignEach es X.env).length=n:=by rfl) (hst:(assignEach es X.env).findIdx? (·.1)=none:=by rfl):PG X (.Tuple es k pos) (gTup K n t):=by
 subst hK
 exact zej hc h hn hst
noncomputable def ind (b:Bool):Nat:=if b=true then 1 else 0
structure Tile (sp:Nat) (al ta:Nat->Nat->Bool):Prop where
 pos:1<=sp
 pa:∀ k d,al (k + sp) d=al k d
 pt:∀ k d,ta (k + sp) d=ta k d
 la:∀ k d,7<=d->al k d=false
 lt:∀ k d,8<=d->ta k d=false
 one:∀ k,ind (al k 0) + ind (ta k 0)=1
 step:∀ k d,ind (al (k + 1) d)=ind (al k (d + 1)) + ind (ta k (d + 1))
namespace Tile
variable {sp:Nat} {al ta:Nat->Nat->Bool}
end Tile
noncomputable def tkOf (C:Combs) (x:Str):List Int:=(cGet C x).getD []
theorem zc7 {ah ts:List Int} (ha:∀ t∈ah,0<=t/\t<=6) (ht:∀ t∈ts,0<=t/\t<=7) (d:Nat):(d:Int)∈afterOf ah ts ↔ ((d + 1:Nat):Int)∈ah\/((d + 1:Nat):Int)∈ts:=by
 unfold afterOf
 rw [Ab]
 constructor
 ·rintro ⟨y,hy,e⟩
  obtain ⟨h1,h2⟩:=Bc.mp hy
  have h3:=(mem_canon.mp h1).1
  rw [show ((d + 1:Nat):Int)=y by omega]
  exact Ao.mp h3
 ·intro h
  refine ⟨((d + 1:Nat):Int),Bc.mpr ⟨mem_canon.mpr ⟨Ao.mpr h,?_⟩,decide_eq_true (by omega)⟩,by omega⟩
  rcases h with h | h
  ·have:=ha _ h; omega
  ·exact ht _ h
theorem tk_perm {C C':Combs} (p:C.Perm C') (nd:(C.map (·.1)).Nodup) (x:Str):cGet C x=cGet C' x:=by
 have nd':(C'.map (·.1)).Nodup:=(p.map _).nodup_iff.mp nd
 cases e:cGet C x with
 | none =>
  symm
  rw [get_none] at e ⊢
  exact fun z=>e ((p.map _).mem_iff.mpr z)
 | some ts=>exact (zcd nd' (p.mem_iff.mp (zd2 e))).symm
noncomputable def laid (nm:Nat->Str) (sp:Nat):List Nat:=(Ac sp).filter fun j=>decide (nm j≠A0 "")
theorem KindsL.getG {G:A3->Prop} {H:Hp}:∀ {vs:List V} {ks:List (Str×List Int)} {i:Nat} {v:V},KindsL G H vs ks->vs[i]?=some v->∃ k q t,ks[i]?=some k/\v = .ref q/\H q=some (.lst [.str k.1,.ref t])/\H t=some (.lst (k.2.map V.int))/\G t
 | [],[],_,_,_,e=>by simp at e
 | _ :: _,k :: _,0,_,⟨⟨q,t,e,h1,h2,g1,g2⟩,_⟩,z=>by
  simp at z
  subst z
  exact ⟨k,q,t,rfl,e,h1,h2,g2⟩
 | _ :: _,_ :: _,i + 1,_,⟨_,b⟩,z=>by
  obtain ⟨k,q,t,h⟩:=KindsL.getG (i:=i) b (by simpa using z)
  exact ⟨k,q,t,by simpa using h⟩
 | [],_ :: _,_,_,x,_=>x.elim
 | _ :: _,[],_,_,x,_=>x.elim
theorem KindsL.live {G:A3->Prop} {H:Hp}:∀ {vs:List V} {ks:List (Str×List Int)},KindsL G H vs ks->KindsL (fun x=>H x≠none) H vs ks
 | [],[],_=>trivial
 | _ :: _,_ :: _,⟨⟨q,t,e,h1,h2,_,_⟩,r⟩=>⟨⟨q,t,e,h1,h2,(show H q≠none by rw [h1]; exact nofun),(show H t≠none by rw [h2]; exact nofun)⟩,KindsL.live r⟩
 | [],_ :: _,x=>x.elim
 | _ :: _,[],x=>x.elim
theorem Drawn.live {G:A3->Prop} {H:Hp} {vs:List V} {ks:List (Str×List Int)} (d:Drawn G H vs ks):Drawn (fun x=>H x≠none) H vs ks:=⟨d.rows.live,d.nd,d.good⟩
noncomputable abbrev gallopS:Bool->Keyed->Array Keyed->Nat->Nat->Nat->StateT SortSt Sem (Option Nat):=sortPriv% PySem.Builtin.gallop
structure Ranks (prog:An) (w:B8) (A:B1) (E:A1->A4->Prop) (s:A4) (kd:F5) (S:Aw->Prop) (rk:Aw->Int):Prop where
 ask:∀ {x y:Aw} {st:By} {Q:Option Bool->By->Prop},S x->S y->kindOf st=kd->Q (some (decide (rk x < rk y))) st->wpS (model prog w) A E s (lt' x y) Q st
section
variable {prog:An} {w:B8} {A:B1} {E:A1->A4->Prop} {s:A4} {kd:F5} {S:Aw->Prop} {rk:Aw->Int}
noncomputable def kAt (rk:Aw->Int) (arr:Array Aw) (i:Nat):Int:=match arr[i]? with
 | some x=>rk x
 | none=>0
theorem zaW {arr:Array Aw} {i:Nat} (h:i < arr.size):kAt rk arr i=rk arr[i]:=by unfold kAt; rw [Gv h]
theorem zaD {arr:Array Aw} {i:Nat} {Q:Aw->By->Prop} {st:By} (h:i < arr.size) (q:Q arr[i] st):wpS (model prog w) A E s (elem' arr i) Q st:=by
 rw [elem'_eq,Gv h]
 exact Ap q
noncomputable def Up2 (rk:Aw->Int) (arr:Array Aw) (lo hi:Nat):Prop:=∀ i j,lo<=i->i<=j->j < hi->kAt rk arr i<=kAt rk arr j
theorem zbB (C:Ranks prog w A E s kd S rk) {left:Bool} {key:Aw} {arr:Array Aw} {b n hint:Nat} {Q:Option Nat->By->Prop} {st:By} (hk:S key) (hS:∀ i (h:i < arr.size),b<=i->i < b + n->S arr[i]) (sz:b + n<=arr.size) (hh:hint < n) (up:Up2 rk arr b (b + n)) (hst:kindOf st=kd)
  (q:∀ k,k<=n->(∀ i,i < k->(if left=true then kAt rk arr (b + i) < rk key else kAt rk arr (b + i)<=rk key))->(∀ i,k<=i->i < n->(if left=true then rk key<=kAt rk arr (b + i) else rk key < kAt rk arr (b + i)))->Q (some k) st) :
  wpS (model prog w) A E s (gallopS left key arr b n hint) Q st:=by
 obtain ⟨P,hP⟩:∃ P:Nat->Bool,P=fun i=>if left=true then decide (kAt rk arr (b + i) < rk key) else decide (kAt rk arr (b + i)<=rk key):=⟨_,rfl⟩
 have mono:∀ i j,i<=j->j < n->P j=true->P i=true:=fun i j hij hj h=>by
  have:=up (b + i) (b + j) (by omega) (by omega) (by omega)
  rw [hP] at h ⊢
  dsimp only at h ⊢
  cases left
  ·simp at h ⊢; omega
  ·simp at h ⊢; omega
 have q':∀ k,k<=n->(∀ i,i < k->P i=true)->(∀ i,k<=i->i < n->P i=false)->Q (some k) st:=fun k h1 h2 h3=>by
  refine q k h1 (fun i hi => ?_) (fun i h4 h5 => ?_)
  ·have:=h2 i hi
   rw [hP] at this
   cases left <;> simpa using this
  ·have:=h3 i h4 h5
   rw [hP] at this
   cases left <;> simpa using this
 have bey:∀ i,i < n->∀ (Q':Option Bool->By->Prop),Q' (some (P i)) st->wpS (model prog w) A E s (do
   let x <- elem' arr (b + i)
   if left=true then lt' x key else do
    let r <- lt' key x
    pure (Ot (fun x => !x) r)) Q' st:=fun i hi Q' h=>by
  refine Ak (zaD (by omega) ?_)
  have hSi:=hS (b + i) (by omega) (by omega) (by omega)
  have e:=zaW (rk:=rk) (show b + i < arr.size by omega)
  cases hl:left with
  | true =>
   rw [if_pos rfl]
   refine C.ask hSi hk hst ?_
   rw [hP,hl] at h
   simpa [e] using h
  | false =>
   rw [if_neg A9]
   refine Ak (C.ask hk hSi hst (Ap ?_))
   rw [hP,hl] at h
   have e2:(!decide (rk key < rk arr[b + i]))=decide (kAt rk arr (b + i)<=rk key):=by
    rw [e,<- decide_not,decide_eq_decide]; omega
   show Q' (some (!decide (rk key < rk arr[b + i]))) st
   rw [e2]
   simpa using h
 have bin:∀ lo hi,lo<=hi->hi<=n->(∀ i,i < lo->P i=true)->(∀ i,hi<=i->i < n->P i=false)->∀ (F:Nat->Option (Option Nat)×Nat×Nat->StateT By Sem (ForInStep (Option (Option Nat)×Nat×Nat))),
   (∀ x lo hi,lo < hi->hi<=n->∀ R:ForInStep (Option (Option Nat)×Nat×Nat)->By->Prop,R (.yield (none,if P (lo + (hi - lo) / 2)=true then (lo + (hi - lo) / 2 + 1,hi) else (lo,lo + (hi - lo) / 2))) st->wpS (model prog w) A E s (F x (none,lo,hi)) R st) ->
   (∀ x lo hi,hi<=lo->∀ R:ForInStep (Option (Option Nat)×Nat×Nat)->By->Prop,R (.done (none,lo,hi)) st->wpS (model prog w) A E s (F x (none,lo,hi)) R st) ->
   wpS (model prog w) A E s (forIn [:n] (none,lo,hi) F) (fun c st'=>st'=st/\∃ k,c.1=none/\c.2.2=k/\k<=n/\(∀ i,i < k->P i=true)/\(∀ i,k<=i->i < n->P i=false)) st:=fun lo hi h1 h2 h3 h4 F f1 f2=>by
  refine Cw (I:=fun x c st'=>st'=st/\∃ lo hi,c=(none,lo,hi)/\lo<=hi/\hi<=n/\hi - lo + x<=n/\(∀ i,i < lo->P i=true)/\(∀ i,hi<=i->i < n->P i=false)) ?_ ?_ ⟨rfl,lo,hi,rfl,h1,h2,by omega,h3,h4⟩
  ·rintro x c st' _ hx ⟨rfl,lo,hi,rfl,a1,a2,a3,a4,a5⟩
   by_cases e:lo < hi
   ·refine f1 x lo hi e a2 _ ?_
    dsimp only
    cases hm:P (lo + (hi - lo) / 2) with
    | true=>exact ⟨rfl,lo + (hi - lo) / 2 + 1,hi,rfl,by omega,a2,by omega,fun i hi'=>mono i (lo + (hi - lo) / 2) (by omega) (by omega) hm,a5⟩
    | false =>
     refine ⟨rfl,lo,lo + (hi - lo) / 2,rfl,by omega,by omega,by omega,a4,fun i h6 h7 => ?_⟩
     cases hz:P i with
     | false=>rfl
     | true=>rw [mono _ i h6 h7 hz] at hm; cases hm
   ·exact f2 x lo hi (by omega) _ ⟨rfl,hi,rfl,rfl,a2,fun i hi'=>a4 i (by omega),a5⟩
  ·rintro c st' ⟨rfl,lo,hi,rfl,a1,a2,a3,a4,a5⟩
   exact ⟨rfl,hi,rfl,rfl,a2,fun i hi'=>a4 i (by omega),a5⟩
 refine Ak (bey hint hh _ ?_)
 dsimp only
 cases hr:P hint with
 | true =>
  rw [if_pos rfl]
  refine Ak (E6 (Cw (I:=fun x c st'=>st'=st/\∃ la off,c=(none,la,off)/\la < off/\x + 1<=off/\hint + la < n/\P (hint + la)=true) (Q:=fun c st'=>st'=st/\∃ la off,c=(none,la,off)/\la < off/\hint + la < n/\P (hint + la)=true/\(n - hint<=off\/(off < n - hint/\P (hint + off)=false))) ?step ?fin ⟨rfl,0,1,rfl,by omega,by omega,by omega,hr⟩) ?post)
  case fin =>
   rintro c st' ⟨rfl,la,off,rfl,a1,a2,a3,a4⟩
   exact ⟨rfl,la,off,rfl,a1,a3,a4,.inl (by omega)⟩
  case step =>
   rintro x c st' _ hx ⟨rfl,la,off,rfl,a1,a2,a3,a4⟩
   dsimp only
   by_cases e:off>=n - hint
   ·rw [if_pos e]
    exact Ap ⟨rfl,la,off,rfl,a1,a3,a4,.inl e⟩
   ·rw [if_neg e]
    refine Ak (bey (hint + off) (by omega) _ ?_)
    dsimp only
    cases hm:P (hint + off) with
    | true =>
     rw [if_neg (by decide)]
     exact Ap ⟨rfl,off,2 * off + 1,rfl,by omega,by omega,by omega,hm⟩
    | false =>
     rw [if_pos (by decide)]
     exact Ap ⟨rfl,la,off,rfl,a1,a3,a4,.inr ⟨by omega,hm⟩⟩
  case post =>
   rintro c st' ⟨rfl,la,off,rfl,a1,a3,a4,a5⟩
   dsimp only
   refine Ak (E6 (bin (hint + la + 1) (hint + min off (n - hint)) (by omega) (by omega) (fun i hi=>mono i (hint + la) (by omega) a3 a4) (fun i h6 h7 => ?_) _ (fun x lo hi h1 h2 R hR => ?_) fun x lo hi h1 R hR => ?_) (by rintro ⟨r,lo',hi'⟩ st2 ⟨rfl,k,e1,e2,h1,h2,h3⟩; dsimp only at e1 e2 ⊢; subst e1 e2; exact Ap (q' _ h1 h2 h3)))
   ·rcases a5 with z | ⟨z1,z2⟩
    ·omega
    ·cases hz:P i with
     | false=>rfl
     | true=>rw [mono (hint + off) i (by omega) h7 hz] at z2; cases z2
   ·dsimp only
    rw [if_neg (by omega)]
    refine Ak (bey _ (by omega) _ ?_)
    dsimp only
    cases hm:P (lo + (hi - lo) / 2) with
    | true=>rw [if_pos rfl]; rw [hm,if_pos rfl] at hR; exact Ap hR
    | false=>rw [if_neg A9]; rw [hm,if_neg A9] at hR; exact Ap hR
   ·dsimp only
    rw [if_pos h1]
    exact Ap hR
 | false =>
  rw [if_neg A9]
  refine Ak (E6 (Cw (I:=fun x c st'=>st'=st/\∃ la off,c=(none,la,off)/\la < off/\x + 1<=off/\la<=hint/\P (hint - la)=false) (Q:=fun c st'=>st'=st/\∃ la off,c=(none,la,off)/\la < off/\la<=hint/\P (hint - la)=false/\(hint + 1<=off\/(off < hint + 1/\P (hint - off)=true))) ?step ?fin ⟨rfl,0,1,rfl,by omega,by omega,by omega,hr⟩) ?post)
  case fin =>
   rintro c st' ⟨rfl,la,off,rfl,a1,a2,a3,a4⟩
   exact ⟨rfl,la,off,rfl,a1,a3,a4,.inl (by omega)⟩
  case step =>
   rintro x c st' _ hx ⟨rfl,la,off,rfl,a1,a2,a3,a4⟩
   dsimp only
   by_cases e:off>=hint + 1
   ·rw [if_pos e]
    exact Ap ⟨rfl,la,off,rfl,a1,a3,a4,.inl e⟩
   ·rw [if_neg e]
    refine Ak (bey (hint - off) (by omega) _ ?_)
    dsimp only
    cases hm:P (hint - off) with
    | true =>
     rw [if_pos rfl]
     exact Ap ⟨rfl,la,off,rfl,a1,a3,a4,.inr ⟨by omega,hm⟩⟩
    | false =>
     rw [if_neg A9]
     exact Ap ⟨rfl,off,2 * off + 1,rfl,by omega,by omega,by omega,hm⟩
  case post =>
   rintro c st' ⟨rfl,la,off,rfl,a1,a3,a4,a5⟩
   dsimp only
   refine Ak (E6 (bin (hint + 1 - min off (hint + 1)) (hint - la) (by omega) (by omega) (fun i hi => ?_) (fun i h6 h7 => ?_) _ (fun x lo hi h1 h2 R hR => ?_) fun x lo hi h1 R hR => ?_) (by rintro ⟨r,lo',hi'⟩ st2 ⟨rfl,k,e1,e2,h1,h2,h3⟩; dsimp only at e1 e2 ⊢; subst e1 e2; exact Ap (q' _ h1 h2 h3)))
   ·rcases a5 with z | ⟨z1,z2⟩
    ·omega
    ·exact mono i (hint - off) (by omega) (by omega) z2
   ·cases hz:P i with
    | false=>rfl
    | true=>rw [mono (hint - la) i h6 h7 hz] at a4; cases a4
   ·dsimp only
    rw [if_neg (by omega)]
    refine Ak (bey _ (by omega) _ ?_)
    dsimp only
    cases hm:P (lo + (hi - lo) / 2) with
    | true=>rw [if_pos rfl]; rw [hm,if_pos rfl] at hR; exact Ap hR
    | false=>rw [if_neg A9]; rw [hm,if_neg A9] at hR; exact Ap hR
   ·dsimp only
    rw [if_pos h1]
    exact Ap hR
end
noncomputable abbrev Srt (rk:Aw->Int) (l:List Aw):Prop:=l.Pairwise fun x y=>rk x<=rk y
structure MI (rk:Aw->Int) (la lb out:List Aw) (ia ib:Nat):Prop where
 perm:out.Perm (la.take ia ++ lb.take ib)
 srt:Srt rk out
 low:∀ x∈out,(∀ y∈la.drop ia,rk x<=rk y)/\∀ y∈lb.drop ib,rk x<=rk y
noncomputable def MFin (rk:Aw->Int) (la lb res:List Aw):Prop:=res.Perm (la ++ lb)/\Srt rk res
section
variable {rk:Aw->Int} {la lb out:List Aw} {ia ib:Nat}
theorem za2 {l:List Aw} {i:Nat} (h:i < l.length):l.drop i=l[i] :: l.drop (i + 1):=Gw h
theorem zdN {l:List Aw} (s:Srt rk l) {i:Nat} (h:i < l.length):∀ y∈l.drop (i + 1),rk l[i]<=rk y:=by
 have:=Bg (Fp i l) s
 rw [za2 h] at this
 exact (Jo.mp this).1
theorem MI.pushA (m:MI rk la lb out ia ib) (sa:Srt rk la) (h:ia < la.length) (hb:∀ y∈lb.drop ib,rk la[ia]<=rk y):MI rk la lb (out ++ [la[ia]]) (ia + 1) ib:=by
 have hd:=za2 h
 refine ⟨?_,?_,fun x hx => ?_⟩
 ·rw [De h]
  have:=m.perm.append_right [la[ia]]
  refine this.trans ?_
  rw [At,At]
  exact D4 _ Dn
 ·refine Bv.mpr ⟨m.srt,by simp,fun x hx y hy => ?_⟩
  rw [A6.mp hy]
  exact (m.low x hx).1 _ (by rw [hd]; exact Ag)
 ·rcases Ao.mp hx with z | z
  ·exact ⟨fun y hy=>(m.low x z).1 y (by rw [hd]; exact A8 _ hy),(m.low x z).2⟩
  ·rw [A6.mp z]
   exact ⟨zdN sa h,hb⟩
theorem MI.pushB (m:MI rk la lb out ia ib) (sb:Srt rk lb) (h:ib < lb.length) (ha:∀ y∈la.drop ia,rk lb[ib]<=rk y):MI rk la lb (out ++ [lb[ib]]) ia (ib + 1):=by
 have hd:=za2 h
 refine ⟨?_,?_,fun x hx => ?_⟩
 ·rw [De h]
  have:=m.perm.append_right [lb[ib]]
  rwa [At] at this
 ·refine Bv.mpr ⟨m.srt,by simp,fun x hx y hy => ?_⟩
  rw [A6.mp hy]
  exact (m.low x hx).2 _ (by rw [hd]; exact Ag)
 ·rcases Ao.mp hx with z | z
  ·exact ⟨(m.low x z).1,fun y hy=>(m.low x z).2 y (by rw [hd]; exact A8 _ hy)⟩
  ·rw [A6.mp z]
   exact ⟨ha,zdN sb h⟩
theorem MI.moreA (sa:Srt rk la):∀ {k ia:Nat} {out:List Aw},MI rk la lb out ia ib->ia + k<=la.length->(∀ i (h:i < la.length),ia<=i->i < ia + k->∀ y∈lb.drop ib,rk la[i]<=rk y)->MI rk la lb (out ++ (la.drop ia).take k) (ia + k) ib
 | 0,ia,out,m,_,_=>by simpa using m
 | k + 1,ia,out,m,h,hy=>by
  have m1:=m.pushA sa (by omega) (hy ia (by omega) (Ad _) (by omega))
  have m2:=MI.moreA sa (k:=k) m1 (by omega) fun i hi h1 h2=>hy i hi (by omega) (by omega)
  rw [za2 (show ia < la.length by omega),Gf]
  rw [At,Mc,show ia + 1 + k=ia + (k + 1) by omega] at m2
  exact m2
theorem MI.moreB (sb:Srt rk lb):∀ {k ib:Nat} {out:List Aw},MI rk la lb out ia ib->ib + k<=lb.length->(∀ i (h:i < lb.length),ib<=i->i < ib + k->∀ y∈la.drop ia,rk lb[i]<=rk y)->MI rk la lb (out ++ (lb.drop ib).take k) ia (ib + k)
 | 0,ib,out,m,_,_=>by simpa using m
 | k + 1,ib,out,m,h,hy=>by
  have m1:=m.pushB sb (by omega) (hy ib (by omega) (Ad _) (by omega))
  have m2:=MI.moreB sb (k:=k) m1 (by omega) fun i hi h1 h2=>hy i hi (by omega) (by omega)
  rw [za2 (show ib < lb.length by omega),Gf]
  rw [At,Mc,show ib + 1 + k=ib + (k + 1) by omega] at m2
  exact m2
theorem MI.restA (m:MI rk la lb out ia lb.length) (sa:Srt rk la):MFin rk la lb (out ++ la.drop ia):=by
 refine ⟨?_,Bv.mpr ⟨m.srt,Bg (Fp _ _) sa,fun x hx y hy=>(m.low x hx).1 y hy⟩⟩
 have:=m.perm.append_right (la.drop ia)
 rw [Ci] at this
 refine this.trans ?_
 rw [At]
 refine (D4 _ Dn).trans ?_
 rw [<- At,C5]
theorem MI.restB (m:MI rk la lb out la.length ib) (sb:Srt rk lb):MFin rk la lb (out ++ lb.drop ib):=by
 refine ⟨?_,Bv.mpr ⟨m.srt,Bg (Fp _ _) sb,fun x hx y hy=>(m.low x hx).2 y hy⟩⟩
 have:=m.perm.append_right (lb.drop ib)
 rw [Ci,At,C5] at this
 exact this
theorem MI.restBA (m:MI rk la lb out ia ib) (sa:Srt rk la) (sb:Srt rk lb) (h:∀ x∈lb.drop ib,∀ y∈la.drop ia,rk x<=rk y):MFin rk la lb (out ++ lb.drop ib ++ la.drop ia):=by
 refine ⟨?_,Bv.mpr ⟨Bv.mpr ⟨m.srt,Bg (Fp _ _) sb,fun x hx y hy=>(m.low x hx).2 y hy⟩,Bg (Fp _ _) sa,fun x hx y hy => ?_⟩⟩
 ·have:=m.perm.append_right (lb.drop ib ++ la.drop ia)
  rw [<- At] at this
  refine this.trans ?_
  rw [At,<- At (lb.take ib),C5]
  refine (D4 _ Dn).trans ?_
  rw [<- At,C5]
 ·rcases Ao.mp hx with z | z
  ·exact (m.low x z).1 y hy
  ·exact h x z y hy
end
theorem zaM (a:Array Aw) (i j:Nat):(a.extract i j).toList=(a.toList.drop i).take (j - i):=by simp
theorem zaO (a:Array Aw) (i:Nat):(a.extract i).toList=a.toList.drop i:=by
 rw [zaM]
 exact Ia (by simp)
noncomputable def Like (st st':By):Prop:=kindOf st'=kindOf st/\arrOf st'=arrOf st/\pendingOf st'=pendingOf st/\failedOf st'=failedOf st
theorem Like.refl (st:By):Like st st:=⟨rfl,rfl,rfl,rfl⟩
noncomputable abbrev mergeLoS:Array Keyed->Array Keyed->StateT SortSt Sem (Array Keyed):=sortPriv% PySem.Builtin.mergeLo
theorem zgL {rk:Aw->Int} {arr:Array Aw} (s:Srt rk arr.toList) {lo hi:Nat} (h:hi<=arr.size):Up2 rk arr lo hi:=fun i j _ hij hj=>by
 rw [zaW (show i < arr.size by omega),zaW (show j < arr.size by omega)]
 by_cases e:i=j
 ·subst e; exact Dk _
 ·have:=D3.mp s i j (by simpa using (show i < arr.size by omega)) (by simpa using (show j < arr.size by omega)) (by omega)
  simpa using this
theorem zap (a:Array Aw) {i:Nat} (h:i < a.size):a.toList[i]'(by simpa using h)=a[i]:=by simp
theorem zce {l:List Aw} {i:Nat} {y:Aw} (h:y∈l.drop i):∃ j,∃ hj:j < l.length,i<=j/\l[j]=y:=by
 obtain ⟨j,hj,e⟩:=Fd h
 rw [Ho] at hj
 rw [Jv] at e
 exact ⟨i + j,by omega,by omega,e⟩
theorem zcL {rk:Aw->Int} {l:List Aw} (s:Srt rk l) {i:Nat} (h:i < l.length):∀ y∈l.drop i,rk l[i]<=rk y:=fun y hy=>by
 rw [za2 h] at hy
 rcases B6.mp hy with rfl | z
 ·exact Dk _
 ·exact zdN s h y z
theorem zak {M:Hm} {A:B1} {E:A1->A4->Prop} {s:A4} {σ α : Type} {c:Prop} [Decidable c] {x y:StateT σ Sem α} {Q : α -> σ -> Prop} {st : σ} (h1:c->wpS M A E s x Q st) (h2:¬ c->wpS M A E s y Q st):wpS M A E s (if c then x else y) Q st:=by
 by_cases h:c
 ·rw [if_pos h]; exact h1 h
 ·rw [if_neg h]; exact h2 h
theorem ze7 {M:Hm} {A:B1} {E:A1->A4->Prop} {s:A4} {σ α : Type} {c:Prop} [Decidable c] {x y:StateT σ Sem α} {Q : α -> σ -> Prop} {st : σ} (h2:¬ c->wpS M A E s y Q st) (h1:c->wpS M A E s x Q st):wpS M A E s (if c then x else y) Q st:=zak h1 h2
theorem zfV {X G:Prop} (k:X->G) (h:X):G:=k h
theorem zba {M:Hm} {A:B1} {E:A1->A4->Prop} {s:A4} {f:By->By} {Q:PUnit->By->Prop} {st:By} (hf:Like st (f st)) (h:∀ st',Like st st'->Q ⟨⟩ st'):wpS M A E s (modify f:StateT By Sem PUnit) Q st:=Kf (h _ hf)
theorem Like.trans {a b c:By} (h:Like a b) (k:Like b c):Like a c:=⟨k.1.trans h.1,k.2.1.trans h.2.1,k.2.2.1.trans h.2.2.1,k.2.2.2.trans h.2.2.2⟩
section
variable {prog:An} {w:B8} {A:B1} {E:A1->A4->Prop} {s:A4} {kd:F5} {S:Aw->Prop} {rk:Aw->Int}
theorem mergeLo_ok (C:Ranks prog w A E s kd S rk) {a b:Array Aw} {Q:Array Aw->By->Prop} {st:By} (ha:0 < a.size) (hb:0 < b.size) (sa:Srt rk a.toList) (sb:Srt rk b.toList) (Sa:∀ i (h:i < a.size),S a[i]) (Sb:∀ i (h:i < b.size),S b[i]) (h0:∀ y∈a.toList,rk b[0]<=rk y) (hl:∀ y∈b.toList,rk y<=rk (a[a.size - 1]'(by omega))) (hst:kindOf st=kd)
  (q:∀ res st',Like st st'->MFin rk a.toList b.toList res.toList->Q res st'):wpS (model prog w) A E s (mergeLoS a b) Q st:=by
 have la:a.toList.length=a.size:=As
 have lb:b.toList.length=b.size:=As
 have m0:MI rk a.toList b.toList [b[0]] 0 1:=by
  have mm:MI rk a.toList b.toList [] 0 0:=⟨by simp,Ga,fun x hx=>by cases hx⟩
  have:=mm.pushB sb (by omega) (by rw [O9,zap b hb]; exact h0)
  rw [zap b hb] at this
  exact this
 have lastA:∀ ib,∀ x∈b.toList.drop ib,∀ ia,ia + 1=a.size->∀ y∈a.toList.drop ia,rk x<=rk y:=fun ib x hx ia e y hy=>by
  obtain ⟨j,hj,h1,e2⟩:=zce hy
  have:j=a.size - 1:=by omega
  subst this
  rw [<- e2,zap a (by omega)]
  exact hl x (List.mem_of_mem_drop hx)
 have doneA:∀ {out:List Aw} {ia ib:Nat},MI rk a.toList b.toList out ia ib->ib=b.size->MFin rk a.toList b.toList (out ++ a.toList.drop ia ++ b.toList.drop ib):=fun m e=>by
  subst e
  rw [<- lb] at m ⊢
  rw [Nt,Bw]
  exact m.restA sa
 have doneB:∀ {out:List Aw} {ia ib:Nat},MI rk a.toList b.toList out ia ib->ia=a.size->MFin rk a.toList b.toList (out ++ a.toList.drop ia ++ b.toList.drop ib):=fun m e=>by
  subst e
  rw [<- la] at m ⊢
  rw [Nt,Bw]
  exact m.restB sb
 refine Ak (Jp (Ft ⟨rfl,?_⟩))
 dsimp only
 refine Ak (zaD hb ?_)
 refine zak (fun e1 => ?_) (fun e1 => ?_)
 ·have e1:1=b.size:=by simpa using e1
  refine Ap (q _ st (Like.refl st) ?_)
  have:=doneA m0 e1
  simp only [B0,Cc,zaO]
  exact this
 refine zak (fun e2 => ?_) (fun e2 => ?_)
 ·have e2:0 + 1=a.size:=by simpa using e2
  refine Ap (q _ st (Like.refl st) ?_)
  have:=m0.restBA sa sb (fun x hx y hy=>lastA 1 x hx 0 e2 y hy)
  simp only [B0,Cc,zaO]
  exact this
 have e1:¬ 1=b.size:=by simpa using e1
 have e2:¬ 0 + 1=a.size:=by simpa using e2
 refine Ak (Hv ?_)
 refine Ak (E6 (Cw (I:=fun x c st'=>Like st st'/\∃ (out:Array Aw) (ia ib g:Nat),c=(none,out,ia,ib,g)/\MI rk a.toList b.toList out.toList ia ib/\ia + 1 < a.size/\ib < b.size/\x < ia + ib) (Q:=fun c st'=>Like st st'/\∃ res:Array Aw,c.1=some res/\MFin rk a.toList b.toList res.toList) ?step ?fin ⟨Like.refl st,_,_,_,_,rfl,m0,by omega,by omega,by omega⟩) ?post)
 case fin =>
  rintro c st' ⟨_,out,ia,ib,g,rfl,_,h1,h2,h3⟩
  omega
 case post =>
  rintro ⟨r,out,ia,ib,g⟩ st' ⟨hL,res,e,hf⟩
  dsimp only at e ⊢
  subst e
  exact Ap (q res st' hL hf)
 case step =>
  rintro x c st1 _ hx ⟨hL,out,ia,ib,g,rfl,m,h1,h2,h3⟩
  dsimp only
  have hk1:kindOf st1=kd:=hL.1.trans hst
  refine Ak (E6 (Cw (I:=fun y c st'=>st'=st1/\∃ (out:Array Aw) (ia ib ac bc:Nat),c=(none,out,ia,ib,ac,bc)/\MI rk a.toList b.toList out.toList ia ib/\ia + 1 < a.size/\ib < b.size/\x < ia + ib/\(0 < y->x + 1 < ia + ib)) (Q:=fun c st'=>st'=st1/\((∃ res:Array Aw,c.1=some res/\MFin rk a.toList b.toList res.toList)\/∃ (out:Array Aw) (ia ib ac bc:Nat),c=(none,out,ia,ib,ac,bc)/\MI rk a.toList b.toList out.toList ia ib/\ia + 1 < a.size/\ib < b.size/\x + 1 < ia + ib)) ?step ?fin ⟨rfl,_,_,_,_,_,rfl,m,h1,h2,h3,by omega⟩) ?post)
  case fin =>
   rintro c st' ⟨rfl,out,ia,ib,ac,bc,rfl,m,h1,h2,h3,h4⟩
   exact ⟨rfl,.inr ⟨out,ia,ib,ac,bc,rfl,m,h1,h2,h4 (by omega)⟩⟩
  case step =>
   rintro y c st' _ hy ⟨rfl,out,ia,ib,ac,bc,rfl,m,h1,h2,h3,h4⟩
   dsimp only
   refine Ak (zaD h2 (Ak (zaD (show ia < a.size by omega) (Ak (C.ask (Sb _ h2) (Sa _ (by omega)) hk1 ?_)))))
   dsimp only
   refine zak (fun hw => ?_) (fun hw => ?_)
   ·have hw:rk b[ib] < rk a[ia]:=by simpa using hw
    have m':=m.pushB sb (by omega) (fun y hy=>by
     have:=zcL sa (show ia < a.toList.length by omega) y hy
     rw [zap a (by omega)] at this
     rw [zap b h2]
     omega)
    rw [zap b h2] at m'
    refine Ak (zaD h2 ?_)
    refine zak (fun e => ?_) (fun e => ?_)
    ·have e:ib + 1=b.size:=by simpa using e
     refine Ap ⟨rfl,.inl ⟨_,rfl,?_⟩⟩
     have:=doneA m' e
     simp only [B0,Cc,zaO]
     exact this
    have e:¬ ib + 1=b.size:=by simpa using e
    refine zak (fun _=>Ap ⟨rfl,.inr ⟨_,_,_,_,_,rfl,by simpa using m',h1,by omega,by omega⟩⟩) (fun _=>Ap ⟨rfl,_,_,_,_,_,rfl,by simpa using m',h1,by omega,by omega,by omega⟩)
   ·have hw:rk a[ia]<=rk b[ib]:=by simpa using hw
    have m':=m.pushA sa (by omega) (fun y hy=>by
     have:=zcL sb (show ib < b.toList.length by omega) y hy
     rw [zap b h2] at this
     rw [zap a (by omega)]
     omega)
    rw [zap a (by omega)] at m'
    refine Ak (zaD (show ia < a.size by omega) ?_)
    refine zak (fun e => ?_) (fun e => ?_)
    ·have e:ia + 1 + 1=a.size:=by simpa using e
     refine Ap ⟨rfl,.inl ⟨_,rfl,?_⟩⟩
     have:=m'.restBA sa sb (fun x hx y hy=>lastA _ x hx _ e y hy)
     simp only [B0,Cc,zaO]
     exact this
    have e:¬ ia + 1 + 1=a.size:=by simpa using e
    refine zak (fun _=>Ap ⟨rfl,.inr ⟨_,_,_,_,_,rfl,by simpa using m',by omega,h2,by omega⟩⟩) (fun _=>Ap ⟨rfl,_,_,_,_,_,rfl,by simpa using m',by omega,h2,by omega,by omega⟩)
  case post =>
   rintro ⟨r,out,ia,ib,ac,bc⟩ st' ⟨rfl,hres | ⟨out',ia',ib',ac',bc',e,m,h1,h2,h3⟩⟩
   ·obtain ⟨res,e,hf⟩:=hres
    dsimp only at e ⊢
    subst e
    exact Ap ⟨hL,res,rfl,hf⟩
   cases e
   dsimp only
   refine Ak (Jp (Ft ⟨rfl,?_⟩))
   refine Ak (E6 (Cw (I:=fun y c st'=>Like st st'/\∃ (out:Array Aw) (ia ib g ac bc:Nat),c=(none,out,ia,ib,g,ac,bc)/\MI rk a.toList b.toList out.toList ia ib/\ia + 1 < a.size/\ib < b.size/\x + 1 < ia + ib) (Q:=fun c st'=>Like st st'/\((∃ res:Array Aw,c.1=some res/\MFin rk a.toList b.toList res.toList)\/∃ (out:Array Aw) (ia ib g ac bc:Nat),c=(none,out,ia,ib,g,ac,bc)/\MI rk a.toList b.toList out.toList ia ib/\ia + 1 < a.size/\ib < b.size/\x + 1 < ia + ib)) ?step ?fin ⟨hL,_,_,_,_,_,_,rfl,m,h1,h2,h3⟩) ?post)
   case fin =>
    rintro c st' ⟨hL2,h⟩
    exact ⟨hL2,.inr h⟩
   case post =>
    rintro ⟨r,out,ia,ib,g,ac,bc⟩ st2 ⟨hL2,hres | ⟨out',ia',ib',g',ac',bc',e,m,h1,h2,h3⟩⟩
    ·obtain ⟨res,e,hf⟩:=hres
     dsimp only at e ⊢
     subst e
     exact Ap ⟨hL2,res,rfl,hf⟩
    cases e
    dsimp only
    exact Ak (zba ⟨rfl,rfl,rfl,rfl⟩ fun st3 hL3=>Ap ⟨hL2.trans hL3,_,_,_,_,rfl,m,h1,h2,h3⟩)
   case step =>
    rintro y c st2 _ hy ⟨hL2,out,ia,ib,g,ac,bc,rfl,m,h1,h2,h3⟩
    dsimp only
    apply zfV
    ·intro R
     refine zak (fun h0=>Ak (zba ⟨rfl,rfl,rfl,rfl⟩ ?_)) (fun h0=>Ak (zba ⟨rfl,rfl,rfl,rfl⟩ ?_))
     ·clear h0
      generalize g - 1=g'
      revert g'
      exact R
     ·exact R g
    intro g' st3 hL3
    have hL4:=hL2.trans hL3
    have hk3:kindOf st3=kd:=hL4.1.trans hst
    refine Ak (zaD h2 ?_)
    refine Ak (zbB C (Sb _ h2) (fun i h _ _=>Sa i h) (by omega) (by omega) (zgL sa (by omega)) hk3 fun k j1 j2 j3 => ?_)
    dsimp only
    simp only [Bp,if_false] at j2 j3
    have mA:=m.moreA sa (k:=k) (by omega) (fun i hi g1 g2 y hy=>by
     have h5:=j2 (i - ia) (by omega)
     rw [show ia + (i - ia)=i by omega,zaW (by omega)] at h5
     have h6:=zcL sb (show ib < b.toList.length by omega) y hy
     rw [zap b h2] at h6
     rw [zap a (by omega)]
     omega)
    have gtB:∀ y∈a.toList.drop (ia + k),rk b[ib]<=rk y:=fun y hy=>by
     obtain ⟨j,hj,g1,e⟩:=zce hy
     have h5:=j3 (j - ia) (by omega) (by omega)
     rw [show ia + (j - ia)=j by omega,zaW (by omega)] at h5
     rw [<- e,zap a (by omega)]
     omega
    have ex:(a.extract ia (ia + k)).toList=(a.toList.drop ia).take k:=by rw [zaM,Dw]
    rw [<- ex,<- B0] at mA
    have f12:∀ (_:¬ (ia + k + 1 == a.size)=true) (_:¬ (ia + k == a.size)=true),ia + k + 1 < a.size:=fun e5 e6=>by
     have e5:¬ ia + k + 1=a.size:=by simpa using e5
     have e6:¬ ia + k=a.size:=by simpa using e6
     omega
    have f32:x + 1 < ia + k + ib:=by omega
    apply zfV
    ·intro R
     refine ze7 (fun k0 => ?b2) (fun k0=>zak (fun e => ?x2) (fun e5=>zak (fun e => ?y2) (fun e6 => ?a2)))
     rotate_right
     have h12:=f12 e5 e6
     have h32:=f32
     clear e5 e6 k0
     have mA':=mA
     have gtB':=gtB
     generalize out ++ a.extract ia (ia + k)=out2 at mA' ⊢
     generalize ia + k=ia2 at mA' gtB' h12 h32 ⊢
     revert out2 ia2
     exact R
     ·have e7:k=0:=by omega
      have gtB2:=gtB
      rw [e7,Ka] at gtB2
      exact R out ia m gtB2 h1 h3
     ·have e:ia + k + 1=a.size:=by simpa using e
      refine Ap ⟨hL4,.inl ⟨_,rfl,?_⟩⟩
      have:=mA.restBA sa sb (fun x hx y hy=>lastA _ x hx _ e y hy)
      simp only [B0,zaO] at this ⊢
      exact this
     ·have e:ia + k=a.size:=by simpa using e
      refine Ap ⟨hL4,.inl ⟨_,rfl,?_⟩⟩
      have:=doneB mA e
      simp only [B0,zaO] at this ⊢
      exact this
    intro out2 ia2 mA gtB h12 h32
    have mB:=mA.pushB sb (by omega) (fun y hy=>by rw [zap b h2]; exact gtB y hy)
    rw [zap b h2] at mB
    refine Ak (zaD h2 ?_)
    refine zak (fun e => ?_) (fun e => ?_)
    ·have e:ib + 1=b.size:=by simpa using e
     refine Ap ⟨hL4,.inl ⟨_,rfl,?_⟩⟩
     have:=doneA mB e
     simp only [B0,Cc,zaO]
     exact this
    have e8:¬ ib + 1=b.size:=by simpa using e
    have hia2:ia2 < a.size:=by omega
    have hb4:ib + 1 < b.size:=by omega
    have h34:x + 1 < ia2 + (ib + 1):=by omega
    rw [<- Cc] at mB
    generalize out2.push b[ib]=out4 at mB ⊢
    generalize ib + 1=ib4 at mB hb4 h34 ⊢
    refine Ak (zaD hia2 ?_)
    refine Ak (zbB C (Sa _ hia2) (fun i h _ _=>Sb i h) (by omega) (by omega) (zgL sb (by omega)) hk3 fun k2 j4 j5 j6 => ?_)
    dsimp only
    simp only [if_true] at j5 j6
    have mC:=mB.moreB sb (k:=k2) (by omega) (fun i hi g1 g2 y hy=>by
     have h5:=j5 (i - ib4) (by omega)
     rw [show ib4 + (i - ib4)=i by omega,zaW (by omega)] at h5
     have h6:=zcL sa (show ia2 < a.toList.length by omega) y hy
     rw [zap a hia2] at h6
     rw [zap b (by omega)]
     omega)
    have leA:∀ y∈b.toList.drop (ib4 + k2),rk a[ia2]<=rk y:=fun y hy=>by
     obtain ⟨j,hj,g1,e⟩:=zce hy
     have h5:=j6 (j - ib4) (by omega) (by omega)
     rw [show ib4 + (j - ib4)=j by omega,zaW (by omega)] at h5
     rw [<- e,zap b (by omega)]
     omega
    have ex2:(b.extract ib4 (ib4 + k2)).toList=(b.toList.drop ib4).take k2:=by rw [zaM,Dw]
    rw [<- ex2,<- B0] at mC
    have f22:∀ (_:¬ (ib4 + k2 == b.size)=true),ib4 + k2 < b.size:=fun e5=>by
     have e5:¬ ib4 + k2=b.size:=by simpa using e5
     omega
    have f33:x + 1 < ia2 + (ib4 + k2):=by omega
    apply zfV
    ·intro R
     refine ze7 (fun k1 => ?b3) (fun k1=>zak (fun e => ?x3) (fun e5 => ?a3))
     rotate_right
     have h22:=f22 e5
     have h33:=f33
     clear e5 k1
     have mC':=mC
     have leA':=leA
     generalize out4 ++ b.extract ib4 (ib4 + k2)=out3 at mC' ⊢
     generalize ib4 + k2=ib2 at mC' leA' h22 h33 ⊢
     revert out3 ib2
     exact R
     ·have e7:k2=0:=by omega
      have leA2:=leA
      rw [e7,Ka] at leA2
      exact R out4 ib4 mB leA2 hb4 h34
     ·have e:ib4 + k2=b.size:=by simpa using e
      refine Ap ⟨hL4,.inl ⟨_,rfl,?_⟩⟩
      have:=doneA mC e
      simp only [B0,Cc,zaO] at this ⊢
      exact this
    intro out3 ib2 mC leA h22 h33
    have mD:=mC.pushA sa (by omega) (fun y hy=>by rw [zap a hia2]; exact leA y hy)
    rw [zap a hia2,<- Cc] at mD
    refine Ak (zaD hia2 ?_)
    refine zak (fun e => ?_) (fun e => ?_)
    ·have e:ia2 + 1 + 1=a.size:=by simpa using e
     refine Ap ⟨hL4,.inl ⟨_,rfl,?_⟩⟩
     have:=mD.restBA sa sb (fun x hx y hy=>lastA _ x hx _ e y hy)
     simp only [B0,Cc,zaO] at this ⊢
     exact this
    have e9:¬ ia2 + 1 + 1=a.size:=by simpa using e
    exact zak (fun _=>Ap ⟨hL4,.inr ⟨_,_,_,_,_,_,rfl,mD,by omega,h22,by omega⟩⟩) (fun _=>Ap ⟨hL4,_,_,_,_,_,_,rfl,mD,by omega,h22,by omega⟩)
end
structure HI (rk:Aw->Int) (la lb out:List Aw) (na nb:Nat):Prop where
 perm:out.Perm (la.drop na ++ lb.drop nb)
 srt:out.Pairwise fun x y=>rk y<=rk x
 high:∀ x∈out,(∀ y∈la.take na,rk y<=rk x)/\∀ y∈lb.take nb,rk y<=rk x
section
variable {rk:Aw->Int} {la lb out:List Aw} {na nb:Nat}
theorem zbo {l:List Aw} {n:Nat} {y:Aw} (h:y∈l.take n):∃ j,∃ hj:j < l.length,j < n/\l[j]=y:=by
 obtain ⟨j,hj,e⟩:=Fd h
 rw [D0] at hj
 rw [Ju] at e
 exact ⟨j,by omega,by omega,e⟩
theorem zdw {l:List Aw} (s:Srt rk l) {n:Nat} (h0:0 < n) (h:n<=l.length):∀ y∈l.take n,rk y<=rk (l[n - 1]'(by omega)):=fun y hy=>by
 obtain ⟨j,hj,h1,rfl⟩:=zbo hy
 by_cases e:j=n - 1
 ·subst e; exact Dk _
 ·exact D3.mp s j (n - 1) hj (by omega) (by omega)
theorem zcl {l:List Aw} {m n:Nat} (h:m<=n) {y:Aw} (hy:y∈l.take m):y∈l.take n:=by
 have:l.take m=(l.take n).take m:=by rw [List.take_take,Nat.min_eq_left h]
 rw [this] at hy
 exact Iz hy
theorem HI.pushA (m:HI rk la lb out na nb) (sa:Srt rk la) (h0:0 < na) (h:na<=la.length) (hb:∀ y∈lb.take nb,rk y<=rk (la[na - 1]'(by omega))):HI rk la lb (out ++ [la[na - 1]'(by omega)]) (na - 1) nb:=by
 have hd:la.drop (na - 1)=la[na - 1]'(by omega) :: la.drop na:=by
  have:=za2 (l:=la) (i:=na - 1) (by omega)
  rwa [Nb h0] at this
 have hm:la[na - 1]'(by omega)∈la.take na:=by
  rw [La]
  exact ⟨na - 1,by omega,rfl⟩
 refine ⟨?_,Bv.mpr ⟨m.srt,by simp,fun x hx y hy => ?_⟩,fun x hx => ?_⟩
 ·rw [hd,Kd]
  exact (m.perm.append_right _).trans Dn
 ·rw [A6.mp hy]
  exact (m.high x hx).1 _ hm
 ·rcases Ao.mp hx with z | z
  ·exact ⟨fun y hy=>(m.high x z).1 y (zcl (by omega) hy),(m.high x z).2⟩
  ·rw [A6.mp z]
   exact ⟨fun y hy=>zdw sa h0 h y (zcl (by omega) hy),hb⟩
theorem HI.pushB (m:HI rk la lb out na nb) (sb:Srt rk lb) (h0:0 < nb) (h:nb<=lb.length) (ha:∀ y∈la.take na,rk y<=rk (lb[nb - 1]'(by omega))):HI rk la lb (out ++ [lb[nb - 1]'(by omega)]) na (nb - 1):=by
 have hd:lb.drop (nb - 1)=lb[nb - 1]'(by omega) :: lb.drop nb:=by
  have:=za2 (l:=lb) (i:=nb - 1) (by omega)
  rwa [Nb h0] at this
 have hm:lb[nb - 1]'(by omega)∈lb.take nb:=by
  rw [La]
  exact ⟨nb - 1,by omega,rfl⟩
 refine ⟨?_,Bv.mpr ⟨m.srt,by simp,fun x hx y hy => ?_⟩,fun x hx => ?_⟩
 ·rw [hd]
  refine (m.perm.append_right _).trans ?_
  rw [At]
  refine D4 _ ?_
  exact Dn
 ·rw [A6.mp hy]
  exact (m.high x hx).2 _ hm
 ·rcases Ao.mp hx with z | z
  ·exact ⟨(m.high x z).1,fun y hy=>(m.high x z).2 y (zcl (by omega) hy)⟩
  ·rw [A6.mp z]
   exact ⟨ha,fun y hy=>zdw sb h0 h y (zcl (by omega) hy)⟩
theorem HI.moreA (m:HI rk la lb out na nb) (sa:Srt rk la) (h:na<=la.length):∀ {d p:Nat},p + d=na->(∀ i (h:i < la.length),p<=i->i < na->∀ y∈lb.take nb,rk y<=rk la[i])->HI rk la lb (out ++ ((la.drop p).take d).reverse) p nb
 | 0,p,e,_=>by
  have:p=na:=by omega
  subst this
  simpa using m
 | d + 1,p,e,hy=>by
  have m1:=HI.moreA m sa h (d:=d) (p:=p + 1) (by omega) fun i hi h1 h2=>hy i hi (by omega) h2
  have m2:=m1.pushA sa (by omega) (by omega) (hy (p + 1 - 1) (by omega) (by omega) (by omega))
  rw [za2 (show p < la.length by omega),Gf,Nf,<- At]
  simpa only [Nc] using m2
theorem HI.moreB (m:HI rk la lb out na nb) (sb:Srt rk lb) (h:nb<=lb.length):∀ {d p:Nat},p + d=nb->(∀ i (h:i < lb.length),p<=i->i < nb->∀ y∈la.take na,rk y<=rk lb[i])->HI rk la lb (out ++ ((lb.drop p).take d).reverse) na p
 | 0,p,e,_=>by
  have:p=nb:=by omega
  subst this
  simpa using m
 | d + 1,p,e,hy=>by
  have m1:=HI.moreB m sb h (d:=d) (p:=p + 1) (by omega) fun i hi h1 h2=>hy i hi (by omega) h2
  have m2:=m1.pushB sb (by omega) (by omega) (hy (p + 1 - 1) (by omega) (by omega) (by omega))
  rw [za2 (show p < lb.length by omega),Gf,Nf,<- At]
  simpa only [Nc] using m2
theorem HI.rev (m:HI rk la lb out na nb):Srt rk out.reverse:=List.pairwise_reverse.mpr m.srt
theorem HI.restAB (m:HI rk la lb out na nb) (sa:Srt rk la) (sb:Srt rk lb) (h:∀ x∈la.take na,∀ y∈lb.take nb,rk x<=rk y):MFin rk la lb (la.take na ++ lb.take nb ++ out.reverse):=by
 refine ⟨?_,Bv.mpr ⟨Bv.mpr ⟨Bg (Fm _ _) sa,Bg (Fm _ _) sb,h⟩,m.rev,fun x hx y hy => ?_⟩⟩
 ·refine (D4 _ ((Nd out).trans m.perm)).trans ?_
  have e:la.take na ++ lb.take nb ++ (la.drop na ++ lb.drop nb)=la.take na ++ (lb.take nb ++ la.drop na) ++ lb.drop nb:=by simp
  rw [e]
  refine (Gz _ (D4 _ Dn)).trans ?_
  rw [<- At,C5,At,C5]
 ·have:=m.high y (Nq.mp hy)
  rcases Ao.mp hx with z | z
  ·exact this.1 x z
  ·exact this.2 x z
theorem HI.restBA (m:HI rk la lb out na nb) (sa:Srt rk la) (sb:Srt rk lb) (h:∀ x∈lb.take nb,∀ y∈la.take na,rk x<=rk y):MFin rk la lb (lb.take nb ++ la.take na ++ out.reverse):=by
 refine ⟨?_,Bv.mpr ⟨Bv.mpr ⟨Bg (Fm _ _) sb,Bg (Fm _ _) sa,h⟩,m.rev,fun x hx y hy => ?_⟩⟩
 ·refine (D4 _ ((Nd out).trans m.perm)).trans ?_
  have e:lb.take nb ++ la.take na ++ (la.drop na ++ lb.drop nb)=lb.take nb ++ la ++ lb.drop nb:=by
   have:=C5 na la
   rw [At,<- At (la.take na),this,<- At]
  rw [e]
  refine (Gz _ Dn).trans ?_
  rw [At,C5]
 ·have:=m.high y (Nq.mp hy)
  rcases Ao.mp hx with z | z
  ·exact this.2 x z
  ·exact this.1 x z
end
theorem zaz (a:Array Aw) (n:Nat):(a.extract 0 n).toList=a.toList.take n:=by
 rw [zaM,O9,P9]
noncomputable abbrev mergeHiS:Array Keyed->Array Keyed->StateT SortSt Sem (Array Keyed):=sortPriv% PySem.Builtin.mergeHi
section
variable {prog:An} {w:B8} {A:B1} {E:A1->A4->Prop} {s:A4} {kd:F5} {S:Aw->Prop} {rk:Aw->Int}
theorem mergeHi_ok (C:Ranks prog w A E s kd S rk) {a b:Array Aw} {Q:Array Aw->By->Prop} {st:By} (ha:0 < a.size) (hb:0 < b.size) (sa:Srt rk a.toList) (sb:Srt rk b.toList) (Sa:∀ i (h:i < a.size),S a[i]) (Sb:∀ i (h:i < b.size),S b[i]) (h0:∀ y∈a.toList,rk b[0]<=rk y) (hl:∀ y∈b.toList,rk y<=rk (a[a.size - 1]'(by omega))) (hst:kindOf st=kd)
  (q:∀ res st',Like st st'->MFin rk a.toList b.toList res.toList->Q res st'):wpS (model prog w) A E s (mergeHiS a b) Q st:=by
 have la:a.toList.length=a.size:=As
 have lb:b.toList.length=b.size:=As
 have m0:HI rk a.toList b.toList [a[a.size - 1]'(by omega)] (a.size - 1) b.size:=by
  have mm:HI rk a.toList b.toList [] a.size b.size:=⟨by rw [<- la,<- lb]; simp,Ga,fun x hx=>by cases hx⟩
  have:=mm.pushA sa ha (by omega) (fun y hy=>by rw [zap a (by omega)]; exact hl y (Iz hy))
  rw [zap a (by omega)] at this
  exact this
 have firstB:∀ nb,nb=1->∀ na,∀ x∈b.toList.take nb,∀ y∈a.toList.take na,rk x<=rk y:=fun nb e na x hx y hy=>by
  subst e
  obtain ⟨j,hj,h1,e2⟩:=zbo hx
  have:j=0:=by omega
  subst this
  rw [<- e2,zap b hb]
  exact h0 y (Iz hy)
 have doneA:∀ {out:List Aw} {na nb:Nat},HI rk a.toList b.toList out na nb->na=0->MFin rk a.toList b.toList (a.toList.take na ++ b.toList.take nb ++ out.reverse):=fun m e=>by
  subst e
  exact m.restAB sa sb (fun x hx=>by simp at hx)
 have doneB:∀ {out:List Aw} {na nb:Nat},HI rk a.toList b.toList out na nb->nb=0->MFin rk a.toList b.toList (a.toList.take na ++ b.toList.take nb ++ out.reverse):=fun m e=>by
  subst e
  exact m.restAB sa sb (fun x _ y hy=>by simp at hy)
 refine Ak (Jp (Ft ⟨rfl,?_⟩))
 dsimp only
 refine Ak (zaD (by omega) ?_)
 refine zak (fun e1 => ?_) (fun e1 => ?_)
 ·have e1:a.size - 1=0:=by simpa using e1
  refine Ap (q _ st (Like.refl st) ?_)
  have:=doneA m0 e1
  simp only [B0,Cj,zaz]
  exact this
 refine zak (fun e2 => ?_) (fun e2 => ?_)
 ·have e2:b.size=1:=by simpa using e2
  refine Ap (q _ st (Like.refl st) ?_)
  have:=m0.restBA sa sb (fun x hx y hy=>firstB _ e2 _ x hx y hy)
  simp only [B0,Cj,zaz]
  exact this
 have e1:¬ a.size - 1=0:=by simpa using e1
 have e2:¬ b.size=1:=by simpa using e2
 refine Ak (Hv ?_)
 refine Ak (E6 (Cw (I:=fun x c st'=>Like st st'/\∃ (out:Array Aw) (na nb g:Nat),c=(none,na,nb,out,g)/\HI rk a.toList b.toList out.toList na nb/\0 < na/\na<=a.size/\1 < nb/\nb<=b.size/\x + na + nb < a.size + b.size) (Q:=fun c st'=>Like st st'/\∃ res:Array Aw,c.1=some res/\MFin rk a.toList b.toList res.toList) ?step ?fin ⟨Like.refl st,_,_,_,_,rfl,m0,by omega,by omega,by omega,by omega,by omega⟩) ?post)
 case fin =>
  rintro c st' ⟨_,out,na,nb,g,rfl,_,h1,h2,h3,h4,h5⟩
  omega
 case post =>
  rintro ⟨r,na,nb,out,g⟩ st' ⟨hL,res,e,hf⟩
  dsimp only at e ⊢
  subst e
  exact Ap (q res st' hL hf)
 case step =>
  rintro x c st1 _ hx ⟨hL,out,na,nb,g,rfl,m,h1,h1',h2,h2',h3⟩
  dsimp only
  have hk1:kindOf st1=kd:=hL.1.trans hst
  refine Ak (E6 (Cw (I:=fun y c st'=>st'=st1/\∃ (out:Array Aw) (na nb ac bc:Nat),c=(none,na,nb,out,ac,bc)/\HI rk a.toList b.toList out.toList na nb/\0 < na/\na<=a.size/\1 < nb/\nb<=b.size/\x + na + nb < a.size + b.size/\(0 < y->x + 1 + na + nb < a.size + b.size)) (Q:=fun c st'=>st'=st1/\((∃ res:Array Aw,c.1=some res/\MFin rk a.toList b.toList res.toList)\/∃ (out:Array Aw) (na nb ac bc:Nat),c=(none,na,nb,out,ac,bc)/\HI rk a.toList b.toList out.toList na nb/\0 < na/\na<=a.size/\1 < nb/\nb<=b.size/\x + 1 + na + nb < a.size + b.size)) ?step ?fin ⟨rfl,_,_,_,_,_,rfl,m,h1,h1',h2,h2',h3,by omega⟩) ?post)
  case fin =>
   rintro c st' ⟨rfl,out,na,nb,ac,bc,rfl,m,h1,h1',h2,h2',h3,h4⟩
   exact ⟨rfl,.inr ⟨out,na,nb,ac,bc,rfl,m,h1,h1',h2,h2',h4 (by omega)⟩⟩
  case step =>
   rintro y c st' _ hy ⟨rfl,out,na,nb,ac,bc,rfl,m,h1,h1',h2,h2',h3,h4⟩
   dsimp only
   have ib:nb - 1 < b.size:=by omega
   have ia:na - 1 < a.size:=by omega
   refine Ak (zaD ib (Ak (zaD ia (Ak (C.ask (Sb _ ib) (Sa _ ia) hk1 ?_)))))
   dsimp only
   refine zak (fun hw => ?_) (fun hw => ?_)
   ·have hw:rk b[nb - 1] < rk a[na - 1]:=by simpa using hw
    have m':=m.pushA sa h1 (by omega) (fun y hy=>by
     have:=zdw sb (show 0 < nb by omega) (by omega) y hy
     rw [zap b ib] at this
     rw [zap a ia]
     omega)
    rw [zap a ia,<- Cc] at m'
    refine Ak (zaD ia ?_)
    refine zak (fun e => ?_) (fun e => ?_)
    ·have e:na - 1=0:=by simpa using e
     refine Ap ⟨rfl,.inl ⟨_,rfl,?_⟩⟩
     have:=doneA m' e
     simp only [B0,Cj,zaz]
     exact this
    have e:¬ na - 1=0:=by simpa using e
    refine zak (fun _=>Ap ⟨rfl,.inr ⟨_,_,_,_,_,rfl,m',by omega,by omega,h2,h2',by omega⟩⟩) (fun _=>Ap ⟨rfl,_,_,_,_,_,rfl,m',by omega,by omega,h2,h2',by omega,by omega⟩)
   ·have hw:rk a[na - 1]<=rk b[nb - 1]:=by simpa using hw
    have m':=m.pushB sb (by omega) (by omega) (fun y hy=>by
     have:=zdw sa h1 (by omega) y hy
     rw [zap a ia] at this
     rw [zap b ib]
     omega)
    rw [zap b ib,<- Cc] at m'
    refine Ak (zaD ib ?_)
    refine zak (fun e => ?_) (fun e => ?_)
    ·have e:nb - 1=1:=by simpa using e
     refine Ap ⟨rfl,.inl ⟨_,rfl,?_⟩⟩
     have:=m'.restBA sa sb (fun x hx y hy=>firstB _ e _ x hx y hy)
     simp only [B0,Cj,zaz]
     exact this
    have e:¬ nb - 1=1:=by simpa using e
    refine zak (fun _=>Ap ⟨rfl,.inr ⟨_,_,_,_,_,rfl,m',h1,h1',by omega,by omega,by omega⟩⟩) (fun _=>Ap ⟨rfl,_,_,_,_,_,rfl,m',h1,h1',by omega,by omega,by omega,by omega⟩)
  case post =>
   rintro ⟨r,na,nb,out,ac,bc⟩ st' ⟨rfl,hres | ⟨out',na',nb',ac',bc',e,m,h1,h1',h2,h2',h3⟩⟩
   ·obtain ⟨res,e,hf⟩:=hres
    dsimp only at e ⊢
    subst e
    exact Ap ⟨hL,res,rfl,hf⟩
   cases e
   dsimp only
   refine Ak (Jp (Ft ⟨rfl,?_⟩))
   refine Ak (E6 (Cw (I:=fun y c st'=>Like st st'/\∃ (out:Array Aw) (na nb g ac bc:Nat),c=(none,na,nb,out,g,ac,bc)/\HI rk a.toList b.toList out.toList na nb/\0 < na/\na<=a.size/\1 < nb/\nb<=b.size/\x + 1 + na + nb < a.size + b.size) (Q:=fun c st'=>Like st st'/\((∃ res:Array Aw,c.1=some res/\MFin rk a.toList b.toList res.toList)\/∃ (out:Array Aw) (na nb g ac bc:Nat),c=(none,na,nb,out,g,ac,bc)/\HI rk a.toList b.toList out.toList na nb/\0 < na/\na<=a.size/\1 < nb/\nb<=b.size/\x + 1 + na + nb < a.size + b.size)) ?step ?fin ⟨hL,_,_,_,_,_,_,rfl,m,h1,h1',h2,h2',h3⟩) ?post)
   case fin =>
    rintro c st' ⟨hL2,h⟩
    exact ⟨hL2,.inr h⟩
   case post =>
    rintro ⟨r,na,nb,out,g,ac,bc⟩ st2 ⟨hL2,hres | ⟨out',na',nb',g',ac',bc',e,m,h1,h1',h2,h2',h3⟩⟩
    ·obtain ⟨res,e,hf⟩:=hres
     dsimp only at e ⊢
     subst e
     exact Ap ⟨hL2,res,rfl,hf⟩
    cases e
    dsimp only
    exact Ak (zba ⟨rfl,rfl,rfl,rfl⟩ fun st3 hL3=>Ap ⟨hL2.trans hL3,_,_,_,_,rfl,m,h1,h1',h2,h2',by omega⟩)
   case step =>
    rintro y c st2 _ hy ⟨hL2,out,na,nb,g,ac,bc,rfl,m,h1,h1',h2,h2',h3⟩
    dsimp only
    have ib:nb - 1 < b.size:=by omega
    refine zak (fun _=>Ak (zba ⟨rfl,rfl,rfl,rfl⟩ fun st3 hL3 => ?_)) (fun _=>Ak (zba ⟨rfl,rfl,rfl,rfl⟩ fun st3 hL3 => ?_))
    all_goals
     have hL4:=hL2.trans hL3
     have hk3:kindOf st3=kd:=hL4.1.trans hst
     refine Ak (zaD ib ?_)
     refine Ak (zbB C (Sb _ ib) (fun i h _ _=>Sa i h) (by omega) (by omega) (zgL sa (by omega)) hk3 fun p j1 j2 j3 => ?_)
     dsimp only
     simp only [Bp,if_false,Mb] at j2 j3
     have mA:=m.moreA sa (by omega) (d:=na - p) (p:=p) (by omega) (fun i hi g1 g2 y hy=>by
      have h5:=j3 i g1 g2
      rw [zaW (by omega)] at h5
      have h6:=zdw sb (show 0 < nb by omega) (by omega) y hy
      rw [zap b ib] at h6
      rw [zap a (by omega)]
      omega)
     have leB:∀ y∈a.toList.take p,rk y<=rk b[nb - 1]:=fun y hy=>by
      obtain ⟨j,hj,g1,e⟩:=zbo hy
      have h5:=j2 j g1
      rw [zaW (by omega)] at h5
      rw [<- e,zap a (by omega)]
      exact h5
     rw [<- zaM,<- Cj,<- B0] at mA
     refine zak (fun k0 => ?_) (fun k0 => ?_)
     rotate_left
     have mA:=m
     have h12:=h1
     have h12':=h1'
     have h32:=h3
     have e7:p=na:=by omega
     rw [e7] at leB ⊢
     generalize out=out2 at mA ⊢
     generalize na=na2 at mA leB h12 h12' h32 ⊢
     rotate_left
     refine zak (fun e => ?_) (fun e => ?_)
     ·have e:p=0:=by simpa using e
      refine Ap ⟨hL4,.inl ⟨_,rfl,?_⟩⟩
      have:=doneA mA e
      simp only [B0,Cj,zaz] at this ⊢
      exact this
     have e5:¬ p=0:=by simpa using e
     have h12:0 < p:=by omega
     have h12':p<=a.size:=by omega
     have h32:x + 1 + p + nb < a.size + b.size:=by omega
     generalize out ++ (a.extract p na).reverse=out2 at mA ⊢
     generalize na - p=kk at k0 ⊢
     generalize p=na2 at mA leB h12 h12' h32 ⊢
    all_goals
     have mB:=mA.pushB sb (by omega) (by omega) (fun y hy=>by rw [zap b ib]; exact leB y hy)
     rw [zap b ib,<- Cc] at mB
     refine Ak (zaD ib ?_)
     refine zak (fun e => ?_) (fun e => ?_)
     ·have e:nb - 1=1:=by simpa using e
      refine Ap ⟨hL4,.inl ⟨_,rfl,?_⟩⟩
      have:=mB.restBA sa sb (fun x hx y hy=>firstB _ e _ x hx y hy)
      simp only [B0,Cj,zaz]
      exact this
     have e8:¬ nb - 1=1:=by simpa using e
     have hia2:na2 - 1 < a.size:=by omega
     refine Ak (zaD hia2 ?_)
     refine Ak (zbB C (Sa _ hia2) (fun i h _ _=>Sb i h) (by omega) (by omega) (zgL sb (by omega)) hk3 fun p2 j4 j5 j6 => ?_)
     dsimp only
     simp only [if_true,Mb] at j5 j6
     have mC:=mB.moreB sb (by omega) (d:=nb - 1 - p2) (p:=p2) (by omega) (fun i hi g1 g2 y hy=>by
      have h5:=j6 i g1 g2
      rw [zaW (by omega)] at h5
      have h6:=zdw sa h12 (by omega) y hy
      rw [zap a hia2] at h6
      rw [zap b (by omega)]
      omega)
     have leA:∀ y∈b.toList.take p2,rk y<=rk a[na2 - 1]:=fun y hy=>by
      obtain ⟨j,hj,g1,e⟩:=zbo hy
      have h5:=j5 j g1
      rw [zaW (by omega)] at h5
      rw [<- e,zap b (by omega)]
      omega
     rw [<- zaM,<- Cj,<- B0] at mC
     refine zak (fun k1 => ?_) (fun k1 => ?_)
     rotate_left
     have mC:=mB
     have h22:1 < nb - 1:=by omega
     have h22':nb - 1<=b.size:=by omega
     have h33:x + 1 + na2 + (nb - 1) < a.size + b.size:=by omega
     have e7:p2=nb - 1:=by omega
     rw [e7] at leA ⊢
     generalize out2.push b[nb - 1]=out3 at mC ⊢
     generalize nb - 1=nb2 at mC leA h22 h22' h33 ⊢
     rotate_left
     refine zak (fun e => ?_) (fun e => ?_)
     ·have e:p2=1:=by simpa using e
      refine Ap ⟨hL4,.inl ⟨_,rfl,?_⟩⟩
      have:=mC.restBA sa sb (fun x hx y hy=>firstB _ e _ x hx y hy)
      simp only [B0,Cj,zaz] at this ⊢
      exact this
     have e5:¬ p2=1:=by simpa using e
     refine zak (fun e => ?_) (fun e => ?_)
     ·have e:p2=0:=by simpa using e
      refine Ap ⟨hL4,.inl ⟨_,rfl,?_⟩⟩
      have:=doneB mC e
      simp only [B0,Cj,zaz] at this ⊢
      exact this
     have e6:¬ p2=0:=by simpa using e
     have h22:1 < p2:=by omega
     have h22':p2<=b.size:=by omega
     have h33:x + 1 + na2 + p2 < a.size + b.size:=by omega
     generalize out2.push b[nb - 1] ++ (b.extract p2 (nb - 1)).reverse=out3 at mC ⊢
     generalize nb - 1 - p2=kk2 at k1 ⊢
     generalize p2=nb2 at mC leA h22 h22' h33 ⊢
    all_goals
     have mD:=mC.pushA sa h12 (by omega) (fun y hy=>by rw [zap a hia2]; exact leA y hy)
     rw [zap a hia2,<- Cc] at mD
     refine Ak (zaD hia2 ?_)
     refine zak (fun e => ?_) (fun e => ?_)
     ·have e:na2 - 1=0:=by simpa using e
      refine Ap ⟨hL4,.inl ⟨_,rfl,?_⟩⟩
      have:=doneA mD e
      simp only [B0,Cj,zaz] at this ⊢
      exact this
     have e9:¬ na2 - 1=0:=by simpa using e
     exact zak (fun _=>Ap ⟨hL4,.inr ⟨_,_,_,_,_,_,rfl,mD,by omega,by omega,h22,h22',by omega⟩⟩) (fun _=>Ap ⟨hL4,_,_,_,_,_,_,rfl,mD,by omega,by omega,h22,h22',by omega⟩)
end
theorem za1 {rk:Aw->Int} {xs ys:Array Aw} {i j:Nat} (h:xs[i]?=ys[j]?):kAt rk xs i=kAt rk ys j:=by unfold kAt; rw [h]
theorem zcC {rk:Aw->Int} {xs:Array Aw} {i j:Nat} (hj:j<=xs.size) (k:Nat):kAt rk (mirror xs i j ((j - i) / 2)) k=if i<=k/\k < j then kAt rk xs (i + j - 1 - k) else kAt rk xs k:=by
 have e:=O4 (i:=i) hj k
 by_cases h:i<=k/\k < j
 ·rw [if_pos h] at e ⊢; exact za1 e
 ·rw [if_neg h] at e ⊢; exact za1 e
theorem zbq {rk:Aw->Int} {xs:Array Aw} {i j:Nat} (hj:j<=xs.size) (h:∀ k,i<=k->k < j->kAt rk xs k=kAt rk xs (j - 1)) (k:Nat):kAt rk (mirror xs i j ((j - i) / 2)) k=kAt rk xs k:=by
 rw [zcC hj]
 by_cases e:i<=k/\k < j
 ·rw [if_pos e,h _ (by omega) (by omega),h k e.1 e.2]
 ·rw [if_neg e]
theorem zdI {rk:Aw->Int} {xs:Array Aw} {src d:Nat} (hs:src < xs.size) (hd:d<=src) (k:Nat):kAt rk (bubble xs src d) k=if k=src - d then kAt rk xs src else if src - d < k/\k<=src then kAt rk xs (k - 1) else kAt rk xs k:=by
 have e:=Pl hs d hd k
 by_cases h:k=src - d
 ·rw [if_pos h] at e ⊢; exact za1 e
 ·rw [if_neg h] at e ⊢
  by_cases h2:src - d < k/\k<=src
  ·rw [if_pos h2] at e ⊢; exact za1 e
  ·rw [if_neg h2] at e ⊢; exact za1 e
structure Chg (lo hi:Nat) (st st':By):Prop where
 kind:kindOf st'=kindOf st
 pend:pendingOf st'=pendingOf st
 fail:failedOf st'=failedOf st
 perm:(arrOf st').Perm (arrOf st)
 out:∀ i,(i < lo\/hi<=i)->(arrOf st')[i]?=(arrOf st)[i]?
theorem Chg.refl {lo hi:Nat} (st:By):Chg lo hi st st:=⟨rfl,rfl,rfl,He _,fun _ _=>rfl⟩
theorem Chg.size {lo hi:Nat} {st st':By} (h:Chg lo hi st st'):(arrOf st').size=(arrOf st).size:=h.perm.size_eq
theorem Chg.trans {lo hi:Nat} {a b c:By} (h:Chg lo hi a b) (k:Chg lo hi b c):Chg lo hi a c:=⟨k.kind.trans h.kind,k.pend.trans h.pend,k.fail.trans h.fail,k.perm.trans h.perm,fun i hi=>(k.out i hi).trans (h.out i hi)⟩
theorem Chg.wide {lo hi lo' hi':Nat} {a b:By} (h:Chg lo hi a b) (h1:lo'<=lo) (h2:hi<=hi'):Chg lo' hi' a b:=⟨h.kind,h.pend,h.fail,h.perm,fun i hi=>h.out i (by omega)⟩
theorem Chg.mirror {lo hi i j:Nat} {st st':By} (h:Chg lo hi st st') (hi':lo<=i) (hj:j<=hi) (hs:j<=(arrOf st').size):Chg lo hi st (setArr st' (mirror (arrOf st') i j ((j - i) / 2))) :=
 h.trans ⟨rfl,rfl,rfl,mirror_perm _ _ _ _,fun k hk=>by
  show (Q4 (arrOf st') i j ((j - i) / 2))[k]?=_
  rw [O4 hs,if_neg (by omega)]⟩
theorem Chg.bubble {lo hi src d:Nat} {st st':By} (h:Chg lo hi st st') (h1:lo + d<=src) (h2:src < hi) (hs:src < (arrOf st').size):Chg lo hi st (setArr st' (bubble (arrOf st') src d)) :=
 h.trans ⟨rfl,rfl,rfl,bubble_perm _ _ _,fun k hk=>by
  show (Q6 (arrOf st') src d)[k]?=_
  rw [Pl hs _ (by omega),if_neg (by omega),if_neg (by omega)]⟩
theorem zb4 {S:Aw->Prop} {a b:Array Aw} (p:b.Perm a) (h:∀ x∈a.toList,S x):∀ x∈b.toList,S x:=fun x hx=>h x ((Gk.mp p).mem_iff.mp hx)
theorem zgK {S:Aw->Prop} {a:Array Aw} (h:∀ x∈a.toList,S x) (i:Nat) (hi:i < a.size):S a[i]:=h _ (by simp)
theorem Up2.more {rk:Aw->Int} {arr:Array Aw} {lo hi:Nat} (u:Up2 rk arr lo hi) (h:lo < hi) (e:kAt rk arr (hi - 1)<=kAt rk arr hi):Up2 rk arr lo (hi + 1):=fun i j h1 h2 h3=>by
 by_cases ej:j=hi
 ·by_cases ei:i=hi
  ·rw [ei,ej]; exact Dk _
  ·have:=u i (hi - 1) h1 (by omega) (by omega)
   rw [ej]; omega
 ·exact u i j h1 h2 (by omega)
noncomputable def Dn2 (rk:Aw->Int) (arr:Array Aw) (lo hi:Nat):Prop:=∀ i j,lo<=i->i<=j->j < hi->kAt rk arr j<=kAt rk arr i
theorem Dn2.more {rk:Aw->Int} {arr:Array Aw} {lo hi:Nat} (u:Dn2 rk arr lo hi) (h:lo < hi) (e:kAt rk arr hi<=kAt rk arr (hi - 1)):Dn2 rk arr lo (hi + 1):=fun i j h1 h2 h3=>by
 by_cases ej:j=hi
 ·by_cases ei:i=hi
  ·rw [ei,ej]; exact Dk _
  ·have:=u i (hi - 1) h1 (by omega) (by omega)
   rw [ej]; omega
 ·exact u i j h1 h2 (by omega)
theorem Dn2.like {rk:Aw->Int} {arr arr':Array Aw} {lo hi:Nat} (u:Dn2 rk arr lo hi) (h:∀ k,kAt rk arr' k=kAt rk arr k):Dn2 rk arr' lo hi:=fun i j h1 h2 h3=>by
 rw [h,h]; exact u i j h1 h2 h3
section
variable {prog:An} {w:B8} {A:B1} {E:A1->A4->Prop} {s:A4} {kd:F5} {S:Aw->Prop} {rk:Aw->Int}
theorem zgm (C:Ranks prog w A E s kd S rk) {i j:Nat} {st:By} {Q:Option Bool->By->Prop} (hS:∀ x∈(arrOf st).toList,S x) (hk:kindOf st=kd) (hi:i < (arrOf st).size) (hj:j < (arrOf st).size) (q:Q (some (decide (kAt rk (arrOf st) i < kAt rk (arrOf st) j))) st):wpS (model prog w) A E s (ltAt' i j) Q st:=by
 rw [ltAt'_eq]
 refine Ak (Hv (Ak (zaD hi (Ak (zaD hj (C.ask (zgK hS i hi) (zgK hS j hj) hk ?_))))))
 rw [zaW hi,zaW hj] at q
 exact q
theorem zgJ (C:Ranks prog w A E s kd S rk) {st:By} {lo a nrem:Nat} (hS:∀ x∈(arrOf st).toList,S x) (hk:kindOf st=kd) (hn:lo + nrem<=(arrOf st).size) (ha:1<=a) (han:a<=nrem) (u:Up2 rk (arrOf st) lo (lo + a)) {F:Nat->Option (Option Nat)×Nat->StateT By Sem (ForInStep (Option (Option Nat)×Nat))}
  (f:∀ x n R,lo + n < (arrOf st).size->1<=n->(if kAt rk (arrOf st) (lo + n) < kAt rk (arrOf st) (lo + n - 1) then R (Rx (none,n)) st else R (Dr (none,n + 1)) st)->wpS (model prog w) A E s (F x (none,n)) R st) :
  wpS (model prog w) A E s (forIn [a:nrem] (none,a) F) (fun c st'=>st'=st/\∃ n,c=(none,n)/\a<=n/\n<=nrem/\Up2 rk (arrOf st) lo (lo + n)/\(n=nrem\/kAt rk (arrOf st) (lo + n) < kAt rk (arrOf st) (lo + n - 1))) st:=by
 refine Cw (I:=fun x c st'=>st'=st/\c=(none,x)/\Up2 rk (arrOf st) lo (lo + x)) ?step ?fin ⟨rfl,rfl,u⟩
 case fin =>
  rintro c st' ⟨rfl,rfl,u'⟩
  rw [show max a nrem=nrem by omega] at u' ⊢
  exact ⟨rfl,nrem,rfl,han,Ad _,u',.inl rfl⟩
 case step =>
  rintro x c st' hax hxn ⟨rfl,rfl,u'⟩
  refine f x x _ (by omega) (by omega) ?_
  by_cases hl:kAt rk (arrOf st') (lo + x) < kAt rk (arrOf st') (lo + x - 1)
  ·rw [if_pos hl]
   exact ⟨rfl,x,rfl,hax,by omega,u',.inr hl⟩
  ·rw [if_neg hl]
   exact ⟨rfl,rfl,by have:=u'.more (by omega) (by omega); rwa [show lo + x + 1=lo + (x + 1) by omega] at this⟩
theorem countRun_ok (C:Ranks prog w A E s kd S rk) {st:By} {lo nrem:Nat} {Q:Option Nat->By->Prop} (hS:∀ x∈(arrOf st).toList,S x) (hk:kindOf st=kd) (hn:lo + nrem<=(arrOf st).size) (h1:1<=nrem)
  (q:∀ m st',Chg lo (lo + nrem) st st'->1<=m->m<=nrem->Up2 rk (arrOf st') lo (lo + m)->Q (some m) st'):wpS (model prog w) A E s (countRun' lo nrem) Q st:=by
 rw [countRun'_eq]
 have asc1:∀ {st1:By},Chg lo (lo + nrem) st st1->∀ {i j:Nat} {R:Option Bool->By->Prop},i < (arrOf st).size->j < (arrOf st).size->R (some (decide (kAt rk (arrOf st1) i < kAt rk (arrOf st1) j))) st1->wpS (model prog w) A E s (ltAt' i j) R st1:=fun {st1} c i j R hi hj r =>
  zgm C (zb4 c.perm hS) (c.kind.trans hk) (by rw [c.size]; exact hi) (by rw [c.size]; exact hj) r
 refine Ak (E6 (zgJ C hS hk hn (Ad 1) h1 (fun i j a b c=>by rw [show i=j by omega]; exact Dk _) fun x n R b1 b2 r => ?_) ?_)
 ·refine Ak (asc1 (Chg.refl st) (by omega) (by omega) ?_)
  dsimp only
  refine zak (fun e => ?_) (fun e => ?_)
  ·rw [if_pos (by simpa using e)] at r; exact Ap r
  ·rw [if_neg (by simpa using e)] at r; exact Ap r
 rintro ⟨r,n⟩ st0 ⟨e0,n',e,hn1,hn2,u,hor⟩
 cases e
 rw [e0]
 clear e0 st0
 dsimp only
 refine zak (fun e=>Ap (q n _ (Chg.refl _) hn1 hn2 u)) (fun e => ?_)
 have e:¬ n=nrem:=by simpa using e
 have hlt:=hor.resolve_left e
 refine zak (fun g => ?_) (fun g => ?_)
 refine Ak (asc1 (Chg.refl st) (by omega) (by omega) ?_)
 dsimp only
 refine zak (fun _=>Ap (q n _ (Chg.refl _) hn1 hn2 u)) (fun ng => ?_)
 have ng:kAt rk (arrOf st) (lo + n - 1)<=kAt rk (arrOf st) lo:=by simpa using ng
 have all:∀ k,lo<=k->k < lo + n->kAt rk (arrOf st) k=kAt rk (arrOf st) (lo + n - 1):=fun k a b=>by
  have a1:=u lo k (Ad _) a b
  have a2:=u k (lo + n - 1) a (by omega) (by omega)
  omega
 refine Ak (Le ?_)
 have c1:=(Chg.refl (lo:=lo) (hi:=lo + nrem) st).mirror (i:=lo) (j:=lo + n) (Ad _) (by omega) (by omega)
 have d1:Dn2 rk (arrOf (setArr st (mirror (arrOf st) lo (lo + n) ((lo + n - lo) / 2)))) lo (lo + (n + 1)):=by
  refine Dn2.like (arr:=arrOf st) ?_ (zbq (by omega) all)
  have d0:Dn2 rk (arrOf st) lo (lo + n):=fun i j a b c=>by rw [all i a (by omega),all j (by omega) c]; exact Dk _
  exact d0.more (by omega) (by omega)
 generalize setArr st (mirror (arrOf st) lo (lo + n) ((lo + n - lo) / 2))=st1 at c1 d1 ⊢
 rotate_left
 have c1:=Chg.refl (lo:=lo) (hi:=lo + nrem) st
 have d1:Dn2 rk (arrOf st) lo (lo + (n + 1)):=by
  have d0:Dn2 rk (arrOf st) lo (lo + n):=fun i j a b c=>by rw [show i=j by omega]; exact Dk _
  exact d0.more (by omega) (by omega)
 obtain ⟨st1,hh⟩:∃ st1,st1=st:=⟨_,rfl⟩
 have c1:Chg lo (lo + nrem) st st1:=by rw [hh]; exact c1
 have d1:Dn2 rk (arrOf st1) lo (lo + (n + 1)):=by rw [hh]; exact d1
 rw [<- hh]
 clear hh
 all_goals
  refine Ak (Jp (Ft ⟨rfl,?_⟩))
  refine Ak (E6 (Cw (I:=fun x c st'=>∃ neq,c=(none,x,neq)/\Chg lo (lo + nrem) st st'/\Dn2 rk (arrOf st') lo (lo + x)/\neq + 1<=x/\∀ i,lo + x - (neq + 1)<=i->i < lo + x->kAt rk (arrOf st') i=kAt rk (arrOf st') (lo + x - 1))
   (Q:=fun c st'=>∃ m neq,c=(none,m,neq)/\Chg lo (lo + nrem) st st'/\n + 1<=m/\m<=nrem/\Dn2 rk (arrOf st') lo (lo + m)/\neq + 1<=m/\∀ i,lo + m - (neq + 1)<=i->i < lo + m->kAt rk (arrOf st') i=kAt rk (arrOf st') (lo + m - 1)) ?step ?fin ⟨0,rfl,c1,d1,by omega,fun i a b=>by congr 1; omega⟩) ?post)
  case fin =>
   rintro c st' ⟨neq,rfl,a1,a2,a3,a4⟩
   rw [show max (n + 1) nrem=nrem by omega] at a2 a3 a4 ⊢
   exact ⟨nrem,neq,rfl,a1,by omega,Ad _,a2,a3,a4⟩
  case step =>
   rintro x c st' hx1 hx2 ⟨neq,rfl,a1,a2,a3,a4⟩
   dsimp only
   have sz:=a1.size
   refine Ak (asc1 a1 (by omega) (by omega) ?_)
   dsimp only
   refine zak (fun e1 => ?_) (fun e1 => ?_)
   ·have e1:kAt rk (arrOf st') (lo + x) < kAt rk (arrOf st') (lo + x - 1):=by simpa using e1
    have d2:Dn2 rk (arrOf st') lo (lo + (x + 1)):=a2.more (by omega) (by omega)
    refine zak (fun e2=>Ak (Le (Ap ?_))) (fun e2=>Ap ?_)
    ·exact ⟨0,rfl,a1.mirror (by omega) (by omega) (by omega),d2.like (zbq (by omega) a4),by omega,fun i a b=>by congr 1; omega⟩
    ·exact ⟨0,rfl,a1,d2,by omega,fun i a b=>by congr 1; omega⟩
   ·have e1:kAt rk (arrOf st') (lo + x - 1)<=kAt rk (arrOf st') (lo + x):=by simpa using e1
    refine Ak (asc1 a1 (by omega) (by omega) ?_)
    dsimp only
    refine zak (fun e2=>Ap ?_) (fun e2=>Ap ?_)
    ·exact ⟨x,neq,rfl,a1,hx1,by omega,a2,a3,a4⟩
    ·have e2:kAt rk (arrOf st') (lo + x)<=kAt rk (arrOf st') (lo + x - 1):=by simpa using e2
     refine ⟨neq + 1,rfl,a1,a2.more (by omega) e2,by omega,fun i a b => ?_⟩
     rw [show lo + (x + 1) - 1=lo + x by omega]
     by_cases ei:i=lo + x
     ·rw [ei]
     ·rw [a4 i (by omega) (by omega)]; omega
  case post =>
   rintro ⟨r,m,neq⟩ st' ⟨m',neq',e2,a1,am,am2,a2,a3,a4⟩
   cases e2
   dsimp only
   have sz:=a1.size
   refine zak (fun g2 => ?_) (fun g2 => ?_)
   refine Ak (Le ?_)
   have a5:=a1.mirror (i:=lo + m - (neq + 1)) (j:=lo + m) (by omega) (by omega) (by omega)
   have a6:Dn2 rk (arrOf (setArr st' (mirror (arrOf st') (lo + m - (neq + 1)) (lo + m) ((lo + m - (lo + m - (neq + 1))) / 2)))) lo (lo + m):=a2.like (zbq (by omega) a4)
   generalize setArr st' (mirror (arrOf st') (lo + m - (neq + 1)) (lo + m) ((lo + m - (lo + m - (neq + 1))) / 2))=st2 at a5 a6 ⊢
   rotate_left
   have a5:=a1
   have a6:=a2
   clear a1 a2 a3 a4
   generalize st'=st2 at a5 a6 ⊢
   all_goals
    have sz2:=a5.size
    have a7:=a5.mirror (i:=lo) (j:=lo + m) (Ad _) (by omega) (by omega)
    have a8:Up2 rk (arrOf (setArr st2 (mirror (arrOf st2) lo (lo + m) ((lo + m - lo) / 2)))) lo (lo + m):=fun i j b1 b2 b3=>by
     show kAt rk (mirror (arrOf st2) lo (lo + m) ((lo + m - lo) / 2)) i<=kAt rk (mirror (arrOf st2) lo (lo + m) ((lo + m - lo) / 2)) j
     rw [zcC (by omega),zcC (by omega),if_pos (by omega),if_pos (by omega)]
     exact a6 _ _ (by omega) (by omega) (by omega)
    refine Ak (Le ?_)
    generalize setArr st2 (mirror (arrOf st2) lo (lo + m) ((lo + m - lo) / 2))=st3 at a7 a8 ⊢
    have sz3:=a7.size
    refine Ak (E6 (zgJ C (zb4 a7.perm hS) (a7.kind.trans hk) (by omega) (show 1<=m by omega) (by omega) a8 fun x n R b1 b2 r => ?_) ?_)
    ·refine Ak (asc1 a7 (by omega) (by omega) ?_)
     dsimp only
     refine zak (fun e => ?_) (fun e => ?_)
     ·rw [if_pos (by simpa using e)] at r; exact Ap r
     ·rw [if_neg (by simpa using e)] at r; exact Ap r
    rintro ⟨r,k⟩ st4 ⟨e0,k',ek,b1,b2,b3,_⟩
    cases ek
    rw [e0]
    exact Ap (q k _ a7 (by omega) b2 b3)
theorem binSort_ok (C:Ranks prog w A E s kd S rk) {st:By} {lo n ok:Nat} {Q:Bool->By->Prop} (hS:∀ x∈(arrOf st).toList,S x) (hk:kindOf st=kd) (hn:lo + n<=(arrOf st).size) (hok:ok<=n) (u:Up2 rk (arrOf st) lo (lo + ok))
  (q:∀ st',Chg lo (lo + n) st st'->Up2 rk (arrOf st') lo (lo + n)->Q true st'):wpS (model prog w) A E s (binarySort' lo n ok) Q st:=by
 rw [binarySort'_eq]
 refine Ak (E6 (Cw (I:=fun k c st'=>c=(none,())/\Chg lo (lo + n) st st'/\Up2 rk (arrOf st') lo (lo + min k n)) (Q:=fun c st'=>c=(none,())/\Chg lo (lo + n) st st'/\Up2 rk (arrOf st') lo (lo + n)) ?step ?fin ?init) ?post)
 case post =>
  rintro c st' ⟨rfl,a,b⟩
  exact Ap (q st' a b)
 case init =>
  refine ⟨rfl,Chg.refl _,fun i j a b c => ?_⟩
  by_cases h1:ok=0
  ·rw [show i=j by omega]; exact Dk _
  ·exact u i j a b (by omega)
 case fin =>
  rintro c st' ⟨rfl,a,b⟩
  refine ⟨rfl,a,?_⟩
  rwa [show min (max (max ok 1) n) n=n by omega] at b
 case step =>
  rintro k c st' hk1 hk2 ⟨rfl,a,b⟩
  rw [show min k n=k by omega] at b
  have sz:=a.size
  refine Ak (E6 (Cw (I:=fun x c st''=>st''=st'/\∃ l r,c=(none,l,r)/\l<=r/\r<=k/\r - l<=k - x/\(∀ i,i < l->kAt rk (arrOf st') (lo + i)<=kAt rk (arrOf st') (lo + k))/\(∀ i,r<=i->i < k->kAt rk (arrOf st') (lo + k) < kAt rk (arrOf st') (lo + i)))
   (Q:=fun c st''=>st''=st'/\∃ l r,c=(none,l,r)/\l<=k/\(∀ i,i < l->kAt rk (arrOf st') (lo + i)<=kAt rk (arrOf st') (lo + k))/\(∀ i,l<=i->i < k->kAt rk (arrOf st') (lo + k) < kAt rk (arrOf st') (lo + i))) ?istep ?ifin ⟨rfl,0,k,rfl,by omega,by omega,by omega,fun i hi=>by omega,fun i h1 h2=>by omega⟩) ?ipost)
  case ifin =>
   rintro c st'' ⟨rfl,l,r,rfl,b1,b2,b3,b4,b5⟩
   exact ⟨rfl,l,r,rfl,by omega,b4,fun i h1 h2=>b5 i (by omega) h2⟩
  case istep =>
   rintro x c st'' _ hx ⟨rfl,l,r,rfl,b1,b2,b3,b4,b5⟩
   dsimp only
   refine zak (fun e=>Ap ⟨rfl,l,r,rfl,by omega,b4,fun i h1 h2=>b5 i (by omega) h2⟩) (fun e => ?_)
   refine Ak (zgm C (zb4 a.perm hS) (a.kind.trans hk) (by omega) (by omega) ?_)
   dsimp only
   refine zak (fun e1=>Ap ?_) (fun e1=>Ap ?_)
   ·have e1:kAt rk (arrOf st'') (lo + k) < kAt rk (arrOf st'') (lo + (l + r) / 2):=by simpa using e1
    refine ⟨rfl,l,(l + r) / 2,rfl,by omega,by omega,by omega,b4,fun i h1 h2 => ?_⟩
    have:=b (lo + (l + r) / 2) (lo + i) (by omega) (by omega) (by omega)
    omega
   ·have e1:kAt rk (arrOf st'') (lo + (l + r) / 2)<=kAt rk (arrOf st'') (lo + k):=by simpa using e1
    refine ⟨rfl,(l + r) / 2 + 1,r,rfl,by omega,by omega,by omega,fun i h1 => ?_,b5⟩
    have:=b (lo + i) (lo + (l + r) / 2) (by omega) (by omega) (by omega)
    omega
  case ipost =>
   rintro ⟨r0,l,r⟩ st'' ⟨e0,l',r',e,b2,b4,b5⟩
   cases e
   rw [e0]
   dsimp only
   rw [moveDown'_eq]
   refine Ak (Kf (Ap ⟨rfl,a.bubble (by omega) (by omega) (by omega),?_⟩))
   rw [show min (k + 1) n=k + 1 by omega]
   intro i j h1 h2 h3
   show kAt rk (bubble (arrOf st') (lo + k) (lo + k - (lo + l))) i<=kAt rk (bubble (arrOf st') (lo + k) (lo + k - (lo + l))) j
   rw [zdI (by omega) (by omega),zdI (by omega) (by omega),show lo + k - (lo + k - (lo + l))=lo + l by omega]
   by_cases e1:i=lo + l
   ·rw [if_pos e1]
    by_cases e2:j=lo + l
    ·rw [if_pos e2]; exact Dk _
    ·rw [if_neg e2,if_pos (by omega)]
     have:=b5 (j - 1 - lo) (by omega) (by omega)
     rw [show lo + (j - 1 - lo)=j - 1 by omega] at this
     omega
   ·rw [if_neg e1]
    by_cases e3:lo + l < i/\i<=lo + k
    ·rw [if_pos e3,if_neg (by omega),if_pos (by omega)]
     exact b _ _ (by omega) (by omega) (by omega)
    ·rw [if_neg e3]
     by_cases e2:j=lo + l
     ·rw [if_pos e2]
      have:=b4 (i - lo) (by omega)
      rwa [show lo + (i - lo)=i by omega] at this
     ·rw [if_neg e2]
      by_cases e4:lo + l < j/\j<=lo + k
      ·rw [if_pos e4]
       exact b _ _ (by omega) (by omega) (by omega)
      ·rw [if_neg e4]
       exact b _ _ (by omega) (by omega) (by omega)
end
theorem wpS_setSt {M:Hm} {A:B1} {E:A1->A4->Prop} {s:A4} {σ : Type} {x : σ} {Q:PUnit -> σ -> Prop} {st : σ} (h:Q ⟨⟩ x):wpS M A E s (set x:StateT σ Sem PUnit) Q st:=by
 unfold wpS; rw [StateT.run_set]; exact Ae ⟨rfl,h⟩
theorem wpS_setLike {M:Hm} {A:B1} {E:A1->A4->Prop} {s:A4} {x:By} {Q:PUnit->By->Prop} {st:By} (h:∀ st',kindOf st'=kindOf x->arrOf st'=arrOf x->pendingOf st'=pendingOf x->failedOf st'=failedOf x->Q ⟨⟩ st'):wpS M A E s (set x:StateT By Sem PUnit) Q st:=wpS_setSt (h x rfl rfl rfl rfl)
noncomputable abbrev seg (l:List Aw) (lo n:Nat):List Aw:=(l.drop lo).take n
theorem mem_seg {l:List Aw} {lo n:Nat} {y:Aw} (h:y∈seg l lo n):∃ j,∃ hj:j < l.length,lo<=j/\j < lo + n/\l[j]=y:=by
 obtain ⟨j,hj,h1,e⟩:=zbo h
 rw [Ho] at hj
 rw [Jv] at e
 exact ⟨lo + j,by omega,by omega,by omega,e⟩
theorem seg_split (l:List Aw) (lo m n:Nat):seg l lo (m + n)=seg l lo m ++ seg l (lo + m) n:=by
 unfold seg
 rw [Oi,L3]
theorem seg_whole (l:List Aw) (lo n:Nat):l=l.take lo ++ seg l lo n ++ l.drop (lo + n):=by
 unfold seg
 conv=>lhs; rw [<- C5 lo l,<- C5 n (l.drop lo)]
 rw [L3,At]
theorem zdP {rk:Aw->Int} {arr:Array Aw} {lo hi:Nat} (u:Up2 rk arr lo hi) (h:hi<=arr.size):Srt rk (seg arr.toList lo (hi - lo)):=by
 refine D3.mpr fun i j hi1 hj hij => ?_
 have l1:(seg arr.toList lo (hi - lo)).length<=hi - lo:=List.length_take_le _ _
 have:=u (lo + i) (lo + j) (by omega) (by omega) (by omega)
 rw [zaW (by omega),zaW (by omega)] at this
 simpa [seg,Ju,Jv] using this
theorem up_seg {rk:Aw->Int} {arr:Array Aw} {P L R:List Aw} (e:arr.toList=P ++ L ++ R) (s:Srt rk L):Up2 rk arr P.length (P.length + L.length):=by
 have hz:arr.size=P.length + L.length + R.length:=by
  rw [<- As,e,Ah,Ah]
 intro i j h1 h2 h3
 have g:∀ k (hk:P.length<=k) (hk2:k < P.length + L.length),kAt rk arr k=rk (L[k - P.length]'(by omega)):=fun k hk hk2=>by
  rw [zaW (by omega),<- zap arr (by omega)]
  congr 1
  have:arr.toList[k]?=some (L[k - P.length]'(by omega)):=by
   rw [e,Dm (by rw [Ah]; omega),Dh hk,Aa (by omega)]
  rw [Aa (by rw [As]; omega)] at this
  exact C1 this
 rw [g i h1 (by omega),g j (by omega) h3]
 by_cases eij:i=j
 ·subst eij; exact Dk _
 ·exact D3.mp s _ _ (by omega) (by omega) (by omega)
theorem zeM (base:Nat):∀ (l:List Aw) (n:Nat) (arr:Array Aw),base + n + l.length<=arr.size ->
  ((l.zipIdx n).foldl (fun (a:Array Aw) (x:Aw×Nat)=>a.setIfInBounds (base + x.2) x.1) arr).toList=arr.toList.take (base + n) ++ l ++ arr.toList.drop (base + n + l.length)
 | [],n,arr,h=>by simp
 | x :: l,n,arr,h=>by
  rw [Ar] at h
  rw [List.zipIdx_cons,Iq,zeM base l (n + 1) _ (by rw [Array.size_setIfInBounds]; omega)]
  dsimp only
  rw [Kx]
  have hb:base + n < arr.toList.length:=by rw [As]; omega
  have e1:(arr.toList.set (base + n) x).take (base + (n + 1))=arr.toList.take (base + n) ++ [x]:=by
   rw [show base + (n + 1)=base + n + 1 by omega,De (by rw [O1]; exact hb),List.getElem_set_self,List.take_set_of_le (Ad _)]
  have e2:(arr.toList.set (base + n) x).drop (base + (n + 1) + l.length)=arr.toList.drop (base + n + (x :: l).length):=by
   rw [List.drop_set_of_lt (by omega),Ar]
   congr 1; omega
  rw [e1,e2]
  simp
noncomputable abbrev Pend:=Array (Nat×Nat×Nat)
theorem pend_at {p:Pend} {pre post:List (Nat×Nat×Nat)} {x y:Nat×Nat×Nat} (e:p.toList=pre ++ x :: y :: post):p[pre.length]?=some x/\p[pre.length + 1]?=some y:=by
 constructor
 ·rw [<- Ct,e]; simp
 ·rw [<- Ct,e]; simp
theorem pend_new {p:Pend} {pre post:List (Nat×Nat×Nat)} {x y z:Nat×Nat×Nat} (e:p.toList=pre ++ x :: y :: post):((p.setIfInBounds pre.length z).eraseIdxIfInBounds (pre.length + 1)).toList=pre ++ z :: post:=by
 rw [Array.toList_eraseIdxIfInBounds,Kx,e]
 simp [List.eraseIdx_append_of_length_le]
theorem back_out {arr arr':Array Aw} {b:Nat} {M:List Aw} (e:arr'.toList=arr.toList.take b ++ M ++ arr.toList.drop (b + M.length)) (h:b + M.length<=arr.size):∀ i,(i < b\/b + M.length<=i)->arr'[i]?=arr[i]?:=fun i hi=>by
 rw [<- Ct,<- Ct,e]
 have lb:(arr.toList.take b).length=b:=by rw [D0,As]; omega
 rcases hi with z | z
 ·rw [Dm (by rw [Ah]; omega),Dm (by omega),Lm z]
 ·rw [Dh (by rw [Ah]; omega),List.getElem?_drop,Ah,lb]
  congr 1; omega
theorem zcv {M:Hm} {A:B1} {E:A1->A4->Prop} {s:A4} {f:By->By} {Q:PUnit->By->Prop} {st:By} (h:∀ st',kindOf st'=kindOf (f st)->arrOf st'=arrOf (f st)->pendingOf st'=pendingOf (f st)->failedOf st'=failedOf (f st)->Q ⟨⟩ st'):wpS M A E s (modify f:StateT By Sem PUnit) Q st:=Kf (h _ rfl rfl rfl rfl)
section
variable {prog:An} {w:B8} {A:B1} {E:A1->A4->Prop} {s:A4} {kd:F5} {S:Aw->Prop} {rk:Aw->Int}
structure Mrg (rk:Aw->Int) (lo hi:Nat) (st st':By) (p':List (Nat×Nat×Nat)):Prop where
 kind:kindOf st'=kindOf st
 fail:failedOf st'=failedOf st
 pend:(pendingOf st').toList=p'
 perm:(arrOf st').Perm (arrOf st)
 out:∀ i,(i < lo\/hi<=i)->(arrOf st')[i]?=(arrOf st)[i]?
 up:Up2 rk (arrOf st') lo hi
theorem mergeAt_ok (C:Ranks prog w A E s kd S rk) {st:By} {sa na p1 nb p2:Nat} {pre post:List (Nat×Nat×Nat)} {Q:Bool->By->Prop} (hS:∀ x∈(arrOf st).toList,S x) (hk:kindOf st=kd) (hf:failedOf st=none) (hp:(pendingOf st).toList=pre ++ (sa,na,p1) :: (sa + na,nb,p2) :: post) (h1:0 < na) (h2:0 < nb) (hz:sa + na + nb<=(arrOf st).size) (ua:Up2 rk (arrOf st) sa (sa + na)) (ub:Up2 rk (arrOf st) (sa + na) (sa + na + nb))
  (q:∀ st',Mrg rk sa (sa + na + nb) st st' (pre ++ (sa,na + nb,p1) :: post)->Q true st'):wpS (model prog w) A E s (mergeAt' pre.length) Q st:=by
 obtain ⟨g1,g2⟩:=pend_at hp
 have hn:=pend_new (z:=(sa,na + nb,p1)) hp
 refine Ak (Hv ?_)
 dsimp only
 unfold pendingOf at g1 g2
 rw [g1,g2]
 dsimp only
 refine Ak (wpS_setLike fun st1 k1 a1 q1 f1 => ?_)
 have k1:kindOf st1=kindOf st:=k1
 have a1:arrOf st1=arrOf st:=a1
 have f1:failedOf st1=failedOf st:=f1
 have q1:(pendingOf st1).toList=pre ++ (sa,na + nb,p1) :: post:=by rw [q1]; exact hn
 have hk1:kindOf st1=kd:=k1.trans hk
 have same:Up2 rk (arrOf st) sa (sa + na + nb)->Q true st1:=fun u=>q st1 ⟨k1,f1,q1,a1 ▸ He _,fun i _=>by rw [a1],by rw [a1]; exact u⟩
 have hA:=zgK hS
 have i1:sa + na < (arrOf st).size:=by omega
 refine Ak (zaD i1 ?_)
 refine Ak (zbB C (arr:=arrOf st) (hA _ i1) (fun i h _ _=>hA i h) (by omega) (by omega) ua hk1 fun k j1 j2 j3 => ?_)
 dsimp only
 simp only [Bp,if_false,<- zaW (rk:=rk) i1] at j2 j3
 refine zak (fun e=>Ap (same ?_)) (fun e => ?_)
 ·have e:na - k=0:=by simpa using e
  intro i j b1 b2 b3
  by_cases e1:j < sa + na
  ·exact ua i j b1 b2 e1
  by_cases e2:sa + na<=i
  ·exact ub i j e2 b2 b3
  have a2:=j2 (i - sa) (by omega)
  rw [show sa + (i - sa)=i by omega] at a2
  have a3:=ub (sa + na) j (Ad _) (by omega) b3
  omega
 have e:¬ na - k=0:=by simpa using e
 have hidx:sa + k + (na - k) - 1=sa + na - 1:=by omega
 rw [hidx]
 have i2:sa + na - 1 < (arrOf st).size:=by omega
 refine Ak (zaD i2 ?_)
 refine Ak (zbB C (arr:=arrOf st) (hA _ i2) (fun i h _ _=>hA i h) (by omega) (by omega) ub hk1 fun m j4 j5 j6 => ?_)
 dsimp only
 simp only [if_true,<- zaW (rk:=rk) i2] at j5 j6
 refine zak (fun e0=>Ap (same ?_)) (fun e0 => ?_)
 ·have e0:m=0:=by simpa using e0
  intro i j b1 b2 b3
  by_cases e1:j < sa + na
  ·exact ua i j b1 b2 e1
  by_cases e2:sa + na<=i
  ·exact ub i j e2 b2 b3
  have a2:=j6 (j - (sa + na)) (by omega) (by omega)
  rw [show sa + na + (j - (sa + na))=j by omega] at a2
  have a3:=ua i (sa + na - 1) b1 (by omega) (by omega)
  omega
 have e0:¬ m=0:=by simpa using e0
 have lL:(arrOf st).toList.length=(arrOf st).size:=As
 have xl:((arrOf st).extract (sa + k) (sa + na)).toList=seg (arrOf st).toList (sa + k) (na - k):=by rw [zaM,show sa + na - (sa + k)=na - k by omega]
 have yl:((arrOf st).extract (sa + na) (sa + na + m)).toList=seg (arrOf st).toList (sa + na) m:=by rw [zaM,Dw]
 have xs:((arrOf st).extract (sa + k) (sa + na)).size=na - k:=by rw [My]; omega
 have ys:((arrOf st).extract (sa + na) (sa + na + m)).size=m:=by rw [My]; omega
 have srtX:Srt rk (seg (arrOf st).toList (sa + k) (na - k)):=by
  have:=zdP (lo:=sa + k) (hi:=sa + na) (fun i j b1 b2 b3=>ua i j (by omega) b2 b3) (by omega)
  rwa [show sa + na - (sa + k)=na - k by omega] at this
 have srtY:Srt rk (seg (arrOf st).toList (sa + na) m):=by
  have:=zdP (lo:=sa + na) (hi:=sa + na + m) (fun i j b1 b2 b3=>ub i j (by omega) b2 (by omega)) (by omega)
  rwa [Dw] at this
 have atSeg:∀ {lo n:Nat} {y:Aw},y∈seg (arrOf st).toList lo n->∃ j,lo<=j/\j < lo + n/\j < (arrOf st).size/\rk y=kAt rk (arrOf st) j:=fun {lo n y} hy=>by
  obtain ⟨j,hj,b1,b2,b3⟩:=mem_seg hy
  have hj2:j < (arrOf st).size:=by omega
  refine ⟨j,b1,b2,hj2,?_⟩
  rw [<- b3,zaW hj2,zap _ hj2]
 have cX:∀ y∈seg (arrOf st).toList (sa + k) (na - k),kAt rk (arrOf st) (sa + na)<=rk y/\rk y<=kAt rk (arrOf st) (sa + na - 1):=fun y hy=>by
  obtain ⟨j,b1,b2,b3,b4⟩:=atSeg hy
  have a2:=j3 (j - sa) (by omega) (by omega)
  rw [show sa + (j - sa)=j by omega] at a2
  have a3:=ua j (sa + na - 1) (by omega) (by omega) (by omega)
  omega
 have cY:∀ y∈seg (arrOf st).toList (sa + na) m,kAt rk (arrOf st) (sa + na)<=rk y/\rk y<=kAt rk (arrOf st) (sa + na - 1):=fun y hy=>by
  obtain ⟨j,b1,b2,b3,b4⟩:=atSeg hy
  have a2:=j5 (j - (sa + na)) (by omega)
  rw [show sa + na + (j - (sa + na))=j by omega] at a2
  have a3:=ub (sa + na) j (by omega) (by omega) (by omega)
  omega
 have fin:∀ (res:Array Aw) (st2:By),Like st1 st2->MFin rk ((arrOf st).extract (sa + k) (sa + na)).toList ((arrOf st).extract (sa + na) (sa + na + m)).toList res.toList->∀ st3,kindOf st3=kindOf st2->arrOf st3=Kz (fun (a:Array Aw) (x:Aw×Nat)=>a.setIfInBounds (sa + k + x.2) x.1) (arrOf st2) res.toList.zipIdx->pendingOf st3=pendingOf st2->failedOf st3=failedOf st2->Mrg rk sa (sa + na + nb) st st3 (pre ++ (sa,na + nb,p1) :: post):=fun res st2 hL hM st3 k3 a3 q3 f3=>by
  rw [xl,yl] at hM
  have lM:res.toList.length=na - k + m:=by
   rw [hM.1.length_eq,Ah,<- xl,<- yl,As,As,xs,ys]
  rw [hL.2.1,a1] at a3
  have b3:=congrArg Lw a3
  rw [zeM (sa + k) res.toList 0 (arrOf st) (by omega),Ka] at b3
  have ew:(arrOf st).toList=(arrOf st).toList.take (sa + k) ++ (seg (arrOf st).toList (sa + k) (na - k) ++ seg (arrOf st).toList (sa + na) m) ++ (arrOf st).toList.drop (sa + k + res.toList.length):=by
   rw [lM]
   have:=seg_whole (arrOf st).toList (sa + k) (na - k + m)
   rwa [seg_split,show sa + k + (na - k)=sa + na by omega] at this
  refine ⟨k3.trans (hL.1.trans k1),f3.trans (hL.2.2.2.trans f1),by rw [q3,hL.2.2.1,q1],?_,fun i hi=>back_out b3 (by omega) i (by omega),?_⟩
  ·refine Gk.mpr ?_
   rw [b3]
   conv=>rhs; rw [ew]
   exact Gz _ (D4 _ hM.1)
  ·have e1:(arrOf st).toList.take (sa + k)=(arrOf st).toList.take sa ++ seg (arrOf st).toList sa k:=Oi
   have e2:(arrOf st).toList.drop (sa + k + res.toList.length)=seg (arrOf st).toList (sa + na + m) (nb - m) ++ (arrOf st).toList.drop (sa + na + nb):=by
    rw [lM,show sa + k + (na - k + m)=sa + na + m by omega]
    unfold seg
    conv=>lhs; rw [<- C5 (nb - m) ((arrOf st).toList.drop (sa + na + m))]
    rw [L3,show sa + na + m + (nb - m)=sa + na + nb by omega]
   have e3:(arrOf st3).toList=(arrOf st).toList.take sa ++ (seg (arrOf st).toList sa k ++ res.toList ++ seg (arrOf st).toList (sa + na + m) (nb - m)) ++ (arrOf st).toList.drop (sa + na + nb):=by
    rw [b3,e1,e2]; simp
   have cM:∀ y∈res.toList,kAt rk (arrOf st) (sa + na)<=rk y/\rk y<=kAt rk (arrOf st) (sa + na - 1):=fun y hy=>by
    rcases Ao.mp (hM.1.mem_iff.mp hy) with z | z
    ·exact cX y z
    ·exact cY y z
   have cA:∀ y∈seg (arrOf st).toList sa k,rk y<=kAt rk (arrOf st) (sa + na):=fun y hy=>by
    obtain ⟨j,b1,b2,b3,b4⟩:=atSeg hy
    have a2:=j2 (j - sa) (by omega)
    rw [show sa + (j - sa)=j by omega] at a2
    omega
   have cB:∀ y∈seg (arrOf st).toList (sa + na + m) (nb - m),kAt rk (arrOf st) (sa + na - 1)<=rk y/\kAt rk (arrOf st) (sa + na)<=rk y:=fun y hy=>by
    obtain ⟨j,b1,b2,b3,b4⟩:=atSeg hy
    have a2:=j6 (j - (sa + na)) (by omega) (by omega)
    rw [show sa + na + (j - (sa + na))=j by omega] at a2
    have a3:=ub (sa + na) j (by omega) (by omega) (by omega)
    omega
   have sA:Srt rk (seg (arrOf st).toList sa k):=by
    have:=zdP (lo:=sa) (hi:=sa + k) (fun i j b1 b2 b3=>ua i j (by omega) b2 (by omega)) (by omega)
    rwa [Dw] at this
   have sB:Srt rk (seg (arrOf st).toList (sa + na + m) (nb - m)):=by
    have:=zdP (lo:=sa + na + m) (hi:=sa + na + nb) (fun i j b1 b2 b3=>ub i j (by omega) b2 (by omega)) (by omega)
    rwa [show sa + na + nb - (sa + na + m)=nb - m by omega] at this
   have sAll:Srt rk (seg (arrOf st).toList sa k ++ res.toList ++ seg (arrOf st).toList (sa + na + m) (nb - m)):=by
    refine Bv.mpr ⟨Bv.mpr ⟨sA,hM.2,fun x hx y hy=>Mf (cA x hx) (cM y hy).1⟩,sB,fun x hx y hy => ?_⟩
    rcases Ao.mp hx with z | z
    ·exact Mf (cA x z) (cB y hy).2
    ·exact Mf (cM x z).2 (cB y hy).1
   have:=up_seg e3 sAll
   have l1:((arrOf st).toList.take sa).length=sa:=by rw [D0]; omega
   have l2:(seg (arrOf st).toList sa k ++ res.toList ++ seg (arrOf st).toList (sa + na + m) (nb - m)).length=na + nb:=by
    rw [Ah,Ah,lM]
    unfold seg
    rw [D0,D0,Ho,Ho]
    omega
   rwa [l1,l2,<- Ew] at this
 have x0:0 < ((arrOf st).extract (sa + k) (sa + na)).size:=by omega
 have y0:0 < ((arrOf st).extract (sa + na) (sa + na + m)).size:=by omega
 have hX:Srt rk ((arrOf st).extract (sa + k) (sa + na)).toList:=by rw [xl]; exact srtX
 have hY:Srt rk ((arrOf st).extract (sa + na) (sa + na + m)).toList:=by rw [yl]; exact srtY
 have SX:∀ i (h:i < ((arrOf st).extract (sa + k) (sa + na)).size),S ((arrOf st).extract (sa + k) (sa + na))[i]:=fun i h=>by rw [G5]; exact hA _ _
 have SY:∀ i (h:i < ((arrOf st).extract (sa + na) (sa + na + m)).size),S ((arrOf st).extract (sa + na) (sa + na + m))[i]:=fun i h=>by rw [G5]; exact hA _ _
 have Y0:rk (((arrOf st).extract (sa + na) (sa + na + m))[0]'y0)=kAt rk (arrOf st) (sa + na):=by
  rw [zaW i1,G5]; rfl
 have XL:rk (((arrOf st).extract (sa + k) (sa + na))[((arrOf st).extract (sa + k) (sa + na)).size - 1]'(by omega))=kAt rk (arrOf st) (sa + na - 1):=by
  rw [zaW i2,G5]
  congr 2
  rw [xs]; omega
 have hh0:∀ y∈((arrOf st).extract (sa + k) (sa + na)).toList,rk (((arrOf st).extract (sa + na) (sa + na + m))[0]'y0)<=rk y:=fun y hy=>by
  rw [xl] at hy; rw [Y0]; exact (cX y hy).1
 have hhl:∀ y∈((arrOf st).extract (sa + na) (sa + na + m)).toList,rk y<=rk (((arrOf st).extract (sa + k) (sa + na))[((arrOf st).extract (sa + k) (sa + na)).size - 1]'(by omega)):=fun y hy=>by
  rw [yl] at hy; rw [XL]; exact (cY y hy).2
 refine zak (fun _=>Ak (mergeLo_ok C x0 y0 hX hY SX SY hh0 hhl hk1 fun res st2 hL hM=>Ak (zcv fun st3 k3 a3 q3 f3 => ?_))) (fun _=>Ak (mergeHi_ok C x0 y0 hX hY SX SY hh0 hhl hk1 fun res st2 hL hM=>Ak (zcv fun st3 k3 a3 q3 f3 => ?_)))
 all_goals
  have r:=fin res st2 hL hM st3 k3 a3 q3 f3
  have fl:failedOf st3=none:=r.fail.trans hf
  refine Ak (Hv ?_)
  unfold failedOf at fl
  rw [fl]
  exact Ap (q st3 r)
end
noncomputable def Stk (rk:Aw->Int) (arr:Array Aw):List (Nat×Nat×Nat)->Nat->Nat->Prop
 | [],a,e=>a=e
 | x :: r,a,e=>x.1=a/\0 < x.2.1/\Up2 rk arr a (a + x.2.1)/\Stk rk arr r (a + x.2.1) e
section
variable {rk:Aw->Int} {arr arr':Array Aw}
theorem Stk.le:∀ {l:List (Nat×Nat×Nat)} {a e:Nat},Stk rk arr l a e->a + l.length<=e
 | [],a,e,h=>by have h:a=e:=h; simp; omega
 | x :: r,a,e,⟨h1,h2,h3,h4⟩=>by have:=Stk.le h4; rw [Ar]; omega
theorem Stk.congr:∀ {l:List (Nat×Nat×Nat)} {a e:Nat},(∀ i,a<=i->i < e->kAt rk arr' i=kAt rk arr i)->Stk rk arr l a e->Stk rk arr' l a e
 | [],a,e,_,h=>h
 | x :: r,a,e,hc,⟨h1,h2,h3,h4⟩=>by
  have:=Stk.le h4
  refine ⟨h1,h2,fun i j b1 b2 b3 => ?_,Stk.congr (fun i b1 b2=>hc i (by omega) b2) h4⟩
  rw [hc i b1 (by omega),hc j (by omega) (by omega)]
  exact h3 i j b1 b2 b3
theorem Stk.split:∀ {l m:List (Nat×Nat×Nat)} {a e:Nat},Stk rk arr (l ++ m) a e->∃ b,Stk rk arr l a b/\Stk rk arr m b e
 | [],m,a,e,h=>⟨a,rfl,h⟩
 | x :: r,m,a,e,⟨h1,h2,h3,h4⟩=>by
  obtain ⟨b,g1,g2⟩:=Stk.split h4
  exact ⟨b,⟨h1,h2,h3,g1⟩,g2⟩
theorem Stk.join:∀ {l m:List (Nat×Nat×Nat)} {a b e:Nat},Stk rk arr l a b->Stk rk arr m b e->Stk rk arr (l ++ m) a e
 | [],m,a,b,e,h,k=>by have h:a=b:=h; rw [h]; exact k
 | x :: r,m,a,b,e,⟨h1,h2,h3,h4⟩,k=>⟨h1,h2,h3,Stk.join h4 k⟩
theorem Stk.mod {f:Nat×Nat×Nat->Nat×Nat×Nat} (hf:∀ x,(f x).1=x.1/\(f x).2.1=x.2.1):∀ {l:List (Nat×Nat×Nat)} {i a e:Nat},Stk rk arr l a e->Stk rk arr (l.modify i f) a e
 | [],i,a,e,h=>by cases i <;> simpa [List.modify_nil] using h
 | x :: r,0,a,e,⟨h1,h2,h3,h4⟩=>by
  show Stk rk arr (f x :: r) a e
  refine ⟨(hf x).1.trans h1,?_,?_,?_⟩
  ·rw [(hf x).2]; exact h2
  ·rw [(hf x).2]; exact h3
  ·rw [(hf x).2]; exact h4
 | x :: r,i + 1,a,e,⟨h1,h2,h3,h4⟩=>⟨h1,h2,h3,Stk.mod hf h4⟩
theorem two_at {α : Type} {l:List α} {i:Nat} (h:i + 1 < l.length):∃ pre x y post,l=pre ++ x :: y :: post/\pre.length=i:=by
 refine ⟨l.take i,l[i]'(by omega),l[i + 1],l.drop (i + 2),?_,by rw [D0]; omega⟩
 conv=>lhs; rw [<- C5 i l]
 rw [Gw (show i < l.length by omega),Gw h]
end
section
variable {prog:An} {w:B8} {A:B1} {E:A1->A4->Prop} {s:A4} {kd:F5} {S:Aw->Prop} {rk:Aw->Int}
structure Stg (rk:Aw->Int) (kd:F5) (a₀ : Array Aw) (st:By) (e:Nat):Prop where
 kind:kindOf st=kd
 fail:failedOf st=none
 perm:(arrOf st).Perm a₀
 stk:Stk rk (arrOf st) (pendingOf st).toList 0 e
 le:e<=a₀.size
theorem zc5 (C:Ranks prog w A E s kd S rk) {a₀ : Array Aw} {st:By} {i e:Nat} {Q:Bool->By->Prop} (hS:∀ x∈a₀.toList,S x) (g:Stg rk kd a₀ st e) (hi:i + 1 < (pendingOf st).size)
  (q:∀ st',Stg rk kd a₀ st' e->(pendingOf st').size + 1=(pendingOf st).size->(∀ j,e<=j->(arrOf st')[j]?=(arrOf st)[j]?)->Q true st'):wpS (model prog w) A E s (mergeAt' i) Q st:=by
 obtain ⟨pre,⟨sa,na,p1⟩,⟨sb,nb,p2⟩,post,hp,rfl⟩:=two_at (l:=(pendingOf st).toList) (i:=i) (by rw [As]; exact hi)
 have hs:=g.stk
 rw [hp] at hs
 obtain ⟨b,s1,e1,n1,u1,e2,n2,u2,s2⟩:=hs.split
 dsimp only at e1 n1 u1 e2 n2 u2 s2
 subst e1 e2
 have sz:=g.perm.size_eq
 have l2:=s2.le
 have le:=g.le
 refine mergeAt_ok C (zb4 g.perm hS) g.kind g.fail hp n1 n2 (by omega) u1 u2 fun st' m => ?_
 refine q st' ⟨m.kind.trans g.kind,m.fail.trans g.fail,m.perm.trans g.perm,?_,g.le⟩ ?_ fun j hj=>m.out j (.inr (by omega))
 ·rw [m.pend]
  refine Stk.join (b:=sa) (s1.congr fun i b1 b2=>za1 (m.out i (.inl b2))) ⟨rfl,by show 0 < na + nb; omega,?_,?_⟩
  ·have:=m.up; show Up2 rk _ sa (sa + (na + nb)); rwa [<- Ew]
  ·show Stk rk _ post (sa + (na + nb)) e
   rw [<- Ew]
   exact s2.congr fun i b1 b2=>za1 (m.out i (.inr b1))
 ·rw [<- As,<- As,m.pend,hp,Ah,Ah,Ar,Ar,Ar]
  omega
theorem sortRuns_ok (C:Ranks prog w A E s kd S rk) {st:By} {Q:Unit->By->Prop} (hS:∀ x∈(arrOf st).toList,S x) (hk:kindOf st=kd) (hf:failedOf st=none) (hp:pendingOf st = #[]) (h2:2<=(arrOf st).size)
  (q:∀ st',(arrOf st').Perm (arrOf st)->failedOf st'=none->Up2 rk (arrOf st') 0 (arrOf st).size->Q () st'):wpS (model prog w) A E s sortRuns' Q st:=by
 rw [sortRuns'_eq]
 refine Ak (Hv ?_)
 dsimp only
 obtain ⟨a₀,ha⟩:∃ a,a=arrOf st:=⟨_,rfl⟩
 have g0:Stg rk kd a₀ st 0:=⟨hk,hf,ha ▸ He _,by rw [hp]; exact rfl,C6 _⟩
 rw [<- ha] at hS h2 ⊢
 rw [<- ha] at q
 refine Ak (E6 (Cw (I:=fun x c st'=>∃ lo,c=(none,lo)/\Stg rk kd a₀ st' lo/\(x<=lo\/lo=a₀.size)) (Q:=fun c st'=>∃ lo,c=(none,lo)/\Stg rk kd a₀ st' lo/\lo=a₀.size) ?step ?fin ⟨0,rfl,g0,.inl (C6 _)⟩) ?post)
 case fin =>
  rintro c st' ⟨lo,rfl,g,h⟩
  have:=g.le
  exact ⟨lo,rfl,g,by omega⟩
 case step =>
  rintro x c st1 _ hx ⟨lo,rfl,g,hlo⟩
  dsimp only
  have gle:=g.le
  refine zak (fun e=>Ap ⟨lo,rfl,g,by omega⟩) (fun e => ?_)
  have sz:=g.perm.size_eq
  refine Ak (countRun_ok C (zb4 g.perm hS) g.kind (by omega) (by omega) fun n st2 c2 n1 n2 u2 => ?_)
  have keep:∀ {st2:By},Chg lo a₀.size st1 st2->Stg rk kd a₀ st2 lo:=fun c2=>⟨c2.kind.trans g.kind,c2.fail.trans g.fail,c2.perm.trans g.perm,by rw [c2.pend]; exact g.stk.congr fun i b1 b2=>za1 (c2.out i (.inl b2)),g.le⟩
  have c2':Chg lo a₀.size st1 st2:=c2.wide (Ad _) (by omega)
  have g2:=keep c2'
  have sz2:=g2.perm.size_eq
  dsimp only
  refine zak (fun hm=>Ak (Jp (Ft ⟨rfl,Ak (binSort_ok C (zb4 g2.perm hS) g2.kind (by omega) (by omega) u2 fun st3 c3 u3 => ?_)⟩))) (fun hm => ?_)
  simp only [Eg,Bp,if_false]
  have g3:=keep (c2'.trans (c3.wide (Ad _) (by omega)))
  generalize hn3:min (a₀.size - lo) (minRun' a₀.size a₀.size 0)=n3 at u3 ⊢
  have n31:1<=n3:=by omega
  have n32:lo + n3<=a₀.size:=by omega
  rotate_left
  have g3:=g2
  have u3:=u2
  have n31:=n1
  have n32:lo + n<=a₀.size:=by omega
  clear c2 c2' u2 g2 n2 n1 hm sz2
  generalize st2=st3 at g3 u3 ⊢
  generalize n=n3 at u3 n31 n32 ⊢
  all_goals
   have push:∀ {st4:By},Stg rk kd a₀ st4 lo->Up2 rk (arrOf st4) lo (lo + n3)->Stg rk kd a₀ (setPending st4 ((pendingOf st4).push (lo,n3,0))) (lo + n3):=fun {st4} g4 u4=>⟨g4.kind,g4.fail,g4.perm,by
    show Stk rk (arrOf st4) ((pendingOf st4).push (lo,n3,0)).toList 0 (lo + n3)
    rw [Cc]
    exact g4.stk.join ⟨rfl,n31,u4,rfl⟩,n32⟩
   refine Ak (Hv ?_)
   cases hb:(pendingOf st3).back? with
   | none=>exact Ak (Kf (Ap ⟨lo + n3,rfl,push g3 u3,by omega⟩))
   | some t =>
    obtain ⟨s1,n1',pp⟩:=t
    dsimp only
    refine Ak (E6 (Cw (I:=fun _ c st'=>c=(none,())/\Stg rk kd a₀ st' lo/\Up2 rk (arrOf st') lo (lo + n3)) (Q:=fun c st'=>c=(none,())/\Stg rk kd a₀ st' lo/\Up2 rk (arrOf st') lo (lo + n3)) ?_ (fun _ _ h=>h) ⟨rfl,g3,u3⟩) ?_)
    ·rintro y c st4 _ _ ⟨rfl,g4,u4⟩
     refine Ak (Hv ?_)
     by_cases hps:(pendingOf st4).size > 1
     ·rw [if_pos hps]
      cases hq:(pendingOf st4)[(pendingOf st4).size - 2]? with
      | none=>exact Ap ⟨rfl,g4,u4⟩
      | some t =>
       obtain ⟨t1,t2,older⟩:=t
       dsimp only
       refine zak (fun _=>Ap ⟨rfl,g4,u4⟩) (fun _=>Ak (zc5 C hS g4 (by omega) fun st5 g5 _ o5 => ?_))
       simp only [Eg,Bp,if_false]
       refine Ap ⟨rfl,g5,fun i j b1 b2 b3 => ?_⟩
       rw [za1 (o5 i b1),za1 (o5 j (by omega))]
       exact u4 i j b1 b2 b3
     ·rw [if_neg hps]
      exact Ap ⟨rfl,g4,u4⟩
    ·rintro c st4 ⟨rfl,g4,u4⟩
     dsimp only
     refine Ak (zcv fun st5 k5 a5 q5 f5=>Ak (Kf (Ap ⟨lo + n3,rfl,push (st4:=st5) ?_ ?_,by omega⟩)))
     ·refine ⟨k5.trans g4.kind,f5.trans g4.fail,by rw [a5]; exact g4.perm,?_,g4.le⟩
      rw [a5,q5]
      show Stk rk (arrOf st4) ((pendingOf st4).modify _ _).toList 0 lo
      rw [Array.toList_modify]
      refine Stk.mod ?_ g4.stk
      exact fun x=>⟨rfl,rfl⟩
     ·rw [a5]; exact u4
 case post =>
  rintro c st1 ⟨lo,rfl,g,rfl⟩
  dsimp only
  have l1:=g.stk.le
  rw [As] at l1
  refine Ak (E6 (Cw (I:=fun x c st'=>c=(none,())/\Stg rk kd a₀ st' a₀.size/\((pendingOf st').size<=1\/(pendingOf st').size + x<=a₀.size)) (Q:=fun c st'=>c=(none,())/\Stg rk kd a₀ st' a₀.size/\(pendingOf st').size<=1) ?_ ?_ ⟨rfl,g,.inr (by omega)⟩) ?_)
  ·rintro x c st2 _ hx ⟨rfl,g2,hp2⟩
   refine Ak (Hv ?_)
   refine zak (fun e=>Ap ⟨rfl,g2,e⟩) (fun e => ?_)
   refine Ak (zc5 C hS g2 ?_ fun st5 g5 z5 o5 => ?_)
   ·by_cases hb:Option.any (fun x=>decide (x < Option.elim (pendingOf st2)[(pendingOf st2).size - 2 + 1]? 0 fun x=>x.2.1)) (if (pendingOf st2).size - 2 > 0 then Ot (fun x=>x.2.1) (pendingOf st2)[(pendingOf st2).size - 2 - 1]? else none)=true
    ·rw [if_pos hb]; omega
    ·rw [if_neg hb]; omega
   ·simp only [Eg,Bp,if_false]
    exact Ap ⟨rfl,g5,by omega⟩
  ·rintro c st2 ⟨rfl,g2,hp2⟩
   exact ⟨rfl,g2,by omega⟩
  ·rintro c st2 ⟨rfl,g2,hp2⟩
   refine Ap (q st2 g2.perm g2.fail ?_)
   have hs:=g2.stk
   have hl:(pendingOf st2).toList.length<=1:=by rw [As]; exact hp2
   match hm:(pendingOf st2).toList,hs,hl with
   | [],hs,_=>have hs:0=a₀.size:=hs; omega
   | [x],⟨b1,b2,b3,b4⟩,_ =>
    have b4:0 + x.2.1=a₀.size:=b4
    rwa [b4] at b3
end
end L2
namespace L2
open PySem PySem.Spec PyProof.Rows PySem.W
section
variable {prog:An} {w:B8} {A:B1} {E:A1->A4->Prop} {s:A4}
end
section
variable {X:Cx}
end
end L2
namespace L2
open PySem PySem.Spec PyProof.Rows
noncomputable def behN (C:Combs) (l:List Nat):List Nat:=(Ac 128).filter fun s=>l.any fun t=>(stp C t).any fun p=>decide (p.2.toNat=s)
noncomputable def rowN (C:Combs):Nat->List Nat
 | 0 => [0]
 | k + 1=>behN C (rowN C k)
theorem beh_mem {C:Combs} {l:List Nat} {s:Nat}:s∈behN C l ↔ s < 128/\∃ t∈l,∃ p∈stp C t,p.2.toNat=s:=by
 unfold behN
 rw [Bc,B9]
 constructor
 ·rintro ⟨h,e⟩
  obtain ⟨t,ht,e⟩:=Bs.mp e
  obtain ⟨p,hp,e⟩:=Bs.mp e
  exact ⟨h,t,ht,p,hp,of_decide_eq_true e⟩
 ·rintro ⟨h,t,ht,p,hp,e⟩
  exact ⟨h,Bs.mpr ⟨t,ht,Bs.mpr ⟨p,hp,decide_eq_true e⟩⟩⟩
theorem beh_len (C:Combs) (l:List Nat):(behN C l).length<=128:=by
 have:=Cm (fun s=>l.any fun t=>(stp C t).any fun p=>decide (p.2.toNat=s)) (Ac 128)
 rwa [Ax] at this
theorem rowN_ok (C:Combs):∀ k,(∀ s∈rowN C k,s < 128)/\(rowN C k).length<=128
 | 0=>⟨fun s h=>by rw [show rowN C 0 = [0] from rfl,A6] at h; omega,by show 1<=128; decide⟩
 | k + 1=>⟨fun s h=>(beh_mem.mp h).1,beh_len C _⟩
theorem putK_keys {κ : Type} [DecidableEq κ] (kvs:List (κ × V)) (k : κ) (v:V):(putK kvs k v).map (·.1)=if k∈kvs.map (·.1) then kvs.map (·.1) else kvs.map (·.1) ++ [k]:=by
 unfold putK
 by_cases h:(kvs.any fun kv=>decide (kv.1=k))=true
 ·rw [if_pos h,if_pos (valV_mem.mp (by rw [<- zbj]; exact h)),Be]
  refine Ce fun kv _ => ?_
  show (if kv.1=k then (kv.1,v) else kv).1=kv.1
  split <;> rfl
 ·rw [if_neg h,if_neg (fun z=>h (by rw [zbj]; exact valV_mem.mpr z)),Bi]
  rfl
noncomputable def GrL (H:Hp) (kvs:List (List Key×V)) (ks:Combs) (L:List Nat):Prop:=C3 (fun (s:Nat) (kv:List Key×V)=>kv.1=akey s/\∃ q vs,kv.2 = .ref q/\H q=some (.lst vs)/\GoesR H vs (goesOf ks (aheadOf (s:Int)))) L kvs
theorem GrL.mono {H H':Hp} {kvs:List (List Key×V)} {ks:Combs} {L:List Nat} (r:GrL H kvs ks L) (m:∀ kv∈kvs,∀ q vs,kv.2 = .ref q->H q=some (.lst vs)->H' q=some (.lst vs)) (mt:∀ q xs,H q=some (.tup xs)->H' q=some (.tup xs)):GrL H' kvs ks L:=by
 induction r with
 | nil=>exact .nil
 | cons h _ ih =>
  obtain ⟨a,q,vs,b,c,d⟩:=h
  exact .cons ⟨a,q,vs,b,m _ Ag q vs b c,d.mono mt⟩ (ih fun kv hkv=>m kv (A8 _ hkv))
theorem GrL.same {H H':Hp} {kvs:List (List Key×V)} {ks:Combs} {L:List Nat} (r:GrL H kvs ks L) (s:Same H H'):GrL H' kvs ks L:=r.mono (fun _ _ _ _ _ e=>s _ _ e) fun _ _ e=>s _ _ e
theorem GrL.len {H:Hp} {kvs:List (List Key×V)} {ks:Combs} {L:List Nat} (r:GrL H kvs ks L):kvs.length=L.length:=(Cp r).symm
theorem GrL.keys {H:Hp} {kvs:List (List Key×V)} {ks:Combs} {L:List Nat} (r:GrL H kvs ks L):kvs.map (·.1)=L.map akey:=by
 induction r with
 | nil=>rfl
 | cons h _ ih=>rw [Aq,Aq,ih,h.1]
theorem akeys_nd {L:List Nat} (nd:L.Nodup) (lt:∀ s∈L,s < 128):(L.map akey).Nodup:=by
 rw [F7,C4]
 rw [F7] at nd
 exact Gb (fun {a b} ha hb hab e=>hab (zcU (lt a ha) (lt b hb) e)) nd
theorem GrL.val {H:Hp} {kvs:List (List Key×V)} {ks:Combs} {L:List Nat} (r:GrL H kvs ks L) (nd:L.Nodup) (lt:∀ s∈L,s < 128) {s:Nat} (hs:s∈L):∃ q vs,valV kvs (akey s)=some (.ref q)/\H q=some (.lst vs)/\GoesR H vs (goesOf ks (aheadOf (s:Int))):=by
 obtain ⟨i,hi,rfl⟩:=Fd hs
 obtain ⟨kv,e1,e2,q,vs,e3,e4,e5⟩:=C3.at r (Aa hi)
 refine ⟨q,vs,?_,e4,e5⟩
 rw [<- e3]
 exact zfO (by rw [r.keys]; exact akeys_nd nd lt) (by rw [e1,<- e2])
theorem GrL.has {H:Hp} {kvs:List (List Key×V)} {ks:Combs} {L:List Nat} (r:GrL H kvs ks L) (lt:∀ s∈L,s < 128) {s:Nat} (hs:s < 128):(valV kvs (akey s)).isSome=decide (s∈L):=by
 rw [Bd,valV_mem,r.keys,decide_eq_true_eq,Ab]
 exact ⟨fun ⟨j,hj,e⟩=>zcU (lt j hj) hs e ▸ hj,fun h=>⟨s,h,rfl⟩⟩
theorem GrL.snoc {H:Hp} {kvs:List (List Key×V)} {ks:Combs} {L:List Nat} {s:Nat} {q:A3} {vs:List V} (r:GrL H kvs ks L) (h1:H q=some (.lst vs)) (h2:GoesR H vs (goesOf ks (aheadOf (s:Int)))):GrL H (kvs ++ [(akey s,.ref q)]) ks (L ++ [s]):=Ek r ⟨rfl,q,vs,rfl,h1,h2⟩
noncomputable def ClsS (C:Combs) (L:List Nat):Prop:=(∀ s∈L,s < 128)/\∀ s∈L,∀ p∈stp C s,p.2.toNat∈L
theorem akeysL_kI (L:List Nat):L.map akey=(L.map fun (s:Nat)=>aheadOf (s:Int)).map kI:=by rw [Be]; rfl
noncomputable def ov (al:Nat->Nat->Bool) (i p:Nat):Nat:=if p < i then 1 else ind (al i (p - i))
section
variable {al ta:Nat->Nat->Bool}
noncomputable def cn (nm:Nat->Str) (i:Nat):Nat:=(laid nm i).length
end
theorem laid_up (nm:Nat->Str) (n:Nat):(laid nm n).Pairwise (· < ·):=Bg D5 Dg
theorem zgl {n j:Nat} (f:Nat->V) (v:V) (h:j < n):((Ac n).map f).set j v=(Ac n).map fun p=>if p=j then v else f p:=by
 refine Fo fun i => ?_
 rw [List.getElem?_set,Ai,A5,Ax]
 by_cases e:j=i
 ·subst e
  rw [if_pos rfl,if_pos h,Ai,C7 h,Cq,if_pos rfl]
 ·rw [if_neg e,Ai]
  by_cases hi:i < n
  ·rw [C7 hi,Cq,Cq,if_neg (fun z=>e z.symm)]
  ·rw [Cn (by rw [Ax]; omega)]
   rfl
theorem count_teeth {ts:List Int} (nd:ts.Nodup) (h0:∀ t∈ts,0<=t) (i p:Nat):(ts.map fun t=>i + t.toNat).count p=if i<=p then ind (decide (((p - i:Nat):Int)∈ts)) else 0:=by
 have nd2:(ts.map fun t=>i + t.toNat).Nodup:=by
  rw [F7,C4]
  rw [F7] at nd
  refine Gb (fun {a b} ha hb hab e=>hab ?_) nd
  have:=h0 a ha
  have:=h0 b hb
  omega
 have hm:p∈(ts.map fun t=>i + t.toNat) ↔ i<=p/\((p - i:Nat):Int)∈ts:=by
  rw [Ab]
  constructor
  ·rintro ⟨t,ht,rfl⟩
   have:=h0 t ht
   exact ⟨by omega,by rw [show ((i + t.toNat - i:Nat):Int)=t by omega]; exact ht⟩
  ·rintro ⟨h,ht⟩
   exact ⟨_,ht,by omega⟩
 rw [nd2.count]
 by_cases h:i<=p
 ·rw [if_pos h]
  by_cases h2:((p - i:Nat):Int)∈ts
  ·rw [if_pos (hm.mpr ⟨h,h2⟩),decide_eq_true h2]; rfl
  ·rw [if_neg (fun z=>h2 (hm.mp z).2),decide_eq_false h2]; rfl
 ·rw [if_neg h,if_neg (fun z=>h (hm.mp z).1)]
end L2
namespace L2
open PySem PySem.Spec PyProof.Rows PySem.W
noncomputable def lexR:Nat->List Int->Nat
 | 0,_=>0
 | _ + 1,[]=>0
 | n + 1,x :: xs=>(x.toNat + 1) * 9 ^ n + lexR n xs
noncomputable def Smalls (ns:List Int):Prop:=ns.length<=8/\∀ x∈ns,0<=x/\x<=7
theorem zeX:∀ (n:Nat) (l:List Int),(∀ x∈l,0<=x/\x<=7)->lexR n l < 9 ^ n
 | 0,_,_=>O6
 | n + 1,[],_=>Mw (by decide)
 | n + 1,x :: l,h=>by
  have i:=zeX n l fun y hy=>h y (A8 _ hy)
  have hx:=h x Ag
  show (x.toNat + 1) * 9 ^ n + lexR n l < 9 ^ (n + 1)
  rw [Pa]
  have:(x.toNat + 1) * 9 ^ n<=8 * 9 ^ n:=Jb _ (by omega)
  omega
theorem zdX:∀ (n:Nat) (a b:List Int),a.length<=n->b.length<=n->(∀ x∈a,0<=x/\x<=7)->(∀ x∈b,0<=x/\x<=7)->(lexR n a < lexR n b ↔ HT.lexLt a b=true)/\(lexR n a=lexR n b->a=b)
 | 0,[],[],_,_,_,_=>⟨by rw [HT.lexLt_nil_nil]; simp [lexR],fun _=>rfl⟩
 | 0,_ :: _,_,h,_,_,_=>absurd h (by simp)
 | 0,_,_ :: _,_,h,_,_=>absurd h (by simp)
 | n + 1,[],[],_,_,_,_=>⟨by rw [HT.lexLt_nil_nil]; simp [lexR],fun _=>rfl⟩
 | n + 1,[],y :: b,_,_,_,_=>by
  have p:0 < 9 ^ n:=Mw (by decide)
  have:0 < (y.toNat + 1) * 9 ^ n:=Q8 (by omega) p
  rw [HT.lexLt_nil_cons]
  refine ⟨?_,?_⟩
  ·show 0 < (y.toNat + 1) * 9 ^ n + lexR n b ↔ _
   exact ⟨fun _=>rfl,fun _=>by omega⟩
  ·show 0=(y.toNat + 1) * 9 ^ n + lexR n b->_
   intro h; omega
 | n + 1,x :: a,[],_,_,_,_=>by
  have p:0 < 9 ^ n:=Mw (by decide)
  have:0 < (x.toNat + 1) * 9 ^ n:=Q8 (by omega) p
  rw [HT.lexLt_cons_nil]
  refine ⟨?_,?_⟩
  ·show (x.toNat + 1) * 9 ^ n + lexR n a < 0 ↔ _
   exact ⟨fun h=>by omega,fun h=>by cases h⟩
  ·show (x.toNat + 1) * 9 ^ n + lexR n a=0->_
   intro h; omega
 | n + 1,x :: a,y :: b,ha,hb,sa,sb=>by
  have i:=zdX n a b (by simpa using ha) (by simpa using hb) (fun z hz=>sa z (A8 _ hz)) (fun z hz=>sb z (A8 _ hz))
  have la:=zeX n a fun z hz=>sa z (A8 _ hz)
  have lb:=zeX n b fun z hz=>sb z (A8 _ hz)
  have hx:=sa x Ag
  have hy:=sb y Ag
  rw [HT.lexLt_cons]
  show ((x.toNat + 1) * 9 ^ n + lexR n a < (y.toNat + 1) * 9 ^ n + lexR n b ↔ _)/\((x.toNat + 1) * 9 ^ n + lexR n a=(y.toNat + 1) * 9 ^ n + lexR n b->_)
  rcases Int.lt_trichotomy x y with h | h | h
  ·have:(x.toNat + 1 + 1) * 9 ^ n<=(y.toNat + 1) * 9 ^ n:=Jb _ (by omega)
   rw [Q9 (x.toNat + 1) 1] at this
   rw [if_neg (by omega),decide_eq_true h]
   exact ⟨⟨fun _=>rfl,fun _=>by omega⟩,fun z=>by omega⟩
  ·subst h
   rw [if_pos rfl]
   refine ⟨⟨fun z=>i.1.mp (by omega),fun z => ?_⟩,fun z => ?_⟩
   ·have:=i.1.mpr z; omega
   ·rw [i.2 (by omega)]
  ·have:(y.toNat + 1 + 1) * 9 ^ n<=(x.toNat + 1) * 9 ^ n:=Jb _ (by omega)
   rw [Q9 (y.toNat + 1) 1] at this
   rw [if_neg (by omega),decide_eq_false (by omega)]
   exact ⟨⟨fun z=>by omega,fun z=>by cases z⟩,fun z=>by omega⟩
section
variable {prog:An} {w:B8} {A:B1} {E:A1->A4->Prop} {s:A4}
theorem sortR {a:A3} {vs:List A1} {n:Nat} {P:Po->A4->Prop} (rk:Aw->Int) (S:Aw->Prop) (ho:s.heap.get? a=some (seqObj "list" vs.toArray n)) (hS:∀ v∈vs,S (v,v)) (hb:vs.length<=sizeLine)
  (hk:2<=vs.length->∀ h':Br,(∀ b o,b≠a->s.heap.get? b=some o->h'.get? b=some o)->∃ kd:F5,(∀ Q:F5->A4->Prop,Q kd { s with heap:=h' }->wpAny (model prog w) A (keyKind' vs.toArray) Q E { s with heap:=h' })/\Ranks prog w A E { s with heap:=h' } kd S rk)
  (q:∀ out:List A1,out.Perm vs->out.Pairwise (fun x y=>rk (x,x)<=rk (y,y))->P (.done (.ret .none)) { s with heap:=sortedHeap s.heap a vs out.toArray }) :
  wpAny (model prog w) A (G9.«list.sort» ⟨[.ref a],[]⟩) P E s:=by
 have hpl:(pairsOf vs).toList=vs.map fun v=>(v,v):=by
  unfold pairsOf
  rw [Array.toList_zip]
  simp [List.zip_eq_zipWith,List.zipWith_self]
 have fin:∀ st':By,(arrOf st').Perm (pairsOf vs)->Up2 rk (arrOf st') 0 (pairsOf vs).size->P (.done (.ret .none)) { s with heap:=sortedHeap s.heap a vs ((arrOf st').map (·.2)) }:=fun st' hp hs=>by
  have hp':(arrOf st').toList.Perm (vs.map fun v=>(v,v)):=by rw [<- hpl]; exact Gk.mp hp
  have hx:∀ x∈(arrOf st').toList,x=(x.2,x.2):=fun x hx=>by
   obtain ⟨v,_,rfl⟩:=Ab.mp (hp'.mem_iff.mp hx)
   rfl
  have e:(arrOf st').map (·.2)=((arrOf st').toList.map (·.2)).toArray:=by
   refine Nk.mp ?_
   rw [Array.toList_map]
  rw [e]
  refine q _ ?_ ?_
  ·have:=hp'.map (·.2)
   rw [Be] at this
   have e2:vs.map ((fun x:Aw=>x.2) ∘ fun v=>(v,v))=vs:=by
    conv=>rhs; rw [<- Gy vs]
    rfl
   rw [e2] at this
   exact this
  ·rw [C4,D3]
   intro i j hi hj hij
   have hz:(arrOf st').size=(pairsOf vs).size:=hp.size_eq
   rw [As] at hi hj
   have:=hs i j (C6 _) (by omega) (by omega)
   rw [zaW hi,zaW hj] at this
   have e1:=hx _ (Cr (l:=(arrOf st').toList) (n:=i) (by rw [As]; exact hi))
   have e2:=hx _ (Cr (l:=(arrOf st').toList) (n:=j) (by rw [As]; exact hj))
   rw [<- e1,<- e2]
   simpa using this
 rw [list_sort_plain]; have hlt:=Am ho
 obtain ⟨e1,o1⟩:∃ e,(s.heap.update a (Fh fun _=>(#[]:Array A1))).get? a=some (seqObj "list" #[] e):=⟨_,get?_update_seq ho fun _ => #[]⟩
 have hz:vs.toArray.size=vs.length:=B5
 refine A2 (Rp ho rfl (A2 (Mq ho rfl (A2 (Ny o1 rfl (A2 (wpAny_newTuple (A2 (Mp (D1 ?_) (C6 _))) (by show vs.length<=_; omega))))) (by rw [hz]; omega) (C6 _))))
 have o6:(((s.heap.update a (Fh fun _=>(#[]:Array A1))).push (seqObj "tuple" vs.toArray 0)).push (seqObj "list" #[] 0)).get? a=some (seqObj "list" #[] e1):=A7 _ (A7 _ o1)
 have keep:∀ b o,b≠a->s.heap.get? b=some o->(((s.heap.update a (Fh fun _=>(#[]:Array A1))).push (seqObj "tuple" vs.toArray 0)).push (seqObj "list" #[] 0)).get? b=some o:=fun b o hb e =>
  A7 _ (A7 _ (by rw [Heap.get?_update_ne _ _ _ _ hb]; exact e))
 show wpAny (model prog w) A _ P E { s with heap:=((s.heap.update a (Fh fun _=>(#[]:Array A1))).push (seqObj "tuple" vs.toArray 0)).push (seqObj "list" #[] 0) }; dsimp only
 by_cases h2:vs.toArray.size < 2
 ·rw [if_pos h2,if_pos h2]; refine A2 (Ae ?_)
  rw [StateT.run_pure]; refine A2 (Ae ?_)
  dsimp only
  refine A2 (Ny o6 rfl (A2 (Mq o6 rfl ?_ (C6 _) (by rw [O3]; show (pairsOf vs).size<=_; rw [Kp]; omega))))
  simp only [bne_self_eq_false,Bp,if_false]
  refine Ae (fin (Os general' (vs.toArray.zip vs.toArray) #[] 7 none) (He _) fun i j _ hij hj => ?_)
  rw [Kp] at hj
  rw [show i=j by omega]; exact Dk _
 ·rw [if_neg h2,if_neg h2]
  obtain ⟨kd,hkk,hrk⟩:=hk (by omega) _ keep
  refine A2 (hkk _ ?_)
  refine A2 (D9 (sortRuns_ok hrk (st:=Os kd (vs.toArray.zip vs.toArray) #[] 7 none) (Q:=fun _ st'=>(arrOf st').Perm (pairsOf vs)/\failedOf st'=none/\Up2 rk (arrOf st') 0 (pairsOf vs).size) ?_ rfl rfl rfl (by show 2<=(pairsOf vs).size; rw [Kp]; omega) fun st' c1 c2 c3=>⟨c1,c2,c3⟩) ?_ fun _ _ e=>e)
  ·intro x hx
   have hx:x∈(pairsOf vs).toList:=hx
   rw [hpl] at hx
   obtain ⟨v,hv,rfl⟩:=Ab.mp hx
   exact hS v hv
  rintro ⟨⟨⟩,st'⟩ s' ⟨rfl,hp,hf,hs⟩
  dsimp only
  refine A2 (Ny o6 rfl (A2 (Mq o6 rfl ?_ (C6 _) (by rw [O3,hp.size_eq,Kp]; omega))))
  rw [hf]
  simp only [bne_self_eq_false,Bp,if_false]
  exact Ae (fin st' hp hs)
end
section
variable {prog:An} {w:B8} {A:B1} {E:A1->A4->Prop} {s:A4}
theorem zfy {fin:Bool} {Q:Bool->A4->Prop} {X Y:Nat} (hf:fin=decide (X < Y)):∀ {xs ys:List A1} {ns ms:List Int} (i:Nat),Ee xs ns->Ee ys ms->ns.length + Y=ms.length + X->Q (HT.lexLt ns ms) s->KatLex prog w A true fin Q (xs.zip ys) i s
 | _,_,_,_,i,.nil,.nil,hl,q=>by
  rw [HT.lexLt_nil_nil] at q
  refine kat_nil ?_
  rw [hf,decide_eq_false (by simp at hl; omega)]
  exact q
 | _,_,_,_,i,.nil,.cons c u hw,hl,q=>by
  rw [HT.lexLt_nil_cons] at q
  refine kat_nil ?_
  rw [hf,decide_eq_true (by simp at hl; omega)]
  exact q
 | _,_,_,_,i,.cons a t hv,.nil,hl,q=>by
  rw [HT.lexLt_cons_nil] at q
  refine kat_nil ?_
  rw [hf,decide_eq_false (by simp at hl; omega)]
  exact q
 | _,_,_,_,i,.cons a t hv,.cons c u hw,hl,q=>by
  rw [HT.lexLt_cons] at q
  rw [Go]
  obtain ⟨e,he,hiff⟩:=HT.eqAt_int A s a t c u
  refine kat_cons (he prog w _ _ ?_)
  cases e with
  | true =>
   rw [if_pos (hiff.mp rfl)] at q
   exact kat_yes (zfy hf (i + 1) hv hw (by simp at hl; omega) q)
  | false =>
   rw [if_neg (fun z=>absurd (hiff.mpr z) A9)] at q
   refine kat_no ?_
   rw [Ff]
   cases hi:(i == 0) with
   | true=>exact oneLt_int q
   | false=>exact kat_one _ _ (Ks q)
noncomputable def TKind (kd:F5):Prop:=kd=tuples' true\/kd=general'\/kd=oneType'
theorem keyLt_tup {kd:F5} (hkd:TKind kd) {l b:A3} {items items2:Array A1} {ns ms:List Int} {Q:Bool->A4->Prop} (hl:Jg s.heap l items) (hb:Jg s.heap b items2) (hi:Ee items.toList ns) (hj:Ee items2.toList ms)
  (hu:A.units < cLine) (q:Q (HT.lexLt ns ms) s):wpAny (model prog w) A (keyLt' kd (.ref l) (.ref b)) Q E s:=by
 rcases hkd with rfl | rfl | rfl
 ·obtain ⟨o,ho,_,n,hd⟩:=hl
  obtain ⟨o2,ho2,_,n2,hd2⟩:=hb
  refine kat_lt ho hd ho2 hd2 (zfy rfl 0 hi hj ?_ q)
  have:=hi.length
  have:=hj.length
  simp at *
  omega
 ·show wpAny _ _ (oneLt' false (.ref l) (.ref b)) _ _ _
  exact kat_one _ _ (HT.lt_tupInts hl hb hi hj hu q)
 ·rw [keyLt'_oneType,oneLt'_eq]
  simp only [if_true]
  refine A2 (wpAny_cRoomFor hu ?_)
  obtain ⟨⟨cls,dd,data,sl⟩,ho,hc,n,hd⟩:=id hl
  obtain ⟨⟨cls2,dd2,data2,sl2⟩,ho2,hc2,n2,hd2⟩:=id hb
  simp only at hc hd hc2 hd2
  subst hc hd hc2 hd2
  refine A2 (wpAny_callSpecialIfBound?_slot (T := "tuple") ⟨_,ho,rfl⟩ Ht (J6 Ht ⟨_,ho,rfl⟩ L9 (Ky _ _) (HT.tuple_lt_ints l b items items2 n n2 dd dd2 sl sl2 ns ms hi hj) ⟨ho,ho2,?_⟩))
  exact Cy q
noncomputable def TupS (h:Br) (f:A3->List Int) (k:Aw):Prop:=∃ a items,k.1 = .ref a/\Jg h a items/\Ee items.toList (f a)/\Smalls (f a)
noncomputable def rkT (f:A3->List Int) (k:Aw):Int:=match k.1 with
 | .ref a=>((lexR 8 (f a):Nat):Int)
 | _=>0
theorem ranks_tup {kd:F5} (hkd:TKind kd) (hu:A.units < cLine) (f:A3->List Int) {h0:Br} (hk:∀ a items,Jg h0 a items->Jg s.heap a items):Ranks prog w A E s kd (TupS h0 f) (rkT f):=⟨fun {x y st Q} hx hy he q=>by
 obtain ⟨x1,x2⟩:=x
 obtain ⟨y1,y2⟩:=y
 obtain ⟨a,items,e,ta,ia,sa⟩:=hx
 obtain ⟨b,items2,e2,tb,ib,sb⟩:=hy
 dsimp only at e e2
 subst e e2
 rw [lt'_eq]
 refine Ak (Hv ?_)
 rw [he]
 have hq:decide (rkT f (.ref a,x2) < rkT f (.ref b,y2))=HT.lexLt (f a) (f b):=by
  have:=(zdX 8 (f a) (f b) sa.1 sb.1 sa.2 sb.2).1
  show decide (((lexR 8 (f a):Nat):Int) < ((lexR 8 (f b):Nat):Int))=_
  rw [Bd,decide_eq_true_eq,<- this]
  omega
 rw [hq] at q
 exact Ak (Jp (Gg (keyLt_tup hkd (hk _ _ ta) (hk _ _ tb) ia ib hu ⟨rfl,Ap q⟩)))⟩
noncomputable def IsFirst (h:Br) (v:A1) (f:Option A1):Prop:=∃ a o xs n,v = .ref a/\h.get? a=some o/\o.cls = .type "tuple" /\ o.data = .seq xs n/\f=xs[0]?
theorem zcx {M:Hm}:∀ (vs:List A1) (fs:List (Option A1)) {Q:List (Option A1)->A4->Prop},C3 (IsFirst s.heap) vs fs->Q fs s->wpAny M A (vs.mapM firstOfTuple') Q E s
 | _,_,_,.nil,h=>by rw [List.mapM_nil]; exact Ae h
 | _,_,Q,.cons (l₁ := vs) (l₂ := fs) r t,h=>by
  obtain ⟨a,o,xs,n,rfl,ho,hc,hd,rfl⟩:=r
  rw [List.mapM_cons]
  refine A2 ?_
  rw [kas_first_eq]
  refine A2 (Looks.here (show Looks M s.heap (typeOf (.ref a)) o.cls from (Looks.ld ho).andThen .now) ?_)
  rw [hc,if_neg (by first | decide | simp)]
  refine A2 (Rp ho hd (Ae ?_))
  exact A2 (zcx vs fs (Q:=fun bs s'=>wpAny M A (pure (xs[0]? :: bs)) Q E s') t (Ae h))
theorem tup_kind {M:Hm} {vs:List A1} (hv:∀ v∈vs,∃ a items ns,v = .ref a/\Jg s.heap a items/\Ee items.toList ns) (h2:2<=vs.length):∃ kd,TKind kd/\∀ Q:F5->A4->Prop,Q kd s->wpAny M A (keyKind' vs.toArray) Q E s:=by
 obtain ⟨fs,pf⟩:∃ fs,C3 (IsFirst s.heap) vs fs:=by
  clear h2
  induction vs with
  | nil=>exact ⟨[],.nil⟩
  | cons v vs ih =>
   obtain ⟨fs,pf⟩:=ih fun u hu=>hv u (A8 _ hu)
   obtain ⟨a,items,ns,rfl,⟨o,ho,hc,n,hd⟩,_⟩:=hv v Ag
   exact ⟨_ :: fs,.cons ⟨a,o,items,n,rfl,ho,hc,hd,rfl⟩ pf⟩
 by_cases hall:fs.toArray.all (fun x=>x.isSome)=true
 ·have kt:∃ gs,KatTups s.heap vs gs/\gs.length=vs.length/\∀ g∈gs,∃ i t,g=Hj i t:=by
   have hall':∀ x∈fs,x.isSome=true:=by simpa using hall
   clear h2 hall
   induction pf with
   | nil=>exact ⟨[],.nil,rfl,by simp⟩
   | @cons v f vs fs r t ih =>
    obtain ⟨gs,g1,g2,g3⟩:=ih (fun u hu=>hv u (A8 _ hu)) fun x hx=>hall' x (A8 _ hx)
    obtain ⟨a,o,xs,n,rfl,ho,hc,hd,rfl⟩:=r
    obtain ⟨a',items,ns,e,⟨o',ho',hc',n',hd'⟩,hI⟩:=hv _ Ag
    cases e
    rw [ho] at ho'
    cases ho'
    rw [hd] at hd'
    injection hd' with e1 e2
    subst e1
    obtain ⟨g,hg⟩:=D7.mp (hall' _ Ag)
    obtain ⟨t',e3⟩:=hI.int_at 0 g (by rw [Ct]; exact hg)
    exact ⟨g :: gs,.cons ho hc hd hg g1,by rw [Ar,g2,Ar],fun u hu=>by
     rcases B6.mp hu with rfl | hu
     ·exact ⟨_,_,e3⟩
     ·exact g3 u hu⟩
  obtain ⟨gs,g1,g2,g3⟩:=kt
  refine ⟨tuples' true,.inl rfl,fun Q q=>kat_kind (T := .type "int") g1 (by omega) (fun v hv => ?_) (by decide) (by
   have:(Em "int" != Em "tuple")=true:=by decide
   rw [this]; exact q)⟩
  obtain ⟨i,t,rfl⟩:=g3 v hv
  exact .now
 ·have hne:¬ (fs.toArray.all (fun x=>x.isSome)=true):=hall
  by_cases hfst:(fs.toArray[0]?.bind id).isSome=true
  ·refine ⟨general',.inr (.inl rfl),fun Q q => ?_⟩
   rw [kat_kind_eq,Js,map_eq_pure_bind]
   refine A2 (A2 (zcx vs _ pf (Ae ?_)))
   rw [if_neg hne,if_pos hfst]
   exact Ae q
  ·refine ⟨oneType',.inr (.inr rfl),fun Q q => ?_⟩
   rw [kat_kind_eq,Js,map_eq_pure_bind]
   refine A2 (A2 (zcx vs _ pf (Ae ?_)))
   rw [if_neg hne,if_neg hfst]
   rw [oneTypeOnly'_eq,Js,map_eq_pure_bind]
   refine A2 (A2 (A2 (kas_mapM (r:=Em "tuple") _ (fun v hv' Q' hq => ?_) (Ae ?_))))
   ·obtain ⟨a,items,ns,rfl,⟨o,ho,hc,n,hd⟩,_⟩:=hv v hv'
    refine Looks.here (show Looks M s.heap (typeOf (.ref a)) o.cls from (Looks.ld ho).andThen .now) ?_
    rw [hc]
    exact hq
   ·obtain ⟨v₁,rest,rfl⟩:∃ v₁ rest,vs=v₁ :: rest:=by
     match vs,h2 with
     | v₁ :: rest,_=>exact ⟨v₁,rest,rfl⟩
    have hall2:((Jt (fun _=>Em "tuple") (v₁ :: rest)).toArray.all fun x=>x == Em "tuple")=true:=by
     simp only [List.all_toArray,Ic,Cs]
     intro _ _
     show (Em "tuple" == Em "tuple")=true
     decide
    have h0:(Jt (fun _=>Em "tuple") (v₁ :: rest)).toArray[0]?=some (Em "tuple"):=by simp
    rw [h0]
    simp only [hall2,if_true]
    exact Ae (Ae q)
end
section
variable {prog:An} {w:B8} {A:B1} {E:A1->A4->Prop} {s:A4} {d:A3} {o:Obj} {es:Array Ix} {ep:Nat}
theorem ed_walks (hh:A.handled=none) (I:A3) (hne:d≠I) (hdat:o.data = .dict es ep):Walks prog w A I [I,d] [I] es.size (fun i v=>∃ e,es[i]?=some e/\v=e.key) (fun i h=>h.IsKeyIter I d i es.size ep/\h.get? d=some o) where
 sub:=fun b hb=>by simp at hb; simp [hb]
 frame:=fun _ _ _ st hk=>⟨st.1.at fun o e=>hk I (by simp) o e,hk d (by simp) _ st.2⟩
 item:=fun i s Q E hi st hQ=>by
  refine zgA st.1 st.2 hdat hi fun h' hit' hs' => ?_
  exact hQ _ h' s.toks ⟨es[i],by simp [hi],rfl⟩ ⟨hit',by rw [hs'.2 d hne]; exact st.2⟩ fun b o hb e=>hs'.extBut b o (fun h=>hb (by simp [h])) e
 done:=fun s Q E st hQ=>zg5 hh st.1 st.2 hdat (Ad _) fun h' he'=>hQ h' s.toks fun b o hb e=>he' b o (fun h=>hb (by simp [h])) e
 self:=fun _ _ _ _ st hQ=>Nu st.1 hQ
theorem kdl_ed (lo:(d == sysModules)=false) (hc:o.ExactDict) (hdat:o.data = .dict es ep):KdlSrc prog w "dict" d d es.size (fun i v=>∃ e,es[i]?=some e/\v=e.key) (fun h=>h.get? d=some o) where
 type:=fun s hm=>⟨o,hm,hc.1⟩
 there:=fun _ hm=>⟨Am hm,Am hm⟩
 keep:=fun _ _ hm hk=>hk d (.inl rfl) _ hm
 notList:=by decide
 notTuple:=by decide
 hint:=fun _ _ s _ hm hq=>kdl_hint_dict (s:=s) ⟨o,hm,hc.1⟩ hq
 iter:=fun _ _ hh hm=>⟨_,_,(fun _ _ hq=>zgB lo hm hc hdat hq),ed_walks hh _ (B7 (Am hm)) hdat,⟨⟨_,Ay _ rfl,rfl,rfl⟩,A7 _ hm⟩⟩
end
noncomputable def tupF (H:Hp) (b:A3):List Int:=match H b with
 | some (.tup xs)=>xs.map fun v=>match v with | .int i=>i | _=>0
 | _ => []
theorem zfQ {H:Hp} {b:A3} {ns:List Int} (h:H b=some (.tup (ns.map V.int))):tupF H b=ns:=by
 unfold tupF
 rw [h]
 show (ns.map V.int).map _=ns
 rw [Be]
 exact List.map_id'' (fun _=>rfl) ns
noncomputable def adr:A1->A3
 | .ref b=>b
 | _=>0
noncomputable def TupsR (H:Hp) (nss:List (List Int)) (ws:List V):Prop:=C3 (fun (ns:List Int) (v:V)=>∃ q,v = .ref q/\H q=some (.tup (ns.map V.int))) nss ws
section
variable {X:Cx}
theorem call_sortedDT (hc:X.calm=true) (hu:X.A.units + 64 < cLine):CallR X (.builtin "sorted") (fun xs H Q=>∃ (a:A3) (kvs:List (List Key×V)) (nss:List (List Int)),xs = [V.ref a]/\Rd H a (.dT kvs)/\kvs.map (·.1)=nss.map kI/\(∀ ns∈nss,Smalls ns)/\nss.length<=4096 /\
  ∀ p (nss':List (List Int)) (ws:List V),H p=none->nss'.Perm nss->nss'.Pairwise (fun x y=>lexR 8 x<=lexR 8 y)->TupsR H nss' ws->Q (.ref p) (upd H p (.lst ws))):=by
 intro pins s σ H xs us Q I r h
 obtain ⟨a,kvs,nss,rfl,hq,hk,hsm,hb,q⟩:=h
 obtain ⟨u,rfl,ru⟩:=zb5 r
 cases ru
 obtain ⟨hz,lo,xs,pr,o,es,ep,ho,hex,hdat,hes,hnd⟩:=(show ObjOk X.prog X.w H s.heap a (.dT kvs) from hq.ok I.hok)
 have hlx:kvs.length=xs.length:=Cp pr
 have hle:es.size=xs.length:=by rw [<- As,hes,A5]
 have hlen:xs.length=nss.length:=by
  have e2:=congrArg Fj hk
  rw [A5,A5] at e2
  omega
 have big:(4096:Nat)<=sizeLine:=by decide
 refine Gu kind_sorted Ro Rq (Rt _) ?_
 unfold G9.«sorted»
 refine A2 (m:=checkCount "sorted" 1 1 _) (Ae ?_)
 refine A2 (Lx (A:=X.A.in1) (kdl_ed (ep:=ep) lo hex hdat) (I.ok.hd hc) ho (by omega) fun h' tk acc hkeep hacc => ?_)
 have hl:acc.toList.length=xs.length:=by rw [As,<- hle]; exact hacc.1
 have hrow:∀ (j:Nat) v,acc.toList[j]?=some v->∃ b ns items,v = .ref b/\nss[j]?=some ns/\H b=some (.tup (ns.map V.int))/\Jg s.heap b items/\Ee items.toList ns:=by
  intro j v e1
  obtain ⟨e,e2,e3⟩:=hacc.2 j v (by rw [<- Ct]; exact e1)
  rw [<- Ct,hes,Ai] at e2
  cases hx:xs[j]? with
  | none=>rw [hx] at e2; cases e2
  | some x =>
   rw [hx] at e2
   cases e2
   obtain ⟨kv,e4,e5,e6,_⟩:=C3.rev pr hx
   have e7:(kvs.map (·.1))[j]?=some kv.1:=by rw [Ai,e4]; rfl
   rw [hk,Ai] at e7
   cases hn:nss[j]? with
   | none=>rw [hn] at e7; cases e7
   | some ns =>
    rw [hn] at e7
    have e7:kI ns=kv.1:=C1 e7
    rw [<- e7,kI_V] at e6
    obtain ⟨_,its,rv,it⟩:=(show ObjOk X.prog X.w H s.heap x.2.1 (.tup (ns.map V.int)) from I.hok _ _ e6)
    exact ⟨_,ns,its.toArray,e3,rfl,e6,it,by simpa using zcO rv⟩
 have hmem:∀ v∈acc.toList,∃ b items,v = .ref b/\Jg s.heap b items/\Ee items.toList (tupF H b)/\Smalls (tupF H b)/\H b=some (.tup ((tupF H b).map V.int)):=fun v hv=>by
  obtain ⟨j,hj,e⟩:=Fd hv
  obtain ⟨b,ns,items,rfl,e1,e2,e3,e4⟩:=hrow j v (by rw [Aa hj,e])
  have:=zfQ e2
  rw [<- this] at e1 e2 e4
  exact ⟨b,items,rfl,e3,e4,hsm _ (Bh e1),e2⟩
 have hmap:acc.toList.map (fun v=>tupF H (adr v))=nss:=by
  refine Fo fun j => ?_
  rw [Ai]
  by_cases hj:j < acc.toList.length
  ·obtain ⟨b,ns,items,e0,e1,e2,_,_⟩:=hrow j _ (Aa hj)
   rw [Aa hj,e1,Cq,e0]
   show some (tupF H b)=_
   rw [zfQ e2]
  ·rw [Cn (by omega),Cn (by omega)]
   rfl
 refine A2 (Mp ?_ (by rw [hl]; omega))
 have hoL:(h'.push (seqObj "list" acc.toList.toArray 0)).get? h'.objs.size=some (seqObj "list" acc.toList.toArray 0):=Ay _ rfl
 refine A2 (D1 (Ds Qi ⟨_,hoL,rfl⟩ Pm (sortR (rkT (tupF H)) (TupS s.heap (tupF H)) hoL (fun v hv => ?_) (by omega) (fun h2 h3 hk3 => ?_) fun out a2 a3=>⟨_,rfl,?_⟩) (Ql _)))
 ·obtain ⟨b,items,rfl,e3,e4,e5,_⟩:=hmem v hv
  exact ⟨b,items,rfl,e3,e4,e5⟩
 ·have kp:∀ a items,Jg s.heap a items->Jg h3 a items:=fun b items it=>by
   obtain ⟨o',e1,e2⟩:=it
   exact ⟨o',hk3 b _ (B7 (Am (hkeep _ _ e1))) (A7 _ (hkeep _ _ e1)),e2⟩
  obtain ⟨kd,k1,k2⟩:=tup_kind (M:=model X.prog X.w) (A:=X.A.in1.in1) (E:=fun e s'=>_) (s:={ s with heap:=h3,toks:=tk }) (vs:=acc.toList) (fun v hv=>by
   obtain ⟨b,items,rfl,e3,e4,_⟩:=hmem v hv
   exact ⟨b,items,_,rfl,kp _ _ e3,e4⟩) h2
  exact ⟨kd,k2,ranks_tup (s:={ s with heap:=h3,toks:=tk }) k1 (by show X.A.units + 1 + 1 < cLine; omega) (tupF H) kp⟩
 ·refine Ae ⟨_,rfl,?_⟩
  obtain ⟨e,he⟩:=Qs (out:=out.toArray) hoL
  have I1:Inv X pins σ H { s with heap:=h',toks:=tk }:=I.kept hkeep
  have hvo:Vals (out.map fun v=>V.ref (adr v)) out:=by
   have:∀ v∈out,∃ b,v = .ref b:=fun v hv=>by
    obtain ⟨b,_,e,_⟩:=hmem v (a2.mem_iff.mp hv)
    exact ⟨b,e⟩
   clear a2 a3 he
   induction out with
   | nil=>exact .nil
   | cons v out ih =>
    obtain ⟨b,rfl⟩:=this v Ag
    exact .cons rfl (ih fun u hu=>this u (A8 _ hu))
  have I2:=Inv.laid (o := .lst (out.map fun v=>V.ref (adr v))) (a:=h'.objs.size) (h':=sortedHeap (h'.push (seqObj "list" acc.toList.toArray 0)) h'.objs.size acc.toList out.toArray) (t':=tk) I1 (fun b o hb=>by
   have lt:=Am hb
   rw [Qh (B7 lt) (by rw [Ej]; exact F0 lt)]
   exact A7 _ hb) (Ad _) (show ObjOk X.prog X.w _ _ _ (.lst (out.map fun v=>V.ref (adr v))) from ⟨by rw [A5,a2.length_eq]; omega,out,e,hvo,he⟩)
  refine ⟨.ref h'.objs.size,_,I2,rfl,q _ (out.map fun v=>tupF H (adr v)) _ (I1.hok.fresh (Ad _)) ?_ ?_ ?_⟩
  ·rw [<- hmap]
   exact a2.map _
  ·rw [C4]
   refine Gb (fun {x y} hx hy h => ?_) a3
   obtain ⟨b,_,rfl,_⟩:=hmem x (a2.mem_iff.mp hx)
   obtain ⟨c,_,rfl,_⟩:=hmem y (a2.mem_iff.mp hy)
   have h:((lexR 8 (tupF H b):Nat):Int)<=((lexR 8 (tupF H c):Nat):Int):=h
   show lexR 8 (tupF H b)<=lexR 8 (tupF H c)
   omega
  ·have hm:∀ v∈out,H (adr v)=some (.tup ((tupF H (adr v)).map V.int)):=fun v hv=>by
    obtain ⟨b,_,rfl,_,_,_,e⟩:=hmem v (a2.mem_iff.mp hv)
    exact e
   clear a2 a3 he hvo I2
   induction out with
   | nil=>exact .nil
   | cons v out ih=>exact .cons ⟨_,rfl,hm v Ag⟩ (ih fun u hu=>hm u (A8 _ hu))
end
section
variable {X:Cx}
end
theorem behN_perm {C C':Combs} (p:C.Perm C') (l:List Nat):behN C l=behN C' l:=by
 unfold behN
 refine Jw fun s _ => ?_
 congr 1
 funext t
 exact any_perm (steps_perm p _) _
theorem zeg {C C':Combs} (p:C.Perm C'):∀ k,rowN C k=rowN C' k
 | 0=>rfl
 | k + 1=>by
  show behN C (rowN C k)=behN C' (rowN C' k)
  rw [zeg p k,behN_perm p]
theorem zcZ (s:Nat):Smalls (aheadOf (s:Int)):=by
 refine ⟨?_,fun x hx=>by have:=zbx x hx; omega⟩
 unfold aheadOf
 rw [A5]
 exact C0 (Cm _ _) (by rw [Ax]; decide)
end L2
set_option maxHeartbeats 4000000
namespace L2
open PySem PySem.Spec PyProof.Rows PySem.W
section
variable {prog:An} {w:B8} {A:B1} {E:A1->A4->Prop} {s:A4}
end
noncomputable def storeAll (kvs:List (Key×A1)):List (Key×A1):=kvs.foldl (fun m p=>stored m p.1 p.2) []
section
variable {prog:An} {w:B8} {A:B1} {E:A1->A4->Prop} {s:A4}
end
section
variable {prog:An} {w:B8} {A:B1} {E:A1->A4->Prop} {s:A4}
end
section
variable {X:Cx}
end
end L2
namespace L2
open PySem PySem.Spec PyProof.Rows
section
variable {X:Cx} {pins:List (A3×Obj)} {σ : St} {H:Hp} {s:A4} {h':Br}
end
end L2
namespace Att
open PySem PySem.W PySem.Calls PyProof.Rows
end Att
namespace L2
open PySem PySem.Spec PyProof.Rows
section
variable {X:Cx}
end
theorem zaR {s d:Nat} (hs:s < 128):((d:Nat):Int)∈aheadOf (s:Int) ↔ s.testBit d=true:=by
 rw [mem_ahead]
 constructor
 ·rintro ⟨_,_,h⟩
  simpa using h
 ·intro h
  refine ⟨by omega,Ke fun z => ?_,by simpa using h⟩
  have h7:7<=d:=by omega
  rw [Ik (Af hs (show 128<=2 ^ d from Ja (n:=2) (by decide) h7))] at h
  cases h
theorem zch {a b:Nat} (h:∀ d,a.testBit d=b.testBit d):a=b:=Jc h
noncomputable def StB (C:Combs) (s:Nat) (x:Str) (n:Nat):Prop:=(s.testBit 0=true/\x=A0 "" /\ ∀ d,n.testBit d=s.testBit (d + 1))\/(s.testBit 0=false/\∃ c∈C,x=c.1/\(∀ d:Nat,s.testBit d=true->(d:Int) ∉ c.2)/\∀ d,n.testBit d=(s.testBit (d + 1) || decide (((d + 1:Nat):Int)∈c.2)))
theorem zeA {C:Combs} (g:GC C) {s:Nat} (hs:s < 128) {p:Str×List Int} (hp:p∈goesOf C (aheadOf (s:Int))):∃ m:Nat,m < 128/\worth p.2=(m:Int)/\StB C s p.1 m:=by
 obtain ⟨k1,k2,k3,_⟩:=zb1 hs g hp
 refine ⟨(worth p.2).toNat,k1,by omega,?_⟩
 have e:=zeu k3
 generalize (worth p.2).toNat=m at k1 e
 unfold goesOf at hp
 by_cases h0:(0:Int)∈aheadOf (s:Int)
 ·rw [if_pos h0] at hp
  have hp:=A6.mp hp
  refine .inl ⟨(zaR hs).mp h0,by rw [hp],fun d => ?_⟩
  rw [Bd,<- zaR k1,<- zaR hs,<- e,hp,zc7 zbx (by simp)]
  simp
 ·rw [if_neg h0] at hp
  obtain ⟨c,hc,rfl⟩:=Ab.mp hp
  obtain ⟨hc1,hc2⟩:=Bc.mp hc
  have hm:meets (aheadOf (s:Int)) c.2=false:=by simpa using hc2
  refine .inr ⟨?_,c,hc1,rfl,fun d hd z=>meets_false.mp hm _ z ((zaR hs).mpr hd),fun d => ?_⟩
  ·cases z:s.testBit 0 with
   | false=>rfl
   | true=>exact absurd ((zaR hs).mpr z) h0
  ·rw [Bd,<- zaR k1,Ko,decide_eq_true_eq,<- zaR hs,<- e]
   exact zc7 zbx (zbV (g c hc1)) d
theorem zcK {C:Combs} (g:GC C) {s n:Nat} (hs:s < 128) {x:Str}:(x,(n:Int))∈stp C s ↔ n < 128/\StB C s x n:=by
 rw [<- zbl hs g,Ab]
 constructor
 ·rintro ⟨p,hp,e⟩
  obtain ⟨m,m1,m2,m3⟩:=zeA g hs hp
  injection e with e1 e2
  have:m=n:=by omega
  subst this
  exact ⟨m1,e1 ▸ m3⟩
 ·rintro ⟨hn,h⟩
  have key:∀ p∈goesOf C (aheadOf (s:Int)),p.1=x->(∀ m,worth p.2=(m:Nat)->StB C s p.1 m->m=n)->∃ p∈goesOf C (aheadOf (s:Int)),(p.1,worth p.2)=(x,(n:Int)):=fun p hp e1 e2=>by
   obtain ⟨m,_,m2,m3⟩:=zeA g hs hp
   exact ⟨p,hp,by rw [e1,m2,e2 m m2 m3]⟩
  rcases h with ⟨h0,rfl,hb⟩ | ⟨h0,c,hc,rfl,hx,hb⟩
  ·refine key (A0 "",afterOf (aheadOf (s:Int)) []) ?_ rfl fun m _ hm => ?_
   ·unfold goesOf
    rw [if_pos (show (0:Int)∈aheadOf (s:Int) from (zaR hs).mpr h0)]
    exact A6.mpr rfl
   ·rcases hm with ⟨_,_,hb'⟩ | ⟨h0',_⟩
    ·exact zch fun d=>by rw [hb,hb']
    ·rw [h0] at h0'; cases h0'
  ·have n0:(0:Int) ∉ aheadOf (s:Int):=fun z=>by
    have:=(zaR (d:=0) hs).mp z
    rw [h0] at this; cases this
   have hp:(c.1,afterOf (aheadOf (s:Int)) c.2)∈goesOf C (aheadOf (s:Int)):=by
    unfold goesOf
    rw [if_neg n0]
    refine Ab.mpr ⟨c,Bc.mpr ⟨hc,?_⟩,rfl⟩
    have:meets (aheadOf (s:Int)) c.2=false:=meets_false.mpr fun t ht z=>by
     have h1:=zbx t z
     obtain ⟨d,rfl⟩:=Hu h1.1
     exact hx d ((zaR hs).mp z) ht
    rw [this]; rfl
   obtain ⟨k1,k2,k3,_⟩:=zb1 hs g hp
   have e:=zeu k3
   refine ⟨_,hp,?_⟩
   have e2:(worth (afterOf (aheadOf (s:Int)) c.2)).toNat=n:=by
    refine zch fun d => ?_
    rw [Bd,<- zaR k1,hb,Ko,decide_eq_true_eq,<- zaR hs]
    dsimp only at e ⊢
    rw [<- e]
    exact zc7 zbx (zbV (g c hc)) d
   dsimp only at k2 e2 ⊢
   rw [<- e2,show (((worth (afterOf (aheadOf (s:Int)) c.2)).toNat:Nat):Int)=worth (afterOf (aheadOf (s:Int)) c.2) by omega]
noncomputable def hit (C:Combs) (x:Nat×Str) (q:Nat):Bool:=decide (x.1<=q) && decide (((q - x.1:Nat):Int)∈tkOf C x.2)
noncomputable def cov (C:Combs) (l:List (Nat×Str)) (q:Nat):Nat:=(l.map fun x=>ind (hit C x q)).sum
theorem zb2 (C:Combs) (l:List (Nat×Str)) (x:Nat×Str) (q:Nat):cov C (l ++ [x]) q=cov C l q + ind (hit C x q):=by
 unfold cov
 rw [Bi,Kl]
 simp
noncomputable def chs (C:Combs):Nat->List (List (Nat×Str))
 | 0 => [[]]
 | p + 1=>(chs C p).flatMap fun r=>r :: C.map fun c=>r ++ [(p,c.1)]
noncomputable def OkC (C:Combs) (l:List (Nat×Str)) (p:Nat):Prop:=(∀ q,q < p->cov C l q=1)/\∀ q,q < p + 8->cov C l q<=1
noncomputable def shp (C:Combs) (l:List (Nat×Str)) (p:Nat):Nat:=bitSum (fun d=>decide (cov C l (p + d)=1)) 7
theorem zdj {C:Combs}:∀ {p:Nat} {l:List (Nat×Str)},l∈chs C p->∀ x∈l,x.1 < p/\x.2∈C.map (·.1)
 | 0,l,h,x,hx=>by
  rw [A6.mp (show l ∈ [[]] from h)] at hx
  cases hx
 | p + 1,l,h,x,hx=>by
  obtain ⟨r,hr,h⟩:=Do.mp h
  rcases B6.mp h with rfl | h
  ·have:=zdj hr x hx
   exact ⟨by omega,this.2⟩
  ·obtain ⟨c,hc,rfl⟩:=Ab.mp h
   rcases Ao.mp hx with z | z
   ·have:=zdj hr x z
    exact ⟨by omega,this.2⟩
   ·rw [A6.mp z]
    exact ⟨El _,Ab.mpr ⟨c,hc,rfl⟩⟩
theorem tk_in {C:Combs} (g:GC C) {x:Str} {t:Int} (h:t∈tkOf C x):0<=t/\t<=7:=by
 unfold tkOf at h
 cases e:cGet C x with
 | none=>rw [e] at h; cases h
 | some ts=>rw [e] at h; exact zbV (g _ (zd2 e)) t h
theorem zfd {α : Type} {l:List α} {f : α -> Nat} (h:∀ x∈l,f x=0):(l.map f).sum=0:=by
 induction l with
 | nil=>rfl
 | cons a l ih =>
  rw [Aq,Ef,h a Ag,ih fun x hx=>h x (A8 _ hx)]
theorem zcf {C:Combs} (g:GC C) {p:Nat} {l:List (Nat×Str)} (h:l∈chs C p) {q:Nat} (hq:p + 7<=q):cov C l q=0:=zfd fun x hx=>by
 have:=(zdj h x hx).1
 unfold hit
 rw [decide_eq_false (show ¬ ((q - x.1:Nat):Int)∈tkOf C x.2 from fun z=>by have:=(tk_in g z).2; omega),Ob]
 rfl
theorem zdy (C:Combs) (l:List (Nat×Str)) (p:Nat):shp C l p < 128:=zcu _ 7
theorem zaB {C:Combs} (g:GC C) {p:Nat} {l:List (Nat×Str)} (h:l∈chs C p) (d:Nat):(shp C l p).testBit d=decide (cov C l (p + d)=1):=by
 unfold shp
 rw [zbH]
 by_cases hd:d < 7
 ·rw [decide_eq_true hd,Ff]
 ·rw [decide_eq_false hd,F9,zcf g h (by omega)]
  rfl
theorem zfC {C:Combs} (nd:(C.map (·.1)).Nodup) {c:Str×List Int} (hc:c∈C) (p d:Nat):hit C (p,c.1) (p + d)=decide ((d:Int)∈c.2):=by
 unfold hit tkOf
 rw [zcd nd hc]
 simp
theorem hit_below {C:Combs} {p q:Nat} {x:Str} (h:q < p):hit C (p,x) q=false:=by
 unfold hit
 rw [decide_eq_false (show ¬ p<=q by omega),F9]
theorem zeW {C:Combs} {p:Nat} {l:List (Nat×Str)} (hl:l∈chs C p) (g:GC C):OkC C l (p + 1) ↔ OkC C l p/\cov C l p=1:=by
 constructor
 ·rintro ⟨h1,h2⟩
  exact ⟨⟨fun q hq=>h1 q (by omega),fun q hq=>h2 q (by omega)⟩,h1 p (by omega)⟩
 ·rintro ⟨⟨h1,h2⟩,h3⟩
  refine ⟨fun q hq => ?_,fun q hq => ?_⟩
  ·by_cases e:q=p
   ·rw [e]; exact h3
   ·exact h1 q (by omega)
  ·by_cases e:q < p + 8
   ·exact h2 q e
   ·rw [zcf g hl (by omega)]; omega
theorem zeV {C:Combs} {p:Nat} {l:List (Nat×Str)} (hl:l∈chs C p) (g:GC C) (nd:(C.map (·.1)).Nodup) {c:Str×List Int} (hc:c∈C):OkC C (l ++ [(p,c.1)]) (p + 1) ↔ OkC C l p/\cov C l p=0/\∀ d:Nat,cov C l (p + d)=1->(d:Int) ∉ c.2:=by
 have e1:∀ q,q < p->cov C (l ++ [(p,c.1)]) q=cov C l q:=fun q hq=>by rw [zb2,hit_below hq]; rfl
 have e2:∀ d,cov C (l ++ [(p,c.1)]) (p + d)=cov C l (p + d) + ind (decide ((d:Int)∈c.2)):=fun d=>by rw [zb2,zfC nd hc]
 have h0:(0:Int)∈c.2:=zcD (g c hc)
 have e0:cov C (l ++ [(p,c.1)]) p=cov C l p + 1:=by
  have:=e2 0
  rw [decide_eq_true (show ((0:Nat):Int)∈c.2 from h0)] at this
  exact this
 constructor
 ·rintro ⟨h1,h2⟩
  have hp:=h1 p (by omega)
  refine ⟨⟨fun q hq=>by rw [<- e1 q hq]; exact h1 q (by omega),fun q hq => ?_⟩,by omega,fun d hd z => ?_⟩
  ·by_cases e:q < p
   ·rw [<- e1 q e]; exact h2 q (by omega)
   ·have:=h2 q (by omega)
    have e3:=e2 (q - p)
    rw [show p + (q - p)=q by omega] at e3
    omega
  ·have e3:=e2 d
   rw [hd,decide_eq_true z] at e3
   have hd8:d<=7:=by have:=(zbV (g c hc) _ z).2; omega
   have:=h2 (p + d) (by omega)
   rw [e3] at this
   exact absurd this (by decide)
 ·rintro ⟨⟨h1,h2⟩,h3,h4⟩
  refine ⟨fun q hq => ?_,fun q hq => ?_⟩
  ·by_cases e:q=p
   ·rw [e,e0,h3]
   ·rw [e1 q (by omega)]; exact h1 q (by omega)
  ·by_cases e:q < p
   ·rw [e1 q e]; exact h2 q (by omega)
   ·have e3:=e2 (q - p)
    rw [show p + (q - p)=q by omega] at e3
    have hle:cov C l q<=1:=by
     by_cases e':q < p + 8
     ·exact h2 q e'
     ·rw [zcf g hl (by omega)]; omega
    rw [e3]
    by_cases z:((q - p:Nat):Int)∈c.2
    ·have:cov C l q≠1:=fun y=>h4 (q - p) (by rw [show p + (q - p)=q by omega]; exact y) z
     rw [decide_eq_true z]
     show cov C l q + 1<=1
     omega
    ·rw [decide_eq_false z]
     exact hle
theorem zgI {C:Combs} (g:GC C) (nd:(C.map (·.1)).Nodup):∀ (p n:Nat),n∈rowN C p ↔ ∃ l∈chs C p,OkC C l p/\shp C l p=n
 | 0,n=>by
  show n ∈ [0] ↔ ∃ l ∈ [[]],OkC C l 0/\shp C l 0=n
  have e:shp C [] 0=0:=rfl
  have o:OkC C [] 0:=⟨fun q hq=>by omega,fun q _=>C6 _⟩
  rw [A6]
  constructor
  ·rintro rfl
   exact ⟨[],A6.mpr rfl,o,e⟩
  ·rintro ⟨l,hl,_,h⟩
   rw [A6.mp hl,e] at h
   exact h.symm
 | p + 1,n=>by
  have ih:=zgI g nd p
  rw [show rowN C (p + 1)=behN C (rowN C p) from rfl,beh_mem]
  have bn:∀ l∈chs C p,∀ d,(shp C l (p + 1)).testBit d=decide (cov C l (p + 1 + d)=1):=fun l hl d=>zaB g (p:=p + 1) (Do.mpr ⟨l,hl,Ag⟩) d
  have bs:∀ l∈chs C p,∀ c∈C,∀ d,(shp C (l ++ [(p,c.1)]) (p + 1)).testBit d=decide (cov C (l ++ [(p,c.1)]) (p + 1 + d)=1):=fun l hl c hc d=>zaB g (p:=p + 1) (Do.mpr ⟨l,hl,A8 _ (Ab.mpr ⟨c,hc,rfl⟩)⟩) d
  constructor
  ·rintro ⟨hn,t,ht,pr,hp,e⟩
   have t128:=(rowN_ok C p).1 t ht
   obtain ⟨l,hl,ol,rfl⟩:=(ih t).mp ht
   obtain ⟨x,y⟩:=pr
   have hy:=(zdt g t128 hp).1
   dsimp only at e hy
   have:y=(n:Int):=by omega
   subst this
   obtain ⟨_,hb⟩:=(zcK g t128).mp hp
   rcases hb with ⟨h0,_,hb⟩ | ⟨h0,c,hc,_,hx,hb⟩
   ·rw [zaB g hl,decide_eq_true_eq] at h0
    refine ⟨l,Do.mpr ⟨l,hl,Ag⟩,(zeW hl g).mpr ⟨ol,h0⟩,zch fun d => ?_⟩
    rw [bn l hl,hb,zaB g hl,show p + 1 + d=p + (d + 1) by omega]
   ·rw [zaB g hl,decide_eq_false_iff_not] at h0
    have hz:cov C l p=0:=by have:=ol.2 p (by omega); have h0:¬ cov C l p=1:=h0; omega
    refine ⟨l ++ [(p,c.1)],Do.mpr ⟨l,hl,A8 _ (Ab.mpr ⟨c,hc,rfl⟩)⟩,(zeV hl g nd hc).mpr ⟨ol,hz,fun d hd=>hx d (by rw [zaB g hl,decide_eq_true hd])⟩,zch fun d => ?_⟩
    rw [bs l hl c hc,hb,zaB g hl,show p + 1 + d=p + (d + 1) by omega,zb2,zfC nd hc]
    have hx':=hx (d + 1)
    rw [zaB g hl,decide_eq_true_eq] at hx'
    have hle:cov C l (p + (d + 1))<=1:=by
     by_cases e':d + 1 < 8
     ·exact ol.2 _ (by omega)
     ·rw [zcf g hl (by omega)]; omega
    by_cases a:cov C l (p + (d + 1))=1
    ·rw [decide_eq_false (hx' a),a]; rfl
    ·have a0:cov C l (p + (d + 1))=0:=by omega
     by_cases z:((d + 1:Nat):Int)∈c.2
     ·rw [decide_eq_true z,a0]; rfl
     ·rw [decide_eq_false z,a0]; rfl
  ·rintro ⟨l',hl',ol',rfl⟩
   refine ⟨zdy _ _ _,?_⟩
   obtain ⟨l,hl,h⟩:=Do.mp hl'
   rcases B6.mp h with rfl | h
   ·obtain ⟨ol,h0⟩:=(zeW hl g).mp ol'
    refine ⟨shp C l' p,(ih _).mpr ⟨l',hl,ol,rfl⟩,(A0 "",((shp C l' (p + 1):Nat):Int)),(zcK g (zdy _ _ _)).mpr ⟨zdy _ _ _,.inl ⟨?_,rfl,fun d => ?_⟩⟩,by simp⟩
    ·rw [zaB g hl]; exact decide_eq_true h0
    ·rw [bn l' hl,zaB g hl,show p + 1 + d=p + (d + 1) by omega]
   ·obtain ⟨c,hc,rfl⟩:=Ab.mp h
    obtain ⟨ol,h0,hx⟩:=(zeV hl g nd hc).mp ol'
    refine ⟨shp C l p,(ih _).mpr ⟨l,hl,ol,rfl⟩,(c.1,((shp C (l ++ [(p,c.1)]) (p + 1):Nat):Int)),(zcK g (zdy _ _ _)).mpr ⟨zdy _ _ _,.inr ⟨?_,c,hc,rfl,fun d hd => ?_,fun d => ?_⟩⟩,by simp⟩
    ·rw [zaB g hl]; exact decide_eq_false (by rw [show p + 0=p from rfl,h0]; decide)
    ·rw [zaB g hl,decide_eq_true_eq] at hd
     exact hx d hd
    ·rw [bs l hl c hc,zaB g hl,show p + 1 + d=p + (d + 1) by omega,zb2,zfC nd hc]
     have hx':=hx (d + 1)
     have hle:cov C l (p + (d + 1))<=1:=by
      by_cases e':d + 1 < 8
      ·exact ol.2 _ (by omega)
      ·rw [zcf g hl (by omega)]; omega
     by_cases a:cov C l (p + (d + 1))=1
     ·rw [decide_eq_false (hx' a),a]; rfl
     ·have a0:cov C l (p + (d + 1))=0:=by omega
      by_cases z:((d + 1:Nat):Int)∈c.2
      ·rw [decide_eq_true z,a0]; rfl
      ·rw [decide_eq_false z,a0]; rfl
section
variable {P:An} {w:B8} {A:B1} {E:A1->A4->Prop} {s:A4}
noncomputable def Inner (P:An) (w:B8) (h:Br):List (List Key)->List A1->Prop:=C3 fun k v=>∃ b,v = .ref b/\Me (mixKind P w) h k b
noncomputable def IsNest (P:An) (w:B8) (h:Br) (ks:List (List Key)) (a:A3):Prop:=∃ ob its m,h.get? a=some ob/\ob.cls = .type "tuple" /\ ob.data = .seq its m/\Inner P w h ks its.toList
theorem IsNest.type {ks:List (List Key)} {a:A3} (x:IsNest P w s.heap ks a):s.TypeIs (.ref a) "tuple" := by
 obtain ⟨ob,_,_,e1,e2,_⟩:=x
 exact ⟨ob,e1,e2⟩
theorem zex {h:Br}:∀ {x y:List (List Key)} {vs:List A1},Inner P w h x vs->Inner P w h y vs->x=y
 | _,_,_,.nil,.nil=>rfl
 | _,_,_,.cons ⟨b,e,k⟩ r,.cons ⟨c,e',k'⟩ r'=>by
  rw [e] at e'
  cases e'
  rw [k.inj k',zex r r']
theorem zfx {h:Br} {a:A3} {x y:List (List Key)} (hx:IsNest P w h x a) (hy:IsNest P w h y a):x=y:=by
 obtain ⟨ob,its,m,e1,_,e2,r⟩:=hx
 obtain ⟨ob',its',m',e1',_,e2',r'⟩:=hy
 rw [e1] at e1'
 cases e1'
 rw [e2] at e2'
 cases e2'
 exact zex r r'
theorem nest_keeps {h h':Br} {ks:List (List Key)} {a d:A3} {o:Obj} {es:Array Ix} {ep:Nat} (x:IsNest P w h ks a) (ho:h.get? d=some o) (hd:o.data = .dict es ep) (hs:Fb d h h'):IsNest P w h' ks a:=by
 obtain ⟨ob,its,m,e1,e2,e3,r⟩:=x
 refine ⟨ob,its,m,?_,e2,e3,C3.mapP r fun k v ⟨b,e,kk⟩=>⟨b,e,kk.keeps ho hd hs⟩⟩
 rw [<- e1]
 refine hs.2 a fun z => ?_
 rw [z,ho] at e1
 cases e1
 rw [hd] at e3
 cases e3
noncomputable def nestHash (P:An) (w:B8) (ks:List (List Key)):Int:=reduceHash (Et (ks.map (tupleKeyHash (mixKind P w))))
noncomputable def nestDraws (ks:List (List Key)):Nat:=(ks.map fun k=>k.length + 1).sum + 1
theorem nest_hash {ks:List (List Key)} {a:A3} {Q:Int->A4->Prop} (hu:A.units + 4 < cLine) (hk:IsNest P w s.heap ks a) (q:Q (nestHash P w ks) { s with toks:=s.toks + nestDraws ks }):wpAny (model P w) A (pyHash (.ref a)) Q E s:=by
 have ty:=hk.type
 obtain ⟨ob,its,m,e1,_,e3,r⟩:=hk
 unfold pyHash pyHashByItsType
 refine A2 (wpAny_cRoomFor_or (.inr (by omega)) (A2 (Gp ty Hr.lookup ?_)))
 dsimp only
 rw [if_neg (by rw [beq_builtin_none]; decide)]
 refine A2 (Gp ty Hr.lookup ?_)
 refine A2 (wpAny_callSpecialIfBoundUnlessNone?_slot ty Hr (Ds Hr ty F.entry_tuple_hash ?_ (F.args_tuple_hash_1 _)))
 change wpAny (model P w) A.in1 (Pg (Az a) >>= fun arr=>_) _ E s
 refine A2 (Kg e1 e3 (A2 ?_))
 rw [<- Jm]
 refine Ge _ (fun rest (b:Array Int) s'=>∃ done left,ks=done ++ left/\Inner P w s.heap left rest/\b.toList=done.map (tupleKeyHash (mixKind P w))/\s'={ s with toks:=s.toks + (done.map fun k=>k.length + 1).sum }) _ ?_ ?_ _ _ ⟨[],ks,rfl,r,rfl,rfl⟩
 ·rintro v rest b s' ⟨done,left,rfl,hl,hb,rfl⟩
  cases hl with
  | @cons k _ ks' _ h1 hl' =>
   obtain ⟨c,rfl,hc⟩:=h1
   have fin:∃ done' left',done ++ k :: ks'=done' ++ left'/\Inner P w s.heap left' rest/\(b.push (tupleKeyHash (mixKind P w) k)).toList=done'.map (tupleKeyHash (mixKind P w))/\({ s with toks:=s.toks + (done.map fun k=>k.length + 1).sum + (k.length + 1) }:A4)={ s with toks:=s.toks + (done'.map fun k=>k.length + 1).sum } :=
    ⟨done ++ [k],ks',by simp,hl',by simp [hb],by simp [Ew]⟩
   refine A2 (wpAny_pyHash_tuple (knd:=mixKind P w) (s:={ s with toks:=s.toks + (done.map fun k=>k.length + 1).sum }) (by rw [L6]; omega) hc ?_)
   first
    | exact Ae fin
    | exact A2 (Ae (Ae fin))
 ·rintro b s' ⟨done,left,rfl,hl,hb,rfl⟩
  cases hl
  rw [Bw] at q
  change wpAny (model P w) A.in1 (retInt (Et b.toList)) _ E _
  rw [hb]
  refine Pj ?_
  unfold nestHash reduceHash at q
  unfold nestDraws at q
  rw [<- Ew] at q
  change wpAny (model P w) A (if (decide (-(2:Int) ^ 63<=Et (done.map (tupleKeyHash (mixKind P w)))) && decide (Et (done.map (tupleKeyHash (mixKind P w))) < 2 ^ 63))=true then _ else _) Q E _
  split
  ·rename_i c
   rw [if_pos c] at q
   exact Ae q
  ·rename_i c
   rw [if_neg c] at q
   exact A2 (Ft (Ae q))
theorem nest_eq_tree {x y:List (List Key)} {a b:A3} {R:Po->A4->Prop} (hu:A.units < cLine) (hx:IsNest P w s.heap x a) (hy:IsNest P w s.heap y b) (q:R (.done (.ret (.bool (decide (x=y))))) s) :
  wpAny (model P w) A (G9.«tuple.__eq__» ⟨[.ref a,.ref b],[]⟩) R E s:=by
 have ty:=hy.type
 obtain ⟨oa,xs,na,a1,_,a3,ra⟩:=hx
 obtain ⟨ob,ys,nb,b1,_,b3,rb⟩:=hy
 change wpAny (model P w) A (isInstance (Az b) (.type "tuple") >>= fun c=>_) R E s
 refine A2 (Gd ty Ji ?_)
 simp only [Eg,Bp,if_false]
 refine A2 (Kg a1 a3 (A2 (Kg b1 b3 (A2 ?_))))
 refine Ge _ (fun rest r s'=>r.1=none/\s'=s/\∃ x' y' xs' ys',rest=List.zip xs' ys'/\Inner P w s.heap x' xs'/\Inner P w s.heap y' ys'/\(x'=y' ↔ x=y)/\(xs'.length=ys'.length ↔ xs.size=ys.size)) _ ?_ ?_ _ _ ⟨rfl,rfl,x,y,xs.toList,ys.toList,rfl,ra,rb,Iff.rfl,by simp⟩
 ·rintro ⟨u,v⟩ rest r s' ⟨hr,rfl,x',y',xs',ys',hz,hx',hy',hd,hl⟩
  cases hx' with
  | nil=>simp at hz
  | @cons k1 u' x2 xs2 h1 t1 =>
   cases hy' with
   | nil=>simp at hz
   | @cons k2 v' y2 ys2 h2 t2 =>
    rw [Go] at hz
    injection hz with hz1 hz2
    injection hz1 with z1 z2
    subst z1 z2 hz2
    obtain ⟨c1,rfl,g1⟩:=h1
    obtain ⟨c2,rfl,g2⟩:=h2
    refine A2 (wpAny_eqBool_tuple hu g1 g2 ?_)
    by_cases e:k1=k2
    ·subst e
     rw [decide_eq_true rfl]
     simp only [Eg,Bp,if_false]
     exact Ae ⟨rfl,rfl,x2,y2,xs2,ys2,rfl,t1,t2,by rw [<- hd]; simp,by rw [<- hl]; simp⟩
    ·rw [decide_eq_false e]
     simp only [Bool.not_false,if_true]
     have ne:¬ x=y:=fun z=>by
      have:=hd.mpr z
      injection this with z1 _
      exact e z1
     rw [decide_eq_false ne] at q
     exact A2 (Ae (Ae (Ae q)))
 ·rintro ⟨r1,r2⟩ s' ⟨hr,rfl,x',y',xs',ys',hz,hx',hy',hd,hl⟩
  dsimp only at hr
  subst hr
  refine Ae ?_
  have e:(xs.size == ys.size)=decide (x=y):=by
   rw [Bd,beq_iff_eq,decide_eq_true_eq,<- hd,<- hl]
   cases hx' with
   | nil=>cases hy' with
    | nil=>simp
    | cons _ _=>simp
   | cons _ _=>cases hy' with
    | nil=>simp
    | cons _ _=>simp at hz
  change R (.done (.ret (.bool (xs.size == ys.size)))) s'
  rw [e]
  exact q
theorem nest_eq {x y:List (List Key)} {a b:A3} {Q:Bool->A4->Prop} (hu:A.units + 4 < cLine) (hx:IsNest P w s.heap x a) (hy:IsNest P w s.heap y b) (q:Q (decide (x=y)) s):wpAny (model P w) A (eqBool (.ref a) (.ref b)) Q E s:=by
 unfold eqBool
 try with_reducible refine D1 ?_
 change wpAny (model P w) A (if (Az a == Az b)=true then _ else _) Q E s
 by_cases e:(Az a == Az b)=true
 ·rw [if_pos e]
  have e':=eq_of_beq e
  cases e'
  rw [decide_eq_true (zfx hx hy)] at q
  exact A2 (Ft (Ae q))
 ·rw [if_neg e]
  exact A2 (wpAny_richCompare_same_room (op := .Eq) hx.type hy.type J4 (Ds J4 hx.type F.entry_tuple_eq (nest_eq_tree (by rw [L6]; omega) hx hy ⟨_,rfl,(fun z=>nomatch z),Cy q⟩) (F.args_tuple_eq_2 _ _)) (by omega))
theorem tup_quiet {M:Hm} {n:Nat} {ks:List Key} {a:A3} {Q:Bool->A4->Prop} (hk:Me (mixKind P w) s.heap ks a) (q:Q true s):wpAny M A (eqIsQuiet (n + 1) (.ref a)) Q E s:=by
 have ty:=hk.typeIs
 obtain ⟨ob,its,m,e1,_,e3,r⟩:=hk
 unfold eqIsQuiet
 refine A2 (Gp ty J4.lookup ?_)
 change wpAny M A (isInstance (Az a) (.type "tuple") >>= fun c=>_) Q E s
 refine A2 (Gd ty Ji ?_)
 simp only [Eg,Bp,if_false]
 refine A2 (Qe e1 e3 (A2 ?_))
 change wpAny M A (forIn its _ _) _ E s
 rw [<- Jm]
 refine Ge _ (fun rest r s'=>r.1=none/\s'=s/\∀ v∈rest,carriedByValue v=true) _ ?_ ?_ _ _ ⟨rfl,rfl,r.byValue⟩
 ·rintro v rest r s' ⟨_,rfl,hv⟩
  rw [eqIsQuiet_byValue _ (hv v Ag)]
  refine A2 (Ae ?_)
  simp only [Eg,Bp,if_false]
  exact Ae ⟨rfl,rfl,fun u hu'=>hv u (A8 _ hu')⟩
 ·rintro ⟨r1,r2⟩ s' ⟨hr,rfl,_⟩
  dsimp only at hr
  subst hr
  exact Ae q
theorem nest_quiet {M:Hm} {ks:List (List Key)} {a:A3} {Q:Bool->A4->Prop} (hk:IsNest P w s.heap ks a) (q:Q true s):wpAny M A (eqIsQuiet 8 (.ref a)) Q E s:=by
 have ty:=hk.type
 obtain ⟨ob,its,m,e1,_,e3,r⟩:=hk
 unfold eqIsQuiet
 refine A2 (Gp ty J4.lookup ?_)
 change wpAny M A (isInstance (Az a) (.type "tuple") >>= fun c=>_) Q E s
 refine A2 (Gd ty Ji ?_)
 simp only [Eg,Bp,if_false]
 refine A2 (Qe e1 e3 (A2 ?_))
 change wpAny M A (forIn its _ _) _ E s
 rw [<- Jm]
 have hall:∀ v∈its.toList,∃ k b,v = .ref b/\Me (mixKind P w) s.heap k b:=fun v hv=>by
  obtain ⟨i,hi⟩:=Is.mp hv
  obtain ⟨k,_,b,e,hk⟩:=C3.rev r hi
  exact ⟨k,b,e,hk⟩
 refine Ge _ (fun rest r s'=>r.1=none/\s'=s/\∀ v∈rest,∃ k b,v = .ref b/\Me (mixKind P w) s.heap k b) _ ?_ ?_ _ _ ⟨rfl,rfl,hall⟩
 ·rintro v rest r s' ⟨_,rfl,hv⟩
  obtain ⟨k,b,rfl,hk⟩:=hv v Ag
  refine A2 (tup_quiet (n:=6) hk ?_)
  simp only [Eg,Bp,if_false]
  exact Ae ⟨rfl,rfl,fun u hu'=>hv u (A8 _ hu')⟩
 ·rintro ⟨r1,r2⟩ s' ⟨hr,rfl,_⟩
  dsimp only at hr
  subst hr
  exact Ae q
end
noncomputable def nestKind (P:An) (w:B8):HeapKind P w (List (List Key)) where
 is:=IsNest P w
 hash:=nestHash P w
 draws:=nestDraws
 room:=fun A=>A.units + 4 < cLine
 inj:=zfx
 keeps:=nest_keeps
 pyHash:=nest_hash
 eqBool:=nest_eq
 quiet:=nest_quiet
noncomputable def NestAt (H:Hp) (b:A3) (ks:List (List Key)):Prop:=∃ ws,H b=some (.tup ws)/\C3 (fun (k:List Key) (v:V)=>∃ c,v = .ref c/\H c=some (.tup (k.map kV))) ks ws
noncomputable abbrev NX:=List (List Key)×A3×V
noncomputable def nestIn (P:An) (w:B8) (a:A3) (xs:List NX) (h:Br):Prop:=xs.length<=sizeLine/\(a == sysModules)=false/\∃ ys:List (List (List Key)×A3×A1),C3 (fun (p:NX) (q:List (List Key)×A3×A1)=>p.1=q.1/\p.2.1=q.2.1/\RelV p.2.2 q.2.2) xs ys /\
 ∃ o es ep,h.get? a=some o/\o.ExactDict/\o.data = .dict es ep/\es.toList=ys.map (entryOfKey (nestKind P w))/\(ys.map (·.1)).Nodup
noncomputable def DN (P:An) (w:B8) (a:A3) (xs:List NX):HO := .ext (nestIn P w a xs)
noncomputable def nks (xs:List NX):List (List (List Key)):=xs.map (·.1)
noncomputable def hasN (l:List (List (List Key))) (ks:List (List Key)):Bool:=l.any fun z=>decide (z=ks)
theorem hasN_iff {l:List (List (List Key))} {ks:List (List Key)}:hasN l ks=true ↔ ks∈l:=by
 unfold hasN
 rw [Bs]
 exact ⟨fun ⟨x,h1,h2⟩=>of_decide_eq_true h2 ▸ h1,fun h=>⟨ks,h,decide_eq_true rfl⟩⟩
theorem zfD {l:List (List (List Key))} {ks:List (List Key)} (h:ks ∉ l):hasN l ks=false:=by
 cases e:hasN l ks with
 | false=>rfl
 | true=>exact absurd (hasN_iff.mp e) h
noncomputable def KeysN (H:Hp) (xs:List NX):Prop:=∀ x∈xs,NestAt H x.2.1 x.1
noncomputable def NDict (P:An) (w:B8) (H:Hp) (a:A3) (xs:List NX):Prop:=((xs = []/\H a=some (.dK []))\/H a=some (DN P w a xs))/\KeysN H xs
theorem NestAt.same {H H':Hp} {b:A3} {ks:List (List Key)} (n:NestAt H b ks) (m:∀ q xs,H q=some (.tup xs)->H' q=some (.tup xs)):NestAt H' b ks:=by
 obtain ⟨ws,e,r⟩:=n
 exact ⟨ws,m _ _ e,C3.mapP r fun _ _ ⟨c,e1,e2⟩=>⟨c,e1,m _ _ e2⟩⟩
theorem KeysN.same {H H':Hp} {xs:List NX} (n:KeysN H xs) (m:∀ q xs,H q=some (.tup xs)->H' q=some (.tup xs)):KeysN H' xs:=fun x hx=>(n x hx).same m
section
variable {P:An} {w:B8} {H:Hp} {h:Br} {a b:A3} {xs:List NX} {ks:List (List Key)}
theorem NDict.same {H':Hp} (n:NDict P w H a xs) (sm:Same H H'):NDict P w H' a xs:=⟨n.1.imp (fun z=>⟨z.1,sm _ _ z.2⟩) fun z=>sm _ _ z,n.2.same fun _ _ e=>sm _ _ e⟩
theorem zdV (ok:HOk P w H h) (n:NestAt H b ks):IsNest P w h ks b:=by
 obtain ⟨ws,e,r⟩:=n
 obtain ⟨_,its,rv,o,h1,h2,m,h3⟩:=(show ObjOk P w H h b (.tup ws) from ok b _ e)
 refine ⟨o,its.toArray,m,h1,h2,h3,?_⟩
 have:∀ {ks:List (List Key)} {ws:List V} {its:List A1},C3 (fun (k:List Key) (v:V)=>∃ c,v = .ref c/\H c=some (.tup (k.map kV))) ks ws->Vals ws its->Inner P w h ks its:=by
  intro ks ws its r
  induction r generalizing its with
  | nil=>intro rv; cases rv; exact .nil
  | cons q _ ih =>
   intro rv
   cases rv with
   | cons rv1 rv2 =>
    obtain ⟨c,rfl,ec⟩:=q
    exact .cons ⟨c,rv1,zdc ok ec⟩ (ih rv2)
 simpa using this r rv
theorem zcN (ok:HOk P w H h) (n:NDict P w H a xs):xs.length<=sizeLine/\(a == sysModules)=false/\∃ ys,C3 (fun (p:NX) (q:List (List Key)×A3×A1)=>p.1=q.1/\p.2.1=q.2.1/\RelV p.2.2 q.2.2) xs ys/\h.DictOfH (nestKind P w) a ys:=by
 obtain ⟨n1,n2⟩:=n
 rcases n1 with ⟨rfl,e⟩ | e
 ·obtain ⟨_,hd,vs,rel,o,es,ep,h1,h2,h3,_,h4,_⟩:=zhk ok e
  cases rel
  refine ⟨C6 _,hd,[],.nil,o,es,ep,h1,h2,h3,?_,fun x hx=>absurd hx List.not_mem_nil,E8⟩
  generalize es.toList=l at h4 ⊢
  cases h4
  rfl
 ·obtain ⟨⟨z,hd,ys,r,o,es,ep,h1,h2,h3,h4,h5⟩,_,_⟩:=(show ObjOk P w H h a (DN P w a xs) from ok a _ e)
  refine ⟨z,hd,ys,r,o,es,ep,h1,h2,h3,h4,fun y hy => ?_,h5⟩
  obtain ⟨i,hi⟩:=Is.mp hy
  obtain ⟨x,hx,e1,e2,_⟩:=C3.rev r hi
  have:=zdV ok (n2 x (Bh hx))
  rw [e1,e2] at this
  exact this
theorem zhh {ys:List (List (List Key)×A3×A1)} (r:C3 (fun (p:NX) (q:List (List Key)×A3×A1)=>p.1=q.1/\p.2.1=q.2.1/\RelV p.2.2 q.2.2) xs ys):ys.map (·.1)=nks xs:=by
 unfold nks
 induction r with
 | nil=>rfl
 | cons q _ ih=>rw [Aq,Aq,ih,q.1]
theorem zdK {ys:List (List (List Key)×A3×A1)} {ks:List (List Key)}:(atKey ys ks).isSome=hasN (ys.map (·.1)) ks:=by
 unfold atKey
 rw [Gs,Bd,List.find?_isSome,hasN_iff,Ab]
 exact ⟨fun ⟨x,h1,h2⟩=>⟨x,h1,of_decide_eq_true h2⟩,fun ⟨x,h1,h2⟩=>⟨x,h1,decide_eq_true h2⟩⟩
end
section
variable {X:Cx} {pins:List (A3×Obj)} {σ : St} {H:Hp} {s:A4} {a b:A3} {xs:List NX} {ks:List (List Key)} {A:B1} {E:A1->A4->Prop}
theorem n_notIn {Q:A1->A4->Prop} (hu:A.units + 5 < cLine) (I:Inv X pins σ H s) (n:NDict X.prog X.w H a xs) (hb:NestAt H b ks) (q:∀ s',Inv X pins σ H s'->Q (.bool (!hasN (nks xs) ks)) s') :
  wpAny (model X.prog X.w) A (compareOp .NotIn (.ref b) (.ref a)) Q E s:=by
 obtain ⟨z,hd,ys,r,dd⟩:=zcN I.hok n
 refine Ow (knd:=nestKind X.prog X.w) (show A.in1.units + 4 < cLine by rw [L6]; omega) (zdV I.hok hb) hd dd ?_
 rw [zdK,zhh r]
 exact q _ (I.tok _)
theorem n_getItem {Q:A1->A4->Prop} {c:A3} {v:V} (hu:A.units + 5 < cLine) (I:Inv X pins σ H s) (n:NDict X.prog X.w H a xs) (hb:NestAt H b ks) (hm:(ks,c,v)∈xs) (q:∀ w' s',Inv X pins σ H s'->RelV v w'->Q w' s') :
  wpAny (model X.prog X.w) A (getItem (.ref a) (.ref b)) Q E s:=by
 obtain ⟨z,hd,ys,r,dd⟩:=zcN I.hok n
 obtain ⟨i,hi⟩:=Is.mp hm
 obtain ⟨⟨k',c',v'⟩,hy,e1,e2,rv⟩:=C3.at r hi
 dsimp only at e1 e2 rv
 subst e1 e2
 obtain ⟨_,_,_,_,_,_,_,_,nd⟩:=id dd
 refine Oe (knd:=nestKind X.prog X.w) (show A.in1.units + 4 < cLine by rw [L6]; omega) (zdV I.hok hb) dd (atKey_of_get nd hy) (q _ _ (I.tok _) rv)
theorem n_setItem {Q:Unit->A4->Prop} {v:V} {u:A1} (hu:A.units + 5 < cLine) (I:Inv X pins σ H s) (n:NDict X.prog X.w H a xs) (hb:NestAt H b ks) (hn:ks ∉ nks xs) (hl:xs.length < sizeLine) (rv:RelV v u)
  (q:∀ s',Inv X pins σ (upd H a (DN X.prog X.w a (xs ++ [(ks,b,v)]))) s'->Q () s'):wpAny (model X.prog X.w) A (setItem (.ref a) (.ref b) u) Q E s:=by
 have mu:Mut (H a):=by
  rcases n.1 with ⟨_,e⟩ | e <;> rw [e] <;> exact E7
 obtain ⟨z,hd,ys,r,dd⟩:=zcN I.hok n
 have e0:atKey ys ks=none:=by
  have:=zdK (ys:=ys) (ks:=ks)
  rw [zhh r,zfD hn] at this
  cases e:atKey ys ks with
  | none=>rfl
  | some y=>rw [e] at this; cases this
 refine Oc (knd:=nestKind X.prog X.w) (hsz:=by rw [<- Cp r]; omega) (show A.in1.units + 4 < cLine by rw [L6]; omega) (zdV I.hok hb) dd fun h' dd' hs=>q _ ?_
 obtain ⟨o,es,ep,h1,h2,h3,h4,_,h5⟩:=dd'
 have fin:nestIn X.prog X.w a (xs ++ [(ks,b,v)]) h':=by
  refine ⟨by rw [Ah,Bm]; omega,hd,_,?_,o,es,ep,h1,h2,h3,h4,h5⟩
  rw [storedH_new e0]
  exact Ek r ⟨rfl,rfl,rv⟩
 refine zd3 I mu hs ⟨o,h1⟩ ⟨fin,⟨o,h1⟩,fun g1 g2 x hx => ?_⟩
 obtain ⟨y1,y2,ys',y3,o',es',ep',y4,y5⟩:=x
 exact ⟨y1,y2,ys',y3,o',es',ep',hx _ y4,y5⟩
theorem n_type (I:Inv X pins σ H s) (n:NDict X.prog X.w H a xs):s.TypeIs (.ref a) "dict" := by
 obtain ⟨_,_,ys,_,dd⟩:=zcN I.hok n
 exact dd.typeIs
end
noncomputable def tNNotIn (P:An) (w:B8) (ty td:TE):TE:=fun σ H Q=>ty σ H fun y H1=>td σ H1 fun x H2=>∃ a b xs ks,x = .ref a/\y = .ref b/\NDict P w H2 a xs/\NestAt H2 b ks/\Q (.bl (!hasN (nks xs) ks)) H2
noncomputable def tNGet (P:An) (w:B8) (td ty:TE):TE:=fun σ H Q=>td σ H fun x H1=>ty σ H1 fun y H2=>∃ a b c xs ks v,x = .ref a/\y = .ref b/\NDict P w H2 a xs/\NestAt H2 b ks/\(ks,c,v)∈xs/\Q v H2
noncomputable def sNPut (P:An) (w:B8) (td ty tv:TE):TS:=fun D σ H=>tv σ H fun v H1=>td σ H1 fun x H2=>ty σ H2 fun y H3=>∃ a b xs ks,x = .ref a/\y = .ref b/\NDict P w H3 a xs/\NestAt H3 b ks/\ks ∉ nks xs/\xs.length < sizeLine/\D.nx σ (upd H3 a (DN P w a (xs ++ [(ks,b,v)])))
section
variable {X:Cx} {o i e value:Ca} {pos pos' tpos:Pos} {td ty tv:TE}
theorem pc_nnotin (hu:X.A.units + 64 < cLine) (hi:PE X i ty) (ho:PE X o td):PC X .NotIn i o (tNNotIn X.prog X.w ty td):=by
 intro pins s σ H Q I h
 refine thn (hi pins s σ H _ I h) fun iv s1 ⟨y,H1,I1,ry,q1⟩=>thn (ho pins s1 σ H1 _ I1 q1) fun u s2 ⟨x,H2,I2,rx,a,b,xs,ks,ex,ey,n,hb,q2⟩ => ?_
 subst ex ey
 cases (show u=Az a from rx)
 cases (show iv=Az b from ry)
 exact n_notIn (by omega) I2 n hb fun s3 I3=>⟨.bl _,H2,I3,rfl,q2⟩
theorem pe_nget (hu:X.A.units + 64 < cLine) (ho:PE X o td) (hi:PE X i ty) (hs:NoSl i):PE X (.Subscript o i pos) (tNGet X.prog X.w td ty):=by
 intro pins s σ H Q I h
 refine zfT Kk.lookup hs (thn (ho pins s σ H _ I h) fun u s1 ⟨x,H1,I1,rx,q1⟩=>thn (hi pins s1 σ H1 _ I1 q1) fun iv s2 ⟨y,H2,I2,ry,a,b,c,xs,ks,v,ex,ey,n,hb,hm,q2⟩ => ?_)
 subst ex ey
 cases (show u=Az a from rx)
 cases (show iv=Az b from ry)
 exact ⟨n_type I2 n,n_getItem (by omega) I2 n hb hm fun w' s3 I3 rw'=>⟨v,H2,I3,rw',q2⟩⟩
theorem ps_nput (hu:X.A.units + 64 < cLine) (ho:PE X o td) (hi:PE X i ty) (hv:PE X value tv) (hs:swapsWith value (some (.Subscript o i pos')) pos.line X.env=pure false):PS X (.Assign [.Subscript o i pos'] value pos) (sNPut X.prog X.w td ty tv):=by
 intro pins s σ H D I h
 refine N6 (thn (hv pins s σ H _ I h) fun r s1 ⟨v,H1,I1,rv,q1⟩=>thn (ho pins s1 σ H1 _ I1 q1) fun u s2 ⟨x,H2,I2,rx,q2⟩=>thn (hi pins s2 σ H2 _ I2 q2) fun iv s3 ⟨y,H3,I3,ry,a,b,xs,ks,ex,ey,n,hb,hn,hl,q3⟩ => ?_) hs
 subst ex ey
 cases (show u=Az a from rx)
 cases (show iv=Az b from ry)
 exact n_setItem (by omega) I3 n hb hn hl rv fun s4 I4=>⟨σ,_,I4,q3⟩
noncomputable def rInT (K:Al):R2:=fun x y H Q=>∃ d es,VD K H x d/\VD K H y (.tuple es)/\d.canLay0=true/\Ch es=true/\d.depth<=50/\Q (.bl (es.any fun e=>E3 e d)) H
theorem op_inT (hu:X.A.units + 64 < cLine):OpR X (compareOp .In) (rInT X.K):=by
 intro pins s σ H x y v u Q I rx ry h
 obtain ⟨d,es,hd,he,c1,c2,dp,q⟩:=h
 obtain ⟨a1,r1⟩:=hd.reads I rx
 obtain ⟨a2,r2⟩:=he.reads I ry
 exact SeqAt.in_tuple_reads r2 r1 c2 c1 (by have:=Nat.min_le_right (Eb es) d.depth; omega) ⟨.bl _,H,I,rfl,q⟩
theorem call_max1' (K:Al) (hK:X.K=K) (hc:X.calm=true):CallR X (.builtin "max") (fun xs H Q=>∃ (a:A3) (ns:List Int),xs = [V.ref a]/\SqL K H a (ns.map V.int)/\0 < ns.length/\∀ M,M∈ns->(∀ n∈ns,n<=M)->Q (.int M) H):=hK ▸ call_max1 hc
end
noncomputable def tDisp1T (tk tv:TE):TE:=fun σ H Q=>∀ p,H p=none->tk σ (upd H p (.dT [])) fun x H1=>tv σ H1 fun y H2=>∃ k b,H2 p=some (.dT [])/\x = .ref b/\H2 b=some (.tup (k.map kV))/\Q (.ref p) (upd H2 p (.dT [(k,y)]))
theorem pe_disp1T {X:Cx} {pos:Pos} {k v:Ca} {tk tv:TE} (hu:X.A.units + 1 < cLine) (hk:PE X k tk) (hv:PE X v tv):PE X (.Dict [some k] [v] pos) (tDisp1T tk tv):=by
 intro pins s σ H Q I q
 have hn:=I.hok.fresh (Ad s.heap.objs.size)
 have I1:=I.laid (a:=s.heap.objs.size) (o := .dT []) (h':=s.heap.push { cls := .type "dict",data := .dict #[] }) (t':=s.toks) (fun _ _ q=>A7 _ q) (Ad _) (zfI s.heap I.big)
 refine wpAny_Dict_any rfl rfl (by simp) (show 1<=15 by decide) (pairTrees_cons_walk (thn (hk pins _ σ _ _ I1 (q _ hn)) fun u s1 ⟨x,H1,J1,rx,q1⟩=>thn (hv pins s1 σ H1 _ J1 q1) fun r s2 ⟨y,H2,J2,ry,kk,b,hp,ex,hb,q2⟩=>pairTrees_nil_walk ?_))
 subst ex
 cases (show u=Az b from rx)
 unfold PySem.storeAll
 rw [Km]
 obtain ⟨z,hd,xs,rel,dd⟩:=zhj J2.hok hp
 cases rel
 refine A2 (A2 (wpAny_dictSet_heap (knd:=tupleKind (mixKind X.prog X.w)) (hsz:=C6 _) (by show X.A.units < cLine; omega) (zdc J2.hok hb) dd fun h' dd' hs=>Ae ?_))
 dsimp only
 rw [List.forIn_nil]
 refine Ae ⟨.ref s.heap.objs.size,_,?_,rfl,q2⟩
 obtain ⟨o,es,ep,h1,h2,h3,h4,_,h5⟩:=dd'
 refine zd3 J2 (by rw [hp]; exact E7) hs ⟨o,h1⟩ ⟨show 1<=sizeLine from C0 (by decide) za0,hd,_,.cons ⟨rfl,?_,ry⟩ .nil,o,es,ep,h1,h2,h3,h4,h5⟩
 rw [zah (zhd hb hp (fun z=>nomatch z))]
 exact hb
section
variable {X:Cx} {o i e value:Ca} {pos pos' tpos:Pos} {td ty tv:TE}
theorem pc_nnotin' (P:An) (w:B8) (hP:X.prog=P) (hw:X.w=w) (hu:X.A.units + 64 < cLine) (hi:PE X i ty) (ho:PE X o td):PC X .NotIn i o (tNNotIn P w ty td):=by subst hP hw; exact pc_nnotin hu hi ho
theorem pe_nget' (P:An) (w:B8) (hP:X.prog=P) (hw:X.w=w) (hu:X.A.units + 64 < cLine) (ho:PE X o td) (hi:PE X i ty) (hs:NoSl i):PE X (.Subscript o i pos) (tNGet P w td ty):=by subst hP hw; exact pe_nget hu ho hi hs
theorem ps_nput' (P:An) (w:B8) (hP:X.prog=P) (hw:X.w=w) (hu:X.A.units + 64 < cLine) (ho:PE X o td) (hi:PE X i ty) (hv:PE X value tv) (hs:swapsWith value (some (.Subscript o i pos')) pos.line X.env=pure false):PS X (.Assign [.Subscript o i pos'] value pos) (sNPut P w td ty tv):=by subst hP hw; exact ps_nput hu ho hi hv hs
end
noncomputable def st1 (C:Combs) (s t:Nat):Prop:=∃ p∈stp C s,p.2.toNat=t
noncomputable def rch (C:Combs) (s:Nat):Nat->Nat->Prop
 | 0,t=>t=s
 | n + 1,t=>∃ u,rch C s n u/\st1 C u t
theorem zgP {C:Combs} (g:GC C) {s t:Nat} (hs:s < 128) (h:st1 C s t):t < 128:=by
 obtain ⟨p,hp,rfl⟩:=h
 exact (zdt g hs hp).2
theorem zc2 {C:Combs} (g:GC C) {s:Nat} (hs:s < 128):∀ {n t:Nat},rch C s n t->t < 128
 | 0,t,h=>by rw [show t=s from h]; exact hs
 | n + 1,t,⟨u,h1,h2⟩=>zgP g (zc2 g hs h1) h2
theorem zcc {C:Combs} {s m u:Nat} (h:rch C s m u):∀ {n t:Nat},rch C u n t->rch C s (m + n) t
 | 0,t,h2=>by rw [show t=u from h2]; exact h
 | n + 1,t,⟨v,h1,h2⟩=>⟨v,zcc h h1,h2⟩
theorem zc1 {C:Combs} {s m:Nat}:∀ {n t:Nat},rch C s (m + n) t->∃ u,rch C s m u/\rch C u n t
 | 0,t,h=>⟨t,h,rfl⟩
 | n + 1,t,⟨v,h1,h2⟩=>by
  obtain ⟨u,a,b⟩:=zc1 h1
  exact ⟨u,a,v,b,h2⟩
theorem zcb {C:Combs} (g:GC C):∀ {k t:Nat},t∈rowN C k ↔ rch C 0 k t
 | 0,t=>A6
 | k + 1,t=>by
  rw [show rowN C (k + 1)=behN C (rowN C k) from rfl,beh_mem]
  constructor
  ·rintro ⟨_,u,hu,p,hp,e⟩
   exact ⟨u,(zcb g).mp hu,p,hp,e⟩
  ·rintro ⟨u,hu,h⟩
   exact ⟨zgP g (zc2 g (by decide) hu) h,u,(zcb g).mpr hu,h⟩
noncomputable def Fil (C:Combs) (n:Nat):Prop:=rch C 0 n 0
theorem fil_zero (C:Combs):Fil C 0:=rfl
theorem zf5 {C:Combs} {s:Nat}:∀ {n t:Nat},rch C s n t->∃ f:Nat->Nat,f n=t/\∀ i,i<=n->rch C s i (f i)/\rch C (f i) (n - i) t
 | 0,t,h=>⟨fun _=>t,rfl,fun i hi=>by
  have:i=0:=by omega
  subst this
  exact ⟨h,rfl⟩⟩
 | n + 1,t,⟨u,h1,h2⟩=>by
  obtain ⟨f,e,hf⟩:=zf5 h1
  refine ⟨fun i=>if i<=n then f i else t,if_neg (by omega),fun i hi => ?_⟩
  dsimp only
  by_cases z:i<=n
  ·rw [if_pos z]
   refine ⟨(hf i z).1,?_⟩
   rw [show n + 1 - i=n - i + 1 by omega]
   exact ⟨u,(hf i z).2,h2⟩
  ·rw [if_neg z]
   have:i=n + 1:=by omega
   subst this
   rw [Il]
   exact ⟨⟨u,h1,h2⟩,rfl⟩
theorem twice {f:Nat->Nat} (h:∀ i,i<=128->f i < 128):∃ i j,i < j/\j<=128/\f i=f j:=by
 refine Di fun z => ?_
 have nd:((Ac 129).map f).Nodup:=by
  rw [Qa,C4,D3]
  intro i j hi hj hij e
  rw [N2,N2] at e
  rw [Ax] at hj
  exact z ⟨i,j,hij,by omega,e⟩
 have:=zaC 128 _ nd (fun x hx=>by
  obtain ⟨i,hi,rfl⟩:=Ab.mp hx
  exact h i (by have:=B9.mp hi; omega))
 rw [A5,Ax] at this
 omega
theorem fil_small {C:Combs} (g:GC C):∀ (n:Nat),Fil C n->1<=n->∃ m,1<=m/\m<=128/\Fil C m:=by
 intro n
 induction n using Nat.strongRecOn with
 | _ n ih =>
  intro h h1
  by_cases hn:n<=128
  ·exact ⟨n,h1,hn,h⟩
  obtain ⟨f,e,hf⟩:=zf5 h
  obtain ⟨i,j,hij,hj,ef⟩:=twice (f:=f) fun i hi=>zc2 g (by decide) (hf i (by omega)).1
  have a:=(hf i (by omega)).1
  have b:=(hf j (by omega)).2
  rw [<- ef] at b
  exact ih (i + (n - j)) (by omega) (zcc a b) (by omega)
noncomputable def HR (C:Combs) (k s:Nat):Prop:=rch C 0 k s/\∃ n,rch C s n 0
theorem hr_zero (C:Combs) (s:Nat):HR C 0 s ↔ s=0:=⟨fun h=>h.1,fun h=>⟨h,0,h.symm⟩⟩
theorem zeZ {C:Combs} (k t:Nat):HR C (k + 1) t ↔ (∃ s,HR C k s/\st1 C s t)/\∃ n,rch C t n 0:=by
 constructor
 ·rintro ⟨⟨u,h1,h2⟩,n,h3⟩
  have h4:rch C u 1 t:=⟨u,rfl,h2⟩
  exact ⟨⟨u,⟨h1,1 + n,zcc h4 h3⟩,h2⟩,n,h3⟩
 ·rintro ⟨⟨u,⟨h1,_⟩,h2⟩,h3⟩
  exact ⟨⟨u,h1,h2⟩,h3⟩
theorem zgt {C:Combs} {k:Nat}:HR C k 0 ↔ Fil C k:=⟨fun h=>h.1,fun h=>⟨h,0,rfl⟩⟩
theorem zgs {C:Combs} {i j:Nat} (h:∀ s,HR C i s ↔ HR C j s):∀ k s,HR C (i + k) s ↔ HR C (j + k) s
 | 0,s=>h s
 | k + 1,s=>by
  have ih:=zgs h k
  rw [<- Ew,<- Ew,zeZ,zeZ]
  constructor
  ·rintro ⟨⟨u,h1,h2⟩,h3⟩
   exact ⟨⟨u,(ih u).mp h1,h2⟩,h3⟩
  ·rintro ⟨⟨u,h1,h2⟩,h3⟩
   exact ⟨⟨u,(ih u).mpr h1,h2⟩,h3⟩
theorem hr_turn {C:Combs} {t:Nat} (h:Fil C t) {k s:Nat} (hk:HR C k s):HR C (t + k) s:=⟨zcc h hk.1,hk.2⟩
open Classical in
theorem zfA {C:Combs} (g:GC C) {M:Nat} (nd:∀ i j,i < j->j<=M->¬ ∀ s,HR C i s ↔ HR C j s):M<=16512:=by
 refine Ke fun big => ?_
 by_cases ht:∃ t,1<=t/\t<=128/\Fil C t
 ·obtain ⟨t,t1,t2,hf⟩:=ht
  let A:Nat->List Nat:=fun j=>(Ac 128).filter fun s=>decide (HR C (j * t) s)
  have less:∀ j,j < 129->(A j).length < (A (j + 1)).length:=fun j hj=>by
   have hm:∀ s,HR C (j * t) s->HR C ((j + 1) * t) s:=fun s h=>by
    rw [Kt,Im]
    exact hr_turn hf h
   have hle:(j + 1) * t<=129 * 128:=Nat.mul_le_mul (by omega) t2
   have hne:¬ ∀ s,HR C (j * t) s ↔ HR C ((j + 1) * t) s:=nd _ _ (by rw [Kt]; omega) (by omega)
   have ex:∃ s,HR C ((j + 1) * t) s/\¬ HR C (j * t) s:=Di fun z=>hne fun s=>⟨hm s,fun h=>Di fun y=>z ⟨s,h,y⟩⟩
   obtain ⟨s,h1,h2⟩:=ex
   have hs:s < 128:=zc2 g (by decide) h1.1
   have sub:∀ x∈s :: A j,x∈A (j + 1):=fun x hx=>by
    rcases B6.mp hx with rfl | hx
    ·exact Bc.mpr ⟨B9.mpr hs,decide_eq_true h1⟩
    ·obtain ⟨a,b⟩:=Bc.mp hx
     exact Bc.mpr ⟨a,decide_eq_true (hm x (of_decide_eq_true b))⟩
   have n1:(s :: A j).Nodup:=Dj.mpr ⟨fun z=>h2 (of_decide_eq_true (Bc.mp z).2),List.nodup_range.sublist D5⟩
   have:=zcM n1 sub
   rw [Ar] at this
   omega
  have up:∀ j,j<=129->j<=(A j).length:=fun j=>by
   induction j with
   | zero=>exact fun _=>C6 _
   | succ j ih=>exact fun h=>by have:=ih (by omega); have:=less j (by omega); omega
  have h1:=up 129 (by omega)
  have h2:(A 129).length<=128:=C0 (Cm _ _) (by rw [Ax]; exact Ad _)
  omega
 ·have none:∀ k,1<=k->∀ s,¬ HR C k s:=fun k hk s ⟨h1,n,h2⟩=>by
   obtain ⟨m,a,b,c⟩:=fil_small g (k + n) (zcc h1 h2) (by omega)
   exact ht ⟨m,a,b,c⟩
  exact nd 1 2 (by omega) (by omega) fun s=>⟨fun h=>absurd h (none 1 (by omega) s),fun h=>absurd h (none 2 (by omega) s)⟩
theorem zb3 (C:Combs) (P:Nat×Str->Bool) (q:Nat):∀ l:List (Nat×Str),cov C (l.filter P) q=(l.map fun x=>if P x=true then ind (hit C x q) else 0).sum
 | []=>rfl
 | x :: l=>by
  have ih:=zb3 C P q l
  rw [Cb,Aq,Ef,<- ih]
  split
  ·unfold cov
   rw [Aq,Ef]
  ·rw [Mb]
theorem cov_app (C:Combs) (l m:List (Nat×Str)) (q:Nat):cov C (l ++ m) q=cov C l q + cov C m q:=by
 unfold cov
 rw [Bi,Kl]
noncomputable def inOrder (l:List (Nat×Str)) (p:Nat):List (Nat×Str):=(Ac p).flatMap fun j=>l.filter fun x=>decide (x.1=j)
theorem zcI (l:List (Nat×Str)) (p:Nat):inOrder l (p + 1)=inOrder l p ++ l.filter fun x=>decide (x.1=p):=by
 unfold inOrder
 rw [Dx,List.flatMap_append]
 simp
theorem zfS {α : Type} (f g : α -> Nat):∀ l:List α,(l.map f).sum + (l.map g).sum=(l.map fun x=>f x + g x).sum
 | []=>rfl
 | a :: l=>by
  have:=zfS f g l
  simp only [Aq,Ef]
  omega
theorem zfe {α : Type} {f g : α -> Nat} {l:List α} (h:∀ x∈l,f x=g x):(l.map f).sum=(l.map g).sum:=by
 rw [Ce h]
theorem zdh (C:Combs) (l:List (Nat×Str)) (q:Nat):∀ p,cov C (inOrder l p) q=cov C (l.filter fun x=>decide (x.1 < p)) q
 | 0=>by
  rw [List.filter_eq_nil_iff.mpr (fun x _=>by rw [decide_eq_true_eq]; omega)]
  rfl
 | p + 1=>by
  rw [zcI,cov_app,zdh C l q p,zb3,zb3,zb3,zfS]
  refine zfe fun x _ => ?_
  by_cases h1:x.1 < p
  ·rw [decide_eq_true h1,decide_eq_false (show ¬ x.1=p by omega),decide_eq_true (show x.1 < p + 1 by omega)]
   rfl
  ·by_cases h2:x.1=p
   ·rw [decide_eq_false h1,decide_eq_true h2,decide_eq_true (show x.1 < p + 1 by omega)]
    simp
   ·rw [decide_eq_false h1,decide_eq_false h2,decide_eq_false (show ¬ x.1 < p + 1 by omega)]
    rfl
noncomputable def Lay (C:Combs) (l:List (Nat×Str)):Prop:=∀ x∈l,x.2∈C.map (·.1)
theorem zgM {C:Combs} (nd:(C.map (·.1)).Nodup) {x:Str} (h:x∈C.map (·.1)):∃ c∈C,c.1=x/\tkOf C x=c.2:=by
 obtain ⟨c,hc,rfl⟩:=Ab.mp h
 exact ⟨c,hc,rfl,by unfold tkOf; rw [zcd nd hc]; rfl⟩
theorem zfB {C:Combs} (g:GC C) (nd:(C.map (·.1)).Nodup) {x:Nat×Str} (h:x.2∈C.map (·.1)):hit C x x.1=true:=by
 obtain ⟨c,hc,e,e2⟩:=zgM nd h
 unfold hit
 rw [e2,decide_eq_true (Ad _),Il,decide_eq_true (show ((0:Nat):Int)∈c.2 from zcD (g c hc))]
 rfl
theorem cov_one {C:Combs} {l:List (Nat×Str)} {x:Nat×Str} (hx:x∈l) {q:Nat} (h:hit C x q=true):1<=cov C l q:=by
 induction l with
 | nil=>cases hx
 | cons y l ih =>
  unfold cov
  rw [Aq,Ef]
  rcases B6.mp hx with rfl | hx
  ·rw [h]; show 1<=1 + _; omega
  ·have:=ih hx
   unfold cov at this
   omega
theorem filter_cov {C:Combs} (g:GC C) (nd:(C.map (·.1)).Nodup) {l:List (Nat×Str)} (hl:Lay C l) (j:Nat):(l.filter fun x=>decide (x.1=j)).length<=cov C l j:=by
 induction l with
 | nil=>exact C6 _
 | cons y l ih =>
  have ih:=ih fun x hx=>hl x (A8 _ hx)
  unfold cov at ih ⊢
  rw [Aq,Ef,Cb]
  by_cases e:y.1=j
  ·have:=zfB g nd (hl y Ag)
   rw [e] at this
   rw [if_pos (decide_eq_true e),Ar,this]
   show _<=1 + _
   omega
  ·rw [if_neg (by rw [decide_eq_true_eq]; exact e)]
   omega
theorem zdd {C:Combs} (g:GC C) (nd:(C.map (·.1)).Nodup) {l:List (Nat×Str)} (hl:Lay C l):∀ p,(∀ q,q < p->cov C l q<=1)->inOrder l p∈chs C p
 | 0,_=>A6.mpr rfl
 | p + 1,h=>by
  have ih:=zdd g nd hl p fun q hq=>h q (by omega)
  have h1:=C0 (filter_cov g nd hl p) (h p (by omega))
  rw [zcI]
  refine Do.mpr ⟨_,ih,?_⟩
  cases e:l.filter fun x=>decide (x.1=p) with
  | nil=>rw [Bw]; exact Ag
  | cons x m =>
   rw [e,Ar] at h1
   have hm:m = []:=Ki (by omega)
   subst hm
   have hx:x∈l.filter fun x=>decide (x.1=p):=by rw [e]; exact A6.mpr rfl
   obtain ⟨h2,h3⟩:=Bc.mp hx
   obtain ⟨c,hc,ec⟩:=Ab.mp (hl x h2)
   refine A8 _ (Ab.mpr ⟨c,hc,?_⟩)
   rw [ec,<- of_decide_eq_true h3]
noncomputable def Cover (C:Combs) (l:List (Nat×Str)) (n:Nat):Prop:=∀ q,cov C l q=if q < n then 1 else 0
theorem Cover.below {C:Combs} (g:GC C) (nd:(C.map (·.1)).Nodup) {l:List (Nat×Str)} {n:Nat} (hl:Lay C l) (h:Cover C l n) {x:Nat×Str} (hx:x∈l) {q:Nat} (hq:hit C x q=true):q < n:=by
 have h1:=cov_one hx hq
 rw [h q] at h1
 by_cases z:q < n
 ·exact z
 ·rw [if_neg z] at h1; omega
theorem zdO {C:Combs} (g:GC C) {l:List (Nat×Str)} {n:Nat} (hl:l∈chs C n):(OkC C l n/\shp C l n=0) ↔ Cover C l n:=by
 constructor
 ·rintro ⟨⟨h1,h2⟩,h3⟩ q
  by_cases z:q < n
  ·rw [if_pos z]; exact h1 q z
  ·rw [if_neg z]
   have h4:=zaB g hl (q - n)
   rw [h3,G7,show n + (q - n)=q by omega] at h4
   have h5:=of_decide_eq_false h4.symm
   by_cases y:q < n + 8
   ·have:=h2 q y; omega
   ·exact zcf g hl (by omega)
 ·intro h
  refine ⟨⟨fun q hq=>by rw [h q,if_pos hq],fun q _=>by rw [h q]; split <;> omega⟩,zch fun d => ?_⟩
  rw [zaB g hl,h,if_neg (by omega),G7]
  rfl
theorem zeF {C:Combs} (g:GC C) (nd:(C.map (·.1)).Nodup) {n:Nat}:Fil C n ↔ ∃ l,Lay C l/\Cover C l n:=by
 unfold Fil
 rw [<- zcb g,zgI g nd]
 constructor
 ·rintro ⟨l,hl,h⟩
  exact ⟨l,fun x hx=>(zdj hl x hx).2,(zdO g hl).mp h⟩
 ·rintro ⟨l,hl,h⟩
  have hi:=zdd g nd hl n fun q hq=>by rw [h q]; split <;> omega
  have hc:Cover C (inOrder l n) n:=fun q=>by
   rw [zdh,<- h q,Co.mpr]
   intro x hx
   exact decide_eq_true (h.below g nd hl hx (zfB g nd (hl x hx)))
  exact ⟨inOrder l n,hi,(zdO g hi).mpr hc⟩
noncomputable def mxT (ts:List Int):Int:=ts.foldl max 0
noncomputable def turnT (ts:List Int):List Int:=canon (ts.map fun t=>mxT ts - t)
noncomputable def turnC (C:Combs):Combs:=C.map fun c=>(c.1,turnT c.2)
theorem zc4 {ts:List Int} (g:GT ts):mxT ts∈ts/\(∀ t∈ts,t<=mxT ts)/\0<=mxT ts/\mxT ts<=7:=by
 obtain ⟨h1,h2,h3⟩:=fold_max ts 0
 have hm:mxT ts∈ts:=by
  rcases h3 with z | z
  ·unfold mxT; rw [z]; exact zcD g
  ·exact z
 exact ⟨hm,h1,h2,(zbV g _ hm).2⟩
theorem zcq {ts:List Int} (g:GT ts) {t:Int}:t∈turnT ts ↔ mxT ts - t∈ts:=by
 obtain ⟨h1,h2,h3,h4⟩:=zc4 g
 unfold turnT
 rw [mem_canon,Ab]
 constructor
 ·rintro ⟨⟨u,hu,rfl⟩,_⟩
  rw [show mxT ts - (mxT ts - u)=u by omega]
  exact hu
 ·intro h
  have:=h2 _ h
  have:=zbV g _ h
  exact ⟨⟨_,h,by omega⟩,by omega,by omega⟩
theorem zdf {ts:List Int} (g:GT ts):GT (turnT ts):=zfE (Ab.mpr ⟨mxT ts,(zc4 g).1,by omega⟩)
theorem mx_turn {ts:List Int} (g:GT ts):mxT (turnT ts)=mxT ts:=by
 obtain ⟨h1,h2,h3,h4⟩:=zc4 g
 obtain ⟨k1,k2,k3,k4⟩:=zc4 (zdf g)
 have a:mxT ts∈turnT ts:=(zcq g).mpr (by rw [Int.sub_self]; exact zcD g)
 have b:=k2 _ a
 have c:=zbV g _ ((zcq g).mp k1)
 omega
theorem lt_ext {a b:List Int} (ha:a.Pairwise (· < ·)) (hb:b.Pairwise (· < ·)) (h:∀ t,t∈a ↔ t∈b):a=b :=
 zbD ((Df (zaT ha) (zaT hb)).mpr h) (ha.imp fun h=>by omega) (hb.imp fun h=>by omega)
theorem turn_turn {ts:List Int} (g:GT ts):turnT (turnT ts)=ts:=by
 refine lt_ext (zd1 (zdf (zdf g))) (zd1 g) fun t => ?_
 rw [zcq (zdf g),zcq g,mx_turn g,show mxT ts - (mxT ts - t)=t by omega]
theorem zbC (C:Combs):(turnC C).map (·.1)=C.map (·.1):=by
 unfold turnC
 rw [Be]
 rfl
theorem zdL {C:Combs} (g:GC C):GC (turnC C):=fun c hc=>by
 obtain ⟨d,hd,rfl⟩:=Ab.mp hc
 exact zdf (g d hd)
theorem turnC_turnC {C:Combs} (g:GC C):turnC (turnC C)=C:=by
 unfold turnC
 rw [Be]
 conv=>rhs; rw [<- Gy C]
 refine Ce fun c hc => ?_
 show (c.1,turnT (turnT c.2))=c
 rw [turn_turn (g c hc)]
theorem tk_turn {C:Combs} (nd:(C.map (·.1)).Nodup) {x:Str} (h:x∈C.map (·.1)):tkOf (turnC C) x=turnT (tkOf C x):=by
 obtain ⟨c,hc,rfl,e⟩:=zgM nd h
 have nd':((turnC C).map (·.1)).Nodup:=by rw [zbC]; exact nd
 have hc':(c.1,turnT c.2)∈turnC C:=Ab.mpr ⟨c,hc,rfl⟩
 rw [e]
 unfold tkOf
 rw [zcd nd' hc']
 rfl
noncomputable def mir (C:Combs) (n:Nat) (x:Nat×Str):Nat×Str:=(n - 1 - x.1 - (mxT (tkOf C x.2)).toNat,x.2)
theorem hit_mir {C:Combs} (g:GC C) (nd:(C.map (·.1)).Nodup) {n:Nat} {x:Nat×Str} (h:x.2∈C.map (·.1)) (hin:x.1 + (mxT (tkOf C x.2)).toNat < n) (q:Nat):hit (turnC C) (mir C n x) q=(decide (q < n) && hit C x (n - 1 - q)):=by
 obtain ⟨c,hc,e,e2⟩:=zgM nd h
 have gc:=g c hc
 obtain ⟨h1,h2,h3,h4⟩:=zc4 gc
 unfold hit mir
 dsimp only
 rw [e2] at hin
 rw [tk_turn nd h,e2]
 rw [Bd,Bt,Bt,Bt,decide_eq_true_eq,decide_eq_true_eq,decide_eq_true_eq,decide_eq_true_eq,decide_eq_true_eq,zcq gc]
 constructor
 ·rintro ⟨a,b⟩
  have b1:=zbV gc _ b
  refine ⟨by omega,by omega,?_⟩
  rw [show ((n - 1 - q - x.1:Nat):Int)=mxT c.2 - ((q - (n - 1 - x.1 - (mxT c.2).toNat):Nat):Int) by omega]
  exact b
 ·rintro ⟨a,b,d⟩
  have d1:=h2 _ d
  refine ⟨by omega,?_⟩
  rw [show mxT c.2 - ((q - (n - 1 - x.1 - (mxT c.2).toNat):Nat):Int)=((n - 1 - q - x.1:Nat):Int) by omega]
  exact d
theorem cover_in {C:Combs} (g:GC C) (nd:(C.map (·.1)).Nodup) {l:List (Nat×Str)} {n:Nat} (hl:Lay C l) (h:Cover C l n) {x:Nat×Str} (hx:x∈l):x.1 + (mxT (tkOf C x.2)).toNat < n:=by
 obtain ⟨c,hc,e,e2⟩:=zgM nd (hl x hx)
 obtain ⟨h1,_,h3,_⟩:=zc4 (g c hc)
 refine h.below g nd hl hx ?_
 unfold hit
 rw [e2,decide_eq_true (by omega),decide_eq_true]
 ·rfl
 ·rw [show ((x.1 + (mxT c.2).toNat - x.1:Nat):Int)=mxT c.2 by omega]
  exact h1
theorem cover_mir {C:Combs} (g:GC C) (nd:(C.map (·.1)).Nodup) {l:List (Nat×Str)} {n:Nat} (hl:Lay C l) (h:Cover C l n):Lay (turnC C) (l.map (mir C n))/\Cover (turnC C) (l.map (mir C n)) n:=by
 refine ⟨fun y hy => ?_,fun q => ?_⟩
 ·obtain ⟨x,hx,rfl⟩:=Ab.mp hy
  rw [zbC]
  exact hl x hx
 ·have e:cov (turnC C) (l.map (mir C n)) q=(l.map fun x=>ind (decide (q < n) && hit C x (n - 1 - q))).sum:=by
   unfold cov
   rw [Be]
   refine zfe fun x hx => ?_
   show ind (hit (turnC C) (mir C n x) q)=_
   rw [hit_mir g nd (hl x hx) (cover_in g nd hl h hx)]
  rw [e]
  by_cases z:q < n
  ·rw [if_pos z,decide_eq_true z]
   have:=h (n - 1 - q)
   rw [if_pos (by omega)] at this
   exact this
  ·rw [if_neg z,decide_eq_false z]
   exact zfd fun _ _=>rfl
theorem fil_turn {C:Combs} (g:GC C) (nd:(C.map (·.1)).Nodup) {n:Nat}:Fil (turnC C) n ↔ Fil C n:=by
 have nd':((turnC C).map (·.1)).Nodup:=by rw [zbC]; exact nd
 have one:∀ {C:Combs},GC C->(C.map (·.1)).Nodup->Fil C n->Fil (turnC C) n:=fun {C} g nd h=>by
  obtain ⟨l,h1,h2⟩:=(zeF g nd).mp h
  exact (zeF (zdL g) (by rw [zbC]; exact nd)).mpr ⟨_,cover_mir g nd h1 h2⟩
 refine ⟨fun h => ?_,one g nd⟩
 have:=one (zdL g) nd' h
 rwa [turnC_turnC g] at this
theorem fil_perm {C C':Combs} (g:GC C) (g':GC C') (p:C.Perm C') (n:Nat):Fil C n ↔ Fil C' n:=by
 unfold Fil
 rw [<- zcb g,<- zcb g',zeg p]
noncomputable def Wy (C:Combs):Nat->Nat->Nat
 | 0,s=>if s=0 then 1 else 0
 | k + 1,s=>((stp C s).map fun p=>Wy C k p.2.toNat).sum
noncomputable def bh (x:Str) (A B:Nat->Nat) (p:Str×Int):Nat:=if p.1=x then A p.2.toNat else B p.2.toNat
theorem zfR {α : Type} {l:List α} {f : α -> Nat}:0 < (l.map f).sum ↔ ∃ x∈l,0 < f x:=by
 induction l with
 | nil=>simp
 | cons a l ih =>
  rw [Aq,Ef]
  constructor
  ·intro h
   by_cases z:0 < f a
   ·exact ⟨a,Ag,z⟩
   ·obtain ⟨x,hx,h'⟩:=ih.mp (by omega)
    exact ⟨x,A8 _ hx,h'⟩
  ·rintro ⟨x,hx,h⟩
   rcases B6.mp hx with rfl | hx
   ·omega
   ·have:=ih.mpr ⟨x,hx,h⟩
    omega
theorem Wy_pos {C:Combs}:∀ {k s:Nat},0 < Wy C k s ↔ rch C s k 0
 | 0,s=>by
  show 0 < (if s=0 then 1 else 0) ↔ 0=s
  by_cases h:s=0
  ·rw [if_pos h]; exact ⟨fun _=>h.symm,fun _=>by omega⟩
  ·rw [if_neg h]; exact ⟨fun z=>by omega,fun z=>absurd z.symm h⟩
 | k + 1,s=>by
  show 0 < ((stp C s).map fun p=>Wy C k p.2.toNat).sum ↔ _
  rw [zfR]
  constructor
  ·rintro ⟨p,hp,h⟩
   have h1:rch C s 1 p.2.toNat:=⟨s,rfl,p,hp,rfl⟩
   have:=zcc h1 (Wy_pos.mp h)
   rwa [Im] at this
  ·intro h
   rw [Im] at h
   obtain ⟨u,⟨v,e,p,hp,hu⟩,h2⟩:=zc1 h
   rw [show v=s from e] at hp
   subst hu
   exact ⟨p,hp,Wy_pos.mpr h2⟩
structure Sel (C:Combs) (x:Str) (B:Nat->Nat->Nat):Prop where
 zero:∀ s,0 < B 0 s->s=0
 succ:∀ k s,B (k + 1) s=((stp C s).map (bh x (Wy C k) (B k))).sum
noncomputable def ro (C:Combs) (B:Nat->Nat->Nat) (fl:Bool) (k:Nat):Nat->Nat:=if fl=true then Wy C k else B k
noncomputable def sel (C:Combs) (x:Str) (B:Nat->Nat->Nat) (s:Nat) (fl:Bool) (k:Nat):Option (Str×Int):=(stp C s).find? fun p=>decide (0 < bh x (Wy C k) (ro C B fl k) p)
noncomputable def fw (C:Combs) (x:Str) (B:Nat->Nat->Nat) (n:Nat):Nat->Nat×Bool
 | 0=>(0,false)
 | i + 1=>match sel C x B (fw C x B n i).1 (fw C x B n i).2 (n - 1 - i) with
  | some p=>(p.2.toNat,(fw C x B n i).2 || decide (p.1=x))
  | none=>(0,false)
noncomputable def fnm (C:Combs) (x:Str) (B:Nat->Nat->Nat) (n i:Nat):Str:=((sel C x B (fw C x B n i).1 (fw C x B n i).2 (n - 1 - i)).map (·.1)).getD (A0 "")
theorem zfW (C:Combs) (x:Str):Sel C x (Wy C):=by
 refine ⟨fun s h => ?_,fun k s => ?_⟩
 ·have:0 < (if s=0 then 1 else 0):=h
  by_cases z:s=0
  ·exact z
  ·rw [if_neg z] at this; omega
 ·show ((stp C s).map fun p=>Wy C k p.2.toNat).sum=_
  refine zfe fun p _ => ?_
  unfold bh
  split <;> rfl
theorem ro_succ {C:Combs} {x:Str} {B:Nat->Nat->Nat} (S:Sel C x B) (fl:Bool) (k s:Nat):ro C B fl (k + 1) s=((stp C s).map (bh x (Wy C k) (ro C B fl k))).sum:=by
 cases fl with
 | false=>exact S.succ k s
 | true=>exact (zfW C x).succ k s
theorem zfh {C:Combs} (g:GC C) {x:Str} {B:Nat->Nat->Nat} (S:Sel C x B) {s k:Nat} (hs:s < 128) {fl:Bool} (h:0 < ro C B fl (k + 1) s):∃ p,sel C x B s fl k=some p/\p∈stp C s/\0<=p.2/\p.2.toNat < 128/\0 < ro C B (fl || decide (p.1=x)) k p.2.toNat:=by
 rw [ro_succ S,zfR] at h
 obtain ⟨p,hp,h1⟩:=h
 cases e:sel C x B s fl k with
 | none =>
  unfold sel at e
  rw [N3] at e
  exact absurd (decide_eq_true h1) (e p hp)
 | some p' =>
  unfold sel at e
  have h2:=O2 e
  have h3:=Lb e
  have h4:=zdt g hs h3
  refine ⟨p',rfl,h3,h4.1,h4.2,?_⟩
  have h5:=of_decide_eq_true h2
  unfold bh at h5
  by_cases z:p'.1=x
  ·rw [if_pos z] at h5
   rw [decide_eq_true z,M5]
   exact h5
  ·rw [if_neg z] at h5
   rw [decide_eq_false z,Ln]
   exact h5
theorem zgN {C:Combs} (g:GC C) {x:Str} {B:Nat->Nat->Nat} (S:Sel C x B) {n:Nat} (h:0 < B n 0):∀ i,i<=n->(fw C x B n i).1 < 128/\0 < ro C B (fw C x B n i).2 (n - i) (fw C x B n i).1
 | 0,_=>⟨show 0 < 128 by decide,h⟩
 | i + 1,hi=>by
  obtain ⟨h1,h2⟩:=zgN g S h i (by omega)
  rw [show n - i=n - 1 - i + 1 by omega] at h2
  obtain ⟨p,e,_,_,p3,p4⟩:=zfh g S h1 h2
  have ef:fw C x B n (i + 1)=(p.2.toNat,(fw C x B n i).2 || decide (p.1=x)):=by
   show (match sel C x B (fw C x B n i).1 (fw C x B n i).2 (n - 1 - i) with
    | some p=>(p.2.toNat,(fw C x B n i).2 || decide (p.1=x))
    | none=>(0,false))=_
   rw [e]
  rw [ef,show n - (i + 1)=n - 1 - i by omega]
  exact ⟨p3,p4⟩
theorem zgw {C:Combs} (g:GC C) {x:Str} {B:Nat->Nat->Nat} (S:Sel C x B) {n:Nat} (h:0 < B n 0) {i:Nat} (hi:i < n):sel C x B (fw C x B n i).1 (fw C x B n i).2 (n - 1 - i)=some (fnm C x B n i,((fw C x B n (i + 1)).1:Int))/\(fw C x B n (i + 1)).2=((fw C x B n i).2 || decide (fnm C x B n i=x))/\(fnm C x B n i,((fw C x B n (i + 1)).1:Int))∈stp C (fw C x B n i).1:=by
 obtain ⟨h1,h2⟩:=zgN g S h i (by omega)
 rw [show n - i=n - 1 - i + 1 by omega] at h2
 obtain ⟨p,e,p1,p2,p3,p4⟩:=zfh g S h1 h2
 have ef:fw C x B n (i + 1)=(p.2.toNat,(fw C x B n i).2 || decide (p.1=x)):=by
  show (match sel C x B (fw C x B n i).1 (fw C x B n i).2 (n - 1 - i) with
   | some p=>(p.2.toNat,(fw C x B n i).2 || decide (p.1=x))
   | none=>(0,false))=_
  rw [e]
 have en:fnm C x B n i=p.1:=by unfold fnm; rw [e]; rfl
 have ep:(fnm C x B n i,((fw C x B n (i + 1)).1:Int))=p:=by
  rw [en,ef]
  refine Prod.ext rfl ?_
  show ((p.2.toNat:Nat):Int)=p.2
  omega
 rw [ep,e]
 exact ⟨rfl,by rw [ef,en],p1⟩
theorem fw_end {C:Combs} (g:GC C) {x:Str} {B:Nat->Nat->Nat} (S:Sel C x B) {n:Nat} (h:0 < B n 0):(fw C x B n n).1=0:=by
 have h2:=(zgN g S h n (Ad _)).2
 rw [Il] at h2
 unfold ro at h2
 split at h2
 ·exact (zfW C x).zero _ h2
 ·exact S.zero _ h2
theorem step_lay {C:Combs} (g:GC C) (nd:(C.map (·.1)).Nodup) (ne:∀ c∈C,c.1≠A0 "") {p n:Nat} {l:List (Nat×Str)} (hl:l∈chs C p) (ol:OkC C l p) {x:Str} (h:(x,(n:Int))∈stp C (shp C l p)) :
  (if x=A0 "" then l else l ++ [(p,x)])∈chs C (p + 1)/\OkC C (if x=A0 "" then l else l ++ [(p,x)]) (p + 1)/\shp C (if x=A0 "" then l else l ++ [(p,x)]) (p + 1)=n:=by
 obtain ⟨_,hb⟩:=(zcK g (zdy _ _ _)).mp h
 rcases hb with ⟨h0,rfl,hb⟩ | ⟨h0,c,hc,rfl,hx,hb⟩
 ·rw [if_pos rfl]
  rw [zaB g hl,decide_eq_true_eq] at h0
  have hm:l∈chs C (p + 1):=Do.mpr ⟨l,hl,Ag⟩
  refine ⟨hm,(zeW hl g).mpr ⟨ol,h0⟩,zch fun d => ?_⟩
  rw [zaB g hm,hb,zaB g hl,show p + 1 + d=p + (d + 1) by omega]
 ·rw [if_neg (ne c hc)]
  rw [zaB g hl,decide_eq_false_iff_not] at h0
  have hz:cov C l p=0:=by have:=ol.2 p (by omega); have h0:¬ cov C l p=1:=h0; omega
  have hm:l ++ [(p,c.1)]∈chs C (p + 1):=Do.mpr ⟨l,hl,A8 _ (Ab.mpr ⟨c,hc,rfl⟩)⟩
  refine ⟨hm,(zeV hl g nd hc).mpr ⟨ol,hz,fun d hd=>hx d (by rw [zaB g hl,decide_eq_true hd])⟩,zch fun d => ?_⟩
  rw [zaB g hm,hb,zaB g hl,show p + 1 + d=p + (d + 1) by omega,zb2,zfC nd hc]
  have hx':=hx (d + 1)
  rw [zaB g hl,decide_eq_true_eq] at hx'
  have hle:cov C l (p + (d + 1))<=1:=by
   by_cases e':d + 1 < 8
   ·exact ol.2 _ (by omega)
   ·rw [zcf g hl (by omega)]; omega
  by_cases a:cov C l (p + (d + 1))=1
  ·rw [decide_eq_false (hx' a),a]; rfl
  ·have a0:cov C l (p + (d + 1))=0:=by omega
   by_cases z:((d + 1:Nat):Int)∈c.2
   ·rw [decide_eq_true z,a0]; rfl
   ·rw [decide_eq_false z,a0]; rfl
noncomputable def laysOf (nm:Nat->Str) (n:Nat):List (Nat×Str):=(laid nm n).map fun j=>(j,nm j)
theorem laysOf_succ (nm:Nat->Str) (i:Nat):laysOf nm (i + 1)=if nm i=A0 "" then laysOf nm i else laysOf nm i ++ [(i,nm i)]:=by
 unfold laysOf laid
 rw [Dx,Cz]
 by_cases h:nm i=A0 ""
 ·rw [if_pos h,Cb,if_neg (by simp [h]),Es,Bw]
 ·rw [if_neg h,Cb,if_pos (by simp [h]),Es,Bi]
  rfl
theorem zgf {C:Combs} (g:GC C) (nd:(C.map (·.1)).Nodup) (ne:∀ c∈C,c.1≠A0 "") {f:Nat->Nat} {nm:Nat->Str} {n:Nat} (h0:f 0=0) (hs:∀ i,i < n->(nm i,(f (i + 1):Int))∈stp C (f i)):∀ i,i<=n->laysOf nm i∈chs C i/\OkC C (laysOf nm i) i/\shp C (laysOf nm i) i=f i
 | 0,_=>⟨A6.mpr rfl,⟨fun q hq=>by omega,fun q _=>C6 _⟩,by rw [h0]; rfl⟩
 | i + 1,hi=>by
  obtain ⟨h1,h2,h3⟩:=zgf g nd ne h0 hs i (by omega)
  have:=step_lay g nd ne h1 h2 (x:=nm i) (n:=f (i + 1)) (by rw [h3]; exact hs i (by omega))
  rw [laysOf_succ]
  exact this
theorem path_cover {C:Combs} (g:GC C) (nd:(C.map (·.1)).Nodup) (ne:∀ c∈C,c.1≠A0 "") {f:Nat->Nat} {nm:Nat->Str} {n:Nat} (h0:f 0=0) (hn:f n=0) (hs:∀ i,i < n->(nm i,(f (i + 1):Int))∈stp C (f i)):laysOf nm n∈chs C n/\Cover C (laysOf nm n) n:=by
 obtain ⟨h1,h2,h3⟩:=zgf g nd ne h0 hs n (Ad _)
 exact ⟨h1,(zdO g h1).mp ⟨h2,by rw [h3,hn]⟩⟩
theorem fw_cover {C:Combs} (g:GC C) (nd:(C.map (·.1)).Nodup) (ne:∀ c∈C,c.1≠A0 "") {x:Str} {B:Nat->Nat->Nat} (S:Sel C x B) {n:Nat} (h:0 < B n 0):laysOf (fnm C x B n) n∈chs C n/\Cover C (laysOf (fnm C x B n) n) n :=
 path_cover g nd ne (f:=fun i=>(fw C x B n i).1) rfl (fw_end g S h) fun i hi=>(zgw g S h hi).2.2
noncomputable def LyR (H:Hp) (vs:List V) (l:List (Nat×Str)):Prop:=C3 (fun (x:Nat×Str) (u:V)=>∃ t,u = .ref t/\H t=some (.tup [.int (x.1:Int),.str x.2])) l vs
theorem lays_ly {H:Hp} {vs:List V} {nm:Nat->Str} {n:Nat} (r:LaysR H vs nm n):LyR H vs (laysOf nm n):=by
 have all:∀ {L:List Nat} {vs:List V},C3 (fun (j:Nat) (v:V)=>∃ q,v = .ref q/\H q=some (.tup [.int (j:Int),.str (nm j)])) L vs->LyR H vs (L.map fun j=>(j,nm j)):=by
  intro L vs r
  induction r with
  | nil=>exact .nil
  | cons h _ ih=>exact .cons h ih
 exact all r
theorem laysOf_up (nm:Nat->Str) (n:Nat):(laysOf nm n).Pairwise fun x y=>x.1 < y.1:=by
 unfold laysOf
 rw [C4]
 exact laid_up nm n
theorem cov_perm {C C':Combs} (p:C.Perm C') (nd:(C.map (·.1)).Nodup) (l:List (Nat×Str)) (q:Nat):cov C l q=cov C' l q:=by
 unfold cov
 refine zfe fun x _ => ?_
 unfold hit tkOf
 rw [tk_perm p nd]
theorem cover_perm {C C':Combs} (p:C.Perm C') (nd:(C.map (·.1)).Nodup) {l:List (Nat×Str)} {n:Nat} (h:Cover C l n):Cover C' l n:=fun q=>by rw [<- cov_perm p nd]; exact h q
theorem lay_perm {C C':Combs} (p:C.Perm C') {l:List (Nat×Str)} (h:Lay C l):Lay C' l:=fun x hx=>(p.map _).mem_iff.mp (h x hx)
end L2
set_option maxHeartbeats 4000000
namespace K20
open PySem L2 PyProof.Rows
noncomputable def top (i:Nat):Cd:=PySem.Challenge.pw_combstrip_k20_filling_covers.main.body.getD i (.Pass ⟨0,0,0,0⟩)
noncomputable abbrev s__wall:Cd:=top 0
noncomputable abbrev s_shape_steps:Cd:=top 26
noncomputable abbrev s_teeth_worth:Cd:=top 27
noncomputable abbrev s_step_table:Cd:=top 28
noncomputable abbrev s_first_filling:Cd:=top 30
noncomputable abbrev s_check_length:Cd:=top 31
noncomputable abbrev s_ways_to_close:Cd:=top 32
noncomputable abbrev s_ways_from:Cd:=top 33
noncomputable abbrev s_ways_behind:Cd:=top 34
noncomputable abbrev s_lay_first:Cd:=top 35
noncomputable abbrev s_first_open_step:Cd:=top 36
noncomputable abbrev s_is_name:Cd:=top 38
noncomputable abbrev s_is_small_letter:Cd:=top 39
noncomputable abbrev s_are_teeth:Cd:=top 40
noncomputable abbrev s_Book___init__:Cd:=inClass (top 42) 0
noncomputable abbrev s_Book_put:Cd:=inClass (top 42) 1
noncomputable abbrev s_Book_drop:Cd:=inClass (top 42) 2
noncomputable abbrev s_Book_add_tooth:Cd:=inClass (top 42) 3
noncomputable abbrev s_Book_take_off:Cd:=inClass (top 42) 4
noncomputable abbrev s_Book_undo:Cd:=inClass (top 42) 5
noncomputable abbrev s_Book_deeds:Cd:=inClass (top 42) 6
noncomputable abbrev s_Book_names:Cd:=inClass (top 42) 7
noncomputable abbrev s_Book_teeth:Cd:=inClass (top 42) 8
noncomputable abbrev s_Book_check_comb:Cd:=inClass (top 42) 9
noncomputable abbrev s_Book_set_comb:Cd:=inClass (top 42) 10
noncomputable abbrev s_Book_do_deed:Cd:=inClass (top 42) 11
noncomputable abbrev s_at:Cd:=top 44
noncomputable abbrev s_mixed:Cd:=top 45
noncomputable abbrev s_word:Cd:=top 46
noncomputable abbrev s_spare:Cd:=top 47
noncomputable abbrev s_menu:Cd:=top 48
noncomputable abbrev s_combs:Cd:=top 49
noncomputable abbrev s_raw:Cd:=top 50
noncomputable abbrev s_book:Cd:=top 51
noncomputable abbrev s_turned:Cd:=top 52
noncomputable abbrev s_after:Cd:=top 53
noncomputable abbrev s_goes:Cd:=top 54
noncomputable abbrev s_graph:Cd:=top 55
noncomputable abbrev s_home:Cd:=top 56
noncomputable abbrev s_fits:Cd:=top 57
noncomputable abbrev s_fit:Cd:=top 58
noncomputable abbrev s_length:Cd:=top 59
noncomputable abbrev s_whole:Cd:=top 60
noncomputable abbrev s_laying:Cd:=top 61
noncomputable abbrev s_layings:Cd:=top 62
noncomputable abbrev s_teeth:Cd:=top 63
noncomputable abbrev s_covers:Cd:=top 64
noncomputable abbrev s_kind:Cd:=top 65
noncomputable abbrev s_refused:Cd:=top 66
noncomputable abbrev s_asked:Cd:=top 67
noncomputable abbrev s_law:Cd:=top 68
section
variable {P:An} {w:B8} {K:Al} {mg:Str->Option A1} {base:Br}
theorem zg2 {a b:Nat}:([a] < [b]) ↔ a < b:=by
 rw [List.cons_lt_cons_iff]
 simp
theorem le_a (c:Nat):(!decide ((⟨#[c]⟩:Str).cps.toList < (A0 "a").cps.toList))=decide (97<=c):=by
 have e:(A0 "a").cps.toList = [97]:=by decide +kernel
 rw [e]
 show (!decide ([c] < [97]))=_
 rw [Bd]
 simp only [Fs,decide_eq_false_iff_not,decide_eq_true_eq,zg2]
 omega
theorem le_z (c:Nat):(!decide ((A0 "z").cps.toList < (⟨#[c]⟩:Str).cps.toList))=decide (c<=122):=by
 have e:(A0 "z").cps.toList = [122]:=by decide +kernel
 rw [e]
 show (!decide ([122] < [c]))=_
 rw [Bd]
 simp only [Fs,decide_eq_false_iff_not,decide_eq_true_eq,zg2]
 omega
noncomputable def sp_small:Sp:=fun vs H Q _=>∃ c:Nat,vs = [sgn c]/\Q (.bl (small c)) H
theorem zbr:FnScope ["sign"] ["sign"] (defScope s_is_small_letter):=⟨rfl,rfl,rfl,by decide +kernel,rfl,by decide +kernel,by decide +kernel⟩
theorem ok_small (D:DefAt K mg "is_small_letter" s_is_small_letter) (T:Bn mg):Callee P w K mg base "is_small_letter" 1 ["sign"] sp_small:=by
 refine D.callee zbr (fun _ _ _ _ _ _=>ln1 fun _=>rfl) (fun vs H Q E h => ?_) (fun f cdv A outer s H vs Q E hr h => ?_)
 ·obtain ⟨c,rfl,_⟩:=h
  rfl
 ·obtain ⟨c,rfl,q⟩:=h
  have S:=zbr
  refine ⟨_,zag (zaj (zfu zen zen (zau) (pv 0) (zau))),?_⟩
  refine ⟨_,rfl,_,_,rfl,rfl,_,rfl,?_⟩
  rw [le_a]
  have q':Q (.bl (decide (97<=c) && decide (c<=122))) H:=q
  cases e:decide (97<=c) with
  | false =>
   rw [if_neg A9]
   rw [e] at q'
   exact q'
  | true =>
   rw [if_pos rfl]
   refine ⟨_,_,rfl,rfl,?_⟩
   rw [le_z]
   rw [e] at q'
   exact q'
noncomputable def sp_name:Sp:=fun vs H Q _=>∃ x:Str,vs = [.str x]/\x.length<=sizeLine/\∀ H',Same H H'->Q (.bl (isName x)) H'
theorem zdC:FnScope ["text"] ["text"] (defScope s_is_name):=⟨rfl,rfl,rfl,by decide +kernel,rfl,by decide +kernel,by decide +kernel⟩
theorem ok_name (D:DefAt K mg "is_name" s_is_name) (T:Bn mg) (V_MOST_NAME:∃ t,mg "MOST_NAME" = some (.int 6 t)) (C_is_small_letter:Callee P w K mg base "is_small_letter" 1 ["sign"] sp_small):Callee P w K mg base "is_name" 2 ["text"] sp_name:=by
 refine D.callee zdC (fun _ _ _ _ _ _=>ln1 fun _=>rfl) (fun vs H Q E h => ?_) (fun f cdv A outer s H vs Q E hr h => ?_)
 ·obtain ⟨c,rfl,_⟩:=h
  rfl
 ·obtain ⟨x,rfl,hx,q⟩:=h
  have S:=zdC
  refine ⟨_,zaf (zaF (zbA (zdQ zeo zeo (zab) (zai call_len_str rfl T.n_len Bz (zaa (pv 0) zad)) (zbF rfl V_MOST_NAME)))
   (zag (zaj (zb6)))
   (zam))
  (zag (zaj (zai (zd5 rfl) rfl T.n_all Qk (zaa (za6 (own := ["sign"]) (caps := []) rfl ⟨rfl,rfl,rfl,rfl,trivial⟩ (zgT (pv 0)) (fun _ _ _ _ _ _=>zan (i:=0) (zaU (by decide +kernel)) rfl (Au rfl)) (fun _ _ _ _ _ _=>zby) (fun _ _ _ _ _ _=>zaJ C_is_small_letter (hr.mono (by decide)) rfl (zaa (pv 0) zad))) zad)))),?_⟩
  have fin:∀ H',Same H H'->(decide (1<=x.length) && decide (x.length<=6))=false->Q (.bl false) H':=fun H' s' e=>by
   have:=q H' s'
   unfold isName at this
   rw [e] at this
   exact this
  refine ⟨_,rfl,_,rfl,hx,_,_,rfl,rfl,_,rfl,?_⟩
  refine ite2 (fun h1 => ?_) (fun h1 => ?_)
  ·refine ⟨_,_,rfl,rfl,_,rfl,?_⟩
   refine ite2 (fun h2 => ?_) (fun h2 => ?_)
   ·refine fin H (Same.refl H) ?_
    have:¬ (x.length:Int)<=6:=by simpa using h2
    rw [Mh]
    exact .inr (decide_eq_false (by omega))
   ·refine ⟨_,rfl,_,rfl,fun D hD => ?_⟩
    refine zbW (capv := []) (L:=x.cps.toList.map sgn) (by rfl) (zeB x) (by rw [A5,zcw]; exact hx) hD ?_ (fun _=>true) (fun v=>match v with | .str y => .bl (small (y.cps.getD 0 0)) | _ => .non) ?_ ?_ ?_
    ·exact fun _ _=>trivial
    ·exact fun v hv H' R s' h=>h H' (Same.refl _)
    ·intro v hv _ H' R s' h
     obtain ⟨c,hc,rfl⟩:=Ab.mp hv
     exact ⟨_,rfl,c,rfl,h H' (Same.refl _)⟩
    ·intro H' s' e
     refine ⟨_,x.cps.toList.map small,rfl,?_,?_⟩
     ·refine SqL.of ?_
      rw [e]
      congr 2
      rw [Co.mpr (fun _ _=>rfl),Be,Be]
      rfl
     ·have:=q H' s'
      unfold isName at this
      have h3:¬ ¬ (x.length:Int)<=6:=by simpa using h2
      have h1':(1:Int)<=x.length:=by simpa using h1
      rw [decide_eq_true (show 1<=x.length by omega),decide_eq_true (show x.length<=6 by omega)] at this
      rw [Ic]
      exact this
  ·refine ⟨_,rfl,?_⟩
   refine fin H (Same.refl H) ?_
   have h1':¬ (1:Int)<=x.length:=by simpa using h1
   rw [Mh]
   exact .inl (decide_eq_false (by omega))
noncomputable def sp_teeth (K:Al):Sp:=fun vs H Q _=>∃ (a:A3) (ts:List Int),vs = [.ref a]/\SqL K H a (ts.map V.int)/\ts.length<=1000/\∀ H',Same H H'->Q (.bl (areTeeth ts)) H'
theorem zcH:FnScope ["teeth"] ["teeth"] (defScope s_are_teeth):=⟨rfl,rfl,rfl,by decide +kernel,rfl,by decide +kernel,by decide +kernel⟩
theorem ok_teeth (D:DefAt K mg "are_teeth" s_are_teeth) (T:Bn mg) (V_MOST_TOOTH:∃ t,mg "MOST_TOOTH" = some (.int 7 t)):Callee P w K mg base "are_teeth" 1 ["teeth"] (sp_teeth K):=by
 refine D.callee zcH (fun _ _ _ _ _ _=>ln1 fun _=>rfl) (fun vs H Q E h => ?_) (fun f cdv A outer s H vs Q E hr h => ?_)
 ·obtain ⟨a,ts,rfl,_⟩:=h
  rfl
 ·obtain ⟨a,ts,rfl,ha,hl,q⟩:=h
  have S:=zcH
  unfold areTeeth at q
  refine ⟨_,zaf (zaF (zao zbT (zab) (pv 0) (by with_unfolding_all rfl))
   (zag (zaj (zb6)))
   (zam))
  (zaf (zaF (zao zdU (zai call_lenS rfl T.n_len Bz (zaa (zbn (call_set1 rfl) rfl T.n_set boot_set (zaa (pv 0) zad)) zad)) (zai zat rfl T.n_len Bz (zaa (pv 0) zad)) (zav _))
   (zag (zaj (zb6)))
   (zam))
  (zag (zaj (zai (zd5 rfl) rfl T.n_all Qk (zaa (za6 (own := ["tooth"]) (caps := []) rfl ⟨rfl,rfl,rfl,rfl,trivial⟩ (zaI (pv 0)) (fun _ _ _ _ _ _=>zan (i:=0) (zaU (by decide +kernel)) rfl (Au rfl)) (fun _ _ _ _ _ _=>zby) (fun _ _ _ _ _ _=>zfu zeo zeo (zab) (pv 0) (zbF rfl V_MOST_TOOTH))) zad))))),?_⟩
  refine ⟨_,rfl,_,_,rfl,.inl ha,rfl,zhe ts,_,rfl,?_⟩
  rw [if_pos rfl,in_zero]
  refine ite2 (fun hc => ?_) (fun hc => ?_)
  ·have h0:decide (0∈ts)=false:=by simpa using hc
   rw [h0] at q
   exact q H (Same.refl H)
  ·have h0:decide (0∈ts)=true:=by simpa using hc
   rw [h0,Ff] at q
   refine ⟨_,rfl,_,ts,rfl,ha,?_,fun p np => ?_⟩
   ·show ts.length + 1 < 4096
    omega
   have s1:Same H (upd H p (.set (fun k=>(firstMet (fun i=>ts.getD i 0) ts.length).any (· == k)) (many ts))):=Same.new np
   refine ⟨_,_,_,rfl,zac,_,rfl,_,_,rfl,.inl (s1.seq ha),rfl,_,rfl,?_⟩
   rw [A5]
   refine ite2 (fun hm => ?_) (fun hm => ?_)
   ·have h1:¬ many ts=ts.length:=fun z=>by simp [z] at hm
    rw [decide_eq_false h1,F9] at q
    exact q _ s1
   ·have h1:many ts=ts.length:=by
     have:(many ts:Int)=(ts.length:Int):=by simpa using hm
     omega
    rw [decide_eq_true h1,Ff] at q
    refine ⟨_,rfl,_,rfl,⟨_,s1.seq ha⟩,fun D hD => ?_⟩
    refine zbW (capv := []) (L:=ts.map V.int) (by rfl) (zar K a (ts.map V.int)) (by rw [A5]; exact big hl) hD ?_ (fun _=>true) (fun v=>match v with | .int t => .bl (inR t) | _ => .non) ?_ ?_ ?_
    ·exact fun H' s'=>(s1.trans s').seq ha
    ·exact fun v hv H' R s' h=>h H' (Same.refl _)
    ·intro v hv _ H' R s' h
     obtain ⟨t,ht,rfl⟩:=Ab.mp hv
     have h:=h H' (Same.refl _)
     have h:R (.bl (decide (0<=t) && decide (t<=7))) H':=h
     refine ⟨_,rfl,_,_,rfl,rfl,_,rfl,?_⟩
     cases e:decide (0<=t) with
     | false =>
      rw [e] at h
      exact iteF h
     | true =>
      rw [e] at h
      exact iteT ⟨_,_,rfl,rfl,h⟩
    ·intro H' s' e
     refine ⟨_,ts.map inR,rfl,?_,?_⟩
     ·refine SqL.of ?_
      rw [e]
      congr 2
      rw [Co.mpr (fun _ _=>rfl),Be,Be]
      rfl
     ·have:=q H' (s1.trans s')
      rw [Ic]
      exact this
theorem zbG {d l:V}:([("combs",d),("past",l)]:List (Str×V)).lookup (A0 "combs")=some d:=rfl
theorem zdW {d l:V}:([("combs",d),("past",l)]:List (Str×V)).lookup (A0 "past")=some l:=rfl
theorem putF_combs {y d l:V}:putF (A0 "combs") y [("combs",d),("past",l)] = [(A0 "combs",y),(A0 "past",l)]:=by
 unfold putF
 rw [if_pos rfl]
theorem putF_new {y:V}:putF (A0 "combs") y [] = [(A0 "combs",y)]:=rfl
theorem putF_past {y d:V}:putF (A0 "past") y [("combs",d)] = [(A0 "combs",d),(A0 "past",y)]:=by
 have h:¬ (A0 "combs" = A0 "past"):=by decide +kernel
 unfold putF
 rw [if_neg h]
 rfl
theorem two_len {a b:Str×V} : [a,b].length < 1000:=show 2 < 1000 by decide
noncomputable def sp_check (ea:Nat->A3) (C:A3):Sp:=fun vs H Q E=>∃ b l G cs past x,vs = [.ref b,.str x]/\Bk C G H b l cs past/\(if (cGet cs x).isSome=true then Q .non H else E (.ref (ea 4)) none H)
theorem zbt:FnScope ["self","name"] ["self","name"] (defScope s_Book_check_comb):=⟨rfl,rfl,rfl,by decide +kernel,rfl,by decide +kernel,by decide +kernel⟩
theorem ok_check {ea:Nat->A3} {C:A3} (D:MethAt K C "Book" "check_comb" s_Book_check_comb) (T:Bn mg) (BA:BookAt K C) (O_NoComb:Err K mg "NoComb" (ea 4)):Method P w K mg base C "check_comb" (CX1 P w) 1 ["self","name"] (sp_check ea C):=by
 refine D.meth1 zbt (fun _ _ _ _ _ _=>ln2 fun _ _=>rfl) (fun vs H Q E h => ?_) (fun f cdv A outer s H vs Q E hr h => ?_)
 ·obtain ⟨b,l,G,cs,past,x,rfl,_⟩:=h
  rfl
 ·obtain ⟨b,l,G,cs,past,x,rfl,B,q⟩:=h
  have S:=zbt
  have hu:=zde hr
  obtain ⟨dx,d,hb,gd,kvs,hd,kr⟩:=B.ins
  refine ⟨_,zag (zaF (zei (zel hu (pv 1) (zbR (pv 0) rfl)))
   (zag (zbk O_NoComb rfl (zaa (zau) zad)))
   (zam)),?_⟩
  refine ⟨_,rfl,_,rfl,_,_,_,_,_,rfl,hb,BA.cls,BA.nc,zbG,d,_,rfl,DGet.k (k:=D6 x) hd,_,rfl,?_⟩
  rw [kr.some]
  cases e:(cGet cs x).isSome with
  | false =>
   rw [e] at q
   exact iteT ⟨bigr rfl,q⟩
  | true =>
   rw [e] at q
   exact iteF q
noncomputable def sp_do (ea:Nat->A3) (C:A3):Sp:=fun vs H Q E=>∃ b l G cs past d D cs',vs = [.ref b,.ref d]/\Bk C G H b l cs past/\DictR D H d cs'/\Good cs'/\(∀ x,D x->x≠b/\x≠l/\H x≠none) /\
 (if 300<=past.length then E (.ref (ea 9)) none H else ∀ H',(∀ a,a≠b->a≠l->H' a=H a)->Bk C (fun a=>G a\/D a) H' b l cs' (past ++ [cs])->Q (.int ((past.length:Int) + 1)) H')
theorem zbN:FnScope ["self","combs"] ["self","combs"] (defScope s_Book_do_deed):=⟨rfl,rfl,rfl,by decide +kernel,rfl,by decide +kernel,by decide +kernel⟩
theorem ok_do {ea:Nat->A3} {C:A3} (D:MethAt K C "Book" "do_deed" s_Book_do_deed) (T:Bn mg) (BA:BookAt K C) (V_MOST_DEEDS:∃ t,mg "MOST_DEEDS" = some (.int 300 t)) (O_DeedsFull:Err K mg "DeedsFull" (ea 9)):Method P w K mg base C "do_deed" (CX1 P w) 1 ["self","combs"] (sp_do ea C):=by
 refine D.meth1 zbN (fun _ _ _ _ _ _=>ln2 fun _ _=>rfl) (fun vs H Q E h => ?_) (fun f cdv A outer s H vs Q E hr h => ?_)
 ·obtain ⟨b,l,G,cs,past,d,D,cs',rfl,_⟩:=h
  rfl
 ·obtain ⟨b,l,G,cs,past,d1,Dd,cs',rfl,B,dr,gd',nD,q⟩:=h
  have S:=zbN
  have hu:=zde hr
  obtain ⟨dx,d,hb,dr0⟩:=B.ins
  obtain ⟨vs,hl,pr⟩:=B.lst
  have hlen:=pr.length
  have hbl:b≠l:=zhd hb hl (by intro z; cases z)
  refine ⟨_,zaf (zaF (zao zhb (zai zat rfl T.n_len Bz (zaa (zbR (pv 0) rfl) zad)) (zbF rfl V_MOST_DEEDS) (zav _))
   (zag (zbk O_DeedsFull rfl (zaa (zau) zad)))
   (zam))
  (zaf (za5 (zdp Bu C9 C8 zaV (zbR (pv 0) rfl) (zaa (zbR (pv 0) rfl) zad)))
  (zaf (zf8 (pv 0) (pv 1) rfl)
  (zag (zaj (zai zat rfl T.n_len Bz (zaa (zbR (pv 0) rfl) zad)))))),?_⟩
  refine ⟨_,rfl,_,_,_,_,_,rfl,hb,BA.cls,BA.np,zdW,_,_,rfl,.inl (SqL.of hl),_,_,rfl,rfl,_,rfl,?_⟩
  refine ite2 (fun hc => ?_) (fun hc => ?_)
  ·have h300:300<=past.length:=by
    have:(300:Int)<=(vs.length:Int):=by simpa using hc
    omega
   rw [if_pos h300] at q
   exact ⟨bigr rfl,q⟩
  ·have h300:¬ 300<=past.length:=by
    have:¬ (300:Int)<=(vs.length:Int):=by simpa using hc
    omega
   rw [if_neg h300] at q
   refine ⟨_,rfl,_,_,_,_,_,rfl,hb,BA.cls,BA.np,zdW,.inl ⟨rfl,_,SqL.of hl⟩,_,rfl,_,_,_,_,_,rfl,hb,BA.cls,BA.nc,zbG,_,_,_,rfl,rfl,hl,?_,?_⟩
   ·exact Af (by omega:vs.length < 1000) za0
   have hb1:upd H l (.lst (vs ++ [.ref d])) b=some (.ins C dx [("combs",.ref d),("past",.ref l)]):=by rw [zah hbl]; exact hb
   refine ⟨_,rfl,_,rfl,_,_,_,_,rfl,hb1,BA.cls,BA.nc,two_len,?_⟩
   rw [putF_combs]
   have hb2:upd (upd H l (.lst (vs ++ [.ref d]))) b (.ins C dx [("combs",.ref d1),("past",.ref l)]) b=some (.ins C dx [("combs",.ref d1),("past",.ref l)]):=zac
   have hl2:upd (upd H l (.lst (vs ++ [.ref d]))) b (.ins C dx [("combs",.ref d1),("past",.ref l)]) l=some (.lst (vs ++ [.ref d])):=by rw [zah (Dy hbl),zac]
   have off:∀ a,a≠b->a≠l->upd (upd H l (.lst (vs ++ [.ref d]))) b (.ins C dx [("combs",.ref d1),("past",.ref l)]) a=H a:=fun a n1 n2=>by rw [zah n1,zah n2]
   generalize upd (upd H l (.lst (vs ++ [.ref d]))) b (.ins C dx [("combs",.ref d1),("past",.ref l)])=H2 at hb2 hl2 off
   refine ⟨_,rfl,_,_,_,_,_,rfl,hb2,BA.cls,BA.np,zdW,_,_,rfl,.inl (SqL.of hl2),?_⟩
   rw [Ah,Bm,hlen]
   have sG:∀ a o,G a->H a=some o->H2 a=some o:=fun a o g e=>(off a (fun z=>B.nb (z ▸ g)) (fun z=>B.nl (z ▸ g))).trans e
   have sD:∀ a o,Dd a->H a=some o->H2 a=some o:=fun a o g e=>(off a (nD a g).1 (nD a g).2.1).trans e
   refine q H2 off ⟨?_,?_,?_,⟨dx,d1,hb2,dr.mono sD fun _ g => .inr g⟩,⟨_,hl2,?_⟩,gd',?_,?_⟩
   ·rintro x (g | g)
    ·rw [off x (fun z=>B.nb (z ▸ g)) (fun z=>B.nl (z ▸ g))]; exact B.live x g
    ·rw [off x (nD x g).1 (nD x g).2.1]; exact (nD x g).2.2
   ·rintro (g | g)
    ·exact B.nb g
    ·exact (nD b g).1 rfl
   ·rintro (g | g)
    ·exact B.nl g
    ·exact (nD l g).2.1 rfl
   ·exact Ek (M1 (fun _ _ ⟨d,e,r⟩=>⟨d,e,r.mono sG fun _ g => .inl g⟩) pr) ⟨d,rfl,dr0.mono sG fun _ g => .inl g⟩
   ·intro p hp
    rcases Ao.mp hp with z | z
    ·exact B.goods p z
    ·rw [A6.mp z]; exact B.good
   ·rw [Ah,Bm]; omega
noncomputable def sp_deeds (C:A3):Sp:=fun vs H Q _=>∃ b l G cs past,vs = [.ref b]/\Bk C G H b l cs past/\Q (.int (past.length:Int)) H
theorem zcp:FnScope ["self"] ["self"] (defScope s_Book_deeds):=⟨rfl,rfl,rfl,by decide +kernel,rfl,by decide +kernel,by decide +kernel⟩
theorem ok_deeds {C:A3} (D:MethAt K C "Book" "deeds" s_Book_deeds) (T:Bn mg) (BA:BookAt K C):Method P w K mg base C "deeds" CX0 1 ["self"] (sp_deeds C):=by
 refine D.meth0 zcp (fun _ _ _ _ _ _=>ln1 fun _=>rfl) (fun vs H Q E h => ?_) (fun f cdv A outer s H vs Q E hr h => ?_)
 ·obtain ⟨b,l,G,cs,past,rfl,_⟩:=h
  rfl
 ·obtain ⟨b,l,G,cs,past,rfl,B,q⟩:=h
  have S:=zcp
  obtain ⟨dx,d,hb,dr0⟩:=B.ins
  obtain ⟨vs,hl,pr⟩:=B.lst
  refine ⟨_,zag (zaj (zai zat rfl T.n_len Bz (zaa (zbR (pv 0) rfl) zad))),?_⟩
  refine ⟨_,rfl,_,_,_,_,_,rfl,hb,BA.cls,BA.np,zdW,_,_,rfl,.inl (SqL.of hl),?_⟩
  rw [pr.length]
  exact q
noncomputable def sp_names (C:A3):Sp:=fun vs H Q _=>∃ b l G cs past,vs = [.ref b]/\Bk C G H b l cs past/\∀ p (nm:List Str),H p=none->nm.Perm (cs.map (·.1))->sortedS nm=true->Q (.ref p) (upd H p (.lst (nm.map V.str)))
theorem zco:FnScope ["self"] ["self"] (defScope s_Book_names):=⟨rfl,rfl,rfl,by decide +kernel,rfl,by decide +kernel,by decide +kernel⟩
theorem ok_names {C:A3} (D:MethAt K C "Book" "names" s_Book_names) (T:Bn mg) (BA:BookAt K C):Method P w K mg base C "names" CX0 1 ["self"] (sp_names C):=by
 refine D.meth0 zco (fun _ _ _ _ _ _=>ln1 fun _=>rfl) (fun vs H Q E h => ?_) (fun f cdv A outer s H vs Q E hr h => ?_)
 ·obtain ⟨b,l,G,cs,past,rfl,_⟩:=h
  rfl
 ·obtain ⟨b,l,G,cs,past,rfl,B,q⟩:=h
  have S:=zco
  obtain ⟨dx,d,hb,gd,kvs,hd,kr⟩:=B.ins
  refine ⟨_,zag (zaj (zai (call_sortedD rfl) rfl T.n_sorted Jr (zaa (zbR (pv 0) rfl) zad))),?_⟩
  refine ⟨_,rfl,_,_,_,_,_,rfl,hb,BA.cls,BA.nc,zbG,d,kvs,cs.map (·.1),rfl,.inl hd,kr.keys,?_,q⟩
  rw [A5]
  have:=B.good.len
  omega
noncomputable def sp_bteeth (ea:Nat->A3) (C:A3):Sp:=fun vs H Q E=>∃ b l G cs past x,vs = [.ref b,.str x]/\Bk C G H b l cs past/\(match cGet cs x with | some ts=>∀ p,H p=none->Q (.ref p) (upd H p (.lst (ts.map V.int))) | none=>E (.ref (ea 4)) none H)
theorem zcn:FnScope ["self","name"] ["self","name"] (defScope s_Book_teeth):=⟨rfl,rfl,rfl,by decide +kernel,rfl,by decide +kernel,by decide +kernel⟩
theorem ok_bteeth {ea:Nat->A3} {C:A3} (D:MethAt K C "Book" "teeth" s_Book_teeth) (T:Bn mg) (BA:BookAt K C) (M_check_comb:Method P w K mg base C "check_comb" (CX1 P w) 1 ["self","name"] (sp_check ea C)):Method P w K mg base C "teeth" (CX1 P w) 2 ["self","name"] (sp_bteeth ea C):=by
 refine D.meth1 zcn (fun _ _ _ _ _ _=>ln2 fun _ _=>rfl) (fun vs H Q E h => ?_) (fun f cdv A outer s H vs Q E hr h => ?_)
 ·obtain ⟨b,l,G,cs,past,x,rfl,_⟩:=h
  rfl
 ·obtain ⟨b,l,G,cs,past,x,rfl,B,q⟩:=h
  have S:=zcn
  have hu:=zde hr
  have B_cls:=BA.cls
  obtain ⟨dx,d,hb,gd,kvs,hd,kr⟩:=id B.ins
  refine ⟨_,zaf (za5 (zgb (pv 0) B_cls M_check_comb (hr.mono (by decide)) (by first | exact zem | exact za3 | exact zcJ | exact zbg) (zaa (pv 1) zad)))
  (zag (zaj (zbn zbY rfl T.n_list L7 (zaa (zdT hu (zbR (pv 0) rfl) (pv 1) (fun _ _=>rfl)) zad)))),?_⟩
  refine ⟨_,rfl,_,_,_,rfl,hb,rfl,_,rfl,b,l,G,cs,past,x,rfl,B,?_⟩
  rcases kr.val (x:=x) with ⟨e1,e2⟩ | ⟨ts,t,e1,e2,e3,e4⟩
  ·rw [e1] at q ⊢
   exact q
  ·rw [e1] at q ⊢
   refine iteT ?_
   refine ⟨_,rfl,_,_,_,_,_,rfl,hb,BA.cls,BA.nc,zbG,_,rfl,d,_,rfl,?_,_,_,rfl,.inl (SqL.of e3),q⟩
   rw [<- e2]
   exact DGet.k (k:=D6 x) hd
noncomputable def sp_init (C:A3):Sp:=fun vs H Q _=>∃ b dx,vs = [.ref b]/\H b=some (.ins C dx [])/\∀ H' l d,Mv b b (fun _=>False) (fun a=>a=d) H H'->H l=none->H d=none->Bk C (fun a=>a=d) H' b l [] []->Q .non H'
theorem zbL:FnScope ["self"] ["self"] (defScope s_Book___init__):=⟨rfl,rfl,rfl,by decide +kernel,rfl,by decide +kernel,by decide +kernel⟩
theorem ok_init {C:A3} {f:A3} {fd:Ed} (F:Fun K "__init__" "Book.__init__" s_Book___init__ f fd) (T:Bn mg) (BA:BookAt K C):FnOk P w K mg base CX0 1 f fd ["self"] (sp_init C):=by
 refine F.ok zbL (fun vs H Q E h => ?_) (fun cdv A outer s H vs Q E hr h => ?_)
 ·obtain ⟨b,dx,rfl,_⟩:=h
  rfl
 ·obtain ⟨b,dx,rfl,hb,q⟩:=h
  have S:=zbL
  refine ⟨_,zaf (zf8 (pv 0) (zft) rfl)
  (zag (zf8 (pv 0) (za4 (zad)) rfl)),?_⟩
  refine fun d nd => ?_
  have hbd:b≠d:=zal hb nd
  have hb1:upd H d (.dK []) b=some (.ins C dx []):=by rw [zah hbd]; exact hb
  refine ⟨_,rfl,_,_,_,_,rfl,hb1,BA.cls,BA.nc,by decide,?_⟩
  rw [putF_new]
  refine ⟨bigr rfl,fun l nl => ?_⟩
  have hbl:b≠l:=fun z=>by rw [<- z,zac] at nl; cases nl
  have nl1:upd H d (.dK []) l=none:=by rw [zah (Dy hbl)] at nl; exact nl
  have hdl:d≠l:=fun z=>by rw [<- z,zac] at nl1; cases nl1
  have hln:H l=none:=by rw [zah (Dy hdl)] at nl1; exact nl1
  have hb2:upd (upd (upd H d (.dK [])) b (.ins C dx [(A0 "combs",V.ref d)])) l (.lst []) b=some (.ins C dx [("combs",.ref d)]):=by rw [zah hbl,zac]
  refine ⟨_,rfl,_,_,_,_,rfl,hb2,BA.cls,BA.np,(show 1 < 1000 by decide),?_⟩
  rw [putF_past]
  have hb3:upd (upd (upd (upd H d (.dK [])) b (.ins C dx [(A0 "combs",V.ref d)])) l (.lst [])) b (.ins C dx [(A0 "combs",V.ref d),(A0 "past",V.ref l)]) b=some (.ins C dx [("combs",.ref d),("past",.ref l)]):=zac
  have hd3:upd (upd (upd (upd H d (.dK [])) b (.ins C dx [(A0 "combs",V.ref d)])) l (.lst [])) b (.ins C dx [(A0 "combs",V.ref d),(A0 "past",V.ref l)]) d=some (.dK []):=by
   rw [zah (Dy hbd),zah hdl,zah (Dy hbd),zac]
  have hl3:upd (upd (upd (upd H d (.dK [])) b (.ins C dx [(A0 "combs",V.ref d)])) l (.lst [])) b (.ins C dx [(A0 "combs",V.ref d),(A0 "past",V.ref l)]) l=some (.lst []):=by
   rw [zah (Dy hbl),zac]
  have off:∀ a o,H a=some o->a≠b->upd (upd (upd (upd H d (.dK [])) b (.ins C dx [(A0 "combs",V.ref d)])) l (.lst [])) b (.ins C dx [(A0 "combs",V.ref d),(A0 "past",V.ref l)]) a=some o:=fun a o e n=>by
   rw [zah n,zah (zal e hln),zah n,zah (zal e nd)]; exact e
  generalize upd (upd (upd (upd H d (.dK [])) b (.ins C dx [(A0 "combs",V.ref d)])) l (.lst [])) b (.ins C dx [(A0 "combs",V.ref d),(A0 "past",V.ref l)])=H3 at hb3 hd3 hl3 off
  refine q H3 l d ⟨fun a o e n _=>off a o e n,fun a h => ?_,fun a g => .inr (by rw [g]; exact nd)⟩ hln nd ⟨fun x g => ?_,hbd,fun z=>hdl z.symm,⟨dx,d,hb3,rfl,[],hd3,.nil⟩,⟨[],hl3,.nil⟩,good_nil,by simp,by decide⟩
  ·by_cases z:a=b
   ·rw [z,hb3]; simp
   ·cases e:H a with
    | none=>exact absurd e h
    | some o=>rw [off a o e z]; simp
  ·rw [show x=d from g,hd3]; simp
noncomputable def sp_set (ea:Nat->A3) (C:A3):Sp:=fun vs H Q E=>∃ b l G cs past x a ts,vs = [.ref b,.str x,.ref a]/\Bk C G H b l cs past/\SqL K H a (ts.map V.int)/\areTeeth ts=true/\isName x=true/\(cs.length < 8\/(cGet cs x).isSome=true)/\Deed ea C G H b l cs past Q E (full past (cPut cs x (canon ts)))
theorem zbK:FnScope ["self","name","teeth","combs"] ["self","name","teeth"] (defScope s_Book_set_comb):=⟨rfl,rfl,rfl,by decide +kernel,rfl,by decide +kernel,by decide +kernel⟩
theorem ok_set {ea:Nat->A3} {C:A3} (D:MethAt K C "Book" "set_comb" s_Book_set_comb) (T:Bn mg) (BA:BookAt K C) (M_do_deed:Method P w K mg base C "do_deed" (CX1 P w) 1 ["self","combs"] (sp_do ea C)):Method P w K mg base C "set_comb" (CX1 P w) 2 ["self","name","teeth"] (sp_set (K:=K) ea C):=by
 refine D.meth1 zbK (fun _ _ _ _ _ _=>ln3 fun _ _ _=>rfl) (fun vs H Q E h => ?_) (fun f cdv A outer s H vs Q E hr h => ?_)
 ·obtain ⟨b,l,G,cs,past,x,a,ts,rfl,_⟩:=h
  rfl
 ·obtain ⟨b,l,G,cs,past,x,a,ts,rfl,B,ha,ht,hx,hn,q⟩:=h
  have S:=zbK
  have hu:=zde hr
  have B_cls:=BA.cls
  obtain ⟨t0,tn,tr⟩:=teeth_iff.mp ht
  obtain ⟨dx,d,hb,gd,kvs,hd,kr⟩:=id B.ins
  refine ⟨_,zaf (zaq (i:=3) S.nd rfl (Au rfl) (zbn call_dictD rfl T.n_dict boot_dict (zaa (zbR (pv 0) rfl) zad)))
  (zaf (zdS hu (pv 3) (pv 1) (zai zbX rfl T.n_sorted Jr (zaa (pv 2) zad)) rfl)
  (zag (zaj (zgb (pv 0) B_cls M_do_deed (hr.mono (by decide)) (by first | exact zem | exact za3 | exact zcJ | exact zbg) (zaa (pv 3) zad))))),?_⟩
  refine ⟨_,rfl,_,_,_,_,_,rfl,hb,BA.cls,BA.nc,zbG,d,kvs,rfl,.inl hd,fun p np => ?_⟩
  have s1:Same H (upd H p (.dK kvs)):=Same.new np
  refine ⟨_,rfl,a,ts,rfl,s1.seq ha,?_,fun r ns nr hp hs => ?_⟩
  ·have:=zcY tn tr
   omega
  have hc:=zcT hp hs tn tr
  subst hc
  have npr:p≠r:=fun z=>by rw [<- z,zac] at nr; cases nr
  have hr0:H r=none:=s1.free nr
  have s2:Same H (upd (upd H p (.dK kvs)) r (.lst ((canon ts).map V.int))):=s1.put hr0
  have hp2:upd (upd H p (.dK kvs)) r (.lst ((canon ts).map V.int)) p=some (.dK kvs):=by rw [zah npr,zac]
  have hkl:kvs.length < sizeLine:=by
   have:=kr.length
   have:=B.good.len
   exact Af (by omega:kvs.length < 1000) za0
  refine ⟨_,rfl,_,rfl,p,_,rfl,DPut.k (k:=D6 x) hp2 hkl,?_⟩
  have s3:Same H (upd (upd (upd H p (.dK kvs)) r (.lst ((canon ts).map V.int))) p (.dK (putK kvs (D6 x) (.ref r)))):=s2.put np
  have hr3:upd (upd (upd H p (.dK kvs)) r (.lst ((canon ts).map V.int))) p (.dK (putK kvs (D6 x) (.ref r))) r=some (.lst ((canon ts).map V.int)):=by rw [zah (Dy npr),zac]
  have hp3:upd (upd (upd H p (.dK kvs)) r (.lst ((canon ts).map V.int))) p (.dK (putK kvs (D6 x) (.ref r))) p=some (.dK (putK kvs (D6 x) (.ref r))):=zac
  generalize upd (upd (upd H p (.dK kvs)) r (.lst ((canon ts).map V.int))) p (.dK (putK kvs (D6 x) (.ref r)))=H3 at s3 hr3 hp3
  have B3:=B.same s3
  obtain ⟨lb,ll⟩:=B.liveB
  refine ⟨_,rfl,b,dx,_,rfl,s3 _ _ hb,rfl,_,rfl,b,l,G,cs,past,p,fun a=>G a\/a=p\/a=r,cPut cs x (canon ts),rfl,B3,⟨.inr (.inl rfl),_,hp3,?_⟩,B.good.put hx (zfE t0) hn,?_,?_⟩
  ·exact (kr.mono (fun a o _ e=>s3 a o e) fun _ g => .inl g).put hr3 (.inr (.inr rfl))
  ·rintro y (g | g | g)
   ·exact ⟨fun z=>B.nb (z ▸ g),fun z=>B.nl (z ▸ g),B3.live y g⟩
   ·subst g
    exact ⟨fun z=>lb (z ▸ np),fun z=>ll (z ▸ np),by rw [hp3]; simp⟩
   ·subst g
    exact ⟨fun z=>lb (z ▸ hr0),fun z=>ll (z ▸ hr0),by rw [hr3]; simp⟩
  ·unfold full at q
   by_cases h3:300<=past.length
   ·rw [if_pos h3] at q ⊢
    exact q H3 s3
   ·rw [if_neg h3] at q ⊢
    intro H4 off B4
    refine q H4 _ ⟨fun a o e n1 n2=>(off a n1 n2).trans (s3 a o e),fun a h => ?_,fun a g => ?_⟩ B4
    ·obtain ⟨lb4,ll4⟩:=B4.liveB
     by_cases z:a=b
     ·rw [z]; exact lb4
     ·by_cases z2:a=l
      ·rw [z2]; exact ll4
      ·rw [off a z z2]; exact zer s3 a h
    ·rcases g with g | g | g | g
     ·exact .inl g
     ·exact .inl g
     ·rw [g]; exact .inr np
     ·rw [g]; exact .inr hr0
noncomputable def sp_put (ea:Nat->A3) (C:A3):Sp:=fun vs H Q E=>∃ b l G cs past x a ts,vs = [.ref b,.str x,.ref a]/\Bk C G H b l cs past/\SqL K H a (ts.map V.int)/\x.length<=sizeLine/\ts.length<=1000/\Deed ea C G H b l cs past Q E (putD cs past x ts)
theorem zc0:FnScope ["self","name","teeth"] ["self","name","teeth"] (defScope s_Book_put):=⟨rfl,rfl,rfl,by decide +kernel,rfl,by decide +kernel,by decide +kernel⟩
theorem ok_put {ea:Nat->A3} {C:A3} (D:MethAt K C "Book" "put" s_Book_put) (T:Bn mg) (BA:BookAt K C) (V_MOST_COMBS:∃ t,mg "MOST_COMBS" = some (.int 8 t)) (O_BadName:Err K mg "BadName" (ea 0)) (O_BadTeeth:Err K mg "BadTeeth" (ea 1)) (O_NameTaken:Err K mg "NameTaken" (ea 2)) (O_BookFull:Err K mg "BookFull" (ea 3))
  (C_is_name:Callee P w K mg base "is_name" 2 ["text"] sp_name) (C_are_teeth:Callee P w K mg base "are_teeth" 1 ["teeth"] (sp_teeth K)) (M_set_comb:Method P w K mg base C "set_comb" (CX1 P w) 2 ["self","name","teeth"] (sp_set (K:=K) ea C)):Method P w K mg base C "put" (CX1 P w) 3 ["self","name","teeth"] (sp_put (K:=K) ea C):=by
 refine D.meth1 zc0 (fun _ _ _ _ _ _=>ln3 fun _ _ _=>rfl) (fun vs H Q E h => ?_) (fun f cdv A outer s H vs Q E hr h => ?_)
 ·obtain ⟨b,l,G,cs,past,x,a,ts,rfl,_⟩:=h
  rfl
 ·obtain ⟨b,l,G,cs,past,x,a,ts,rfl,B,ha,hxl,htl,q⟩:=h
  have S:=zc0
  have hu:=zde hr
  have B_cls:=BA.cls
  unfold putD at q
  refine ⟨_,zaf (zaF (zbA (zbz (zaJ C_is_name (hr.mono (by decide)) rfl (zaa (pv 1) zad))))
   (zag (zbk O_BadName rfl (zaa (zau) zad)))
   (zam))
  (zaf (zaF (zbA (zbz (zaJ C_are_teeth (hr.mono (by decide)) rfl (zaa (pv 2) zad))))
   (zag (zbk O_BadTeeth rfl (zaa (zau) zad)))
   (zam))
  (zaf (zaF (zei (zge hu (pv 1) (zbR (pv 0) rfl)))
   (zag (zbk O_NameTaken rfl (zaa (zau) zad)))
   (zam))
  (zaf (zaF (zao zhb (zai call_lenD rfl T.n_len Bz (zaa (zbR (pv 0) rfl) zad)) (zbF rfl V_MOST_COMBS) (zav _))
   (zag (zbk O_BookFull rfl (zaa (zau) zad)))
   (zam))
  (zag (zaj (zgb (pv 0) B_cls M_set_comb (hr.mono (by decide)) (by first | exact zem | exact za3 | exact zcJ | exact zbg) (zaa (pv 1) (zaa (pv 2) zad)))))))),?_⟩
  refine ⟨_,rfl,x,rfl,hxl,fun H1 s1=>⟨_,rfl,?_⟩⟩
  cases e1:isName x with
  | false =>
   rw [e1,if_pos rfl] at q
   exact iteT ⟨bigr rfl,q H1 s1⟩
  | true =>
   rw [e1,if_neg (by decide)] at q
   refine iteF ?_
   refine ⟨_,rfl,a,ts,rfl,s1.seq ha,htl,fun H2 s2=>⟨_,rfl,?_⟩⟩
   have s12:=s1.trans s2
   cases e2:areTeeth ts with
   | false =>
    rw [e2,if_pos rfl] at q
    exact iteT ⟨bigr rfl,q H2 s12⟩
   | true =>
    rw [e2,if_neg (by decide)] at q
    refine iteF ?_
    have B2:=B.same s12
    obtain ⟨dx,d,hb,gd,kvs,hd,kr⟩:=id B2.ins
    refine ⟨_,rfl,_,rfl,_,_,_,_,_,rfl,hb,BA.cls,BA.nc,zbG,d,_,rfl,DGet.k (k:=D6 x) hd,_,rfl,?_⟩
    rw [kr.some]
    cases e3:(cGet cs x).isSome with
    | true =>
     rw [e3,if_pos rfl] at q
     exact iteT ⟨bigr rfl,q H2 s12⟩
    | false =>
     rw [e3,if_neg (by decide)] at q
     refine iteF ?_
     refine ⟨_,rfl,_,_,_,_,_,rfl,hb,BA.cls,BA.nc,zbG,_,_,rfl,hd,_,_,rfl,rfl,_,rfl,?_⟩
     rw [kr.length]
     refine ite2 (fun hc => ?_) (fun hc => ?_)
     ·have h8:8<=cs.length:=by
       have:(8:Int)<=(cs.length:Int):=by simpa using hc
       omega
      rw [if_pos h8] at q
      exact ⟨bigr rfl,q H2 s12⟩
     ·have h8:¬ 8<=cs.length:=by
       have:¬ (8:Int)<=(cs.length:Int):=by simpa using hc
       omega
      rw [if_neg h8] at q
      exact ⟨_,rfl,b,dx,_,rfl,hb,rfl,_,rfl,_,rfl,b,l,G,cs,past,x,a,ts,rfl,B2,s12.seq ha,e2,e1,.inl (by omega),q.from s12⟩
noncomputable def worths:List Int := [1,2,4,8,16,32,64,128]
theorem at_worths {t:Int} (h0:0<=t) (h7:t<=7):atI (worths.map V.int) t=some (.int (pw t)):=by
 have:t=0\/t=1\/t=2\/t=3\/t=4\/t=5\/t=6\/t=7:=by omega
 rcases this with h | h | h | h | h | h | h | h <;> subst h <;> rfl
noncomputable def sp_worth (K:Al):Sp:=fun vs H Q _=>∃ (a:A3) (ts:List Int),vs = [.ref a]/\SqL K H a (ts.map V.int)/\(∀ t∈ts,0<=t/\t<=7)/\ts.length<=1000/\∀ H',Same H H'->Q (.int (worth ts)) H'
theorem zb9:FnScope ["teeth"] ["teeth"] (defScope s_teeth_worth):=⟨rfl,rfl,rfl,by decide +kernel,rfl,by decide +kernel,by decide +kernel⟩
theorem ok_worth {tw:A3} (D:DefAt K mg "teeth_worth" s_teeth_worth) (T:Bn mg) (G_TOOTH_WORTH:mg "TOOTH_WORTH" = some (.ref tw)) (HTW:∀ H,SqT K H tw (worths.map V.int)):Callee P w K mg base "teeth_worth" 1 ["teeth"] (sp_worth K):=by
 refine D.callee zb9 (fun _ _ _ _ _ _=>ln1 fun _=>rfl) (fun vs H Q E h => ?_) (fun f cdv A outer s H vs Q E hr h => ?_)
 ·obtain ⟨a,ts,rfl,_⟩:=h
  rfl
 ·obtain ⟨a,ts,rfl,ha,hr7,hl,q⟩:=h
  have S:=zb9
  refine ⟨_,zag (zaj (zai (zeG rfl) rfl T.n_sum boot_sum (zaa (za6 (own := ["tooth"]) (caps := []) rfl ⟨rfl,rfl,rfl,rfl,trivial⟩ (zaI (pv 0)) (fun _ _ _ _ _ _=>zan (i:=0) (zaU (by decide +kernel)) rfl (Au rfl)) (fun _ _ _ _ _ _=>zby) (fun _ _ _ _ _ _=>zaL (ix_tup' K rfl) (zbi rfl G_TOOTH_WORTH) (pv 0) (fun _ _=>rfl))) zad))),?_⟩
  refine ⟨_,rfl,_,rfl,⟨_,ha⟩,fun D hD => ?_⟩
  refine zbW (capv := []) (L:=ts.map V.int) (by rfl) (zar K a (ts.map V.int)) (by rw [A5]; exact big hl) hD ?_ (fun _=>true) (fun v=>match v with | .int t => .int (pw t) | _ => .non) ?_ ?_ ?_
  ·exact fun H' s'=>s'.seq ha
  ·exact fun v hv H' R s' h=>h H' (Same.refl _)
  ·intro v hv _ H' R s' h
   obtain ⟨t,ht,rfl⟩:=Ab.mp hv
   have h:R (.int (pw t)) H':=h H' (Same.refl _)
   obtain ⟨h0,h7⟩:=hr7 t ht
   exact ⟨_,rfl,_,_,_,_,rfl,rfl,HTW H',at_worths h0 h7,h⟩
  ·intro H' s' e
   refine ⟨_,ts.map pw,rfl,?_,q H' s'⟩
   refine SqL.of ?_
   rw [e]
   congr 2
   rw [Co.mpr (fun _ _=>rfl),Be,Be]
   rfl
noncomputable def sp_steps (ea:Nat->A3) (C:A3):Sp:=fun vs H Q E=>∃ b l G cs past n,vs = [.ref b,.int n]/\Bk C G H b l cs past /\
 (if 0<=n/\n < 128 then ∀ p H' ws,Same H H'->H p=none->H' p=some (.lst ws)->(∀ nm:List Str,nm.Perm (cs.map (·.1))->sortedS nm=true->StepsR H' ws (stepsOf (byNames cs nm) n))->Q (.ref p) H' else E (.ref (ea 11)) none H)
theorem zca:FnScope ["book","shape","steps","name","worth"] ["book","shape"] (defScope s_shape_steps):=⟨rfl,rfl,rfl,by decide +kernel,rfl,by decide +kernel,by decide +kernel⟩
theorem ok_steps {ea:Nat->A3} {C:A3} (D:DefAt K mg "shape_steps" s_shape_steps) (T:Bn mg) (BA:BookAt K C) (V_SHAPES:∃ t,mg "SHAPES" = some (.int 128 t)) (O_BadShape:Err K mg "BadShape" (ea 11)) (C_teeth_worth:Callee P w K mg base "teeth_worth" 1 ["teeth"] (sp_worth K))
  (M_names:Method P w K mg base C "names" CX0 1 ["self"] (sp_names C)) (M_teeth:Method P w K mg base C "teeth" (CX1 P w) 2 ["self","name"] (sp_bteeth ea C)):Callee1 P w K mg base "shape_steps" 3 ["book","shape"] (sp_steps ea C):=by
 refine D.callee1 zca (fun _ _ _ _ _ _=>ln2 fun _ _=>rfl) (fun vs H Q E h => ?_) (fun f cdv A outer s H vs Q E hr h => ?_)
 ·obtain ⟨b,l,G,cs,past,n,rfl,_⟩:=h
  rfl
 ·obtain ⟨b,l,G,cs,past,n,rfl,B,q⟩:=h
  have S:=zca
  have hu:=zde hr
  have B_cls:=BA.cls
  refine ⟨_,zaf (zaF (zbA (zdQ zeo zgg (zab) (pv 1) (zbF rfl V_SHAPES)))
   (zag (zbk O_BadShape rfl (zaa (zau) zad)))
   (zam))
  (zaf (zaF (zao zcA (zas zaQ (pv 1) (zab)) (zab) (zav _))
   (zag (zaj (za4 (zaa (zbu (zaa (zau) (zaa (zas zbh (pv 1) (zab)) zad))) zad))))
   (zam))
  (zaf (zaq (i:=2) S.nd rfl (Au rfl) (za4 (zad)))
  (zaf (zbe M0 rfl (zaI (pe_mt0 (pv 0) B_cls M_names (hr.mono (by decide)) (by first | exact zem | exact za3 | exact zcJ | exact zbg))) (zan (i:=3) S.nd rfl (Au rfl))
   (zaf (zaq (i:=4) S.nd rfl (Au rfl) (zaJ C_teeth_worth (hr.mono (by decide)) rfl (zaa (zgb (pv 0) B_cls M_teeth (hr.mono (by decide)) (by first | exact zem | exact za3 | exact zcJ | exact zbg) (zaa (pv 3) zad)) zad)))
   (zag (zaF (zao zcA (zas zg0 (pv 1) (pv 4)) (zab) (zav _))
    (zag (za5 (zdp Bu C9 C8 zaV (pv 2) (zaa (zbu (zaa (pv 3) (zaa (zas zbh (zas zbv (pv 1) (pv 4)) (zab)) zad))) zad))))
    (zam)))))
  (zag (zaj (pv 2)))))),?_⟩
  refine ⟨_,rfl,_,_,rfl,rfl,_,rfl,?_⟩
  refine ite2 (fun h0 => ?_) (fun h0 => ?_)
  rotate_left
  ·have h0:¬ (0:Int)<=n:=by simpa using h0
   rw [if_neg (fun z=>h0 z.1)] at q
   exact ⟨_,rfl,iteT ⟨bigr rfl,q⟩⟩
  have h0:(0:Int)<=n:=by simpa using h0
  refine ⟨_,_,rfl,rfl,_,rfl,?_⟩
  by_cases h1:n < 128
  case neg =>
   rw [if_neg (fun z=>h1 z.2)] at q
   rw [decide_eq_false h1]
   exact iteT ⟨bigr rfl,q⟩
  rw [if_pos ⟨h0,h1⟩] at q
  rw [decide_eq_true h1]
  refine iteF ?_
  have p2:(0:Int) < 2:=by decide
  refine ⟨_,rfl,_,_,rfl,rfl,p2,rfl,_,rfl,?_⟩
  refine ite2 (fun hc => ?_) (fun hc => ?_)
  ·have hc:n % 2=1:=by simpa using hc
   refine ⟨_,rfl,_,_,rfl,rfl,⟨p2,by decide⟩,bigr rfl,fun t nt=>⟨bigr rfl,fun p np => ?_⟩⟩
   have s1:Same H (upd H t (.tup [.str "",.int (n / 2)])):=Same.new nt
   refine q p _ [.ref t] (s1.trans (Same.new np)) (s1.free np) zac fun nm _ _ => ?_
   rw [zeb hc]
   refine ⟨⟨t,rfl,?_⟩,trivial⟩
   rw [zah (fun z=>by rw [<- z,zac] at np; cases np)]
   exact zac
  ·have hc:¬ n % 2=1:=by simpa using hc
   refine ⟨bigr rfl,fun pl npl => ?_⟩
   have s1:Same H (upd H pl (.lst [])):=Same.new npl
   obtain ⟨dx,d,hb,_⟩:=id (B.same s1).ins
   refine ⟨_,rfl,b,dx,_,rfl,hb,rfl,b,l,G,cs,past,rfl,B.same s1,fun pn nm npn hnp hns=>⟨_,rfl,⟨_,SqL.of zac⟩,?_⟩⟩
   have nlp:pn≠pl:=fun z=>by rw [z,zac] at npn; cases npn
   have s2:Same H (upd (upd H pl (.lst [])) pn (.lst (nm.map V.str))):=s1.trans (Same.new npn)
   have hnl:nm.length<=8:=by
    have:=hnp.length_eq
    rw [A5] at this
    have:=B.good.len
    omega
   refine zb7 (zar K pn (nm.map V.str)) (fun i σ Hx=>Same H Hx/\Hx pn=some (.lst (nm.map V.str))/\∃ ws x3 x4,σ = [some (.ref b),some (.int n),some (.ref pl),x3,x4]/\Hx pl=some (.lst ws)/\ws.length<=i/\StepsR Hx ws (stepsOf (byNames cs (nm.take i)) n)) ⟨s2,zac,[],_,_,rfl,(by rw [zah nlp.symm]; exact zac),Ad _,?_⟩ (fun i σ Hx _ h=>SqL.of h.2.1) ?_ ?_
   ·rw [O8]
    show StepsR _ [] (stepsOf [] n)
    rw [steps_nil hc]
    trivial
   ·rintro i x σ Hx hx ⟨sx,hpn,ws,x3,x4,rfl,hpl,hwl,hst⟩
    rw [Ai] at hx
    cases hk:nm[i]? with
    | none=>rw [hk] at hx; cases hx
    | some y =>
     rw [hk] at hx
     cases hx
     have hi:i < nm.length:=(Av.mp hk).1
     have hy:y∈cs.map (·.1):=hnp.mem_iff.mp (Bh hk)
     cases hts:cGet cs y with
     | none=>exact absurd hy (get_none.mp hts)
     | some ts =>
      have gts:GT ts:=(B.good.ok _ (zd2 hts)).2
      obtain ⟨dx2,d2,hb2,_⟩:=id (B.same sx).ins
      refine ⟨_,rfl,b,dx2,_,rfl,hb2,rfl,_,rfl,b,l,G,cs,past,y,rfl,B.same sx,?_⟩
      rw [hts]
      intro p3 np3
      refine ⟨p3,ts,rfl,SqL.of zac,zbV gts,by have:=zgv gts; omega,fun H4 s4 => ?_⟩
      have s34:Same Hx H4:=(Same.new np3).trans s4
      have eN:byNames cs (nm.take (i + 1))=byNames cs (nm.take i) ++ [(y,ts)]:=by
       rw [zaG hk,byNames_snoc hts]
      refine ⟨_,rfl,_,rfl,_,_,rfl,rfl,rfl,_,rfl,?_⟩
      refine ite2 (fun hz => ?_) (fun hz => ?_)
      ·have hz:Dp n (worth ts)=0:=by simpa using hz
       refine ⟨_,rfl,.inl ⟨rfl,_,SqL.of (s34 _ _ hpl)⟩,_,rfl,_,rfl,_,rfl,_,_,rfl,rfl,_,_,rfl,rfl,⟨p2,by decide⟩,bigr rfl,fun t nt => ?_⟩
       have s5:Same Hx (upd H4 t (.tup [.str y,.int ((n + worth ts) / 2)])):=s34.trans (Same.new nt)
       have nplt:t≠pl:=fun z=>by rw [z,s34 _ _ hpl] at nt; cases nt
       refine ⟨pl,_,_,rfl,rfl,s5 _ _ hpl,Af (by omega:ws.length < 1000) za0,?_⟩
       refine ⟨(sx.trans s5).put npl,(by rw [zah nlp]; exact s5 _ _ hpn),_,_,_,rfl,zac,(by rw [Ah,Bm]; omega),?_⟩
       rw [eN,zdu hc,if_pos hz]
       refine StepsR.snoc ?_ (hst.mono fun q' xs hq' => ?_)
       ·rw [zah nplt]; exact zac
       ·have:q'≠pl:=fun z=>by rw [z,hpl] at hq'; cases hq'
        rw [zah this]; exact s5 _ _ hq'
      ·have hz:¬ Dp n (worth ts)=0:=by simpa using hz
       refine ⟨sx.trans s34,s34 _ _ hpn,ws,_,_,rfl,s34 _ _ hpl,by omega,?_⟩
       rw [eN,zdu hc,if_neg hz,Bw]
       exact hst.mono fun q' xs hq'=>s34 _ _ hq'
   ·rintro σ Hx ⟨sx,hpn,ws,x3,x4,rfl,hpl,hwl,hst⟩
    rw [A5,Ci] at hst
    refine ⟨_,rfl,q pl Hx ws sx npl hpl fun nm' hp' hs' => ?_⟩
    rw [strs_same (hp'.trans hnp.symm) hs' hns]
    exact hst
noncomputable def TabR (H:Hp) (ts:List V) (C:Combs):Prop:=ts.length=128/\∀ s:Nat,s < 128->∃ q ws,ts[s]?=some (.ref q)/\H q=some (.lst ws)/\StepsR H ws (stp C s)
theorem TabR.same {H H':Hp} {ts:List V} {C:Combs} (t:TabR H ts C) (s:Same H H'):TabR H' ts C :=
 ⟨t.1,fun i h=>let ⟨q,ws,a,b,c⟩:=t.2 i h; ⟨q,ws,a,s _ _ b,c.mono fun _ _ e=>s _ _ e⟩⟩
noncomputable def sp_table (C:A3):Sp:=fun vs H Q _=>∃ b l G cs past,vs = [.ref b]/\Bk C G H b l cs past/\∀ p H' ts,Same H H'->H p=none->H' p=some (.lst ts)->TabR H' ts (srt cs)->Q (.ref p) H'
theorem zcm:FnScope ["book"] ["book"] (defScope s_step_table):=⟨rfl,rfl,rfl,by decide +kernel,rfl,by decide +kernel,by decide +kernel⟩
theorem ok_table {ea:Nat->A3} {C:A3} (D:DefAt K mg "step_table" s_step_table) (T:Bn mg) (V_SHAPES:∃ t,mg "SHAPES" = some (.int 128 t)) (C_shape_steps:Callee1 P w K mg base "shape_steps" 3 ["book","shape"] (sp_steps ea C)):Callee1 P w K mg base "step_table" 4 ["book"] (sp_table C):=by
 refine D.callee1 zcm (fun _ _ _ _ _ _=>ln1 fun _=>rfl) (fun vs H Q E h => ?_) (fun f cdv A outer s H vs Q E hr h => ?_)
 ·obtain ⟨b,l,G,cs,past,rfl,_⟩:=h
  rfl
 ·obtain ⟨b,l,G,cs,past,rfl,B,q⟩:=h
  have S:=zcm
  refine ⟨_,zag (zaj (za6 (own := ["shape"]) (caps := [(0,"book")]) rfl ⟨rfl,rfl,rfl,rfl,⟨⟨rfl,rfl,.inl rfl⟩,trivial⟩⟩ (zbm rfl T.n_range (zaa (zbF rfl V_SHAPES) zad)) (fun _ _ _ _ _ _=>zan (i:=0) (zaU (by decide +kernel)) rfl (Au rfl)) (fun _ _ _ _ _ _=>zby) (fun _ _ _ _ _ _=>zek C_shape_steps (hr.mono (by decide)) (by first | exact za3 | exact zcJ | exact zbg) rfl (zaa (pv 1) (zaa (pv 0) zad))))),?_⟩
  refine ⟨_,rfl,by decide,by decide,fun D hD => ?_⟩
  refine zg8 (capv := [some (.ref b)]) (by rfl) (zaX 0 (128:Int).toNat) (by rw [zbO]; exact big (by decide)) hD (fun _ _=>trivial) (fun _=>true) (fun H i v=>∃ (q:A3) (ws:List V),v = .ref q/\H q=some (.lst ws)/\StepsR H ws (stp (srt cs) i)) ?_ ?_ (fun i x hx H R s' h=>h H (Same.refl _)) ?_ ?_
  ·rintro H H' i v s' ⟨qa,ws,e2,e3,e4⟩
   exact ⟨qa,ws,e2,s' _ _ e3,e4.mono fun _ _ e=>s' _ _ e⟩
  ·rintro H i v l' l'' hv hH ⟨qa,ws,e2,e3,e4⟩
   subst e2
   have hne:qa≠D:=fun z=>hv (by rw [z])
   refine ⟨qa,ws,rfl,(by rw [zah hne]; exact e3),e4.mono fun q' xs e => ?_⟩
   rw [zah (fun z=>by rw [z,hH] at e; cases e)]
   exact e
  ·intro i x hx _ H' R s' hDn h
   obtain ⟨hi,rfl⟩:=zbP hx
   rw [Eo]
   refine ⟨_,rfl,_,rfl,b,l,G,cs,past,((i:Nat):Int),rfl,B.same s',?_⟩
   rw [if_pos ⟨by omega,by have:i < 128:=hi; omega⟩]
   intro p H2 ws s2 np hp st
   exact h H2 _ s2 (fun z=>hDn (by injection z with z; rw [<- z]; exact np)) ⟨p,ws,rfl,hp,st _ (zgi cs) (nm_sorted cs)⟩
  ·intro H' ys s' hD' pr
   rw [zbO,Co.mpr (fun _ _=>rfl)] at pr
   refine q _ H' ys s' hD hD' ⟨by rw [<- Cp pr,Ax]; rfl,fun i hi => ?_⟩
   obtain ⟨y,ey,_,qa,ws,rfl,e3,e4⟩:=C3.at pr (C7 (show i < (128:Int).toNat from hi))
   exact ⟨qa,ws,ey,e3,e4⟩
theorem zfU {C:A3} {G:A3->Prop} {H:Hp} {b l:A3} {cs:Combs} {past:List Combs} (B:Bk C G H b l cs past):GC (srt cs)/\(srt cs).length<=8:=by
 have g:=B.good
 have p:=zff g.nd
 exact ⟨fun c hc=>(g.ok c (p.mem_iff.mp hc)).2,by rw [p.length_eq]; exact g.len⟩
noncomputable def wrow (A:Nat->Nat):List V:=(Ac 128).map fun s=>V.int ((A s:Nat):Int)
theorem zfN (A:Nat->Nat) {s:Nat} (h:s < 128):atI (wrow A) ((s:Nat):Int)=some (.int ((A s:Nat):Int)):=by
 refine zax ?_
 unfold wrow
 rw [Ai,C7 h]
 rfl
theorem wrow_len (A:Nat->Nat):(wrow A).length=128:=by unfold wrow; rw [A5,Ax]
noncomputable def sp_behindw:Sp:=fun vs H Q _=>∃ (st a b:A3) (x:Str) (p:Str×Int) (A B:Nat->Nat),vs = [.ref st,.ref a,.ref b,.str x]/\H st=some (.tup [.str p.1,.int p.2])/\0<=p.2/\p.2.toNat < 128/\H a=some (.lst (wrow A))/\H b=some (.lst (wrow B))/\Q (.int ((bh x A B p:Nat):Int)) H
theorem zb8:FnScope ["step","ways","wanted","name","row"] ["step","ways","wanted","name"] (defScope s_ways_behind):=⟨rfl,rfl,rfl,by decide +kernel,rfl,by decide +kernel,by decide +kernel⟩
theorem ok_behindw (D:DefAt K mg "ways_behind" s_ways_behind) (T:Bn mg):Callee P w K mg base "ways_behind" 1 ["step","ways","wanted","name"] sp_behindw:=by
 refine D.callee zb8 (fun _ _ _ _ _ _=>ln4 fun _ _ _ _=>rfl) (fun vs H Q E h => ?_) (fun f cdv A outer s H vs Q E hr h => ?_)
 ·obtain ⟨st,a,b,x,p,A',B',rfl,_⟩:=h
  rfl
 ·obtain ⟨st,a,b,x,⟨p1,p2⟩,A',B',rfl,hst,h0,h1,ha,hb,q⟩:=h
  have S:=zb8
  dsimp only at hst h0 h1
  refine ⟨_,zbQ (zaq (i:=4) S.nd rfl (Au rfl) (pe_ifExp (zao zcA (zaL za9 (pv 0) (zab) (fun _ _=>rfl)) (pv 3) (zav _)) (pv 1) (pv 2)))
  (zag (zaj (zaL zaN (pv 4) (zaL za9 (pv 0) (zab) (fun _ _=>rfl)) (fun _ _=>rfl)))),?_⟩
  have e2:p2=((p2.toNat:Nat):Int):=by omega
  refine ⟨fun σ Hx=>Hx=H/\∃ (r:A3),H r=some (.lst (wrow (if p1=x then A' else B'))) /\ σ = [some (.ref st),some (.ref a),some (.ref b),some (.str x),some (.ref r)],?_,?_⟩
  ·refine ⟨_,rfl,_,_,_,_,rfl,rfl,SqT.of hst,at0,_,rfl,rfl,_,rfl,?_⟩
   by_cases e:p1=x
   ·rw [decide_eq_true (by rw [e])]
    refine iteT ?_
    exact ⟨_,rfl,rfl,a,by rw [if_pos e]; exact ha,rfl⟩
   ·rw [decide_eq_false (fun z=>e (by injection z))]
    refine iteF ?_
    exact ⟨_,rfl,rfl,b,by rw [if_neg e]; exact hb,rfl⟩
  rintro σ Hx ⟨rfl,r,hr',rfl⟩
  refine ⟨_,rfl,_,rfl,_,_,_,_,rfl,rfl,SqT.of hst,at1,_,_,_,_,rfl,rfl,SqL.of hr',by rw [e2]; exact zfN _ h1,?_⟩
  have e3:(if p1=x then A' else B') p2.toNat=bh x A' B' (p1,p2):=by
   unfold bh
   dsimp only
   split <;> rfl
  rw [e3]
  exact q
noncomputable def sp_from:Sp:=fun vs H Q _=>∃ (l a b:A3) (x:Str) (ws:List V) (ps:List (Str×Int)) (A B:Nat->Nat),vs = [.ref l,.ref a,.ref b,.str x]/\H l=some (.lst ws)/\StepsR H ws ps/\ps.length<=100/\(∀ p∈ps,0<=p.2/\p.2.toNat < 128)/\H a=some (.lst (wrow A))/\H b=some (.lst (wrow B))/\∀ H',Same H H'->Q (.int (((ps.map (bh x A B)).sum:Nat):Int)) H'
theorem sum_cast (l:List Nat):(l.map fun (n:Nat)=>(n:Int)).sum=((l.sum:Nat):Int):=by
 induction l with
 | nil=>rfl
 | cons a l ih=>rw [Aq,Ef,Ef,ih]; omega
theorem zcF:FnScope ["steps","ways","wanted","name"] ["steps","ways","wanted","name"] (defScope s_ways_from):=⟨rfl,rfl,rfl,by decide +kernel,rfl,by decide +kernel,by decide +kernel⟩
theorem ok_from (D:DefAt K mg "ways_from" s_ways_from) (T:Bn mg) (C_ways_behind:Callee P w K mg base "ways_behind" 1 ["step","ways","wanted","name"] sp_behindw):Callee P w K mg base "ways_from" 2 ["steps","ways","wanted","name"] sp_from:=by
 refine D.callee zcF (fun _ _ _ _ _ _=>ln4 fun _ _ _ _=>rfl) (fun vs H Q E h => ?_) (fun f cdv A outer s H vs Q E hr h => ?_)
 ·obtain ⟨l,a,b,x,ws,ps,A',B',rfl,_⟩:=h
  rfl
 ·obtain ⟨l,a,b,x,ws,ps,A',B',rfl,hl,sr,hpl,hps,ha,hb,q⟩:=h
  have S:=zcF
  have hwl:=sr.length
  refine ⟨_,zag (zaj (zai (zeG rfl) rfl T.n_sum boot_sum (zaa (za6 (own := ["step"]) (caps := [(1,"ways"),(2,"wanted"),(3,"name")]) rfl ⟨rfl,rfl,rfl,rfl,⟨⟨rfl,rfl,.inl rfl⟩,⟨rfl,rfl,.inl rfl⟩,⟨rfl,rfl,.inl rfl⟩,trivial⟩⟩ (zaI (pv 0)) (fun _ _ _ _ _ _=>zan (i:=0) (zaU (by decide +kernel)) rfl (Au rfl)) (fun _ _ _ _ _ _=>zby) (fun _ _ _ _ _ _=>zaJ C_ways_behind (hr.mono (by decide)) rfl (zaa (pv 0) (zaa (pv 1) (zaa (pv 2) (zaa (pv 3) zad)))))) zad))),?_⟩
  refine ⟨_,rfl,_,rfl,⟨_,SqL.of hl⟩,fun D hD => ?_⟩
  refine zgG (capv := [some (.ref a),some (.ref b),some (.str x)]) (by rfl) (zar K l ws) (big (by omega)) hD (fun H' s'=>SqL.of (s' _ _ hl)) (fun _=>true) (fun u=>V.int ((bh x A' B' (ps.getD u ("",0)):Nat):Int)) (fun _ _ _=>nofun) (fun u y hy H' R s' h=>h H' (Same.refl _)) ?_ ?_
  ·intro u y hy _ H' R s' h
   have hu:u < ps.length:=by rw [<- hwl]; exact (Av.mp hy).1
   obtain ⟨qa,e4,e5⟩:=sr.get (Aa hu)
   rw [hy] at e4
   cases e4
   have hm:=hps _ (Cr hu)
   refine ⟨_,rfl,_,rfl,_,rfl,_,rfl,qa,a,b,x,ps[u],A',B',rfl,s' _ _ e5,hm.1,hm.2,s' _ _ ha,s' _ _ hb,?_⟩
   have:=h H' (Same.refl _)
   rw [Aj,Aa hu] at this
   exact this
  intro H1 s1 e1
  refine ⟨D,ps.map fun p=>((bh x A' B' p:Nat):Int),rfl,SqL.of ?_,?_⟩
  ·rw [e1,Co.mpr (fun _ _=>rfl),hwl,Be]
   congr 2
   refine Fo fun u => ?_
   rw [Ai,Ai]
   by_cases z:u < ps.length
   ·rw [C7 z,Aa z,Cq,Cq,Aj,Aa z]
    rfl
   ·rw [Cn (by rw [Ax]; omega),Cn (by omega)]
    rfl
  have e2:(ps.map fun p=>((bh x A' B' p:Nat):Int)).sum=(((ps.map (bh x A' B')).sum:Nat):Int):=by
   rw [<- sum_cast,Be]
   rfl
  rw [e2]
  exact q H1 s1
noncomputable def WaysR (N:A3->Prop) (H:Hp) (ws:List V) (A:Nat->Nat->Nat) (n:Nat):Prop:=ws.length=n + 1/\∀ k:Nat,k<=n->∃ q,ws[k]?=some (.ref q)/\N q/\H q=some (.lst (wrow (A k)))
theorem WaysR.mono {N N':A3->Prop} {H H':Hp} {ws:List V} {A:Nat->Nat->Nat} {n:Nat} (r:WaysR N H ws A n) (hn:∀ q,N q->N' q) (m:∀ q o,N q->H q=some o->H' q=some o):WaysR N' H' ws A n:=⟨r.1,fun k hk=>let ⟨q,a,b,c⟩:=r.2 k hk; ⟨q,a,hn q b,m _ _ b c⟩⟩
theorem WaysR.snoc {N:A3->Prop} {H:Hp} {ws:List V} {A:Nat->Nat->Nat} {n:Nat} {q:A3} (r:WaysR N H ws A n) (hq:H q=some (.lst (wrow (A (n + 1))))) (hn:N q):WaysR N H (ws ++ [.ref q]) A (n + 1):=by
 refine ⟨by rw [Ah,r.1]; rfl,fun k hk => ?_⟩
 by_cases e:k=n + 1
 ·subst e
  exact ⟨q,by rw [Dh (by rw [r.1]; exact Ad _),r.1,Il]; rfl,hn,hq⟩
 ·obtain ⟨q',a,b,c⟩:=r.2 k (by omega)
  exact ⟨q',by rw [Dm (by rw [r.1]; omega)]; exact a,b,c⟩
noncomputable def sp_close:Sp:=fun vs H Q _=>∃ (a:A3) (ts:List V) (C:Combs) (n:Nat),vs = [.ref a,.int (n:Nat)]/\H a=some (.lst ts)/\TabR H ts C/\GC C/\C.length<=8/\n<=200/\∀ (r:A3) (ws:List V) (H':Hp),Same H H'->H' r=some (.lst ws)->WaysR (fun _=>True) H' ws (Wy C) n->Q (.ref r) H'
theorem zbI:FnScope ["table","length","rows","passed"] ["table","length"] (defScope s_ways_to_close):=⟨rfl,rfl,rfl,by decide +kernel,rfl,by decide +kernel,by decide +kernel⟩
theorem ok_close (D:DefAt K mg "ways_to_close" s_ways_to_close) (T:Bn mg) (C_ways_from:Callee P w K mg base "ways_from" 2 ["steps","ways","wanted","name"] sp_from):Callee P w K mg base "ways_to_close" 3 ["table","length"] sp_close:=by
 refine D.callee zbI (fun _ _ _ _ _ _=>ln2 fun _ _=>rfl) (fun vs H Q E h => ?_) (fun f cdv A outer s H vs Q E hr h => ?_)
 ·obtain ⟨a,ts,C,n,rfl,_⟩:=h
  rfl
 ·obtain ⟨a,ts,C,n,rfl,ha,tb,gc,h8,hn,q⟩:=h
  have S:=zbI
  have htl:=tb.1
  refine ⟨_,zaf (zaq (i:=2) S.nd rfl (Fe rfl) (za4 (zaa (za6 (own := ["steps"]) (caps := []) rfl ⟨rfl,rfl,rfl,rfl,trivial⟩ (zaI (pv 0)) (fun _ _ _ _ _ _=>zan (i:=0) (zaU (by decide +kernel)) rfl (Au rfl)) (fun _ _ _ _ _ _=>zby) (fun _ _ _ _ _ _=>zab)) zad)))
  (zaf (zf9 (zab) (zgU (zaL zaN (pv 2) (zab) (fun _ _=>rfl)) (zab) zfg))
  (zaf (zbe C2 rfl (zbm rfl T.n_range (zaa (pv 1) zad)) (zan (i:=3) S.nd rfl (Au rfl))
   (zag (za5 (zdp Bu C9 C8 zaV (pv 2) (zaa (za6 (own := ["steps"]) (caps := [(2,"rows")]) rfl ⟨rfl,rfl,rfl,rfl,⟨⟨rfl,rfl,.inl rfl⟩,trivial⟩⟩ (zaI (pv 0)) (fun _ _ _ _ _ _=>zan (i:=0) (zaU (by decide +kernel)) rfl (Au rfl)) (fun _ _ _ _ _ _=>zby) (fun _ _ _ _ _ _=>zaJ C_ways_from (hr.mono (by decide)) rfl (zaa (pv 0) (zaa (zaL (zcs K rfl) (pv 1) (zeT zcX (zab)) (fun _ _=>rfl)) (zaa (zaL (zcs K rfl) (pv 1) (zeT zcX (zab)) (fun _ _=>rfl)) (zaa (zau) zad)))))) zad)))))
  (zag (zaj (pv 2))))),?_⟩
  refine ⟨_,rfl,_,rfl,⟨_,SqL.of ha⟩,fun D hD => ?_⟩
  refine zbW (capv := []) (by rfl) (zar K a ts) (big (by omega)) hD (fun H' s'=>SqL.of (s' _ _ ha)) (fun _=>true) (fun _=>V.int 0) (fun x hx H' R s' h=>h H' (Same.refl _)) (fun x hx _ H' R s' h=>h H' (Same.refl _)) ?_
  intro H1 s1 e1
  have e1':H1 D=some (.lst ((Ac 128).map fun _=>V.int 0)):=by
   rw [e1,Co.mpr (fun _ _=>rfl)]
   congr 2
   refine List.ext_getElem (by rw [A5,A5,Ax]; omega) fun i h1 h2 => ?_
   rw [Nr,Nr]
  refine ⟨bigr rfl,fun r nr => ?_⟩
  have s2:Same H1 (upd H1 r (.lst [.ref D])):=Same.new nr
  have hr2:upd H1 r (.lst [.ref D]) r=some (.lst [.ref D]):=zac
  have hD2:=s2 _ _ e1'
  have hDr:D≠r:=fun z=>by rw [<- z,e1'] at nr; cases nr
  have s12:=s1.trans s2
  have nr0:=s1.free nr
  generalize upd H1 r (.lst [.ref D])=H2 at s12 hr2 hD2 ⊢
  have hix:ixN ((Ac 128).map fun _=>V.int 0).length 0=some 0:=by rw [A5,Ax]; decide
  refine ⟨_,rfl,_,_,_,_,rfl,rfl,SqL.of hr2,(show atI [V.ref D] ((0:Nat):Int)=_ from zax rfl),D,_,_,_,rfl,rfl,hD2,hix,?_⟩
  have ew:((Ac 128).map fun _=>V.int 0).set 0 (V.int 1)=wrow (Wy C 0):=by
   unfold wrow
   rw [zgl _ _ (by decide)]
   refine Ce fun s _ => ?_
   show _=V.int (((if s=0 then 1 else 0:Nat)):Int)
   split <;> rfl
  rw [ew]
  have hDn0:H D=none:=hD
  have s3:Same H (upd H2 D (.lst (wrow (Wy C 0)))):=s12.put hDn0
  have hD3:upd H2 D (.lst (wrow (Wy C 0))) D=some (.lst (wrow (Wy C 0))):=zac
  have hr3:upd H2 D (.lst (wrow (Wy C 0))) r=some (.lst [.ref D]):=by rw [zah hDr.symm]; exact hr2
  generalize upd H2 D (.lst (wrow (Wy C 0)))=H3 at s3 hD3 hr3 ⊢
  refine ⟨_,rfl,_,rfl,by omega,by omega,?_⟩
  refine zb7 (zaX 0 ((n:Nat):Int).toNat) (fun i σ Hx=>Same H Hx/\∃ (ws:List V) (x3:Option V),σ = [some (.ref a),some (.int (n:Nat)),some (.ref r),x3]/\Hx r=some (.lst ws)/\WaysR (fun z=>z≠r) Hx ws (Wy C) i) ⟨s3,[.ref D],_,rfl,hr3,rfl,fun k hk=>by
    have:k=0:=by omega
    subst this
    exact ⟨D,rfl,hDr,hD3⟩⟩ (fun _ _ _ _ _=>trivial) ?_ ?_
  ·rintro i x σ Hx hx ⟨sx,ws,x3,rfl,hrx,wr⟩
   obtain ⟨hi,rfl⟩:=zbP hx
   have hi':i < n:=by omega
   obtain ⟨qk,eqk,_,hqk⟩:=wr.2 i (Ad _)
   have hat:atI ws (-1)=some (.ref qk):=at_end wr.1 eqk
   refine ⟨_,rfl,.inl ⟨rfl,_,SqL.of hrx⟩,_,rfl,_,rfl,⟨_,SqL.of (sx _ _ ha)⟩,fun D2 hD2 => ?_⟩
   refine zgG (capv := [some (.ref r)]) (by rfl) (zar K a ts) (big (by omega)) hD2 (fun H' s'=>SqL.of (s' _ _ (sx _ _ ha))) (fun _=>true) (fun s=>V.int ((Wy C (i + 1) s:Nat):Int)) (fun _ _ _=>nofun) (fun u y hy H' R s' h=>h H' (Same.refl _)) ?_ ?_
   ·intro u y hy _ H' R s' h
    have hu:u < 128:=by rw [<- htl]; exact (Av.mp hy).1
    obtain ⟨qs,wss,e1,e2,e3⟩:=(tb.same (sx.trans s')).2 u hu
    rw [hy] at e1
    cases e1
    refine ⟨_,rfl,_,rfl,_,rfl,_,_,_,_,rfl,rfl,SqL.of (s' _ _ hrx),hat,_,rfl,_,rfl,_,_,_,_,rfl,rfl,SqL.of (s' _ _ hrx),hat,?_⟩
    refine ⟨qs,qk,qk,A0 "",wss,stp C u,Wy C i,Wy C i,rfl,e2,e3,by have:=zeQ h8 u; omega,fun p hp=>zdt gc hu hp,s' _ _ hqk,s' _ _ hqk,fun H'' s'' => ?_⟩
    have e:((stp C u).map (bh (A0 "") (Wy C i) (Wy C i))).sum=Wy C (i + 1) u:=((zfW C (A0 "")).succ i u).symm
    rw [e]
    exact h H'' s''
   intro H4 s4 e4
   have hr4:=s4 _ _ hrx
   have hD2r:D2≠r:=fun z=>by rw [z,hrx] at hD2; cases hD2
   have e4':H4 D2=some (.lst (wrow (Wy C (i + 1)))):=by
    rw [e4,Co.mpr (fun _ _=>rfl),htl]
    rfl
   refine ⟨r,_,_,rfl,rfl,hr4,Af (by have:=wr.1; omega:ws.length < 1000) za0,?_⟩
   refine ⟨(sx.trans s4).put nr0,_,_,rfl,zac,?_⟩
   exact (WaysR.mono wr (fun _ z=>z) fun z o hz e=>by rw [zah hz]; exact s4 _ _ e).snoc (by rw [zah hD2r]; exact e4') hD2r
  ·rintro σ Hx ⟨sx,ws,x3,rfl,hrx,wr⟩
   rw [zbO,show ((n:Nat):Int).toNat=n by omega] at wr
   exact ⟨_,rfl,q r ws Hx sx hrx (wr.mono (fun _ _=>trivial) fun _ _ _ e=>e)⟩
noncomputable def sp_open:Sp:=fun vs H Q _=>∃ (l a b:A3) (x:Str) (ws:List V) (ps:List (Str×Int)) (A B:Nat->Nat) (p:Str×Int),vs = [.ref l,.ref a,.ref b,.str x]/\H l=some (.lst ws)/\StepsR H ws ps/\ps.length<=100/\(∀ p∈ps,0<=p.2/\p.2.toNat < 128)/\H a=some (.lst (wrow A))/\H b=some (.lst (wrow B))/\ps.find? (fun p=>decide (0 < bh x A B p))=some p/\∀ q H',Same H H'->H' q=some (.tup [.str p.1,.int p.2])->Q (.ref q) H'
theorem find_filterO {α : Type} {ps:List α} {f : α -> Bool} {p d : α} (h:ps.find? f=some p):∃ i,((Ac ps.length).filter fun i=>f (ps.getD i d))[0]?=some i/\ps[i]?=some p:=by
 induction ps with
 | nil=>cases h
 | cons x ps ih =>
  rw [Ar,List.range_succ_eq_map,Cb]
  by_cases e:f x=true
  ·rw [List.find?_cons_of_pos e] at h
   cases h
   exact ⟨0,by rw [if_pos (by simpa using e)]; rfl,rfl⟩
  ·rw [List.find?_cons_of_neg e] at h
   obtain ⟨i,h1,h2⟩:=ih h
   refine ⟨i + 1,?_,by simpa using h2⟩
   rw [if_neg (by simpa using e),Ir,Ai]
   show (((Ac ps.length).filter fun i=>f (ps.getD i d))[0]?).map _=_
   rw [h1]
   rfl
theorem zbs:FnScope ["steps","ways","wanted","name"] ["steps","ways","wanted","name"] (defScope s_first_open_step):=⟨rfl,rfl,rfl,by decide +kernel,rfl,by decide +kernel,by decide +kernel⟩
theorem ok_open (D:DefAt K mg "first_open_step" s_first_open_step) (T:Bn mg) (C_ways_behind:Callee P w K mg base "ways_behind" 1 ["step","ways","wanted","name"] sp_behindw):Callee P w K mg base "first_open_step" 2 ["steps","ways","wanted","name"] sp_open:=by
 refine D.callee zbs (fun _ _ _ _ _ _=>ln4 fun _ _ _ _=>rfl) (fun vs H Q E h => ?_) (fun f cdv A outer s H vs Q E hr h => ?_)
 ·obtain ⟨l,a,b,x,ws,ps,A',B',p,rfl,_⟩:=h
  rfl
 ·obtain ⟨l,a,b,x,ws,ps,A',B',p,rfl,hl,st,hpl,hps,ha,hb,hf,q⟩:=h
  have S:=zbs
  have hlw:=st.length
  refine ⟨_,zag (zaj (zaL zaN (za6 (own := ["step"]) (caps := [(1,"ways"),(2,"wanted"),(3,"name")]) rfl ⟨rfl,rfl,rfl,rfl,⟨⟨rfl,rfl,.inl rfl⟩,⟨rfl,rfl,.inl rfl⟩,⟨rfl,rfl,.inl rfl⟩,trivial⟩⟩ (zaI (pv 0)) (fun _ _ _ _ _ _=>zan (i:=0) (zaU (by decide +kernel)) rfl (Au rfl)) (fun _ _ _ _ _ _=>zcz (zao zgh (zaJ C_ways_behind (hr.mono (by decide)) rfl (zaa (pv 0) (zaa (pv 1) (zaa (pv 2) (zaa (pv 3) zad))))) (zab) (zav _))) (fun _ _ _ _ _ _=>pv 0)) (zab) (fun _ _=>rfl))),?_⟩
  refine ⟨_,rfl,_,rfl,⟨_,SqL.of hl⟩,fun D hD => ?_⟩
  have hne:∀ i,i < ws.length->ws.getD i .non ≠ .ref D:=fun i hi z=>by
   obtain ⟨qa,e1,e2⟩:=st.get (Aa (show i < ps.length by omega))
   rw [Aj,e1] at z
   cases z
   rw [hD] at e2
   cases e2
  refine zgG (capv := [some (.ref a),some (.ref b),some (.str x)]) (by rfl) (zar K l ws) (big (by omega)) hD (fun H' s'=>SqL.of (s' _ _ hl)) (fun i=>decide (0 < bh x A' B' (ps.getD i ("",0)))) (fun i=>ws.getD i .non) (fun i hi _=>hne i hi) ?_ ?_ ?_
  ·intro i y hy H' R s' h
   have hi:i < ps.length:=by rw [<- hlw]; exact (Av.mp hy).1
   obtain ⟨qa,e1,e2⟩:=st.get (Aa hi)
   rw [hy] at e1
   cases e1
   obtain ⟨h0,h1⟩:=hps ps[i] (Cr hi)
   refine ⟨_,rfl,_,rfl,_,rfl,_,rfl,qa,a,b,x,ps[i],A',B',rfl,s' _ _ e2,h0,h1,s' _ _ ha,s' _ _ hb,_,_,rfl,rfl,_,rfl,?_⟩
   have:=h H' (Same.refl _)
   have e:decide (0 < bh x A' B' (ps.getD i ("",0)))=decide ((0:Int) < ((bh x A' B' ps[i]:Nat):Int)):=by
    rw [Aj,Aa hi,decide_eq_decide]
    show 0 < bh x A' B' ps[i] ↔ _
    omega
   rw [e] at this
   exact this
  ·intro i y hy _ H' R s' h
   refine ⟨_,rfl,?_⟩
   have:=h H' (Same.refl _)
   rw [Aj,hy] at this
   exact this
  ·intro H' s' e
   obtain ⟨i,h1,h2⟩:=find_filterO (d:=(("",0):Str×Int)) hf
   rw [hlw] at e
   obtain ⟨qa,e1,e2⟩:=st.get h2
   refine ⟨_,_,_,_,rfl,rfl,SqL.of e,zax (j:=0) ?_,q qa H' s' (s' _ _ e2)⟩
   rw [Ai,h1,Cq,Aj,e1]
   rfl
noncomputable def sp_layf (ea:Nat->A3):Sp:=fun vs H Q E=>∃ (a wa wb:A3) (x:Str) (ts ws ws':List V) (C:Combs) (n:Nat) (B:Nat->Nat->Nat),vs = [.ref a,.ref wa,.ref wb,.str x]/\H a=some (.lst ts)/\TabR H ts C/\GC C/\C.length<=8/\n<=200/\H wa=some (.lst ws)/\WaysR (fun _=>True) H ws (Wy C) n/\H wb=some (.lst ws')/\WaysR (fun _=>True) H ws' B n/\Sel C x B /\
 (if 0 < B n 0 then ∀ (r:A3) (wl:List V) (H':Hp),Same H H'->H r=none->H' r=some (.lst wl)->LaysR H' wl (fnm C x B n) n->Q (.ref r) H' else E (.ref (ea 14)) none H)
theorem zcG:FnScope ["table","ways","wanted","name","left","layings","shape","place","step"] ["table","ways","wanted","name"] (defScope s_lay_first):=⟨rfl,rfl,rfl,by decide +kernel,rfl,by decide +kernel,by decide +kernel⟩
theorem ok_layf {ea:Nat->A3} (D:DefAt K mg "lay_first" s_lay_first) (T:Bn mg) (O_NoFilling:Err K mg "NoFilling" (ea 14)) (C_first_open_step:Callee P w K mg base "first_open_step" 2 ["steps","ways","wanted","name"] sp_open):Callee1 P w K mg base "lay_first" 3 ["table","ways","wanted","name"] (sp_layf ea):=by
 refine D.callee1 zcG (fun _ _ _ _ _ _=>ln4 fun _ _ _ _=>rfl) (fun vs H Q E h => ?_) (fun f cdv A outer s H vs Q E hr h => ?_)
 ·obtain ⟨a,wa,wb,x,ts,ws,ws',C,n,B,rfl,_⟩:=h
  rfl
 ·obtain ⟨a,wa,wb,x,ts,ws,ws',C,n,B,rfl,ha,tb,gc,h8,hn,hwa,wr,hwb,wr',sl,q⟩:=h
  have S:=zcG
  have elen:((ws.length:Nat):Int) - 1=((n:Nat):Int):=by rw [wr.1]; omega
  refine ⟨_,zaf (zaq (i:=4) S.nd rfl (Au rfl) (zas zdF (zai zat rfl T.n_len Bz (zaa (pv 1) zad)) (zab)))
  (zaf (zaF (zao zcA (zaL zaN (zaL zaN (pv 2) (pv 4) (fun _ _=>rfl)) (zab) (fun _ _=>rfl)) (zab) (zav _))
   (zag (zbk O_NoFilling rfl (zaa (zau) zad)))
   (zam))
  (zaf (zaq (i:=5) S.nd rfl (Au rfl) (za4 (zad)))
  (zaf (zaq (i:=6) S.nd rfl (Au rfl) (zab))
  (zaf (zbe M0 rfl (zbm rfl T.n_range (zaa (pv 4) zad)) (zan (i:=7) S.nd rfl (Au rfl))
   (zaf (zaq (i:=4) S.nd rfl (Au rfl) (zas zdF (pv 4) (zab)))
   (zaf (zaq (i:=8) S.nd rfl (Au rfl) (zaJ C_first_open_step (hr.mono (by decide)) rfl (zaa (zaL zaN (pv 0) (pv 6) (fun _ _=>rfl)) (zaa (zaL zaN (pv 1) (pv 4) (fun _ _=>rfl)) (zaa (zaL zaN (pv 2) (pv 4) (fun _ _=>rfl)) (zaa (pv 3) zad))))))
   (zbQ (zaF (zao zdU (zaL za9 (pv 8) (zab) (fun _ _=>rfl)) (zau) (zav _))
    (zag (za5 (zdp Bu C9 C8 zaV (pv 5) (zaa (zbu (zaa (pv 7) (zaa (zaL za9 (pv 8) (zab) (fun _ _=>rfl)) zad))) zad))))
    (zam))
   (zbQ (zaF (zao zcA (zaL za9 (pv 8) (zab) (fun _ _=>rfl)) (pv 3) (zav _))
    (zag (zaq (i:=2) S.nd rfl (Au rfl) (pv 1)))
    (zam))
   (zag (zaq (i:=6) S.nd rfl (Au rfl) (zaL za9 (pv 8) (zab) (fun _ _=>rfl)))))))))
  (zag (zaj (pv 5))))))),?_⟩
  refine ⟨_,rfl,_,_,rfl,.inl (SqL.of hwa),_,_,rfl,rfl,?_⟩
  obtain ⟨qn,eqn,_,hqn⟩:=wr'.2 n (Ad _)
  refine ⟨_,rfl,_,rfl,_,_,_,_,rfl,rfl,SqL.of hwb,by rw [elen]; exact zax eqn,_,_,_,_,rfl,rfl,SqL.of hqn,(show atI (wrow (B n)) ((0:Nat):Int)=_ from zfN _ (by decide)),rfl,_,rfl,?_⟩
  by_cases hb:0 < B n 0
  case neg =>
   rw [if_neg hb] at q
   have:B n 0=0:=by omega
   rw [this,decide_eq_true (show V.int ((0:Nat):Int)=V.int 0 from rfl)]
   exact iteT ⟨bigr rfl,q⟩
  rw [if_pos hb] at q
  rw [decide_eq_false (show ¬ V.int ((B n 0:Nat):Int)=V.int 0 from fun z=>by injection z with z; omega)]
  refine iteF ?_
  refine ⟨bigr rfl,fun r nr => ?_⟩
  have s1:Same H (upd H r (.lst [])):=Same.new nr
  refine ⟨_,rfl,_,rfl,by rw [elen]; omega,by rw [elen]; omega,?_⟩
  have hok:=zgN gc sl hb
  let wd:Bool->A3:=fun b=>if b=true then wa else wb
  rw [elen,show ((n:Nat):Int).toNat=n by omega]
  refine zb7 (zaX 0 n) (fun i σ Hx=>Same H Hx/\∃ (wl:List V) (x7 x8:Option V),σ = [some (.ref a),some (.ref wa),some (.ref (wd (fw C x B n i).2)),some (.str x),some (.int ((n - i:Nat):Int)),some (.ref r),some (.int (((fw C x B n i).1:Nat):Int)),x7,x8]/\Hx r=some (.lst wl)/\LaysR Hx wl (fnm C x B n) i) ⟨s1,[],_,_,by rw [P9,<- elen]; rfl,zac,.nil⟩ (fun _ _ _ _ _=>trivial) ?_ ?_
  ·rintro i y σ Hx hx ⟨sx,wl,x7,x8,rfl,hrx,lr⟩
   obtain ⟨hi,rfl⟩:=zbP hx
   rw [Eo]
   obtain ⟨h1,h2⟩:=hok i (by omega)
   obtain ⟨g1,g2,g3⟩:=zgw gc sl hb hi
   have hnx:=(hok (i + 1) (by omega)).1
   have e1:((n - i:Nat):Int) - 1=((n - 1 - i:Nat):Int):=by omega
   obtain ⟨qs,wss,t1,t2,t3⟩:=(tb.same sx).2 _ h1
   obtain ⟨qa,a1,_,a2⟩:=wr.2 (n - 1 - i) (by omega)
   have hwd:∃ wsd qb,Hx (wd (fw C x B n i).2)=some (.lst wsd)/\wsd[n - 1 - i]?=some (.ref qb)/\Hx qb=some (.lst (wrow (ro C B (fw C x B n i).2 (n - 1 - i)))):=by
    show ∃ wsd qb,Hx (if (fw C x B n i).2=true then wa else wb)=_/\_/\_
    unfold ro
    cases (fw C x B n i).2 with
    | true=>exact ⟨ws,qa,sx _ _ hwa,a1,sx _ _ a2⟩
    | false =>
     obtain ⟨qb,b1,_,b2⟩:=wr'.2 (n - 1 - i) (by omega)
     exact ⟨ws',qb,sx _ _ hwb,b1,sx _ _ b2⟩
   obtain ⟨wsd,qb,d1,d2,d3⟩:=hwd
   refine ⟨_,rfl,_,_,rfl,rfl,?_⟩
   refine ⟨_,rfl,_,rfl,_,_,_,_,rfl,rfl,SqL.of (sx _ _ ha),zax t1,_,rfl,_,rfl,_,_,_,_,rfl,rfl,SqL.of (sx _ _ hwa),by rw [e1]; exact zax a1,_,rfl,_,rfl,_,_,_,_,rfl,rfl,SqL.of d1,by rw [e1]; exact zax d2,_,rfl,?_⟩
   refine ⟨qs,qa,qb,x,wss,stp C (fw C x B n i).1,Wy C (n - 1 - i),ro C B (fw C x B n i).2 (n - 1 - i),_,rfl,t2,t3,by have:=zeQ h8 (fw C x B n i).1; omega,fun p hp=>zdt gc h1 hp,sx _ _ a2,d3,g1,fun qt H2 s2 hqt => ?_⟩
   dsimp only at hqt
   have lr2:LaysR H2 wl (fnm C x B n) i:=lr.mono fun _ _ e=>s2 _ _ e
   have hr2:=s2 _ _ hrx
   have sx2:=sx.trans s2
   have hwl:=lr2.len
   have nr0:H r=none:=nr
   refine ⟨fun σ Hy=>Same H Hy/\Hy qt=some (.tup [.str (fnm C x B n i),.int (((fw C x B n (i + 1)).1:Nat):Int)])/\∃ wl',Hy r=some (.lst wl')/\LaysR Hy wl' (fnm C x B n) (i + 1) /\ σ = [some (.ref a),some (.ref wa),some (.ref (wd (fw C x B n i).2)),some (.str x),some (.int (((n - i:Nat):Int) - 1)),some (.ref r),some (.int (((fw C x B n i).1:Nat):Int)),some (.int ((i:Nat):Int)),some (.ref qt)],?_,?_⟩
   ·refine ⟨_,rfl,_,_,_,_,rfl,rfl,SqT.of hqt,at0,rfl,_,rfl,?_⟩
    by_cases hz:fnm C x B n i=A0 ""
    ·rw [decide_eq_true (by rw [hz])]
     refine iteF ?_
     exact ⟨sx2,hqt,wl,hr2,lr2.skip hz,rfl⟩
    ·rw [decide_eq_false (fun z=>hz (by injection z))]
     refine iteT ?_
     refine ⟨_,rfl,.inl ⟨rfl,_,SqL.of hr2⟩,_,rfl,_,rfl,_,_,_,_,rfl,rfl,SqT.of hqt,at0,bigr rfl,fun tt ntt => ?_⟩
     have s3:Same H2 (upd H2 tt (.tup [.int ((i:Nat):Int),.str (fnm C x B n i)])):=Same.new ntt
     have htt:upd H2 tt (.tup [.int ((i:Nat):Int),.str (fnm C x B n i)]) tt=some (.tup [.int ((i:Nat):Int),.str (fnm C x B n i)]):=zac
     have hr3:=s3 _ _ hr2
     have hqt3:=s3 _ _ hqt
     have lr3:LaysR (upd H2 tt (.tup [.int ((i:Nat):Int),.str (fnm C x B n i)])) wl (fnm C x B n) i:=lr2.mono fun _ _ e=>s3 _ _ e
     generalize upd H2 tt (.tup [.int ((i:Nat):Int),.str (fnm C x B n i)])=H3 at s3 htt hr3 hqt3 lr3 ⊢
     refine ⟨r,_,_,rfl,rfl,hr3,Af (by omega:wl.length < 1000) za0,?_⟩
     have kt:∀ qa ys,H3 qa=some (.tup ys)->upd H3 r (.lst (wl ++ [.ref tt])) qa=some (.tup ys):=fun qa ys z=>by rw [zah (fun z2=>by rw [z2,hr3] at z; cases z)]; exact z
     exact ⟨(sx2.trans s3).put nr0,kt _ _ hqt3,_,zac,(lr3.mono kt).snoc hz (kt _ _ htt),rfl⟩
   rintro σ Hy ⟨sy,hqy,wl',hry,lry,rfl⟩
   refine ⟨fun σ Hz=>Hz=Hy /\ σ = [some (.ref a),some (.ref wa),some (.ref (wd (fw C x B n (i + 1)).2)),some (.str x),some (.int (((n - i:Nat):Int) - 1)),some (.ref r),some (.int (((fw C x B n i).1:Nat):Int)),some (.int ((i:Nat):Int)),some (.ref qt)],?_,?_⟩
   ·refine ⟨_,rfl,_,_,_,_,rfl,rfl,SqT.of hqy,at0,_,rfl,rfl,_,rfl,?_⟩
    rw [g2]
    by_cases hz:fnm C x B n i=x
    ·rw [decide_eq_true (show V.str (fnm C x B n i)=V.str x by rw [hz]),decide_eq_true hz,M5]
     refine iteT ?_
     exact ⟨_,rfl,rfl,rfl⟩
    ·rw [decide_eq_false (show ¬ V.str (fnm C x B n i)=V.str x from fun z=>hz (by injection z)),decide_eq_false hz,Ln]
     refine iteF ?_
     exact ⟨rfl,rfl⟩
   rintro σ Hz ⟨rfl,rfl⟩
   refine ⟨_,rfl,_,_,_,_,rfl,rfl,SqT.of hqy,at1,?_⟩
   refine ⟨sy,wl',some (.int ((i:Nat):Int)),some (.ref qt),?_,hry,lry⟩
   rw [e1,show n - (i + 1)=n - 1 - i by omega]
   rfl
  ·rintro σ Hx ⟨sx,wl,x7,x8,rfl,hrx,lr⟩
   rw [zbO] at lr
   exact ⟨_,rfl,q r wl Hx sx nr hrx lr⟩
noncomputable def sp_chk (ea:Nat->A3):Sp:=fun vs H Q E=>∃ n,vs = [.int n]/\(if 0<=n/\n<=200 then Q .non H else E (.ref (ea 13)) none H)
theorem zbM:FnScope ["length"] ["length"] (defScope s_check_length):=⟨rfl,rfl,rfl,by decide +kernel,rfl,by decide +kernel,by decide +kernel⟩
theorem ok_chk {ea:Nat->A3} (D:DefAt K mg "check_length" s_check_length) (T:Bn mg) (V_MOST_FILLED:∃ t,mg "MOST_FILLED" = some (.int 200 t)) (O_BadLength:Err K mg "BadLength" (ea 13)):Callee1 P w K mg base "check_length" 1 ["length"] (sp_chk ea):=by
 refine D.callee1 zbM (fun _ _ _ _ _ _=>ln1 fun _=>rfl) (fun vs H Q E h => ?_) (fun f cdv A outer s H vs Q E hr h => ?_)
 ·obtain ⟨n,rfl,_⟩:=h
  rfl
 ·obtain ⟨n,rfl,q⟩:=h
  have S:=zbM
  refine ⟨_,zag (zaF (zbA (zdQ zeo zeo (zab) (pv 0) (zbF rfl V_MOST_FILLED)))
   (zag (zbk O_BadLength rfl (zaa (zau) zad)))
   (zam)),?_⟩
  refine ⟨_,rfl,_,_,rfl,rfl,_,rfl,?_⟩
  refine ite2 (fun h0 => ?_) (fun h0 => ?_)
  rotate_left
  ·have h0:¬ (0:Int)<=n:=by simpa using h0
   rw [if_neg (fun z=>h0 z.1)] at q
   exact ⟨_,rfl,iteT ⟨bigr rfl,q⟩⟩
  have h0:(0:Int)<=n:=by simpa using h0
  refine ⟨_,_,rfl,rfl,_,rfl,?_⟩
  by_cases h1:n<=200
  case neg =>
   rw [if_neg (fun z=>h1 z.2)] at q
   rw [decide_eq_false h1]
   exact iteT ⟨bigr rfl,q⟩
  rw [if_pos ⟨h0,h1⟩] at q
  rw [decide_eq_true h1]
  exact iteF q
noncomputable def sp_ffill (ea:Nat->A3) (C:A3):Sp:=fun vs H Q E=>∃ b l G cs past n,vs = [.ref b,.int n]/\Bk C G H b l cs past /\
 (if 0<=n/\n<=200 then (if 0 < Wy (srt cs) n.toNat 0 then ∀ (r:A3) (wl:List V) (H':Hp),Same H H'->H r=none->H' r=some (.lst wl)->LaysR H' wl (fnm (srt cs) (A0 "") (Wy (srt cs)) n.toNat) n.toNat->Q (.ref r) H' else ∀ H',Same H H'->E (.ref (ea 14)) none H') else E (.ref (ea 13)) none H)
theorem zbJ:FnScope ["book","length","table","ways"] ["book","length"] (defScope s_first_filling):=⟨rfl,rfl,rfl,by decide +kernel,rfl,by decide +kernel,by decide +kernel⟩
theorem ok_ffill {ea:Nat->A3} {C:A3} (D:DefAt K mg "first_filling" s_first_filling) (T:Bn mg) (C_check_length:Callee1 P w K mg base "check_length" 1 ["length"] (sp_chk ea)) (C_step_table:Callee1 P w K mg base "step_table" 4 ["book"] (sp_table C)) (C_ways_to_close:Callee P w K mg base "ways_to_close" 3 ["table","length"] sp_close) (C_lay_first:Callee1 P w K mg base "lay_first" 3 ["table","ways","wanted","name"] (sp_layf ea)):Callee1 P w K mg base "first_filling" 5 ["book","length"] (sp_ffill ea C):=by
 refine D.callee1 zbJ (fun _ _ _ _ _ _=>ln2 fun _ _=>rfl) (fun vs H Q E h => ?_) (fun f cdv A outer s H vs Q E hr h => ?_)
 ·obtain ⟨b,l,G,cs,past,n,rfl,_⟩:=h
  rfl
 ·obtain ⟨b,l,G,cs,past,n,rfl,B,q⟩:=h
  have S:=zbJ
  obtain ⟨gc,h8⟩:=zfU B
  refine ⟨_,zaf (za5 (zek C_check_length (hr.mono (by decide)) (by first | exact za3 | exact zcJ | exact zbg) rfl (zaa (pv 1) zad)))
  (zaf (zaq (i:=2) S.nd rfl (Au rfl) (zek C_step_table (hr.mono (by decide)) (by first | exact za3 | exact zcJ | exact zbg) rfl (zaa (pv 0) zad)))
  (zaf (zaq (i:=3) S.nd rfl (Au rfl) (zaJ C_ways_to_close (hr.mono (by decide)) rfl (zaa (pv 2) (zaa (pv 1) zad))))
  (zag (zaj (zek C_lay_first (hr.mono (by decide)) (by first | exact za3 | exact zcJ | exact zbg) rfl (zaa (pv 2) (zaa (pv 3) (zaa (pv 3) (zaa (zau) zad))))))))),?_⟩
  refine ⟨_,rfl,n,rfl,?_⟩
  by_cases hn:0<=n/\n<=200
  case neg =>
   rw [if_neg hn] at q ⊢
   exact q
  rw [if_pos hn] at q ⊢
  obtain ⟨k,rfl⟩:=Hu hn.1
  rw [show ((k:Nat):Int).toNat=k by omega] at q
  refine ⟨_,rfl,b,l,G,cs,past,rfl,B,fun a H1 ts s1 na ha tb => ?_⟩
  refine ⟨_,rfl,_,rfl,a,ts,srt cs,k,rfl,ha,tb,gc,h8,by omega,fun r ws H2 s2 hr2 wr => ?_⟩
  have s12:=s1.trans s2
  refine ⟨_,rfl,_,rfl,_,rfl,a,r,r,A0 "",ts,ws,ws,srt cs,k,Wy (srt cs),rfl,s2 _ _ ha,tb.same s2,gc,h8,by omega,hr2,wr,hr2,wr,zfW _ _,?_⟩
  by_cases hw:0 < Wy (srt cs) k 0
  ·rw [if_pos hw] at q ⊢
   intro p wl H3 s3 np hp lr
   exact q p wl H3 (s12.trans s3) (s12.free np) hp lr
  ·rw [if_neg hw] at q ⊢
   exact q H2 s12
noncomputable def sp_lteeth:Sp:=fun vs H Q _=>∃ (k:A3) (x:Str) (ws:List V) (ks:Combs) (ts:List Int) (G:A3->Prop),vs = [.ref k,.str x]/\H k=some (.lst ws)/\Drawn G H ws ks/\cGet ks x=some ts/\∀ t,G t->H t=some (.lst (ts.map V.int))->Q (.ref t) H
theorem zfj:FnScope ["_law_kinds","_law_word_here","_law_name","_law_teeth_here"] ["_law_kinds","_law_word_here"] (defScope s_teeth):=⟨rfl,rfl,rfl,by decide +kernel,rfl,by decide +kernel,by decide +kernel⟩
theorem ok_lteeth (D:DefAt K mg "_law_teeth" s_teeth) (T:Bn mg):Callee P w K mg base "_law_teeth" 1 ["_law_kinds","_law_word_here"] sp_lteeth:=by
 refine D.callee zfj (fun _ _ _ _ _ _=>ln2 fun _ _=>rfl) (fun vs H Q E h => ?_) (fun f cdv A outer s H vs Q E hr h => ?_)
 ·obtain ⟨k,x,ws,ks,ts,G,rfl,_⟩:=h
  rfl
 ·obtain ⟨k,x,ws,ks,ts,G,rfl,hk,dr,hg,q⟩:=h
  have S:=zfj
  have hlen:=dr.rows.length
  refine ⟨_,zaf (zbe C2 rfl (zaI (pv 0)) (zfr rfl (zaE (zan (i:=2) S.nd rfl (Au rfl)) (zaE (zan (i:=3) S.nd rfl (Au rfl)) (zbE))))
   (zag (zaF (zao zcA (pv 2) (pv 1) (zav _))
    (zag (zaj (pv 3)))
    (zam))))
  (zag (zaj (za4 (zad)))),?_⟩
  refine ⟨_,rfl,_,rfl,⟨_,SqL.of hk⟩,?_⟩
  refine zb7 (zar K k ws) (fun i σ Hx=>Hx=H/\(∀ c∈ks.take i,c.1≠x)/\∃ x2 x3,σ = [some (.ref k),some (.str x),x2,x3]) ⟨rfl,by simp,_,_,rfl⟩ (fun i σ Hx _ h=>by rw [h.1]; exact SqL.of hk) ?_ ?_
  ·rintro i y σ Hx hx ⟨rfl,hno,x2,x3,rfl⟩
   obtain ⟨c,qa,t,hc,rfl,hq,ht,hgt⟩:=dr.rows.getG hx
   refine ⟨qa,_,rfl,SqL.of hq,rfl,_,_,rfl,_,_,rfl,rfl,?_⟩
   refine ⟨_,rfl,_,rfl,rfl,_,rfl,?_⟩
   by_cases e:c.1=x
   ·rw [decide_eq_true (by rw [e])]
    refine iteT ?_
    have:=zcd dr.nd (Bh hc)
    rw [e,hg] at this
    refine ⟨_,rfl,q t hgt ?_⟩
    rw [ht,C1 this]
   ·rw [decide_eq_false (fun z=>e (by injection z))]
    refine iteF ?_
    refine ⟨rfl,fun c' hc' => ?_,_,_,rfl⟩
    rw [zaG hc] at hc'
    rcases Ao.mp hc' with z | z
    ·exact hno c' z
    ·rw [A6.mp z]; exact e
  ·rintro σ Hx ⟨rfl,hno,x2,x3,rfl⟩
   rw [Ia (by omega)] at hno
   exact absurd rfl (hno _ (zd2 hg))
noncomputable def sp_length:Sp:=fun vs H Q _=>∃ (c:Int) (fl:A3) (m:Nat) (F:Nat->Bool),vs = [.int c,.ref fl]/\H fl=some (.lst ((Ac m).map fun k=>V.bl (F k)))/\1<=m/\m<=20000/\F 0=true/\∀ (n:Nat) (H':Hp),Same H H'->n<=200->Q (.int (n:Nat)) H'
theorem zed:FnScope ["_law_cell","_law_fits_here","_law_good"] ["_law_cell","_law_fits_here"] (defScope s_length):=⟨rfl,rfl,rfl,by decide +kernel,rfl,by decide +kernel,by decide +kernel⟩
theorem ok_length (D:DefAt K mg "_law_length" s_length) (T:Bn mg):Callee P w K mg base "_law_length" 1 ["_law_cell","_law_fits_here"] sp_length:=by
 refine D.callee zed (fun _ _ _ _ _ _=>ln2 fun _ _=>rfl) (fun vs H Q E h => ?_) (fun f cdv A outer s H vs Q E hr h => ?_)
 ·obtain ⟨c,fl,m,F,rfl,_⟩:=h
  rfl
 ·obtain ⟨c,fl,m,F,rfl,hfl,h1,hm,hF,q⟩:=h
  have S:=zed
  have p4:(0:Int) < 4:=by decide
  have p3:(0:Int) < 3:=by decide
  have p41:(0:Int) < 41:=by decide
  have p201:(0:Int) < 201:=by decide
  have res:∀ (x:Int) (H':Hp),Same H H'->0<=x->x<=200->Q (.int x) H':=fun x H' s' h0 h2=>by
   have:=q x.toNat H' s' (by omega)
   rwa [show ((x.toNat:Nat):Int)=x by omega] at this
  have elen:(((Ac m).map fun k=>V.bl (F k)).length:Int)=((m:Nat):Int):=by rw [A5,Ax]
  refine ⟨_,zaf (ps_setC (i:=2) S.nd rfl (Au rfl) (own := ["_law_k"]) (caps := [(1,"_law_fits_here")]) rfl ⟨rfl,rfl,rfl,rfl,⟨⟨rfl,rfl,.inl rfl⟩,trivial⟩⟩ (zbm rfl T.n_range (zaa (zai (call_min2 rfl) rfl T.n_min boot_min (zaa (zab) (zaa (zai zat rfl T.n_len Bz (zaa (pv 1) zad)) zad))) zad)) (fun _ _ _ _ _ _=>zan (i:=0) (zaU (by decide +kernel)) rfl (Au rfl)) (fun _ _ _ _ _ _=>zcz (zbz (zaL (zcs K rfl) (pv 1) (pv 0) (fun _ _=>rfl)))) (fun _ _ _ _ _ _=>pv 0))
  (zaf (zaF (zao zcA (zas zaQ (pv 0) (zab)) (zab) (zav _))
   (zag (zaj (zas zaQ (zas zbh (pv 0) (zab)) (zab))))
   (zam))
  (zaf (zaF (zao zgh (zas zaQ (pv 0) (zab)) (zab) (zav _))
   (zag (zaj (zas zaQ (zas zdG (zaL zaN (pv 2) (zas zaQ (zas zbh (pv 0) (zab)) (zai zat rfl T.n_len Bz (zaa (pv 2) zad))) (fun _ _=>rfl)) (zas zbv (zab) (zas zaQ (zas zbh (pv 0) (zab)) (zab)))) (zab))))
   (zam))
  (zag (zaj (zas zaQ (zas zbh (pv 0) (zab)) (zab)))))),?_⟩
  refine ⟨_,rfl,_,_,rfl,.inl (SqL.of hfl),_,_,rfl,_,rfl,?_,?_,fun D hD => ?_⟩
  ·rw [elen]; split <;> omega
  ·rw [elen]; split <;> omega
  obtain ⟨k,hk1,hk2,hk3,hk⟩:∃ k,1<=k/\k<=201/\k<=m/\(if (((Ac m).map fun k=>V.bl (F k)).length:Int) < 201 then (((Ac m).map fun k=>V.bl (F k)).length:Int) else 201).toNat=k:=⟨_,by rw [elen]; split <;> omega,by rw [elen]; split <;> omega,by rw [elen]; split <;> omega,rfl⟩
  rw [hk]
  refine zbW (capv := [some (.ref fl)]) (by rfl) (zaX 0 k) (by rw [zbO]; exact big (by omega)) hD (fun _ _=>trivial) (fun v=>match v with | .int x=>F x.toNat | _=>false) id ?_ ?_ ?_
  ·intro x hx H' R s' h
   obtain ⟨n,hn,rfl⟩:=Ab.mp hx
   have hn:=B9.mp hn
   rw [Eo] at h ⊢
   refine ⟨_,rfl,_,rfl,_,_,_,_,rfl,rfl,SqL.of (s' _ _ hfl),zax (v:=V.bl (F n)) (by rw [Ai,C7 (by omega)]; rfl),_,rfl,?_⟩
   exact h H' (Same.refl _)
  ·intro x hx _ H' R s' h
   exact ⟨_,rfl,h H' (Same.refl _)⟩
  intro H1 s1 e1
  have e1':H1 D=some (.lst ((((Ac k).filter F).map fun (n:Nat)=>(n:Int)).map V.int)):=by
   have ez:(fun i:Nat=>V.int (0 + ((i:Nat):Int)))=fun i=>V.int (i:Nat):=by funext i; rw [Eo]
   rw [e1,Gy,ez,Ir,Be]
   rfl
  have hpos:0 < ((Ac k).filter F).length:=Ib (Bc.mpr ⟨B9.mpr (show 0 < k by omega),hF⟩)
  refine ⟨_,rfl,_,_,rfl,rfl,p4,rfl,_,rfl,?_⟩
  refine ite2 (fun _ => ?_) (fun _ => ?_)
  ·refine ⟨_,rfl,_,_,rfl,rfl,⟨p4,by decide⟩,_,_,rfl,rfl,p201,?_⟩
   have:=Dz (c / 4) (show (201:Int)≠0 by decide)
   have:=Da (c / 4) p201
   exact res _ _ s1 (by omega) (by omega)
  refine ⟨_,rfl,_,_,rfl,rfl,p4,_,_,rfl,rfl,_,rfl,?_⟩
  refine ite2 (fun _ => ?_) (fun _ => ?_)
  ·have eg:(((((Ac k).filter F).map fun (n:Nat)=>(n:Int)).map V.int).length:Int)=((((Ac k).filter F).length:Nat):Int):=by rw [A5,A5]
   have hp:(0:Int) < (((((Ac k).filter F).map fun (n:Nat)=>(n:Int)).map V.int).length:Int):=by rw [eg]; omega
   have i0:=Dz (c / 4) (show (((((Ac k).filter F).map fun (n:Nat)=>(n:Int)).map V.int).length:Int)≠0 by omega)
   have i1:=Da (c / 4) hp
   have j0:=Dz (c / 4) (show (3:Int)≠0 by decide)
   have j1:=Da (c / 4) p3
   have hlen:c / 4 % (((((List.range k).filter F).map fun (n:Nat)=>(n:Int)).map V.int).length:Int) < (((((List.range k).filter F).map fun (n:Nat)=>(n:Int)).length:Nat):Int):=by simp only [List.length_map] at i1 ⊢; exact i1
   refine ⟨_,rfl,_,rfl,_,_,rfl,rfl,⟨p4,by decide⟩,_,rfl,_,_,rfl,.inl (SqL.of e1'),_,_,rfl,rfl,hp,_,_,_,_,rfl,rfl,SqL.of e1',zfK i0 hlen,_,rfl,_,_,rfl,rfl,⟨p4,by decide⟩,_,_,rfl,rfl,p3,_,_,rfl,rfl,_,_,rfl,rfl,?_,_,_,rfl,rfl,p201,?_⟩
   ·exact .inr ⟨by omega,by omega⟩
   ·generalize ((((List.range k).filter F).map fun (n:Nat)=>(n:Int)).getD _ 0) * (1 + c / 4 % 3)=z
    have:=Dz z (show (201:Int)≠0 by decide)
    have:=Da z p201
    exact res _ _ s1 (by omega) (by omega)
  ·refine ⟨_,rfl,_,_,rfl,rfl,⟨p4,by decide⟩,_,_,rfl,rfl,p41,?_⟩
   have:=Dz (c / 4) (show (41:Int)≠0 by decide)
   have:=Da (c / 4) p41
   exact res _ _ s1 (by omega) (by omega)
noncomputable def ovV (ks:Combs) (l:List (Nat×Str)) (m:Nat):List V:=(Ac m).map fun q=>V.int ((cov ks l q:Nat):Int)
noncomputable def sp_covers:Sp:=fun vs H Q _=>∃ (k l:A3) (n:Nat) (ws wl:List V) (ks:Combs) (ly:List (Nat×Str)),vs = [.ref k,.ref l,.int (n:Nat)]/\H k=some (.lst ws)/\Drawn (fun _=>True) H ws ks/\H l=some (.lst wl)/\LyR H wl ly/\n<=1000/\Lay ks ly/\Cover ks ly n/\ly.Pairwise (fun x y=>x.1 < y.1)/\∀ H',Same H H'->Q (.bl true) H'
theorem eqv_nilC {d:Ij} {ds:List Ij}:E3 (.list (d :: ds)) (.list [])=false:=by simp [E3,J9]
theorem shaped_intsC (a:List Int):Fa (.list (a.map Ez))=true:=by
 have h1:Ch (a.map Ez)=true:=by
  induction a with
  | nil=>rfl
  | cons x a ih=>rw [Aq,Ch,ih]; rfl
 have h2:∀ a:List Int,Eb (a.map Ez)=0:=by
  intro a
  induction a with
  | nil=>rfl
  | cons x a ih=>rw [Aq,Eb,ih]; rfl
 simp [Fa,Fk,Hn,h1,h2]
theorem rep_oneC (m:Nat) (v:V):(Bo m [v]).flatten=Bo m v:=by
 induction m with
 | zero=>rfl
 | succ m ih=>rw [E1,Fn,ih,E1]; rfl
theorem zef:FnScope ["_law_kinds","_law_layings_here","_law_length_here","_law_over","_law_last","_law_place","_law_word_here","_law_teeth_here","_law_t"] ["_law_kinds","_law_layings_here","_law_length_here"] (defScope s_covers):=⟨rfl,rfl,rfl,by decide +kernel,rfl,by decide +kernel,by decide +kernel⟩
theorem ok_covers (D:DefAt K mg "_law_covers" s_covers) (T:Bn mg) (C_teeth:Callee P w K mg base "_law_teeth" 1 ["_law_kinds","_law_word_here"] sp_lteeth):Callee P w K mg base "_law_covers" 2 ["_law_kinds","_law_layings_here","_law_length_here"] sp_covers:=by
 refine D.callee zef (fun _ _ _ _ _ _=>ln3 fun _ _ _=>rfl) (fun vs H Q E h => ?_) (fun f cdv A outer s H vs Q E hr h => ?_)
 ·obtain ⟨k,l,n,ws,wl,ks,ly,rfl,_⟩:=h
  rfl
 ·obtain ⟨k,l,n,ws,wl,ks,ly,rfl,hk,dr,hl,lr,hn,hlay,hcov,hup,q⟩:=h
  have S:=zef
  have gc:GC ks:=fun c hc=>(dr.good c hc).2
  have hll:=Cp lr
  refine ⟨_,zaf (zaq (i:=3) S.nd rfl (Au rfl) (zas op_rep (za4 (zaa (zab) zad)) (pv 2)))
  (zaf (zaq (i:=4) S.nd rfl (Au rfl) (zeT zcX (zab)))
  (zaf (zbe C2 rfl (zaI (pv 1)) (zej rfl (zaE (zan (i:=5) S.nd rfl (Au rfl)) (zaE (zan (i:=6) S.nd rfl (Au rfl)) (zbE))))
   (zaf (zaq (i:=7) S.nd rfl (Au rfl) (zaJ C_teeth (hr.mono (by decide)) rfl (zaa (pv 0) (zaa (pv 6) zad))))
   (zaf (zaF (PW.pt (zeh (zao zeo (pv 5) (pv 4) (zav _)) (zc3 (zao (zgZ hr.units) (pv 7) (za4 (zad)) (zav _)))))
    (zag (zaj (zb6)))
    (zam))
   (zaf (zaq (i:=4) S.nd rfl (Au rfl) (pv 5))
   (zag (zbe C2 rfl (zaI (pv 7)) (zan (i:=8) S.nd rfl (Au rfl))
    (zaf (zaF (zao zhb (zas zbv (pv 5) (pv 8)) (pv 2) (zav _))
     (zag (zaj (zb6)))
     (zam))
    (zag (zf9 (zas zbv (zaL zaN (pv 3) (zas zbv (pv 5) (pv 8)) (fun _ _=>rfl)) (zab)) (zgU (pv 3) (zas zbv (pv 5) (pv 8)) zfg))))))))))
  (zag (zaj (zai (zd5 rfl) rfl T.n_all Qk (zaa (za6 (own := ["_law_many"]) (caps := []) rfl ⟨rfl,rfl,rfl,rfl,trivial⟩ (zaI (pv 3)) (fun _ _ _ _ _ _=>zan (i:=0) (zaU (by decide +kernel)) rfl (Au rfl)) (fun _ _ _ _ _ _=>zby) (fun _ _ _ _ _ _=>zeU zcA (pv 0) (zab) (zav _))) zad)))))),?_⟩
  refine ⟨bigr rfl,fun z nz=>⟨_,rfl,_,_,_,rfl,rfl,zac,by omega,by omega,?_,fun po npo => ?_⟩⟩
  ·rw [Bm]; exact C0 (by omega:_<=1000) za0
  have s1:Same H (upd (upd H z (.lst [.int 0])) po (.lst (Bo ((n:Nat):Int).toNat [V.int 0]).flatten)):=(Same.new nz).trans (Same.new npo)
  have hpo:upd (upd H z (.lst [.int 0])) po (.lst (Bo ((n:Nat):Int).toNat [V.int 0]).flatten) po=some (.lst (ovV ks (ly.take 0) n)):=by
   rw [zac,rep_oneC,show ((n:Nat):Int).toNat=n by omega]
   congr 2
   refine (List.eq_replicate_iff.mpr ⟨by unfold ovV; rw [A5,Ax],fun b hb => ?_⟩).symm
   obtain ⟨p,_,rfl⟩:=Ab.mp hb
   rfl
  have npo0:H po=none:=(Same.new nz).free npo
  generalize upd (upd H z (.lst [.int 0])) po (.lst (Bo ((n:Nat):Int).toNat [V.int 0]).flatten)=H1 at s1 hpo ⊢
  refine ⟨_,rfl,?_⟩
  refine ⟨_,rfl,_,rfl,⟨_,SqL.of (s1 _ _ hl)⟩,?_⟩
  refine zb7 (zar K l wl) (fun i σ Hx=>Same H Hx/\∃ (last:Int) (x5 x6 x7 x8:Option V),σ = [some (.ref k),some (.ref l),some (.int (n:Nat)),some (.ref po),some (.int last),x5,x6,x7,x8]/\Hx po=some (.lst (ovV ks (ly.take i) n))/\∀ j x,i<=j->ly[j]?=some x->last < ((x.1:Nat):Int)) ⟨s1,-1,_,_,_,_,rfl,hpo,fun j x _ _=>by omega⟩ (fun i σ Hx _ h=>SqL.of (h.1 _ _ hl)) ?_ ?_
  ·rintro i x σ Hx hx ⟨sx,last,x5,x6,x7,x8,rfl,hpx,hlast⟩
   obtain ⟨⟨j,nmj⟩,ej,qa,rfl,hqa⟩:=C3.rev lr hx
   have hmem:=Bh ej
   have hjn:=hlay _ hmem
   have hlt:=hlast i _ (Ad _) ej
   dsimp only at hjn hqa hlt
   obtain ⟨⟨nm',ts⟩,hc,rfl⟩:=Ab.mp hjn
   have hts:=zcd dr.nd hc
   dsimp only at hts hqa ej hmem
   have gts:GT ts:=gc _ hc
   refine ⟨qa,_,rfl,SqT.of (sx _ _ hqa),rfl,_,_,rfl,_,_,rfl,rfl,?_⟩
   refine ⟨_,rfl,_,rfl,k,_,ws,ks,ts,_,rfl,sx _ _ hk,dr.live.same sx,hts,fun t ht0 ht => ?_⟩
   refine ⟨_,rfl,_,rfl,_,_,rfl,rfl,_,rfl,?_⟩
   rw [decide_eq_false (show ¬ ((j:Nat):Int)<=last by omega)]
   refine iteF ?_
   refine ⟨_,rfl,bigr rfl,fun pn npn => ?_⟩
   have s7:Same Hx (upd Hx pn (.lst [])):=Same.new npn
   refine ⟨.list (ts.map Ez),.list [],.lst (SqL.of (s7 _ _ ht)) (VDs.map fun u _ => .int u),.lst (SqL.of zac) .nil,shaped_intsC ts,by decide,_,rfl,?_⟩
   have hz:E3 (.list (ts.map Ez)) (.list [])=false:=by
    cases ts with
    | nil=>exact absurd (zcD gts) (by simp)
    | cons u us=>exact eqv_nilC
   rw [if_neg A9,hz]
   refine iteF ?_
   refine ⟨_,rfl,?_⟩
   refine ⟨_,rfl,_,rfl,⟨_,SqL.of (s7 _ _ ht)⟩,?_⟩
   have hpx7:=s7 _ _ hpx
   have ht7:=s7 _ _ ht
   have sx7:=sx.trans s7
   have htp:t≠po:=fun e=>ht0 (by rw [e]; exact npo0)
   generalize upd Hx pn (.lst [])=H7 at hpx7 ht7 sx7
   have hin:∀ u∈ts,j + u.toNat < n:=fun u hu=>by
    have h0:=(zbV gts u hu).1
    refine hcov.below gc dr.nd hlay hmem (q:=j + u.toNat) ?_
    unfold hit tkOf
    dsimp only
    rw [hts,decide_eq_true (O0 _ _),Dw,decide_eq_true (show ((u.toNat:Nat):Int)∈(some ts).getD [] by rw [show ((u.toNat:Nat):Int)=u by omega]; exact hu)]
    rfl
   refine zb7 (zar K t (ts.map V.int)) (fun i' σ Hy=>Same H Hy/\Hy t=some (.lst (ts.map V.int))/\∃ x8,σ = [some (.ref k),some (.ref l),some (.int (n:Nat)),some (.ref po),some (.int (j:Nat)),some (.int (j:Nat)),some (.str nm'),some (.ref t),x8]/\Hy po=some (.lst ((Ac n).map fun p=>V.int (((cov ks (ly.take i) p + ((ts.take i').map fun t=>j + t.toNat).count p:Nat)):Int)))) ⟨sx7,ht7,_,rfl,?_⟩ (fun i' σ Hy _ h=>SqL.of h.2.1) ?_ ?_
   ·rw [hpx7]
    congr 2
   ·rintro i' y σ Hy hy ⟨sy,hty,x8,rfl,hpy⟩
    rw [Ai] at hy
    cases hu:ts[i']? with
    | none=>rw [hu] at hy; cases hy
    | some u =>
     rw [hu] at hy
     cases hy
     have hub:=zbV gts u (Bh hu)
     have hjn:=hin u (Bh hu)
     refine ⟨_,rfl,_,rfl,_,_,rfl,rfl,_,rfl,_,_,rfl,rfl,_,rfl,?_⟩
     rw [decide_eq_false (show ¬ ((n:Nat):Int)<=((j:Nat):Int) + u by omega)]
     refine iteF ?_
     have hix:ixN ((Ac n).map fun p=>V.int (((cov ks (ly.take i) p + ((ts.take i').map fun t=>j + t.toNat).count p:Nat)):Int)).length (((j:Nat):Int) + u)=some (j + u.toNat):=by
      unfold ixN
      rw [A5,Ax,if_pos (by omega),if_pos (by omega)]
      congr 1
      omega
     refine ⟨_,rfl,_,rfl,_,rfl,_,_,rfl,rfl,_,_,_,_,rfl,rfl,SqL.of hpy,atI_int (by omega) (v:=V.int (((cov ks (ly.take i) (j + u.toNat) + ((ts.take i').map fun t=>j + t.toNat).count (j + u.toNat):Nat)):Int)) ?_,_,_,rfl,rfl,?_⟩
     ·rw [show (((j:Nat):Int) + u).toNat=j + u.toNat by omega,Ai,C7 hjn]
      rfl
     refine ⟨_,rfl,_,rfl,_,rfl,_,_,rfl,rfl,po,_,_,_,rfl,rfl,hpy,hix,?_⟩
     refine ⟨sy.put npo0,(by rw [zah htp]; exact hty),_,rfl,?_⟩
     rw [zac,zgl _ _ hjn]
     congr 2
     refine Ce fun p _ => ?_
     rw [zaG hu,Bi,List.count_append]
     by_cases e:p=j + u.toNat
     ·subst e
      rw [if_pos rfl]
      simp
      omega
     ·rw [if_neg e]
      simp [Dy e]
   ·rintro σ Hy ⟨sy,hty,x8,rfl,hpy⟩
    rw [A5,Ci] at hpy
    refine ⟨sy,_,_,_,_,_,rfl,?_,fun j' x' hj' ej' => ?_⟩
    ·rw [hpy]
     congr 2
     unfold ovV
     refine Ce fun p _ => ?_
     rw [zaG ej,zb2,count_teeth (zaT (zd1 gts)) (fun t ht=>(zbV gts t ht).1)]
     unfold hit tkOf
     dsimp only
     rw [hts]
     by_cases hjp:j<=p
     ·rw [if_pos hjp,decide_eq_true hjp,Ff]; rfl
     ·rw [if_neg hjp,decide_eq_false hjp,F9]; rfl
    ·rw [D3] at hup
     obtain ⟨h2a,h2b⟩:=Av.mp ej
     obtain ⟨h3a,h3b⟩:=Av.mp ej'
     have:=hup i j' h2a h3a (by omega)
     rw [h2b,h3b] at this
     dsimp only at this
     omega
  ·rintro σ Hx ⟨sx,last,x5,x6,x7,x8,rfl,hpx,_⟩
   rw [<- hll,Ci] at hpx
   refine ⟨_,rfl,_,rfl,⟨_,SqL.of hpx⟩,fun D hD => ?_⟩
   refine zbW (capv := []) (by rfl) (zar K po _) (by unfold ovV; rw [A5,Ax]; exact big (by omega)) hD (fun H' s'=>SqL.of (s' _ _ hpx)) (fun _=>true) (fun _ => .bl true) ?_ ?_ ?_
   ·intro x hx H' R s' h
    exact h H' (Same.refl _)
   ·intro x hx _ H' R s' h
    obtain ⟨p,hp,rfl⟩:=Ab.mp hx
    refine ⟨_,rfl,rfl,?_⟩
    have e:cov ks ly p=1:=by rw [hcov p,if_pos (B9.mp hp)]
    rw [e]
    exact h H' (Same.refl _)
   intro H3 s3 e3
   refine ⟨D,(ovV ks ly n).map fun _=>true,rfl,SqL.of ?_,?_⟩
   ·rw [e3,Co.mpr (fun _ _=>rfl),Be]
    rfl
   rw [Cs.mpr (fun b hb=>by obtain ⟨_,_,rfl⟩:=Ab.mp hb; rfl)]
   exact q _ (sx.trans s3)
noncomputable def sp_at (K:Al):Sp:=fun vs H Q _=>∃ (a:A3) (ns:List Int) (k:Int),vs = [.ref a,.int k]/\SqL K H a (ns.map V.int)/\0<=k/\Q (.int (ns.getD k.toNat 0)) H
theorem zhf:FnScope ["_law_script","_law_k"] ["_law_script","_law_k"] (defScope s_at):=⟨rfl,rfl,rfl,by decide +kernel,rfl,by decide +kernel,by decide +kernel⟩
theorem ok_at (D:DefAt K mg "_law_at" s_at) (T:Bn mg):Callee P w K mg base "_law_at" 1 ["_law_script","_law_k"] (sp_at K):=by
 refine D.callee zhf (fun _ _ _ _ _ _=>ln2 fun _ _=>rfl) (fun vs H Q E h => ?_) (fun f cdv A outer s H vs Q E hr h => ?_)
 ·obtain ⟨a,ns,k,rfl,_⟩:=h
  rfl
 ·obtain ⟨a,ns,k,rfl,hS,h0,q⟩:=h
  have S:=zhf
  refine ⟨_,zaf (zaF (zao zgg (pv 1) (zai zat rfl T.n_len Bz (zaa (pv 0) zad)) (zav _))
   (zag (zaj (zaL zaN (pv 0) (pv 1) (fun _ _=>rfl))))
   (zam))
  (zag (zaj (zab))),?_⟩
  refine ⟨_,rfl,_,rfl,_,_,rfl,.inl hS,_,_,rfl,rfl,_,rfl,?_⟩
  refine ite2 (fun hc => ?_) (fun hc => ?_)
  ·have hc:=of_decide_eq_true hc
   rw [A5] at hc
   exact ⟨_,rfl,_,rfl,_,_,_,_,rfl,rfl,hS,zfK h0 hc,q⟩
  ·have hc:¬ k < (ns.length:Int):=fun z=>hc (decide_eq_true (by rw [A5]; exact z))
   rw [getD_big hc] at q
   exact q
noncomputable def mixed (c k:Int):Int:=((c + 7919 * k + 1) * 48271 % 2147483647 + 104729 * k + 3) * 69621 % 2147483647
noncomputable def sp_mixed:Sp:=fun vs H Q _=>∃ (c k:Int),vs = [.int c,.int k]/\Q (.int (mixed c k)) H
theorem zfl:FnScope ["_law_cell","_law_k","_law_once"] ["_law_cell","_law_k"] (defScope s_mixed):=⟨rfl,rfl,rfl,by decide +kernel,rfl,by decide +kernel,by decide +kernel⟩
theorem ok_mixed (D:DefAt K mg "_law_mixed" s_mixed) (T:Bn mg):Callee P w K mg base "_law_mixed" 1 ["_law_cell","_law_k"] sp_mixed:=by
 refine D.callee zfl (fun _ _ _ _ _ _=>ln2 fun _ _=>rfl) (fun vs H Q E h => ?_) (fun f cdv A outer s H vs Q E hr h => ?_)
 ·obtain ⟨c,k,rfl,_⟩:=h
  rfl
 ·obtain ⟨c,k,rfl,q⟩:=h
  have S:=zfl
  refine ⟨_,zaf (zaq (i:=2) S.nd rfl (Au rfl) (zas zaQ (zas zdG (zas zbv (zas zbv (pv 0) (zas zdG (zab) (pv 1))) (zab)) (zab)) (zab)))
  (zag (zaj (zas zaQ (zas zdG (zas zbv (zas zbv (pv 2) (zas zdG (zab) (pv 1))) (zab)) (zab)) (zab)))),?_⟩
  refine ⟨_,rfl,_,rfl,_,_,rfl,rfl,.inl ⟨by decide,by decide⟩,_,_,rfl,rfl,_,_,rfl,rfl,_,_,rfl,rfl,.inr ⟨by decide,by decide⟩,_,_,rfl,rfl,by show (0:Int) < 2147483647; decide,?_⟩
  exact ⟨_,rfl,_,rfl,_,_,rfl,rfl,.inl ⟨by decide,by decide⟩,_,_,rfl,rfl,_,_,rfl,rfl,_,_,rfl,rfl,.inr ⟨by decide,by decide⟩,_,_,rfl,rfl,by show (0:Int) < 2147483647; decide,q⟩
noncomputable def sp_whole:Sp:=fun vs H Q _=>∃ (i:Int),vs = [.int i]/\Q (.bl true) H
theorem zfi:FnScope ["_law_found"] ["_law_found"] (defScope s_whole):=⟨rfl,rfl,rfl,by decide +kernel,rfl,by decide +kernel,by decide +kernel⟩
theorem ok_whole (D:DefAt K mg "_law_whole" s_whole) (T:Bn mg):Callee P w K mg base "_law_whole" 1 ["_law_found"] sp_whole:=by
 refine D.callee zfi (fun _ _ _ _ _ _=>ln1 fun _=>rfl) (fun vs H Q E h => ?_) (fun f cdv A outer s H vs Q E hr h => ?_)
 ·obtain ⟨i,rfl,_⟩:=h
  rfl
 ·obtain ⟨i,rfl,q⟩:=h
  have S:=zfi
  refine ⟨_,zag (zaj (zgY (zai (zbw "int") rfl T.n_isinstance Bl (zaa (pv 0) (zaa (zbS (v := .ty "int") rfl T.n_int boot_int rfl) zad))) (zgV (pe_not (zai (zbw "bool") rfl T.n_isinstance Bl (zaa (pv 0) (zaa (zbS (v := .ty "bool") rfl T.n_bool boot_bool rfl) zad))))))),?_⟩
  refine ⟨_,rfl,_,_,true,rfl,.int i,rfl,_,rfl,?_⟩
  refine iteT ?_
  exact ⟨_,rfl,_,_,false,rfl,.int i,rfl,_,rfl,q⟩
noncomputable def sp_word:Sp:=fun vs H Q _=>∃ (c b:Int),vs = [.int c,.int b]/\(b=26\/b=2)/\∀ x:Str,isName x=true->Q (.str x) H
theorem zfX:FnScope ["_law_cell","_law_base","_law_word_here","_law_rest","_law_k"] ["_law_cell","_law_base"] (defScope s_word):=⟨rfl,rfl,rfl,by decide +kernel,rfl,by decide +kernel,by decide +kernel⟩
theorem ok_word (D:DefAt K mg "_law_word" s_word) (T:Bn mg):Callee P w K mg base "_law_word" 1 ["_law_cell","_law_base"] sp_word:=by
 refine D.callee zfX (fun _ _ _ _ _ _=>ln2 fun _ _=>rfl) (fun vs H Q E h => ?_) (fun f cdv A outer s H vs Q E hr h => ?_)
 ·obtain ⟨c,b,rfl,_⟩:=h
  rfl
 ·obtain ⟨c,b,rfl,hb,q⟩:=h
  have S:=zfX
  have b0:0 < b:=by omega
  have b1:b<=26:=by omega
  have m0:=Dz c (show (6:Int)≠0 by decide)
  have m1:=Da c p6
  refine ⟨_,zaf (zaq (i:=2) S.nd rfl (Au rfl) (zau))
  (zaf (zaq (i:=3) S.nd rfl (Au rfl) (zas zbh (pv 0) (zab)))
  (zaf (zbe C2 rfl (zbm rfl T.n_range (zaa (zas zbv (zab) (zas zaQ (pv 0) (zab))) zad)) (zan (i:=4) S.nd rfl (Au rfl))
   (zaf (zaq (i:=2) S.nd rfl (Au rfl) (zas op_add_str (pv 2) (zaL ix_str (zau) (zas zaQ (pv 3) (pv 1)) (fun _ _=>rfl))))
   (zag (zaq (i:=3) S.nd rfl (Au rfl) (zas zbh (pv 3) (pv 1))))))
  (zag (zaj (pv 2))))),?_⟩
  refine ⟨_,rfl,_,_,rfl,rfl,⟨p6,by decide⟩,?_⟩
  refine ⟨_,rfl,_,_,rfl,rfl,p6,_,_,rfl,rfl,_,rfl,?_,?_,?_⟩
  ·show -(2 ^ 62)<=1 + c % 6
   omega
  ·show 1 + c % 6 < 2 ^ 62
   omega
  refine zb7 (zaX 0 (1 + c % 6).toNat) (fun i σ H'=>H'=H/\∃ (x:Str) (r:Int) (x4:Option V),σ = [some (.int c),some (.int b),some (.str x),some (.int r),x4]/\x.length=i/\x.cps.toList.all small=true) ⟨rfl,Str.ofString "",_,_,rfl,by decide,by decide⟩ (fun _ _ _ _ _=>trivial) ?_ ?_
  ·rintro i x σ H2 hx ⟨rfl,y,r,x4,rfl,hl,ha⟩
   obtain ⟨hi,rfl⟩:=zbP hx
   obtain ⟨ch,hch,hs⟩:=abc_at (k:=r % b) (Int.emod_nonneg _ (by omega)) (by have:=Int.emod_lt_of_pos r b0; omega)
   refine ⟨_,rfl,_,rfl,_,rfl,_,_,rfl,rfl,b0,_,_,_,rfl,rfl,?_,hch,_,_,rfl,rfl,?_,?_⟩
   ·show abc.length<=sizeLine
    rw [ze6]; decide
   ·rw [zdY]
    exact big (by omega)
   refine ⟨_,rfl,_,rfl,_,_,rfl,rfl,⟨b0,by omega⟩,?_⟩
   refine ⟨rfl,_,_,_,rfl,by rw [len_app,hl,zdY],?_⟩
   rw [app_list,List.all_append,ha]
   show (true && [ch].all small)=true
   simp [hs]
  ·rintro σ H2 ⟨rfl,y,r,x4,rfl,hl,ha⟩
   rw [A5,Ax] at hl
   exact ⟨_,rfl,q y (zgk (by omega) (by omega) ha)⟩
noncomputable def sp_spare (K:Al):Sp:=fun vs H Q _=>∃ (x:Str) (u:A3) (us:List Str),vs = [.str x,.ref u]/\isName x=true/\SqL K H u (us.map V.str)/\us.length<=25/\∀ y H',Same H H'->isName y=true->y ∉ us->Q (.str y) H'
noncomputable def notUsed (us:List Str) (v:V):Bool:=match v with
 | .str y => !decide (y∈us)
 | _=>false
theorem zfk:FnScope ["_law_word_here","_law_used"] ["_law_word_here","_law_used"] (defScope s_spare):=⟨rfl,rfl,rfl,by decide +kernel,rfl,by decide +kernel,by decide +kernel⟩
theorem ok_spare (D:DefAt K mg "_law_spare" s_spare) (T:Bn mg):Callee P w K mg base "_law_spare" 1 ["_law_word_here","_law_used"] (sp_spare K):=by
 refine D.callee zfk (fun _ _ _ _ _ _=>ln2 fun _ _=>rfl) (fun vs H Q E h => ?_) (fun f cdv A outer s H vs Q E hr h => ?_)
 ·obtain ⟨x,u,us,rfl,_⟩:=h
  rfl
 ·obtain ⟨x,u,us,rfl,hx,hS,hl,q⟩:=h
  have S:=zfk
  refine ⟨_,zaf (zaF (zao zbT (pv 0) (pv 1) (by with_unfolding_all rfl))
   (zag (zaj (pv 0)))
   (zam))
  (zag (zaj (zaL zaN (za6 (own := ["_law_one"]) (caps := [(1,"_law_used")]) rfl ⟨rfl,rfl,rfl,rfl,⟨⟨rfl,rfl,.inl rfl⟩,trivial⟩⟩ (zgT (zau)) (fun _ _ _ _ _ _=>zan (i:=0) (zaU (by decide +kernel)) rfl (Au rfl)) (fun _ _ _ _ _ _=>zcz (zao (op_notIn_seq' K rfl) (pv 0) (pv 1) (by with_unfolding_all rfl))) (fun _ _ _ _ _ _=>pv 0)) (zab) (fun _ _=>rfl)))),?_⟩
  refine ⟨_,rfl,_,rfl,_,_,rfl,.inl hS,rfl,zeE us,_,rfl,?_⟩
  rw [if_pos rfl,zgq]
  refine ite2 (fun hc => ?_) (fun hc => ?_)
  ·have h0:x ∉ us:=by simpa using hc
   exact ⟨_,rfl,q x H (Same.refl H) hx h0⟩
  ·refine ⟨_,rfl,fun D hD => ?_⟩
   refine zbW (capv := [some (.ref u)]) (L:=abc.cps.toList.map sgn) (by rfl) (zeB abc) (by rw [A5,zcw,ze6]; decide) hD ?_ (notUsed us) (fun v=>v) ?_ ?_ ?_
   ·exact fun _ _=>trivial
   ·intro v hv H' R s' h
    obtain ⟨c,hc,rfl⟩:=Ab.mp hv
    refine ⟨_,rfl,_,rfl,_,_,rfl,.inl (s'.seq hS),rfl,zeE us,_,rfl,?_⟩
    rw [if_pos rfl]
    show R (!inV (V.str ⟨#[c]⟩) (us.map V.str)) H'
    rw [zgq]
    exact h H' (Same.refl _)
   ·intro v hv hp H' R s' h
    exact ⟨_,rfl,h H' (Same.refl _)⟩
   ·intro H' s' e
    obtain ⟨c,hc,hn⟩:=spare_some us hl
    have hm:sgn c∈((abc.cps.toList.map sgn).filter (notUsed us)).map fun v=>v:=by
     rw [M2]
     exact Bc.mpr ⟨Ab.mpr ⟨c,hc,rfl⟩,by show (!decide ((⟨#[c]⟩:Str)∈us))=true; simp [hn]⟩
    have hall:∀ v∈((abc.cps.toList.map sgn).filter (notUsed us)).map fun v=>v,∃ d,v=sgn d/\small d=true/\(⟨#[d]⟩:Str) ∉ us:=fun v hv=>by
     rw [M2] at hv
     obtain ⟨h1,h2⟩:=Bc.mp hv
     obtain ⟨d,hd,rfl⟩:=Ab.mp h1
     have h2:(!decide ((⟨#[d]⟩:Str)∈us))=true:=h2
     exact ⟨d,rfl,abc_small hd,by simpa using h2⟩
    generalize (((abc.cps.toList.map sgn).filter (notUsed us)).map fun v=>v)=l at e hm hall
    cases l with
    | nil=>cases hm
    | cons v l =>
     obtain ⟨d,rfl,hs,hd⟩:=hall v Ag
     exact ⟨_,_,_,_,rfl,rfl,SqL.of e,(show atI (sgn d :: l) ((0:Nat):Int)=some (sgn d) from zax rfl),q _ H' s' (name_one hs) hd⟩
noncomputable def Rows (H:Hp):List V->List (List Int)->Prop
 | [],[]=>True
 | v :: vs,r :: rs=>(∃ p,v = .ref p/\H p=some (.tup (r.map V.int)))/\Rows H vs rs
 | _,_=>False
theorem Rows.same {H H':Hp} (s:Same H H'):∀ {vs:List V} {rs:List (List Int)},Rows H vs rs->Rows H' vs rs
 | [],[],_=>trivial
 | _ :: _,_ :: _,⟨⟨p,e,h⟩,r⟩=>⟨⟨p,e,s _ _ h⟩,Rows.same s r⟩
 | [],_ :: _,h=>h.elim
 | _ :: _,[],h=>h.elim
theorem Rows.snoc {H:Hp} {p:A3} {r:List Int} (h:H p=some (.tup (r.map V.int))):∀ {vs:List V} {rs:List (List Int)},Rows H vs rs->Rows H (vs ++ [.ref p]) (rs ++ [r])
 | [],[],_=>⟨⟨p,rfl,h⟩,trivial⟩
 | _ :: _,_ :: _,⟨a,b⟩=>⟨a,Rows.snoc h b⟩
 | [],_ :: _,x=>x.elim
 | _ :: _,[],x=>x.elim
theorem Rows.get {H:Hp}:∀ {vs:List V} {rs:List (List Int)} {i:Nat} {r:List Int},Rows H vs rs->rs[i]?=some r->∃ p,vs[i]?=some (.ref p)/\H p=some (.tup (r.map V.int))
 | [],[],_,_,_,e=>by simp at e
 | _ :: _,_ :: _,0,_,⟨⟨p,e,h⟩,_⟩,z=>by
  simp at z
  subst z
  exact ⟨p,by rw [e]; rfl,h⟩
 | _ :: _,_ :: _,i + 1,_,⟨_,b⟩,z=>Rows.get (i:=i) b (by simpa using z)
 | [],_ :: _,_,_,x,_=>x.elim
 | _ :: _,[],_,_,x,_=>x.elim
structure Mr (H0 H:Hp) (vs:List V) (rs:List (List Int)):Prop where
 same:Same H0 H
 rows:Rows H vs rs
theorem Mr.add {H0 H:Hp} {vs:List V} {rs:List (List Int)} (m:Mr H0 H vs rs) (r:List Int) {p:A3} (n:H p=none):Mr H0 (upd H p (.tup (r.map V.int))) (vs ++ [.ref p]) (rs ++ [r]) :=
 ⟨m.same.put (m.same.free n),Rows.snoc zac (m.rows.same (Same.new n))⟩
theorem Mr.lstE {H0 H:Hp} {vs:List V} {rs:List (List Int)} (m:Mr H0 H vs rs) {o:HO} {p:A3} (n:H p=none):Mr H0 (upd H p o) vs rs/\upd H p o p=some o:=⟨⟨m.same.put (m.same.free n),m.rows.same (Same.new n)⟩,zac⟩
theorem Mr.lst {H0 H:Hp} {vs:List V} {rs:List (List Int)} (m:Mr H0 H vs rs) {o:HO} {p:A3} (n:H p=none):Mr H0 (upd H p o) vs rs:=⟨m.same.put (m.same.free n),m.rows.same (Same.new n)⟩
noncomputable def menuRows:List (List Int) := [[45],[131,133],[193,65],[71,161,99],[77,131,133],[13,49],[153,111,131],[197,131,173,53],[83,125,137,173,243],[185,193,215,87,243],[5],[175,209,67,129,21,229,49,83],[203,243,129,167,153,223,207,243],[197,147,131],[197,131,177],[31,255],[3,3],[119,225,131,109]]
noncomputable def MenuRow (xs:List Int):Prop:=(1<=xs.length/\xs.length<=8)/\∀ x∈xs,x % 2=1/\0<=x/\x < 256
theorem menu_ok {i:Nat} {r:List Int} (h:menuRows[i]?=some r):MenuRow r:=by
 have all:∀ r∈menuRows,(1<=r.length/\r.length<=8)/\∀ x∈r,x % 2=1/\0<=x/\x < 256:=by decide
 exact all r (Bh h)
noncomputable def sp_menu:Sp:=fun vs H Q _=>∃ (k:Int),vs = [.int k]/\∀ p xs H',Same H H'->H' p=some (.tup (xs.map V.int))->MenuRow xs->Q (.ref p) H'
theorem zfY:FnScope ["_law_k","_law_rows"] ["_law_k"] (defScope s_menu):=⟨rfl,rfl,rfl,by decide +kernel,rfl,by decide +kernel,by decide +kernel⟩
theorem ok_menu (D:DefAt K mg "_law_menu" s_menu) (T:Bn mg):Callee P w K mg base "_law_menu" 1 ["_law_k"] sp_menu:=by
 refine D.calleeQ zfY (fun _ _ _ _ _ _=>ln1 fun _=>rfl) (fun vs H Q E h => ?_) (fun f cdv A outer s H vs Q E hr h => ?_)
 ·obtain ⟨k,rfl,_⟩:=h
  rfl
 ·obtain ⟨k,rfl,q⟩:=h
  have S:=zfY
  refine ⟨_,zay (za7 (i:=1) S.nd rfl (Au rfl) (zbd (zae (za8 (zae (qe (zab)) (zaw))) (zae (za8 (zae (qe (zab)) (zae (qe (zab)) (zaw)))) (zae (za8 (zae (qe (zab)) (zae (qe (zab)) (zaw)))) (zae (za8 (zae (qe (zab)) (zae (qe (zab)) (zae (qe (zab)) (zaw))))) (zae (za8 (zae (qe (zab)) (zae (qe (zab)) (zae (qe (zab)) (zaw))))) (zae (za8 (zae (qe (zab)) (zae (qe (zab)) (zaw)))) (zae (za8 (zae (qe (zab)) (zae (qe (zab)) (zae (qe (zab)) (zaw))))) (zaw))))))))))
  (zay (za7 (i:=1) S.nd rfl (Au rfl) (zdo zbU (qe (pv 1)) (zbd (zae (za8 (zae (qe (zab)) (zae (qe (zab)) (zae (qe (zab)) (zae (qe (zab)) (zaw)))))) (zae (za8 (zae (qe (zab)) (zae (qe (zab)) (zae (qe (zab)) (zae (qe (zab)) (zae (qe (zab)) (zaw))))))) (zae (za8 (zae (qe (zab)) (zae (qe (zab)) (zae (qe (zab)) (zae (qe (zab)) (zae (qe (zab)) (zaw))))))) (zae (za8 (zae (qe (zab)) (zaw))) (zaw))))))))
  (zay (za7 (i:=1) S.nd rfl (Au rfl) (zdo zbU (qe (pv 1)) (zbd (zae (za8 (zae (qe (zab)) (zae (qe (zab)) (zae (qe (zab)) (zae (qe (zab)) (zae (qe (zab)) (zae (qe (zab)) (zae (qe (zab)) (zae (qe (zab)) (zaw)))))))))) (zae (za8 (zae (qe (zab)) (zae (qe (zab)) (zae (qe (zab)) (zae (qe (zab)) (zae (qe (zab)) (zae (qe (zab)) (zae (qe (zab)) (zae (qe (zab)) (zaw)))))))))) (zaw))))))
  (zay (za7 (i:=1) S.nd rfl (Au rfl) (zdo zbU (qe (pv 1)) (zbd (zae (za8 (zae (qe (zab)) (zae (qe (zab)) (zae (qe (zab)) (zaw))))) (zae (za8 (zae (qe (zab)) (zae (qe (zab)) (zae (qe (zab)) (zaw))))) (zae (za8 (zae (qe (zab)) (zae (qe (zab)) (zaw)))) (zae (za8 (zae (qe (zab)) (zae (qe (zab)) (zaw)))) (zae (za8 (zae (qe (zab)) (zae (qe (zab)) (zae (qe (zab)) (zae (qe (zab)) (zaw)))))) (zaw)))))))))
  (zeR (zf6 (qe (zaL zaN (pv 1) (zas zaQ (pv 0) (zai zat rfl T.n_len Bz (zaa (pv 1) zad))) (fun _ _=>rfl)))))))),?_⟩
  have M:Mr H H [] []:=⟨Same.refl H,trivial⟩
  refine ⟨bigr rfl,fun a1 na => ?_⟩
  replace M:=M.add [45] na
  clear na
  refine ⟨bigr rfl,fun a2 na => ?_⟩
  replace M:=M.add [131,133] na
  clear na
  refine ⟨bigr rfl,fun a3 na => ?_⟩
  replace M:=M.add [193,65] na
  clear na
  refine ⟨bigr rfl,fun a4 na => ?_⟩
  replace M:=M.add [71,161,99] na
  clear na
  refine ⟨bigr rfl,fun a5 na => ?_⟩
  replace M:=M.add [77,131,133] na
  clear na
  refine ⟨bigr rfl,fun a6 na => ?_⟩
  replace M:=M.add [13,49] na
  clear na
  refine ⟨bigr rfl,fun a7 na => ?_⟩
  replace M:=M.add [153,111,131] na
  clear na
  refine ⟨bigr rfl,fun b0 nb => ?_⟩
  obtain ⟨M,e⟩:=M.lstE (o := .lst [V.ref a1,V.ref a2,V.ref a3,V.ref a4,V.ref a5,V.ref a6,V.ref a7]) nb
  clear nb
  refine ⟨_,rfl,?_⟩
  refine ⟨bigr rfl,fun a8 na => ?_⟩
  replace M:=M.add [197,131,173,53] na
  replace e:=zbf (o := .tup (([197,131,173,53]:List Int).map V.int)) e na
  clear na
  refine ⟨bigr rfl,fun a9 na => ?_⟩
  replace M:=M.add [83,125,137,173,243] na
  replace e:=zbf (o := .tup (([83,125,137,173,243]:List Int).map V.int)) e na
  clear na
  refine ⟨bigr rfl,fun a10 na => ?_⟩
  replace M:=M.add [185,193,215,87,243] na
  replace e:=zbf (o := .tup (([185,193,215,87,243]:List Int).map V.int)) e na
  clear na
  refine ⟨bigr rfl,fun a11 na => ?_⟩
  replace M:=M.add [5] na
  replace e:=zbf (o := .tup (([5]:List Int).map V.int)) e na
  clear na
  refine ⟨bigr rfl,fun b1 nb => ?_⟩
  obtain ⟨M,e2⟩:=M.lstE (o := .lst [V.ref a8,V.ref a9,V.ref a10,V.ref a11]) nb
  replace e:=zbf (o := .lst [V.ref a8,V.ref a9,V.ref a10,V.ref a11]) e nb
  clear nb
  refine ⟨_,_,_,_,rfl,rfl,e,e2,bigr rfl,fun c1 nc => ?_⟩
  obtain ⟨M,e⟩:=M.lstE (o := .lst [V.ref a1,V.ref a2,V.ref a3,V.ref a4,V.ref a5,V.ref a6,V.ref a7,V.ref a8,V.ref a9,V.ref a10,V.ref a11]) nc
  clear nc e2
  refine ⟨_,rfl,?_⟩
  refine ⟨bigr rfl,fun a12 na => ?_⟩
  replace M:=M.add [175,209,67,129,21,229,49,83] na
  replace e:=zbf (o := .tup (([175,209,67,129,21,229,49,83]:List Int).map V.int)) e na
  clear na
  refine ⟨bigr rfl,fun a13 na => ?_⟩
  replace M:=M.add [203,243,129,167,153,223,207,243] na
  replace e:=zbf (o := .tup (([203,243,129,167,153,223,207,243]:List Int).map V.int)) e na
  clear na
  refine ⟨bigr rfl,fun b2 nb => ?_⟩
  obtain ⟨M,e2⟩:=M.lstE (o := .lst [V.ref a12,V.ref a13]) nb
  replace e:=zbf (o := .lst [V.ref a12,V.ref a13]) e nb
  clear nb
  refine ⟨_,_,_,_,rfl,rfl,e,e2,bigr rfl,fun c2 nc => ?_⟩
  obtain ⟨M,e⟩:=M.lstE (o := .lst [V.ref a1,V.ref a2,V.ref a3,V.ref a4,V.ref a5,V.ref a6,V.ref a7,V.ref a8,V.ref a9,V.ref a10,V.ref a11,V.ref a12,V.ref a13]) nc
  clear nc e2
  refine ⟨_,rfl,?_⟩
  refine ⟨bigr rfl,fun a14 na => ?_⟩
  replace M:=M.add [197,147,131] na
  replace e:=zbf (o := .tup (([197,147,131]:List Int).map V.int)) e na
  clear na
  refine ⟨bigr rfl,fun a15 na => ?_⟩
  replace M:=M.add [197,131,177] na
  replace e:=zbf (o := .tup (([197,131,177]:List Int).map V.int)) e na
  clear na
  refine ⟨bigr rfl,fun a16 na => ?_⟩
  replace M:=M.add [31,255] na
  replace e:=zbf (o := .tup (([31,255]:List Int).map V.int)) e na
  clear na
  refine ⟨bigr rfl,fun a17 na => ?_⟩
  replace M:=M.add [3,3] na
  replace e:=zbf (o := .tup (([3,3]:List Int).map V.int)) e na
  clear na
  refine ⟨bigr rfl,fun a18 na => ?_⟩
  replace M:=M.add [119,225,131,109] na
  replace e:=zbf (o := .tup (([119,225,131,109]:List Int).map V.int)) e na
  clear na
  refine ⟨bigr rfl,fun b3 nb => ?_⟩
  obtain ⟨M,e2⟩:=M.lstE (o := .lst [V.ref a14,V.ref a15,V.ref a16,V.ref a17,V.ref a18]) nb
  replace e:=zbf (o := .lst [V.ref a14,V.ref a15,V.ref a16,V.ref a17,V.ref a18]) e nb
  clear nb
  refine ⟨_,_,_,_,rfl,rfl,e,e2,bigr rfl,fun c3 nc => ?_⟩
  obtain ⟨M,e⟩:=M.lstE (o := .lst [V.ref a1,V.ref a2,V.ref a3,V.ref a4,V.ref a5,V.ref a6,V.ref a7,V.ref a8,V.ref a9,V.ref a10,V.ref a11,V.ref a12,V.ref a13,V.ref a14,V.ref a15,V.ref a16,V.ref a17,V.ref a18]) nc
  clear nc e2
  have p18:(0:Int) < 18:=by decide
  have k0:=Dz k (show (18:Int)≠0 by decide)
  have k1:=Da k p18
  have hi:(k % 18).toNat < menuRows.length:=by
   show (k % 18).toNat < 18
   omega
  obtain ⟨p,hp,ht⟩:=Rows.get (rs:=menuRows) M.rows (Aa hi)
  have ek:(((k % 18).toNat:Nat):Int)=k % 18:=by omega
  refine ⟨_,rfl,_,rfl,_,rfl,_,_,rfl,.inl (SqL.of e),_,_,rfl,rfl,p18,_,_,_,_,rfl,rfl,SqL.of e,?_,q p _ _ M.same ht (menu_ok (Aa hi))⟩
  show atI _ (k % 18)=_
  rw [<- ek]
  exact zax hp
theorem p3:(0:Int) < 3:=by decide
theorem p14:(0:Int) < 14:=by decide
theorem p42:(0:Int) < 42:=by decide
theorem zha:(0:Int) < 128:=by decide
noncomputable def manyL:List Int := [2,3,1,2,4,3,1,5,2,0,8,7,6,1]
theorem manyL_at {k:Int} (h0:0<=k) (h1:k < 14):∃ m:Int,atI (manyL.map V.int) k=some (V.int m)/\0<=m/\m<=8:=by
 refine ⟨_,zfK h0 (by show k < 14; exact h1),?_⟩
 have all:∀ x∈manyL,0<=x/\x<=8:=by decide
 refine all _ ?_
 have hk:k.toNat < manyL.length:=by show k.toNat < 14; omega
 rw [Aj,Aa hk]
 exact Cr hk
theorem base_at {k:Int} (h0:0<=k) (h1:k < 2):∃ b:Int,atI [V.int 26,V.int 2] k=some (V.int b)/\(b=26\/b=2):=by
 rcases (by omega:k=0\/k=1) with h | h <;> subst h
 ·exact ⟨26,rfl,.inl rfl⟩
 ·exact ⟨2,rfl,.inr rfl⟩
noncomputable def bitOf (b:Int) (v:V):Bool:=match v with
 | .int t=>decide (Dp (b / 2 ^ t.toNat) 1=1)
 | _=>false
noncomputable def sp_combs (K:Al):Sp:=fun vs H Q _=>∃ (a:A3) (ns:List Int),vs = [.ref a]/\SqL K H a (ns.map V.int)/\∀ p ks vs H',Same H H'->H p=none->H' p=some (.lst vs)->Drawn (fun _=>True) H' vs ks->ks.length<=8->Q (.ref p) H'
theorem zfn:FnScope ["_law_script","_law_head","_law_menu_here","_law_many","_law_found","_law_used","_law_k","_law_cell","_law_bits","_law_word_here"] ["_law_script"] (defScope s_combs):=⟨rfl,rfl,rfl,by decide +kernel,rfl,by decide +kernel,by decide +kernel⟩
theorem ok_combs (D:DefAt K mg "_law_combs" s_combs) (T:Bn mg) (C_at:Callee P w K mg base "_law_at" 1 ["_law_script","_law_k"] (sp_at K)) (C_mixed:Callee P w K mg base "_law_mixed" 1 ["_law_cell","_law_k"] sp_mixed) (C_word:Callee P w K mg base "_law_word" 1 ["_law_cell","_law_base"] sp_word)
  (C_spare:Callee P w K mg base "_law_spare" 1 ["_law_word_here","_law_used"] (sp_spare K)) (C_menu:Callee P w K mg base "_law_menu" 1 ["_law_k"] sp_menu):Callee P w K mg base "_law_combs" 2 ["_law_script"] (sp_combs K):=by
 refine D.calleeQ zfn (fun _ _ _ _ _ _=>ln1 fun _=>rfl) (fun vs H Q E h => ?_) (fun f cdv A outer s H vs Q E hr h => ?_)
 ·obtain ⟨a,ns,rfl,_⟩:=h
  rfl
 ·obtain ⟨a,ns,rfl,hS,q⟩:=h
  have S:=zfn
  refine ⟨_,zay (za7 (i:=1) S.nd rfl (Au rfl) (qe (zaJ C_at (hr.mono (by decide)) rfl (zaa (pv 0) (zaa (zab) zad)))))
  (zay (za7 (i:=2) S.nd rfl (Au rfl) (qe (zaJ C_menu (hr.mono (by decide)) rfl (zaa (zaJ C_at (hr.mono (by decide)) rfl (zaa (pv 0) (zaa (zab) zad))) zad))))
  (zay (za7 (i:=3) S.nd rfl (Au rfl) (qe_ix zaN (zbd (zae (qe (zab)) (zae (qe (zab)) (zae (qe (zab)) (zae (qe (zab)) (zae (qe (zab)) (zae (qe (zab)) (zae (qe (zab)) (zae (qe (zab)) (zae (qe (zab)) (zae (qe (zab)) (zae (qe (zab)) (zae (qe (zab)) (zae (qe (zab)) (zae (qe (zab)) (zaw)))))))))))))))) (qe (zas zaQ (zas zbh (pv 1) (zab)) (zab))) (fun _ _=>rfl)))
  (qss_cut (qs (zaF (zao zcA (zas zaQ (pv 1) (zab)) (zab) (zav _))
   (zag (zaq (i:=3) S.nd rfl (Au rfl) (zai zat rfl T.n_len Bz (zaa (pv 2) zad))))
   (zam)))
  (zay (za7 (i:=4) S.nd rfl (Au rfl) (zbd (zaw)))
  (zay (za7 (i:=5) S.nd rfl (Au rfl) (zbd (zaw)))
  (zay (qs (zbe C2 rfl (zbm rfl T.n_range (zaa (pv 3) zad)) (zan (i:=6) S.nd rfl (Au rfl))
   (zaf (zaq (i:=7) S.nd rfl (Au rfl) (zaJ C_at (hr.mono (by decide)) rfl (zaa (pv 0) (zaa (zas zbv (zab) (pv 6)) zad))))
   (zbQ (zaF (zao zgh (zas zaQ (pv 1) (zab)) (zab) (zav _))
    (zag (zaq (i:=7) S.nd rfl (Au rfl) (zaJ C_mixed (hr.mono (by decide)) rfl (zaa (pv 7) (zaa (pv 6) zad)))))
    (zam))
   (zaf (zaq (i:=8) S.nd rfl (Fe rfl) (zas zbv (zas zdG (zas zaQ (pv 7) (zab)) (zab)) (zab)))
   (zbQ (zaF (zao zcA (zas zaQ (pv 1) (zab)) (zab) (zav _))
    (zag (zaq (i:=8) S.nd rfl (Fe rfl) (zaL za9 (pv 2) (pv 6) (fun _ _=>rfl))))
    (zam))
   (zaf (zaq (i:=9) S.nd rfl (Au rfl) (zaJ C_spare (hr.mono (by decide)) rfl (zaa (zaJ C_word (hr.mono (by decide)) rfl (zaa (zas zbh (pv 7) (zab)) (zaa (zaL zaN (za4 (zaa (zab) (zaa (zab) zad))) (zas zaQ (zas zbh (pv 1) (zab)) (zab)) (fun _ _=>rfl)) zad))) (zaa (pv 5) zad))))
   (zaf (za5 (zdp Bu C9 C8 zaV (pv 5) (zaa (pv 9) zad)))
   (zag (za5 (zdp Bu C9 C8 zaV (pv 4) (zaa (za4 (zaa (pv 9) (zaa (za6 (own := ["_law_t"]) (caps := [(8,"_law_bits")]) rfl ⟨rfl,rfl,rfl,rfl,⟨⟨rfl,rfl,.inl rfl⟩,trivial⟩⟩ (zbm rfl T.n_range (zaa (zab) zad)) (fun _ _ _ _ _ _=>zan (i:=0) (zaU (by decide +kernel)) rfl (Au rfl)) (fun _ _ _ _ _ _=>zcz (zao zcA (zas zg0 (zas op_shr (pv 1) (pv 0)) (zab)) (zab) (zav _))) (fun _ _ _ _ _ _=>pv 0)) zad))) zad))))))))))))
  (zeR (zf6 (qe (pv 4)))))))))),?_⟩
  refine ⟨_,rfl,a,ns,0,rfl,hS,by decide,?_⟩
  generalize ns.getD (Int.toNat 0) 0=head
  refine ⟨_,rfl,a,ns,1,rfl,hS,by decide,_,rfl,fun pm xs H1 s1 em hm => ?_⟩
  obtain ⟨m,hma,hm0,hm8⟩:=manyL_at (k:=head / 3 % 14) (Int.emod_nonneg _ (by decide)) (Int.emod_lt_of_pos _ p14)
  refine ⟨bigr rfl,fun b nb=>⟨_,rfl,_,_,rfl,rfl,⟨p3,by decide⟩,_,_,rfl,rfl,p14,_,_,_,_,rfl,rfl,SqL.of zac,hma,?_⟩⟩
  have s2:Same H (upd H1 b (.lst (manyL.map V.int))):=s1.put (s1.free nb)
  have em2:upd H1 b (.lst (manyL.map V.int)) pm=some (.tup (xs.map V.int)):=by rw [zah (zal em nb)]; exact em
  refine ⟨fun σ H'=>Same H H'/\H' pm=some (.tup (xs.map V.int))/\∃ m:Int,σ = [some (.ref a),some (.int head),some (.ref pm),some (.int m),none,none,none,none,none,none]/\0<=m/\m<=8/\(head % 3=2->m=xs.length),?_,?_⟩
  ·refine ⟨_,rfl,_,_,rfl,rfl,p3,rfl,_,rfl,?_⟩
   refine ite2 (fun hc => ?_) (fun hc => ?_)
   ·refine ⟨_,rfl,_,_,rfl,.inr (SqT.of em2),?_⟩
    rw [A5]
    exact ⟨s2,em2,_,rfl,by omega,by have:=hm.1.2; omega,fun _=>rfl⟩
   ·have hc:¬ head % 3=2:=by simpa using hc
    exact ⟨s2,em2,_,rfl,hm0,hm8,fun z=>absurd z hc⟩
  clear s2 em2 hma hm0 hm8 nb b m s1 em H1
  rintro σ H1 ⟨s1,em,m,rfl,hm0,hm8,hm2⟩
  refine ⟨bigr rfl,fun pf nf => ?_⟩
  refine ⟨bigr rfl,fun pu nu => ?_⟩
  have nfu:pf≠pu:=fun z=>by rw [<- z,zac] at nu; cases nu
  have fH:H pf=none:=s1.free nf
  have s2:=(s1.put (o := .lst []) fH)
  have uH:H pu=none:=s2.free nu
  have s3:=s2.put (o := .lst []) uH
  have em3:upd (upd H1 pf (.lst [])) pu (.lst []) pm=some (.tup (xs.map V.int)):=by
   rw [zah (zal (by rw [zah (zal em nf)]; exact em) nu),zah (zal em nf)]; exact em
  refine ⟨_,rfl,_,rfl,by omega,by omega,?_⟩
  refine zb7 (zaX 0 m.toNat) (fun i σ H'=>Same H H'/\H' pm=some (.tup (xs.map V.int))/\∃ (vs:List V) (ks:List (Str×List Int)) (x6 x7 x8 x9:Option V),σ = [some (.ref a),some (.int head),some (.ref pm),some (.int m),some (.ref pf),some (.ref pu),x6,x7,x8,x9] /\
   H' pf=some (.lst vs)/\H' pu=some (.lst ((ks.map (·.1)).map V.str))/\Drawn (fun x=>x≠pf/\x≠pu) H' vs ks/\ks.length=i) ⟨s3,em3,[],[],_,_,_,_,rfl,by rw [zah nfu,zac],by rw [zac]; rfl,⟨trivial,E8,by simp⟩,rfl⟩ (fun _ _ _ _ _=>trivial) ?_ ?_
  ·rintro i x σ H2 hx ⟨s2,em2,vs,ks,x6,x7,x8,x9,rfl,ef,eu,dr,hl⟩
   obtain ⟨hi,rfl⟩:=zbP hx
   have hi8:i < 8:=by omega
   have hS2:=s2.seq hS
   refine ⟨_,rfl,_,rfl,_,_,rfl,rfl,a,ns,_,rfl,hS2,?_,?_⟩
   ·show (0:Int)<=1 + (0 + ((i:Nat):Int))
    omega
   generalize ns.getD (1 + (0 + ((i:Nat):Int))).toNat 0=cell0
   refine ⟨fun σ H'=>H'=H2/\∃ (c:Int),σ = [some (.ref a),some (.int head),some (.ref pm),some (.int m),some (.ref pf),some (.ref pu),some (.int (0 + ((i:Nat):Int))),some (.int c),x8,x9],?_,?_⟩
   ·refine ⟨_,rfl,_,_,rfl,rfl,p3,_,_,rfl,rfl,_,rfl,?_⟩
    refine ite2 (fun _ => ?_) (fun _ => ?_)
    ·exact ⟨_,rfl,_,rfl,_,_,rfl,rfl,_,rfl⟩
    ·exact ⟨rfl,_,rfl⟩
   rintro σ H3 ⟨rfl,c,rfl⟩
   have c0:=Dz c (show (128:Int)≠0 by decide)
   have c1:=Da c zha
   refine ⟨_,rfl,_,_,rfl,rfl,zha,_,_,rfl,rfl,.inr ⟨by decide,by decide⟩,_,_,rfl,rfl,?_⟩
   refine ⟨fun σ H'=>H'=H3/\∃ (bt:Int),σ = [some (.ref a),some (.int head),some (.ref pm),some (.int m),some (.ref pf),some (.ref pu),some (.int (0 + ((i:Nat):Int))),some (.int c),some (.int bt),x9]/\bt % 2=1/\0<=bt,?_,?_⟩
   ·refine ⟨_,rfl,_,_,rfl,rfl,p3,rfl,_,rfl,?_⟩
    refine ite2 (fun hc => ?_) (fun hc => ?_)
    ·have hc:head % 3=2:=by simpa using hc
     have hix:i < xs.length:=by have:=hm2 hc; omega
     have hat:atI (xs.map V.int) (0 + ((i:Nat):Int))=some (V.int xs[i]):=by
      rw [Eo]
      refine zax ?_
      rw [Ai,Aa hix]
      rfl
     have:=hm.2 xs[i] (Cr hix)
     exact ⟨_,rfl,_,rfl,_,_,_,_,rfl,rfl,SqT.of em2,hat,rfl,_,rfl,this.1,this.2.1⟩
    ·exact ⟨rfl,_,rfl,by omega,by omega⟩
   rintro σ H4 ⟨rfl,bt,rfl,hb1,hb0⟩
   obtain ⟨bs,hbs,hb2⟩:=base_at (k:=head / 42 % 2) (Int.emod_nonneg _ (by decide)) (Int.emod_lt_of_pos _ p2)
   refine ⟨_,rfl,_,_,rfl,rfl,⟨zha,by decide⟩,bigr rfl,fun b nb=>⟨_,rfl,_,_,rfl,rfl,⟨p42,by decide⟩,_,_,rfl,rfl,p2,_,_,_,_,rfl,rfl,SqL.of zac,hbs,_,_,rfl,hb2,fun y hy => ?_⟩⟩
   have s4:=s2.put (o := .lst [V.int 26,V.int 2]) (s2.free nb)
   have t4:Same H4 (upd H4 b (.lst [V.int 26,V.int 2])):=Same.new nb
   have eu4:=t4 _ _ eu
   refine ⟨_,rfl,y,pu,ks.map (·.1),rfl,hy,SqL.of eu4,by rw [A5]; omega,fun z H5 s5 hz hzn => ?_⟩
   have s5H:=s4.trans s5
   have t5:=t4.trans s5
   have eu5:=t5 _ _ eu
   have ef5:=t5 _ _ ef
   have em5:=t5 _ _ em2
   have dr5:=dr.same t5
   refine ⟨_,rfl,.inl ⟨rfl,_,SqL.of eu5⟩,_,rfl,_,_,_,rfl,rfl,eu5,?_,?_⟩
   ·rw [A5,A5]
    exact Af (by omega:ks.length < 1000) za0
   have s6:=s5H.put (o := .lst ((ks.map (·.1)).map V.str ++ [V.str z])) uH
   have dr6:Drawn (fun x=>x≠pf/\x≠pu) (upd H5 pu (.lst ((ks.map (·.1)).map V.str ++ [V.str z]))) vs ks:=dr5.upd fun z=>z.2 rfl
   have em6:upd H5 pu (.lst ((ks.map (·.1)).map V.str ++ [V.str z])) pm=some (.tup (xs.map V.int)):=by
    rw [zah (fun w=>by rw [w,eu5] at em5; cases em5)]; exact em5
   have ef6:upd H5 pu (.lst ((ks.map (·.1)).map V.str ++ [V.str z])) pf=some (.lst vs):=by rw [zah nfu]; exact ef5
   have eu6:upd H5 pu (.lst ((ks.map (·.1)).map V.str ++ [V.str z])) pu=some (.lst ((ks.map (·.1)).map V.str ++ [V.str z])):=zac
   generalize upd H5 pu (.lst ((ks.map (·.1)).map V.str ++ [V.str z]))=H6 at s6 dr6 em6 ef6 eu6
   refine ⟨_,rfl,.inl ⟨rfl,_,SqL.of ef6⟩,_,rfl,_,rfl,by decide,by decide,fun Dc hD => ?_⟩
   refine zbW (capv := [some (.int bt)]) (by rfl) (zaX 0 (8:Int).toNat) (bigr rfl) hD ?_ (bitOf bt) (fun v=>v) ?_ ?_ ?_
   ·exact fun _ _=>trivial
   ·intro v hv H' R s' h
    obtain ⟨t,ht,rfl⟩:=Ab.mp hv
    refine ⟨_,rfl,_,rfl,_,_,rfl,rfl,?_,_,_,rfl,rfl,rfl,_,rfl,?_⟩
    ·show (0:Int)<=0 + ((t:Nat):Int)
     omega
    rw [dec_ii]
    exact h H' (Same.refl _)
   ·intro v hv hp H' R s' h
    exact ⟨_,rfl,h H' (Same.refl _)⟩
   intro H7 s7 e7
   have ets:(((((Ac (8:Int).toNat).map fun i=>V.int (0 + ((i:Nat):Int))).filter (bitOf bt)).map fun v=>v))=(((Ac 8).filter fun i=>bitOf bt (.int (0 + ((i:Nat):Int)))).map fun i=>((i:Nat):Int)).map V.int:=by
    rw [M2,Ir,Be]
    show Jt _ (List.filter _ (Ac 8))=_
    congr 1
    funext i
    show V.int (0 + ((i:Nat):Int))=V.int ((i:Nat):Int)
    rw [Eo]
   have gt:GT (((Ac 8).filter fun i=>bitOf bt (.int (0 + ((i:Nat):Int)))).map fun i=>((i:Nat):Int)):=by
    refine ⟨_,rfl,?_⟩
    show decide (Dp (bt / 2 ^ (0 + ((0:Nat):Int)).toNat) 1=1)=true
    rw [bitAnd_m1]
    apply decide_eq_true
    show bt / 1 % 2=1
    rw [Int.ediv_one]
    exact hb1
   rw [ets] at e7
   generalize (((Ac 8).filter fun i=>bitOf bt (.int (0 + ((i:Nat):Int)))).map fun i=>((i:Nat):Int))=ts at e7 gt
   refine ⟨bigr rfl,fun q' nq => ?_⟩
   have t7:Same H6 H7:=s7
   have n7:∀ {x o},H6 x=some o->x≠Dc:=fun e z=>by rw [z,hD] at e; cases e
   have n8:∀ {x o},H7 x=some o->x≠q':=fun e z=>by rw [z,nq] at e; cases e
   have ef8:upd H7 q' (.lst [V.str z,V.ref Dc]) pf=some (.lst vs):=by rw [zah (n8 (t7 _ _ ef6))]; exact t7 _ _ ef6
   refine ⟨_,_,_,rfl,rfl,ef8,?_,?_⟩
   ·rw [dr6.rows.length]
    exact Af (by omega:ks.length < 1000) za0
   have s8:=((s6.trans s7).put (o := .lst [V.str z,V.ref Dc]) ((s6.trans s7).free nq)).put (o := .lst (vs ++ [V.ref q'])) fH
   have fq:q'≠pf:=(n8 (t7 _ _ ef6)).symm
   have uq:q'≠pu:=(n8 (t7 _ _ eu6)).symm
   refine ⟨s8,?_,vs ++ [.ref q'],ks ++ [(z,ts)],_,_,_,_,rfl,zac,?_,?_,by rw [Ah,hl]; rfl⟩
   ·have fm:pm≠pf:=fun w=>by rw [w,ef6] at em6; cases em6
    rw [zah fm,zah (n8 (t7 _ _ em6))]
    exact t7 _ _ em6
   ·rw [zah nfu.symm,zah (n8 (t7 _ _ eu6)),t7 _ _ eu6,Bi,Bi]
    rfl
   ·refine Drawn.snoc (q:=q') (t:=Dc) (((dr6.same t7).same (Same.new nq)).upd fun w=>w.1 rfl) ?_ ?_ ⟨fq,uq⟩ ⟨(n7 ef6).symm,(n7 eu6).symm⟩ hzn ⟨hz,gt⟩
    ·rw [zah fq,zac]
    ·rw [zah (n7 ef6).symm,zah (n8 e7)]
     exact e7
  ·rintro σ H2 ⟨s2,em2,vs,ks,x6,x7,x8,x9,rfl,ef,eu,dr,hl⟩
   rw [A5,Ax] at hl
   exact ⟨_,rfl,q pf ks vs H2 s2 fH ef dr.any (by omega)⟩
noncomputable def sp_turned:Sp:=fun vs H Q _=>∃ (k:A3) (ws:List V) (ks:Combs),vs = [.ref k]/\H k=some (.lst ws)/\KindsL (fun _=>True) H ws ks/\GC ks/\ks.length<=8/\∀ r wr H',Same H H'->H' r=some (.lst wr)->KindsL (fun _=>True) H' wr (turnC ks)->Q (.ref r) H'
theorem zec:FnScope ["_law_kinds","_law_found","_law_word_here","_law_teeth_here"] ["_law_kinds"] (defScope s_turned):=⟨rfl,rfl,rfl,by decide +kernel,rfl,by decide +kernel,by decide +kernel⟩
theorem ok_turned (D:DefAt K mg "_law_turned" s_turned) (T:Bn mg):Callee P w K mg base "_law_turned" 1 ["_law_kinds"] sp_turned:=by
 refine D.callee zec (fun _ _ _ _ _ _=>ln1 fun _=>rfl) (fun vs H Q E h => ?_) (fun f cdv A outer s H vs Q E hr h => ?_)
 ·obtain ⟨k,ws,ks,rfl,_⟩:=h
  rfl
 ·obtain ⟨k,ws,ks,rfl,hk,kr,gc,h8,q⟩:=h
  have S:=zec
  have hlk:=kr.length
  refine ⟨_,zaf (zaq (i:=1) S.nd rfl (Au rfl) (za4 (zad)))
  (zaf (zbe C2 rfl (zaI (pv 0)) (zfr rfl (zaE (zan (i:=2) S.nd rfl (Au rfl)) (zaE (zan (i:=3) S.nd rfl (Fe rfl)) (zbE))))
   (zag (za5 (zdp Bu C9 C8 zaV (pv 1) (zaa (za4 (zaa (pv 2) (zaa (zai zbX rfl T.n_sorted Jr (zaa (za6 (own := ["_law_t"]) (caps := [(3,"_law_teeth_here")]) rfl ⟨rfl,rfl,rfl,rfl,⟨⟨rfl,rfl,.inl rfl⟩,trivial⟩⟩ (zaI (pv 3)) (fun _ _ _ _ _ _=>zan (i:=0) (zaU (by decide +kernel)) rfl (Au rfl)) (fun _ _ _ _ _ _=>zby) (fun _ _ _ _ _ _=>zas zdF (zai (call_max1' K rfl rfl) rfl T.n_max boot_max (zaa (pv 1) zad)) (pv 0))) zad)) zad))) zad)))))
  (zag (zaj (pv 1)))),?_⟩
  refine ⟨bigr rfl,fun r nr => ?_⟩
  have s1:Same H (upd H r (.lst [])):=Same.new nr
  refine ⟨_,rfl,_,rfl,⟨_,SqL.of (s1 _ _ hk)⟩,?_⟩
  refine zb7 (zar K k ws) (fun i σ Hx=>Same H Hx/\∃ wr x2 x3,σ = [some (.ref k),some (.ref r),x2,x3]/\Hx r=some (.lst wr)/\wr.length=i/\KindsL (fun z=>z≠r) Hx wr (turnC (ks.take i))) ⟨s1,[],_,_,rfl,zac,rfl,trivial⟩ (fun i σ Hx _ h=>SqL.of (h.1 _ _ hk)) ?_ ?_
  ·rintro i x σ Hx hx ⟨sx,wr,x2,x3,rfl,hrx,hwl,kx⟩
   obtain ⟨c,qc,tc,hc,rfl,hqc,htc⟩:=kr.get hx
   have gt:=gc c (Bh hc)
   have hil:i < ks.length:=(Av.mp hc).1
   obtain ⟨m1,m2,m3,m4⟩:=zc4 gt
   have ht8:=zgv gt
   refine ⟨qc,_,rfl,SqL.of (sx _ _ hqc),rfl,_,_,rfl,_,_,rfl,rfl,?_⟩
   refine ⟨_,rfl,.inl ⟨rfl,_,SqL.of hrx⟩,_,rfl,_,rfl,_,rfl,⟨_,SqL.of (sx _ _ htc)⟩,fun D hD => ?_⟩
   refine zbW (capv := [some (.ref tc)]) (by rfl) (zar K tc (c.2.map V.int)) (by rw [A5]; exact big (by omega)) hD (fun H' s'=>SqL.of (s' _ _ (sx _ _ htc))) (fun _=>true) (fun v=>match v with | .int t => .int (mxT c.2 - t) | _ => .non) ?_ ?_ ?_
   ·intro x hx H' R s' h
    exact h H' (Same.refl _)
   ·intro x hx _ H' R s' h
    obtain ⟨t,ht,rfl⟩:=Ab.mp hx
    refine ⟨_,rfl,tc,c.2,rfl,SqL.of (s' _ _ (sx _ _ htc)),Ib ht,fun M hM hMx=>⟨_,rfl,_,_,rfl,rfl,?_⟩⟩
    have e1:=hMx _ m1
    have e2:=m2 _ hM
    have:M=mxT c.2:=by omega
    subst this
    exact h H' (Same.refl _)
   intro H2 s2 e2
   refine ⟨D,c.2.map fun t=>mxT c.2 - t,rfl,SqL.of ?_,by rw [A5]; omega,fun p ns' np pp pw => ?_⟩
   ·rw [e2,Co.mpr (fun _ _=>rfl),Be,Be]
    rfl
   have et:ns'=turnT c.2:=by
    refine zcT pp pw ?_ fun t ht => ?_
    ·rw [Qa,C4]
     exact (zaT (zd1 gt)).imp fun h e=>h (by omega)
    ·obtain ⟨u,hu,rfl⟩:=Ab.mp ht
     have:=m2 _ hu
     have:=zbV gt _ hu
     omega
   subst et
   have s3:Same H2 (upd H2 p (.lst ((turnT c.2).map V.int))):=Same.new np
   have hp3:upd H2 p (.lst ((turnT c.2).map V.int)) p=some (.lst ((turnT c.2).map V.int)):=zac
   have np2:=s2.free np
   have s23:=s2.trans s3
   generalize upd H2 p (.lst ((turnT c.2).map V.int))=H3 at s23 hp3 ⊢
   refine ⟨bigr rfl,fun e ne => ?_⟩
   have s4:Same H3 (upd H3 e (.lst [.str c.1,.ref p])):=Same.new ne
   have he4:upd H3 e (.lst [.str c.1,.ref p]) e=some (.lst [.str c.1,.ref p]):=zac
   have ne2:=s23.free ne
   have hp4:=s4 _ _ hp3
   have s24:=s23.trans s4
   generalize upd H3 e (.lst [.str c.1,.ref p])=H4 at s24 he4 hp4 ⊢
   have hr4:=s24 _ _ hrx
   have hpr:p≠r:=fun z=>by rw [z,hrx] at np2; cases np2
   have her:e≠r:=fun z=>by rw [z,hrx] at ne2; cases ne2
   refine ⟨r,_,_,rfl,rfl,hr4,Af (by omega:wr.length < 1000) za0,?_⟩
   refine ⟨(sx.trans s24).put nr,_,_,_,rfl,zac,by rw [Ah,hwl]; rfl,?_⟩
   have ek:turnC (ks.take (i + 1))=turnC (ks.take i) ++ [(c.1,turnT c.2)]:=by
    unfold turnC
    rw [zaG hc,Bi]
    rfl
   rw [ek]
   exact KindsL.snoc (G:=fun z=>z≠r) (k:=(c.1,turnT c.2)) (q:=e) (t:=p) (by rw [zah her]; exact he4) (by rw [zah hpr]; exact hp4) her hpr (kx.mono (fun z o hz ez=>by rw [zah hz]; exact s24 _ _ ez) fun _ z=>z)
  ·rintro σ Hx ⟨sx,wr,x2,x3,rfl,hrx,_,kx⟩
   rw [hlk,Ci] at kx
   exact ⟨_,rfl,q r wr Hx sx hrx (kx.mono (fun _ _ _ e=>e) fun _ _=>trivial)⟩
noncomputable def posV (v:V):Bool:=match v with
 | .int t=>decide (0 < t)
 | _=>false
noncomputable def decV (v:V):V:=match v with
 | .int t => .int (t - 1)
 | _ => .non
noncomputable def sp_after (K:Al):Sp:=fun vs H Q _=>∃ (a t:A3) (ah ts:List Int),vs = [.ref a,.ref t]/\SqT K H a (ah.map V.int)/\H t=some (.lst (ts.map V.int))/\ah.Nodup/\(∀ d∈ah,0<=d/\d<=6)/\ts.Nodup/\(∀ d∈ts,0<=d/\d<=7) /\
 (if meets ah ts=true then Q .non H else ∀ p H',Same H H'->H p=none->H' p=some (.tup ((afterOf ah ts).map V.int))->Q (.ref p) H')
theorem zfp:FnScope ["_law_ahead","_law_teeth_here","_law_t"] ["_law_ahead","_law_teeth_here"] (defScope s_after):=⟨rfl,rfl,rfl,by decide +kernel,rfl,by decide +kernel,by decide +kernel⟩
theorem ok_after (D:DefAt K mg "_law_after" s_after) (T:Bn mg):Callee P w K mg base "_law_after" 1 ["_law_ahead","_law_teeth_here"] (sp_after K):=by
 refine D.callee zfp (fun _ _ _ _ _ _=>ln2 fun _ _=>rfl) (fun vs H Q E h => ?_) (fun f cdv A outer s H vs Q E hr h => ?_)
 ·obtain ⟨a,t,ah,ts,rfl,_⟩:=h
  rfl
 ·obtain ⟨a,t,ah,ts,rfl,ha,ht,an,ar,tn,tr,q⟩:=h
  have S:=zfp
  have hal:ah.length<=8:=zcY an fun d hd=>by have:=ar d hd; omega
  have htl:ts.length<=8:=zcY tn tr
  refine ⟨_,zaf (zbe C2 rfl (zaI (pv 1)) (zan (i:=2) S.nd rfl (Au rfl))
   (zag (zaF (zao zep (pv 2) (pv 0) (by with_unfolding_all rfl))
    (zag (zaj (zgW)))
    (zam))))
  (zag (zaj (zbn zct rfl T.n_tuple M8 (zaa (za6 (own := ["_law_d"]) (caps := []) rfl ⟨rfl,rfl,rfl,rfl,trivial⟩ (zaI (zai zbX rfl T.n_sorted Jr (zaa (zas zbU (zbn zbY rfl T.n_list L7 (zaa (pv 0) zad)) (pv 1)) zad))) (fun _ _ _ _ _ _=>zan (i:=0) (zaU (by decide +kernel)) rfl (Au rfl)) (fun _ _ _ _ _ _=>zcz (zao zgh (pv 0) (zab) (zav _))) (fun _ _ _ _ _ _=>zas zdF (pv 0) (zab))) zad)))),?_⟩
  refine ⟨_,rfl,_,rfl,⟨_,SqL.of ht⟩,?_⟩
  refine zb7 (zar K t (ts.map V.int)) (fun i σ Hx=>Hx=H/\meets ah (ts.take i)=false/\∃ x2,σ = [some (.ref a),some (.ref t),x2]) ⟨rfl,rfl,_,rfl⟩ (fun i σ Hx _ h=>by rw [h.1]; exact SqL.of ht) ?_ ?_
  ·rintro i x σ Hx hx ⟨rfl,hm,x2,rfl⟩
   rw [Ai] at hx
   cases hk:ts[i]? with
   | none=>rw [hk] at hx; cases hx
   | some y =>
    rw [hk] at hx
    cases hx
    refine ⟨_,rfl,_,rfl,_,_,rfl,.inr ha,rfl,zhe ah,_,rfl,?_⟩
    rw [if_neg (by decide),zgr]
    refine ite2 (fun hc => ?_) (fun hc => ?_)
    ·have hc:y∈ah:=by simpa using hc
     have:meets ah ts=true:=by
      unfold meets
      exact Bs.mpr ⟨y,Bh hk,decide_eq_true hc⟩
     rw [if_pos this] at q
     exact q
    ·have hc:y ∉ ah:=by simpa using hc
     refine ⟨rfl,?_,_,rfl⟩
     rw [zaG hk]
     rw [meets_false] at hm ⊢
     intro z hz
     rcases Ao.mp hz with h | h
     ·exact hm z h
     ·rw [A6.mp h]; exact hc
  ·rintro σ Hx ⟨rfl,hm,x2,rfl⟩
   rw [A5,Ci] at hm
   rw [if_neg (by rw [hm]; decide)] at q
   refine ⟨_,rfl,a,_,rfl,.inr ha,fun p np=>⟨_,rfl,p,t,_,ts.map V.int,rfl,rfl,zac,?_,?_,fun p2 np2 => ?_⟩⟩
   ·rw [zah (zal ht np)]; exact ht
   ·rw [A5,A5]
    exact Fw (Af (by omega:ah.length + ts.length < 1000) za0)
   refine ⟨p2,ah ++ ts,rfl,SqL.of (by rw [Bi]; exact zac),by rw [Ah]; omega,fun p3 ns np3 hp hs => ?_⟩
   have hc:=after_canon an ar tn tr hm hp hs
   have s1:Same Hx (upd Hx p (.lst (ah.map V.int))):=Same.new np
   have s2:=s1.trans (Same.new (o := .lst (ah.map V.int ++ ts.map V.int)) np2)
   have s3:=s2.trans (Same.new (o := .lst (ns.map V.int)) np3)
   refine ⟨_,rfl,⟨_,SqL.of zac⟩,fun Dc hD => ?_⟩
   have hnl:ns.length<=1000:=by
    have:=hp.length_eq
    rw [Ah] at this
    omega
   refine zbW (capv := []) (L:=ns.map V.int) (by rfl) (zar K p3 (ns.map V.int)) (by rw [A5]; exact big hnl) hD (fun H' s'=>SqL.of (s' _ _ zac)) posV decV ?_ ?_ ?_
   ·intro v hv H' R s' h
    obtain ⟨d,hd,rfl⟩:=Ab.mp hv
    exact ⟨_,rfl,_,_,rfl,rfl,_,rfl,h H' (Same.refl _)⟩
   ·intro v hv _ H' R s' h
    obtain ⟨d,hd,rfl⟩:=Ab.mp hv
    exact ⟨_,rfl,_,_,rfl,rfl,h H' (Same.refl _)⟩
   ·intro H7 s7 e7
    have ets:(((ns.map V.int).filter posV).map decV)=(afterOf ah ts).map V.int:=by
     unfold afterOf
     rw [<- hc,Ir,Be,Be]
     rfl
    rw [ets] at e7
    have s07:=s3.trans s7
    exact ⟨_,_,rfl,.inl ⟨SqL.of e7,fun l nl=>q l _ (s07.put (s07.free nl)) (s07.free nl) zac⟩⟩
noncomputable def sp_goes (K:Al):Sp:=fun vs H Q _=>∃ (k a:A3) (ws:List V) (ks:Combs) (ah:List Int),vs = [.ref k,.ref a]/\H k=some (.lst ws)/\KindsL (fun _=>True) H ws ks/\ks.length<=100/\(∀ c∈ks,GT c.2)/\SqT K H a (ah.map V.int)/\ah.Nodup/\(∀ d∈ah,0<=d/\d<=6) /\
 ∀ p H' vs',Same H H'->H p=none->H' p=some (.lst vs')->GoesR H' vs' (goesOf ks ah)->Q (.ref p) H'
theorem zf1:FnScope ["_law_kinds","_law_ahead","_law_found","_law_word_here","_law_teeth_here","_law_further"] ["_law_kinds","_law_ahead"] (defScope s_goes):=⟨rfl,rfl,rfl,by decide +kernel,rfl,by decide +kernel,by decide +kernel⟩
theorem ok_goes (D:DefAt K mg "_law_goes" s_goes) (T:Bn mg) (C_after:Callee P w K mg base "_law_after" 1 ["_law_ahead","_law_teeth_here"] (sp_after K)):Callee P w K mg base "_law_goes" 2 ["_law_kinds","_law_ahead"] (sp_goes K):=by
 refine D.callee zf1 (fun _ _ _ _ _ _=>ln2 fun _ _=>rfl) (fun vs H Q E h => ?_) (fun f cdv A outer s H vs Q E hr h => ?_)
 ·obtain ⟨k,a,ws,ks,ah,rfl,_⟩:=h
  rfl
 ·obtain ⟨k,a,ws,ks,ah,rfl,hk,kr,hkl,hg,ha,an,ar,q⟩:=h
  have S:=zf1
  have hlen:=kr.length
  refine ⟨_,zaf (zaF (zao zep (zab) (pv 1) (by with_unfolding_all rfl))
   (zag (zaj (za4 (zaa (zbu (zaa (zau) (zaa (zaJ C_after (hr.mono (by decide)) rfl (zaa (pv 1) (zaa (za4 (zad)) zad))) zad))) zad))))
   (zam))
  (zaf (zaq (i:=2) S.nd rfl (Au rfl) (za4 (zad)))
  (zaf (zbe C2 rfl (zaI (pv 0)) (zfr rfl (zaE (zan (i:=3) S.nd rfl (Au rfl)) (zaE (zan (i:=4) S.nd rfl (Au rfl)) (zbE))))
   (zaf (zaq (i:=5) S.nd rfl (Au rfl) (zaJ C_after (hr.mono (by decide)) rfl (zaa (pv 1) (zaa (pv 4) zad))))
   (zag (zaF (zao op_notN (pv 5) (zgW) (zav _))
    (zag (za5 (zdp Bu C9 C8 zaV (pv 2) (zaa (zbu (zaa (pv 3) (zaa (pv 5) zad))) zad))))
    (zam)))))
  (zag (zaj (pv 2))))),?_⟩
  refine ⟨_,rfl,_,_,rfl,.inr ha,rfl,zhe ah,_,rfl,?_⟩
  rw [if_neg (by decide),zgr]
  refine ite2 (fun hc => ?_) (fun hc => ?_)
  ·have hc:(0:Int)∈ah:=by simpa using hc
   refine ⟨_,rfl,bigr rfl,fun p0 np0=>⟨a,p0,ah,[],rfl,(Same.new np0).tup ha,zac,an,ar,E8,by simp,?_⟩⟩
   rw [if_neg (show ¬ meets ah []=true from A9)]
   intro p1 H1 s1 n1 e1
   refine ⟨bigr rfl,fun p2 np2=>⟨bigr rfl,fun p3 np3 => ?_⟩⟩
   have s01:Same H H1:=(Same.new np0).trans s1
   have s2:=s01.trans (Same.new (o := .tup [.str "",.ref p1]) np2)
   refine q p3 _ [.ref p2] (s2.trans (Same.new np3)) (s2.free np3) zac ?_
   rw [goes_in hc]
   have e2:upd H1 p2 (.tup [.str "",.ref p1]) p2=some (.tup [.str "",.ref p1]):=zac
   have e1':upd H1 p2 (.tup [.str "",.ref p1]) p1=some (.tup ((afterOf ah []).map V.int)):=by rw [zah (zal e1 np2)]; exact e1
   refine ⟨⟨p2,p1,rfl,?_,?_⟩,trivial⟩
   ·rw [zah (zal e2 np3)]; exact e2
   ·rw [zah (zal e1' np3)]; exact e1'
  ·have hc:(0:Int) ∉ ah:=by simpa using hc
   refine ⟨bigr rfl,fun pf npf => ?_⟩
   have s1:Same H (upd H pf (.lst [])):=Same.new npf
   refine ⟨_,rfl,_,rfl,⟨_,SqL.of (s1 _ _ hk)⟩,?_⟩
   refine zb7 (zar K k ws) (fun i σ Hx=>Same H Hx/\∃ vs x3 x4 x5,σ = [some (.ref k),some (.ref a),some (.ref pf),x3,x4,x5]/\Hx pf=some (.lst vs)/\vs.length<=i/\GoesR Hx vs (goesOf (ks.take i) ah)) ⟨s1,[],_,_,_,rfl,zac,Ad _,?_⟩ (fun i σ Hx _ h=>SqL.of (h.1 _ _ hk)) ?_ ?_
   ·rw [O8,goes_nil hc]
    trivial
   ·rintro i x σ Hx hx ⟨sx,vs,x3,x4,x5,rfl,hpf,hvl,hgr⟩
    obtain ⟨c,qa,t,hkc,rfl,hq,ht⟩:=(kr.same sx).get hx
    have hi:i < ks.length:=(Av.mp hkc).1
    have gc:=hg c (Bh hkc)
    refine ⟨qa,_,rfl,SqL.of hq,rfl,_,_,rfl,_,_,rfl,rfl,?_⟩
    refine ⟨_,rfl,_,rfl,a,t,ah,c.2,rfl,sx.tup ha,ht,an,ar,zaT (zd1 gc),zbV gc,?_⟩
    by_cases hm:meets ah c.2=true
    ·rw [if_pos hm]
     refine ⟨_,rfl,rfl,_,rfl,iteF ?_⟩
     refine ⟨sx,vs,_,_,_,rfl,hpf,by omega,?_⟩
     rw [zaG hkc,zey hc,if_pos hm,Bw]
     exact hgr
    ·rw [if_neg hm]
     intro p1 H1 s1' n1 e1
     refine ⟨_,rfl,rfl,_,rfl,iteT ?_⟩
     have sx1:=s1'
     refine ⟨_,rfl,.inl ⟨rfl,_,SqL.of (s1' _ _ hpf)⟩,_,rfl,_,rfl,bigr rfl,fun p2 np2 => ?_⟩
     have s2:Same Hx (upd H1 p2 (.tup [.str c.1,.ref p1])):=s1'.trans (Same.new np2)
     have e2:upd H1 p2 (.tup [.str c.1,.ref p1]) p2=some (.tup [.str c.1,.ref p1]):=zac
     have e1':upd H1 p2 (.tup [.str c.1,.ref p1]) p1=some (.tup ((afterOf ah c.2).map V.int)):=by rw [zah (zal e1 np2)]; exact e1
     have hpf2:=s2 _ _ hpf
     refine ⟨pf,_,_,rfl,rfl,hpf2,Af (by omega:vs.length < 1000) za0,?_⟩
     have tn:∀ q' xs,upd H1 p2 (.tup [.str c.1,.ref p1]) q'=some (.tup xs)->upd (upd H1 p2 (.tup [.str c.1,.ref p1])) pf (.lst (vs ++ [.ref p2])) q'=some (.tup xs):=fun q' xs h=>by
      have:q'≠pf:=fun z=>by rw [z,hpf2] at h; cases h
      rw [zah this]; exact h
     refine ⟨(sx.trans s2).put npf,_,_,_,_,rfl,zac,(by rw [Ah,Bm]; omega),?_⟩
     rw [zaG hkc,zey hc,if_neg hm]
     exact GoesR.snoc (s:=(c.1,afterOf ah c.2)) (tn _ _ e2) (tn _ _ e1') (hgr.mono fun q' xs h=>tn _ _ (s2 _ _ h))
   ·rintro σ Hx ⟨sx,vs,x3,x4,x5,rfl,hpf,hvl,hgr⟩
    rw [hlen,Ci] at hgr
    exact ⟨_,rfl,q pf Hx vs sx npf hpf hgr⟩
theorem zez {ks:Combs} (h8:ks.length<=8) (s:Nat) (hs:s < 128) (g:GC ks):(goesOf ks (aheadOf (s:Int))).length<=8:=by
 rw [<- A5 (f:=fun p:Str×List Int=>(p.1,worth p.2)),zbl hs g]
 exact zeQ h8 s
noncomputable def LeftR (H:Hp) (ws:List V) (ls:List Nat):Prop:=C3 (fun (s:Nat) (v:V)=>s < 128/\∃ q,v = .ref q/\H q=some (.tup ((aheadOf (s:Int)).map V.int))) ls ws
theorem LeftR.mono {H H':Hp} {ws:List V} {ls:List Nat} (r:LeftR H ws ls) (m:∀ q xs,H q=some (.tup xs)->H' q=some (.tup xs)):LeftR H' ws ls:=C3.mapP r fun _ _ ⟨a,q,b,c⟩=>⟨a,q,b,m _ _ c⟩
noncomputable def intTup (ns:List Int):Ij := .tuple (ns.map Ez)
theorem LeftR.vd {K:Al} {H:Hp} {ws:List V} {ls:List Nat} (r:LeftR H ws ls):VDs K H ws (ls.map fun (s:Nat)=>intTup (aheadOf (s:Int))):=by
 induction r with
 | nil=>exact .nil
 | cons h _ ih =>
  obtain ⟨_,q,rfl,e⟩:=h
  exact .cons (.tup (SqT.of e) (VDs.map fun u _ => .int u)) ih
theorem shaped_tups (ls:List (List Int)):Fa (.list (ls.map intTup))=true:=by
 have h0:∀ a:List Int,Ch (a.map Ez)=true/\Eb (a.map Ez)=0:=by
  intro a
  induction a with
  | nil=>exact ⟨rfl,rfl⟩
  | cons x a ih=>rw [Aq,Ch,Eb,ih.1,ih.2]; exact ⟨rfl,rfl⟩
 have h1:∀ ls:List (List Int),Ch (ls.map intTup)=true/\Eb (ls.map intTup)<=1:=by
  intro ls
  induction ls with
  | nil=>exact ⟨rfl,C6 _⟩
  | cons x ls ih =>
   rw [Aq,Ch,Eb]
   unfold intTup
   refine ⟨?_,?_⟩
   ·rw [show Ch (Jt (fun ns:List Int=>PyData.tuple (ns.map Ez)) ls)=true from ih.1]
    simp [Fk,(h0 x).1]
   ·have:=ih.2
    unfold intTup at this
    simp only [Hn,(h0 x).2]
    omega
 have:=h1 ls
 have h2:Hn (.list (ls.map intTup))<=64:=by
  rw [Hn]
  omega
 have h3:Fk (.list (ls.map intTup))=true:=by
  simp [Fk,this.1]
 unfold Fa
 rw [h3,decide_eq_true h2]
 rfl
noncomputable def sp_graph:Sp:=fun vs H Q _=>∃ (k b:A3) (ws:List V) (ks:Combs) (s0:Nat),vs = [.ref k,.ref b]/\H k=some (.lst ws)/\KindsL (fun _=>True) H ws ks/\ks.length<=8/\GC ks/\s0 < 128/\H b=some (.tup ((aheadOf (s0:Int)).map V.int))/\∀ p kvs L H',Same H H'->H p=none->H' p=some (.dT kvs)->GrL H' kvs ks L->L.Nodup->ClsS ks L->s0∈L->Q (.ref p) H'
theorem zfm:FnScope ["_law_kinds","_law_begin","_law_graph_here","_law_left","_law_ahead","_law_word_here","_law_further"] ["_law_kinds","_law_begin"] (defScope s_graph):=⟨rfl,rfl,rfl,by decide +kernel,rfl,by decide +kernel,by decide +kernel⟩
theorem ok_graph (D:DefAt K mg "_law_graph" s_graph) (T:Bn mg) (C_goes:Callee P w K mg base "_law_goes" 2 ["_law_kinds","_law_ahead"] (sp_goes K)):Callee P w K mg base "_law_graph" 3 ["_law_kinds","_law_begin"] sp_graph:=by
 refine D.callee zfm (fun _ _ _ _ _ _=>ln2 fun _ _=>rfl) (fun vs H Q E h => ?_) (fun f cdv A outer s H vs Q E hr h => ?_)
 ·obtain ⟨k,b,ws,ks,s0,rfl,_⟩:=h
  rfl
 ·obtain ⟨k,b,ws,ks,s0,rfl,hk,kr,h8,gc,hs0,hb,q⟩:=h
  have S:=zfm
  have hu:=zde hr
  refine ⟨_,zaf (zaq (i:=2) S.nd rfl (Au rfl) (zfs))
  (zaf (zaq (i:=3) S.nd rfl (Au rfl) (za4 (zaa (pv 1) zad)))
  (zaf (zdR C2 (zao (op_neD hr.units) (pv 3) (za4 (zad)) (zav _))
   (zaf (zaq (i:=4) S.nd rfl (Au rfl) (zgX Bu PySem.F.slot_list_pop PySem.F.type_list_pop mt_pop (pv 3)))
   (zag (zaF (zei (zel hu (pv 4) (pv 2)))
    (zaf (zdS hu (pv 2) (pv 4) (zaJ C_goes (hr.mono (by decide)) rfl (zaa (pv 0) (zaa (pv 4) zad))) rfl)
    (zag (zbe C2 rfl (zaI (zdT hu (pv 2) (pv 4) (fun _ _=>rfl))) (zej rfl (zaE (zan (i:=5) S.nd rfl (Au rfl)) (zaE (zan (i:=6) S.nd rfl (Au rfl)) (zbE))))
     (zag (za5 (zdp Bu C9 C8 zaV (pv 3) (zaa (pv 6) zad)))))))
    (zam)))))
  (zag (zaj (pv 2))))),?_⟩
  refine fun g ng=>⟨_,rfl,bigr rfl,fun l nl => ?_⟩
  have s1:Same H (upd H g (.dT [])):=Same.new ng
  have nl0:H l=none:=s1.free nl
  have hgl:g≠l:=fun z=>by rw [<- z,zac] at nl; cases nl
  have s2:Same H (upd (upd H g (.dT [])) l (.lst [.ref b])):=s1.trans (Same.new nl)
  refine ⟨fun m σ Hx=>∃ kvs L wl ls x4 x5 x6,σ = [some (.ref k),some (.ref b),some (.ref g),some (.ref l),x4,x5,x6]/\Same H Hx/\Hx g=some (.dT kvs)/\Hx l=some (.lst wl)/\LeftR Hx wl ls/\GrL Hx kvs ks L/\(∀ kv∈kvs,kv.2 ≠ .ref l)/\L.Nodup/\(∀ s∈L,s < 128)/\(∀ s∈L,∀ p∈stp ks s,p.2.toNat∈L\/p.2.toNat∈ls)/\(s0∈L\/s0∈ls)/\ls.length<=2000 - 9 * (128 - L.length)/\m=9 * (128 - L.length) + ls.length,⟨_,[],[],[.ref b],[s0],_,_,_,rfl,s2,(by rw [zah hgl]; exact zac),zac,.cons ⟨hs0,b,rfl,s2 _ _ hb⟩ .nil,.nil,nofun,E8,nofun,nofun,.inr (by simp),(show 1<=2000 - 9 * (128 - 0) by decide),rfl⟩,?_⟩
  rintro m σ Hx ⟨kvs,L,wl,ls,x4,x5,x6,rfl,sx,hg,hl,lr,gr,hkl,nd,lt,cl,h0,hlb,rfl⟩
  have hL128:L.length<=128:=zaC 128 L nd lt
  refine ⟨_,rfl,bigr rfl,fun e ne => ?_⟩
  have se:Same Hx (upd Hx e (.lst [])):=Same.new ne
  refine ⟨_,_,.lst (SqL.of (se _ _ hl)) (lr.mono fun _ _ z=>se _ _ z).vd,.lst (SqL.of zac) .nil,?_,by decide,_,rfl,?_⟩
  ·have:=shaped_tups (ls.map fun (s:Nat)=>aheadOf (s:Int))
   rwa [Be] at this
  have hll:=Cp lr
  cases hls:ls with
  | nil =>
   subst hls
   rw [if_pos rfl,show E3 (.list (Jt (fun s:Nat=>intTup (aheadOf (s:Int))) [])) (.list [])=true by decide]
   refine iteF ?_
   refine ⟨_,rfl,q g kvs L _ (sx.trans se) ng (se _ _ hg) (gr.same se) nd ⟨lt,fun s hs p hp=>(cl s hs p hp).resolve_right (by simp)⟩ (h0.resolve_right (by simp))⟩
  | cons t0 ts0 =>
   have hlpos:0 < ls.length:=by rw [hls]; simp
   rw [<- hls]
   rw [if_pos rfl,show E3 (.list (ls.map fun s:Nat=>intTup (aheadOf (s:Int)))) (.list [])=false by rw [hls]; simp [E3,J9]]
   refine iteT ?_
   have hg:=se _ _ hg
   have hl:=se _ _ hl
   have lr:LeftR (upd Hx e (.lst [])) wl ls:=lr.mono fun _ _ z=>se _ _ z
   have gr:=gr.same se
   have sx:=sx.trans se
   generalize upd Hx e (.lst [])=Hy at hg hl lr gr sx
   clear se ne
   refine ⟨fun σ' H'=>∃ m',m' < 9 * (128 - L.length) + ls.length/\∃ kvs L wl ls x4 x5 x6,σ' = [some (.ref k),some (.ref b),some (.ref g),some (.ref l),x4,x5,x6]/\Same H H'/\H' g=some (.dT kvs)/\H' l=some (.lst wl)/\LeftR H' wl ls/\GrL H' kvs ks L/\(∀ kv∈kvs,kv.2 ≠ .ref l)/\L.Nodup/\(∀ s∈L,s < 128)/\(∀ s∈L,∀ p∈stp ks s,p.2.toNat∈L\/p.2.toNat∈ls)/\(s0∈L\/s0∈ls)/\ls.length<=2000 - 9 * (128 - L.length)/\m'=9 * (128 - L.length) + ls.length,fun _ _ h=>h,?_⟩
   obtain ⟨v,ev,t128,qt,rfl,hqt⟩:=C3.at lr (Aa (show ls.length - 1 < ls.length by omega))
   have els:ls=ls.dropLast ++ [ls[ls.length - 1]'(by omega)]:=by
    have hne:ls ≠ []:=fun z=>by rw [z] at hlpos; simp at hlpos
    have:=(Kn hne).symm
    rwa [Ls] at this
   generalize ls[ls.length - 1]'(by omega)=t at ev t128 hqt els
   refine ⟨_,rfl,.inl ⟨rfl,_,SqL.of hl⟩,l,wl,.ref qt,rfl,rfl,hl,(by rw [<- hll]; exact ev),?_⟩
   have ldl:ls.dropLast.length=ls.length - 1:=Mn
   have lr1:LeftR (upd Hy l (.lst wl.dropLast)) wl.dropLast ls.dropLast:=by
    have h1:LeftR Hy wl.dropLast ls.dropLast:=by
     have:∀ {a:List Nat} {c:List V},LeftR Hy c a->LeftR Hy c.dropLast a.dropLast:=by
      intro a c r
      induction r with
      | nil=>exact .nil
      | cons h r' ih =>
       cases r' with
       | nil=>exact .nil
       | cons h2 r2=>exact .cons h ih
     exact this lr
    exact h1.mono fun qa xs z=>by rw [zah (fun z2=>by rw [z2,hl] at z; cases z)]; exact z
   have gr1:GrL (upd Hy l (.lst wl.dropLast)) kvs ks L:=gr.mono (fun kv hkv qa vs z z2=>by rw [zah (fun z3=>hkl kv hkv (by rw [z,z3]))]; exact z2) fun qa xs z=>by rw [zah (fun z2=>by rw [z2,hl] at z; cases z)]; exact z
   have hg1:upd Hy l (.lst wl.dropLast) g=some (.dT kvs):=by rw [zah hgl]; exact hg
   have hl1:upd Hy l (.lst wl.dropLast) l=some (.lst wl.dropLast):=zac
   have hqt1:upd Hy l (.lst wl.dropLast) qt=some (.tup ((akey t).map kV)):=by
    rw [zah (fun z2=>by rw [z2,hl] at hqt; cases hqt)]
    unfold akey
    rw [kI_V]
    exact hqt
   have sx1:Same H (upd Hy l (.lst wl.dropLast)):=sx.put nl0
   generalize upd Hy l (.lst wl.dropLast)=H1 at lr1 gr1 hg1 hl1 hqt1 sx1
   clear lr gr hg hl hqt sx
   refine ⟨_,rfl,_,rfl,g,_,rfl,DGet.t hg1 hqt1,_,rfl,?_⟩
   have hh:=gr1.has lt t128
   by_cases hin:t∈L
   ·have hh2:(valV kvs (akey t)).isSome=true:=by rw [hh]; exact decide_eq_true hin
    obtain ⟨vv,hvv⟩:=D7.mp hh2
    rw [hvv]
    refine iteF ?_
    refine ⟨_,?_,kvs,L,wl.dropLast,ls.dropLast,_,_,_,rfl,sx1,hg1,hl1,lr1,gr1,hkl,nd,lt,fun s hs p hp => ?_,?_,by omega,rfl⟩
    ·omega
    ·rcases cl s hs p hp with z | z
     ·exact .inl z
     ·rw [els] at z
      rcases Ao.mp z with z | z
      ·exact .inr z
      ·rw [A6.mp z]; exact .inl hin
    ·rcases h0 with z | z
     ·exact .inl z
     ·rw [els] at z
      rcases Ao.mp z with z | z
      ·exact .inr z
      ·rw [A6.mp z]; exact .inl hin
   ·have hno:valV kvs (akey t)=none:=by
     cases ez:valV kvs (akey t) with
     | none=>rfl
     | some v=>rw [ez] at hh; exact absurd (of_decide_eq_true hh.symm) hin
    rw [hno]
    refine iteT ?_
    have hqi:H1 qt=some (.tup ((aheadOf (t:Int)).map V.int)):=by
     have:=hqt1
     unfold akey at this
     rwa [kI_V] at this
    refine ⟨_,rfl,_,rfl,k,qt,ws,ks,aheadOf (t:Int),rfl,sx1 _ _ hk,kr.same sx1,by omega,gc,SqT.of hqi,zcj _,zbx,fun pv H2 vs' s2 npv hpv gv => ?_⟩
    have nd1:(L ++ [t]).Nodup:=Dv.mpr ⟨nd,by simp,fun u hu v hv e=>by rw [A6.mp hv] at e; exact hin (e ▸ hu)⟩
    have lt1:∀ s∈L ++ [t],s < 128:=fun s hs=>(Ao.mp hs).elim (lt s) fun z=>by rw [A6.mp z]; exact t128
    have hL1:(L ++ [t]).length<=128:=zaC 128 _ nd1 lt1
    rw [Ah,Bm] at hL1
    have hkl2:=gr1.len
    refine ⟨_,rfl,_,rfl,g,_,rfl,DPut.t (k:=akey t) (s2 _ _ hg1) (s2 _ _ hqt1) (Af (by omega:kvs.length < 1000) za0),?_⟩
    rw [zfq _ hno]
    have hg2:=s2 _ _ hg1
    have keep:∀ qa o,(∃ xs,o=HO.lst xs)\/(∃ xs,o=HO.tup xs)->H2 qa=some o->upd H2 g (.dT (kvs ++ [(akey t,.ref pv)])) qa=some o:=fun qa o ho ea=>by
     rw [zah (fun z=>by rw [z,hg2] at ea; cases ea; rcases ho with ⟨_,h⟩ | ⟨_,h⟩ <;> cases h)]
     exact ea
    have hpl:pv≠l:=fun z=>by rw [z,hl1] at npv; cases npv
    have gr3:GrL (upd H2 g (.dT (kvs ++ [(akey t,.ref pv)]))) (kvs ++ [(akey t,.ref pv)]) ks (L ++ [t]) :=
     ((gr1.same s2).mono (fun _ _ qa vs _ e=>keep _ _ (.inl ⟨_,rfl⟩) e) fun qa xs e=>keep _ _ (.inr ⟨_,rfl⟩) e).snoc (keep _ _ (.inl ⟨_,rfl⟩) hpv) (gv.mono fun qa xs e=>keep _ _ (.inr ⟨_,rfl⟩) e)
    have gv3:GoesR (upd H2 g (.dT (kvs ++ [(akey t,.ref pv)]))) vs' (goesOf ks (aheadOf (t:Int))):=gv.mono fun qa xs e=>keep _ _ (.inr ⟨_,rfl⟩) e
    have lr3:=(lr1.mono fun _ _ z=>s2 _ _ z).mono fun qa xs e=>keep _ _ (.inr ⟨_,rfl⟩) e
    have hl3:=keep _ _ (.inl ⟨_,rfl⟩) (s2 _ _ hl1)
    have hpv3:=keep _ _ (.inl ⟨_,rfl⟩) hpv
    have hqt3:=keep _ _ (.inr ⟨_,rfl⟩) (s2 _ _ hqt1)
    have hg3:upd H2 g (.dT (kvs ++ [(akey t,.ref pv)])) g=some (.dT (kvs ++ [(akey t,.ref pv)])):=zac
    have sx3:Same H (upd H2 g (.dT (kvs ++ [(akey t,.ref pv)]))):=(sx1.trans s2).put ng
    generalize upd H2 g (.dT (kvs ++ [(akey t,.ref pv)]))=H3 at gr3 gv3 lr3 hl3 hpv3 hqt3 hg3 sx3
    have hkl3:∀ kv∈kvs ++ [(akey t,V.ref pv)],kv.2 ≠ .ref l:=fun kv hkv=>by
     rcases Ao.mp hkv with z | z
     ·exact hkl kv z
     ·rw [A6.mp z]
      exact fun z=>hpl (by injection z)
    have dg:DGet H3 g (.ref qt) (some (.ref pv)):=by
     have:valV (kvs ++ [(akey t,V.ref pv)]) (akey t)=some (.ref pv):=by
      rw [<- zfq _ hno,valV_put,if_pos rfl]
     rw [<- this]
     exact DGet.t hg3 hqt3
    refine ⟨_,rfl,_,rfl,_,_,rfl,dg,_,rfl,⟨_,SqL.of hpv3⟩,?_⟩
    have hgl8:=zez h8 t t128 gc
    have hvl:=gv3.length
    refine zb7 (zar K pv vs') (fun i σ Hz=>Same H Hz/\∃ wl' x5 x6,σ = [some (.ref k),some (.ref b),some (.ref g),some (.ref l),some (.ref qt),x5,x6]/\Hz g=some (.dT (kvs ++ [(akey t,.ref pv)]))/\Hz l=some (.lst wl')/\Hz pv=some (.lst vs')/\LeftR Hz wl' (ls.dropLast ++ ((goesOf ks (aheadOf (t:Int))).take i).map fun p=>(worth p.2).toNat)/\GrL Hz (kvs ++ [(akey t,.ref pv)]) ks (L ++ [t])/\GoesR Hz vs' (goesOf ks (aheadOf (t:Int)))) ⟨sx3,wl.dropLast,_,_,rfl,hg3,hl3,hpv3,(by simpa using lr3),gr3,gv3⟩ (fun i σ Hz _ h=>by obtain ⟨_,_,_,_,_,_,_,h,_⟩:=h; exact SqL.of h) ?_ ?_
    ·rintro i x σ Hz hx ⟨sz,wl',x5,x6,rfl,hgz,hlz,hpz,lz,grz,gvz⟩
     obtain ⟨q1,t1,rfl,e2,e3,hlt⟩:=gvz.nth hx
     have hmem:(goesOf ks (aheadOf (t:Int)))[i]∈goesOf ks (aheadOf (t:Int)):=Cr hlt
     have egd:(goesOf ks (aheadOf (t:Int))).getD i ("",[])=(goesOf ks (aheadOf (t:Int)))[i]:=by rw [Aj,Aa hlt]; rfl
     rw [egd] at e2 e3
     obtain ⟨k1,k2,k3,k4⟩:=zb1 t128 gc hmem
     have hwl':=Cp lz
     rw [Ah,A5,D0,ldl] at hwl'
     refine ⟨q1,_,rfl,SqT.of e2,rfl,_,_,rfl,_,_,rfl,rfl,?_⟩
     refine ⟨_,rfl,.inl ⟨rfl,_,SqL.of hlz⟩,_,rfl,l,wl',_,rfl,rfl,hlz,Af (by omega:wl'.length < 3000) (by decide),?_⟩
     have kt:∀ qa xs,Hz qa=some (.tup xs)->upd Hz l (.lst (wl' ++ [.ref t1])) qa=some (.tup xs):=fun qa xs z=>by rw [zah (fun z2=>by rw [z2,hlz] at z; cases z)]; exact z
     refine ⟨sz.put nl0,_,_,_,rfl,(by rw [zah hgl]; exact hgz),zac,(by rw [zah hpl]; exact hpz),?_,grz.mono (fun kv hkv qa vs z z2=>by rw [zah (fun z3=>hkl3 kv hkv (by rw [z,z3]))]; exact z2) kt,gvz.mono kt⟩
     rw [De hlt,Bi,<- At]
     refine Ek (lz.mono kt) ⟨k1,t1,rfl,kt _ _ ?_⟩
     have e4:aheadOf (((worth (goesOf ks (aheadOf (t:Int)))[i].2).toNat:Nat):Int)=(goesOf ks (aheadOf (t:Int)))[i].2:=zeu (by rw [k3]; rfl)
     rw [e4]
     exact e3
    ·rintro σ Hz ⟨sz,wl',x5,x6,rfl,hgz,hlz,hpz,lz,grz,gvz⟩
     rw [hvl,Ci] at lz
     have est:(goesOf ks (aheadOf (t:Int))).map (fun p=>(worth p.2).toNat)=(stp ks t).map fun p=>p.2.toNat:=by
      rw [<- zbl t128 gc,Be]
      rfl
     refine ⟨_,?_,_,L ++ [t],wl',_,_,_,_,rfl,sz,hgz,hlz,lz,grz,hkl3,nd1,lt1,fun s hs p hp => ?_,?_,?_,rfl⟩
     ·rw [Ah,Ah,Bm,A5,ldl]
      omega
     ·rw [est]
      rcases Ao.mp hs with z | z
      ·rcases cl s z p hp with z | z
       ·exact .inl (Bf _ z)
       ·rw [els] at z
        rcases Ao.mp z with z | z
        ·exact .inr (Bf _ z)
        ·rw [A6.mp z]; exact .inl (Bj _ (A6.mpr rfl))
      ·rw [A6.mp z] at hp
       exact .inr (Bj _ (Ab.mpr ⟨p,hp,rfl⟩))
     ·rcases h0 with z | z
      ·exact .inl (Bf _ z)
      ·rw [els] at z
       rcases Ao.mp z with z | z
       ·exact .inr (Bf _ z)
       ·rw [A6.mp z]; exact .inl (Bj _ (A6.mpr rfl))
     ·rw [Ah,Ah,Bm,A5,ldl]
      omega
theorem LeftR.in128 {H:Hp} {ws:List V} {ls:List Nat} (r:LeftR H ws ls):∀ s∈ls,s < 128:=by
 induction r with
 | nil=>simp
 | cons h _ ih =>
  intro s hs
  rcases B6.mp hs with rfl | hs
  ·exact h.1
  ·exact ih s hs
theorem zgn {H:Hp}:∀ {ls:List Nat} {ws:List V},TupsR H (ls.map fun (s:Nat)=>aheadOf (s:Int)) ws->(∀ s∈ls,s < 128)->LeftR H ws ls
 | [],_,.nil,_ => .nil
 | s :: ls,_,.cons h r,lt => .cons ⟨lt s Ag,h⟩ (zgn r fun t ht=>lt t (A8 _ ht))
theorem zeY {rs:List Nat} (lt:∀ s∈rs,s < 128) {t:Nat} (ht:t < 128):akey t∈rs.map akey ↔ t∈rs:=by
 rw [Ab]
 exact ⟨fun ⟨s,hs,e⟩=>zcU (lt s hs) ht e ▸ hs,fun h=>⟨t,h,rfl⟩⟩
noncomputable def addN (rs:List Nat) (t:Nat):List Nat:=if t∈rs then rs else rs ++ [t]
theorem addN_mem {rs:List Nat} {t s:Nat}:s∈addN rs t ↔ s∈rs\/s=t:=by
 unfold addN
 split
 ·rename_i h
  exact ⟨.inl,fun z=>z.elim id fun e=>e ▸ h⟩
 ·rw [Ao,A6]
theorem addN_nd {rs:List Nat} {t:Nat} (nd:rs.Nodup):(addN rs t).Nodup:=by
 unfold addN
 split
 ·exact nd
 ·rename_i z
  refine Dv.mpr ⟨nd,by simp,fun u hu v hv e => ?_⟩
  rw [A6.mp hv] at e
  exact z (e ▸ hu)
theorem zeP {kvs:List (List Key×V)} {rs:List Nat} {t:Nat} {v:V} (lt:∀ s∈rs,s < 128) (ht:t < 128) (hk:kvs.map (·.1)=rs.map akey):(putK kvs (akey t) v).map (·.1)=(addN rs t).map akey:=by
 rw [putK_keys,hk]
 unfold addN
 by_cases z:t∈rs
 ·rw [if_pos ((zeY lt ht).mpr z),if_pos z]
 ·rw [if_neg (fun h=>z ((zeY lt ht).mp h)),if_neg z,Bi]
  rfl
theorem keys_perm {nss:List (List Int)} {rs:List Nat} (p:nss.Perm (rs.map fun (s:Nat)=>aheadOf (s:Int))) (lt:∀ s∈rs,s < 128):∃ rs':List Nat,rs'.Perm rs/\nss=rs'.map fun (s:Nat)=>aheadOf (s:Int):=by
 refine ⟨nss.map fun ns=>(worth ns).toNat,?_,?_⟩
 ·have:=p.map fun ns=>(worth ns).toNat
  rw [Be] at this
  have e:rs.map ((fun ns=>(worth ns).toNat) ∘ fun (s:Nat)=>aheadOf (s:Int))=rs:=by
   conv=>rhs; rw [<- Gy rs]
   refine Ce fun s hs => ?_
   show (worth (aheadOf (s:Int))).toNat=s
   rw [zbb (by omega) (by have:=lt s hs; omega)]
   simp
  rwa [e] at this
 ·rw [Be]
  conv=>lhs; rw [<- Gy nss]
  refine Ce fun ns hns => ?_
  obtain ⟨s,hs,rfl⟩:=Ab.mp (p.mem_iff.mp hns)
  show aheadOf (s:Int)=aheadOf (((worth (aheadOf (s:Int))).toNat:Nat):Int)
  rw [zbb (by omega) (by have:=lt s hs; omega)]
  simp
theorem zgu {hvs:List (List Key×V)} {hs:List Nat} (hk:hvs.map (·.1)=hs.map akey) (lt:∀ s∈hs,s < 128) {t:Nat} (ht:t < 128):(valV hvs (akey t)).isSome=decide (t∈hs):=by
 rw [Bd,valV_mem,hk,decide_eq_true_eq]
 exact zeY lt ht
theorem any_rangeH {α : Type} (l:List α) (p : α -> Bool) (d : α):((Ac l.length).map fun i=>p (l.getD i d)).any (fun b=>b)=l.any p:=by
 have e:((Ac l.length).map fun i=>p (l.getD i d))=l.map p:=by
  refine Fo fun i => ?_
  rw [Ai,Ai]
  by_cases h:i < l.length
  ·rw [C7 h,Aa h,Cq,Cq,Aj,Aa h]
   rfl
  ·rw [Cn (by rw [Ax]; omega),Cn (by omega)]
   rfl
 rw [e,Jx]
 rfl
noncomputable def sp_home:Sp:=fun vs H Q _=>∃ (g:A3) (kvs:List (List Key×V)) (ks:Combs) (L:List Nat),vs = [.ref g]/\H g=some (.dT kvs)/\GrL H kvs ks L/\L.Nodup/\ClsS ks L/\0∈L/\GC ks/\ks.length<=8/\∀ (p:A3) (hvs:List (List Key×V)) (hs:List Nat) (H':Hp),Same H H'->H' p=some (.dT hvs)->hvs.map (·.1)=hs.map akey->(∀ s∈hs,s∈L)->(∀ s∈L,s∈hs ↔ ∃ n,rch ks s n 0)->Q (.ref p) H'
theorem zf0:FnScope ["_law_graph_here","_law_home_here","_law_known","_law_ahead"] ["_law_graph_here"] (defScope s_home):=⟨rfl,rfl,rfl,by decide +kernel,rfl,by decide +kernel,by decide +kernel⟩
theorem ok_home (D:DefAt K mg "_law_home" s_home) (T:Bn mg):Callee P w K mg base "_law_home" 1 ["_law_graph_here"] sp_home:=by
 refine D.callee zf0 (fun _ _ _ _ _ _=>ln1 fun _=>rfl) (fun vs H Q E h => ?_) (fun f cdv A outer s H vs Q E hr h => ?_)
 ·obtain ⟨g,kvs,ks,L,rfl,_⟩:=h
  rfl
 ·obtain ⟨g,kvs,ks,L,rfl,hg,gr,ndL,cl,h0L,gc,h8,q⟩:=h
  have ltL:=cl.1
  have S:=zf0
  have hu:=zde hr
  have hL128:=zaC 128 L ndL ltL
  refine ⟨_,zaf (zaq (i:=1) S.nd rfl (Fe rfl) (pe_disp1T hu (zbu (zad)) (zb6)))
  (zaf (zaq (i:=2) S.nd rfl (Au rfl) (zab))
  (zaf (zdR C2 (zao zdU (pv 2) (zai zeH rfl T.n_len Bz (zaa (pv 1) zad)) (zav _))
   (zaf (zaq (i:=2) S.nd rfl (Au rfl) (zai zeH rfl T.n_len Bz (zaa (pv 1) zad)))
   (zag (ps_forT C2 rfl (pv 0) (zan (i:=3) S.nd rfl (Au rfl))
    (zag (zaF (zbz (zai (call_any rfl) rfl T.n_any boot_any (zaa (za6 (own := ["_law_word_here","_law_further"]) (caps := [(1,"_law_home_here")]) rfl ⟨rfl,rfl,rfl,rfl,⟨⟨rfl,rfl,.inl rfl⟩,trivial⟩⟩ (zaI (zdT hu (pv 0) (pv 3) (fun _ _=>rfl))) (fun _ _ _ _ _ _=>pg_tup' K rfl (n:=2) rfl (zaE (zan (i:=0) (zaU (by decide +kernel)) rfl (Au rfl)) (zaE (zan (i:=1) (zaU (by decide +kernel)) rfl (Au rfl)) (zbE)))) (fun _ _ _ _ _ _=>zby) (fun _ _ _ _ _ _=>pe_cmp (zge hu (pv 1) (pv 2)))) zad)))
     (zag (zdS hu (pv 1) (pv 3) (zb6) rfl))
     (zam)))))))
  (zag (zaj (pv 1))))),?_⟩
  refine fun p np=>⟨bigr rfl,fun e ne => ?_⟩
  have s1:Same H (upd H p (.dT [])):=Same.new np
  have hp1:upd H p (.dT []) p=some (.dT []):=zac
  generalize upd H p (.dT [])=H1 at s1 hp1 ne ⊢
  have s2:Same H1 (upd H1 e (.tup [])):=Same.new ne
  have he2:upd H1 e (.tup []) e=some (.tup ((akey 0).map kV)):=by
   rw [zac]
   unfold akey
   rw [kI_V,show aheadOf ((0:Nat):Int) = [] by decide]
   rfl
  generalize upd H1 e (.tup [])=H2 at s2 he2 ⊢
  refine ⟨akey 0,e,s2 _ _ hp1,rfl,he2,?_⟩
  have s12:=s1.trans s2
  have s3:Same H (upd H2 p (.dT [(akey 0,.bl true)])):=s12.put np
  have hp3:upd H2 p (.dT [(akey 0,.bl true)]) p=some (.dT [(akey 0,.bl true)]):=zac
  generalize upd H2 p (.dT [(akey 0,.bl true)])=H3 at s3 hp3 ⊢
  let Sound:List Nat->Prop:=fun hs=>hs.Nodup/\(∀ s∈hs,s∈L)/\0∈hs/\∀ s∈hs,∃ n,rch ks s n 0
  refine ⟨fun m σ Hx=>Same H Hx/\∃ (k:Nat) (hvs:List (List Key×V)) (hs:List Nat) (x3:Option V),σ = [some (.ref g),some (.ref p),some (.int (k:Nat)),x3]/\Hx p=some (.dT hvs)/\hvs.map (·.1)=hs.map akey/\Sound hs/\k<=hs.length/\m=200 - k/\(k=hs.length->∀ s∈L,(∃ t∈hs,st1 ks s t)->s∈hs),⟨_,s3,0,_,[0],_,rfl,hp3,rfl,⟨by simp,fun s hs=>by rw [A6.mp hs]; exact h0L,A6.mpr rfl,fun s hs=>⟨0,(A6.mp hs).symm⟩⟩,C6 _,rfl,fun z=>by cases z⟩,?_⟩
  rintro m σ Hx ⟨sx,k,hvs,hs,x3,rfl,hpx,hkx,⟨nd,sub,h0,snd⟩,hkl,rfl,clo⟩
  have hvl:hvs.length=hs.length:=by have:=congrArg Fj hkx; rwa [A5,A5] at this
  have hs128:=zaC 128 hs nd fun s hs=>ltL s (sub s hs)
  refine ⟨_,rfl,_,rfl,_,_,rfl,hpx,rfl,_,rfl,?_⟩
  by_cases heq:k=hvs.length
  ·rw [heq,decide_eq_true (rfl:V.int ((hvs.length:Nat):Int)=_)]
   refine iteF ?_
   refine ⟨_,rfl,q p hvs hs Hx sx hpx hkx sub fun s hsL=>⟨snd s,?_⟩⟩
   rintro ⟨n,hn⟩
   have all:∀ n s,s∈L->rch ks s n 0->s∈hs:=by
    intro n
    induction n with
    | zero=>intro s _ h; rw [show s=0 from h.symm]; exact h0
    | succ n ih =>
     intro s hsL h
     rw [Im] at h
     obtain ⟨u,⟨v,e1,hu1⟩,h2⟩:=zc1 h
     rw [show v=s from e1] at hu1
     obtain ⟨pp,hpp,rfl⟩:=hu1
     exact clo (by omega) s hsL ⟨_,ih _ (cl.2 s hsL pp hpp) h2,pp,hpp,rfl⟩
   exact all n s hsL hn
  ·rw [decide_eq_false (fun z=>heq (by injection z with z; omega))]
   refine iteT ?_
   have hless:200 - hs.length < 200 - k:=by omega
   refine ⟨fun σ' H'=>∃ m',m' < 200 - k/\Same H H'/\∃ (k:Nat) (hvs:List (List Key×V)) (hs:List Nat) (x3:Option V),σ' = [some (.ref g),some (.ref p),some (.int (k:Nat)),x3]/\H' p=some (.dT hvs)/\hvs.map (·.1)=hs.map akey/\Sound hs/\k<=hs.length/\m'=200 - k/\(k=hs.length->∀ s∈L,(∃ t∈hs,st1 ks s t)->s∈hs),fun _ _ h=>h,?_⟩
   refine ⟨_,rfl,_,_,rfl,hpx,?_⟩
   have hgp:g≠p:=fun z=>by rw [z,np] at hg; cases hg
   refine ⟨g,kvs,rfl,sx _ _ hg,fun o => ?_⟩
   have grf:∀ {Hy:Hp},Same H (upd Hy g (.dT kvs))->GrL Hy kvs ks L:=fun {Hy} sy=>(gr.same sy).mono (fun kv _ q vs _ e=>by
     by_cases z:q=g
     ·rw [z,zac] at e; cases e
     ·rw [zah z] at e; exact e) fun q xs e=>by
     by_cases z:q=g
     ·rw [z,zac] at e; cases e
     ·rw [zah z] at e; exact e
   refine forT_g (fun i σ Hy=>Same H (upd Hy g (.dT kvs))/\Hy g=some (.frz o (.dT kvs))/\∃ (hvs':List (List Key×V)) (ext:List Nat) (x3:Option V),σ = [some (.ref g),some (.ref p),some (.int ((hvs.length:Nat):Int)),x3]/\Hy p=some (.dT hvs')/\hvs'.map (·.1)=(hs ++ ext).map akey/\Sound (hs ++ ext)/\∀ s∈L.take i,(∃ t∈hs,st1 ks s t)->s∈hs ++ ext) ⟨?_,zac,hvs,[],_,rfl,by rw [zah hgp.symm]; exact hpx,by rw [Bw]; exact hkx,by rw [Bw]; exact ⟨nd,sub,h0,snd⟩,fun s hs'=>by cases hs'⟩ (fun i σ Hy h=>h.2.1) ?_ ?_
   ·intro b u eb
    by_cases z:b=g
    ·rw [z,zac]; rw [z,hg] at eb; exact eb
    ·rw [zah z,zah z]; exact sx _ _ eb
   ·rintro i kk y b σ Hy hk hb ⟨sy,hgy,hvs',ext,x3',rfl,hpy,hky,⟨nd',sub',h0',snd'⟩,cov'⟩
    have hki:(kvs.map (·.1))[i]?=some kk:=by rw [Ai,hk]; rfl
    rw [gr.keys,Ai] at hki
    cases hsi:L[i]? with
    | none=>rw [hsi] at hki; cases hki
    | some s0 =>
     rw [hsi] at hki
     cases hki
     have hsm:=Bh hsi
     have hs1:=ltL s0 hsm
     obtain ⟨qv,vv,ev,hqv,gv⟩:=(grf sy).val ndL ltL hsm
     have lt':∀ s∈hs ++ ext,s < 128:=fun s hs=>ltL s (sub' s hs)
     have dg:DGet Hy g (.ref b) (some (.ref qv)):=by rw [<- ev]; exact .inr ⟨kvs,akey s0,b,.inr ⟨o,hgy⟩,rfl,hb,rfl⟩
     refine ⟨_,rfl,_,rfl,_,_,rfl,dg,_,rfl,⟨_,SqL.of hqv⟩,fun D hD => ?_⟩
     have hgl:=gv.length
     have hg8:=zez h8 s0 hs1 gc
     refine comp_i2 (capv := [some (.ref p)]) (by rfl) (zar K qv vv) (big (by omega)) hD (fun H' s'=>SqL.of (s' _ _ hqv)) (fun i => .str ((goesOf ks (aheadOf (s0:Int))).getD i ("",[])).1) (tupY Hy vv) (fun i x hx=>by
      obtain ⟨q1,t1,rfl,e2,e3,_⟩:=gv.nth hx
      exact ⟨q1,rfl,by rw [zfP hx e2]; exact e2⟩) (fun _=>true) (fun i => .bl (decide ((worth ((goesOf ks (aheadOf (s0:Int))).getD i ("",[])).2).toNat∈hs ++ ext))) (fun _ _ _=>nofun) (fun i hi H R s' h=>h H (Same.refl _)) ?_ ?_
     ·intro i' hi' _ H' R s' h
      obtain ⟨q1,t1,e1,e2,e3,hlt⟩:=gv.nth (Aa hi')
      have hm:(goesOf ks (aheadOf (s0:Int))).getD i' ("",[])∈goesOf ks (aheadOf (s0:Int)):=by rw [Aj,Aa hlt]; exact Cr hlt
      obtain ⟨k1,k2,k3,k4⟩:=zb1 hs1 gc hm
      have ey:tupY Hy vv i' = .ref t1:=zfP (by rw [Aa hi',e1]) e2
      rw [ey]
      refine ⟨_,rfl,_,rfl,p,_,rfl,.inr ⟨hvs',akey (worth ((goesOf ks (aheadOf (s0:Int))).getD i' ("",[])).2).toNat,t1,.inl (s' _ _ hpy),rfl,(by rw [<- k3,kI_V]; exact s' _ _ e3),rfl⟩,?_⟩
      rw [zgu hky lt' k1]
      exact h H' (Same.refl _)
     intro H' s' e
     refine ⟨_,(Ac vv.length).map fun i=>decide ((worth ((goesOf ks (aheadOf (s0:Int))).getD i ("",[])).2).toNat∈hs ++ ext),rfl,SqL.of ?_,_,rfl,?_⟩
     ·rw [e,Co.mpr (fun _ _=>rfl),Be]
      rfl
     have hany:(Rm ((Ac vv.length).map fun i=>decide ((worth ((goesOf ks (aheadOf (s0:Int))).getD i ("",[])).2).toNat∈hs ++ ext)) id=true) ↔ ∃ t∈hs ++ ext,st1 ks s0 t:=by
      have e1:=any_rangeH (goesOf ks (aheadOf (s0:Int))) (fun p=>decide ((worth p.2).toNat∈hs ++ ext)) ("",[])
      rw [hgl]
      show Rm ((Ac (goesOf ks (aheadOf (s0:Int))).length).map fun i=>decide ((worth ((goesOf ks (aheadOf (s0:Int))).getD i ("",[])).2).toNat∈hs ++ ext)) (fun b=>b)=true ↔ _
      rw [e1,Bs]
      constructor
      ·rintro ⟨pp,hpp,hd⟩
       exact ⟨_,of_decide_eq_true hd,_,(zb1 hs1 gc hpp).2.2.2,rfl⟩
      ·rintro ⟨t,ht,pp,hpp,rfl⟩
       rw [<- zbl hs1 gc] at hpp
       obtain ⟨gp,hgp',rfl⟩:=Ab.mp hpp
       exact ⟨gp,hgp',decide_eq_true ht⟩
     have etk:L.take (i + 1)=L.take i ++ [s0]:=zaG hsi
     have sy':Same H (upd H' g (.dT kvs)):=fun b u eb=>by
      by_cases z:b=g
      ·rw [z,zac]; rw [z,hg] at eb; exact eb
      ·have:=sy _ _ eb
       rw [zah z] at this ⊢
       exact s' _ _ this
     refine ite2 (fun hz => ?_) (fun hz => ?_)
     ·have hz:=hany.mp hz
      refine ⟨_,rfl,_,rfl,p,_,rfl,DPut.t (k:=akey s0) (s' _ _ hpy) (s' _ _ hb) (Af (?_:hvs'.length < 1000) za0),?_⟩
      ·have:=congrArg Fj hky
       rw [A5,A5] at this
       have:=zaC 128 _ nd' lt'
       omega
      have hpg:p≠g:=hgp.symm
      refine ⟨fun b u eb => ?_,by rw [zah hgp]; exact s' _ _ hgy,_,if s0∈hs ++ ext then ext else ext ++ [s0],_,rfl,zac,?_,?_,?_⟩
      ·have hbp:b≠p:=fun z=>by rw [z,np] at eb; cases eb
       have:=sy' _ _ eb
       by_cases z:b=g
       ·rw [z,zac] at this ⊢; exact this
       ·rw [zah z] at this ⊢
        rw [zah hbp]; exact this
      ·rw [zeP lt' hs1 hky]
       unfold addN
       split
       ·rfl
       ·rw [At]
      ·split
       ·exact ⟨nd',sub',h0',snd'⟩
       ·rename_i z
        rw [<- At]
        refine ⟨Dv.mpr ⟨nd',by simp,fun u hu' v hv e=>z (by rw [<- A6.mp hv,<- e]; exact hu')⟩,fun s hs' => ?_,Bf _ h0',fun s hs' => ?_⟩
        ·rcases Ao.mp hs' with y | y
         ·exact sub' s y
         ·rw [A6.mp y]; exact hsm
        ·rcases Ao.mp hs' with y | y
         ·exact snd' s y
         ·rw [A6.mp y]
          obtain ⟨t,ht,h1⟩:=hz
          obtain ⟨n,hn⟩:=snd' t ht
          exact ⟨1 + n,zcc (show rch ks s0 1 t from ⟨s0,rfl,h1⟩) hn⟩
      ·intro s hs' hst
       rw [etk] at hs'
       rcases Ao.mp hs' with y | y
       ·have:=cov' s y hst
        split
        ·exact this
        ·rw [<- At]; exact Bf _ this
       ·rw [A6.mp y]
        split
        ·rename_i z; exact z
        ·rw [<- At]; exact Bj _ (A6.mpr rfl)
     ·have hz:¬ ∃ t∈hs ++ ext,st1 ks s0 t:=fun y=>hz (hany.mpr y)
      refine ⟨sy',s' _ _ hgy,hvs',ext,_,rfl,s' _ _ hpy,hky,⟨nd',sub',h0',snd'⟩,fun s hs' hst => ?_⟩
      rw [etk] at hs'
      rcases Ao.mp hs' with y | y
      ·exact cov' s y hst
      ·rw [A6.mp y] at hst
       obtain ⟨t,ht,h1⟩:=hst
       exact absurd ⟨t,Bf _ ht,h1⟩ hz
   ·rintro σ Hy ⟨sy,hgy,hvs',ext,x3',rfl,hpy,hky,snd',cov'⟩
    rw [gr.len,Ci] at cov'
    refine ⟨hgy,_,hless,sy,hs.length,hvs',hs ++ ext,_,by rw [hvl],by rw [zah hgp.symm]; exact hpy,hky,snd',by rw [Ah]; omega,rfl,fun z s hsL hst => ?_⟩
    rw [Ah] at z
    have:ext = []:=Ki (by omega)
    subst this
    rw [Bw] at hst
    exact cov' s hsL hst
noncomputable def filB (C:Combs) (k:Nat):Bool:=decide (0∈rowN C k)
theorem zcS {C:Combs} (g:GC C) {k:Nat}:filB C k=true ↔ Fil C k:=by
 unfold filB Fil
 rw [decide_eq_true_eq,zcb g]
noncomputable def RowOk (C:Combs) (j:Nat) (l:List Nat):Prop:=l.Nodup/\(∀ s,s∈l ↔ HR C j s)/\l.Pairwise fun (s t:Nat)=>lexR 8 (aheadOf (s:Int))<=lexR 8 (aheadOf (t:Int))
theorem zcy {C:Combs} (g:GC C) {i j:Nat} {l m:List Nat} (hl:RowOk C i l) (hm:RowOk C j m) (h:∀ s,HR C i s ↔ HR C j s):l=m:=by
 have p:l.Perm m:=(Df hl.1 hm.1).mpr fun s=>by rw [hl.2.1,hm.2.1]; exact h s
 refine p.eq_of_pairwise (fun x y hx hy h1 h2 => ?_) hl.2.2 hm.2.2
 have x1:=zc2 g (by decide) ((hl.2.1 x).mp hx).1
 have y1:=zc2 g (by decide) ((hm.2.1 y).mp hy).1
 have a:=zcZ x
 have b:=zcZ y
 exact zdm x1 y1 ((zdX 8 _ _ a.1 b.1 a.2 b.2).2 (by omega))
theorem left_nest {H:Hp} {r:A3} {ws:List V} {R:List Nat} (hr:H r=some (.tup ws)) (lr:LeftR H ws R):NestAt H r (R.map akey):=by
 refine ⟨ws,hr,?_⟩
 clear hr
 induction lr with
 | nil=>exact .nil
 | cons h _ ih =>
  obtain ⟨_,q,e1,e2⟩:=h
  refine .cons ⟨q,e1,?_⟩ ih
  unfold akey
  rw [kI_V]
  exact e2
theorem zeO:∀ {l m:List Nat},(∀ s∈l,s < 128)->(∀ s∈m,s < 128)->l.map akey=m.map akey->l=m
 | [],[],_,_,_=>rfl
 | a :: l,b :: m,h1,h2,e=>by
  rw [Aq,Aq] at e
  injection e with e1 e2
  rw [zcU (h1 a Ag) (h2 b Ag) e1,zeO (fun s hs=>h1 s (A8 _ hs)) (fun s hs=>h2 s (A8 _ hs)) e2]
 | [],_ :: _,_,_,e=>by cases e
 | _ :: _,[],_,_,e=>by cases e
theorem eqv_tup0 (s:Nat) (hs:s < 128):E3 (intTup (aheadOf (s:Int))) (.tuple [])=decide (0=s):=by
 by_cases e:0=s
 ·subst e; decide
 ·rw [decide_eq_false e]
  cases h:aheadOf (s:Int) with
  | nil=>exact absurd (zdm (show 0 < 128 by decide) hs (by rw [h]; decide)) e
  | cons a l=>simp [intTup,E3,J9]
theorem zero_in {R:List Nat} (h:∀ s∈R,s < 128):((R.map fun (s:Nat)=>intTup (aheadOf (s:Int))).any fun e=>E3 e (.tuple []))=decide (0∈R):=by
 induction R with
 | nil=>rfl
 | cons a R ih =>
  rw [Aq,G8,ih fun s hs=>h s (A8 _ hs),eqv_tup0 a (h a Ag),Bd,Ko,decide_eq_true_eq,decide_eq_true_eq,decide_eq_true_eq,B6]
theorem lay_shapes (R:List Nat):Ch (R.map fun (s:Nat)=>intTup (aheadOf (s:Int)))=true:=by
 have one:∀ ns:List Int,Ch (ns.map Ez)=true:=by
  intro ns
  induction ns with
  | nil=>rfl
  | cons a ns ih=>rw [Aq,Ch,ih]; rfl
 induction R with
 | nil=>rfl
 | cons a R ih=>rw [Aq,Ch,ih]; simp [intTup,Fk,one]
noncomputable def sp_fits:Sp:=fun vs H Q _=>∃ (g:A3) (kvs:List (List Key×V)) (ks:Combs) (L:List Nat),vs = [.ref g]/\H g=some (.dT kvs)/\GrL H kvs ks L/\L.Nodup/\ClsS ks L/\0∈L/\GC ks/\ks.length<=8/\∀ (t fl:A3) (m i:Nat) (H':Hp),Same H H'->i < m->m<=16513->(∀ s,HR ks i s ↔ HR ks m s)->H' t=some (.tup [.ref fl,.int (i:Nat)])->H' fl=some (.lst ((Ac m).map fun k=>V.bl (filB ks k)))->Q (.ref t) H'
theorem zf2:FnScope ["_law_graph_here","_law_home_here","_law_fits_here","_law_met","_law_row","_law_more","_law_ahead","_law_word_here","_law_further"] ["_law_graph_here"] (defScope s_fits):=⟨rfl,rfl,rfl,by decide +kernel,rfl,by decide +kernel,by decide +kernel⟩
theorem ok_fits (D:DefAt K mg "_law_fits" s_fits) (T:Bn mg) (C_home:Callee P w K mg base "_law_home" 1 ["_law_graph_here"] sp_home):Callee P w K mg base "_law_fits" 2 ["_law_graph_here"] sp_fits:=by
 refine D.callee zf2 (fun _ _ _ _ _ _=>ln1 fun _=>rfl) (fun vs H Q E h => ?_) (fun f cdv A outer s H vs Q E hr h => ?_)
 ·obtain ⟨g,kvs,ks,L,rfl,_⟩:=h
  rfl
 ·obtain ⟨g,kvs,ks,L,rfl,hg,gr,ndL,cl,h0L,gc,h8,q⟩:=h
  have ltL:=cl.1
  have S:=zf2
  have hu:=zde hr
  have hszL:(20000:Nat)<=sizeLine:=by decide
  have inL:∀ k s,rch ks 0 k s->s∈L:=by
   intro k
   induction k with
   | zero=>intro s h; rw [show s=0 from h]; exact h0L
   | succ k ih =>
    rintro s ⟨u,h1,p,hp,rfl⟩
    exact cl.2 u (ih u h1) p hp
  refine ⟨_,zaf (zaq (i:=1) S.nd rfl (Au rfl) (zaJ C_home (hr.mono (by decide)) rfl (zaa (pv 0) zad)))
  (zaf (zaq (i:=2) S.nd rfl (Au rfl) (za4 (zad)))
  (zaf (zaq (i:=3) S.nd rfl (Au rfl) (zft))
  (zaf (zaq (i:=4) S.nd rfl (Au rfl) (zbu (zaa (zbu (zad)) zad)))
  (zaf (zdR C2 (zei (pc_nnotin' P w rfl rfl hr.units (pv 4) (pv 3)))
   (zaf (ps_nput' P w rfl rfl hr.units (pv 3) (pv 4) (zai zat rfl T.n_len Bz (zaa (pv 2) zad)) rfl)
   (zaf (za5 (zdp Bu C9 C8 zaV (pv 2) (zaa (zeU (op_inT hr.units) (zbu (zad)) (pv 4) (by with_unfolding_all rfl)) zad)))
   (zaf (zaq (i:=5) S.nd rfl (Au rfl) (zfs))
   (zaf (zbe C2 rfl (pi_tup (pv 4)) (zan (i:=6) S.nd rfl (Au rfl))
    (zag (zbe C2 rfl (zaI (zdT hu (pv 0) (pv 6) (fun _ _=>rfl))) (zej rfl (zaE (zan (i:=7) S.nd rfl (Au rfl)) (zaE (zan (i:=8) S.nd rfl (Au rfl)) (zbE))))
     (zag (zaF (zei (zge hu (pv 8) (pv 1)))
      (zag (zdS hu (pv 5) (pv 8) (zb6) rfl))
      (zam))))))
   (zag (zaq (i:=4) S.nd rfl (Au rfl) (zbn zct rfl T.n_tuple M8 (zaa (zai (call_sortedDT rfl hr.units) rfl T.n_sorted Jr (zaa (pv 5) zad)) zad)))))))))
  (zag (zaj (zbu (zaa (pv 2) (zaa (pe_nget' P w rfl rfl hr.units (pv 3) (pv 4) (fun _ _=>rfl)) zad))))))))),?_⟩
  refine ⟨_,rfl,g,kvs,ks,L,rfl,hg,gr,ndL,cl,h0L,gc,h8,fun ho hvs hs H0 s0 hho hhk hsub hhome => ?_⟩
  have hlt:∀ s∈hs,s < 128:=fun s h=>ltL s (hsub s h)
  refine ⟨bigr rfl,fun fl nfl => ?_⟩
  have s1:Same H0 (upd H0 fl (.lst [])):=Same.new nfl
  have hfl1:upd H0 fl (.lst []) fl=some (.lst []):=zac
  generalize upd H0 fl (.lst [])=H1 at s1 hfl1 ⊢
  refine fun d nd => ?_
  have nd0:=s1.free nd
  have s2:Same H1 (upd H1 d (.dK [])):=Same.new nd
  have hd2:upd H1 d (.dK []) d=some (.dK []):=zac
  generalize upd H1 d (.dK [])=H2 at s2 hd2 ⊢
  refine ⟨bigr rfl,fun e0 ne0 => ?_⟩
  have s3:Same H2 (upd H2 e0 (.tup [])):=Same.new ne0
  have he3:upd H2 e0 (.tup []) e0=some (.tup ((aheadOf ((0:Nat):Int)).map V.int)):=by
   rw [zac,show aheadOf ((0:Nat):Int) = [] by decide]; rfl
  generalize upd H2 e0 (.tup [])=H3 at s3 he3 ⊢
  refine ⟨bigr rfl,fun r0 nr0 => ?_⟩
  have s4:Same H3 (upd H3 r0 (.tup [.ref e0])):=Same.new nr0
  have hr4:upd H3 r0 (.tup [.ref e0]) r0=some (.tup [.ref e0]):=zac
  have he4:=s4 _ _ he3
  have s24:=(s2.trans s3).trans s4
  have hd4:=s4 _ _ (s3 _ _ hd2)
  have hfl4:=s24 _ _ hfl1
  have s04:=s1.trans s24
  generalize upd H3 r0 (.tup [.ref e0])=H4 at s04 hr4 he4 hd4 hfl4 ⊢
  have hdf:d≠fl:=fun z=>by rw [z,hfl1] at nd; cases nd
  refine ⟨fun m σ Hx=>Same H0 Hx/\∃ (k:Nat) (R:Nat->List Nat) (xs:List NX) (r:A3) (wr:List V) (x5 x6 x7 x8:Option V),m=16600 - k /\ σ = [some (.ref g),some (.ref ho),some (.ref fl),some (.ref d),some (.ref r),x5,x6,x7,x8]/\Hx fl=some (.lst ((Ac k).map fun j=>V.bl (filB ks j)))/\NDict P w Hx d xs/\Hx r=some (.tup wr)/\LeftR Hx wr (R k)/\(∀ j,j<=k->RowOk ks j (R j))/\nks xs=((Ac k).map fun j=>(R j).map akey)/\(∀ j,j < k->∃ c,((R j).map akey,c,V.int (j:Nat))∈xs)/\∀ i j,i < j->j < k->R i≠R j,
   ⟨_,s04,0,fun _ => [0],[],r0,[.ref e0],_,_,_,_,rfl,rfl,hfl4,⟨.inl ⟨rfl,hd4⟩,fun x hx=>by cases hx⟩,hr4,.cons ⟨by decide,e0,rfl,he4⟩ .nil,fun j hj => ?_,rfl,fun j hj=>by omega,fun i j h1 h2=>by omega⟩,?_⟩
  ·have:j=0:=by omega
   subst this
   exact ⟨by simp,fun s=>by rw [hr_zero,A6],List.pairwise_singleton _ _⟩
  rintro m σ Hx ⟨sx,k,R,xs,r,wr,x5,x6,x7,x8,rfl,rfl,hfl,nd',hrx,lr,rok,hkeys,hval,dis⟩
  have hxl:xs.length=k:=by
   have:=congrArg Fj hkeys
   unfold nks at this
   rw [A5,A5,Ax] at this
   exact this
  have lt128:∀ j,j<=k->∀ s∈R j,s < 128:=fun j hj s hs=>zc2 gc (by decide) (((rok j hj).2.1 s).mp hs).1
  have nest:=left_nest hrx lr
  refine ⟨_,rfl,_,rfl,d,r,xs,(R k).map akey,rfl,rfl,nd',nest,_,rfl,?_⟩
  by_cases hin:(R k).map akey∈nks xs
  ·rw [hasN_iff.mpr hin]
   refine iteF ?_
   rw [hkeys] at hin
   obtain ⟨i,hi,ei⟩:=Ab.mp hin
   have hi:=B9.mp hi
   have er:R i=R k:=zeO (lt128 i (by omega)) (lt128 k (Ad _)) ei
   obtain ⟨c,hc⟩:=hval i hi
   refine ⟨_,rfl,_,rfl,_,rfl,d,r,c,xs,(R k).map akey,.int (i:Nat),rfl,rfl,nd',nest,by rw [<- er]; exact hc,bigr rfl,fun t nt => ?_⟩
   have st:Same Hx (upd Hx t (.tup [.ref fl,.int (i:Nat)])):=Same.new nt
   refine q t fl k i _ ((s0.trans sx).trans st) hi ?_ (fun s => ?_) zac (st _ _ hfl)
   ·have:=zfA gc (M:=k - 1) fun a b hab hb heq=>dis a b hab (by omega) (zcy gc (rok a (by omega)) (rok b (by omega)) heq)
    omega
   ·rw [<- (rok i (by omega)).2.1,<- (rok k (Ad _)).2.1,er]
  ·rw [zfD hin]
   refine iteT ?_
   have hnew:∀ j,j < k->R j≠R k:=fun j hj e=>hin (by rw [hkeys,<- e]; exact Ab.mpr ⟨j,B9.mpr hj,rfl⟩)
   have hk:k<=16512:=zfA gc (M:=k) fun a b hab hb heq=>by
    by_cases z:b=k
    ·subst z; exact hnew a hab (zcy gc (rok a (by omega)) (rok b (by omega)) heq)
    ·exact dis a b hab (by omega) (zcy gc (rok a (by omega)) (rok b (by omega)) heq)
   have hlR:(R k).length<=128:=zaC 128 _ (rok k (Ad _)).1 (lt128 k (Ad _))
   have hwr:=Cp lr
   refine ⟨fun σ' H'=>∃ m',m' < 16600 - k/\Same H0 H'/\∃ (k:Nat) (R:Nat->List Nat) (xs:List NX) (r:A3) (wr:List V) (x5 x6 x7 x8:Option V),m'=16600 - k /\ σ' = [some (.ref g),some (.ref ho),some (.ref fl),some (.ref d),some (.ref r),x5,x6,x7,x8]/\H' fl=some (.lst ((Ac k).map fun j=>V.bl (filB ks j)))/\NDict P w H' d xs/\H' r=some (.tup wr)/\LeftR H' wr (R k)/\(∀ j,j<=k->RowOk ks j (R j))/\nks xs=((Ac k).map fun j=>(R j).map akey)/\(∀ j,j < k->∃ c,((R j).map akey,c,V.int (j:Nat))∈xs)/\∀ i j,i < j->j < k->R i≠R j,fun _ _ h=>h,?_⟩
   refine ⟨_,rfl,_,_,rfl,.inl (SqL.of hfl),_,rfl,_,rfl,d,r,xs,(R k).map akey,rfl,rfl,nd',nest,hin,by omega,?_⟩
   rw [A5,Ax]
   have hmu:∀ q u,q≠d->Hx q=some u->upd Hx d (DN P w d (xs ++ [((R k).map akey,r,V.int (k:Nat))])) q=some u:=fun q u z e=>by rw [zah z]; exact e
   have htd:∀ q ys,Hx q=some (.tup ys)->q≠d:=fun q ys e z=>by
    rw [z] at e
    rcases nd'.1 with ⟨_,e'⟩ | e' <;> rw [e] at e' <;> cases e'
   have hkn:KeysN (upd Hx d (DN P w d (xs ++ [((R k).map akey,r,V.int (k:Nat))]))) (xs ++ [((R k).map akey,r,V.int (k:Nat))]):=fun x hx=>by
    refine NestAt.same (H:=Hx) ?_ fun q ys e=>hmu _ _ (htd q ys e) e
    rcases Ao.mp hx with z | z
    ·exact nd'.2 x z
    ·rw [A6.mp z]; exact nest
   have nd5:NDict P w (upd Hx d (DN P w d (xs ++ [((R k).map akey,r,V.int (k:Nat))]))) d (xs ++ [((R k).map akey,r,V.int (k:Nat))]):=⟨.inr zac,hkn⟩
   have s5:Same H0 (upd Hx d (DN P w d (xs ++ [((R k).map akey,r,V.int (k:Nat))]))):=sx.put nd0
   have hfl5:=hmu _ _ hdf.symm hfl
   have hrd:r≠d:=htd _ _ hrx
   have hr5:=hmu _ _ hrd hrx
   have lr5:LeftR (upd Hx d (DN P w d (xs ++ [((R k).map akey,r,V.int (k:Nat))]))) wr (R k):=lr.mono fun q ys e=>hmu _ _ (htd q ys e) e
   generalize upd Hx d (DN P w d (xs ++ [((R k).map akey,r,V.int (k:Nat))]))=H5 at nd5 s5 hfl5 hr5 lr5 ⊢
   refine ⟨_,rfl,.inl ⟨rfl,_,SqL.of hfl5⟩,bigr rfl,fun et net => ?_⟩
   have s6:Same H5 (upd H5 et (.tup [])):=Same.new net
   have het:upd H5 et (.tup []) et=some (.tup []):=zac
   have hfl6:=s6 _ _ hfl5
   have hr6:=s6 _ _ hr5
   have lr6:=lr5.mono fun q ys e=>s6 _ _ e
   have nd6:=nd5.same s6
   have s06:=s5.trans s6
   generalize upd H5 et (.tup [])=H6 at het hfl6 hr6 lr6 nd6 s06 ⊢
   refine ⟨_,rfl,.tuple [],(R k).map fun (s:Nat)=>intTup (aheadOf (s:Int)),.tup (SqT.of het) .nil,.tup (SqT.of hr6) lr6.vd,rfl,lay_shapes _,by decide,?_⟩
   rw [zero_in (lt128 k (Ad _))]
   have ez:decide (0∈R k)=filB ks k:=by
    unfold filB
    rw [decide_eq_decide,(rok k (Ad _)).2.1,zgt,zcb gc]
    rfl
   rw [ez]
   refine ⟨fl,_,_,rfl,rfl,hfl6,by rw [A5,Ax]; omega,?_⟩
   have efl:((Ac k).map fun j=>V.bl (filB ks j)) ++ [V.bl (filB ks k)]=(Ac (k + 1)).map fun j=>V.bl (filB ks j):=by
    rw [Dx,Bi]; rfl
   rw [efl]
   have nfl0:H0 fl=none:=nfl
   have hf7:∀ q u,q≠fl->H6 q=some u->upd H6 fl (.lst ((Ac (k + 1)).map fun j=>V.bl (filB ks j))) q=some u:=fun q u z e=>by rw [zah z]; exact e
   have s07:Same H0 (upd H6 fl (.lst ((Ac (k + 1)).map fun j=>V.bl (filB ks j)))):=s06.put nfl0
   have htf:∀ q ys,H6 q=some (.tup ys)->q≠fl:=fun q ys e z=>by rw [z,hfl6] at e; cases e
   have nd7:NDict P w (upd H6 fl (.lst ((Ac (k + 1)).map fun j=>V.bl (filB ks j)))) d (xs ++ [((R k).map akey,r,V.int (k:Nat))]):=⟨nd6.1.imp (fun z=>⟨z.1,hf7 _ _ hdf z.2⟩) fun z=>hf7 _ _ hdf z,nd6.2.same fun q ys e=>hf7 _ _ (htf q ys e) e⟩
   have hr7:=hf7 _ _ (htf _ _ hr6) hr6
   have lr7:LeftR (upd H6 fl (.lst ((Ac (k + 1)).map fun j=>V.bl (filB ks j)))) wr (R k):=lr6.mono fun q ys e=>hf7 _ _ (htf q ys e) e
   have hfl7:upd H6 fl (.lst ((Ac (k + 1)).map fun j=>V.bl (filB ks j))) fl=some (.lst ((Ac (k + 1)).map fun j=>V.bl (filB ks j))):=zac
   generalize upd H6 fl (.lst ((Ac (k + 1)).map fun j=>V.bl (filB ks j)))=H7 at s07 nd7 hr7 lr7 hfl7 ⊢
   clear hmu htd hkn hf7 htf nd5 nd6 hfl5 hfl6 hr5 hr6 lr5 lr6 s5 s6 s06
   refine fun mo nmo => ?_
   have s8:Same H7 (upd H7 mo (.dT [])):=Same.new nmo
   have hmo:upd H7 mo (.dT []) mo=some (.dT []):=zac
   refine ⟨_,rfl,_,rfl,⟨_,SqT.of (s8 _ _ hr7)⟩,?_⟩
   refine zb7 (gives_tup K r wr) (fun i σ Hy=>Same H7 Hy/\∃ (mvs:List (List Key×V)) (rs:List Nat) (x6 x7 x8:Option V),σ = [some (.ref g),some (.ref ho),some (.ref fl),some (.ref d),some (.ref r),some (.ref mo),x6,x7,x8]/\Hy mo=some (.dT mvs)/\mvs.map (·.1)=rs.map akey/\rs.Nodup/\(∀ s∈rs,s < 128)/\∀ n,n∈rs ↔ (∃ t∈(R k).take i,st1 ks t n)/\n∈hs) ⟨s8,[],[],_,_,_,rfl,hmo,rfl,E8,nofun,fun n=>by simp⟩ (fun i σ Hy _ h=>SqT.of (h.1 _ _ hr7)) ?_ ?_
   ·rintro i x σ Hy hx ⟨sy,mvs,rs,x6',x7',x8',rfl,hmy,hk',rn,rlt,hm⟩
    obtain ⟨t,et,t128,qt,rfl,hqt⟩:=C3.rev lr7 hx
    have s0y:=s07.trans sy
    have htL:=inL k t (((rok k (Ad _)).2.1 t).mp (Bh et)).1
    obtain ⟨qv,vv,ev,hqv,gv⟩:=(gr.same (s0.trans s0y)).val ndL ltL htL
    have hqk:Hy qt=some (.tup ((akey t).map kV)):=by
     unfold akey
     rw [kI_V]
     exact sy _ _ hqt
    have dg:DGet Hy g (.ref qt) (some (.ref qv)):=by rw [<- ev]; exact DGet.t (s0y _ _ (s0 _ _ hg)) hqk
    refine ⟨_,rfl,_,rfl,_,_,rfl,dg,_,rfl,⟨_,SqL.of hqv⟩,?_⟩
    have hvl:=gv.length
    have hqm:qv≠mo:=fun z=>by rw [z,hmy] at hqv; cases hqv
    refine zb7 (zar K qv vv) (fun j σ Hz=>Same H7 Hz/\Hz qv=some (.lst vv)/\GoesR Hz vv (goesOf ks (aheadOf (t:Int)))/\∃ (mvs':List (List Key×V)) (rs':List Nat) (x7 x8:Option V),σ = [some (.ref g),some (.ref ho),some (.ref fl),some (.ref d),some (.ref r),some (.ref mo),some (.ref qt),x7,x8]/\Hz mo=some (.dT mvs')/\mvs'.map (·.1)=rs'.map akey/\rs'.Nodup/\(∀ s∈rs',s < 128)/\∀ n,n∈rs' ↔ n∈rs\/(n∈((goesOf ks (aheadOf (t:Int))).take j).map (fun p=>(worth p.2).toNat)/\n∈hs)) ⟨sy,hqv,gv,mvs,rs,_,_,rfl,hmy,hk',rn,rlt,fun n=>by simp⟩ (fun j σ Hz _ h=>SqL.of h.2.1) ?_ ?_
    ·rintro j y σ Hz hy ⟨sz,hqz,gz,mvs',rs',x7'',x8'',rfl,hmz,hkz,rnz,rltz,hmz'⟩
     obtain ⟨q1,t1,rfl,e2,e3,hltj⟩:=gz.nth hy
     have egd:(goesOf ks (aheadOf (t:Int))).getD j ("",[])=(goesOf ks (aheadOf (t:Int)))[j]:=by rw [Aj,Aa hltj]; rfl
     rw [egd] at e2 e3
     obtain ⟨k1,k2,k3,k4⟩:=zb1 t128 gc (Cr hltj)
     have e3':Hz t1=some (.tup ((akey (worth (goesOf ks (aheadOf (t:Int)))[j].2).toNat).map kV)):=by rw [<- k3,kI_V]; exact e3
     refine ⟨q1,_,rfl,SqT.of e2,rfl,_,_,rfl,_,_,rfl,rfl,?_⟩
     refine ⟨_,rfl,_,rfl,ho,_,rfl,DGet.t ((s07.trans sz) _ _ hho) e3',_,rfl,?_⟩
     rw [zgu hhk hlt k1]
     have etk:((goesOf ks (aheadOf (t:Int))).take (j + 1)).map (fun p=>(worth p.2).toNat)=((goesOf ks (aheadOf (t:Int))).take j).map (fun p=>(worth p.2).toNat) ++ [(worth (goesOf ks (aheadOf (t:Int)))[j].2).toNat]:=by
      rw [De hltj,Bi]; rfl
     by_cases hin':(worth (goesOf ks (aheadOf (t:Int)))[j].2).toNat∈hs
     ·rw [decide_eq_true hin']
      refine iteT ?_
      have hb:=zaC 128 rs' rnz rltz
      have hl':mvs'.length=rs'.length:=by have:=congrArg Fj hkz; rwa [A5,A5] at this
      refine ⟨_,rfl,_,rfl,mo,_,rfl,DPut.t hmz e3' (Af (by omega:mvs'.length < 1000) za0),?_⟩
      have kt:∀ qa ys,Hz qa=some (.tup ys)->upd Hz mo (.dT (putK mvs' (akey (worth (goesOf ks (aheadOf (t:Int)))[j].2).toNat) (.bl true))) qa=some (.tup ys):=fun qa ys z=>by rw [zah (fun z2=>by rw [z2,hmz] at z; cases z)]; exact z
      refine ⟨sz.put nmo,(by rw [zah hqm]; exact hqz),gz.mono kt,_,addN rs' (worth (goesOf ks (aheadOf (t:Int)))[j].2).toNat,_,_,rfl,zac,zeP rltz k1 hkz,addN_nd rnz,fun s hs' => ?_,fun n => ?_⟩
      ·rcases addN_mem.mp hs' with z | z
       ·exact rltz s z
       ·rw [z]; exact k1
      ·rw [addN_mem,hmz',etk,Ao,A6]
       constructor
       ·rintro ((z | ⟨z1,z2⟩) | z)
        ·exact .inl z
        ·exact .inr ⟨.inl z1,z2⟩
        ·exact .inr ⟨.inr z,by rw [z]; exact hin'⟩
       ·rintro (z | ⟨z1 | z1,z2⟩)
        ·exact .inl (.inl z)
        ·exact .inl (.inr ⟨z1,z2⟩)
        ·exact .inr z1
     ·rw [decide_eq_false hin']
      refine iteF ?_
      refine ⟨sz,hqz,gz,mvs',rs',_,_,rfl,hmz,hkz,rnz,rltz,fun n => ?_⟩
      rw [hmz',etk,Ao,A6]
      constructor
      ·rintro (z | ⟨z1,z2⟩)
       ·exact .inl z
       ·exact .inr ⟨.inl z1,z2⟩
      ·rintro (z | ⟨z1 | z1,z2⟩)
       ·exact .inl z
       ·exact .inr ⟨z1,z2⟩
       ·rw [z1] at z2; exact absurd z2 hin'
    ·rintro σ Hz ⟨sz,hqz,gz,mvs',rs',x7'',x8'',rfl,hmz,hkz,rnz,rltz,hmz'⟩
     rw [hvl,Ci] at hmz'
     refine ⟨sz,mvs',rs',_,_,_,rfl,hmz,hkz,rnz,rltz,fun n => ?_⟩
     have est:n∈(goesOf ks (aheadOf (t:Int))).map (fun p=>(worth p.2).toNat) ↔ st1 ks t n:=by
      unfold st1
      rw [<- zbl t128 gc,Ab]
      constructor
      ·rintro ⟨p,hp,e⟩
       exact ⟨_,Ab.mpr ⟨p,hp,rfl⟩,e⟩
      ·rintro ⟨p,hp,e⟩
       obtain ⟨p',hp',rfl⟩:=Ab.mp hp
       exact ⟨p',hp',e⟩
     rw [hmz',hm,est,zaG et]
     constructor
     ·rintro (⟨⟨t',ht',h1⟩,h2⟩ | ⟨h1,h2⟩)
      ·exact ⟨⟨t',Bf _ ht',h1⟩,h2⟩
      ·exact ⟨⟨t,Bj _ (A6.mpr rfl),h1⟩,h2⟩
     ·rintro ⟨⟨t',ht',h1⟩,h2⟩
      rcases Ao.mp ht' with z | z
      ·exact .inl ⟨⟨t',z,h1⟩,h2⟩
      ·rw [A6.mp z] at h1
       exact .inr ⟨h1,h2⟩
   ·rintro σ Hy ⟨sy,mvs,rs,x6',x7',x8',rfl,hmy,hk',rn,rlt,hm⟩
    rw [<- hwr,Ci] at hm
    have hb:=zaC 128 rs rn rlt
    rw [akeysL_kI] at hk'
    refine ⟨_,rfl,mo,mvs,_,rfl,.inl hmy,hk',fun ns hns => ?_,by rw [A5]; omega,fun p nss' ws' np pp pw tr' => ?_⟩
    ·obtain ⟨s',_,rfl⟩:=Ab.mp hns
     exact zcZ s'
    obtain ⟨rs',pr,rfl⟩:=keys_perm pp rlt
    have s9:Same Hy (upd Hy p (.lst ws')):=Same.new np
    have hp9:upd Hy p (.lst ws') p=some (.lst ws'):=zac
    have lr9:=(zgn tr' fun s' hs'=>rlt s' (pr.mem_iff.mp hs')).mono fun _ _ z=>s9 _ _ z
    have s79:=sy.trans s9
    generalize upd Hy p (.lst ws')=H9 at s79 hp9 lr9 ⊢
    refine ⟨p,ws',rfl,.inl ⟨SqL.of hp9,fun rt nrt => ?_⟩⟩
    have sA:Same H9 (upd H9 rt (.tup ws')):=Same.new nrt
    have s7A:=s79.trans sA
    obtain ⟨R',hR1,hR2⟩:∃ R':Nat->List Nat,R' (k + 1)=rs'/\∀ j,j≠k + 1->R' j=R j:=⟨fun j=>if j=k + 1 then rs' else R j,if_pos rfl,fun j h=>if_neg h⟩
    refine ⟨16600 - (k + 1),by omega,s07.trans s7A,k + 1,R',xs ++ [((R k).map akey,r,V.int (k:Nat))],rt,ws',_,_,_,_,rfl,rfl,s7A _ _ hfl7,nd7.same s7A,zac,?_,fun j hj => ?_,?_,fun j hj => ?_,fun i j h1 h2 => ?_⟩
    ·rw [hR1]
     exact lr9.mono fun q ys e=>sA _ _ e
    ·by_cases z:j=k + 1
     ·subst z
      rw [hR1]
      refine ⟨pr.nodup_iff.mpr rn,fun s => ?_,?_⟩
      ·rw [pr.mem_iff,hm,zeZ]
       constructor
       ·rintro ⟨⟨t,ht,h1⟩,h2⟩
        exact ⟨⟨t,((rok k (Ad _)).2.1 t).mp ht,h1⟩,(hhome s (hsub s h2)).mp h2⟩
       ·rintro ⟨⟨t,ht,h1⟩,h2⟩
        exact ⟨⟨t,((rok k (Ad _)).2.1 t).mpr ht,h1⟩,(hhome s (inL (k + 1) s ⟨t,ht.1,h1⟩)).mpr h2⟩
      ·rw [C4] at pw
       exact pw
     ·rw [hR2 j z]
      exact rok j (by omega)
    ·unfold nks at hkeys ⊢
     rw [Bi,hkeys,Dx,Bi]
     congr 1
     ·refine Ce fun j hj => ?_
      rw [hR2 j (by have:=B9.mp hj; omega)]
     ·rw [N1,N1,hR2 k (by omega)]
    ·rw [hR2 j (by omega)]
     by_cases z:j=k
     ·subst z
      exact ⟨r,Bj _ (A6.mpr rfl)⟩
     ·obtain ⟨c,hc⟩:=hval j (by omega)
      exact ⟨c,Bf _ hc⟩
    ·rw [hR2 i (by omega),hR2 j (by omega)]
     by_cases z:j=k
     ·subst z; exact hnew i h1
     ·exact dis i j h1 (by omega)
structure Ea (mg:Str->Option A1) (ea:Nat->A3):Prop where
 n0:mg "BadName" = some (.ref (ea 0))
 n1:mg "BadTeeth" = some (.ref (ea 1))
 n2:mg "NameTaken" = some (.ref (ea 2))
 n3:mg "BookFull" = some (.ref (ea 3))
 n4:mg "NoComb" = some (.ref (ea 4))
 n5:mg "BadTooth" = some (.ref (ea 5))
 n6:mg "ToothThere" = some (.ref (ea 6))
 n7:mg "FirstTooth" = some (.ref (ea 7))
 n8:mg "ToothMissing" = some (.ref (ea 8))
 n9:mg "DeedsFull" = some (.ref (ea 9))
 n10:mg "NothingDone" = some (.ref (ea 10))
 n11:mg "BadShape" = some (.ref (ea 11))
 n12:mg "BadPlace" = some (.ref (ea 12))
 n13:mg "BadLength" = some (.ref (ea 13))
 n14:mg "NoFilling" = some (.ref (ea 14))
noncomputable def spKind (K:Al) (ea:Nat->A3):A3->A1->Sp:=fun e c vs H Q _=>vs = [.ref e]/\∃ D j,c = .ref D/\KindF K ea D j/\∀ p H',Same H H'->H p=none->H' p=some (.lst [.str (errName j)])->Q (.ref p) H'
noncomputable def kb (j i:Nat):V := .bl (decide (i=j))
noncomputable def kBools (j:Nat):List V:=(Ac 15).map (kb j)
theorem kBools_eq (j:Nat):kBools j = [kb j 0,kb j 1,kb j 2,kb j 3,kb j 4,kb j 5,kb j 6,kb j 7,kb j 8,kb j 9,kb j 10,kb j 11,kb j 12,kb j 13,kb j 14]:=rfl
noncomputable def isJ (j:Nat) (v:V):Bool:=match v with
 | .int t=>decide (t.toNat=j)
 | _=>false
noncomputable def wordJ (v:V):V:=match v with
 | .int t => .str (errName t.toNat)
 | _ => .non
theorem kind_res {j:Nat} (h:j < 15):(((Ac (15:Int).toNat).map fun i=>V.int (0 + ((i:Nat):Int))).filter (isJ j)).map wordJ = [.str (errName j)]:=by
 have all:∀ j∈Ac 15,(((Ac (15:Int).toNat).map fun i=>V.int (0 + ((i:Nat):Int))).filter (isJ j)).map wordJ = [.str (errName j)]:=by decide +kernel
 exact all j (B9.mpr h)
theorem zfZ:FnScope ["_law_e","_law_is_one","_law_words"] ["_law_e"] (defScope s_kind):=⟨rfl,rfl,rfl,by decide +kernel,rfl,by decide +kernel,by decide +kernel⟩
theorem ok_kind (D:DefAt K mg "_law_kind" s_kind) (T:Bn mg) {ea:Nat->A3} (EA:Ea mg ea):HCallee P w K mg base "_law_kind" 1 ["_law_e"] (spKind K ea):=by
 have V_BadName:=EA.n0
 have V_BadTeeth:=EA.n1
 have V_NameTaken:=EA.n2
 have V_BookFull:=EA.n3
 have V_NoComb:=EA.n4
 have V_BadTooth:=EA.n5
 have V_ToothThere:=EA.n6
 have V_FirstTooth:=EA.n7
 have V_ToothMissing:=EA.n8
 have V_DeedsFull:=EA.n9
 have V_NothingDone:=EA.n10
 have V_BadShape:=EA.n11
 have V_BadPlace:=EA.n12
 have V_BadLength:=EA.n13
 have V_NoFilling:=EA.n14
 refine D.hcalleeQ zfZ (fun _ _ _ _ _ _=>ln1 fun _=>rfl) (fun e c vs H Q E h => ?_) (fun f cdv A outer s H vs Q e oe c ws hc hd hq h => ?_)
 ·obtain ⟨rfl,_⟩:=h
  rfl
 ·obtain ⟨rfl,D,j,rfl,F,q⟩:=h
  have S:=zfZ
  have pin:(e,oe)∈(cxH P w K mg base ["_law_e","_law_is_one","_law_words"] "_law_kind" (defScope s_kind) f cdv A outer s H e oe).pn/\(oe.cls = .ref D/\oe.dict=none)/\∃ vs,oe.data = .fields vs:=⟨A6.mpr rfl,hc,ws,hd⟩
  refine ⟨_,zay (za7 (i:=1) S.nd rfl (Fe rfl) (zbd (zae (qe (zai zaP rfl T.n_isinstance Bl (zaa (pv 0) (zaa (zbi rfl V_BadName) zad)))) (zae (qe (zai zaP rfl T.n_isinstance Bl (zaa (pv 0) (zaa (zbi rfl V_BadTeeth) zad)))) (zae (qe (zai zaP rfl T.n_isinstance Bl (zaa (pv 0) (zaa (zbi rfl V_NameTaken) zad)))) (zaw))))))
  (zay (za7 (i:=1) S.nd rfl (Fe rfl) (zdo zbU (qe (pv 1)) (zbd (zae (qe (zai zaP rfl T.n_isinstance Bl (zaa (pv 0) (zaa (zbi rfl V_BookFull) zad)))) (zae (qe (zai zaP rfl T.n_isinstance Bl (zaa (pv 0) (zaa (zbi rfl V_NoComb) zad)))) (zae (qe (zai zaP rfl T.n_isinstance Bl (zaa (pv 0) (zaa (zbi rfl V_BadTooth) zad)))) (zaw)))))))
  (zay (za7 (i:=1) S.nd rfl (Fe rfl) (zdo zbU (qe (pv 1)) (zbd (zae (qe (zai zaP rfl T.n_isinstance Bl (zaa (pv 0) (zaa (zbi rfl V_ToothThere) zad)))) (zae (qe (zai zaP rfl T.n_isinstance Bl (zaa (pv 0) (zaa (zbi rfl V_FirstTooth) zad)))) (zaw))))))
  (zay (za7 (i:=1) S.nd rfl (Fe rfl) (zdo zbU (qe (pv 1)) (zbd (zae (qe (zai zaP rfl T.n_isinstance Bl (zaa (pv 0) (zaa (zbi rfl V_ToothMissing) zad)))) (zae (qe (zai zaP rfl T.n_isinstance Bl (zaa (pv 0) (zaa (zbi rfl V_DeedsFull) zad)))) (zaw))))))
  (zay (za7 (i:=1) S.nd rfl (Fe rfl) (zdo zbU (qe (pv 1)) (zbd (zae (qe (zai zaP rfl T.n_isinstance Bl (zaa (pv 0) (zaa (zbi rfl V_NothingDone) zad)))) (zae (qe (zai zaP rfl T.n_isinstance Bl (zaa (pv 0) (zaa (zbi rfl V_BadShape) zad)))) (zaw))))))
  (zay (za7 (i:=1) S.nd rfl (Fe rfl) (zdo zbU (qe (pv 1)) (zbd (zae (qe (zai zaP rfl T.n_isinstance Bl (zaa (pv 0) (zaa (zbi rfl V_BadPlace) zad)))) (zae (qe (zai zaP rfl T.n_isinstance Bl (zaa (pv 0) (zaa (zbi rfl V_BadLength) zad)))) (zae (qe (zai zaP rfl T.n_isinstance Bl (zaa (pv 0) (zaa (zbi rfl V_NoFilling) zad)))) (zaw)))))))
  (zay (za7 (i:=2) S.nd rfl (Fe rfl) (zbd (zae (qe (zau)) (zae (qe (zau)) (zae (qe (zau)) (zae (qe (zau)) (zae (qe (zau)) (zae (qe (zau)) (zae (qe (zau)) (zaw))))))))))
  (zay (za7 (i:=2) S.nd rfl (Fe rfl) (zdo zbU (qe (pv 2)) (zbd (zae (qe (zau)) (zae (qe (zau)) (zae (qe (zau)) (zae (qe (zau)) (zae (qe (zau)) (zaw)))))))))
  (zay (za7 (i:=2) S.nd rfl (Fe rfl) (zdo zbU (qe (pv 2)) (zbd (zae (qe (zau)) (zae (qe (zau)) (zae (qe (zau)) (zaw)))))))
  (zeR (zf6 (qe (pe_compq (own := ["_law_k"]) (caps := [(1,"_law_is_one"),(2,"_law_words")]) (QH e oe) (fun _ _ _ _ _ _=>hq.comp) ⟨rfl,rfl,rfl,rfl,⟨⟨rfl,rfl,.inl rfl⟩,⟨rfl,rfl,.inl rfl⟩,trivial⟩⟩ (pi_range1q rfl T.n_range (zaa (zab) zad)) (fun _ _ _ _ _ _=>zan (i:=0) (zaU (by decide +kernel)) rfl (Au rfl)) (fun _ _ _ _ _ _=>zcz (zbz (zaL (zcs K rfl) (pv 1) (pv 0) (fun _ _=>rfl)))) (fun _ _ _ _ _ _=>zaL (zcs K rfl) (pv 2) (pv 0) (fun _ _=>rfl)))))))))))))),?_⟩
  have M:Same H H:=Same.refl H
  refine ⟨_,rfl,_,_,D,oe,_,rfl,pin,F.cls,F.kit 0 (by decide),_,rfl,_,_,D,oe,_,rfl,pin,F.cls,F.kit 1 (by decide),_,rfl,_,_,D,oe,_,rfl,pin,F.cls,F.kit 2 (by decide),bigr rfl,fun a0 na => ?_⟩
  obtain ⟨M,e1⟩:=M.lstE (o := .lst [kb j 0,kb j 1,kb j 2]) na
  clear na
  refine ⟨_,rfl,_,rfl,_,_,D,oe,_,rfl,pin,F.cls,F.kit 3 (by decide),_,rfl,_,_,D,oe,_,rfl,pin,F.cls,F.kit 4 (by decide),_,rfl,_,_,D,oe,_,rfl,pin,F.cls,F.kit 5 (by decide),bigr rfl,fun a1 na => ?_⟩
  obtain ⟨M,e2⟩:=M.lstE (o := .lst [kb j 3,kb j 4,kb j 5]) na
  replace e1:=zbf (o := .lst [kb j 3,kb j 4,kb j 5]) e1 na
  clear na
  refine ⟨_,_,_,_,rfl,rfl,e1,e2,bigr rfl,fun c1 nc => ?_⟩
  obtain ⟨M,e1⟩:=M.lstE (o := .lst [kb j 0,kb j 1,kb j 2,kb j 3,kb j 4,kb j 5]) nc
  clear nc e2
  refine ⟨_,rfl,_,rfl,_,_,D,oe,_,rfl,pin,F.cls,F.kit 6 (by decide),_,rfl,_,_,D,oe,_,rfl,pin,F.cls,F.kit 7 (by decide),bigr rfl,fun a2 na => ?_⟩
  obtain ⟨M,e2⟩:=M.lstE (o := .lst [kb j 6,kb j 7]) na
  replace e1:=zbf (o := .lst [kb j 6,kb j 7]) e1 na
  clear na
  refine ⟨_,_,_,_,rfl,rfl,e1,e2,bigr rfl,fun c2 nc => ?_⟩
  obtain ⟨M,e1⟩:=M.lstE (o := .lst [kb j 0,kb j 1,kb j 2,kb j 3,kb j 4,kb j 5,kb j 6,kb j 7]) nc
  clear nc e2
  refine ⟨_,rfl,_,rfl,_,_,D,oe,_,rfl,pin,F.cls,F.kit 8 (by decide),_,rfl,_,_,D,oe,_,rfl,pin,F.cls,F.kit 9 (by decide),bigr rfl,fun a3 na => ?_⟩
  obtain ⟨M,e2⟩:=M.lstE (o := .lst [kb j 8,kb j 9]) na
  replace e1:=zbf (o := .lst [kb j 8,kb j 9]) e1 na
  clear na
  refine ⟨_,_,_,_,rfl,rfl,e1,e2,bigr rfl,fun c3 nc => ?_⟩
  obtain ⟨M,e1⟩:=M.lstE (o := .lst [kb j 0,kb j 1,kb j 2,kb j 3,kb j 4,kb j 5,kb j 6,kb j 7,kb j 8,kb j 9]) nc
  clear nc e2
  refine ⟨_,rfl,_,rfl,_,_,D,oe,_,rfl,pin,F.cls,F.kit 10 (by decide),_,rfl,_,_,D,oe,_,rfl,pin,F.cls,F.kit 11 (by decide),bigr rfl,fun a4 na => ?_⟩
  obtain ⟨M,e2⟩:=M.lstE (o := .lst [kb j 10,kb j 11]) na
  replace e1:=zbf (o := .lst [kb j 10,kb j 11]) e1 na
  clear na
  refine ⟨_,_,_,_,rfl,rfl,e1,e2,bigr rfl,fun c4 nc => ?_⟩
  obtain ⟨M,e1⟩:=M.lstE (o := .lst [kb j 0,kb j 1,kb j 2,kb j 3,kb j 4,kb j 5,kb j 6,kb j 7,kb j 8,kb j 9,kb j 10,kb j 11]) nc
  clear nc e2
  refine ⟨_,rfl,_,rfl,_,_,D,oe,_,rfl,pin,F.cls,F.kit 12 (by decide),_,rfl,_,_,D,oe,_,rfl,pin,F.cls,F.kit 13 (by decide),_,rfl,_,_,D,oe,_,rfl,pin,F.cls,F.kit 14 (by decide),bigr rfl,fun a5 na => ?_⟩
  obtain ⟨M,e2⟩:=M.lstE (o := .lst [kb j 12,kb j 13,kb j 14]) na
  replace e1:=zbf (o := .lst [kb j 12,kb j 13,kb j 14]) e1 na
  clear na
  refine ⟨_,_,_,_,rfl,rfl,e1,e2,bigr rfl,fun c5 nc => ?_⟩
  obtain ⟨M,e1⟩:=M.lstE (o := .lst [kb j 0,kb j 1,kb j 2,kb j 3,kb j 4,kb j 5,kb j 6,kb j 7,kb j 8,kb j 9,kb j 10,kb j 11,kb j 12,kb j 13,kb j 14]) nc
  clear nc e2
  refine ⟨bigr rfl,fun w0 nw => ?_⟩
  obtain ⟨M,f1⟩:=M.lstE (o := .lst [V.str (A0 "BadName"),V.str (A0 "BadTeeth"),V.str (A0 "NameTaken"),V.str (A0 "BookFull"),V.str (A0 "NoComb"),V.str (A0 "BadTooth"),V.str (A0 "ToothThere")]) nw
  replace e1:=zbf (o := .lst [V.str (A0 "BadName"),V.str (A0 "BadTeeth"),V.str (A0 "NameTaken"),V.str (A0 "BookFull"),V.str (A0 "NoComb"),V.str (A0 "BadTooth"),V.str (A0 "ToothThere")]) e1 nw
  clear nw
  refine ⟨_,rfl,bigr rfl,fun w1 nw => ?_⟩
  obtain ⟨M,f2⟩:=M.lstE (o := .lst [V.str (A0 "FirstTooth"),V.str (A0 "ToothMissing"),V.str (A0 "DeedsFull"),V.str (A0 "NothingDone"),V.str (A0 "BadShape")]) nw
  replace e1:=zbf (o := .lst [V.str (A0 "FirstTooth"),V.str (A0 "ToothMissing"),V.str (A0 "DeedsFull"),V.str (A0 "NothingDone"),V.str (A0 "BadShape")]) e1 nw
  replace f1:=zbf (o := .lst [V.str (A0 "FirstTooth"),V.str (A0 "ToothMissing"),V.str (A0 "DeedsFull"),V.str (A0 "NothingDone"),V.str (A0 "BadShape")]) f1 nw
  clear nw
  refine ⟨_,_,_,_,rfl,rfl,f1,f2,bigr rfl,fun x1 nx => ?_⟩
  obtain ⟨M,f1⟩:=M.lstE (o := .lst [V.str (A0 "BadName"),V.str (A0 "BadTeeth"),V.str (A0 "NameTaken"),V.str (A0 "BookFull"),V.str (A0 "NoComb"),V.str (A0 "BadTooth"),V.str (A0 "ToothThere"),V.str (A0 "FirstTooth"),V.str (A0 "ToothMissing"),V.str (A0 "DeedsFull"),V.str (A0 "NothingDone"),V.str (A0 "BadShape")]) nx
  replace e1:=zbf (o := .lst [V.str (A0 "BadName"),V.str (A0 "BadTeeth"),V.str (A0 "NameTaken"),V.str (A0 "BookFull"),V.str (A0 "NoComb"),V.str (A0 "BadTooth"),V.str (A0 "ToothThere"),V.str (A0 "FirstTooth"),V.str (A0 "ToothMissing"),V.str (A0 "DeedsFull"),V.str (A0 "NothingDone"),V.str (A0 "BadShape")]) e1 nx
  clear nx f2
  refine ⟨_,rfl,bigr rfl,fun w2 nw => ?_⟩
  obtain ⟨M,f2⟩:=M.lstE (o := .lst [V.str (A0 "BadPlace"),V.str (A0 "BadLength"),V.str (A0 "NoFilling")]) nw
  replace e1:=zbf (o := .lst [V.str (A0 "BadPlace"),V.str (A0 "BadLength"),V.str (A0 "NoFilling")]) e1 nw
  replace f1:=zbf (o := .lst [V.str (A0 "BadPlace"),V.str (A0 "BadLength"),V.str (A0 "NoFilling")]) f1 nw
  clear nw
  refine ⟨_,_,_,_,rfl,rfl,f1,f2,bigr rfl,fun x2 nx => ?_⟩
  obtain ⟨M,f1⟩:=M.lstE (o := .lst [V.str (A0 "BadName"),V.str (A0 "BadTeeth"),V.str (A0 "NameTaken"),V.str (A0 "BookFull"),V.str (A0 "NoComb"),V.str (A0 "BadTooth"),V.str (A0 "ToothThere"),V.str (A0 "FirstTooth"),V.str (A0 "ToothMissing"),V.str (A0 "DeedsFull"),V.str (A0 "NothingDone"),V.str (A0 "BadShape"),V.str (A0 "BadPlace"),V.str (A0 "BadLength"),V.str (A0 "NoFilling")]) nx
  replace e1:=zbf (o := .lst [V.str (A0 "BadName"),V.str (A0 "BadTeeth"),V.str (A0 "NameTaken"),V.str (A0 "BookFull"),V.str (A0 "NoComb"),V.str (A0 "BadTooth"),V.str (A0 "ToothThere"),V.str (A0 "FirstTooth"),V.str (A0 "ToothMissing"),V.str (A0 "DeedsFull"),V.str (A0 "NothingDone"),V.str (A0 "BadShape"),V.str (A0 "BadPlace"),V.str (A0 "BadLength"),V.str (A0 "NoFilling")]) e1 nx
  clear nx f2
  refine ⟨_,rfl,by decide,by decide,fun Dc hD => ?_⟩
  refine zbW (capv := [some (.ref c5),some (.ref x2)]) (by rfl) (zaX 0 (15:Int).toNat) (bigr rfl) hD ?_ (isJ j) wordJ ?_ ?_ ?_
  ·exact fun _ _=>trivial
  ·intro v hv H' R s' h
   obtain ⟨t,ht,rfl⟩:=Ab.mp hv
   have ht15:t < 15:=B9.mp ht
   refine ⟨_,rfl,_,rfl,_,_,_,_,rfl,rfl,SqL.of (s' _ _ e1),(?_:atI (kBools j) (0 + ((t:Nat):Int))=some (kb j t)),_,rfl,?_⟩
   ·rw [Eo]
    refine zax ?_
    unfold kBools
    rw [Ai,C7 ht15]
    rfl
   ·have e:isJ j (.int (0 + ((t:Nat):Int)))=decide (t=j):=by
     show decide ((0 + ((t:Nat):Int)).toNat=j)=_
     rw [Eo,D8]
    have h:=h H' (Same.refl _)
    rw [e] at h
    exact h
  ·intro v hv hp H' R s' h
   obtain ⟨t,ht,rfl⟩:=Ab.mp hv
   have ht15:t < 15:=B9.mp ht
   refine ⟨_,rfl,_,rfl,_,_,_,_,rfl,rfl,SqL.of (s' _ _ f1),(?_:atI (errNames.map V.str) (0 + ((t:Nat):Int))=some (wordJ (.int (0 + ((t:Nat):Int))))),h H' (Same.refl _)⟩
   rw [Eo]
   refine zax ?_
   have hl:t < errNames.length:=ht15
   show (errNames.map V.str)[t]?=some (.str (errName ((t:Nat):Int).toNat))
   rw [Ai,Aa hl,D8]
   unfold errName
   rw [Aj,Aa hl]
   rfl
  ·intro H' s' e
   rw [kind_res F.lt] at e
   exact q _ H' (M.trans s') (M.free hD) e
theorem at0 {x y:V}:atI [x,y] 0=some x:=show atI [x,y] ((0:Nat):Int)=_ from zax rfl
theorem at1 {x y:V}:atI [x,y] 1=some y:=show atI [x,y] ((1:Nat):Int)=_ from zax rfl
noncomputable def sp_refused (K:Al):Sp:=fun vs H Q _=>∃ (a l:A3) (x:Str),vs = [.ref a,.str x]/\Lj x=true/\H a=some (.tup [.str (A0 "refused"),.ref l])/\H l=some (.lst [.str x])/\∀ H',Same H H'->Q (.bl true) H'
theorem zdz {x:Str} (h:Lj x=true):Fa (.list [.str x])=true:=by simp [h,Fa,Fk,Ch,Hn,Eb]
theorem eqv_one (x:Str):E3 (.list [.str x]) (.list [.str x])=true:=by simp [E3,J9]
theorem zdA:FnScope ["_law_found","_law_due"] ["_law_found","_law_due"] (defScope s_refused):=⟨rfl,rfl,rfl,by decide +kernel,rfl,by decide +kernel,by decide +kernel⟩
theorem ok_refused (D:DefAt K mg "_law_refused" s_refused) (T:Bn mg):Callee P w K mg base "_law_refused" 2 ["_law_found","_law_due"] (sp_refused K):=by
 refine D.callee zdA (fun _ _ _ _ _ _=>ln2 fun _ _=>rfl) (fun vs H Q E h => ?_) (fun f cdv A outer s H vs Q E hr h => ?_)
 ·obtain ⟨a,l,x,rfl,_⟩:=h
  rfl
 ·obtain ⟨a,l,x,rfl,hok,ha,hl,q⟩:=h
  have S:=zdA
  have a0:atI [V.str (A0 "refused"),V.ref l] 0=some (V.str (A0 "refused")):=at0
  have a1:atI [V.str (A0 "refused"),V.ref l] 1=some (V.ref l):=at1
  refine ⟨_,zaf (zaF (PW.pt (zeh (zbA (zbz (zai (zbw "tuple") rfl T.n_isinstance Bl (zaa (pv 0) (zaa (zbS (v := .ty "tuple") rfl T.n_tuple M8 rfl) zad))))) (zeh (zao zdU (zai zat rfl T.n_len Bz (zaa (pv 0) zad)) (zab) (zav _)) (zc3 (zao zdU (zaL za9 (pv 0) (zab) (fun _ _=>rfl)) (zau) (zav _))))))
   (zag (zaj (zb6)))
   (zam))
  (zag (zaj (zeU (zgZ hr.units) (zaL za9 (pv 0) (zab) (fun _ _=>rfl)) (za4 (zaa (pv 1) zad)) (zav _)))),?_⟩
  refine ⟨_,rfl,_,_,true,rfl,.tup ha,rfl,_,rfl,?_⟩
  refine iteF ?_
  refine ⟨_,rfl,_,_,rfl,.inr (SqT.of ha),rfl,_,rfl,?_⟩
  refine iteF ?_
  refine ⟨_,rfl,_,_,_,_,rfl,rfl,SqT.of ha,a0,rfl,_,rfl,?_⟩
  refine iteF ?_
  refine ⟨_,rfl,_,_,_,_,rfl,rfl,SqT.of ha,a1,_,rfl,bigr rfl,fun p np => ?_⟩
  have s1:Same H (upd H p (.lst [.str x])):=Same.new np
  refine ⟨_,_,.lst (SqL.of (s1 _ _ hl)) (.cons (.str x) .nil),.lst (SqL.of zac) (.cons (.str x) .nil),zdz hok,zdz hok,?_⟩
  rw [if_neg A9,eqv_one]
  exact q _ s1
theorem zg3 {ks:List (Str×List Int)} (nd:(ks.map (·.1)).Nodup) {i:Nat} {k:Str×List Int} (h:ks[i]?=some k):cGet (ks.take i) k.1=none:=by
 rw [get_none]
 intro hm
 obtain ⟨c,hc,e⟩:=Ab.mp hm
 obtain ⟨j,hj,ej⟩:=Fd hc
 have hi:=(Av.mp h).1
 have hj':j < i:=by
  have:=hj
  rw [D0] at this
  omega
 have e1:(ks.map (·.1))[j]?=some k.1:=by
  rw [Ai,Aa (by omega)]
  rw [Ju] at ej
  rw [ej]
  exact congrArg some e
 have e2:(ks.map (·.1))[i]?=some k.1:=by rw [Ai,h]; rfl
 have:=(List.getElem?_inj (by rw [A5]; omega) nd).mp (e1.trans e2.symm)
 omega
noncomputable def sp_mkbook (C:A3):Sp:=fun vs H Q _=>∃ (a:A3) (ws:List V) (ks:List (Str×List Int)),vs = [.ref a]/\H a=some (.lst ws)/\Drawn (fun _=>True) H ws ks/\ks.length<=8 /\
 ∀ b l G past H',Same H H'->H b=none->H l=none->(∀ x,G x->H x=none)->Bk C G H' b l ks past->past.length=ks.length->Q (.ref b) H'
theorem zf3:FnScope ["_law_kinds","_law_book_here","_law_word_here","_law_teeth_here"] ["_law_kinds"] (defScope s_book):=⟨rfl,rfl,rfl,by decide +kernel,rfl,by decide +kernel,by decide +kernel⟩
theorem ok_mkbook {ea:Nat->A3} {C:A3} (D:DefAt K mg "_law_book" s_book) (T:Bn mg) (BA:BookAt K C) (C_Book:Maker P w K mg base "Book" C CX0 1 ["self"] (sp_init C)) (M_put:Method P w K mg base C "put" (CX1 P w) 3 ["self","name","teeth"] (sp_put (K:=K) ea C)):Callee P w K mg base "_law_book" 4 ["_law_kinds"] (sp_mkbook C):=by
 refine D.callee zf3 (fun _ _ _ _ _ _=>ln1 fun _=>rfl) (fun vs H Q E h => ?_) (fun f cdv A outer s H vs Q E hr h => ?_)
 ·obtain ⟨a,ws,ks,rfl,_⟩:=h
  rfl
 ·obtain ⟨a,ws,ks,rfl,ha,dr,hk8,q⟩:=h
  have S:=zf3
  have hu:=zde hr
  have B_cls:=BA.cls
  have hlen:=dr.rows.length
  refine ⟨_,zaf (zaq (i:=1) S.nd rfl (Au rfl) (pe_mk0 C_Book (hr.mono (by decide)) (by first | exact zem | exact za3 | exact zcJ | exact zbg) rfl))
  (zaf (zbe C2 rfl (zaI (pv 0)) (zfr rfl (zaE (zan (i:=2) S.nd rfl (Au rfl)) (zaE (zan (i:=3) S.nd rfl (Au rfl)) (zbE))))
   (zag (za5 (zgb (pv 1) B_cls M_put (hr.mono (by decide)) (by first | exact zem | exact za3 | exact zcJ | exact zbg) (zaa (pv 2) (zaa (zbn zbY rfl T.n_list L7 (zaa (pv 3) zad)) zad))))))
  (zag (zaj (pv 1)))),?_⟩
  refine fun b dx nb ndx ndb=>⟨b,dx,rfl,zac,fun H1 l d m nl nd B=>⟨rfl,?_⟩⟩
  have hlb:l≠b:=fun z=>by rw [z,zac] at nl; cases nl
  have nl0:H l=none:=by
   rw [zah hlb] at nl
   by_cases z:l=dx
   ·rw [z]; exact ndx
   ·rw [zah z] at nl; exact nl
  have hdb:d≠b:=fun z=>by rw [z,zac] at nd; cases nd
  have nd0:H d=none:=by
   rw [zah hdb] at nd
   by_cases z:d=dx
   ·rw [z]; exact ndx
   ·rw [zah z] at nd; exact nd
  have s1:Same H H1:=fun x o e=>m.keep x o (by rw [zah (zal e nb),zah (zal e ndx)]; exact e) (zal e nb) (zal e nb)
  refine ⟨_,rfl,_,rfl,⟨_,SqL.of (s1 _ _ ha)⟩,?_⟩
  refine zb7 (zar K a ws) (fun i σ H2=>Same H H2/\∃ G past x2 x3,σ = [some (.ref a),some (.ref b),x2,x3]/\Bk C G H2 b l (ks.take i) past/\past.length=i/\∀ x,G x->H x=none) ⟨s1,_,[],_,_,rfl,B,rfl,fun x g=>by rw [show x=d from g]; exact nd0⟩ (fun i σ H2 _ h=>SqL.of (h.1 _ _ ha)) ?_ ?_
  ·rintro i x σ H2 hx ⟨s2,G,past,x2,x3,rfl,B2,hp,hG⟩
   obtain ⟨k,qa,t,hk,rfl,hq,ht⟩:=(dr.same s2).rows.get hx
   have hi:i < ks.length:=(Av.mp hk).1
   obtain ⟨hkn,hkg⟩:=dr.good k (Bh hk)
   obtain ⟨dx2,d2,hb2,_⟩:=id B2.ins
   refine ⟨qa,_,rfl,SqL.of hq,rfl,_,_,rfl,_,_,rfl,rfl,?_⟩
   refine ⟨_,rfl,b,dx2,_,rfl,hb2,rfl,_,rfl,_,rfl,t,_,rfl,.inl (SqL.of ht),fun p np => ?_⟩
   have s3:Same H2 (upd H2 p (.lst (k.2.map V.int))):=Same.new np
   refine ⟨b,l,G,_,past,k.1,p,k.2,rfl,B2.same s3,SqL.of zac,?_,?_,?_⟩
   ·exact big (by have:=name_len hkn; omega)
   ·have:=zgv hkg; omega
   have hlt:(ks.take i).length=i:=by rw [D0]; omega
   have e:putD (ks.take i) past k.1 k.2 = .ok (ks.take (i + 1)):=by
    unfold putD full
    rw [if_neg (by rw [hkn]; decide),if_neg (by rw [gt_teeth hkg]; decide),zg3 dr.nd hk,if_neg (by simp),if_neg (by omega),if_neg (by omega),zf7 (zg3 dr.nd hk),gt_eq hkg,zaG hk]
   rw [e]
   intro H4 G4 m4 B4
   refine ⟨fun x o e'=>m4.keep x o (s3 _ _ (s2 _ _ e')) (zal e' nb) (zal e' nl0),G4,_,_,_,rfl,B4,by rw [Ah,Bm,hp],fun x g => ?_⟩
   rcases m4.new x g with g | g
   ·exact hG x g
   ·exact (s2.trans s3).free g
  ·rintro σ H2 ⟨s2,G,past,x2,x3,rfl,B2,hp,hG⟩
   rw [Ia (by omega)] at B2
   exact ⟨_,rfl,q b l G past H2 s2 nb nl0 hG B2 (by omega)⟩
noncomputable def tellT (Q:VK):VK:=fun v H1=>(2:Nat)<=sizeLine/\∀ p,H1 p=none->Q (.ref p) (upd H1 p (.tup [.str (A0 "told"),v]))
noncomputable def refuT (K:Al) (ea:Nat->A3) (ce:A1) (Q:VK):XK:=fun c _ H1=>∃ D j,c = .ref D/\KindF K ea D j/\Ii K (.ref D) ce=some true/\∀ p l H2,Same H1 H2->H1 l=none->H2 l=some (.lst [.str (errName j)])->H2 p=none->Q (.ref p) (upd H2 p (.tup [.str (A0 "refused"),.ref l]))
noncomputable def spTry1 (K:Al) (ea:Nat->A3) (ce:A1) (C:A3) (m:Str) (sp:Sp):Sp:=fun vs H Q _=>∃ b x dx fs,vs = [.ref b,x]/\H b=some (.ins C dx fs)/\fs.lookup m=none/\sp [.ref b,x] H (tellT Q) (refuT K ea ce Q)
noncomputable def spTry2 (K:Al) (ea:Nat->A3) (ce:A1) (C:A3) (m:Str) (sp:Sp):Sp:=fun vs H Q _=>∃ b x y dx fs,vs = [.ref b,x,y]/\H b=some (.ins C dx fs)/\fs.lookup m=none/\sp [.ref b,x,y] H (tellT Q) (refuT K ea ce Q)
noncomputable def spTry0 (K:Al) (ea:Nat->A3) (ce:A1) (C:A3) (m:Str) (sp:Sp):Sp:=fun vs H Q _=>∃ b dx fs,vs = [.ref b]/\H b=some (.ins C dx fs)/\fs.lookup m=none/\sp [.ref b] H (tellT Q) (refuT K ea ce Q)
noncomputable def spTryF (K:Al) (ea:Nat->A3) (ce:A1) (sp:Sp):Sp:=fun vs H Q _=>∃ x y,vs = [x,y]/\sp [x,y] H (tellT Q) (refuT K ea ce Q)
theorem zfo:FnScope ["_law_book_here","_law_length_here","_law_e"] ["_law_book_here","_law_length_here"] (defScope s_asked):=⟨rfl,rfl,rfl,by decide +kernel,rfl,by decide +kernel,by decide +kernel⟩
theorem ok_tasked (D:DefAt K mg "_law_asked" s_asked) (T:Bn mg) {ea:Nat->A3} {ce:A1} {sp:Sp} (V_CombError:mg "CombError" = some ce) (C_kind:HCallee P w K mg base "_law_kind" 1 ["_law_e"] (spKind K ea))
  (C_first_filling:Callee1 P w K mg base "first_filling" 5 ["book","length"] sp):Callee P w K mg base "_law_asked" 6 ["_law_book_here","_law_length_here"] (spTryF K ea ce sp):=by
 refine D.callee zfo (fun _ _ _ _ _ _=>ln2 fun _ _=>rfl) (fun vs H Q E h => ?_) (fun f cdv A outer s H vs Q E hr h => ?_)
 ·obtain ⟨x,y,rfl,_⟩:=h
  rfl
 ·obtain ⟨x,y,rfl,h⟩:=h
  have S:=zfo
  refine ⟨_,zag (ps_try (i:=2) rfl rfl S.nd rfl rfl rfl V_CombError (fun E pn=>zag (zaj (zbu (zaa (zau) (zaa (zek C_first_filling (hr.mono (by decide)) (by first | exact za3 | exact zcJ | exact zbg) rfl (zaa (pv 0) (zaa (pv 1) zad))) zad)))))
   (fun x c ox pn vs hc hd h2 hx=>zag (zaj (zbu (zaa (zau) (zaa (pe_hand C_kind hr hx hc hd h2 (by decide) rfl (zaa (pv 2) zad)) zad)))))),?_⟩
  refine ⟨refuT K ea ce Q,⟨_,rfl,_,rfl,h⟩,fun c H' x' hE hx' => ?_⟩
  obtain ⟨Dd,j,rfl,kf,he,q⟩:=hE
  refine ⟨he,_,rfl,rfl,Dd,j,rfl,kf,fun p H2 s2 n2 e2=>⟨bigr rfl,fun p' np' => ?_⟩⟩
  exact q p' p H2 s2 n2 e2 np'
theorem ej_re {K:Al} {ea:Nat->A3} {ce:A1} {j:Nat} (e:EJ K ea ce j) {Q:VK} {H:Hp} (q:∀ p l H2,Same H H2->H l=none->H2 l=some (.lst [.str (errName j)])->H2 p=none->Q (.ref p) (upd H2 p (.tup [.str (A0 "refused"),.ref l]))):refuT K ea ce Q (.ref (ea j)) none H:=⟨ea j,j,rfl,e.kf,e.ex,q⟩
noncomputable def Ans (H:Hp) (fd:A3):Except Nat Int->Prop
 | .ok n=>H fd=some (.tup [.str (A0 "told"),.int n])
 | .error j=>∃ le,H fd=some (.tup [.str (A0 "refused"),.ref le])/\H le=some (.lst [.str (errName j)])
theorem Ans.same {H H':Hp} {fd:A3} {r:Except Nat Int} (a:Ans H fd r) (s:Same H H'):Ans H' fd r:=by
 cases r with
 | ok n=>exact s _ _ a
 | error j=>obtain ⟨le,h1,h2⟩:=a; exact ⟨le,s _ _ h1,s _ _ h2⟩
theorem zfH {K:Al} {ea:Nat->A3} {ce:A1} {j:Nat} (e:EJ K ea ce j) {Q:VK} {H:Hp} (q:∀ fd H2,Same H H2->Ans H2 fd (.error j)->Q (.ref fd) H2):refuT K ea ce Q (.ref (ea j)) none H :=
 ej_re e fun p le H2 s nle hle np=>q p _ (s.put (s.free np)) ⟨le,zac,by rw [zah (zal hle np)]; exact hle⟩
noncomputable def csOf (r:Except Nat Combs) (cs:Combs):Combs:=match r with
 | .ok c=>c
 | .error _=>cs
noncomputable def pastOf (r:Except Nat Combs) (cs:Combs) (past:List Combs):List Combs:=match r with
 | .ok _=>past ++ [cs]
 | .error _=>past
noncomputable def ansOf (r:Except Nat Combs) (past:List Combs):Except Nat Int:=match r with
 | .ok _ => .ok ((past.length:Int) + 1)
 | .error j => .error j
theorem deed_try {K:Al} {ea:Nat->A3} {ce:A1} {C b l:A3} {G:A3->Prop} {H:Hp} {cs:Combs} {past:List Combs} {Q:VK} {r:Except Nat Combs} (B:Bk C G H b l cs past) (ej:∀ j,r = .error j->EJ K ea ce j)
  (q:∀ Hx fd Gx,Mv b l G Gx H Hx->Bk C Gx Hx b l (csOf r cs) (pastOf r cs past)->Ans Hx fd (ansOf r past)->Q (.ref fd) Hx):Deed ea C G H b l cs past (tellT Q) (refuT K ea ce Q) r:=by
 cases r with
 | error j =>
  intro H' s
  exact zfH (ej j rfl) fun fd H2 s2 a=>q H2 fd G (Mv.ofSame (s.trans s2)) (B.same (s.trans s2)) a
 | ok cs' =>
  intro H' G' m B'
  refine ⟨bigr rfl,fun p np => ?_⟩
  have s2:Same H' (upd H' p (.tup [.str (A0 "told"),.int ((past.length:Int) + 1)])):=Same.new np
  exact q _ p G' (m.trans (Mv.ofSame s2)) (B'.same s2) zac
noncomputable def spLaw (K:Al):Sp:=fun vs H Q _=>∃ (a:A3) (ns:List Int),vs = [.ref a]/\SqL K H a (ns.map V.int)/\ns.length<=63/\∀ H',Q (.bl true) H'
noncomputable def raw (c:Int):Int:=if c < 0 then -((-c) % 10 ^ 40) else c % 10 ^ 40
theorem p40:(0:Int) < 10 ^ (40:Int).toNat:=by decide
noncomputable def sp_raw:Sp:=fun vs H Q _=>∃ (c:Int),vs = [.int c]/\Q (.int (raw c)) H
theorem zgQ:FnScope ["_law_cell"] ["_law_cell"] (defScope s_raw):=⟨rfl,rfl,rfl,by decide +kernel,rfl,by decide +kernel,by decide +kernel⟩
theorem ok_raw (D:DefAt K mg "_law_raw" s_raw) (T:Bn mg):Callee P w K mg base "_law_raw" 1 ["_law_cell"] sp_raw:=by
 refine D.callee zgQ (fun _ _ _ _ _ _=>ln1 fun _=>rfl) (fun vs H Q E h => ?_) (fun f cdv A outer s H vs Q E hr h => ?_)
 ·obtain ⟨c,rfl,_⟩:=h
  rfl
 ·obtain ⟨c,rfl,q⟩:=h
  have S:=zgQ
  unfold raw at q
  refine ⟨_,zaf (zaF (zao zgg (pv 0) (zab) (zav _))
   (zag (zaj (zeT zcX (zas zaQ (zeT zcX (pv 0)) (zas zfv (zab) (zab))))))
   (zam))
  (zag (zaj (zas zaQ (pv 0) (zas zfv (zab) (zab))))),?_⟩
  refine ⟨_,rfl,_,_,rfl,rfl,_,rfl,?_⟩
  refine ite2 (fun hc => ?_) (fun hc => ?_)
  ·rw [if_pos (of_decide_eq_true hc)] at q
   exact ⟨_,rfl,_,rfl,_,_,rfl,rfl,⟨by decide,by decide,by decide⟩,_,_,rfl,rfl,p40,_,rfl,q⟩
  ·rw [if_neg (fun z=>hc (decide_eq_true z))] at q
   exact ⟨_,rfl,_,_,rfl,rfl,⟨by decide,by decide,by decide⟩,_,_,rfl,rfl,p40,q⟩
noncomputable def sp_laying:Sp:=fun vs H Q _=>∃ (q:A3) (a:Int) (x:Str),vs = [.ref q]/\H q=some (.tup [.int a,.str x])/\Q (.bl true) H
theorem zee:FnScope ["_law_one"] ["_law_one"] (defScope s_laying):=⟨rfl,rfl,rfl,by decide +kernel,rfl,by decide +kernel,by decide +kernel⟩
theorem ok_laying (D:DefAt K mg "_law_laying" s_laying) (T:Bn mg) (C_whole:Callee P w K mg base "_law_whole" 1 ["_law_found"] sp_whole):Callee P w K mg base "_law_laying" 2 ["_law_one"] sp_laying:=by
 refine D.callee zee (fun _ _ _ _ _ _=>ln1 fun _=>rfl) (fun vs H Q E h => ?_) (fun f cdv A outer s H vs Q E hr h => ?_)
 ·obtain ⟨qa,a,x,rfl,_⟩:=h
  rfl
 ·obtain ⟨qa,a,x,rfl,hq,q⟩:=h
  have S:=zee
  refine ⟨_,zaf (zaF (PW.pt (zeh (zbA (zbz (zai (zbw "tuple") rfl T.n_isinstance Bl (zaa (pv 0) (zaa (zbS (v := .ty "tuple") rfl T.n_tuple M8 rfl) zad))))) (zc3 (zao zdU (zai zat rfl T.n_len Bz (zaa (pv 0) zad)) (zab) (zav _)))))
   (zag (zaj (zb6)))
   (zam))
  (zag (zaj (zgY (zaJ C_whole (hr.mono (by decide)) rfl (zaa (zaL za9 (pv 0) (zab) (fun _ _=>rfl)) zad)) (zgV (zai (zbw "str") rfl T.n_isinstance Bl (zaa (zaL za9 (pv 0) (zab) (fun _ _=>rfl)) (zaa (zbS (v := .ty "str") rfl T.n_str boot_str rfl) zad))))))),?_⟩
  refine ⟨_,rfl,_,_,true,rfl,.tup hq,rfl,_,rfl,?_⟩
  refine iteF ?_
  refine ⟨_,rfl,_,_,rfl,.inr (SqT.of hq),rfl,_,rfl,?_⟩
  refine iteF ?_
  refine ⟨_,rfl,_,_,_,_,rfl,rfl,SqT.of hq,at0,a,rfl,_,rfl,?_⟩
  refine iteT ?_
  exact ⟨_,rfl,_,_,_,_,rfl,rfl,SqT.of hq,at1,_,_,true,rfl,.str x,rfl,q⟩
noncomputable def sp_layings:Sp:=fun vs H Q _=>∃ (p:A3) (ws:List V),vs = [.ref p]/\H p=some (.lst ws)/\(∀ (i:Nat) x,ws[i]?=some x->∃ q a s,x = .ref q/\H q=some (.tup [.int a,.str s]))/\Q (.bl true) H
theorem zdB:FnScope ["_law_found","_law_one"] ["_law_found"] (defScope s_layings):=⟨rfl,rfl,rfl,by decide +kernel,rfl,by decide +kernel,by decide +kernel⟩
theorem ok_layings (D:DefAt K mg "_law_layings" s_layings) (T:Bn mg) (C_laying:Callee P w K mg base "_law_laying" 2 ["_law_one"] sp_laying):Callee P w K mg base "_law_layings" 3 ["_law_found"] sp_layings:=by
 refine D.callee zdB (fun _ _ _ _ _ _=>ln1 fun _=>rfl) (fun vs H Q E h => ?_) (fun f cdv A outer s H vs Q E hr h => ?_)
 ·obtain ⟨p,ws,rfl,_⟩:=h
  rfl
 ·obtain ⟨p,ws,rfl,hp,hw,q⟩:=h
  have S:=zdB
  refine ⟨_,zaf (zaF (zbA (zbz (zai (zbw "list") rfl T.n_isinstance Bl (zaa (pv 0) (zaa (zbS (v := .ty "list") rfl T.n_list L7 rfl) zad)))))
   (zag (zaj (zb6)))
   (zam))
  (zaf (zbe C2 rfl (zaI (pv 0)) (zan (i:=1) S.nd rfl (Au rfl))
   (zag (zaF (zbA (zbz (zaJ C_laying (hr.mono (by decide)) rfl (zaa (pv 1) zad))))
    (zag (zaj (zb6)))
    (zam))))
  (zag (zaj (zb6)))),?_⟩
  refine ⟨_,rfl,_,_,true,rfl,.lst hp,rfl,_,rfl,?_⟩
  refine iteF ?_
  refine ⟨_,rfl,_,rfl,⟨_,SqL.of hp⟩,?_⟩
  refine zb7 (zar K p ws) (fun i σ Hx=>Hx=H/\∃ x1,σ = [some (.ref p),x1]) ⟨rfl,_,rfl⟩ (fun i σ Hx _ h=>by rw [h.1]; exact SqL.of hp) ?_ ?_
  ·rintro i x σ Hx hx ⟨rfl,x1,rfl⟩
   obtain ⟨qa,a,x',rfl,e⟩:=hw i x hx
   refine ⟨_,rfl,qa,a,x',rfl,e,_,rfl,?_⟩
   refine iteF ?_
   exact ⟨rfl,_,rfl⟩
  ·rintro σ Hx ⟨rfl,x1,rfl⟩
   exact q
theorem at4 {x y z u:V}:atI [x,y,z,u] 0=some x/\atI [x,y,z,u] 1=some y/\atI [x,y,z,u] 2=some z/\atI [x,y,z,u] 3=some u:=⟨show atI _ ((0:Nat):Int)=_ from zax rfl,show atI _ ((1:Nat):Int)=_ from zax rfl,show atI _ ((2:Nat):Int)=_ from zax rfl,show atI _ ((3:Nat):Int)=_ from zax rfl⟩
theorem lays_each {H:Hp} {ws:List V} {nm:Nat->Str} {n:Nat} (r:LaysR H ws nm n):∀ (i:Nat) x,ws[i]?=some x->∃ q a s,x = .ref q/\H q=some (.tup [.int a,.str s]):=fun i x h=>by
 obtain ⟨j,_,q,e1,e2⟩:=C3.rev r h
 exact ⟨q,_,_,e1,e2⟩
noncomputable def sp_fit:Sp:=fun vs H Q _=>∃ (fl:A3) (i m n:Nat) (F:Nat->Bool),vs = [.ref fl,.int (i:Nat),.int (n:Nat)]/\H fl=some (.lst ((Ac m).map fun k=>V.bl (F k)))/\i < m/\(∀ k,i<=k->F (k + (m - i))=F k)/\Q (.bl (F n)) H
theorem zga {F:Nat->Bool} {i p:Nat} (h:∀ k,i<=k->F (k + p)=F k) (r:Nat):∀ j,F (i + r + j * p)=F (i + r)
 | 0=>by rw [Nat.zero_mul,Ka]
 | j + 1=>by rw [Kt,<- Ew,h _ (by omega),zga h r j]
theorem zgS:FnScope ["_law_fits_here","_law_again","_law_length_here"] ["_law_fits_here","_law_again","_law_length_here"] (defScope s_fit):=⟨rfl,rfl,rfl,by decide +kernel,rfl,by decide +kernel,by decide +kernel⟩
theorem ok_fit (D:DefAt K mg "_law_fit" s_fit) (T:Bn mg):Callee P w K mg base "_law_fit" 1 ["_law_fits_here","_law_again","_law_length_here"] sp_fit:=by
 refine D.callee zgS (fun _ _ _ _ _ _=>ln3 fun _ _ _=>rfl) (fun vs H Q E h => ?_) (fun f cdv A outer s H vs Q E hr h => ?_)
 ·obtain ⟨fl,i,m,n,F,rfl,_⟩:=h
  rfl
 ·obtain ⟨fl,i,m,n,F,rfl,hfl,him,per,q⟩:=h
  have S:=zgS
  have hfat:∀ n,n < m->((Ac m).map fun k=>V.bl (F k))[n]?=some (V.bl (F n)):=fun n hn=>by rw [Ai,C7 hn]; rfl
  have elen:(((Ac m).map fun k=>V.bl (F k)).length:Int)=((m:Nat):Int):=by rw [A5,Ax]
  refine ⟨_,zaf (zaF (zao zgg (pv 2) (zai zat rfl T.n_len Bz (zaa (pv 0) zad)) (zav _))
   (zag (zaj (zaL zaN (pv 0) (pv 2) (fun _ _=>rfl))))
   (zam))
  (zag (zaj (zaL zaN (pv 0) (zas zbv (pv 1) (zas zaQ (zas zdF (pv 2) (pv 1)) (zas zdF (zai zat rfl T.n_len Bz (zaa (pv 0) zad)) (pv 1)))) (fun _ _=>rfl)))),?_⟩
  refine ⟨_,rfl,_,rfl,_,_,rfl,.inl (SqL.of hfl),_,_,rfl,rfl,_,rfl,?_⟩
  rw [elen]
  by_cases h:n < m
  ·rw [decide_eq_true (show ((n:Nat):Int) < ((m:Nat):Int) by omega)]
   refine iteT ?_
   exact ⟨_,rfl,_,rfl,_,_,_,_,rfl,rfl,SqL.of hfl,zax (hfat n h),q⟩
  ·rw [decide_eq_false (show ¬ ((n:Nat):Int) < ((m:Nat):Int) by omega)]
   refine iteF ?_
   have hp:(0:Int) < (((Ac m).map fun k=>V.bl (F k)).length:Int) - ((i:Nat):Int):=by rw [elen]; omega
   refine ⟨_,rfl,_,rfl,_,rfl,_,rfl,_,_,rfl,rfl,_,rfl,_,_,rfl,.inl (SqL.of hfl),_,rfl,_,_,rfl,rfl,_,_,rfl,rfl,hp,_,_,rfl,rfl,_,_,_,_,rfl,rfl,SqL.of hfl,?_,q⟩
   have e:((i:Nat):Int) + (((n:Nat):Int) - ((i:Nat):Int)) % ((((List.range m).map fun k=>V.bl (F k)).length:Int) - ((i:Nat):Int))=((i + (n - i) % (m - i):Nat):Int):=by
    rw [elen,show ((n:Nat):Int) - ((i:Nat):Int)=((n - i:Nat):Int) by omega,show ((m:Nat):Int) - ((i:Nat):Int)=((m - i:Nat):Int) by omega,<- Int.natCast_emod]
    omega
   rw [e]
   have hlt:=Nat.mod_lt (n - i) (show 0 < m - i by omega)
   have ef:F n=F (i + (n - i) % (m - i)):=by
    have:=zga per ((n - i) % (m - i)) ((n - i) / (m - i))
    rw [<- this]
    congr 1
    have:=Nat.div_add_mod (n - i) (m - i)
    rw [Pb] at this
    omega
   rw [ef]
   exact zax (hfat _ (by omega))
theorem zfG {C:Combs} (g:GC C) {i m:Nat} (him:i < m) (hp:∀ s,HR C i s ↔ HR C m s) (k:Nat) (hk:i<=k):filB C (k + (m - i))=filB C k:=by
 rw [Bd,zcS g,zcS g]
 have:=zgs hp (k - i) 0
 rw [zgt,zgt,show i + (k - i)=k by omega,show m + (k - i)=k + (m - i) by omega] at this
 exact this.symm
theorem ze2:∀ j,j < 15->Lj (errName j)=true/\errName j≠A0 "" := by decide +kernel
theorem lays_each2 {H:Hp} {ws:List V} {nm:Nat->Str} {n:Nat} (r:LaysR H ws nm n):∀ (i:Nat) x,ws[i]?=some x->∃ q a s,x = .ref q/\H q=some (.tup [.int a,.str s]):=fun i x h=>by
 obtain ⟨j,_,q,e1,e2⟩:=C3.rev r h
 exact ⟨q,_,_,e1,e2⟩
theorem zgR:FnScope ["_law_script","_law_kinds","_law_book_here","_law_fits_here","_law_again","_law_length_here","_law_first","_law_found"] ["_law_script"] (defScope s_law):=⟨rfl,rfl,rfl,by decide +kernel,rfl,by decide +kernel,by decide +kernel⟩
theorem ok_law {ea:Nat->A3} {ce:A1} {C:A3} (D:DefAt K mg "law" s_law) (T:Bn mg) (E13:EJ K ea ce 13) (E14:EJ K ea ce 14) (V_MOST_FILLED:∃ t,mg "MOST_FILLED" = some (.int 200 t)) (C_at:Callee P w K mg base "_law_at" 1 ["_law_script","_law_k"] (sp_at K)) (C_combs:Callee P w K mg base "_law_combs" 2 ["_law_script"] (sp_combs K)) (C_book:Callee P w K mg base "_law_book" 4 ["_law_kinds"] (sp_mkbook C))
  (C_raw:Callee P w K mg base "_law_raw" 1 ["_law_cell"] sp_raw) (C_asked:Callee P w K mg base "_law_asked" 6 ["_law_book_here","_law_length_here"] (spTryF K ea ce (sp_ffill ea C))) (C_turned:Callee P w K mg base "_law_turned" 1 ["_law_kinds"] sp_turned) (C_graph:Callee P w K mg base "_law_graph" 3 ["_law_kinds","_law_begin"] sp_graph) (C_fits:Callee P w K mg base "_law_fits" 2 ["_law_graph_here"] sp_fits) (C_fit:Callee P w K mg base "_law_fit" 1 ["_law_fits_here","_law_again","_law_length_here"] sp_fit) (C_length:Callee P w K mg base "_law_length" 1 ["_law_cell","_law_fits_here"] sp_length) (C_layings:Callee P w K mg base "_law_layings" 3 ["_law_found"] sp_layings) (C_covers:Callee P w K mg base "_law_covers" 2 ["_law_kinds","_law_layings_here","_law_length_here"] sp_covers) (C_refused:Callee P w K mg base "_law_refused" 2 ["_law_found","_law_due"] (sp_refused K)):Callee P w K mg base "law" 7 ["_law_script"] (spLaw K):=by
 refine D.callee zgR (fun _ _ _ _ _ _=>ln1 fun _=>rfl) (fun vs H Q E h => ?_) (fun f cdv A outer s H vs Q E hr h => ?_)
 ·obtain ⟨a,ns,rfl,_⟩:=h
  rfl
 ·obtain ⟨a,ns,rfl,hS,hl,q⟩:=h
  have S:=zgR
  have hu:=zde hr
  refine ⟨_,zaf (zaq (i:=1) S.nd rfl (Au rfl) (zaJ C_combs (hr.mono (by decide)) rfl (zaa (pv 0) zad)))
  (zaf (zaq (i:=2) S.nd rfl (Au rfl) (zaJ C_book (hr.mono (by decide)) rfl (zaa (pv 1) zad)))
  (zaf (zf9 (zaJ C_fits (hr.mono (by decide)) rfl (zaa (zaJ C_graph (hr.mono (by decide)) rfl (zaa (zaJ C_turned (hr.mono (by decide)) rfl (zaa (pv 1) zad)) (zaa (zbu (zad)) zad))) zad)) (zej rfl (zaE (zan (i:=3) S.nd rfl (Au rfl)) (zaE (zan (i:=4) S.nd rfl (Au rfl)) (zbE)))))
  (zaf (zaq (i:=5) S.nd rfl (Au rfl) (zaJ C_length (hr.mono (by decide)) rfl (zaa (zaJ C_at (hr.mono (by decide)) rfl (zaa (pv 0) (zaa (zab) zad))) (zaa (pv 3) zad))))
  (zbQ (zaF (zao zcA (zas zaQ (zaJ C_at (hr.mono (by decide)) rfl (zaa (pv 0) (zaa (zab) zad))) (zab)) (zab) (zav _))
   (zag (zaq (i:=5) S.nd rfl (Au rfl) (zaL zaN ((zbd (zae (qe (zeT zcX (zab))) (zae (qe (zab)) (zae (qe (zas zfv (zab) (zab))) (zae (qe (zeT zcX (zas zfv (zab) (zab)))) (zaw)))))).h) (zas zaQ (zas zbh (zaJ C_at (hr.mono (by decide)) rfl (zaa (pv 0) (zaa (zab) zad))) (zab)) (zab)) (fun _ _=>rfl))))
   (zam))
  (zbQ (zaF (zao zcA (zas zaQ (zaJ C_at (hr.mono (by decide)) rfl (zaa (pv 0) (zaa (zab) zad))) (zab)) (zab) (zav _))
   (zag (zaq (i:=5) S.nd rfl (Au rfl) (zaJ C_raw (hr.mono (by decide)) rfl (zaa (zaJ C_at (hr.mono (by decide)) rfl (zaa (pv 0) (zaa (zab) zad))) zad))))
   (zam))
  (zaf (zaF (PW.pt (zeh (zao zgg (pv 5) (zab) (zav _)) (zc3 (zao zgh (pv 5) (zab) (zav _)))))
   (zag (zaj (zaJ C_refused (hr.mono (by decide)) rfl (zaa (zaJ C_asked (hr.mono (by decide)) rfl (zaa (pv 2) (zaa (pv 5) zad))) (zaa (zau) zad)))))
   (zam))
  (zaf (zaq (i:=6) S.nd rfl (Au rfl) (zaJ C_asked (hr.mono (by decide)) rfl (zaa (pv 2) (zaa (pv 5) zad))))
  (zaf (zaF (zbA (zbz (zaJ C_fit (hr.mono (by decide)) rfl (zaa (pv 3) (zaa (pv 4) (zaa (pv 5) zad))))))
   (zag (zaj (zaJ C_refused (hr.mono (by decide)) rfl (zaa (pv 6) (zaa (zau) zad)))))
   (zam))
  (zaf (zaF (PW.pt (zeh (zao zdU (zaL za9 (pv 6) (zab) (fun _ _=>rfl)) (zau) (zav _)) (zc3 (zbA (zbz (zai (zbw "list") rfl T.n_isinstance Bl (zaa (zaL za9 (pv 6) (zab) (fun _ _=>rfl)) (zaa (zbS (v := .ty "list") rfl T.n_list L7 rfl) zad))))))))
   (zag (zaj (zb6)))
   (zam))
  (zaf (za5 (zgX Bu PySem.F.slot_list_clear PySem.F.type_list_clear mt_clear (zaL za9 (pv 6) (zab) (fun _ _=>rfl))))
  (zaf (zaq (i:=7) S.nd rfl (Au rfl) (zaJ C_asked (hr.mono (by decide)) rfl (zaa (pv 2) (zaa (pv 5) zad))))
  (zaf (zaF (PW.pt (zeh (zao zdU (zaL za9 (pv 7) (zab) (fun _ _=>rfl)) (zau) (zav _)) (zc3 (zbA (zbz (zaJ C_layings (hr.mono (by decide)) rfl (zaa (zaL za9 (pv 7) (zab) (fun _ _=>rfl)) zad)))))))
   (zag (zaj (zb6)))
   (zam))
  (zaf (zaF (PW.pt (zeh (zbA (zbz (zai (zbw "int") rfl T.n_isinstance Bl (zaa (zbF rfl V_MOST_FILLED) (zaa (zbS (v := .ty "int") rfl T.n_int boot_int rfl) zad))))) (zc3 (zao zdU (zbF rfl V_MOST_FILLED) (zab) (zav _)))))
   (zag (zaj (zb6)))
   (zam))
  (zag (zaj (zaJ C_covers (hr.mono (by decide)) rfl (zaa (pv 1) (zaa (zaL za9 (pv 7) (zab) (fun _ _=>rfl)) (zaa (pv 5) zad))))))))))))))))))),?_⟩
  refine ⟨_,rfl,a,ns,rfl,hS,fun pk ks ws H1 s1 npk hpk dr hk8 => ?_⟩
  have gc:GC ks:=fun c hc=>(dr.good c hc).2
  have pm:=zff dr.nd
  have ne:∀ c∈srt ks,c.1≠A0 "" := fun c hc z=>by
   have:=(dr.good c (pm.mem_iff.mp hc)).1
   rw [z] at this
   exact absurd this (by decide +kernel)
  have nds:((srt ks).map (·.1)).Nodup:=(pm.map _).nodup_iff.mpr dr.nd
  have p4:(0:Int) < 4:=by decide
  have p8:(0:Int) < 8:=by decide
  refine ⟨_,rfl,pk,ws,ks,rfl,hpk,dr,hk8,fun b l G past H2 s2 nb nl nG B hpl => ?_⟩
  obtain ⟨gcs,hs8⟩:=zfU B
  refine ⟨_,rfl,pk,ws,ks,rfl,s2 _ _ hpk,(dr.same s2).any.rows,gc,hk8,fun tk wt H6 s6 htk kt => ?_⟩
  refine ⟨bigr rfl,fun te nte => ?_⟩
  have s7:Same H6 (upd H6 te (.tup [])):=Same.new nte
  have hte:upd H6 te (.tup []) te=some (.tup ((aheadOf ((0:Nat):Int)).map V.int)):=by
   rw [zac,show aheadOf ((0:Nat):Int) = [] by decide]; rfl
  have htk7:=s7 _ _ htk
  have kt7:=kt.same s7
  have s67:=s6.trans s7
  generalize upd H6 te (.tup [])=H7 at s67 hte htk7 kt7 ⊢
  have gct:=zdL gc
  have htl:(turnC ks).length<=8:=by unfold turnC; rw [A5]; exact hk8
  refine ⟨tk,te,wt,turnC ks,0,rfl,htk7,kt7,htl,gct,by decide,hte,fun g kvs L H8 s8 ng hg gr ndL cl h0L => ?_⟩
  refine ⟨g,kvs,turnC ks,L,rfl,hg,gr,ndL,cl,h0L,gct,htl,fun tf fl m i H9 s9 him hm hper htf hfl => ?_⟩
  refine ⟨tf,_,rfl,SqT.of htf,rfl,_,_,rfl,_,_,rfl,rfl,?_⟩
  have s29:=(s67.trans s8).trans s9
  have s19:=(s1.trans s2).trans s29
  have ef:∀ k,0 < Wy (srt ks) k 0 ↔ filB (turnC ks) k=true:=fun k=>by
   rw [Wy_pos,zcS gct,fil_turn gc dr.nd,<- fil_perm gcs gc pm k]
   exact Iff.rfl
  refine ⟨_,rfl,a,ns,10,rfl,s19.seq hS,by decide,_,rfl,_,fl,m,filB (turnC ks),rfl,hfl,by omega,by omega,(zcS gct).mpr (fil_zero _),fun n0 H10 s10 hn0 => ?_⟩
  have s110:=s19.trans s10
  refine ⟨fun σ Hx=>Same H10 Hx/\∃ n,σ = [some (.ref a),some (.ref pk),some (.ref b),some (.ref fl),some (.int (i:Nat)),some (.int n),none,none],?_,?_⟩
  ·refine ⟨_,rfl,a,ns,9,rfl,s110.seq hS,by decide,_,_,rfl,rfl,p8,rfl,_,rfl,?_⟩
   refine ite2 (fun _ => ?_) (fun _ => ?_)
   ·generalize hc:(ns.getD (9:Int).toNat 0)=c
    have i0:=Dz (c / 8) (show (4:Int)≠0 by decide)
    have i1:=Da (c / 8) p4
    refine ⟨_,rfl,_,_,rfl,rfl,⟨by decide,by decide,by decide⟩,_,_,rfl,rfl,⟨by decide,by decide,by decide⟩,_,rfl,bigr rfl,fun p np => ?_⟩
    refine ⟨_,rfl,a,ns,9,rfl,(s110.trans (Same.new np)).seq hS,by decide,_,_,rfl,rfl,⟨p8,by decide⟩,_,_,rfl,rfl,p4,_,[-1,201,10 ^ (30:Int).toNat,-10 ^ (30:Int).toNat].map V.int,_,_,rfl,rfl,SqL.of zac,by rw [hc]; exact zfK i0 i1,Same.new np,_,rfl⟩
   ·exact ⟨Same.refl _,_,rfl⟩
  rintro σ Ha ⟨sa,n1,rfl⟩
  refine ⟨fun σ Hx=>Same H10 Hx/\∃ n,σ = [some (.ref a),some (.ref pk),some (.ref b),some (.ref fl),some (.int (i:Nat)),some (.int n),none,none],?_,?_⟩
  ·refine ⟨_,rfl,a,ns,9,rfl,(s110.trans sa).seq hS,by decide,_,_,rfl,rfl,p8,rfl,_,rfl,?_⟩
   refine ite2 (fun _ => ?_) (fun _ => ?_)
   ·exact ⟨_,rfl,a,ns,11,rfl,(s110.trans sa).seq hS,by decide,_,rfl,sa,_,rfl⟩
   ·exact ⟨sa,_,rfl⟩
  rintro σ Hb ⟨sb,n,rfl⟩
  have s2b:=(s29.trans s10).trans sb
  have Bb:=B.same s2b
  refine ⟨_,rfl,_,_,rfl,rfl,_,rfl,?_⟩
  by_cases h0:0<=n/\n<=200
  case neg =>
   by_cases h1:n < 0
   ·rw [decide_eq_true h1]
    refine iteT ⟨_,rfl,_,rfl,.ref b,.int n,rfl,b,l,G,ks,past,n,rfl,Bb,?_⟩
    rw [if_neg h0]
    refine zfH E13 fun fd H3 s3 an => ?_
    obtain ⟨le,hfd,hle⟩:=an
    exact ⟨fd,le,errName 13,rfl,(ze2 13 (by decide)).1,hfd,hle,fun H4 _=>q H4⟩
   ·rw [decide_eq_false h1]
    refine iteF ⟨_,rfl,_,_,rfl,rfl,_,rfl,?_⟩
    rw [decide_eq_true (show (200:Int) < n by omega)]
    refine iteT ⟨_,rfl,_,rfl,.ref b,.int n,rfl,b,l,G,ks,past,n,rfl,Bb,?_⟩
    rw [if_neg h0]
    refine zfH E13 fun fd H3 s3 an => ?_
    obtain ⟨le,hfd,hle⟩:=an
    exact ⟨fd,le,errName 13,rfl,(ze2 13 (by decide)).1,hfd,hle,fun H4 _=>q H4⟩
  rw [decide_eq_false (show ¬ n < 0 by omega)]
  refine iteF ⟨_,rfl,_,_,rfl,rfl,_,rfl,?_⟩
  rw [decide_eq_false (show ¬ (200:Int) < n by omega)]
  refine iteF ?_
  obtain ⟨k,rfl⟩:=Hu h0.1
  have hflb:=(s10.trans sb) _ _ hfl
  have ek:((k:Nat):Int).toNat=k:=by omega
  refine ⟨_,rfl,_,rfl,.ref b,.int ((k:Nat):Int),rfl,b,l,G,ks,past,_,rfl,Bb,?_⟩
  rw [if_pos h0,ek]
  by_cases hw:0 < Wy (srt ks) k 0
  case neg =>
   rw [if_neg hw]
   intro H' s'
   refine zfH E14 fun fd H3 s3 an => ?_
   obtain ⟨le,hfd,hle⟩:=an
   refine ⟨_,rfl,_,rfl,_,rfl,fl,i,m,k,filB (turnC ks),rfl,(s'.trans s3) _ _ hflb,him,zfG gct him hper,_,rfl,?_⟩
   have:filB (turnC ks) k=false:=by
    cases e:filB (turnC ks) k with
    | false=>rfl
    | true=>exact absurd ((ef k).mpr e) hw
   rw [this]
   exact iteT ⟨_,rfl,fd,le,errName 14,rfl,(ze2 14 (by decide)).1,hfd,hle,fun H4 _=>q H4⟩
  rw [if_pos hw]
  intro r1 wl1 H3 s3 nr1 hr1 lr1
  refine ⟨bigr rfl,fun fd nfd => ?_⟩
  have s4:Same H3 (upd H3 fd (.tup [.str (A0 "told"),.ref r1])):=Same.new nfd
  have hfd:upd H3 fd (.tup [.str (A0 "told"),.ref r1]) fd=some (.tup [.str (A0 "told"),.ref r1]):=zac
  have hr14:=s4 _ _ hr1
  have sb4:=s3.trans s4
  generalize upd H3 fd (.tup [.str (A0 "told"),.ref r1])=H4 at sb4 hfd hr14 ⊢
  refine ⟨_,rfl,_,rfl,_,rfl,fl,i,m,k,filB (turnC ks),rfl,sb4 _ _ hflb,him,zfG gct him hper,_,rfl,?_⟩
  rw [(ef k).mp hw]
  refine iteF ?_
  refine ⟨_,rfl,_,_,_,_,rfl,rfl,SqT.of hfd,at0,rfl,_,rfl,?_⟩
  refine iteF ?_
  refine ⟨_,rfl,_,_,_,_,rfl,rfl,SqT.of hfd,at1,_,_,true,rfl,.lst hr14,rfl,_,rfl,?_⟩
  refine iteF ?_
  refine ⟨_,rfl,_,_,_,_,rfl,rfl,SqT.of hfd,at1,.inl ⟨rfl,_,SqL.of hr14⟩,_,_,rfl,rfl,hr14,?_⟩
  have sb5:Same Hb (upd H4 r1 (.lst [])):=sb4.put nr1
  generalize upd H4 r1 (.lst [])=H5 at sb5 ⊢
  refine ⟨_,rfl,_,rfl,.ref b,.int ((k:Nat):Int),rfl,b,l,G,ks,past,_,rfl,Bb.same sb5,?_⟩
  rw [if_pos h0,ek,if_pos hw]
  intro r2 wl2 Hc sc nr2 hr2 lr2
  refine ⟨bigr rfl,fun fd2 nfd2 => ?_⟩
  have sd:Same Hc (upd Hc fd2 (.tup [.str (A0 "told"),.ref r2])):=Same.new nfd2
  have hfd2:upd Hc fd2 (.tup [.str (A0 "told"),.ref r2]) fd2=some (.tup [.str (A0 "told"),.ref r2]):=zac
  have hr22:=sd _ _ hr2
  have lr22:LaysR (upd Hc fd2 (.tup [.str (A0 "told"),.ref r2])) wl2 _ k:=lr2.mono fun _ _ e=>sd _ _ e
  have s2d:=(s2b.trans sb5).trans (sc.trans sd)
  generalize upd Hc fd2 (.tup [.str (A0 "told"),.ref r2])=Hd at s2d hfd2 hr22 lr22 ⊢
  refine ⟨_,rfl,_,_,_,_,rfl,rfl,SqT.of hfd2,at0,rfl,_,rfl,?_⟩
  refine iteF ?_
  refine ⟨_,rfl,_,_,_,_,rfl,rfl,SqT.of hfd2,at1,r2,wl2,rfl,hr22,lays_each2 lr22,_,rfl,?_⟩
  refine iteF ?_
  refine ⟨_,_,true,rfl,.int _,rfl,_,rfl,?_⟩
  refine iteF ?_
  refine ⟨rfl,_,rfl,?_⟩
  refine iteF ?_
  obtain ⟨c1,c2⟩:=fw_cover gcs nds ne (zfW (srt ks) (A0 "")) hw
  have s12d:=s2.trans s2d
  refine ⟨_,rfl,_,rfl,_,_,_,_,rfl,rfl,SqT.of hfd2,at1,_,rfl,pk,r2,k,ws,wl2,ks,laysOf (fnm (srt ks) (A0 "") (Wy (srt ks)) k) k,rfl,s12d _ _ hpk,(dr.same s12d).any,hr22,lays_ly lr22,by omega,lay_perm pm (fun x hx=>(zdj c1 x hx).2),cover_perm pm nds c2,laysOf_up _ _,fun H' _=>q H'⟩
end
theorem walk {l:K8} {q:An} {loose:List Str} {XP:(Str->Option A1)->Br->Prop} {YP:B8->Br->Prop} {d:DefRec} {K:Qo->Al} (hn:l.most=some 63) (hdf:d.params.defaults = [])
  (hY:∀ (w:B8) (h:Br),YP w h->(K w.params).In h)
  (F:∀ (w:B8) (mg:Str->Option A1) (fa:A3) (h:Br),(K w.params).In h->h.Ns mainGlobals mg->mg d.name=some (.ref fa) ->
   ∃ fd:Ed,(∀ (s:A4) (u:A1),Jz s fd ⟨[u],[]⟩ [("_law_script",u)])/\∀ base:Br,(K w.params).In base->base.Ns mainGlobals mg->FnOk l.prog w (K w.params) mg base CX0 7 fa fd ["_law_script"] (spLaw (K w.params))) :
  No q loose XP YP l.row.toRowW d [] (fun f vs=>Mt f vs) :=
 L2.walk_of (n:=63) (k:=7) (x := "_law_script") (CX:=fun _=>CX0) (sp:=fun w=>spLaw (K w.params)) hn (by decide) hdf ⟨rfl,by decide,by decide⟩ hY F (fun _ _ a ns hl _ hS=>⟨a,ns,rfl,hS,hl,fun _=>rfl⟩) fun _ _ _ _ _ z=>z
theorem all {l:K8} {w:B8} {K:Al} {h:Br} {mg:Str->Option A1} {fa:A3} (X:K.In h) (G:h.Ns mainGlobals mg) (hfa:mg "law" = some (.ref fa)) (T:Bn mg)
  (V_MOST_COMBS:∃ t,mg "MOST_COMBS" = some (.int 8 t))
  (V_MOST_NAME:∃ t,mg "MOST_NAME" = some (.int 6 t))
  (V_MOST_TOOTH:∃ t,mg "MOST_TOOTH" = some (.int 7 t))
  (V_MOST_DEEDS:∃ t,mg "MOST_DEEDS" = some (.int 300 t))
  (V_SHAPES:∃ t,mg "SHAPES" = some (.int 128 t))
  (V_MOST_FILLED:∃ t,mg "MOST_FILLED" = some (.int 200 t))
  {t_TOOTH_WORTH:A3} (G_TOOTH_WORTH:mg "TOOTH_WORTH" = some (.ref t_TOOTH_WORTH)) (TC_TOOTH_WORTH:tupChk K t_TOOTH_WORTH [1,2,4,8,16,32,64,128]=true)
  {C ce a0 a1 a2 a3 a4 a5 a6 a7 a8 a9 a10 a11 a12 a13 a14:A3}
  (R0:mg "BadName" = some (.ref a0))
  (R1:mg "BadTeeth" = some (.ref a1))
  (R2:mg "NameTaken" = some (.ref a2))
  (R3:mg "BookFull" = some (.ref a3))
  (R4:mg "NoComb" = some (.ref a4))
  (R5:mg "BadTooth" = some (.ref a5))
  (R6:mg "ToothThere" = some (.ref a6))
  (R7:mg "FirstTooth" = some (.ref a7))
  (R8:mg "ToothMissing" = some (.ref a8))
  (R9:mg "DeedsFull" = some (.ref a9))
  (R10:mg "NothingDone" = some (.ref a10))
  (R11:mg "BadShape" = some (.ref a11))
  (R12:mg "BadPlace" = some (.ref a12))
  (R13:mg "BadLength" = some (.ref a13))
  (R14:mg "NoFilling" = some (.ref a14))
  (RCE:mg "CombError" = some (.ref ce)) (HCHK:errChk K [a0,a1,a2,a3,a4,a5,a6,a7,a8,a9,a10,a11,a12,a13,a14] ce [0,1,2,3,4,9,11,13,14]=true)
  (INIT:InitAt K mg C "Book" "Book.__init__" s_Book___init__) (BCHK:bookChk K C=true)
  (N_put:MethAt K C "Book" "put" s_Book_put)
  (N_names:MethAt K C "Book" "names" s_Book_names)
  (N_teeth:MethAt K C "Book" "teeth" s_Book_teeth)
  (N_check_comb:MethAt K C "Book" "check_comb" s_Book_check_comb)
  (N_set_comb:MethAt K C "Book" "set_comb" s_Book_set_comb)
  (N_do_deed:MethAt K C "Book" "do_deed" s_Book_do_deed)
  (D_shape_steps:DefAt K mg "shape_steps" s_shape_steps)
  (D_teeth_worth:DefAt K mg "teeth_worth" s_teeth_worth)
  (D_step_table:DefAt K mg "step_table" s_step_table)
  (D_first_filling:DefAt K mg "first_filling" s_first_filling)
  (D_check_length:DefAt K mg "check_length" s_check_length)
  (D_ways_to_close:DefAt K mg "ways_to_close" s_ways_to_close)
  (D_ways_from:DefAt K mg "ways_from" s_ways_from)
  (D_ways_behind:DefAt K mg "ways_behind" s_ways_behind)
  (D_lay_first:DefAt K mg "lay_first" s_lay_first)
  (D_first_open_step:DefAt K mg "first_open_step" s_first_open_step)
  (D_is_name:DefAt K mg "is_name" s_is_name)
  (D_is_small_letter:DefAt K mg "is_small_letter" s_is_small_letter)
  (D_are_teeth:DefAt K mg "are_teeth" s_are_teeth)
  (D_at:DefAt K mg "_law_at" s_at)
  (D_mixed:DefAt K mg "_law_mixed" s_mixed)
  (D_word:DefAt K mg "_law_word" s_word)
  (D_spare:DefAt K mg "_law_spare" s_spare)
  (D_menu:DefAt K mg "_law_menu" s_menu)
  (D_combs:DefAt K mg "_law_combs" s_combs)
  (D_raw:DefAt K mg "_law_raw" s_raw)
  (D_book:DefAt K mg "_law_book" s_book)
  (D_turned:DefAt K mg "_law_turned" s_turned)
  (D_after:DefAt K mg "_law_after" s_after)
  (D_goes:DefAt K mg "_law_goes" s_goes)
  (D_graph:DefAt K mg "_law_graph" s_graph)
  (D_home:DefAt K mg "_law_home" s_home)
  (D_fits:DefAt K mg "_law_fits" s_fits)
  (D_fit:DefAt K mg "_law_fit" s_fit)
  (D_length:DefAt K mg "_law_length" s_length)
  (D_whole:DefAt K mg "_law_whole" s_whole)
  (D_laying:DefAt K mg "_law_laying" s_laying)
  (D_layings:DefAt K mg "_law_layings" s_layings)
  (D_teeth:DefAt K mg "_law_teeth" s_teeth)
  (D_covers:DefAt K mg "_law_covers" s_covers)
  (D_kind:DefAt K mg "_law_kind" s_kind)
  (D_refused:DefAt K mg "_law_refused" s_refused)
  (D_asked:DefAt K mg "_law_asked" s_asked)
  (D_law:DefAt K mg "law" s_law) :
  ∃ fd:Ed,(∀ (s:A4) (v:A1),Jz s fd ⟨[v],[]⟩ [("_law_script",v)])/\∀ base:Br,K.In base->base.Ns mainGlobals mg->FnOk l.prog w K mg base CX0 7 fa fd ["_law_script"] (spLaw K):=by
 have BA:=book_of BCHK
 have E (j:Nat) (hj:j ∈ [0,1,2,3,4,9,11,13,14]) (h15:j < 15):=ej_of HCHK hj h15
 have E4:=E 4 (by decide) (by decide)
 refine D_law.entry hfa (fun _ _ _ _ _ _ v=>rfl) fun base => ?_
 have c_kind:=ok_kind (P:=l.prog) (w:=w) (base:=base) D_kind T (ea:=fun i => [a0,a1,a2,a3,a4,a5,a6,a7,a8,a9,a10,a11,a12,a13,a14].getD i 0) ⟨R0,R1,R2,R3,R4,R5,R6,R7,R8,R9,R10,R11,R12,R13,R14⟩
 have m_check:=ok_check (P:=l.prog) (w:=w) (base:=base) (ea:=fun i => [a0,a1,a2,a3,a4,a5,a6,a7,a8,a9,a10,a11,a12,a13,a14].getD i 0) N_check_comb T BA (E4.err R4)
 have m_do:=ok_do (P:=l.prog) (w:=w) (base:=base) (ea:=fun i => [a0,a1,a2,a3,a4,a5,a6,a7,a8,a9,a10,a11,a12,a13,a14].getD i 0) N_do_deed T BA V_MOST_DEEDS ((E 9 (by decide) (by decide)).err R9)
 have m_set:=ok_set (ea:=fun i => [a0,a1,a2,a3,a4,a5,a6,a7,a8,a9,a10,a11,a12,a13,a14].getD i 0) N_set_comb T BA m_do
 have m_put:=ok_put (ea:=fun i => [a0,a1,a2,a3,a4,a5,a6,a7,a8,a9,a10,a11,a12,a13,a14].getD i 0) N_put T BA V_MOST_COMBS ((E 0 (by decide) (by decide)).err R0) ((E 1 (by decide) (by decide)).err R1) ((E 2 (by decide) (by decide)).err R2) ((E 3 (by decide) (by decide)).err R3) (ok_name D_is_name T V_MOST_NAME (ok_small D_is_small_letter T)) (ok_teeth D_are_teeth T V_MOST_TOOTH) m_set
 have m_names:=ok_names (P:=l.prog) (w:=w) (base:=base) N_names T BA
 have m_teeth:=ok_bteeth N_teeth T BA m_check
 have c_at:=ok_at (P:=l.prog) (w:=w) (base:=base) D_at T
 have c_word:=ok_word (P:=l.prog) (w:=w) (base:=base) D_word T
 have c_combs:=ok_combs D_combs T c_at (ok_mixed D_mixed T) c_word (ok_spare D_spare T) (ok_menu D_menu T)
 have c_book:L2.Callee l.prog w K mg base "_law_book" 4 ["_law_kinds"] (sp_mkbook C):=by
  obtain ⟨fi,fdi,mk,fu⟩:=INIT.ex
  exact ok_mkbook D_book T BA ⟨fi,fdi,mk,ok_init fu T BA,INIT.m,fu.binds (fun _ _ _ _ _ _=>ln1 fun _=>rfl)⟩ m_put
 have f_steps:=ok_steps (ea:=fun i => [a0,a1,a2,a3,a4,a5,a6,a7,a8,a9,a10,a11,a12,a13,a14].getD i 0) D_shape_steps T BA V_SHAPES ((E 11 (by decide) (by decide)).err R11) (ok_worth D_teeth_worth T G_TOOTH_WORTH (tup_chk TC_TOOTH_WORTH)) m_names m_teeth
 have f_table:=ok_table D_step_table T V_SHAPES f_steps
 have c_whole:=ok_whole (P:=l.prog) (w:=w) (base:=base) D_whole T
 have c_laying:=ok_laying (P:=l.prog) (w:=w) (base:=base) D_laying T c_whole
 have c_teeth:=ok_lteeth (P:=l.prog) (w:=w) (base:=base) D_teeth T
 have f_bw:=ok_behindw (P:=l.prog) (w:=w) (base:=base) D_ways_behind T
 have f_ffill:=ok_ffill (ea:=fun i => [a0,a1,a2,a3,a4,a5,a6,a7,a8,a9,a10,a11,a12,a13,a14].getD i 0) D_first_filling T (ok_chk (ea:=fun i => [a0,a1,a2,a3,a4,a5,a6,a7,a8,a9,a10,a11,a12,a13,a14].getD i 0) D_check_length T V_MOST_FILLED ((E 13 (by decide) (by decide)).err R13)) f_table (ok_close D_ways_to_close T (ok_from D_ways_from T f_bw)) (ok_layf (ea:=fun i => [a0,a1,a2,a3,a4,a5,a6,a7,a8,a9,a10,a11,a12,a13,a14].getD i 0) D_lay_first T ((E 14 (by decide) (by decide)).err R14) (ok_open D_first_open_step T f_bw))
 exact ok_law D_law T (E 13 (by decide) (by decide)) (E 14 (by decide) (by decide)) V_MOST_FILLED c_at c_combs c_book (ok_raw D_raw T) (ok_tasked D_asked T RCE c_kind f_ffill) (ok_turned D_turned T) (ok_graph D_graph T (ok_goes D_goes T (ok_after D_after T))) (ok_fits D_fits T (ok_home D_home T)) (ok_fit D_fit T) (ok_length D_length T) (ok_layings D_layings T c_laying) (ok_covers D_covers T c_teeth) (ok_refused D_refused T)
end K20
open PySem PySem.W PyProof.Rows
namespace PySem.W.Fast
def tw775118694051715557:=True
def tw4279042236282391742:=True
def tw10022212794563039261:=True
def tw12071848401946539239:=True
def tw11162429723675376868:=True
def tw6966937650774527538:=True
def tw14002641687811520805:=True
def tw762140770211707269:=True
def tw7829667651586647246:=True
def tw4424750823598032389:=True
def tw8803238751395447297:=True
def tw15252178182624650464:=True
def tw13738727290597127962:=True
def tw13957297542582799369:=True
def tw13508465972179736873:=True
def tw13232468229732020239:=True
def tw14536883107675514103:=True
def tw13660718619727542759:=True
def tw7857979689202637165:=True
def tw1225024613115563897:=True
def tw17979614425227981739:=True
def tw12972425295481628877:=True
def tw5112460448765834449:=True
def tw15992341656133050167:=True
def tw3783640075420169522:=True
def tw9302291275163694213:=True
def tw15321723035450048367:=True
def tw12091796822249205404:=True
def tw5351880119047261957:=True
def tw8668698855387089796:=True
def tw11279672467546824351:=True
def tw17814654766890582873:=True
def tw13675370366206697815:=True
def tw1445361895463693480:=True
def tw7362116459157598842:=True
def tw3302571406060109426:=True
def tw4159896955533773852:=True
def tw13426390503550272708:=True
def tw9419382687041747863:=True
def tw8210459417724909907:=True
def tw2485789615594856055:=True
def tw13473320578367276326:=True
def tw10563675163987906349:=True
def tw5435388739967094300:=True
def tw16949315407245300197:=True
def tw13125427751528415671:=True
def tw5534099160672344782:=True
def tw3947697677575372616:=True
def tw1185681224597449649:=True
def tw11400896575752660534:=True
def tw7497136253937818601:=True
def tw15864017629887259253:=True
def tw5041995251777379884:=True
def tw13586554873473698884:=True
def tw975676936879334492:=True
def tw973772052958846364:=True
def tw17236739353490724203:=True
def tw9631331884562084243:=True
def tw4014956044521890618:=True
def tw5479738362237553625:=True
def tw24547511074790807:=True
def tw5567116892125027422:=True
def tw13227523963962466841:=True
def tw567311321285635192:=True
def tw1694783262606713299:=True
def tw4948902518589447436:=True
def tw1350303419222968848:=True
def tw1380898061795991681:=True
def tw16277872907659969346:=True
def tw2873648397472996675:=True
def tw3630459397219825992:=True
def tw6939407990660011455:=True
def tw18351830591760679773:=True
def tw5629986102423989541:=True
def tw16209863417577762493:=True
def tw1362779812796694004:=True
def tw6653577115066920060:=True
def tw3662401785863403980:=True
def tw3824746760382621395:=True
def tw14811808260473986966:=True
def tw3287050982357438484:=True
def tw499899321568365048:=True
def tw13597437810457064718:=True
def tw6673719790835945018:=True
def tw6852218552134348453:=True
def tw15545260760842921319:=True
def tw1918744252549540302:=True
def tw12075954577959849998:=True
def tw11848480846940297034:=True
def tw12804378176515379654:=True
def tw16389609527131534760:=True
def tw17035720796947310:=True
def tw229132108525614806:=True
def tw63155376503984911:=True
def tw14205491314685329476:=True
def tw18158268133464916414:=True
def tw4465317651673149318:=True
def tw739946290558208091:=True
def tw8505539253340555574:=True
def tw10985787734639311140:=True
def tw16859346344992946925:=True
def tw4507514499254151201:=True
def tw6710150645109258630:=True
def tw9392139993051121640:=True
def tw4675147370358354268:=True
def tw802107535554000904:=True
def tw17598461993271915458:=True
def tw12470549609008066660:=True
def tw7902536634038679476:=True
def tw9133580687932430853:=True
def tw15545506098631848704:=True
def tw8675151908864549034:=True
def tw7914949432499422747:=True
def tw6823124509889312308:=True
def tw322554677744336682:=True
def tw3395148558947702396:=True
def tw3031889863956121466:=True
def tw18436348036810196367:=True
def tw11782779736871532526:=True
def tw12759439695772828634:=True
def tw16996890351685900436:=True
def tw11452479760611709059:=True
def tw3325989557744118840:=True
def tw12921753161557056355:=True
def tw2758760161869540506:=True
def tw8060984602643539264:=True
def tw14465309737203965985:=True
def tw432356352125259534:=True
def tw4322198088227753929:=True
def tw3442078820739598906:=True
def tw18082927638512300573:=True
def tw14790191084373487964:=True
def tw15518188151409153839:=True
def tw12347021041795887937:=True
def tw6642439858785393195:=True
def tw3162264014549358293:=True
def tw10677663072271411800:=True
def tw16246865858991384561:=True
def tw1304824459461516694:=True
def tw7038828940650392373:=True
def tw5361182919538187834:=True
def tw10636829418761134192:=True
def tw9396399849514767261:=True
def tw678217572891735584:=True
def tw1375006153709877702:=True
def tw12661031704361029213:=True
def tw12431713252319805119:=True
def tw4906847509646048215:=True
def tw15596553033535945622:=True
def tw3596591996398688964:=True
def tw5101404986024521688:=True
def tw7585837617484123665:=True
def tw7976288845360620403:=True
def tw15893721224388569603:=True
def tw1473844630278832793:=True
def tw2552822540808900488:=True
def tw4206032730930583978:=True
def tw9128497520360078943:=True
def tw6652479245733439568:=True
def tw8676887335224110358:=True
def tw970330156187235628:=True
def tw2892338452291902347:=True
def tw13571938456166621341:=True
def tw11834635155637649942:=True
def tw9048814222463662601:=True
def tw12152271516166774596:=True
def tw7901835924160381030:=True
def tw5918456804704071819:=True
def tw14261991570195494325:=True
def tw15105693367566198828:=True
def tw6081719530661961137:=True
def tw17545525092459605520:=True
def tw10424475829451430984:=True
def tw1377182902857271254:=True
def tw11935498218391256649:=True
def tw10918020641500790025:=True
def tw10353393216720848699:=True
def tw4944134624795036817:=True
def tw12377258539606926688:=True
def tw11329290844395809110:=True
def tw4417410403050034868:=True
def tw9318947301446136816:=True
def tw6829573414953504145:=True
def tw9742302416289013389:=True
def tw6162313165681176188:=True
def tw4722112451636370867:=True
def tw285043758246674857:=True
def tw13489024931465441966:=True
def tw7783439351661788239:=True
def tw3422252123913226966:=True
def tw1541124406726704365:=True
def tw17632169339612553465:=True
def tw10652175006260835432:=True
def tw15764052499949692250:=True
def tw6335261264809209049:=True
def tw10289963794699476859:=True
def tw7665410590268349342:=True
def tw257336655061530737:=True
def tw3609328447317905185:=True
def tw12086753539861361997:=True
def tw15704183834048950266:=True
def tw1152126648760638611:=True
def tw6522903059374463285:=True
def tw3595446753140099136:=True
def tw5622532959043650313:=True
def tw9402535654420679144:=True
def tw5467931857100043984:=True
def tw10051744951517892390:=True
def tw8801847825172806192:=True
def tw8719221778956880293:=True
def tw7803079464789405718:=True
def tw13562271155093063072:=True
def tw7596959969863010239:=True
def tw7724133484106561243:=True
def tw16366588815936202024:=True
def tw3418256414727727146:=True
def tw13959176546099993709:=True
def tw7190286905643975667:=True
def tw11368169865234393440:=True
def tw11416683455054355405:=True
def tw2206397138329010600:=True
def tw5988731272310333531:=True
def tw16263223671526791887:=True
def tw9782219685577162431:=True
def tw7050364308693138048:=True
def tw3158568932766761474:=True
def tw14302831035833200245:=True
def tw15198325236897086882:=True
def tw12722376780768447610:=True
def tw18012818846228243789:=True
def tw13733516449100111061:=True
def tw9125594007104658085:=True
def tw11977331073837234457:=True
def tw14098382115433400069:=True
def tw14485841574104647848:=True
def tw9403376654040401976:=True
def tw16598512316499607813:=True
def tw16395217449091221024:=True
def tw14117233297928994911:=True
def tw13903731462849188123:=True
def tw13800116022436903056:=True
def tw1869746029688249652:=True
def tw12655043532896901227:=True
def tw15925688486701217488:=True
def tw10186629760041874773:=True
def tw15977966209125396489:=True
def tw15007293739679351910:=True
def tw236940075652926251:=True
def tw2206972159229282164:=True
def tw10669156022295116791:=True
def tw13951036686686706296:=True
def tw14633917960764528926:=True
def tw8579340323379647876:=True
def tw3767558859480914650:=True
def tw7228144194621103951:=True
def tw12128694483734451846:=True
def tw2894653973645204979:=True
def tw16308744868472264878:=True
def tw11712089803993168194:=True
def tw17335611265039322870:=True
def tw13329785598098793452:=True
def tw2057307878037778253:=True
def tw10719208240151013006:=True
def tw12121731276739062588:=True
def tw1705099659003286671:=True
def tw15168874360653345971:=True
def tw3426886528378844335:=True
def tw5221366011201869196:=True
def tw8852220311060362588:=True
def tw6043508834832359033:=True
def tw1144351046231211399:=True
def tw11529119554825415324:=True
def tw11141952047044745513:=True
def tw11783053178262893542:=True
def tw9786385965064905138:=True
def tw10380308621307426139:=True
def tw5858581854563721435:=True
def tw11915045155074930718:=True
def tw1203665970788638845:=True
def tw4903974078938423266:=True
def tw7592918253467811686:=True
def tw15119573480576240709:=True
def tw12171332984844986542:=True
def tw9646593313099178645:=True
def tw7839187269415074940:=True
def tw17101990673074310960:=True
def tw9426458929798199676:=True
def tw6458333813251642066:=True
def tw3336647048735446282:=True
def tw11647820655236038843:=True
def tw2179091118055997747:=True
def tw5672662114670638715:=True
def tw8317731953652740350:=True
def tw855442089854083137:=True
def tw11163809694727835136:=True
def tw16083084133377778045:=True
def tw4799794329281499140:=True
def tw17623658852032135530:=True
def tw1638180478981202470:=True
def tw17554693575940472175:=True
def tw3558548615104957063:=True
def tw1619588323676590430:=True
def tw1754287596701434744:=True
def tw10945621677694635398:=True
def tw13724341901078186522:=True
def tw4087874758352884599:=True
def tw14390452198860781440:=True
def tw11513965691433547415:=True
def tw848268010774071057:=True
def tw11450075147858945831:=True
def tw10984766717944389276:=True
def tw8807148272451291970:=True
def tw4419650760215222810:=True
def tw2348007577992422957:=True
def tw18176015609696938317:=True
def tw12356511453556565691:=True
def tw7998378548118142273:=True
def tw1304248431597693250:=True
def tw9905103488793494547:=True
def tw15801066148346384546:=True
def tw59219354220550043:=True
def tw11144143563928969260:=True
def tw12283041937744375048:=True
def tw9187406532519147176:=True
def tw11383432159295543887:=True
def tw14329024058532680441:=True
def tw15701832658249002906:=True
def tw10557704016559565962:=True
def tw917298355656590929:=True
def tw17609842630657265881:=True
def tw10739333202351164777:=True
def tw5431280782694902415:=True
def tw12054181629258069896:=True
def tw13016451140520091447:=True
def tw14465282601512005795:=True
def tw13597318482484885241:=True
def tw18135561647356821059:=True
def tw3318574035863300315:=True
def tw8821315080424371925:=True
def tw4495942728321608168:=True
def tw8198904294082080246:=True
def tw673363919914767676:=True
def tw8890122320757789832:=True
def tw13530852160953369151:=True
def tw16088350647354886747:=True
def tw13563795720665249384:=True
def tw8276360212994082147:=True
def tw3678344898074732583:=True
def tw13036524164720107863:=True
def tw14280735975708936:=True
def tw13558863017124250803:=True
def tw18229347485001469562:=True
def tw18116423602687843607:=True
def tw9483254724376100185:=True
def tw10199425204934073425:=True
def tw1304563085147135997:=True
def tw3322374910295702279:=True
def tw6971455336336014441:=True
def tw9610012702466773658:=True
def tw6119958932015483561:=True
def tw6790732077168868906:=True
def tw14204383619963565800:=True
def tw13755018123270510290:=True
def tw12186916749688879222:=True
def tw7941976021122577225:=True
def tw9587730471702210541:=True
def tw18133019152320366876:=True
def tw10298247946007704662:=True
def tw2592922546035956609:=True
def tw6440623345569277814:=True
def tw10669659756658949642:=True
def tw5030434401401656796:=True
def tw3739091007621757553:=True
def tw18045065655453818557:=True
def tw12827998481157681611:=True
def tw7883946899206668996:=True
def tw9720682904692442926:=True
def tw11916904463660796873:=True
def tw13231026832587051176:=True
def tw17025326893588250930:=True
def tw17160976414750898574:=True
def tw3185717230826631311:=True
def tw5252356360107905031:=True
def tw9196953117781122465:=True
def tw7177344223347775543:=True
def tw7622425777756063522:=True
def tw14602232254483772685:=True
def tw17404495359481661340:=True
def tw12895288323571720403:=True
def tw6426852369221170475:=True
def tw18071081837165475653:=True
def tw15408847101922957561:=True
def tw12776076192021579680:=True
def tw10802124128925099400:=True
def tw6532257962118678664:=True
def tw12028330352397382850:=True
def tw7444400850638441838:=True
def tw4625023433641887022:=True
def tw12886880955363605672:=True
def tw6259696992493954436:=True
def tw16252977631820405886:=True
def tw8112663966308758877:=True
def tw1716798437009740283:=True
def tw3675772283717845369:=True
def tw1436030091581254993:=True
def tw6272510168467851505:=True
def tw11335778716820869654:=True
def tw10148254021233293217:=True
def tw16130474173830560214:=True
def tw3128930281865644178:=True
def tw122651928271011553:=True
def tw851857725151096911:=True
def tw4976983867849235088:=True
def tw16095574420434906563:=True
def tw2392750891485296941:=True
def tw7350439954900080284:=True
def tw7873001646111939082:=True
def tw17183936739302746129:=True
def tw12409829630217756059:=True
def tw13862253892172237980:=True
def tw6625205476468825514:=True
def tw1139453273288190948:=True
def tw15043474563208097245:=True
def tw12196666416100339357:=True
def tw15854814429865701080:=True
def tw17393258265436671865:=True
def tw809156764189073914:=True
def tw4935237910644195499:=True
def tw9779562869372085846:=True
def tw11198470557352326345:=True
def tw5144815705884669569:=True
def tw3437723272470326556:=True
def tw6353295474661175066:=True
def tw10435960025966517505:=True
def tw11361752488722322497:=True
def tw9960128944972294294:=True
def tw5838506045214786771:=True
def tw5404454259732751074:=True
def tw2655296274853137930:=True
def tw15956224865239262944:=True
def tw13619571023002451512:=True
def tw17748107691445835145:=True
def tw2859764552179773544:=True
def tw6480116432392834051:=True
def tw16607050011396341441:=True
def tw7089486545097469100:=True
def tw15877427574952898414:=True
def tw16387965440769818129:=True
def tw8818810893218325269:=True
def tw10273492955085621219:=True
def tw14601710477119169542:=True
def tw9973739823365073688:=True
def tw2701705977446467899:=True
def tw5477941405086018768:=True
def tw15697973874743793806:=True
def tw87248797351495865:=True
def tw15376306753424466425:=True
def tw12571389287730283264:=True
def tw4502902713741747441:=True
def tw6260536850611525783:=True
def tw2406714285492756796:=True
def tw17714942591918446074:=True
def tw90964644248593271:=True
def tw7902032362662279065:=True
def tw2267817173086864996:=True
def tw1132622742076555378:=True
def tw6210949086269266798:=True
def tw16786624855802098101:=True
def tw285922944390463717:=True
def tw11338944199814979384:=True
def tw12018194370567691468:=True
def tw16714758558199491684:=True
def tw8046385460812496134:=True
def tw2068190019878597915:=True
def tw940606316461757078:=True
def tw7826755038319395237:=True
def tw13692366617299745300:=True
def tw11491159251301103415:=True
def tw18047883280407996689:=True
def tw17296449072933100828:=True
def tw8449376652635334206:=True
def tw4236103909406366294:=True
def tw6292671028946654004:=True
def tw2342077630778454113:=True
def tw3023096326074642653:=True
def tw1900110463299635759:=True
def tw13311746382864607359:=True
def tw2276765317754081210:=True
def tw243223470490209712:=True
def tw18121803362919697350:=True
def tw7187748213028428028:=True
def tw11876792438411607101:=True
def tw4891111630415399920:=True
def tw17767365898229368008:=True
def tw4278306332727105559:=True
def tw6109158374772498459:=True
def tw10583312790203506274:=True
def tw12642170402984589503:=True
def tw146498574680375856:=True
def tw9044247591187973838:=True
def tw5151780669937701064:=True
def tw16702632334057910448:=True
def tw15695208851574247485:=True
def tw9702984661295232169:=True
def tw4556842774380453557:=True
def tw12696063058185342728:=True
def tw8681841606581469488:=True
def tw11193885470175920960:=True
def tw11009462028742920472:=True
def tw3847763620611573967:=True
def tw13252131758271985379:=True
def tw1817445138588840136:=True
def tw14859873809625289301:=True
def tw13709635071950542282:=True
def tw4912037177833739677:=True
def tw385970938744952325:=True
def tw12646804436965019199:=True
def tw1070253793055214175:=True
def tw7672874064203769695:=True
def tw6938027409679478102:=True
def tw10774936561662824584:=True
def tw1200272897965299244:=True
def tw13289506239754864116:=True
def tw11119979577924851976:=True
def tw15966838143701268308:=True
def tw4274319806439846586:=True
def tw5896737909988762045:=True
def tw6437937578848060835:=True
def tw12455728516602996515:=True
def tw532352472694914991:=True
def tw13293957961782933601:=True
def tw6153716939512249793:=True
def tw7453625573211530175:=True
def tw10341479630549505862:=True
def tw298152907030392856:=True
def tw3978535353487252159:=True
def tw8927932064850242699:=True
def tw4749500745112040055:=True
def tw11239817594791383099:=True
def tw13717021294196976796:=True
def tw2617712694521719677:=True
def tw8120400861296335935:=True
def tw17756111068895121944:=True
def tw934836273296928297:=True
def tw5802857470301849620:=True
def tw2807772109467632878:=True
def tw17787160507657937221:=True
def tw4089137731307354392:=True
def tw1054980577860405307:=True
def tw17314671058084969126:=True
def tw4392286001610592595:=True
def tw3009671869407902014:=True
def tw5492116364976020722:=True
def tw2242197646466070765:=True
def tw17532118399810177901:=True
def tw1050894737360457293:=True
def tw6248396930479583237:=True
def tw1445510197668763109:=True
def tw6304177112949821240:=True
def tw17798215520946341753:=True
def tw7856555135814056626:=True
def tw2340424905142834184:=True
def tw16756107260943651008:=True
def tw16044590858569085899:=True
def tw3598994195221673428:=True
def tw2928802685351694398:=True
def tw121893209859523223:=True
def tw6593212604166657229:=True
def tw7349964069940877239:=True
def tw11584233350728134376:=True
def tw18384044590358126590:=True
def tw13643651179003309995:=True
def tw7248320885725237849:=True
def tw16173533751761456224:=True
def tw2101560978663018378:=True
def tw392061294585072573:=True
def tw8406418824775035489:=True
def tw15929532594869477949:=True
def tw3472881143850429677:=True
def tw2425077525605763023:=True
def tw7529409580281870755:=True
def tw11163783428646841481:=True
def tw17752932423103901519:=True
def tw9421929127507321389:=True
def tw4880596758995828864:=True
def tw11686591895889138237:=True
def tw10456309402854310633:=True
def tw6907927696281416146:=True
def tw8963166720512029131:=True
def tw4319167472429697080:=True
def tw14826453813228756509:=True
def tw16763309438171385264:=True
def tw284255218310651873:=True
def tw3173652791607347473:=True
def tw1123289518833824259:=True
def tw10282707761309199019:=True
def tw13229724207830298628:=True
def tw3263499965685981853:=True
def tw3160111128154898193:=True
def tw6503590882494047262:=True
def tw8395141036880089478:=True
def tw15316948619274862332:=True
def tw12397628981822615280:=True
def tw85059027369448661:=True
def tw16043766911228153888:=True
def tw13236203026844283051:=True
def tw12594661689603920167:=True
def tw4240275169636302735:=True
def tw12196180313371910478:=True
def tw486851108489975041:=True
def tw11503370845373769047:=True
def tw2379688441544503716:=True
def tw8661688900913712606:=True
def tw5384452638216826447:=True
def tw12118811967725771654:=True
def tw16272520680817589812:=True
def tw12508733043704693238:=True
def tw9587296893431801600:=True
def tw9769847015900986149:=True
def tw1257855383844695900:=True
def tw1192586382263131856:=True
def tw10264020822029487514:=True
def tw4744640254906722801:=True
def tw7298489587789850790:=True
def tw17488599786872061695:=True
def tw5737345421937006214:=True
def tw2884124165307463570:=True
def tw7876508837046480604:=True
def tw4929016219745516035:=True
def tw16903722692034226775:=True
def tw15846386984513493306:=True
def tw12814427610213257772:=True
def tw13024129218328150272:=True
def tw3353039482292912832:=True
def tw13831662715730615947:=True
def tw2837813698499361361:=True
def tw7484304800997790869:=True
def tw16172057072030722627:=True
def tw15517600325202669597:=True
def tw13475444385183391683:=True
def tw3501700240451312423:=True
def tw2646585609677850192:=True
def tw3319589692776616601:=True
def tw12977727374741988204:=True
def tw5797345177081370049:=True
def tw4600309262914571287:=True
def tw7020069338077735162:=True
def tw10513911525147669342:=True
def tw14667894117600533355:=True
def tw1635502754291174137:=True
def tw2774683185022078484:=True
def tw10508698459270819346:=True
def tw15088545346500366256:=True
def tw8002718516134495812:=True
def tw8332337021389045343:=True
def tw13000070917515304021:=True
def tw8448705573430067235:=True
def tw7554419522016735455:=True
def tw12129152380593707868:=True
def tw7811849592374242814:=True
def tw3739011689645516163:=True
def tw5294163375786440562:=True
def tw13751406993951939085:=True
def tw5218565112777116026:=True
def tw3321312207599921990:=True
def tw14459891561746139379:=True
def tw7665151837924564623:=True
def tw16596098595697757479:=True
def tw2223464452618698709:=True
def tw14418697104855156628:=True
def tw9220796269310939306:=True
def tw3745194023225862104:=True
def tw3741896308492891738:=True
def tw13025922851126403211:=True
def tw9159830612795041621:=True
def tw16300773279411744765:=True
def tw15228427263801617457:=True
def tw3677515219262426839:=True
def tw7853712883961783967:=True
def tw6281241620912679399:=True
def tw6434546333455199390:=True
def tw17524544640679557394:=True
def tw3509314908297908039:=True
def tw5790668885397237966:=True
def tw9654649837236164424:=True
def tw8443392946221890862:=True
def tw4347152936968445068:=True
def tw13406422539235296244:=True
def tw8233034940167933760:=True
def tw1824884839690552939:=True
def tw16264050993378988619:=True
def tw15472394127058292292:=True
def tw9524723108248042420:=True
def tw13974209121526075786:=True
def tw17117582978722493538:=True
def tw1887225508515755895:=True
def tw16537535875331550129:=True
def tw13137051439706612118:=True
def tw17356467620899158401:=True
def tw8107532080176550162:=True
def tw4840909408193846502:=True
def tw2259588315475752891:=True
def tw118544528000587327:=True
def tw13486772097905316835:=True
def tw6905191551836979869:=True
def tw8475208557467221994:=True
def tw16584833092130086541:=True
def tw14253173307170470272:=True
def tw14112592101021328652:=True
def tw1783422810301387695:=True
def tw3135123830109905943:=True
def tw13566050775900454909:=True
def tw2062707798472058437:=True
def tw12939136535690502160:=True
def tw13354852835368207077:=True
def tw18098805364019306733:=True
def tw3952314892696436276:=True
def tw8067958172628243883:=True
def tw6370993444253631551:=True
def tw14719476624238848273:=True
def tw10582074477336847293:=True
def tw2591827670047266694:=True
def tw12481402009146730524:=True
def tw2746042075747728363:=True
def tw4697140596148390056:=True
def tw190579585841518583:=True
def tw16753990276890646326:=True
def tw9126107735917743580:=True
def tw2671455081972612170:=True
def tw12594795413574348654:=True
def tw8154112923901653714:=True
def tw17578024719370159699:=True
def tw13856220355931462020:=True
def tw7415899232058260391:=True
def tw10926596677650944068:=True
def tw8560051227268525094:=True
def tw18288226391219744693:=True
def tw13900594633026948961:=True
def tw410283735323065122:=True
def tw2004534542999371439:=True
def tw10316952926627913588:=True
def tw5019917495058791428:=True
def tw9649604186561814928:=True
def tw15604391454989962023:=True
def tw3378154785999165184:=True
def tw1109260588243105782:=True
def tw3597720122581101532:=True
def tw11754160447339054862:=True
def tw933848880305898443:=True
def tw6905941783757852509:=True
def tw6375614973647723147:=True
def tw11723777747570032093:=True
def tw18068510817564291181:=True
def tw13475786197719738194:=True
def tw13555130773723884806:=True
def tw1778817571164496599:=True
def tw4585244725298029015:=True
def tw13014644018794949369:=True
def tw3693224369072797500:=True
def tw7534446076972542141:=True
def tw6866959918819973768:=True
def tw17384819270465911042:=True
def tw14602310651578510120:=True
def tw6509210242443830505:=True
def tw15309928567575595687:=True
def tw14838163623408504611:=True
def tw13195667641804524394:=True
def tw3825776051633249334:=True
def tw13832305344131776530:=True
def tw4117262060731728261:=True
def tw1023559391460163529:=True
def tw12992328326953183083:=True
def tw7889064013444656136:=True
def tw14285056545944424000:=True
def tw11738722568791127623:=True
def tw15806817541800508754:=True
def tw12658605411104566967:=True
def tw8165591398618502230:=True
def tw5655659991623561897:=True
def tw8566423380810518755:=True
def tw11136185936302969834:=True
def tw15122236442395274610:=True
def tw1100465576099341027:=True
def tw14091306454399027067:=True
def tw9725603349492228801:=True
def tw15045061539996151563:=True
def tw4596231605387024264:=True
def tw14513024274916649863:=True
def tw17236394822849182685:=True
def tw16786573806106072373:=True
def tw4390878346365404326:=True
def tw9940154864791899150:=True
def tw14404374623551494392:=True
def tw14066535977242525992:=True
def tw18091205882078022520:=True
def tw4208070671569155663:=True
def tw9984518516546627344:=True
def tw7976642662844744380:=True
def tw13788135629402431509:=True
def tw2521602949423806326:=True
def tw8482533727306911866:=True
def tw16383194064175524358:=True
def tw15865333139222424638:=True
def tw17510341586630533858:=True
def tw14936368094022170813:=True
def tw2876760516019729106:=True
def tw8809171401623509065:=True
def tw2142368352485818160:=True
def tw9984853480973462958:=True
def tw9925291514342393062:=True
def tw3935394475515216266:=True
def tw12893928418944056036:=True
def tw7307682033216556896:=True
def tw12808126117606834185:=True
def tw3885996904263271072:=True
def tw10978640019903826507:=True
def tw10345871602909036663:=True
def tw7248114798374971409:=True
def tw11216940344874931970:=True
def tw6033938304305911920:=True
def tw11605923418782668040:=True
def tw18182293573878568404:=True
def tw10886511571184457664:=True
def tw5285329434247961877:=True
def tw16075045250268356124:=True
def tw17760966419308973561:=True
def tw4022077219342951859:=True
def tw1679653384366005780:=True
end PySem.W.Fast
set_option maxRecDepth 100000 in
set_option maxHeartbeats 0 in
theorem PySem.Challenge.cw_combstrip_k20_filling_covers_holds : PySem.Challenge.rw_combstrip_k20_filling_covers.Holds := by
 w_on; o_law; k_head; (case hw=>w_witness2)
 k_fill
 refine K20.walk (l:=PySem.Challenge.rw_combstrip_k20_filling_covers) rfl rfl (fun w h Y=>PySem.W.kIn_of Y) ?F
 case F =>
  intro w mg fa h KX G hmg
  refine' K20.all KX G hmg (L2.bn_mk KX G ?n0 ?n1 ?n2 ?n3 ?n4 ?n5 ?n6 ?n7 ?n8 ?n9 ?n10 ?n11 ?n12 ?n13 ?n14 ?n15 ?n16 ?n17 ?n18 ?n19 ?n20) ?v0 ?v1 ?v2 ?v3 ?v4 ?v5 ?zgt0 ?ztc0 ?r0 ?r1 ?r2 ?r3 ?r4 ?r5 ?r6 ?r7 ?r8 ?r9 ?r10 ?r11 ?r12 ?r13 ?r14 ?zrce ?zhc ?zini ?zbc ?m0 ?m1 ?m2 ?m3 ?m4 ?m5 ?d0 ?d1 ?d2 ?d3 ?d4 ?d5 ?d6 ?d7 ?d8 ?d9 ?d10 ?d11 ?d12 ?d13 ?d14 ?d15 ?d16 ?d17 ?d18 ?d19 ?d20 ?d21 ?d22 ?d23 ?d24 ?d25 ?d26 ?d27 ?d28 ?d29 ?d30 ?d31 ?d32 ?d33 ?d34 ?d35 ?d36 ?d37
  (case n0=>k_is)
  (case n1=>k_is)
  (case n2=>k_is)
  (case n3=>k_is)
  (case n4=>k_is)
  (case n5=>k_is)
  (case n6=>k_is)
  (case n7=>k_is)
  (case n8=>k_is)
  (case n9=>k_is)
  (case n10=>k_is)
  (case n11=>k_is)
  (case n12=>k_is)
  (case n13=>k_is)
  (case n14=>k_is)
  (case n15=>k_is)
  (case n16=>k_is)
  (case n17=>k_is)
  (case n18=>k_is)
  (case n19=>k_is)
  (case n20=>k_is)
  (case v0=>refine' L2.int_mk KX G ?a; (case a=>k_is))
  (case v1=>refine' L2.int_mk KX G ?a; (case a=>k_is))
  (case v2=>refine' L2.int_mk KX G ?a; (case a=>k_is))
  (case v3=>refine' L2.int_mk KX G ?a; (case a=>k_is))
  (case v4=>refine' L2.int_mk KX G ?a; (case a=>k_is))
  (case v5=>refine' L2.int_mk KX G ?a; (case a=>k_is))
  (case zgt0=>refine' L2.ref_mk KX G ?a; (case a=>k_is))
  (case ztc0=>kernel_rfl)
  (case r0=>refine' L2.ref_mk KX G ?a; (case a=>k_is))
  (case r1=>refine' L2.ref_mk KX G ?a; (case a=>k_is))
  (case r2=>refine' L2.ref_mk KX G ?a; (case a=>k_is))
  (case r3=>refine' L2.ref_mk KX G ?a; (case a=>k_is))
  (case r4=>refine' L2.ref_mk KX G ?a; (case a=>k_is))
  (case r5=>refine' L2.ref_mk KX G ?a; (case a=>k_is))
  (case r6=>refine' L2.ref_mk KX G ?a; (case a=>k_is))
  (case r7=>refine' L2.ref_mk KX G ?a; (case a=>k_is))
  (case r8=>refine' L2.ref_mk KX G ?a; (case a=>k_is))
  (case r9=>refine' L2.ref_mk KX G ?a; (case a=>k_is))
  (case r10=>refine' L2.ref_mk KX G ?a; (case a=>k_is))
  (case r11=>refine' L2.ref_mk KX G ?a; (case a=>k_is))
  (case r12=>refine' L2.ref_mk KX G ?a; (case a=>k_is))
  (case r13=>refine' L2.ref_mk KX G ?a; (case a=>k_is))
  (case r14=>refine' L2.ref_mk KX G ?a; (case a=>k_is))
  (case zrce=>refine' L2.ref_mk KX G ?a; (case a=>k_is))
  (case zhc=>kernel_rfl)
  (case zini=>refine' L2.init_mk (L2.ref_mk KX G ?z) ?a ?l ?c ?k ?i ?k2 ?mk; (case z=>k_is); (case a=>k_is); (case l=>k_is); (case c=>k_is); (case k=>k_is); (case i=>k_is); (case k2=>k_is); (case mk=>k_is))
  (case zbc=>kernel_rfl)
  (case m0=>refine' L2.meth_mk ?a ?l ?c ?k ?i; (case a=>k_is); (case l=>k_is); (case c=>k_is); (case k=>k_is); (case i=>k_is))
  (case m1=>refine' L2.meth_mk ?a ?l ?c ?k ?i; (case a=>k_is); (case l=>k_is); (case c=>k_is); (case k=>k_is); (case i=>k_is))
  (case m2=>refine' L2.meth_mk ?a ?l ?c ?k ?i; (case a=>k_is); (case l=>k_is); (case c=>k_is); (case k=>k_is); (case i=>k_is))
  (case m3=>refine' L2.meth_mk ?a ?l ?c ?k ?i; (case a=>k_is); (case l=>k_is); (case c=>k_is); (case k=>k_is); (case i=>k_is))
  (case m4=>refine' L2.meth_mk ?a ?l ?c ?k ?i; (case a=>k_is); (case l=>k_is); (case c=>k_is); (case k=>k_is); (case i=>k_is))
  (case m5=>refine' L2.meth_mk ?a ?l ?c ?k ?i; (case a=>k_is); (case l=>k_is); (case c=>k_is); (case k=>k_is); (case i=>k_is))
  (case d0=>refine' L2.def_mk KX G ?a ?l ?c ?k; (case a=>k_is); (case l=>k_is); (case c=>k_is); (case k=>k_is))
  (case d1=>refine' L2.def_mk KX G ?a ?l ?c ?k; (case a=>k_is); (case l=>k_is); (case c=>k_is); (case k=>k_is))
  (case d2=>refine' L2.def_mk KX G ?a ?l ?c ?k; (case a=>k_is); (case l=>k_is); (case c=>k_is); (case k=>k_is))
  (case d3=>refine' L2.def_mk KX G ?a ?l ?c ?k; (case a=>k_is); (case l=>k_is); (case c=>k_is); (case k=>k_is))
  (case d4=>refine' L2.def_mk KX G ?a ?l ?c ?k; (case a=>k_is); (case l=>k_is); (case c=>k_is); (case k=>k_is))
  (case d5=>refine' L2.def_mk KX G ?a ?l ?c ?k; (case a=>k_is); (case l=>k_is); (case c=>k_is); (case k=>k_is))
  (case d6=>refine' L2.def_mk KX G ?a ?l ?c ?k; (case a=>k_is); (case l=>k_is); (case c=>k_is); (case k=>k_is))
  (case d7=>refine' L2.def_mk KX G ?a ?l ?c ?k; (case a=>k_is); (case l=>k_is); (case c=>k_is); (case k=>k_is))
  (case d8=>refine' L2.def_mk KX G ?a ?l ?c ?k; (case a=>k_is); (case l=>k_is); (case c=>k_is); (case k=>k_is))
  (case d9=>refine' L2.def_mk KX G ?a ?l ?c ?k; (case a=>k_is); (case l=>k_is); (case c=>k_is); (case k=>k_is))
  (case d10=>refine' L2.def_mk KX G ?a ?l ?c ?k; (case a=>k_is); (case l=>k_is); (case c=>k_is); (case k=>k_is))
  (case d11=>refine' L2.def_mk KX G ?a ?l ?c ?k; (case a=>k_is); (case l=>k_is); (case c=>k_is); (case k=>k_is))
  (case d12=>refine' L2.def_mk KX G ?a ?l ?c ?k; (case a=>k_is); (case l=>k_is); (case c=>k_is); (case k=>k_is))
  (case d13=>refine' L2.def_mk KX G ?a ?l ?c ?k; (case a=>k_is); (case l=>k_is); (case c=>k_is); (case k=>k_is))
  (case d14=>refine' L2.def_mk KX G ?a ?l ?c ?k; (case a=>k_is); (case l=>k_is); (case c=>k_is); (case k=>k_is))
  (case d15=>refine' L2.def_mk KX G ?a ?l ?c ?k; (case a=>k_is); (case l=>k_is); (case c=>k_is); (case k=>k_is))
  (case d16=>refine' L2.def_mk KX G ?a ?l ?c ?k; (case a=>k_is); (case l=>k_is); (case c=>k_is); (case k=>k_is))
  (case d17=>refine' L2.def_mk KX G ?a ?l ?c ?k; (case a=>k_is); (case l=>k_is); (case c=>k_is); (case k=>k_is))
  (case d18=>refine' L2.def_mk KX G ?a ?l ?c ?k; (case a=>k_is); (case l=>k_is); (case c=>k_is); (case k=>k_is))
  (case d19=>refine' L2.def_mk KX G ?a ?l ?c ?k; (case a=>k_is); (case l=>k_is); (case c=>k_is); (case k=>k_is))
  (case d20=>refine' L2.def_mk KX G ?a ?l ?c ?k; (case a=>k_is); (case l=>k_is); (case c=>k_is); (case k=>k_is))
  (case d21=>refine' L2.def_mk KX G ?a ?l ?c ?k; (case a=>k_is); (case l=>k_is); (case c=>k_is); (case k=>k_is))
  (case d22=>refine' L2.def_mk KX G ?a ?l ?c ?k; (case a=>k_is); (case l=>k_is); (case c=>k_is); (case k=>k_is))
  (case d23=>refine' L2.def_mk KX G ?a ?l ?c ?k; (case a=>k_is); (case l=>k_is); (case c=>k_is); (case k=>k_is))
  (case d24=>refine' L2.def_mk KX G ?a ?l ?c ?k; (case a=>k_is); (case l=>k_is); (case c=>k_is); (case k=>k_is))
  (case d25=>refine' L2.def_mk KX G ?a ?l ?c ?k; (case a=>k_is); (case l=>k_is); (case c=>k_is); (case k=>k_is))
  (case d26=>refine' L2.def_mk KX G ?a ?l ?c ?k; (case a=>k_is); (case l=>k_is); (case c=>k_is); (case k=>k_is))
  (case d27=>refine' L2.def_mk KX G ?a ?l ?c ?k; (case a=>k_is); (case l=>k_is); (case c=>k_is); (case k=>k_is))
  (case d28=>refine' L2.def_mk KX G ?a ?l ?c ?k; (case a=>k_is); (case l=>k_is); (case c=>k_is); (case k=>k_is))
  (case d29=>refine' L2.def_mk KX G ?a ?l ?c ?k; (case a=>k_is); (case l=>k_is); (case c=>k_is); (case k=>k_is))
  (case d30=>refine' L2.def_mk KX G ?a ?l ?c ?k; (case a=>k_is); (case l=>k_is); (case c=>k_is); (case k=>k_is))
  (case d31=>refine' L2.def_mk KX G ?a ?l ?c ?k; (case a=>k_is); (case l=>k_is); (case c=>k_is); (case k=>k_is))
  (case d32=>refine' L2.def_mk KX G ?a ?l ?c ?k; (case a=>k_is); (case l=>k_is); (case c=>k_is); (case k=>k_is))
  (case d33=>refine' L2.def_mk KX G ?a ?l ?c ?k; (case a=>k_is); (case l=>k_is); (case c=>k_is); (case k=>k_is))
  (case d34=>refine' L2.def_mk KX G ?a ?l ?c ?k; (case a=>k_is); (case l=>k_is); (case c=>k_is); (case k=>k_is))
  (case d35=>refine' L2.def_mk KX G ?a ?l ?c ?k; (case a=>k_is); (case l=>k_is); (case c=>k_is); (case k=>k_is))
  (case d36=>refine' L2.def_mk KX G ?a ?l ?c ?k; (case a=>k_is); (case l=>k_is); (case c=>k_is); (case k=>k_is))
  (case d37=>refine' L2.def_mk KX G ?a ?l ?c ?k; (case a=>k_is); (case l=>k_is); (case c=>k_is); (case k=>k_is))
