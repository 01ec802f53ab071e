import PyProof.Rows.All
import Wide.All
import OpenK.AllK
import Wide.FinOn
import Lean
import PyProof.EqAt
import PyProof.EqKinds
import PyProof.TupleCall
import PySem.Challenge.RW_combstrip_k24_filling_with
set_option Elab.async false
set_option linter.all false
set_option maxRecDepth 100000
set_option maxHeartbeats 40000000
open Array renaming length_toList->At,toList_append->B6,toList_push->Ch,getElem?_toList->Ci,toList_reverse->Cq,getElem_extract->Gb,perm_iff_toList_perm->Gu,getElem?_eq_some_iff->Gv,getElem?_eq_getElem->Hi,forIn_toList->Jt,append_assoc->Ju,toList_inj->Kj,toList_setIfInBounds->L9,toList->M7,size_extract->Ng,toList_map->Oc,size_map->Ox
open Array.Perm renaming refl->Gc,trans->Mj,toList->Sm,size_eq->Sn
open Bool renaming false_ne_true->A9,false_eq_true->Bm,eq_iff_iff->Bq,and_eq_true->Bz,not_true->En,true_and->F8,false_and->Fj,not_eq_true'->Fy,or_eq_true->Kz,or_false->Lw,or_true->Mi,and_eq_false_iff->N1,eq_false_iff->Ob,and_false->P5,false_or->Pi
open Classical renaming byContradiction->De,not_not->Sx
open Decidable renaming byContradiction->Kn
open False renaming elim->Cn
open ForInStep renaming yield->Dz,done->Sv
open Int renaming toNat_natCast->Dk,emod_lt_of_pos->Dq,zero_add->Dy,le_refl->E2,emod_nonneg->E8,fdiv_eq_ediv_of_nonneg->Ll,eq_ofNat_of_zero_le->Mg,le_trans->Mz,mul_one->Rh
open List renaming length_map->A5,getElem?_eq_getElem->A6,mem_singleton->A7,range->Ab,mem_cons_of_mem->Ac,getElem?_map->Af,length_append->Ag,mem_map->Ah,mem_cons_self->Ai,getD_eq_getElem?_getD->Aj,mem_append->Al,getElem?_eq_some_iff->Ao,map_cons->Aq,append_assoc->Au,length_cons->Aw,length_range->Ax,size_toArray->Az,mem_of_getElem?->B0,mem_range->B5,mem_filter->B9,length_singleton->Bd,mem_cons->Bf,mem_append_left->Bg,mem_append_right->Bo,map_map->Bp,replicate->Br,map_append->Bs,any_eq_true->Bv,pairwise_append->C1,getElem?_append_left->C4,take_length->C8,append_nil->C9,getElem?_append_right->Ca,pairwise_map->Cb,take_append_drop->Cc,getElem?_range->Cd,all_eq_true->Cg,map_congr_left->Ck,filter_eq_self->Cm,getElem_mem->Cp,take_succ_eq_append_getElem->Cs,getElem?_eq_none->Cv,length_take->Cw,filter_cons->Cy,pairwise_iff_getElem->D1,length_filter_le->D6,filter_append->Db,filter_sublist->Di,pairwise_lt_range->Dt,nodup_nil->Du,nodup_cons->Dv,perm_append_comm->Dw,nodup_append->E3,range_succ->E6,replicate_succ->E9,lookup_cons->Ee,perm_ext_iff_of_nodup->Eh,getElem_of_mem->Es,length->Ey,mem_filterMap->Ez,find?_cons->F5,filter_nil->F6,ext_getElem?->Fd,nodup_iff_pairwise_ne->Fh,lookup->Fi,sum_cons->Fp,take_sublist->Fu,flatten_cons->Fv,drop_sublist->Fw,length_drop->Ge,any_cons->Gg,take_succ_cons->Gn,map_nil->Gq,zip_cons_cons->Gy,mem_of_find?_eq_some->Hj,drop_eq_getElem_cons->Hk,getElem_map->Ia,getElem?_replicate->Ib,toArray->Ik,take_of_length_le->Il,all_map->Im,of_mem_zip->Iv,length_nil->Iw,filter_map->Ix,mem_iff_getElem?->Iy,mem_of_mem_take->J7,map_id->J8,lt_irrefl->J9,filterMap_cons->Jl,pairwise_cons->Jv,mapM_toArray->Jz,map->K0,getElem_take->K1,getElem_drop->K2,getElem?_inj->K7,any_map->K8,mem_flatMap->Kl,cons_append->Km,forIn_cons->Kw,foldl_cons->Kx,dropLast_concat_getLast->Ky,foldl->Lb,drop_zero->Lc,drop_drop->Ld,mem_take_iff_getElem->Lk,length_erase_of_mem->Lu,getElem?_take_of_lt->Lv,pairwise_singleton->M3,getLast_eq_getElem->M4,map_id'->Md,length_pos_of_mem->Me,getElem?_set_self->Mf,singleton_append->Mw,length_replicate->Mx,not_lt->N6,mem_iff_getElem->N7,length_dropLast->N8,getElem?_set_ne->N9,any->Na,map_singleton->Nl,getElem_range->Nm,find?_eq_none->No,reverse_perm->O5,reverse_cons->O6,filter_congr->O7,any_eq_false->O8,nodup_range->Oh,mem_reverse->Oi,ext_getElem->Oj,drop_length->Ol,sum_append->Ou,length_set->Ov,find?_some->Ow,take_zero->P3,take_add->Pd,lt_trans->Pe,le_trans->Pf,all_cons->Pg
open List.Nodup renaming mem_erase_iff->Sl
open List.Pairwise renaming sublist->Bi,imp->Et,nil->Fo,imp_of_mem->Gh
open List.Perm renaming append_left->Dh,append_right->Hl,refl->Ki
open Nat renaming le_refl->Aa,lt_of_lt_of_le->Ae,ne_of_lt->B8,zero_le->By,le_trans->C5,lt_irrefl->Dp,add_sub_cancel_left->E5,lt_succ_of_lt->Em,lt_succ_self->Ew,sub_self->Fn,le_of_lt->G5,zero_testBit->Gf,lt_trans->Gs,add_assoc->Hu,testBit_lt_two_pow->Iu,pow_le_pow_right->Jg,mul_le_mul_right->Jh,eq_of_testBit_eq->Ji,ne_of_gt->Kh,le_of_not_lt->Kr,le_succ->Kv,add_zero->Mt,add_comm->Mu,le_of_ble_eq_true->N5,pow_pos->Nf,sub_add_cancel->O3,add_sub_cancel->O4,le_add_right->Ot,zero_lt_one->P0,testBit_and->P1,add_one_mul->P2,zero_add->Q7,sub_zero->Q8,pow_succ->Q9,le_of_eq->Qa,mul_pos->Rf,add_mul->Rg
open Ne renaming symm->E7
open Option renaming map_some->Cf,isSome_iff_exists->D5,isSome_map->Hh,getD_some->Hm,map_eq_some_iff->Ls,getD_none->Nk,none->Pc,map->Pp
open Option.some renaming inj->C6
open Or renaming inl->As,inr->F4
open PyProof.Rows renaming wpS_bind->Ak,wpS_pure->Ar,Keyed->Ay,boot_isinstance->Bt,SortSt->C3,wpS_forRange->Da,wpS_mono->Ef,IntsAre->El,SortKind->Ff,callWith_type1->G9,listUpdate_at->Gp,AllBare->Gr,step_dedup->Hq,bubble->Hw,wpS_get->Ih,seqEpoch_at->Ij,pairsOf_size->Jb,IsTup->Jm,wpS_lift->Jw,boot_sorted->Jy,getElem?_mirror_all->Kb,wpS_modify->Ko,lt_int->L5,units_in1->Lh,wpS_reverse->Ln,getElem?_bubble->Lz,entry_list_sort->M0,slot_list_sort->Mn,boot_tuple->Mo,args_list_sort->Mp,boot_list->Nh,subscriptTail_builtinR->Nt,plain_sorted->Nv,listItems_at->Nw,entry_sorted->Nx,args_sorted1->Ny,kind_sorted->Oq,sortedS_of_pairwise->Oy,Subscript_->Pb,wpAny_notIn_heap->Pt,list_sort_plain->Qj,get?_update_seq->Qk,mirror->Rb,callWith_builtin1->Rc,assign_Tuple->Re,sortedHeap_old->Rp,keyLt'_oneType->Rq,boot_all->Rs,sortedHeap_at->Rz,StrsAre->Sr
open PyProof.Rows.SortSt renaming mk'->Kt
open PySem renaming wpAny_bind->A1,Value->A2,Addr->A3,Shared->A4,wpAny_pure->Ad,Program->Ap,Around->B7,World->Bb,boot_len->Bu,Heap->Bx,Paired->C7,Expr->Ce,Stmt->Cj,wpAny_truthy_bool->Cu,wpAny_holding->D3,wpAny_mono->Dg,wpAny_call_entry->Ds,FuncData->Ek,wpAny_loadPart'->Eo,wpAny_newObj_type->Ep,Builtin->F0,wpAny_typeNameOfWhole_keyiter->F9,wpAny_passesOwn->Fe,Scope->Fg,mem_of_lookup->Fm,wpAny_typeNameOf_keyiter->Ft,wpAny_rule->Fz,wpAny_Call_Name_kw->G0,wpAny_field->G6,wpAny_callSpecial?_slot->G7,IsRangeIter->Ga,wpAny_isInstance->Gj,wpAny_forIn_list->Gk,PyData->Gm,wpAny_attempt->Go,wpAny_specialOf->Gz,wpAny_execs_nil->Ha,wpAny_setField->Hn,tupleKind_room_in1->Ho,Model->Hv,wpAny_dictEntries->Ii,wpAny_newList->Ip,NameKind->J4,DictEntry->J5,codeAny_mono->Jc,call_meets->Jd,wpAny_isOneOf_keyiter->Jo,isSubtype_tuple_tuple->Jp,wpAny_fieldsOf->Jx,BindsTo->Ka,wpAny_standAt->Kk,wpAny_tupleItemsOf->Kp,wpAny_call->Kq,wpAny_execs_cons->Lf,wpAny_callSpecialIfBound?_slot->Lg,wpAny_dictEpoch->Ly,Within->M2,wpAny_newFunctionEnv_cells->Mm,IsTupleKey->My,call->Nc,CmpOp->Np,wpAny_pyIter_rangeiter->Nq,wpAny_Assign_Subscript->Nr,seqIndex_neg->Nu,Fin->O2,wpAny_isTrue_Compare1->Od,codeAny_call_function->Oe,wpAny_pyIter_keyiter->Om,wpAny_of_eq->On,sizeLine_eq->Oo,seqIndex_of->Op,wpAny_setItem_heap->P6,wpAny_pyIter_range->P7,wpAny_getItem_heap->P8,wpAny_Name->P9,typeIs_int->Pa,wpAny_pyIter_list->Pj,wpAny_assign_Name->Pk,slot_list_getitem->Pl,wpAny_Dict_empty->Pu,PassesOwn->Q6,Arguments->Qh,wpAny_ret_mkInt->Qi,codeAny_builtin->Ql,wpAny_seqItems->Rk,wpAny_newTuple->Rl,wpAny_loadPart->Rm,wpAny_cRoomFor->Rn,wpAny_Compare1->Ro,isSubtype_stop->Rr,Result->Ru,Params->Rv,wpAny_handled->Ry,rangeSize_one->S0,intBits_le_64->S1,eval_ListComp->S2,evalPart_none->S3,call_list_seq->S4,codeAny_func->So,call_range_1->Sq,Keyword->Su
open PySem.Around renaming under->Lx,frames_deeper->Ml
open PySem.AutoListH renaming list___mul___list_int_3->Sy
open PySem.Builtin renaming bitAnd->Dx
open PySem.Builtin.Dict renaming showsAll->Ks,pendingCount->Ri,dictSlotNone->Rj
open PySem.Builtin.Dict_items renaming ownsTuple->Io
open PySem.Builtin.List renaming listTooLong->Gi
open PySem.Builtin.ObjectAttr renaming bindTo->J6
open PySem.Builtin.Range renaming rangeSize->K9
open PySem.Builtin.Tuple renaming tupleHashOf->F7,tupleItemsOf->Qf,tupleCompareSizes->Qg
open PySem.Calls renaming call_function_entry->Fl,Name_function_global->L8,callWith_builtin->M6,evalArgs_plain->N0
open PySem.Code renaming isFrame->Mh,frames->Qe
open PySem.Data renaming fields->Qd,cell->Rx
open PySem.DictEntry renaming refKey->Sw
open PySem.EntryCells renaming newEntry->Lm
open PySem.EqMixed renaming ne_str_int->Py,ne_str_bool->Pz,ne_int_str->Q0,ne_bool_str->Q1,eq_str_int->Q2,eq_str_bool->Q3,eq_int_str->Q4,eq_bool_str->Q5
open PySem.EqNone renaming ne_str_none->Qn,ne_none_str->Qo,ne_none_none->Qp,ne_none_int->Qq,ne_none_bool->Qr,ne_int_none->Qs,ne_bool_none->Qt,eq_str_none->Qu,eq_none_str->Qv,eq_none_none->Qw,eq_none_int->Qx,eq_none_bool->Qy,eq_int_none->Qz,eq_bool_none->Ra
open PySem.F renaming plainAttrs_list->Bh,type_list_append->Bj,slot_list_append->Bl,slot_dict_keyiterator_next->Ec,slot_tuple_hash->Ic,slot_tuple_lt->Ig,slot_tuple_eq->Ja,slot_dict_getitem->Ku,args_dict_keyiterator_next_1->L7,args_tuple_lt_2->La,entry_dict_keyiterator_next->Le,entry_tuple_lt->Lj,slot_range_iterator_next->M5,excBase_ValueError->O9,excAttr_ValueError->Oa,slot_dict_iter->Ph,slot_int_rmul->Pr,slot_dict_len->Ps,slot_list_lt->Qc
open PySem.Heap renaming get?_push_of_some->A8,lt_size->An,get?_push_size->Av,size_push->Eu,SameBut->Fk,get?_update_other->Fx,get?_update_self->Gd,get?_update_ne->Jn,ExtBut->Qb
open PySem.Heap.DictOf renaming new->Rw
open PySem.Heap.IsSliceOf renaming new->Pq
open PySem.Heap.SameBut renaming update->L6
open PySem.IsL renaming update->Ss
open PySem.IsRange renaming new->P4
open PySem.NameKind renaming free->Cr,cell->J0
open PySem.Obj renaming mapSeq->D7,mapFields->Fa,data_mapFields->Fs,isFreed_of_fields->N4,cls_mapFields->Og
open PySem.Paired renaming length->Cz,snoc->Ev,mono->Mc
open PySem.PassesOwn renaming never->Be,leaving->Mb
open PySem.PyData renaming canLayAll0->Ba,depthAll->C0,eqv->D0,canLay0->D4,strOk->Df,depth->Dm,eqvAll->Eb,int->Ed
open PySem.SeqAt renaming shaped->Do,EqAt->Nb
open PySem.SeqAt.EqAt renaming str_int->Lo,int_str->Lp,int_int->Lq,str_str->S6,str_none->S7,str_bool->S8,same->S9,none_str->Sc,none_int->Sd,none_bool->Se,int_none->Sf,int_bool->Sg,bool_str->Sh,bool_none->Si,bool_int->Sj,bool_bool->Sk
open PySem.SeqRoads2.EqGives renaming str->Os
open PySem.Str renaming ofString->A0,length->Rt,empty->S5
open PySem.Value renaming ref->B1,none->Ct,type->Ex,int->Hr,bool->Ie,builtin->Jj,str->Kc,float->Mq,isStrOf->Oz,isInt->Pn,bytes->Po
open PySem.Value.ref renaming inj->Ni
open PySem.W renaming Frag->Am,mg_none_of->Bc,findIn->Bw,nsIn->C2,fnOf->Co,keepIn->D8,kia_one->D9,emptyDict->Dr,hideAll->E1,instObj->Ei,mroIn->Ej,codeIn->Fb,InstAt->Fc,kitOne->Fq,plainGet->G3,clsIn->G8,hasDictIn->Gw,excIn->Hf,isFn->Hs,cellsFrom_some->Ht,looks_findIn->Iq,lookIn->Ir,exmOne->Is,plainGet_of->Iz,of_hideAll->Je,callWith_K->Jf,specialIn->Jq,plainOver->Jr,methodObj->Js,takesIn->Kd,takerIn->Ke,makesIn->Kf,OpenLaw->Kg,mg_of->L3,Looks->L4,methodCall_KW->Lr,kdu_collect->M8,hideAll_get->M9,callWith_K0->Ma,codeRec_of->Ms,kitx_list->N2,kitx_dict->N3,handedIn->Nd,findObj->Nj,typeIn->O0,kitCls->O1,WalkO->Of
open PySem.W.KT renaming app_list->Li
open PySem.W.Looks renaming ld->Pw,here->Px
open PySem.Within renaming cons->Qm
open StateT renaming run_pure->Nz
open Sum renaming inr->Dj,inl->Jk
open Sum.inr renaming inj->M1
open True renaming intro->Eg
local macro_rules | `(tactic| omega) => `(tactic| first | lia | omega +splitDisjunctions)
namespace L2
open PySem PySem.Spec PyProof.Rows
noncomputable abbrev Key:=Sum Int Str
noncomputable def keyIs:Key->A2->Bool
 | .inl k,v=>Pn k v
 | .inr x,v=>Oz x v
noncomputable def keyH (w:Bb):Key->Int
 | .inl k=>hashInt k
 | .inr x=>hashStr w x
theorem zaN:∀ {k:Key} {v:A2},keyIs k v=true->(∃ i t,k=Jk i/\v=Hr i t)\/(∃ x t,k=Dj x/\v=Kc x t)
 | .inl i,v,h=>by
  obtain ⟨t,e⟩:=Value.isInt_shape (k:=i) (v:=v) h
  exact .inl ⟨i,t,rfl,e⟩
 | .inr x,v,h=>by
  obtain ⟨t,e⟩:=Value.isStrOf_shape (x:=x) (v:=v) h
  exact .inr ⟨x,t,rfl,e⟩
theorem keyIs_int (i:Int) (t:Tok):keyIs (.inl i) (.int i t)=true:=by simp [keyIs,Pn]
theorem keyIs_str (x:Str) (t:Tok):keyIs (.inr x) (.str x t)=true:=by simp [keyIs,Oz]
theorem key_ll (a b:Int):decide ((Jk a:Key)=Jk b)=(a == b):=by
 by_cases e:a=b
 ·subst e; simp
 ·have h:¬ (Jk a:Key)=Jk b:=fun q=>e (Sum.inl.inj q)
  rw [decide_eq_false h]
  exact (beq_eq_false_iff_ne.mpr e).symm
theorem key_rr (a b:Str):decide ((Dj a:Key)=Dj b)=decide (a=b):=by
 by_cases e:a=b
 ·subst e; simp
 ·have h:¬ (Dj a:Key)=Dj b:=fun q=>e (M1 q)
  rw [decide_eq_false h,decide_eq_false e]
theorem key_lr (a:Int) (b:Str):decide ((Jk a:Key)=Dj b)=false:=decide_eq_false (fun q=>nomatch q)
theorem key_rl (a:Str) (b:Int):decide ((Dj a:Key)=Jk b)=false:=decide_eq_false (fun q=>nomatch q)
noncomputable def mixKind (prog:Ap) (w:Bb):PySem.KeyKind prog w Key where
 is:=keyIs
 hash:=keyH w
 inj:=fun v a b ha hb=>by
  rcases zaN ha with ⟨i,t,rfl,rfl⟩ | ⟨x,t,rfl,rfl⟩
  ·rcases zaN hb with ⟨j,u,rfl,e⟩ | ⟨y,u,rfl,e⟩
   ·injection e with e1 _; rw [e1]
   ·exact nomatch e
  ·rcases zaN hb with ⟨j,u,rfl,e⟩ | ⟨y,u,rfl,e⟩
   ·exact nomatch e
   ·injection e with e1 _; rw [e1]
 byValue:=fun k v h=>by
  rcases zaN h with ⟨i,t,rfl,rfl⟩ | ⟨x,t,rfl,rfl⟩ <;> rfl
 pyHash:=fun hv h=>by
  rcases zaN hv with ⟨i,t,rfl,rfl⟩ | ⟨x,t,rfl,rfl⟩
  ·exact wpAny_pyHash_int h
  ·exact wpAny_pyHash_str h
 eqBool:=fun hu hv h=>by
  rcases zaN hu with ⟨i,t,rfl,rfl⟩ | ⟨x,t,rfl,rfl⟩
  ·rcases zaN hv with ⟨j,u,rfl,rfl⟩ | ⟨y,u,rfl,rfl⟩
   ·rw [key_ll] at h; exact wpAny_eqBool_int h
   ·rw [key_lr] at h; exact Lp i t y u _ _ _ _ h
  ·rcases zaN hv with ⟨j,u,rfl,rfl⟩ | ⟨y,u,rfl,rfl⟩
   ·rw [key_rl] at h; exact Lo x t j u _ _ _ _ h
   ·rw [key_rr] at h; exact wpAny_eqBool_str h
 «strs» := fun k x t v h=>by
  rcases zaN h with ⟨i,u,rfl,e⟩ | ⟨y,u,rfl,e⟩
  ·exact nomatch e
  ·injection e with e1 _
   subst e1
   cases v <;> rfl
theorem mixKind_int (prog:Ap) (w:Bb) (i:Int) (t:Tok):(mixKind prog w).is (.inl i) (.int i t)=true:=keyIs_int i t
theorem mixKind_str (prog:Ap) (w:Bb) (x:Str) (t:Tok):(mixKind prog w).is (.inr x) (.str x t)=true:=keyIs_str x t
inductive V where
 | non | bl (b:Bool) | int (i:Int) | str (x:Str) | byt (b:Array UInt8) | flt (b:UInt64) | ref (a:A3) | ty (n:String)
 deriving DecidableEq
noncomputable def RelV:V->A2->Prop
 | .non,u=>u=Ct
 | .bl b,u=>u=Ie b
 | .int i,u=>∃ t,u=Hr i t
 | .str x,u=>∃ t,u=Kc x t
 | .byt b,u=>∃ t,u=Po b t
 | .flt b,u=>∃ t,u=Mq b t
 | .ref a,u=>u=B1 a
 | .ty n,u=>u=Ex n
noncomputable abbrev Vals:List V->List A2->Prop:=C7 RelV
theorem Vals.length {xs:List V} {us:List A2} (r:Vals xs us):xs.length=us.length:=Cz r
theorem Vals.get:∀ {xs:List V} {us:List A2} {i:Nat} {x:V},Vals xs us->xs[i]?=some x->∃ u,us[i]?=some u/\RelV x u
 | _,_,_,_,.nil,e=>by simp at e
 | _,_,0,_,.cons r _,e=>by simp at e; subst e; exact ⟨_,rfl,r⟩
 | _,_,i + 1,x,.cons _ t,e=>by
  obtain ⟨u,h1,h2⟩:=Vals.get (i:=i) (x:=x) t (by simpa using e)
  exact ⟨u,by simpa using h1,h2⟩
theorem Vals.set {x:V} {u:A2} (r:RelV x u):∀ {xs:List V} {us:List A2} (i:Nat),Vals xs us->Vals (xs.set i x) (us.set i u)
 | _,_,_,.nil => .nil
 | _,_,0,.cons _ t => .cons r t
 | _,_,i + 1,.cons q t => .cons q (Vals.set r i t)
theorem Vals.append:∀ {xs ys:List V} {us ws:List A2},Vals xs us->Vals ys ws->Vals (xs ++ ys) (us ++ ws)
 | _,_,_,_,.nil,s=>s
 | _,_,_,_,.cons r t,s => .cons r (Vals.append t s)
theorem Vals.take:∀ {xs:List V} {us:List A2} (n:Nat),Vals xs us->Vals (xs.take n) (us.take n)
 | _,_,0,_ => .nil
 | _,_,_ + 1,.nil => .nil
 | _,_,n + 1,.cons r t => .cons r (Vals.take n t)
theorem Vals.drop:∀ {xs:List V} {us:List A2} (n:Nat),Vals xs us->Vals (xs.drop n) (us.drop n)
 | _,_,0,r=>r
 | _,_,_ + 1,.nil => .nil
 | _,_,n + 1,.cons _ t=>Vals.drop n t
noncomputable def RelO:Option V->Option A2->Prop
 | some v,some u=>RelV v u
 | none,none=>True
 | _,_=>False
noncomputable def KV {κ : Type}:List (κ × V)->List (κ × A2)->Prop:=C7 fun (p : κ × V) (q : κ × A2)=>p.1=q.1/\RelV p.2 q.2
noncomputable def kV:Key->V
 | .inl i => .int i
 | .inr x => .str x
inductive HO where
  | lst (xs:List V)
  | tup (xs:List V)
  | dK (kvs:List (Key×V)) | dT (kvs:List (List Key×V))
  | set (S:Int->Bool) (n:Nat)
  | ins (C dx:A3) (fs:List (Str×V))
  | own (x:A3)
  | xd (fs:List (Str×V))
  | met (f x:A3)
  | rng (lo hi:Int)
  | frz (o:Obj) (u:HO)
  | tbl (ps:Array A2)
  | ext (φ : Bx->Prop)
noncomputable abbrev Hp:=A3->Option HO
noncomputable def upd (H:Hp) (a:A3) (o:HO):Hp:=fun b=>if b=a then some o else H b
theorem zab {H:Hp} {a:A3} {o:HO}:upd H a o a=some o:=by unfold upd; rw [if_pos rfl]
theorem zaf {H:Hp} {a b:A3} {o:HO} (h:b≠a):upd H a o b=H b:=by unfold upd; rw [if_neg h]
theorem zhg {H:Hp} {a b:A3} {o u:HO} (h:H a=some o) (h':H b=some u) (d:o≠u):a≠b:=by
 intro e; subst e; rw [h] at h'; exact d (C6 h')
theorem zan {H:Hp} {a b:A3} {o:HO} (h:H a=some o) (h':H b=none):a≠b:=by
 intro e; subst e; rw [h] at h'; cases h'
section
variable (P:Ap) (w:Bb)
noncomputable def ObjOk (H:Hp) (h:Bx) (a:A3):HO->Prop
 | .lst xs=>xs.length<=sizeLine/\∃ (its:List A2) (n:Nat),Vals xs its/\h.get? a=some { cls := .type "list",data := .seq its.toArray n }
 | .tup xs=>xs.length<=sizeLine/\∃ its:List A2,Vals xs its/\Jm h a its.toArray
 | .dK kvs=>kvs.length<=sizeLine/\(a == sysModules)=false/\∃ vs,KV kvs vs/\h.DictOf (mixKind P w) a vs
 | .dT kvs=>kvs.length<=sizeLine/\(a == sysModules)=false/\∃ xs:List (List Key×A3×A2),
   C7 (fun (p:List Key×V) (q:List Key×A3×A2)=>p.1=q.1/\H q.2.1=some (.tup (p.1.map kV))/\RelV p.2 q.2.2) kvs xs /\
   ∃ o es ep,h.get? a=some o/\o.ExactDict/\o.data = .dict es ep/\es.toList=xs.map (entryOfKey (tupleKind (mixKind P w)))/\(xs.map (·.1)).Nodup
 | .set S n=>h.SetOf (intKind P w) a S n
 | .ins C dx fs=>H dx=some (.own a)/\fs.length<=1000/\dx≠a/\h.get? a=some (Ei C dx) /\
   ∃ mA,h.Ns1 dx mA/\(∀ f,RelO (fs.lookup f) (mA f))/\M2 mA (fs.map (·.1))
 | .own _=>∃ o,h.get? a=some o
 | .xd fs=>∃ mA,h.Ns1 a mA/\∀ f,RelO (fs.lookup f) (mA f)
 | .rng lo hi=>∃ t u v,h.get? a=some { cls := .type "range",data := .fields #[.int lo t,.int hi u,.int 1 v] }
 | .frz o u=>h.get? a=some o/\ObjOk H h a u
 | .tbl ps=>h.get? a=some { cls := .none,data := .fields ps }
 | .met f x=>h.get? a=some (Js (.ref f) (.ref x))
 | .ext φ => φ h/\(∃ o,h.get? a=some o)/\∀ h1 h2:Bx,φ h1->(∀ o,h1.get? a=some o->h2.get? a=some o) -> φ h2
noncomputable def HOk (H:Hp) (h:Bx):Prop:=∀ a o,H a=some o->ObjOk P w H h a o
end
section
variable {P:Ap} {w:Bb} {H H':Hp} {h h':Bx} {a:A3} {o:HO}
theorem ObjOk.lt (x:ObjOk P w H h a o):a < h.objs.size:=by
 cases o with
 | lst xs=>obtain ⟨_,_,_,_,e⟩:=x; exact An e
 | tup xs=>obtain ⟨_,_,_,p⟩:=x; exact p.lt
 | dK kvs=>obtain ⟨_,_,_,_,o,_,_,e,_⟩:=x; exact An e
 | dT kvs=>obtain ⟨_,_,_,_,o,_,_,e,_⟩:=x; exact An e
 | set S n=>obtain ⟨o,_,_,_,e,_⟩:=x; exact An e
 | ins C dx fs=>obtain ⟨_,_,_,e,_⟩:=x; exact An e
 | own y=>obtain ⟨_,e⟩:=x; exact An e
 | xd fs=>obtain ⟨_,⟨_,_,_,e,_⟩,_⟩:=x; exact An e
 | rng lo hi=>obtain ⟨_,_,_,e⟩:=x; exact An e
 | frz ob u=>obtain ⟨e,_⟩:=x; exact An e
 | tbl ps=>exact An (show h.get? a=some _ from x)
 | met f y=>exact An (show h.get? a=some _ from x)
 | ext φ => obtain ⟨_,⟨_,e⟩,_⟩:=x; exact An e
theorem C7.mapP {α β : Type} {F G : α -> β -> Prop}:∀ {l₁ : List α} {l₂ : List β},C7 F l₁ l₂ -> (∀ a b,F a b->G a b)->C7 G l₁ l₂
 | _,_,.nil,_ => .nil
 | _,_,.cons r t,f => .cons (f _ _ r) (C7.mapP t f)
theorem ObjOk.stay (x:ObjOk P w H h a o) (k:∀ b u,(b=a\/H b=some (.own a))->h.get? b=some u->h'.get? b=some u)
  (ho:∀ b,H b=some (.own a)->H' b=some (.own a)) (ht:∀ b xs,H b=some (.tup xs)->H' b=some (.tup xs)):ObjOk P w H' h' a o:=by
 induction o with
 | lst xs=>obtain ⟨z,its,n,r,e⟩:=x; exact ⟨z,its,n,r,k _ _ (.inl rfl) e⟩
 | tup xs=>obtain ⟨z,its,r,ob,e,c⟩:=x; exact ⟨z,its,r,ob,k _ _ (.inl rfl) e,c⟩
 | dK kvs=>obtain ⟨z,y,vs,r,ob,es,ep,e,c⟩:=x; exact ⟨z,y,vs,r,ob,es,ep,k _ _ (.inl rfl) e,c⟩
 | dT kvs =>
  obtain ⟨z,y,xs,r,ob,es,ep,e,c⟩:=x
  exact ⟨z,y,xs,C7.mapP r fun p q z=>⟨z.1,ht _ _ z.2.1,z.2.2⟩,ob,es,ep,k _ _ (.inl rfl) e,c⟩
 | set S n=>obtain ⟨ob,es,ep,t,e,c⟩:=x; exact ⟨ob,es,ep,t,k _ _ (.inl rfl) e,c⟩
 | ins C dx fs =>
  obtain ⟨d,z,ne,e,mA,⟨od,es,ep,e2,c⟩,r⟩:=x
  exact ⟨ho _ d,z,ne,k _ _ (.inl rfl) e,mA,⟨od,es,ep,k _ _ (.inr d) e2,c⟩,r⟩
 | own y=>obtain ⟨ob,e⟩:=x; exact ⟨ob,k _ _ (.inl rfl) e⟩
 | xd fs=>obtain ⟨mA,⟨od,es,ep,e,c⟩,r⟩:=x; exact ⟨mA,⟨od,es,ep,k _ _ (.inl rfl) e,c⟩,r⟩
 | rng lo hi=>obtain ⟨t,u,v,e⟩:=x; exact ⟨t,u,v,k _ _ (.inl rfl) e⟩
 | frz ob u ih=>obtain ⟨e,q⟩:=x; exact ⟨k _ _ (.inl rfl) e,ih q⟩
 | tbl ps =>
  have e:h.get? a=some { cls := .none,data := .fields ps }:=x
  show h'.get? a=some { cls := .none,data := .fields ps }
  exact k a _ (.inl rfl) e
 | met f y =>
  have e:h.get? a=some (Js (.ref f) (.ref y)):=x
  show h'.get? a=some (Js (.ref f) (.ref y))
  exact k a _ (.inl rfl) e
 | ext φ => obtain ⟨p,⟨o,e⟩,st⟩:=x; exact ⟨st _ _ p fun o q=>k _ _ (.inl rfl) q,⟨o,k _ _ (.inl rfl) e⟩,st⟩
theorem HOk.lt (x:HOk P w H h) (e:H a=some o):a < h.objs.size:=(x a o e).lt
theorem HOk.fresh (x:HOk P w H h) (e:h.objs.size<=a):H a=none:=by
 cases q:H a with
 | none=>rfl
 | some u=>exact absurd (Ae (x.lt q) e) (Dp _)
theorem HOk.kept (x:HOk P w H h) (k:∀ b u,h.get? b=some u->h'.get? b=some u):HOk P w H h':=fun a o e =>
 (x a o e).stay (fun b u _ q=>k b u q) (fun _ q=>q) fun _ _ q=>q
theorem HOk.laid (x:HOk P w H h) (k:∀ b u,h.get? b=some u->h'.get? b=some u) (hp:h.objs.size<=a) (new:ObjOk P w (upd H a o) h' a o):HOk P w (upd H a o) h':=fun b u e=>by
 have hn:=x.fresh hp
 by_cases hb:b=a
 ·subst hb; rw [zab] at e; cases e; exact new
 ·rw [zaf hb] at e
  exact (x b u e).stay (fun c v _ q=>k c v q) (fun c q=>by rw [zaf (zan q hn)]; exact q) fun c xs q=>by rw [zaf (zan q hn)]; exact q
end
noncomputable def Rd (H:Hp) (a:A3) (u:HO):Prop:=H a=some u\/∃ o,H a=some (.frz o u)
theorem Rd.ok {P:Ap} {w:Bb} {H:Hp} {h:Bx} {a:A3} {u:HO} (r:Rd H a u) (x:HOk P w H h):ObjOk P w H h a u:=by
 rcases r with r | ⟨o,r⟩
 ·exact x a u r
 ·obtain ⟨_,q⟩:=x a _ r
  exact q
noncomputable def Mut:Option HO->Prop
 | some (.lst _)=>True
 | some (.dK _)=>True
 | some (.dT _)=>True
 | some (.set _ _)=>True
 | some (.ins _ _ _)=>True
 | some (.ext _)=>True
 | _=>False
section
variable {P:Ap} {w:Bb} {H:Hp} {h h':Bx} {x e:A3} {o':HO}
theorem HOk.write (ok:HOk P w H h) (mu:Mut (H x)) (he:e=x\/H e=some (.own x)) (k:∀ b u,b≠e->h.get? b=some u->h'.get? b=some u) (heo:∃ u,h'.get? e=some u)
  (new:ObjOk P w (upd H x o') h' x o'):HOk P w (upd H x o') h':=fun b u q=>by
 have nown:∀ c y,H c=some (.own y)->c≠x:=fun c y r z=>by subst z; rw [r] at mu; exact mu
 have ntup:∀ c xs,H c=some (.tup xs)->c≠x:=fun c xs r z=>by subst z; rw [r] at mu; exact mu
 by_cases hb:b=x
 ·subst hb; rw [zab] at q; cases q; exact new
 ·rw [zaf hb] at q
  by_cases hbe:b=e
  ·have q':H b=some (.own x):=by
    rcases he with z | z
    ·exact absurd (hbe.trans z) hb
    ·rw [hbe]; exact z
   rw [q] at q'; cases q'
   obtain ⟨v,hv⟩:=heo
   exact ⟨v,by rw [hbe]; exact hv⟩
  ·refine (ok b u q).stay (fun c v hc r=>k c v ?_ r) (fun c r=>by rw [zaf (nown c b r)]; exact r) fun c xs r=>by rw [zaf (ntup c xs r)]; exact r
   rcases hc with rfl | hc
   ·exact hbe
   ·rintro rfl
    rcases he with z | z
    ·exact nown c b hc z
    ·rw [hc] at z; cases z; exact hb rfl
end
structure Un (fs ex:List A3) (H H':Hp) (h h':Bx):Prop where
 keep:∀ b o,h.get? b=some o->H b=none->b ∉ fs->b ∉ ex->h'.get? b=some o
 slot:∀ b o,h.get? b=some o->H b=none->b∈fs->b ∉ ex->∃ sl,h'.get? b=some { o with slots:=sl }
 free:∀ b o,h.get? b=some o->H b=none->b ∉ ex->H' b=none
 there:∀ b o,h.get? b=some o->b ∉ ex->∃ o',h'.get? b=some o'
 tups:∀ b xs,H b=some (.tup xs)->H' b=some (.tup xs)
 frzs:∀ b o u,H b=some (.frz o u)->H' b=some (.frz o u)
 tbls:∀ b ps,H b=some (.tbl ps)->∃ more,H' b=some (.tbl (ps ++ more))
section
variable {fs fs' ex ex':List A3} {H H1 H2:Hp} {h h1 h2 h':Bx} {a x e:A3} {o:HO}
theorem Un.any (u:Un fs ex H H1 h h1) {b:A3} {ob:Obj} (q:h.get? b=some ob) (n:H b=none) (hx:b ∉ ex):∃ sl,h1.get? b=some { ob with slots:=sl }:=by
 by_cases hb:b∈fs
 ·exact u.slot b ob q n hb hx
 ·exact ⟨ob.slots,u.keep b ob q n hb hx⟩
theorem Un.trans (a:Un fs ex H H1 h h1) (b:Un fs ex H1 H2 h1 h2):Un fs ex H H2 h h2 where
 keep:=fun c ob q n hc hx=>b.keep c ob (a.keep c ob q n hc hx) (a.free c ob q n hx) hc hx
 slot:=fun c ob q n hc hx=>by
  obtain ⟨sl,e1⟩:=a.slot c ob q n hc hx
  obtain ⟨sl',e2⟩:=b.slot c _ e1 (a.free c ob q n hx) hc hx
  exact ⟨sl',e2⟩
 free:=fun c ob q n hx=>by
  obtain ⟨o',e1⟩:=a.there c ob q hx
  exact b.free c o' e1 (a.free c ob q n hx) hx
 there:=fun c ob q hx=>by
  obtain ⟨o',e1⟩:=a.there c ob q hx
  exact b.there c o' e1 hx
 tups:=fun c xs q=>b.tups c xs (a.tups c xs q)
 frzs:=fun c ob xs q=>b.frzs c ob xs (a.frzs c ob xs q)
 tbls:=fun c ps q=>by
  obtain ⟨m1,e1⟩:=a.tbls c ps q
  obtain ⟨m2,e2⟩:=b.tbls c _ e1
  exact ⟨m1 ++ m2,by rw [e2,Ju]⟩
theorem Un.kept (k:∀ b u,h.get? b=some u->h'.get? b=some u):Un fs ex H H h h' :=
 ⟨fun b ob q _ _ _=>k b ob q,fun b ob q _ _ _=>⟨ob.slots,k b ob q⟩,fun _ _ _ n _=>n,fun b ob q _=>⟨ob,k b ob q⟩,fun _ _ q=>q,fun _ _ _ q=>q,fun _ ps q=>⟨#[],by rw [q]; simp⟩⟩
theorem Un.refl:Un fs ex H H h h:=Un.kept fun _ _ q=>q
theorem Un.laid (k:∀ b u,h.get? b=some u->h'.get? b=some u) (hp:h.objs.size<=a) (hn:H a=none):Un fs ex H (upd H a o) h h' where
 keep:=fun b u q _ _ _=>k b u q
 slot:=fun b u q _ _ _=>⟨u.slots,k b u q⟩
 free:=fun b u q n _=>by rw [zaf (B8 (Ae (An q) hp))]; exact n
 there:=fun b u q _=>⟨u,k b u q⟩
 tups:=fun b xs q=>by rw [zaf (zan q hn)]; exact q
 frzs:=fun b u xs q=>by rw [zaf (zan q hn)]; exact q
 tbls:=fun b ps q=>⟨#[],by rw [zaf (zan q hn),q]; simp⟩
theorem Un.write (mu:Mut (H x)) (he:e=x\/H e=some (.own x)) (k:∀ b u,b≠e->h.get? b=some u->h'.get? b=some u) (heo:∃ u,h'.get? e=some u):Un fs ex H (upd H x o) h h':=by
 have hx:∀ b,H b=none->b≠x:=fun b n z=>by subst z; rw [n] at mu; exact mu
 have hb:∀ b,H b=none->b≠e:=fun b n z=>by
  subst z
  rcases he with r | r
  ·exact hx b n r
  ·rw [n] at r; cases r
 have hm:∀ b u,H b=some u->¬ Mut (some u)->b≠x:=fun b u q nm z=>by subst z; rw [q] at mu; exact nm mu
 refine ⟨fun b u q n _ _=>k b u (hb b n) q,fun b u q n _ _=>⟨u.slots,k b u (hb b n) q⟩,fun b u q n _=>by rw [zaf (hx b n)]; exact n,fun b u q _ => ?_,
  fun b xs q=>by rw [zaf (hm b _ q fun z=>z)]; exact q,fun b u xs q=>by rw [zaf (hm b _ q fun z=>z)]; exact q,fun b ps q=>⟨#[],by rw [zaf (hm b _ q fun z=>z),q]; simp⟩⟩
 by_cases hbe:b=e
 ·subst hbe; exact heo
 ·exact ⟨u,k b u hbe q⟩
end
noncomputable def trk (h:Bx) (H:Hp):List A3:=(Ab h.objs.size).filter fun a=>(H a).isSome
noncomputable def hidT (h:Bx) (H:Hp):Bx:=E1 h (trk h H)
theorem hidT_size (h:Bx) (H:Hp):(hidT h H).objs.size=h.objs.size:=PySem.W.hideAll_size _ _
theorem hidT_get {h:Bx} {H:Hp} {b:A3} {o:Obj} (e:h.get? b=some o) (n:H b=none):(hidT h H).get? b=some o :=
 M9 _ e fun hm=>by
  have q:(H b).isSome=true:=(B9.mp hm).2
  rw [n] at q; simp at q
theorem of_hidT {h:Bx} {H:Hp} {b:A3} {o:Obj} (e:(hidT h H).get? b=some o):h.get? b=some o/\H b=none:=by
 have e':h.get? b=some o:=Je (trk h H) e
 refine ⟨e',?_⟩
 cases q:H b with
 | none=>rfl
 | some x =>
  have hm:b∈trk h H:=B9.mpr ⟨B5.mpr (An e'),by simp [q]⟩
  have z:(hidT h H).get? b=none:=PySem.W.hideAll_none (trk h H) hm
  rw [z] at e; cases e
noncomputable def allNews (g h:Bx) (L:A3):List (A3×Obj):=(Ab h.objs.size).filterMap fun a=>if a=L\/(g.get? a).isSome=true then none else (h.get? a).map fun o=>(a,o)
noncomputable def rest (g h:Bx) (L d:A3):List (A3×Obj):=(allNews g h L).filter fun p=>decide (p.1≠d)
structure Mod (K:Am) (mg:Str->Option A2) (base:Bx):Prop where
 kin:K.In base
 glob:base.Ns mainGlobals mg
 blt:∃ mb,base.Ns builtinsNs mb/\∀ x:Str,x ≠ "__name__" -> mb x=bootBuiltins x
 nolimit:base.NoLimit
structure Cx where
 prog:Ap
 w:Bb
 K:Am
 mg:Str->Option A2
 base:Bx
 A:B7
 N:List Str
 s₀ : A4
 H₀ : Hp
 env:Env
 outer:List Env
 stack:List Env
 ex:List A3
 fn:Str->Bool
 calm:Bool
 pn:List (A3×Obj)
 xe:A2->A4->Prop
noncomputable def frs (l:List Env):List A3:=l.filterMap (·.frame)
noncomputable abbrev Cx.fs (X:Cx):List A3:=frs X.outer
noncomputable def Vis (sc:Fg) (x:Str):Prop:=sc.names.lookup x=some .local\/sc.names.lookup x=some .cell\/sc.names.lookup x=some .free
noncomputable def Loc (sc:Fg) (x:Str):Prop:=sc.names.lookup x=some .local\/sc.names.lookup x=some .cell
noncomputable def Look (env:Env) (h:Bx) (m:Str->Option A2) (x:Str) (u:A2):Prop :=
 (env.kindOf x=some .local/\m x=some u)\/((env.kindOf x=some .cell\/env.kindOf x=some .free)/\∃ c,env.cells.lookup x=some c/\h.IsCell c (some u))
structure Cx.Ok (X:Cx):Prop where
 mod:Mod X.K X.mg X.base
 kind:X.env.scope.kind = .function
 glob:X.env.globals=mainGlobals
 blt:X.env.builtins=builtinsNs
 above:X.s₀.heap.objs.size<=X.env.locals
 inj:∀ x y c,X.env.cells.lookup x=some c->X.env.cells.lookup y=some c->x=y
 has:∀ x,(X.env.kindOf x=some .cell\/X.env.kindOf x=some .free)->∃ c,X.env.cells.lookup x=some c
 cab:∀ x c,X.fn x=true->X.env.cells.lookup x=some c->X.s₀.heap.objs.size<=c
 hd:X.calm=true->X.A.handled=none
 frames:X.A.frames=some X.stack
 stk:X.stack=X.outer\/(X.stack=X.env :: X.outer/\X.env.frame=some X.env.locals)
 exf:∀ b∈X.ex,b≠X.env.locals/\∀ x c,X.env.cells.lookup x=some c->c≠b
 bs:∀ b o,X.base.get? b=some o->X.s₀.heap.get? b=some o/\X.H₀ b=none
 bsz:X.base.objs.size<=X.s₀.heap.objs.size
 noex:∀ b o,X.base.get? b=some o->b ∉ X.ex
 exfs:∀ b∈X.ex,b ∉ X.fs
 funs:X.s₀.heap.FunFrames X.base X.outer
 frf:∀ b∈X.fs,X.H₀ b=none
structure Inv (X:Cx) (pins:List (A3×Obj)) (σ : List (Option V)) (H:Hp) (s:A4):Prop where
 ok:X.Ok
 os:s.os=X.s₀.os
 bare:Gr s.gens
 base:Un X.fs X.ex X.H₀ H X.s₀.heap s.heap
 loc:∃ m,s.heap.Ns X.env.locals m/\∀ (i:Nat) (x:Str) (v:V),X.N[i]?=some x -> σ[i]?=some (some v)->Vis X.env.scope x->∃ u,RelV v u/\Look X.env s.heap m x u
 cell:∀ x c,X.env.cells.lookup x=some c->∃ v,s.heap.IsCell c v
 free:H X.env.locals=none
 freeC:∀ x c,X.env.cells.lookup x=some c->H c=none
 pin:∀ p∈X.pn ++ pins,s.heap.get? p.1=some p.2/\H p.1=none/\p.1≠X.env.locals/\p.1 ∉ X.fs/\∀ v,p.2.data ≠ .cell v
 hok:HOk X.prog X.w H s.heap
 len : σ.length=X.N.length
section
variable {X:Cx} {pins:List (A3×Obj)} {σ : List (Option V)} {H H':Hp} {s:A4} {h':Bx}
theorem Cx.Ok.nofr (ok:X.Ok) {b:A3} {o:Obj} (e:X.base.get? b=some o):b ∉ X.fs:=fun hb=>by
 have:=(ok.funs.mem hb).1
 rw [e] at this; cases this
theorem Inv.bs (I:Inv X pins σ H s):∀ b o,X.base.get? b=some o->s.heap.get? b=some o/\H b=none:=fun b o e =>
 ⟨I.base.keep b o (I.ok.bs b o e).1 (I.ok.bs b o e).2 (I.ok.nofr e) (I.ok.noex b o e),I.base.free b o (I.ok.bs b o e).1 (I.ok.bs b o e).2 (I.ok.noex b o e)⟩
theorem Inv.bk (I:Inv X pins σ H s):∀ b o,X.base.get? b=some o->s.heap.get? b=some o:=fun b o e=>(I.bs b o e).1
theorem Inv.mod (I:Inv X pins σ H s):Mod X.K X.mg X.base:=I.ok.mod
theorem Inv.kIn (I:Inv X pins σ H s):X.K.In s.heap:=I.ok.mod.kin.keeps I.bk
theorem Inv.lt (I:Inv X pins σ H s):X.env.locals < s.heap.objs.size:=let ⟨_,hn,_⟩:=I.loc; hn.lt
theorem Inv.sz (I:Inv X pins σ H s):X.s₀.heap.objs.size<=s.heap.objs.size:=C5 I.ok.above (G5 I.lt)
theorem Inv.nofs (I:Inv X pins σ H s) {a:A3} (h:s.heap.objs.size<=a):a ∉ X.fs:=fun hb=>by
 obtain ⟨_,o,ho,_⟩:=I.ok.funs.mem hb
 exact absurd (Ae (An ho) (C5 I.sz h)) (Dp _)
theorem Inv.cne (I:Inv X pins σ H s):∀ x c,X.env.cells.lookup x=some c->c≠X.env.locals:=fun x c e z=>by
 obtain ⟨v,o,ho,hd⟩:=I.cell x c e
 obtain ⟨m,⟨o',es,ep,ho',hd',_⟩,_⟩:=I.loc
 rw [z,ho'] at ho; cases ho; rw [hd'] at hd; cases hd
theorem Inv.funs (I:Inv X pins σ H s):s.heap.FunFrames X.base X.outer:=by
 have all:∀ (l:List Env),(∀ b∈frs l,b∈X.fs)->X.s₀.heap.FunFrames X.base l->s.heap.FunFrames X.base l:=by
  intro l
  induction l with
  | nil=>intro _ _; trivial
  | cons env r ih =>
   intro hs hl
   obtain ⟨hk,⟨L,o,hf,hn,ho,hd⟩,hr⟩:=hl
   have hL:L∈X.fs:=hs L (by unfold frs; rw [Jl,hf]; exact Ai)
   obtain ⟨sl,e⟩:=I.base.slot L o ho (I.ok.frf L hL) hL fun z=>I.ok.exfs L z hL
   exact ⟨hk,⟨L,_,hf,hn,e,hd⟩,ih (fun b hb=>hs b (by unfold frs; rw [Jl,hf]; exact Ac _ hb)) hr⟩
 exact all X.outer (fun _ hb=>hb) I.ok.funs
theorem Inv.stack (I:Inv X pins σ H s):s.heap.FunFrames X.base X.stack:=by
 rcases I.ok.stk with e | ⟨e,hf⟩
 ·rw [e]; exact I.funs
 ·rw [e]
  obtain ⟨m,hn,_⟩:=I.loc
  refine .cons (by rw [I.ok.kind]; decide) hf hn ?_ I.funs
  exact Heap.get?_none_of_le (C5 I.ok.bsz I.ok.above)
theorem Inv.stkSub (I:Inv X pins σ H s):∀ b∈frs X.stack,b∈X.env.locals :: X.fs:=fun b hb=>by
 rcases I.ok.stk with e | ⟨e,hf⟩
 ·rw [e] at hb; exact Ac _ hb
 ·rw [e] at hb
  unfold frs at hb
  rw [Jl,hf] at hb
  exact hb
theorem Inv.stkFree (I:Inv X pins σ H s):∀ b∈frs X.stack,H b=none:=fun b hb=>by
 rcases Bf.mp (I.stkSub b hb) with e | hb
 ·rw [e]; exact I.free
 ·obtain ⟨_,o,ho,_⟩:=I.ok.funs.mem hb
  exact I.base.free b o ho (I.ok.frf b hb) fun z=>I.ok.exfs b z hb
theorem Inv.step {g':Array GenState} {t':Nat} {d':Drawn} {ch:List A3} (I:Inv X pins σ H s)
  (hch:∀ b∈ch,(b∈X.ex\/X.s₀.heap.objs.size<=b)/\b≠X.env.locals/\(∀ x c,X.env.cells.lookup x=some c->c≠b)/\∀ p∈X.pn ++ pins,p.1≠b)
  (keep:∀ b o,b≠X.env.locals->b ∉ X.fs->b ∉ ch->s.heap.get? b=some o->H b=none->h'.get? b=some o)
  (slot:∀ b o,b≠X.env.locals->b∈X.fs->b ∉ ch->s.heap.get? b=some o->H b=none->∃ sl,h'.get? b=some { o with slots:=sl }) (free:∀ b o,b ∉ ch->s.heap.get? b=some o->H b=none->H' b=none)
  (there:∀ b o,b ∉ ch->s.heap.get? b=some o->∃ o',h'.get? b=some o')
  (tups:∀ b xs,H b=some (.tup xs)->H' b=some (.tup xs)) (frzs:∀ b o u,H b=some (.frz o u)->H' b=some (.frz o u)) (tbls:∀ b ps,H b=some (.tbl ps)->∃ more,H' b=some (.tbl (ps ++ more)))
  (ns:∀ m,s.heap.Ns X.env.locals m->h'.Ns X.env.locals m) (hok:HOk X.prog X.w H' h') (hg:Gr g') :
  Inv X pins σ H' { s with heap:=h',gens:=g',drawn:=d',toks:=t' }:=by
 have neL:∀ b o,X.s₀.heap.get? b=some o->b≠X.env.locals:=fun b o e=>B8 (Ae (An e) I.ok.above)
 have neC:∀ b o,X.s₀.heap.get? b=some o->b ∉ X.ex->b ∉ ch:=fun b o e hx hb=>by
  rcases (hch b hb).1 with z | z
  ·exact hx z
  ·exact absurd (Ae (An e) z) (Dp _)
 have cellK:∀ x c,X.env.cells.lookup x=some c->∀ v,s.heap.IsCell c v->h'.IsCell c v:=fun x c e v ⟨o,ho,hd⟩=>by
  have nch:c ∉ ch:=fun z=>(hch c z).2.2.1 x c e rfl
  by_cases hc:c∈X.fs
  ·obtain ⟨sl,q⟩:=slot c o (I.cne x c e) hc nch ho (I.freeC x c e)
   exact ⟨_,q,hd⟩
  ·exact ⟨o,keep c o (I.cne x c e) hc nch ho (I.freeC x c e),hd⟩
 refine ⟨I.ok,I.os,hg,⟨fun b o e n hb hx => ?_,fun b o e n hb hx => ?_,fun b o e n hx => ?_,fun b o e hx => ?_,fun b xs e=>tups b xs (I.base.tups b xs e),fun b o xs e=>frzs b o xs (I.base.frzs b o xs e),fun b ps e => ?_⟩,?_,fun x c e => ?_,?_,fun x c e => ?_,fun p hp => ?_,hok,I.len⟩
 ·exact keep b o (neL b o e) hb (neC b o e hx) (I.base.keep b o e n hb hx) (I.base.free b o e n hx)
 ·obtain ⟨sl,e1⟩:=I.base.slot b o e n hb hx
  obtain ⟨sl',e2⟩:=slot b _ (neL b o e) hb (neC b o e hx) e1 (I.base.free b o e n hx)
  exact ⟨sl',e2⟩
 ·obtain ⟨o',e1⟩:=I.base.there b o e hx
  exact free b o' (neC b o e hx) e1 (I.base.free b o e n hx)
 ·obtain ⟨o',e1⟩:=I.base.there b o e hx
  exact there b o' (neC b o e hx) e1
 ·obtain ⟨m1,e1⟩:=I.base.tbls b ps e
  obtain ⟨m2,e2⟩:=tbls b _ e1
  exact ⟨m1 ++ m2,by rw [e2,Ju]⟩
 ·obtain ⟨m,hn,hl⟩:=I.loc
  refine ⟨m,ns m hn,fun i x v e1 e2 e3 => ?_⟩
  obtain ⟨u,r,l⟩:=hl i x v e1 e2 e3
  refine ⟨u,r,?_⟩
  rcases l with l | ⟨k,c,e,z⟩
  ·exact .inl l
  ·exact .inr ⟨k,c,e,cellK x c e _ z⟩
 ·obtain ⟨v,z⟩:=I.cell x c e
  exact ⟨v,cellK x c e v z⟩
 ·obtain ⟨m,⟨o,_,_,ho,_⟩,_⟩:=I.loc
  exact free _ o (fun z=>(hch _ z).2.1 rfl) ho I.free
 ·obtain ⟨v,o,ho,hd⟩:=I.cell x c e
  exact free c o (fun z=>(hch c z).2.2.1 x c e rfl) ho (I.freeC x c e)
 ·obtain ⟨e,n,ne,nf,d⟩:=I.pin p hp
  have nch:p.1 ∉ ch:=fun z=>(hch p.1 z).2.2.2 p hp rfl
  exact ⟨keep p.1 p.2 ne nf nch e n,free p.1 p.2 nch e n,ne,nf,d⟩
theorem Inv.un {t':Nat} (I:Inv X pins σ H s) (u:Un X.fs [] H H' s.heap h') (hok:HOk X.prog X.w H' h'):Inv X pins σ H' { s with heap:=h',toks:=t' }:=by
 obtain ⟨m,⟨o,es,ep,ho,r⟩,_⟩:=id I.loc
 obtain ⟨sl,hL⟩:=u.any ho I.free (by simp)
 exact I.step (g':=s.gens) (d':=s.drawn) (ch := []) (fun _ z=>nomatch z) (fun b o _ hb _ e n=>u.keep b o e n hb (by simp)) (fun b o _ hb _ e n=>u.slot b o e n hb (by simp)) (fun b o _ e n=>u.free b o e n (by simp)) (fun b o _ e=>u.there b o e (by simp)) u.tups u.frzs u.tbls (fun m' hm=>by
  obtain ⟨o',es',ep',ho',r'⟩:=hm
  rw [ho] at ho'; cases ho'
  exact ⟨_,es',ep',hL,r'⟩) hok I.bare
theorem Inv.call {g':Array GenState} {t':Nat} {d':Drawn} {ch:List A3} (I:Inv X pins σ H s) (u:Un (frs X.stack) ch H H' s.heap h') (hok:HOk X.prog X.w H' h') (hg:Gr g')
  (hch:∀ b∈ch,(b∈X.ex\/X.s₀.heap.objs.size<=b)/\b≠X.env.locals/\(∀ x c,X.env.cells.lookup x=some c->c≠b)/\∀ p∈X.pn ++ pins,p.1≠b) :
  Inv X pins σ H' { s with heap:=h',gens:=g',drawn:=d',toks:=t' }:=by
 obtain ⟨m,⟨o,es,ep,ho,r⟩,_⟩:=id I.loc
 obtain ⟨sl,hL⟩:=u.any ho I.free fun z=>(hch _ z).2.1 rfl
 exact I.step (ch:=ch) hch (fun b o hL hb hc e n=>u.keep b o e n (fun z=>(Bf.mp (I.stkSub b z)).elim hL hb) hc) (fun b o _ _ hc e n=>u.any e n hc) (fun b o hc e n=>u.free b o e n hc) (fun b o hc e=>u.there b o e hc) u.tups u.frzs u.tbls (fun m' hm=>by
  obtain ⟨o',es',ep',ho',r'⟩:=hm
  rw [ho] at ho'; cases ho'
  exact ⟨_,es',ep',hL,r'⟩) hok hg
theorem Inv.turned {t':Nat} {it:A3} (I:Inv X pins σ H s) (k:∀ b o,b≠it->s.heap.get? b=some o->h'.get? b=some o) (hn:H it=none) (hL:it≠X.env.locals)
  (h1:it∈X.ex\/X.s₀.heap.objs.size<=it) (h2:∀ x c,X.env.cells.lookup x=some c->c≠it) (h3:∀ p∈X.pn ++ pins,p.1≠it):Inv X pins σ H { s with heap:=h',toks:=t' }:=by
 have nit:∀ b u,H b=some u->b≠it:=fun b u e z=>by rw [z,hn] at e; cases e
 refine I.step (g':=s.gens) (d':=s.drawn) (ch := [it]) (fun b hb => ?_) (fun b o _ _ hc e _=>k b o (fun z=>hc (by simp [z])) e) (fun b o _ _ hc e _=>⟨o.slots,k b o (fun z=>hc (by simp [z])) e⟩) (fun _ _ _ _ n=>n)
  (fun b o hc e=>⟨o,k b o (fun z=>hc (by simp [z])) e⟩) (fun _ _ e=>e) (fun _ _ _ e=>e) (fun b ps e=>⟨#[],by rw [e]; simp⟩) (fun m hm => ?_) (fun b u e => ?_) I.bare
 ·have e:b=it:=by simpa using hb
  subst e
  exact ⟨h1,hL,h2,h3⟩
 ·obtain ⟨o,es,ep,ho,r⟩:=hm
  exact ⟨o,es,ep,k _ o (E7 hL) ho,r⟩
 ·refine (I.hok b u e).stay (fun c v hc q=>k c v ?_ q) (fun _ q=>q) fun _ _ q=>q
  rcases hc with z | z
  ·rw [z]; exact nit b u e
  ·exact nit c _ z
theorem Inv.tok (I:Inv X pins σ H s) (t:Nat):Inv X pins σ H { s with toks:=t }:=I.un (h':=s.heap) (t':=t) Un.refl I.hok
theorem Inv.kept {t':Nat} (I:Inv X pins σ H s) (k:∀ b u,s.heap.get? b=some u->h'.get? b=some u):Inv X pins σ H { s with heap:=h',toks:=t' }:=I.un (Un.kept k) (I.hok.kept k)
theorem Inv.laid {a:A3} {o:HO} {t':Nat} (I:Inv X pins σ H s) (k:∀ b u,s.heap.get? b=some u->h'.get? b=some u) (hp:s.heap.objs.size<=a) (new:ObjOk X.prog X.w (upd H a o) h' a o) :
  Inv X pins σ (upd H a o) { s with heap:=h',toks:=t' }:=I.un (Un.laid k hp (I.hok.fresh hp)) (I.hok.laid k hp new)
theorem Inv.write {x e:A3} {o:HO} {t':Nat} (I:Inv X pins σ H s) (mu:Mut (H x)) (he:e=x\/H e=some (.own x)) (k:∀ b u,b≠e->s.heap.get? b=some u->h'.get? b=some u) (heo:∃ u,h'.get? e=some u)
  (new:ObjOk X.prog X.w (upd H x o) h' x o):Inv X pins σ (upd H x o) { s with heap:=h',toks:=t' }:=I.un (Un.write mu he k heo) (I.hok.write mu he k heo new)
theorem Inv.weak {σ':List (Option V)} (I:Inv X pins σ H s) (hl : σ'.length = σ.length) (w:∀ (i:Nat) v,σ'[i]?=some (some v) -> σ[i]?=some (some v)):Inv X pins σ' H s :=
 ⟨I.ok,I.os,I.bare,I.base,let ⟨m,hn,hl'⟩:=I.loc; ⟨m,hn,fun i x v e1 e2 e3=>hl' i x v e1 (w i v e2) e3⟩,I.cell,I.free,I.freeC,I.pin,I.hok,hl.trans I.len⟩
theorem Inv.pins_of {pins':List (A3×Obj)} (I:Inv X pins σ H s) (h:∀ p∈pins',s.heap.get? p.1=some p.2/\H p.1=none/\p.1≠X.env.locals/\p.1 ∉ X.fs/\∀ v,p.2.data ≠ .cell v):Inv X pins' σ H s :=
 ⟨I.ok,I.os,I.bare,I.base,I.loc,I.cell,I.free,I.freeC,fun p hp=>(Al.mp hp).elim (fun z=>I.pin p (Bg _ z)) (h p),I.hok,I.len⟩
theorem zfw {N:List Str} (hN:N.Nodup) {i j:Nat} {x:Str} (a:N[i]?=some x) (b:N[j]?=some x):i=j:=by
 obtain ⟨h1,e1⟩:=Ao.mp a
 obtain ⟨h2,e2⟩:=Ao.mp b
 exact (List.getElem_inj hN).mp (e1.trans e2.symm)
theorem zej {M:Hv} {A:B7} {E:A2->A4->Prop} {i:Nat} {x:Str} {v:V} {u:A2} {Q:Unit->A4->Prop} (I:Inv X pins σ H s) (hN:X.N.Nodup) (hi:X.N[i]?=some x) (hx:Loc X.env.scope x) (r:RelV v u)
  (h:∀ s',Inv X pins (σ.set i (some v)) H s'->(∃ a,Fk a s.heap s'.heap/\(a=X.env.locals\/X.env.cells.lookup x=some a))->Q () s') (hf:X.fn x=true\/X.env.scope.names.lookup x=some .local:=by first | exact .inl rfl | exact .inr rfl | assumption):wpAny M A (storeName X.env x u) Q E s:=by
 obtain ⟨m,hn,hl⟩:=id I.loc
 have hcls:(X.env.scope.kind == .class || (X.env.scope.kind == .module && X.env.locals != X.env.globals))=false:=by rw [I.ok.kind]; rfl
 have hiσ : i < σ.length:=by rw [I.len]; exact (Ao.mp hi).1
 have cne:=I.cne
 have tracked:∀ {a:A3} {h':Bx},(∃ o,s.heap.get? a=some o/\H a=none)->Fk a s.heap h'->HOk X.prog X.w H h':=fun {a h'} ha hs b ob e=>by
  obtain ⟨_,_,hfree⟩:=ha
  refine (I.hok b ob e).stay (fun c w' hc q=>(hs.2 c ?_).trans q) (fun _ q=>q) fun _ _ q=>q
  rintro rfl
  rcases hc with rfl | hc
  ·rw [hfree] at e; cases e
  ·rw [hfree] at hc; cases hc
 rcases hx with hk | hk
 ·refine wpAny_storeName_local hk hn (fun h' hn' hs => ?_) hcls
  obtain ⟨oL,_,_,hoL,_⟩:=id hn
  refine h _ ⟨I.ok,I.os,I.bare,⟨fun b o e n hb hx => ?_,fun b o e n hb hx => ?_,I.base.free,fun b o e hx => ?_,I.base.tups,I.base.frzs,I.base.tbls⟩,⟨_,hn',fun j y v' e1 e2 e3 => ?_⟩,fun y c e => ?_,I.free,I.freeC,fun p hp => ?_,tracked ⟨oL,hoL,I.free⟩ hs,by simpa using I.len⟩ ⟨_,hs,.inl rfl⟩
  ·exact (hs.2 b (B8 (Ae (An e) I.ok.above))).trans (I.base.keep b o e n hb hx)
  ·obtain ⟨sl,e1⟩:=I.base.slot b o e n hb hx
   exact ⟨sl,(hs.2 b (B8 (Ae (An e) I.ok.above))).trans e1⟩
  ·obtain ⟨o',e1⟩:=I.base.there b o e hx
   exact ⟨o',(hs.2 b (B8 (Ae (An e) I.ok.above))).trans e1⟩
  ·by_cases hj:j=i
   ·subst hj
    rw [hi] at e1; cases e1
    rw [Mf hiσ] at e2
    cases e2
    exact ⟨u,r,.inl ⟨hk,by simp⟩⟩
   ·rw [N9 (E7 hj)] at e2
    obtain ⟨u',r',q⟩:=hl j y v' e1 e2 e3
    refine ⟨u',r',?_⟩
    rcases q with ⟨k,e⟩ | ⟨k,c,e,z⟩
    ·refine .inl ⟨k,?_⟩
     have:y≠x:=fun e=>hj (zfw hN e1 (e ▸ hi))
     simp [this,e]
    ·exact .inr ⟨k,c,e,z.sameBut hs (cne y c e)⟩
  ·obtain ⟨w',z⟩:=I.cell y c e
   exact ⟨w',z.sameBut hs (cne y c e)⟩
  ·obtain ⟨e,n,ne,nf,d⟩:=I.pin p hp
   exact ⟨(hs.2 p.1 ne).trans e,n,ne,nf,d⟩
 ·have hfn:X.fn x=true:=by
   rcases hf with z | z
   ·exact z
   ·rw [z] at hk; cases hk
  obtain ⟨c,hc⟩:=I.ok.has x (.inl hk)
  obtain ⟨w',z⟩:=I.cell x c hc
  refine wpAny_storeName_cell I.ok.kind hk hc z (fun h' hc' hs => ?_)
  obtain ⟨oc,hoc,hocd⟩:=id z
  refine h { s with heap:=h' } ⟨I.ok,I.os,I.bare,⟨fun b o e n hb hx => ?_,fun b o e n hb hx => ?_,I.base.free,fun b o e hx => ?_,I.base.tups,I.base.frzs,I.base.tbls⟩,⟨m,hn.sameBut hs (E7 (cne x c hc)),fun j y v' e1 e2 e3 => ?_⟩,fun y c' e => ?_,I.free,I.freeC,fun p hp => ?_,tracked ⟨oc,hoc,I.freeC x c hc⟩ hs,by simpa using I.len⟩ ⟨c,hs,.inr hc⟩
  ·exact (hs.2 b (B8 (Ae (An e) (I.ok.cab x c hfn hc)))).trans (I.base.keep b o e n hb hx)
  ·obtain ⟨sl,e1⟩:=I.base.slot b o e n hb hx
   exact ⟨sl,(hs.2 b (B8 (Ae (An e) (I.ok.cab x c hfn hc)))).trans e1⟩
  ·obtain ⟨o',e1⟩:=I.base.there b o e hx
   exact ⟨o',(hs.2 b (B8 (Ae (An e) (I.ok.cab x c hfn hc)))).trans e1⟩
  ·by_cases hj:j=i
   ·subst hj
    rw [hi] at e1; cases e1
    rw [Mf hiσ] at e2
    cases e2
    exact ⟨u,r,.inr ⟨.inl hk,c,hc,hc'⟩⟩
   ·rw [N9 (E7 hj)] at e2
    obtain ⟨u',r',q⟩:=hl j y v' e1 e2 e3
    refine ⟨u',r',?_⟩
    rcases q with q | ⟨k,c',e,z'⟩
    ·exact .inl q
    ·refine .inr ⟨k,c',e,z'.sameBut hs ?_⟩
     rintro rfl
     exact hj (zfw hN e1 (I.ok.inj _ _ _ e hc ▸ hi))
  ·by_cases hcc:c'=c
   ·subst hcc; exact ⟨_,hc'⟩
   ·obtain ⟨w2,z2⟩:=I.cell y c' e
    exact ⟨w2,z2.sameBut hs hcc⟩
  ·obtain ⟨e,n,ne,nf,d⟩:=I.pin p hp
   refine ⟨(hs.2 p.1 ?_).trans e,n,ne,nf,d⟩
   intro q
   rw [q,hoc] at e
   have q':oc=p.2:=C6 e
   exact d w' (by rw [<- q']; exact hocd)
theorem zdS {M:Hv} {A:B7} {E:A2->A4->Prop} {i:Nat} {x:Str} {v:V} {u:A2} {Q:Unit->A4->Prop} (I:Inv X pins σ H s) (hN:X.N.Nodup) (hi:X.N[i]?=some x) (hx:Loc X.env.scope x) (r:RelV v u)
  (h:∀ s',Inv X pins (σ.set i (some v)) H s'->Q () s') (hf:X.fn x=true\/X.env.scope.names.lookup x=some .local:=by first | exact .inl rfl | exact .inr rfl | assumption):wpAny M A (storeName X.env x u) Q E s :=
 zej I hN hi hx r (fun s' I' _=>h s' I') hf
theorem Inv.call' {s':A4} {ch:List A3} (I:Inv X pins σ H s) (ho:s'.os=s.os) (u:Un (frs X.stack) ch H H' s.heap s'.heap) (hok:HOk X.prog X.w H' s'.heap) (hg:Gr s'.gens)
  (hch:∀ b∈ch,(b∈X.ex\/X.s₀.heap.objs.size<=b)/\b≠X.env.locals/\(∀ x c,X.env.cells.lookup x=some c->c≠b)/\∀ p∈X.pn ++ pins,p.1≠b):Inv X pins σ H' s':=by
 obtain ⟨h',g',d',t',o'⟩:=s'
 have e:o'=s.os:=ho
 subst e
 exact I.call (g':=g') (t':=t') (d':=d') u hok hg hch
end
noncomputable abbrev XK:=A2->Option A3->Hp->Prop
noncomputable abbrev St:=List (Option V)
noncomputable abbrev VK:=V->Hp->Prop
noncomputable abbrev TE:=St->Hp->VK->Prop
noncomputable abbrev TT:=St->Hp->(Bool->Hp->Prop)->Prop
noncomputable abbrev TA:=St->Hp->(List V->Hp->Prop)->Prop
structure Ends where
 nx:St->Hp->Prop
 rt:VK
 bk:St->Hp->Prop:=fun _ _=>False
 ct:St->Hp->Prop:=fun _ _=>False
noncomputable abbrev TS:=Ends->St->Hp->Prop
noncomputable def EP (X:Cx) (pins:List (A3×Obj)) (σ : St) (Q:VK) (u:A2) (s':A4):Prop:=∃ v H',Inv X pins σ H' s'/\RelV v u/\Q v H'
noncomputable def TP (X:Cx) (pins:List (A3×Obj)) (σ : St) (Q:Bool->Hp->Prop) (b:Bool) (s':A4):Prop:=∃ H',Inv X pins σ H' s'/\Q b H'
noncomputable def AP (X:Cx) (pins:List (A3×Obj)) (σ : St) (Q:List V->Hp->Prop) (us:List A2) (s':A4):Prop:=∃ vs H',Inv X pins σ H' s'/\Vals vs us/\Q vs H'
noncomputable def SP (X:Cx) (pins:List (A3×Obj)) (D:Ends) (f:Flow) (s':A4):Prop :=
 match f with
 | .next=>∃ σ' H',Inv X pins σ' H' s'/\D.nx σ' H'
 | .brk=>∃ σ' H',Inv X pins σ' H' s'/\D.bk σ' H'
 | .cont=>∃ σ' H',Inv X pins σ' H' s'/\D.ct σ' H'
 | .ret u=>∃ v σ' H',Inv X pins σ' H' s'/\RelV v u/\D.rt v H'
noncomputable def PE (X:Cx) (e:Ce) (t:TE):Prop :=
 ∀ (pins:List (A3×Obj)) (s:A4) (σ : St) (H:Hp) (Q:VK),Inv X pins σ H s->t σ H Q->wpAny (model X.prog X.w) X.A (eval e X.env) (EP X pins σ Q) X.xe s
noncomputable def PT (X:Cx) (e:Ce) (t:TT):Prop :=
 ∀ (pins:List (A3×Obj)) (s:A4) (σ : St) (H:Hp) (Q:Bool->Hp->Prop),Inv X pins σ H s->t σ H Q->wpAny (model X.prog X.w) X.A (isTrue e X.env (eval e X.env)) (TP X pins σ Q) X.xe s
noncomputable def PW (X:Cx) (e:Ce) (t:TT):Prop :=
 ∀ (whole:Sem A2) (pins:List (A3×Obj)) (s:A4) (σ : St) (H:Hp) (Q:Bool->Hp->Prop),Inv X pins σ H s->t σ H Q->wpAny (model X.prog X.w) X.A (isTrue e X.env whole) (TP X pins σ Q) X.xe s
theorem PW.pt {X:Cx} {e:Ce} {t:TT} (h:PW X e t):PT X e t:=h _
noncomputable def PA (X:Cx) (es:List Ce) (t:TA):Prop :=
 ∀ (pos:Pos) (pins:List (A3×Obj)) (s:A4) (σ : St) (H:Hp) (Q:List V->Hp->Prop),Inv X pins σ H s->t σ H Q->wpAny (model X.prog X.w) X.A (spliced (backTo pos (starEach es X.env))) (AP X pins σ Q) X.xe s
noncomputable def PS (X:Cx) (st:Cj) (t:TS):Prop :=
 ∀ (pins:List (A3×Obj)) (s:A4) (σ : St) (H:Hp) (D:Ends),Inv X pins σ H s->t D σ H->wpAny (model X.prog X.w) X.A (exec st X.env) (SP X pins D) X.xe s
noncomputable def PSs (X:Cx) (st:List Cj) (t:TS):Prop :=
 ∀ (pins:List (A3×Obj)) (s:A4) (σ : St) (H:Hp) (D:Ends),Inv X pins σ H s->t D σ H->wpAny (model X.prog X.w) X.A (execs st X.env) (SP X pins D) X.xe s
theorem thn {α : Type} {t:Sem α} {Q Q' : α -> A4->Prop} {M:Hv} {A:B7} {E:A2->A4->Prop} {s:A4} (h:wpAny M A t Q E s) (hQ:∀ a s,Q a s->Q' a s):wpAny M A t Q' E s:=Dg h hQ fun _ _ x=>x
section
variable {X:Cx}
theorem bin {a b:Ce} {ta tb:TE} (ha:PE X a ta) (hb:PE X b tb) {pins:List (A3×Obj)} {s:A4} {σ : St} {H:Hp} {R:V->V->Hp->Prop} (I:Inv X pins σ H s) (h:ta σ H fun x H1=>tb σ H1 fun y H2=>R x y H2)
  {α : Type} {Q : α -> A4->Prop} {f:A2->A2->Sem α}
  (hf:∀ v u s2 x y H2,Inv X pins σ H2 s2->RelV x v->RelV y u->R x y H2->wpAny (model X.prog X.w) X.A (f v u) Q X.xe s2) :
  wpAny (model X.prog X.w) X.A (eval a X.env) (fun v s₁ => wpAny (model X.prog X.w) X.A (eval b X.env) (fun u s₂ => wpAny (model X.prog X.w) X.A (f v u) Q X.xe s₂) X.xe s₁) X.xe s:=by
 refine thn (ha pins s σ H _ I h) fun v s1 ⟨x,H1,I1,r1,q1⟩ => ?_
 refine thn (hb pins s1 σ H1 _ I1 q1) fun u s2 ⟨y,H2,I2,r2,q2⟩ => ?_
 exact hf v u s2 x y H2 I2 r1 r2 q2
noncomputable def tVar (i:Nat):TE:=fun σ H Q=>∃ v,σ[i]?=some (some v)/\Q v H
noncomputable def tC (v:V):TE:=fun _ H Q=>Q v H
theorem pe_var {i:Nat} {x:Str} {pos:Pos} (hN:X.N[i]?=some x) (hv:Vis X.env.scope x) (hd:(x == ("__debug__" : Str))=false:=by decide) (hcd:(x == ("__classdict__" : Str))=false:=by decide):PE X (.Name x pos) (tVar i):=by
 intro pins s σ H Q I h
 obtain ⟨v,e,h⟩:=h
 obtain ⟨m,hn,hl⟩:=I.loc
 obtain ⟨u,r,l⟩:=hl i x v hN e hv
 have fin:EP X pins σ Q u s:=⟨v,H,I,r,h⟩
 rcases l with ⟨hk,hm⟩ | ⟨hk,c,hc,hcell⟩
 ·exact P9 (wpAny_loadName_local I.ok.kind hk hn hm fin) hd
 ·rcases hk with hk | hk
  ·exact P9 (wpAny_loadName_cell I.ok.kind hk hc hcell fin) hd
  ·exact P9 (wpAny_loadName_free I.ok.kind hk hc hcell fin hcd) hd
theorem zad {i j pos}:PE X (.Constant (.int i) j pos) (tC (.int i)):=fun _ _ _ H _ I h=>wpAny_Constant_int ⟨.int i,H,I.tok _,⟨_,rfl⟩,h⟩
theorem zbH {b j pos}:PE X (.Constant (.bool b) j pos) (tC (.bl b)):=fun _ _ _ H _ I h=>Constant_bool ⟨.bl b,H,I,rfl,h⟩
theorem zgV {j pos}:PE X (.Constant .none j pos) (tC .non):=fun _ _ _ H _ I h=>Constant_none ⟨.non,H,I,rfl,h⟩
theorem zaw {x j pos}:PE X (.Constant (.str x) j pos) (tC (.str x)):=fun _ _ _ H _ I h=>Calls.Constant_str ⟨.str x,H,I.tok _,⟨_,rfl⟩,h⟩
noncomputable def Gl (X:Cx) (x:Str):Prop:=X.env.kindOf x=some .globalImplicit
theorem zcA {E:A2->A4->Prop} {pins:List (A3×Obj)} {s:A4} {σ : St} {H:Hp} {x:Str} {u:A2} {pos:Pos} {Q:A2->A4->Prop} (I:Inv X pins σ H s) (hg:Gl X x) (hm:X.mg x=some u) (h:Q u s)
  (hd:(x == ("__debug__" : Str))=false:=by decide):wpAny (model X.prog X.w) X.A (eval (.Name x pos) X.env) Q E s :=
 L8 I.ok.kind hg (Calls.loadGlobal_global (by rw [I.ok.glob]; exact I.mod.glob.keeps I.bk) hm h) hd
theorem zey {E:A2->A4->Prop} {pins:List (A3×Obj)} {s:A4} {σ : St} {H:Hp} {x:Str} {u:A2} {pos:Pos} {Q:A2->A4->Prop} (I:Inv X pins σ H s) (hg:Gl X x) (hm:X.mg x=none) (hv:bootBuiltins x=some u) (h:Q u s)
  (hn:x ≠ "__name__" := by decide) (hd:(x == ("__debug__" : Str))=false:=by decide):wpAny (model X.prog X.w) X.A (eval (.Name x pos) X.env) Q E s:=by
 obtain ⟨mb,h1,h2⟩:=I.mod.blt
 exact L8 I.ok.kind hg (Calls.loadGlobal_builtin (by rw [I.ok.glob]; exact I.mod.glob.keeps I.bk) hm (by rw [I.ok.blt]; exact h1.keeps I.bk) ((h2 x hn).trans hv) h) hd
theorem zgc {x:Str} {v:V} {u:A2} {pos:Pos} (hg:Gl X x) (hm:X.mg x=some u) (r:RelV v u) (hd:(x == ("__debug__" : Str))=false:=by decide):PE X (.Name x pos) (tC v) :=
 fun _ _ _ H _ I h=>zcA I hg hm ⟨v,H,I,r,h⟩ hd
theorem zcy {x:Str} {v:V} {u:A2} {pos:Pos} (hg:Gl X x) (hm:X.mg x=none) (hv:bootBuiltins x=some u) (r:RelV v u) (hn:x ≠ "__name__" := by decide) (hd:(x == ("__debug__" : Str))=false:=by decide):PE X (.Name x pos) (tC v) :=
 fun _ _ _ H _ I h=>zey I hg hm hv ⟨v,H,I,r,h⟩ hn hd
variable {a b:Ce} {ta tb:TE} {pos:Pos}
noncomputable def PC (X:Cx) (op:Np) (a b:Ce) (t:TE):Prop :=
 ∀ (pins:List (A3×Obj)) (s:A4) (σ : St) (H:Hp) (Q:VK),Inv X pins σ H s->t σ H Q ->
  wpAny (model X.prog X.w) X.A (eval a X.env) (fun v s₁ => wpAny (model X.prog X.w) X.A (eval b X.env) (fun u s₂ => wpAny (model X.prog X.w) X.A (compareOp op v u) (EP X pins σ Q) X.xe s₂) X.xe s₁) X.xe s
noncomputable def tB (t:TE):TT:=fun σ H Q=>t σ H fun x H1=>∃ c,x = .bl c/\Q c H1
theorem zft {op:Np} {t:TE} (h:PC X op a b t) (h1:behindInMarks op b=false:=by first | exact nobehind _ (by decide) (by decide) | rfl):PE X (.Compare a [op] [b] pos) t:=fun pins s σ H Q I hw=>Ro (h pins s σ H Q I hw) h1
theorem zcH {op:Np} {t:TE} (h:PC X op a b t) (h1:behindInMarks op b=false:=by first | exact nobehind _ (by decide) (by decide) | rfl):PT X (.Compare a [op] [b] pos) (tB t):=by
 intro pins s σ H Q I hw
 refine Od (thn (h pins s σ H _ I hw) fun v s1 h1=>thn h1 fun u s2 h2=>thn h2 fun c s3 ⟨x,H1,I1,r1,q1⟩ => ?_) h1
 obtain ⟨d,rfl,q⟩:=q1
 cases r1
 exact Cu ⟨H1,I1,q⟩
theorem zbz {e:Ce} {t:TE} (h:PE X e t) (he:∀ whole,isTrue e X.env whole=(do let v <- whole; standAt e.pos; holding [v] (truthy v)):=by intro _; rfl):PT X e (tB t):=by
 intro pins s σ H Q I hw
 refine isTrue_plain (thn (h pins s σ H _ I hw) fun v s1 ⟨x,H1,I1,r1,q1⟩ => ?_) (he _)
 obtain ⟨d,rfl,q⟩:=q1
 cases r1
 exact Cu ⟨H1,I1,q⟩
variable {tA tB':TT} {rest:List Ce}
noncomputable def tAnd (t u:TT):TT:=fun σ H Q=>t σ H fun c H1=>if c=true then u σ H1 Q else Q false H1
noncomputable def tOr (t u:TT):TT:=fun σ H Q=>t σ H fun c H1=>if c=true then Q true H1 else u σ H1 Q
noncomputable def tNot (t:TT):TT:=fun σ H Q=>t σ H fun c H1=>Q (!c) H1
theorem pw_and1 (ha:PT X a tA):PW X (.BoolOp .And [a] pos) tA:=by
 intro wh pins s σ H Q I h
 refine isTrue_and (thn (ha pins s σ H Q I h) fun c s1 e => ?_)
 cases c with
 | true=>exact isTrue_and_nil e
 | false=>exact e
theorem zdD (ha:PT X a tA):PW X (.BoolOp .Or [a] pos) tA:=by
 intro wh pins s σ H Q I h
 refine isTrue_or (thn (ha pins s σ H Q I h) fun c s1 e => ?_)
 cases c with
 | false=>exact isTrue_or_nil e
 | true=>exact e
theorem pw_and (ha:PT X a tA) (hb:PW X (.BoolOp .And (b :: rest) pos) tB'):PW X (.BoolOp .And (a :: b :: rest) pos) (tAnd tA tB'):=by
 intro wh pins s σ H Q I h
 refine isTrue_and (thn (ha pins s σ H _ I h) fun c s1 ⟨H1,I1,q1⟩ => ?_)
 cases c with
 | true=>exact hb wh pins s1 σ H1 Q I1 q1
 | false=>exact ⟨H1,I1,q1⟩
theorem zeW (ha:PT X a tA) (hb:PW X (.BoolOp .Or (b :: rest) pos) tB'):PW X (.BoolOp .Or (a :: b :: rest) pos) (tOr tA tB'):=by
 intro wh pins s σ H Q I h
 refine isTrue_or (thn (ha pins s σ H _ I h) fun c s1 ⟨H1,I1,q1⟩ => ?_)
 cases c with
 | true=>exact ⟨H1,I1,q1⟩
 | false=>exact hb wh pins s1 σ H1 Q I1 q1
theorem zbQ (ha:PT X a tA):PT X (.UnaryOp .Not a pos) (tNot tA):=by
 intro pins s σ H Q I h
 exact isTrue_not (ha pins s σ H (fun c H1=>Q (!c) H1) I h)
noncomputable def tAndV (ta tb:TE):TE:=fun σ H Q=>ta σ H fun x H1=>∃ c,x = .bl c/\if c=true then tb σ H1 Q else Q (.bl false) H1
noncomputable def tOrV (ta tb:TE):TE:=fun σ H Q=>ta σ H fun x H1=>∃ c,x = .bl c/\if c=true then Q (.bl true) H1 else tb σ H1 Q
noncomputable def tNotV (ta:TE):TE:=fun σ H Q=>ta σ H fun x H1=>∃ c,x = .bl c/\Q (.bl (!c)) H1
theorem zgb {op} {t:TE} (h:PE X a t):PE X (.BoolOp op [a] pos) t:=fun pins s σ H Q I hw=>BoolOp_one (h pins s σ H Q I hw)
theorem zgW (ha:PE X a ta) (hb:PE X (.BoolOp .And (b :: rest) pos) tb):PE X (.BoolOp .And (a :: b :: rest) pos) (tAndV ta tb):=by
 intro pins s σ H Q I h
 refine BoolOp_and (thn (ha pins s σ H _ I h) fun v s1 ⟨x,H1,I1,r1,q1⟩ => ?_)
 obtain ⟨c,rfl,q1⟩:=q1
 cases r1
 refine Cu ?_
 cases c with
 | true=>exact hb pins s1 σ H1 Q I1 q1
 | false=>exact ⟨.bl false,H1,I1,rfl,q1⟩
theorem pe_or (ha:PE X a ta) (hb:PE X (.BoolOp .Or (b :: rest) pos) tb):PE X (.BoolOp .Or (a :: b :: rest) pos) (tOrV ta tb):=by
 intro pins s σ H Q I h
 refine BoolOp_or (thn (ha pins s σ H _ I h) fun v s1 ⟨x,H1,I1,r1,q1⟩ => ?_)
 obtain ⟨c,rfl,q1⟩:=q1
 cases r1
 refine Cu ?_
 cases c with
 | false=>exact hb pins s1 σ H1 Q I1 q1
 | true=>exact ⟨.bl true,H1,I1,rfl,q1⟩
theorem pe_not (ha:PE X a ta):PE X (.UnaryOp .Not a pos) (tNotV ta):=by
 intro pins s σ H Q I h
 refine UnaryOp_ (thn (ha pins s σ H _ I h) fun v s1 ⟨x,H1,I1,r1,q1⟩ => ?_)
 obtain ⟨c,rfl,q1⟩:=q1
 cases r1
 exact not_of (Cu ⟨.bl (!c),H1,I1,rfl,q1⟩)
noncomputable def tIf (t:TT) (ta tb:TE):TE:=fun σ H Q=>t σ H fun c H1=>if c=true then ta σ H1 Q else tb σ H1 Q
theorem pe_ifExp {c:Ce} (hc:PT X c tA) (ha:PE X a ta) (hb:PE X b tb):PE X (.IfExp c a b pos) (tIf tA ta tb):=by
 intro pins s σ H Q I h
 refine wpAny_IfExp (thn (hc pins s σ H _ I h) fun d s1 ⟨H1,I1,q1⟩ => ?_)
 cases d with
 | true=>exact ha pins s1 σ H1 Q I1 q1
 | false=>exact hb pins s1 σ H1 Q I1 q1
end
noncomputable def SqL (K:Am) (H:Hp) (a:A3) (xs:List V):Prop :=
 Rd H a (.lst xs) \/
  ∃ (o:Obj) (its:Array A2) (n:Nat),K.lookup a=some o/\o.cls = .type "list" /\ o.dict=none/\o.data = .seq its n/\its.size<=sizeLine/\Vals xs its.toList
noncomputable def SqT (K:Am) (H:Hp) (a:A3) (xs:List V):Prop :=
 Rd H a (.tup xs) \/
  ∃ (o:Obj) (its:Array A2) (n:Nat),K.lookup a=some o/\o.cls = .type "tuple" /\ o.data = .seq its n/\its.size<=sizeLine/\Vals xs its.toList
noncomputable def absV:A2->Option V
 | .none=>some .non
 | .bool b=>some (.bl b)
 | .int i _=>some (.int i)
 | .str x _=>some (.str x)
 | .bytes b _=>some (.byt b)
 | .float b _=>some (.flt b)
 | .ref a=>some (.ref a)
 | .type n=>some (.ty n)
 | _=>none
theorem RelV.abs {x:V} {u:A2} (r:RelV x u):absV u=some x:=by
 cases x with
 | non=>cases r; rfl
 | bl _=>cases r; rfl
 | int _=>obtain ⟨t,rfl⟩:=r; rfl
 | str _=>obtain ⟨t,rfl⟩:=r; rfl
 | byt _=>obtain ⟨t,rfl⟩:=r; rfl
 | flt _=>obtain ⟨t,rfl⟩:=r; rfl
 | ref _=>cases r; rfl
 | ty _=>cases r; rfl
theorem RelV.inj {x y:V} {u:A2} (r:RelV x u) (q:RelV y u):x=y:=C6 (r.abs.symm.trans q.abs)
theorem Vals.inj:∀ {xs ys:List V} {us:List A2},Vals xs us->Vals ys us->xs=ys
 | _,_,_,.nil,.nil=>rfl
 | _,_,_,.cons r t,.cons r' t'=>by rw [r.inj r',Vals.inj t t']
section
variable {X:Cx} {pins:List (A3×Obj)} {σ : St} {H:Hp} {s:A4} {a:A3} {xs ys:List V}
theorem SqL.of {K:Am} (h:H a=some (.lst xs)):SqL K H a xs := .inl (.inl h)
theorem SqT.of {K:Am} (h:H a=some (.tup xs)):SqT K H a xs := .inl (.inl h)
theorem Inv.list (I:Inv X pins σ H s) (h:SqL X.K H a xs):∃ its:List A2,Vals xs its/\PlainL s.heap a its.toArray/\xs.length<=sizeLine:=by
 rcases h with h | ⟨o,its,n,hk,hc,hd,hs,hz,r⟩
 ·obtain ⟨z,its,n,r,e⟩:=h.ok I.hok
  exact ⟨its,r,⟨_,n,e,rfl,rfl,rfl⟩,z⟩
 ·refine ⟨its.toList,r,⟨o,n,I.kIn a o hk,hc,hd,by simpa using hs⟩,?_⟩
  have e:=r.length
  simp only [At] at e
  omega
theorem Inv.tuple (I:Inv X pins σ H s) (h:SqT X.K H a xs):∃ its:List A2,Vals xs its/\Jm s.heap a its.toArray/\xs.length<=sizeLine:=by
 rcases h with h | ⟨o,its,n,hk,hc,hs,hz,r⟩
 ·obtain ⟨z,its,r,p⟩:=h.ok I.hok
  exact ⟨its,r,p,z⟩
 ·refine ⟨its.toList,r,⟨o,I.kIn a o hk,hc,n,by simpa using hs⟩,?_⟩
  have e:=r.length
  simp only [At] at e
  omega
theorem Inv.list_inj (I:Inv X pins σ H s) (h:SqL X.K H a xs) (h':SqL X.K H a ys):xs=ys:=by
 obtain ⟨its,r,⟨o,n,e,_,_,d⟩,_⟩:=I.list h
 obtain ⟨its',r',⟨o',n',e',_,_,d'⟩,_⟩:=I.list h'
 rw [e] at e'; cases e'
 rw [d] at d'
 injection d' with d1 _
 have:its=its':=by simpa using congrArg M7 d1
 subst this
 exact r.inj r'
theorem Inv.tuple_inj (I:Inv X pins σ H s) (h:SqT X.K H a xs) (h':SqT X.K H a ys):xs=ys:=by
 obtain ⟨its,r,⟨o,e,_,n,d⟩,_⟩:=I.tuple h
 obtain ⟨its',r',⟨o',e',_,n',d'⟩,_⟩:=I.tuple h'
 rw [e] at e'; cases e'
 rw [d] at d'
 injection d' with d1 _
 have:its=its':=by simpa using congrArg M7 d1
 subst this
 exact r.inj r'
end
noncomputable abbrev Cx.wish (X:Cx) (E:A2->A4->Prop):Cx:={ X with xe:=E }
noncomputable abbrev Cx.nox (X:Cx):Cx:=X.wish fun _ _=>False
theorem Cx.Ok.wish {X:Cx} (ok:X.Ok) (E:A2->A4->Prop):(X.wish E).Ok :=
 ⟨ok.mod,ok.kind,ok.glob,ok.blt,ok.above,ok.inj,ok.has,ok.cab,ok.hd,ok.frames,ok.stk,ok.exf,ok.bs,ok.bsz,ok.noex,ok.exfs,ok.funs,ok.frf⟩
theorem Cx.Ok.unwish {X:Cx} {E:A2->A4->Prop} (ok:(X.wish E).Ok):X.Ok :=
 ⟨ok.mod,ok.kind,ok.glob,ok.blt,ok.above,ok.inj,ok.has,ok.cab,ok.hd,ok.frames,ok.stk,ok.exf,ok.bs,ok.bsz,ok.noex,ok.exfs,ok.funs,ok.frf⟩
section
variable {X:Cx} {pins:List (A3×Obj)} {σ : St} {H:Hp} {s:A4} {E:A2->A4->Prop}
theorem Inv.wish (I:Inv X pins σ H s) (E:A2->A4->Prop):Inv (X.wish E) pins σ H s:=⟨I.ok.wish E,I.os,I.bare,I.base,I.loc,I.cell,I.free,I.freeC,I.pin,I.hok,I.len⟩
theorem Inv.unwish (I:Inv (X.wish E) pins σ H s):Inv X pins σ H s:=⟨I.ok.unwish,I.os,I.bare,I.base,I.loc,I.cell,I.free,I.freeC,I.pin,I.hok,I.len⟩
theorem SP.unwish {D:Ends} {f:Flow} {s':A4} (h:SP (X.wish E) pins D f s'):SP X pins D f s':=by
 cases f with
 | next=>obtain ⟨σ',H',I,q⟩:=h; exact ⟨σ',H',I.unwish,q⟩
 | brk=>obtain ⟨σ',H',I,q⟩:=h; exact ⟨σ',H',I.unwish,q⟩
 | cont=>obtain ⟨σ',H',I,q⟩:=h; exact ⟨σ',H',I.unwish,q⟩
 | ret u=>obtain ⟨v,σ',H',I,r,q⟩:=h; exact ⟨v,σ',H',I.unwish,r,q⟩
theorem PSs.nox {st:List Cj} {t:TS} (h:PSs X.nox st t):PSs X st t:=fun pins s σ H D I hw =>
 Dg (h pins s σ H D (I.wish _) hw) (fun _ _ q=>q.unwish) fun _ _ z=>Cn z
end
section
variable {X:Cx} {st:Cj} {rest:List Cj} {t u:TS} {e:Ce} {te:TE} {pos:Pos}
noncomputable def tNext:TS:=fun D σ H=>D.nx σ H
noncomputable def tSeq (t u:TS):TS:=fun D σ H=>t { D with nx:=u D } σ H
theorem zap:PSs X [] tNext:=fun _ _ σ H _ I h=>Ha ⟨σ,H,I,h⟩
theorem zae (h1:PS X st t) (h2:PSs X rest u):PSs X (st :: rest) (tSeq t u):=by
 intro pins s σ H D I h
 refine Lf (thn (h1 pins s σ H { D with nx:=u D } I h) fun f s1 q => ?_)
 cases f with
 | next =>
  obtain ⟨σ',H',I',q⟩:=q
  exact h2 pins s1 σ' H' D I' q
 | ret v=>exact q
 | brk=>exact q
 | cont=>exact q
theorem zah (h1:PS X st t):PSs X [st] t:=by
 intro pins s σ H D I h
 refine Lf (thn (h1 pins s σ H D I h) fun f s1 q => ?_)
 cases f with
 | next=>exact Ha q
 | ret v=>exact q
 | brk=>exact q
 | cont=>exact q
theorem Inv.quiet {pins:List (A3×Obj)} {σ : St} {H:Hp} {s:A4} (I:Inv X pins σ H s):interactive X.env=false:=by simp [interactive,I.ok.kind]
noncomputable def tDrop (te:TE):TS:=fun D σ H=>te σ H fun _ H1=>D.nx σ H1
theorem zaW (he:PE X e te) (hs:swapsWith e none pos.line X.env=pure false:=by rfl):PS X (.Expr e pos) (tDrop te):=by
 intro pins s σ H D I h
 exact wpAny_Expr_any (thn (he pins s σ H _ I h) fun v s1 ⟨x,H1,I1,r1,q1⟩=>⟨σ,H1,I1,q1⟩) I.quiet hs
noncomputable def tRet (te:TE):TS:=fun D σ H=>te σ H D.rt
theorem zam (he:PE X e te):PS X (.Return (some e) pos) (tRet te):=by
 intro pins s σ H D I h
 exact wpAny_Return_some (thn (he pins s σ H _ I h) fun v s1 ⟨x,H1,I1,r1,q1⟩=>⟨x,σ,H1,I1,r1,q1⟩)
noncomputable def tIfS (c:TT) (t u:TS):TS:=fun D σ H=>c σ H fun b H1=>if b=true then t D σ H1 else u D σ H1
theorem zaL {c:Ce} {a b:List Cj} {tc:TT} (hc:PT X c tc) (ha:PSs X a t) (hb:PSs X b u):PS X (.If c a b pos) (tIfS tc t u):=by
 intro pins s σ H D I h
 refine wpAny_If (thn (hc pins s σ H _ I h) fun d s1 ⟨H1,I1,q1⟩ => ?_)
 cases d with
 | true=>exact ha pins s1 σ H1 D I1 q1
 | false=>exact hb pins s1 σ H1 D I1 q1
end
noncomputable abbrev TG:=V->St->Hp->(St->Hp->Prop)->Prop
noncomputable abbrev TGs:=List V->St->Hp->(St->Hp->Prop)->Prop
noncomputable def PG (X:Cx) (target:Ce) (t:TG):Prop :=
 ∀ (pins:List (A3×Obj)) (s:A4) (σ : St) (H:Hp) (v:V) (u:A2) (Q:St->Hp->Prop),Inv X pins σ H s->RelV v u->t v σ H Q ->
  wpAny (model X.prog X.w) X.A (assign target X.env u) (fun _ s'=>∃ σ' H',Inv X pins σ' H' s'/\Q σ' H') X.xe s
noncomputable def PGs (X:Cx) (ts:List Ce) (t:TGs):Prop :=
 ∀ (pins:List (A3×Obj)) (s:A4) (σ : St) (H:Hp) (vs:List V) (us:List A2) (Q:St->Hp->Prop),Inv X pins σ H s->Vals vs us->t vs σ H Q ->
  wpAny (model X.prog X.w) X.A (assignInOrder ((assignEach ts X.env).map (·.2)) us) (fun _ s'=>∃ σ' H',Inv X pins σ' H' s'/\Q σ' H') X.xe s
noncomputable abbrev TSet:=V->V->V->Hp->(Hp->Prop)->Prop
noncomputable def PSet (X:Cx) (t:TSet):Prop :=
 ∀ (pins:List (A3×Obj)) (s:A4) (σ : St) (H:Hp) (o i v:V) (ov iv u:A2) (Q:Hp->Prop),Inv X pins σ H s->RelV o ov->RelV i iv->RelV v u->t o i v H Q ->
  wpAny (model X.prog X.w) X.A (setItem ov iv u) (fun _ s'=>∃ H',Inv X pins σ H' s'/\Q H') X.xe s
section
variable {X:Cx} {pos:Pos}
noncomputable def gName (i:Nat):TG:=fun v σ H Q=>Q (σ.set i (some v)) H
theorem zaj {i:Nat} {x:Str} (hN:X.N.Nodup) (hi:X.N[i]?=some x) (hx:Loc X.env.scope x) (hf:X.fn x=true\/X.env.scope.names.lookup x=some .local:=by first | exact .inl rfl | exact .inr rfl | assumption):PG X (.Name x pos) (gName i):=by
 intro pins s σ H v u Q I r h
 exact Pk (zdS I hN hi hx r (fun s' I'=>⟨_,H,I',h⟩) hf)
noncomputable def gNil:TGs:=fun vs σ H Q=>vs = []/\Q σ H
noncomputable def gCons (t:TG) (u:TGs):TGs:=fun vs σ H Q=>∃ v r,vs=v :: r/\t v σ H fun σ' H'=>u r σ' H' Q
theorem zbD:PGs X [] gNil:=by
 intro pins s σ H vs us Q I r h
 obtain ⟨e,h⟩:=h
 subst e
 cases r
 exact assignInOrder_nil ⟨σ,H,I,h⟩
theorem zaB {e:Ce} {es:List Ce} {t:TG} {u:TGs} (h1:PG X e t) (h2:PGs X es u)
  (hs:(assignEach (e :: es) X.env).map (·.2)=assign e X.env :: (assignEach es X.env).map (·.2):=by rfl):PGs X (e :: es) (gCons t u):=by
 intro pins s σ H vs us Q I r h
 obtain ⟨v,vr,e1,h⟩:=h
 subst e1
 cases r with
 | cons r rr =>
  rw [hs]
  refine assignInOrder_cons (thn (h1 pins s σ H _ _ _ I r h) fun _ s1 ⟨σ1,H1,I1,q1⟩ => ?_)
  exact h2 pins s1 σ1 H1 _ _ Q I1 rr q1
noncomputable def gTup (K:Am) (n:Nat) (t:TGs):TG:=fun v σ H Q=>∃ a xs,v = .ref a/\SqT K H a xs/\xs.length=n/\t xs σ H Q
theorem zdF {es:List Ce} {k:Nat} {t:TGs} {n:Nat} (hc:X.calm=true) (h:PGs X es t)
  (hn:(assignEach es X.env).length=n:=by rfl) (hst:(assignEach es X.env).findIdx? (·.1)=none:=by rfl):PG X (.Tuple es k pos) (gTup X.K n t):=by
 intro pins s σ H v u Q I r hw
 obtain ⟨a,xs,e1,hq,hl,hw⟩:=hw
 subst e1
 cases r
 obtain ⟨its,rv,ht,hz⟩:=I.tuple hq
 refine assign_Tuple_tuple (I.ok.hd hc) ht (by simp [hn,<- hl,rv.length]) hst fun h' hx => ?_
 have I1:Inv X pins σ H { s with heap:=h' }:=I.kept (t':=s.toks) fun b o e=>hx b o (B8 (An e)) e
 exact h pins _ σ H xs _ Q I1 (by simpa using rv) hw
noncomputable def gSub (to ti:TE) (t:TSet):TG:=fun v σ H Q=>to σ H fun o H1=>ti σ H1 fun i H2=>t o i v H2 fun H3=>Q σ H3
theorem zgU {o i:Ce} {to ti:TE} {t:TSet} (ho:PE X o to) (hi:PE X i ti) (hs:PSet X t)
  (ha:∀ v,assign (.Subscript o i pos) X.env v=(do
   let ov <- holding [v] (eval o X.env)
   let iv <- holding [v,ov] (eval i X.env)
   standAt pos
   holding [v,ov,iv] (setItem ov iv v)
   release [v,ov,iv] []):=by intro _; rfl):PG X (.Subscript o i pos) (gSub to ti t):=by
 intro pins s σ H v u Q I r h
 rw [ha]
 refine A1 (D3 (thn (ho pins s σ H _ I h) fun ov s1 ⟨x,H1,I1,r1,q1⟩ => ?_))
 refine A1 (D3 (thn (hi pins s1 σ H1 _ I1 q1) fun iv s2 ⟨y,H2,I2,r2,q2⟩ => ?_))
 refine A1 (Kk (A1 (D3 (thn (hs pins s2 σ H2 x y v ov iv u _ I2 r1 r2 r q2) fun _ s3 ⟨H3,I3,q3⟩ => ?_))))
 exact wpAny_release ⟨σ,H3,I3,q3⟩
noncomputable def tAsg (te:TE) (g:TG):TS:=fun D σ H=>te σ H fun x H1=>g x σ H1 D.nx
theorem zgS {tg e:Ce} {te:TE} {g:TG} (he:PE X e te) (hg:PG X tg g) (hs:swapsWithSole [tg] e pos.line X.env=pure false:=by rfl) (hw:swappedStores [tg] e X.env=pure none:=by rfl)
  (h1:(assignEach [tg] X.env).map (·.2) = [assign tg X.env]:=by rfl):PS X (.Assign [tg] e pos) (tAsg te g):=by
 intro pins s σ H D I h
 refine wpAny_Assign_stores (thn (he pins s σ H _ I h) fun v s1 ⟨x,H1,I1,r1,q1⟩ => ?_) hs hw
 rw [h1]
 exact thn (hg pins s1 σ H1 x v _ I1 r1 q1) fun _ s2 q=>q
theorem zak {i:Nat} {x:Str} {e:Ce} {te:TE} {pos':Pos} (hN:X.N.Nodup) (hi:X.N[i]?=some x) (hx:Loc X.env.scope x) (he:PE X e te) (hs:swapsWith e (some (.Name x pos')) pos.line X.env=pure false:=by rfl) (hf:X.fn x=true\/X.env.scope.names.lookup x=some .local:=by first | exact .inl rfl | exact .inr rfl | assumption) :
  PS X (.Assign [.Name x pos'] e pos) (tAsg te (gName i)):=by
 intro pins s σ H D I h
 refine wpAny_Assign_Name (thn (he pins s σ H _ I h) fun v s1 ⟨y,H1,I1,r1,q1⟩ => ?_) hs
 exact zdS I1 hN hi hx r1 (fun s2 I2=>⟨_,H1,I2,q1⟩) hf
end
section
variable {X:Cx} {pos:Pos}
noncomputable def tWhile (c:TT) (tb:TS):TS:=fun D σ H=>∃ W:Nat->St->Hp->Prop,(∃ m,W m σ H)/\∀ m σ H,W m σ H ->
 c σ H fun b H1=>if b=true then ∃ N:St->Hp->Prop,(∀ σ' H',N σ' H'->∃ m',m' < m/\W m' σ' H')/\tb { D with nx:=N,ct:=N,bk:=D.nx } σ H1 else D.nx σ H1
theorem zdX {c:Ce} {body:List Cj} {tc:TT} {tb:TS} (hp:Q6 (model X.prog X.w) X.A X.env X.xe) (hc:PT X c tc) (hb:PSs X body tb):PS X (.While c body [] pos) (tWhile tc tb):=by
 intro pins s σ H D I h
 obtain ⟨W,⟨m0,w0⟩,turn⟩:=h
 refine wpAny_While (codeAny_whileLoop (fun n s'=>∃ σ' H',Inv X pins σ' H' s'/\W n σ' H') ?_ m0 ⟨σ,H,I,w0⟩)
 rintro n s1 ⟨σ1,H1,I1,w1⟩
 refine Fe hp (thn (hc pins s1 σ1 H1 _ I1 (turn n σ1 H1 w1)) fun b s2 ⟨H2,I2,q2⟩ => ?_)
 cases b with
 | true =>
  obtain ⟨N,hN,q2⟩:=q2
  rw [if_pos rfl]
  refine Fe hp (thn (hb pins s2 σ1 H2 _ I2 q2) fun f s3 q3 => ?_)
  cases f with
  | next =>
   obtain ⟨σ3,H3,I3,n3⟩:=q3
   obtain ⟨m',hm,w3⟩:=hN σ3 H3 n3
   exact ⟨m',hm,σ3,H3,I3,w3⟩
  | cont =>
   obtain ⟨σ3,H3,I3,n3⟩:=q3
   obtain ⟨m',hm,w3⟩:=hN σ3 H3 n3
   exact ⟨m',hm,σ3,H3,I3,w3⟩
  | brk=>exact q3
  | ret v=>exact q3
 | false =>
  rw [if_neg A9]
  exact Ha ⟨σ1,H2,I2,q2⟩
end
structure It where
 go:Nat->Hp->Prop
 yld:Nat->Hp->V->Hp->Prop
 stop:Nat->Hp->Prop
noncomputable def FpOk (X:Cx) (pins:List (A3×Obj)) (H:Hp) (b:A3):Prop :=
 H b=none/\b≠X.env.locals/\b ∉ X.fs/\(b∈X.ex\/X.s₀.heap.objs.size<=b)/\(∀ x c,X.env.cells.lookup x=some c->c≠b)/\∀ p∈X.pn ++ pins,p.1≠b
theorem Inv.fpOk {X:Cx} {pins:List (A3×Obj)} {σ : St} {H H':Hp} {s:A4} {b:A3} (I:Inv X pins σ H s) (hb:s.heap.objs.size<=b) (hn:H' b=none):FpOk X pins H' b:=by
 refine ⟨hn,Kh (Ae I.lt hb),I.nofs hb,.inr (C5 I.sz hb),fun x c e z => ?_,fun p hp z => ?_⟩
 ·obtain ⟨v,q⟩:=I.cell x c e
  exact absurd (Ae q.lt (by rw [z]; exact hb)) (Dp _)
 ·exact absurd (Ae (An (I.pin p hp).1) (by rw [z]; exact hb)) (Dp _)
structure Turn (P:Ap) (w:Bb) (K:Am) (tg:Ce) (J:It) (fp:List A3) (it:A3) (tn:Nat->Bx->Prop):Prop where
 mem:it∈fp
 obj:∀ i h,tn i h->∀ b∈fp,∃ o,h.get? b=some o/\∀ v,o.data ≠ .cell v
 keep:∀ i h h',tn i h->(∀ b∈fp,∀ o,h.get? b=some o->h'.get? b=some o)->tn i h'
 item:∀ (X:Cx),X.prog=P->X.w=w->X.K=K->X.calm=true->∀ (i:Nat) (pins:List (A3×Obj)) (s:A4) (σ : St) (H:Hp) (E:A2->A4->Prop),Inv X pins σ H s->(∀ b∈fp,FpOk X pins H b)->tn i s.heap->J.go i H ->
  wpAny (model P w) X.A (pyNext (.ref it)) (fun r s1=>∃ u,r=some u /\
   wpAny (model P w) X.A (letOwnedTupleGo tg (.ref it) u) (fun _ s2=>∃ x H',Inv X pins σ H' s2/\RelV x u/\J.yld i H x H'/\tn (i + 1) s2.heap/\∀ b∈fp,H' b=none) E s1) E s
 done:∀ (X:Cx),X.prog=P->X.w=w->X.K=K->X.calm=true->∀ (i:Nat) (pins:List (A3×Obj)) (s:A4) (σ : St) (H:Hp) (E:A2->A4->Prop),Inv X pins σ H s->(∀ b∈fp,FpOk X pins H b)->tn i s.heap->J.stop i H ->
  wpAny (model P w) X.A (pyNext (.ref it)) (fun r s1=>r=none/\Inv X pins σ H s1) E s
 self:∀ (A:B7) (i:Nat) (s:A4) (Q:A2->A4->Prop) (E:A2->A4->Prop),tn i s.heap->Q (.ref it) s->wpAny (model P w) A (pyIter (.ref it)) Q E s
noncomputable abbrev TI:=St->Hp->(It->Hp->Prop)->Prop
noncomputable def PIE (X:Cx) (pins:List (A3×Obj)) (σ : St) (tg:Ce) (R:It->Hp->Prop) (itv:A2) (s2:A4):Prop :=
 ∃ (it:A3) (fp:List A3) (tn:Nat->Bx->Prop) (J:It) (H':Hp),itv = .ref it/\Inv X pins σ H' s2/\Turn X.prog X.w X.K tg J fp it tn/\tn 0 s2.heap/\(∀ b∈fp,FpOk X pins H' b)/\R J H'
noncomputable def PI (X:Cx) (tg iter:Ce) (wi:TI):Prop :=
 ∀ (pins:List (A3×Obj)) (s:A4) (σ : St) (H:Hp) (R:It->Hp->Prop),Inv X pins σ H s->wi σ H R ->
  wpAny (model X.prog X.w) X.A (eval iter X.env) (fun v s1=>wpAny (model X.prog X.w) X.A (pyIter v) (PIE X pins σ tg R) X.xe s1) X.xe s
theorem zfO {M:Hv} {A:B7} {E:A2->A4->Prop} {s:A4} {tg:Ce} {it:A3} {u:A2} {o:Obj} {n:String} {vs:Array A2} {Q:Unit->A4->Prop} (ho:s.heap.get? it=some o) (hc:o.cls = .type n) (hd:o.data = .fields vs)
  (hn : ["enumerate","zip","dict_itemiterator","dict_reverseitemiterator","odict_iterator","itertools.zip_longest","itertools.pairwise"].contains n=false) (hQ:Q () s):wpAny M A (letOwnedTupleGo tg (.ref it) u) Q E s:=by
 unfold letOwnedTupleGo
 cases tg <;> first
  | exact Ad hQ
  | (cases u <;> first
    | exact Ad hQ
    | (refine A1 (wpAny_load ho ?_)
       rw [hc,hd]
       show wpAny M A (if (["enumerate","zip","dict_itemiterator","dict_reverseitemiterator","odict_iterator","itertools.zip_longest","itertools.pairwise"].contains n && vs[0]? == some (rawInt _))=true then _ else _) Q E s
       rw [if_neg (by intro h; rw [hn,Fj] at h; cases h)]
       exact Ad hQ))
noncomputable def Itl (K:Am) (a:A3):It :=
 ⟨fun i H=>∃ xs x,SqL K H a xs/\xs[i]?=some x,fun i H x H'=>H'=H/\∀ xs,SqL K H a xs->xs[i]?=some x,fun i H=>∃ xs,SqL K H a xs/\xs.length<=i⟩
noncomputable def Itt (K:Am) (a:A3):It :=
 ⟨fun i H=>∃ xs x,SqT K H a xs/\xs[i]?=some x,fun i H x H'=>H'=H/\∀ xs,SqT K H a xs->xs[i]?=some x,fun i H=>∃ xs,SqT K H a xs/\xs.length<=i⟩
noncomputable def Itr (lo:Int) (n:Nat):It:=⟨fun i _=>i < n,fun i H x H'=>H'=H/\x = .int (lo + i),fun i _=>n<=i⟩
theorem turn_list {P:Ap} {w:Bb} {K:Am} {tg:Ce} (a it:A3):Turn P w K tg (Itl K a) [it] it (fun i h=>h.IsListIter it a i) where
 mem:=by simp
 obj:=fun i h st b hb=>by
  have e:b=it:=by simpa using hb
  subst e
  obtain ⟨o,e,c,d⟩:=st
  exact ⟨o,e,fun v z=>by rw [d] at z; cases z⟩
 keep:=fun i h h' st k=>st.at fun o e=>k it (by simp) o e
 item:=by
  intro X hP hw hK hc i pins s σ H E I hf st hg
  subst hP hw hK
  obtain ⟨xs,x,hq,hx⟩:=hg
  obtain ⟨its,rv,p,hz⟩:=I.list hq
  obtain ⟨u,hu,ru⟩:=rv.get hx
  obtain ⟨f0,f1,f2,f3,f4,f5⟩:=hf it (by simp)
  refine wpAny_pyNext_list_item st p.isList (x:=u) (by simpa using hu) fun h' st' sb => ?_
  have I1:Inv X pins σ H { s with heap:=h' }:=I.turned (t':=s.toks) (fun b o hb e=>(sb.2 b hb).trans e) f0 f1 f3 f4 f5
  obtain ⟨o,e,c,d⟩:=id st'
  exact ⟨u,rfl,zfO (s:={ s with heap:=h' }) e c d (by decide) ⟨x,H,I1,ru,⟨rfl,fun ys hy=>by rw [I.list_inj hy hq]; exact hx⟩,st',fun b hb=>(hf b hb).1⟩⟩
 done:=by
  intro X hP hw hK hc i pins s σ H E I hf st hg
  subst hP hw hK
  obtain ⟨xs,hq,hx⟩:=hg
  obtain ⟨its,rv,p,hz⟩:=I.list hq
  obtain ⟨f0,f1,f2,f3,f4,f5⟩:=hf it (by simp)
  have hl:=rv.length
  exact wpAny_pyNext_list_end (I.ok.hd hc) st p.isList (by simp; omega) fun h' eb=>⟨rfl,I.turned (t':=s.toks) (fun b o hb e=>eb b o hb e) f0 f1 f3 f4 f5⟩
 self:=fun _ _ _ _ _ st h=>wpAny_pyIter_listiter st h
theorem turn_tuple {P:Ap} {w:Bb} {K:Am} {tg:Ce} (a it:A3):Turn P w K tg (Itt K a) [it] it (fun i h=>h.IsTupleIter it a i) where
 mem:=by simp
 obj:=fun i h st b hb=>by
  have e:b=it:=by simpa using hb
  subst e
  obtain ⟨o,e,c,d⟩:=st
  exact ⟨o,e,fun v z=>by rw [d] at z; cases z⟩
 keep:=fun i h h' st k=>st.at fun o e=>k it (by simp) o e
 item:=by
  intro X hP hw hK hc i pins s σ H E I hf st hg
  subst hP hw hK
  obtain ⟨xs,x,hq,hx⟩:=hg
  obtain ⟨its,rv,p,hz⟩:=I.tuple hq
  obtain ⟨u,hu,ru⟩:=rv.get hx
  obtain ⟨f0,f1,f2,f3,f4,f5⟩:=hf it (by simp)
  refine wpAny_pyNext_tuple_item st (show s.heap.IsTuple a its.toArray from p) (x:=u) (by simpa using hu) fun h' st' sb => ?_
  have I1:Inv X pins σ H { s with heap:=h' }:=I.turned (t':=s.toks) (fun b o hb e=>(sb.2 b hb).trans e) f0 f1 f3 f4 f5
  obtain ⟨o,e,c,d⟩:=id st'
  exact ⟨u,rfl,zfO (s:={ s with heap:=h' }) e c d (by decide) ⟨x,H,I1,ru,⟨rfl,fun ys hy=>by rw [I.tuple_inj hy hq]; exact hx⟩,st',fun b hb=>(hf b hb).1⟩⟩
 done:=by
  intro X hP hw hK hc i pins s σ H E I hf st hg
  subst hP hw hK
  obtain ⟨xs,hq,hx⟩:=hg
  obtain ⟨its,rv,p,hz⟩:=I.tuple hq
  obtain ⟨f0,f1,f2,f3,f4,f5⟩:=hf it (by simp)
  have hl:=rv.length
  exact wpAny_pyNext_tuple_end (I.ok.hd hc) st (show s.heap.IsTuple a its.toArray from p) (by simp; omega) fun h' eb=>⟨rfl,I.turned (t':=s.toks) (fun b o hb e=>eb b o hb e) f0 f1 f3 f4 f5⟩
 self:=fun _ _ _ _ _ st h=>wpAny_pyIter_tupleiter st h
theorem turn_range {P:Ap} {w:Bb} {K:Am} {tg:Ce} (it:A3) (lo:Int) (n:Nat):Turn P w K tg (Itr lo n) [it] it (fun i h=>Ga h it (lo + (i:Nat) * 1) ((n:Int) - (i:Nat)) 1) where
 mem:=by simp
 obj:=fun i h st b hb=>by
  have e:b=it:=by simpa using hb
  subst e
  exact ⟨_,st,fun v z=>by
   have z':Qd _=Rx v:=z
   cases z'⟩
 keep:=fun i h h' st k=>k it (by simp) _ st
 item:=by
  intro X hP hw hK hc i pins s σ H E I hf st hg
  subst hP hw hK
  obtain ⟨f0,f1,f2,f3,f4,f5⟩:=hf it (by simp)
  have W:=Walks.range (prog:=X.prog) (w:=X.w) (I.ok.hd hc) it lo 1 n
  refine W.item i s _ _ hg st fun v h' tk hv st' kk => ?_
  obtain ⟨t,rfl⟩:=hv
  have I1:Inv X pins σ H { s with heap:=h',toks:=tk }:=I.turned (fun b o hb e=>kk b o (by simpa using hb) e) f0 f1 f3 f4 f5
  refine ⟨_,rfl,zfO (s:={ s with heap:=h',toks:=tk }) (n := "range_iterator") st' rfl rfl (by decide) ⟨.int (lo + i),H,I1,⟨t,?_⟩,⟨rfl,rfl⟩,st',fun b hb=>(hf b hb).1⟩⟩
  rw [Rh]
 done:=by
  intro X hP hw hK hc i pins s σ H E I hf st hg
  subst hP hw hK
  obtain ⟨f0,f1,f2,f3,f4,f5⟩:=hf it (by simp)
  exact wpAny_pyNext_range_end (I.ok.hd hc) st (by have:n<=i:=hg; omega) fun h' eb=>⟨rfl,I.turned (t':=s.toks) (fun b o hb e=>eb b o hb e) f0 f1 f3 f4 f5⟩
 self:=fun _ _ _ _ _ st h=>Nq st h
section
variable {X:Cx} {tg:Ce}
noncomputable def iList (K:Am) (tl:TE):TI:=fun σ H R=>tl σ H fun x H1=>∃ a,x = .ref a/\(∃ xs,SqL K H1 a xs)/\R (Itl K a) H1
noncomputable def iTup (K:Am) (tl:TE):TI:=fun σ H R=>tl σ H fun x H1=>∃ a,x = .ref a/\(∃ xs,SqT K H1 a xs)/\R (Itt K a) H1
theorem zaC {l:Ce} {tl:TE} (hl:PE X l tl):PI X tg l (iList X.K tl):=by
 intro pins s σ H R I h
 refine thn (hl pins s σ H _ I h) fun v s1 ⟨x,H1,I1,r1,q1⟩ => ?_
 obtain ⟨a,e,⟨xs,hq⟩,q⟩:=q1
 subst e
 cases r1
 obtain ⟨its,rv,p,hz⟩:=I1.list hq
 refine Pj p.isList ?_
 refine ⟨s1.heap.objs.size,[s1.heap.objs.size],_,_,H1,rfl,I1.kept (t':=s1.toks) fun b o e=>A8 _ e,turn_list a _,⟨_,Av _ rfl,rfl,rfl⟩,fun b hb => ?_,q⟩
 have e:b=s1.heap.objs.size:=by simpa using hb
 subst e
 exact I1.fpOk (Aa _) (I1.hok.fresh (Aa _))
theorem pi_tup {l:Ce} {tl:TE} (hl:PE X l tl):PI X tg l (iTup X.K tl):=by
 intro pins s σ H R I h
 refine thn (hl pins s σ H _ I h) fun v s1 ⟨x,H1,I1,r1,q1⟩ => ?_
 obtain ⟨a,e,⟨xs,hq⟩,q⟩:=q1
 subst e
 cases r1
 obtain ⟨its,rv,p,hz⟩:=I1.tuple hq
 refine wpAny_pyIter_tuple (show s1.heap.IsTuple a its.toArray from p) ?_
 refine ⟨s1.heap.objs.size,[s1.heap.objs.size],_,_,H1,rfl,I1.kept (t':=s1.toks) fun b o e=>A8 _ e,turn_tuple a _,⟨_,Av _ rfl,rfl,rfl⟩,fun b hb => ?_,q⟩
 have e:b=s1.heap.objs.size:=by simpa using hb
 subst e
 exact I1.fpOk (Aa _) (I1.hok.fresh (Aa _))
theorem range_it {pins:List (A3×Obj)} {σ : St} {H:Hp} {s:A4} {R:It->Hp->Prop} {E:A2->A4->Prop} {lo hi:Int} {t u v:Tok} {tk:Nat} (I:Inv X pins σ H s) (h1 : -(2 ^ 62)<=lo) (h2:lo < 2 ^ 62) (h3 : -(2 ^ 62)<=hi) (h4:hi < 2 ^ 62)
  (q:R (Itr lo (hi - lo).toNat) H):wpAny (model X.prog X.w) X.A (pyIter (.ref s.heap.objs.size)) (PIE X pins σ tg R) E { s with heap:=s.heap.push { cls := .type "range",data := .fields #[.int lo t,.int hi u,.int 1 v] },toks:=tk }:=by
 refine P7 (P4 ..) (small_one h1 h2 h3 h4) ?_
 have I1:Inv X pins σ H { s with heap:=s.heap.push { cls := .type "range",data := .fields #[.int lo t,.int hi u,.int 1 v] },toks:=tk }:=I.kept fun b o e=>A8 _ e
 refine ⟨(s.heap.push { cls := .type "range",data := .fields #[.int lo t,.int hi u,.int 1 v] }).objs.size,[(s.heap.push { cls := .type "range",data := .fields #[.int lo t,.int hi u,.int 1 v] }).objs.size],_,_,H,rfl,
  I1.kept (t':=tk) fun b o e=>A8 _ e,turn_range _ lo (hi - lo).toNat,?_,fun b hb => ?_,q⟩
 ·have e1:lo + ((0:Nat):Int) * 1=lo:=by simp
  have e2:(((hi - lo).toNat:Nat):Int) - ((0:Nat):Int)=K9 lo hi 1:=by rw [S0]; split <;> omega
  show Ga _ _ (lo + ((0:Nat):Int) * 1) ((((hi - lo).toNat:Nat):Int) - ((0:Nat):Int)) 1
  rw [e1,e2]
  exact Av _ rfl
 ·have e:b=(s.heap.push { cls := .type "range",data := .fields #[.int lo t,.int hi u,.int 1 v] }).objs.size:=by simpa using hb
  subst e
  exact I1.fpOk (Aa _) (I1.hok.fresh (Aa _))
noncomputable def iRng1 (ta:TA):TI:=fun σ H R=>ta σ H fun vs H1=>∃ j:Int,vs = [.int j] /\ -(2 ^ 62)<=j/\j < 2 ^ 62/\R (Itr 0 j.toNat) H1
theorem za4 {a:Ce} {ta:TA} {p pos:Pos} (hg:Gl X "range") (hm:X.mg "range" = none) (ha:PA X [a] ta) (hs:starEach [a] X.env = [(false,eval a X.env)]:=by rfl):PI X tg (.Call (.Name "range" p) [a] [] pos) (iRng1 ta):=by
 intro pins s σ H R I h
 refine Call_ (zey I hg hm boot_range (G9 (thn (ha pos pins s σ H _ I h) fun us s1 ⟨vs,H1,I1,r1,q1⟩ => ?_) hs rfl))
 obtain ⟨j,e,q1,q2,q⟩:=q1
 subst e
 cases r1 with
 | cons r rr =>
  cases rr
  obtain ⟨t,rfl⟩:=r
  exact Sq (range_it I1 (by omega) (by omega) q1 q2 (by simpa using q))
noncomputable def tFor (wi:TI) (g:TG) (tb:TS):TS:=fun D σ H=>wi σ H fun J H1=>∃ W:Nat->Nat->St->Hp->Prop,(∃ m,W 0 m σ H1)/\∀ i m σ H,W i m σ H ->
 (J.stop i H/\D.nx σ H)\/(J.go i H/\∃ N:St->Hp->Prop,(∀ σ' H',N σ' H'->∃ m',m' < m/\W (i + 1) m' σ' H')/\∀ x H',J.yld i H x H'->g x σ H' fun σ2 H2=>tb { D with nx:=N,ct:=N,bk:=D.nx } σ2 H2)
noncomputable def pinsAt (fp:List A3) (h:Bx):List (A3×Obj):=fp.filterMap fun b=>(h.get? b).map fun o=>(b,o)
theorem zbY {fp:List A3} {h:Bx} {b:A3} {o:Obj} (hb:b∈fp) (e:h.get? b=some o):(b,o)∈pinsAt fp h:=Ez.mpr ⟨b,hb,by rw [e]; rfl⟩
theorem of_pinsAt {fp:List A3} {h:Bx} {p:A3×Obj} (hp:p∈pinsAt fp h):p.1∈fp/\h.get? p.1=some p.2:=by
 obtain ⟨b,hb,e⟩:=Ez.mp hp
 cases q:h.get? b with
 | none=>rw [q] at e; cases e
 | some o =>
  rw [q] at e
  have e':(b,o)=p:=C6 e
  subst e'
  exact ⟨hb,q⟩
theorem Inv.pinned {pins:List (A3×Obj)} {σ : St} {H:Hp} {s:A4} {fp:List A3} (I:Inv X pins σ H s) (hf:∀ b∈fp,FpOk X pins H b) (ho:∀ b∈fp,∃ o,s.heap.get? b=some o/\∀ v,o.data ≠ .cell v):Inv X (pins ++ pinsAt fp s.heap) σ H s :=
 I.pins_of fun p hp=>(Al.mp hp).elim (fun z=>I.pin p (Bo _ z)) fun z=>by
  obtain ⟨hb,e⟩:=of_pinsAt z
  obtain ⟨f0,f1,f2,_⟩:=hf p.1 hb
  obtain ⟨o,e',d⟩:=ho p.1 hb
  rw [e] at e'; cases e'
  exact ⟨e,f0,f1,f2,d⟩
theorem Inv.unpinned {pins pl:List (A3×Obj)} {σ : St} {H:Hp} {s:A4} (I:Inv X (pins ++ pl) σ H s):Inv X pins σ H s:=I.pins_of fun p hp=>I.pin p (Bo _ (Bg _ hp))
theorem za2 {iter:Ce} {body:List Cj} {wi:TI} {g:TG} {tb:TS} {pos:Pos} (hp:Q6 (model X.prog X.w) X.A X.env X.xe) (hc:X.calm=true) (hi:PI X tg iter wi) (hg:PG X tg g) (hb:PSs X body tb)
  (hs:∀ x,foldedSetIterable iter X.env x=pure x:=by intro _; rfl):PS X (.For tg iter body [] pos) (tFor wi g tb):=by
 intro pins s σ H D I h
 refine wpAny_For (thn (hi pins s σ H _ I h) fun v s1 h1=>thn h1 fun itv s2 h2 => ?_) hs
 obtain ⟨it,fp,tn,J,H2,e,I2,T,st2,f2,W,⟨m0,w0⟩,turn⟩:=h2
 subst e
 have stat:∀ {H':Hp},(∀ b∈fp,H' b=none)->∀ b∈fp,FpOk X pins H' b:=fun hn b hb=>⟨hn b hb,(f2 b hb).2⟩
 refine codeAny_forLoop_any (fun n s'=>∃ i σ' H',Inv X pins σ' H' s'/\tn i s'.heap/\(∀ b∈fp,H' b=none)/\W i n σ' H') ?_ m0 ⟨0,σ,H2,I2,st2,fun b hb=>(f2 b hb).1,w0⟩
 rintro n s3 ⟨i,σ3,H3,I3,st3,fr3,w3⟩
 rcases turn i n σ3 H3 w3 with ⟨stop,qn⟩ | ⟨go,N,hN,step⟩
 ·refine Fe hp (thn (T.done X rfl rfl rfl hc i pins s3 σ3 H3 X.xe I3 (stat fr3) st3 stop) fun r s4 ⟨hr,I4⟩ => ?_)
  subst hr
  exact Ha ⟨σ3,H3,I4,qn⟩
 ·refine Fe hp (thn (T.item X rfl rfl rfl hc i pins s3 σ3 H3 X.xe I3 (stat fr3) st3 go) fun r s4 ⟨u,hr,h4⟩ => ?_)
  subst hr
  refine Fe hp (thn h4 fun _ s5 ⟨x,H5,I5,r5,y5,st5,fr5⟩ => ?_)
  have I5':=I5.pinned (stat fr5) (T.obj _ _ st5)
  refine Fe hp (thn (hg _ s5 σ3 H5 x u _ I5' r5 (step x H5 y5)) fun _ s6 ⟨σ6,H6,I6,q6⟩ => ?_)
  refine Fe hp (thn (hb _ s6 σ6 H6 _ I6 q6) fun f s7 q7 => ?_)
  have again:∀ {σ7:St} {H7:Hp},Inv X (pins ++ pinsAt fp s5.heap) σ7 H7 s7->N σ7 H7->∃ m,m < n/\∃ i σ' H',Inv X pins σ' H' s7/\tn i s7.heap/\(∀ b∈fp,H' b=none)/\W i m σ' H':=fun {σ7 H7} I7 n7=>by
   obtain ⟨m',hm,w7⟩:=hN σ7 H7 n7
   refine ⟨m',hm,i + 1,σ7,H7,I7.unpinned,T.keep _ _ _ st5 fun b hb o e=>(I7.pin (b,o) (Bo _ (Bo _ (zbY hb e)))).1,fun b hb => ?_,w7⟩
   obtain ⟨o,e,d⟩:=T.obj _ _ st5 b hb
   exact (I7.pin (b,o) (Bo _ (Bo _ (zbY hb e)))).2.1
  cases f with
  | next=>obtain ⟨σ7,H7,I7,n7⟩:=q7; exact again I7 n7
  | cont=>obtain ⟨σ7,H7,I7,n7⟩:=q7; exact again I7 n7
  | brk=>obtain ⟨σ7,H7,I7,q7⟩:=q7; exact ⟨σ7,H7,I7.unpinned,q7⟩
  | ret v=>obtain ⟨x7,σ7,H7,I7,r7,q7⟩:=q7; exact ⟨x7,σ7,H7,I7.unpinned,r7,q7⟩
end
noncomputable abbrev R2:=V->V->Hp->VK->Prop
noncomputable def OpR (X:Cx) (f:A2->A2->Sem A2) (r:R2):Prop :=
 ∀ (pins:List (A3×Obj)) (s:A4) (σ : St) (H:Hp) (x y:V) (v u:A2) (Q:VK),Inv X pins σ H s->RelV x v->RelV y u->r x y H Q ->
  wpAny (model X.prog X.w) X.A (f v u) (EP X pins σ Q) X.xe s
noncomputable def UnR (X:Cx) (f:A2->Sem A2) (r:V->Hp->VK->Prop):Prop :=
 ∀ (pins:List (A3×Obj)) (s:A4) (σ : St) (H:Hp) (x:V) (v:A2) (Q:VK),Inv X pins σ H s->RelV x v->r x H Q ->
  wpAny (model X.prog X.w) X.A (f v) (EP X pins σ Q) X.xe s
noncomputable def CallR (X:Cx) (f:A2) (r:List V->Hp->VK->Prop):Prop :=
 ∀ (pins:List (A3×Obj)) (s:A4) (σ : St) (H:Hp) (xs:List V) (us:List A2) (Q:VK),Inv X pins σ H s->Vals xs us->r xs H Q ->
  wpAny (model X.prog X.w) X.A (call f us) (EP X pins σ Q) X.xe s
noncomputable def tOp (r:R2) (ta tb:TE):TE:=fun σ H Q=>ta σ H fun x H1=>tb σ H1 fun y H2=>r x y H2 Q
noncomputable def tUn (r:V->Hp->VK->Prop) (ta:TE):TE:=fun σ H Q=>ta σ H fun x H1=>r x H1 Q
noncomputable def rI (C:Int->Int->Prop) (g:Int->Int->V):R2:=fun x y H Q=>∃ i j,x = .int i/\y = .int j/\C i j/\Q (g i j) H
noncomputable def rI0 (g:Int->Int->V):R2:=fun x y H Q=>∃ i j,x = .int i/\y = .int j/\Q (g i j) H
noncomputable def rU (g:Int->V):V->Hp->VK->Prop:=fun x H Q=>∃ i,x = .int i/\Q (g i) H
section
variable {X:Cx} {a b c:Ce} {ta tb tc:TE} {pos:Pos}
theorem binT (ha:PE X a ta) (hb:PE X b tb) {pins:List (A3×Obj)} {s:A4} {σ : St} {H:Hp} {R:V->V->Hp->Prop} (I:Inv X pins σ H s)
  (h:ta σ H fun x H1=>tb σ H1 fun y H2=>R x y H2) {Q:A2->A4->Prop} {f:A2->A2->Sem A2}
  (hf:∀ v u s2 x y H2,Inv X pins σ H2 s2->RelV x v->RelV y u->R x y H2->wpAny (model X.prog X.w) X.A (f v u) Q X.xe s2) :
  wpAny (model X.prog X.w) X.A (eval a X.env) (fun v s₁ => wpAny (model X.prog X.w) X.A (eval b X.env) (fun u s₂ => wpAny (model X.prog X.w) X.A (f v u) Q X.xe s₂) X.xe s₁) X.xe s:=by
 refine thn (ha pins s σ H _ I h) fun v s1 ⟨x,H1,I1,r1,q1⟩ => ?_
 refine thn (hb pins s1 σ H1 _ I1 q1) fun u s2 ⟨y,H2,I2,r2,q2⟩ => ?_
 exact hf v u s2 x y H2 I2 r1 r2 q2
theorem zau {op:Operator} {r:R2} (ho:OpR X (binaryOp op) r) (ha:PE X a ta) (hb:PE X b tb):PE X (.BinOp a op b pos) (tOp r ta tb):=by
 intro pins s σ H Q I h
 exact wpAny_BinOp (binT ha hb I h fun v u s2 x y H2 I2 rx ry q=>ho pins s2 σ H2 x y v u Q I2 rx ry q)
theorem zga {op:UnaryOp} {r:V->Hp->VK->Prop} (ho:UnR X (unaryOp op) r) (ha:PE X a ta):PE X (.UnaryOp op a pos) (tUn r ta):=by
 intro pins s σ H Q I h
 exact UnaryOp_ (thn (ha pins s σ H _ I h) fun v s1 ⟨x,H1,I1,r1,q1⟩=>ho pins s1 σ H1 x v Q I1 r1 q1)
theorem opI {f:A2->A2->Sem A2} {C:Int->Int->Prop} {g:Int->Int->Int}
  (rule:∀ (i j:Int) (t u:Tok) (s:A4) (Q:A2->A4->Prop) (E:A2->A4->Prop),C i j->Q (.int (g i j) s.toks) { s with toks:=s.toks + 1 }->wpAny (model X.prog X.w) X.A (f (.int i t) (.int j u)) Q E s) :
  OpR X f (rI C fun i j => .int (g i j)):=by
 intro pins s σ H x y v u Q I rx ry h
 obtain ⟨i,j,rfl,rfl,hc,q⟩:=h
 obtain ⟨t,rfl⟩:=rx
 obtain ⟨t',rfl⟩:=ry
 exact rule i j t t' s _ _ hc ⟨.int (g i j),H,I.tok _,⟨_,rfl⟩,q⟩
theorem opI0 {f:A2->A2->Sem A2} {g:Int->Int->Int}
  (rule:∀ (i j:Int) (t u:Tok) (s:A4) (Q:A2->A4->Prop) (E:A2->A4->Prop),Q (.int (g i j) s.toks) { s with toks:=s.toks + 1 }->wpAny (model X.prog X.w) X.A (f (.int i t) (.int j u)) Q E s) :
  OpR X f (rI0 fun i j => .int (g i j)):=by
 intro pins s σ H x y v u Q I rx ry h
 obtain ⟨i,j,rfl,rfl,q⟩:=h
 obtain ⟨t,rfl⟩:=rx
 obtain ⟨t',rfl⟩:=ry
 exact rule i j t t' s _ _ ⟨.int (g i j),H,I.tok _,⟨_,rfl⟩,q⟩
theorem opB0 {f:A2->A2->Sem A2} {g:Int->Int->Bool}
  (rule:∀ (i j:Int) (t u:Tok) (s:A4) (Q:A2->A4->Prop) (E:A2->A4->Prop),Q (.bool (g i j)) s->wpAny (model X.prog X.w) X.A (f (.int i t) (.int j u)) Q E s) :
  OpR X f (rI0 fun i j => .bl (g i j)):=by
 intro pins s σ H x y v u Q I rx ry h
 obtain ⟨i,j,rfl,rfl,q⟩:=h
 obtain ⟨t,rfl⟩:=rx
 obtain ⟨t',rfl⟩:=ry
 exact rule i j t t' s _ _ ⟨.bl (g i j),H,I,rfl,q⟩
noncomputable def CDiv (i j:Int):Prop:=0 < j/\j < 1073741824
noncomputable def CMul (i j:Int):Prop:=(-(2 ^ 64) < i/\i < 2 ^ 64)\/(-(2 ^ 64) < j/\j < 2 ^ 64)
theorem CMul.ok {i j:Int} (h:CMul i j):IntMulOk i j:=by
 rcases h with ⟨h1,h2⟩ | ⟨h1,h2⟩
 ·exact .of_left (S1 h1 h2)
 ·exact .of_right (S1 h1 h2)
theorem two_pow_nn (k:Nat):(0:Int)<=2 ^ k:=by
 rw [two_pow_cast]
 exact Int.natCast_nonneg _
theorem zbF:OpR X (binaryOp .Add) (rI0 fun i j => .int (i + j)):=opI0 fun _ _ _ _ _ _ _ q=>add_int q
theorem zc4:OpR X (binaryOp .Sub) (rI0 fun i j => .int (i - j)):=opI0 fun _ _ _ _ _ _ _ q=>sub_int q
theorem zdG:OpR X (binaryOp .Mult) (rI CMul fun i j => .int (i * j)):=opI fun _ _ _ _ _ _ _ hc q=>mul_int q hc.ok
theorem zbs:OpR X (binaryOp .FloorDiv) (rI CDiv fun i j => .int (i / j)):=opI fun i j _ _ _ _ _ hc q=>by
 have h1:(0:Int) < j:=hc.1
 have h2:j < 1073741824:=hc.2
 exact floordiv_int (by omega) (by rw [Ll i (by omega)]; exact q) (.inl (PyProof.noPylong_small (by omega)))
theorem za8:OpR X (binaryOp .Mod) (rI (fun _ j=>0 < j) fun i j => .int (i % j)):=opI fun i j _ _ _ _ _ hc q=>by
 have h1:(0:Int) < j:=hc
 exact mod_int' (by omega) (by rw [Int.fmod_eq_emod_of_nonneg i (by omega)]; exact q)
theorem op_shr:OpR X (binaryOp .RShift) (rI (fun _ j=>0<=j) fun i j => .int (i / 2 ^ j.toNat)):=opI fun i j _ _ _ _ _ hc q =>
 rshift_int hc (by rw [Ll i (two_pow_nn _)]; exact q)
theorem zgX:OpR X (binaryOp .BitAnd) (rI0 fun i j => .int (Dx i j)):=opI0 fun _ _ _ _ _ _ _ q=>and_int q
theorem unI {f:A2->Sem A2} {g:Int->Int}
  (rule:∀ (i:Int) (t:Tok) (s:A4) (Q:A2->A4->Prop) (E:A2->A4->Prop),Q (.int (g i) s.toks) { s with toks:=s.toks + 1 }->wpAny (model X.prog X.w) X.A (f (.int i t)) Q E s) :
  UnR X f (rU fun i => .int (g i)):=by
 intro pins s σ H x v Q I rx h
 obtain ⟨i,rfl,q⟩:=h
 obtain ⟨t,rfl⟩:=rx
 exact rule i t s _ _ ⟨.int (g i),H,I.tok _,⟨_,rfl⟩,q⟩
theorem zeh:UnR X (unaryOp .USub) (rU fun i => .int (-i)):=unI fun _ _ _ _ _ q=>neg_int q
end
noncomputable def scal:V->V->Bool
 | .non,.non=>true | .non,.int _=>true | .int _,.non=>true | .non,.bl _=>true | .bl _,.non=>true | .non,.str _=>true | .str _,.non=>true
 | .int _,.int _=>true | .bl _,.bl _=>true | .str _,.str _=>true | .byt _,.byt _=>true
 | .int _,.str _=>true | .str _,.int _=>true | .bl _,.str _=>true | .str _,.bl _=>true
 | _,_=>false
noncomputable def rEq:R2:=fun x y H Q=>scal x y=true/\Q (.bl (decide (x=y))) H
noncomputable def rNe:R2:=fun x y H Q=>scal x y=true/\Q (.bl (!decide (x=y))) H
theorem zgA {i j:Int}:decide (V.int i=V.int j)=(i == j):=by
 rw [Bq]
 simp
theorem zg7 {i j:Bool}:decide (V.bl i=V.bl j)=(i == j):=by
 rw [Bq]
 simp
theorem zgz {i j:Str}:decide (V.str i=V.str j)=(i == j):=by
 rw [Bq]
 simp
theorem zgB {i j:Array UInt8}:decide (V.byt i=V.byt j)=(i.toList == j.toList):=by
 rw [Bq]
 cases i
 cases j
 simp
section
variable {X:Cx} {a b c:Ce} {ta tb tc:TE} {pos:Pos}
theorem zaF {pins:List (A3×Obj)} {σ : St} {H:Hp} {s:A4} {Q:VK} {k k':Bool} (I:Inv X pins σ H s) (q:Q (.bl k) H) (e:k=k'):EP X pins σ Q (.bool k') s:=by
 subst e
 exact ⟨.bl k,H,I,rfl,q⟩
theorem zck:OpR X (compareOp .Eq) rEq:=by
 intro pins s σ H x y v u Q I rx ry h
 obtain ⟨hs,q⟩:=h
 cases x with
 | non =>
  cases rx
  cases y with
  | non=>cases ry; exact Qw (zaF I q (by simp))
  | bl j=>cases ry; exact Qy (zaF I q (by simp))
  | int j=>obtain ⟨t',rfl⟩:=ry; exact Qx (zaF I q (by simp))
  | str j=>obtain ⟨t',rfl⟩:=ry; exact Qv (zaF I q (by simp))
  | _=>exact absurd (show false=true from hs) A9
 | bl i =>
  cases rx
  cases y with
  | non=>cases ry; exact Ra (zaF I q (by simp))
  | bl j=>cases ry; exact eq_bool (zaF I q zg7)
  | str j=>obtain ⟨t',rfl⟩:=ry; exact Q5 (zaF I q (by simp))
  | _=>exact absurd (show false=true from hs) A9
 | int i =>
  obtain ⟨t,rfl⟩:=rx
  cases y with
  | non=>cases ry; exact Qz (zaF I q (by simp))
  | int j=>obtain ⟨t',rfl⟩:=ry; exact eq_int (zaF I q zgA)
  | str j=>obtain ⟨t',rfl⟩:=ry; exact Q4 (zaF I q (by simp))
  | _=>exact absurd (show false=true from hs) A9
 | str i =>
  obtain ⟨t,rfl⟩:=rx
  cases y with
  | non=>cases ry; exact Qu (zaF I q (by simp))
  | bl j=>cases ry; exact Q3 (zaF I q (by simp))
  | int j=>obtain ⟨t',rfl⟩:=ry; exact Q2 (zaF I q (by simp))
  | str j=>obtain ⟨t',rfl⟩:=ry; exact eq_str (zaF I q zgz)
  | _=>exact absurd (show false=true from hs) A9
 | byt i =>
  obtain ⟨t,rfl⟩:=rx
  cases y with
  | byt j=>obtain ⟨t',rfl⟩:=ry; exact PySem.W.eq_bytes (zaF I q zgB)
  | _=>exact absurd (show false=true from hs) A9
 | _=>cases y <;> exact absurd (show false=true from hs) A9
theorem zer:OpR X (compareOp .NotEq) rNe:=by
 intro pins s σ H x y v u Q I rx ry h
 obtain ⟨hs,q⟩:=h
 cases x with
 | non =>
  cases rx
  cases y with
  | non=>cases ry; exact Qp (zaF I q (by simp))
  | bl j=>cases ry; exact Qr (zaF I q (by simp))
  | int j=>obtain ⟨t',rfl⟩:=ry; exact Qq (zaF I q (by simp))
  | str j=>obtain ⟨t',rfl⟩:=ry; exact Qo (zaF I q (by simp))
  | _=>exact absurd (show false=true from hs) A9
 | bl i =>
  cases rx
  cases y with
  | non=>cases ry; exact Qt (zaF I q (by simp))
  | bl j=>cases ry; exact ne_bool (zaF I q (congrArg not zg7))
  | str j=>obtain ⟨t',rfl⟩:=ry; exact Q1 (zaF I q (by simp))
  | _=>exact absurd (show false=true from hs) A9
 | int i =>
  obtain ⟨t,rfl⟩:=rx
  cases y with
  | non=>cases ry; exact Qs (zaF I q (by simp))
  | int j=>obtain ⟨t',rfl⟩:=ry; exact ne_int (zaF I q (congrArg not zgA))
  | str j=>obtain ⟨t',rfl⟩:=ry; exact Q0 (zaF I q (by simp))
  | _=>exact absurd (show false=true from hs) A9
 | str i =>
  obtain ⟨t,rfl⟩:=rx
  cases y with
  | non=>cases ry; exact Qn (zaF I q (by simp))
  | bl j=>cases ry; exact Pz (zaF I q (by simp))
  | int j=>obtain ⟨t',rfl⟩:=ry; exact Py (zaF I q (by simp))
  | str j=>obtain ⟨t',rfl⟩:=ry; exact ne_str (zaF I q (congrArg not zgz))
  | _=>exact absurd (show false=true from hs) A9
 | byt i =>
  obtain ⟨t,rfl⟩:=rx
  cases y with
  | byt j=>obtain ⟨t',rfl⟩:=ry; exact PySem.W.ne_bytes (zaF I q (congrArg not zgB))
  | _=>exact absurd (show false=true from hs) A9
 | _=>cases y <;> exact absurd (show false=true from hs) A9
theorem zhk:OpR X (compareOp .Lt) (rI0 fun i j => .bl (decide (i < j))):=opB0 fun _ _ _ _ _ _ _ q=>lt_int q
theorem zet:OpR X (compareOp .LtE) (rI0 fun i j => .bl (decide (i<=j))):=opB0 fun _ _ _ _ _ _ _ q=>le_int q
theorem zgL:OpR X (compareOp .Gt) (rI0 fun i j => .bl (decide (j < i))):=opB0 fun _ _ _ _ _ _ _ q=>gt_int q
theorem zhf:OpR X (compareOp .GtE) (rI0 fun i j => .bl (decide (j<=i))):=opB0 fun _ _ _ _ _ _ _ q=>ge_int q
theorem op_notN:OpR X (compareOp .IsNot) (fun x y H Q=>y = .non/\Q (.bl (!decide (x = .non))) H):=by
 intro pins s σ H x y v u Q I rx ry h
 obtain ⟨rfl,q⟩:=h
 cases ry
 refine isnot_none_gen (zaF I q ?_)
 cases x <;> first
  | (cases rx; rfl)
  | (obtain ⟨t,rfl⟩:=rx; rfl)
theorem zax (b:Ce) {op:Np} (h:op ≠ .In:=by decide) (h2:op ≠ .NotIn:=by decide):behindInMarks op b=false:=by
 have e1:(op == CmpOp.In)=false:=by cases op <;> first | rfl | exact absurd rfl h
 have e2:(op == CmpOp.NotIn)=false:=by cases op <;> first | rfl | exact absurd rfl h2
 cases b <;> simp [behindInMarks,e1,e2]
theorem zc2 {op:Np} {r:R2} (ho:OpR X (compareOp op) r) (ha:PE X a ta) (hb:PE X b tb) (hm:behindInMarks op b=false):PE X (.Compare a [op] [b] pos) (tOp r ta tb):=by
 intro pins s σ H Q I h
 exact Ro (binT ha hb I h fun v u s2 x y H2 I2 rx ry q=>ho pins s2 σ H2 x y v u Q I2 rx ry q) hm
noncomputable def tTest (t:TE):TT:=fun σ H Q=>t σ H fun x H'=>∃ k,x = .bl k/\Q k H'
theorem zas {op:Np} {r:R2} (ho:OpR X (compareOp op) r) (ha:PE X a ta) (hb:PE X b tb) (hm:behindInMarks op b=false):PT X (.Compare a [op] [b] pos) (tTest (tOp r ta tb)):=by
 intro pins s σ H Q I h
 refine Od (thn (ha pins s σ H _ I h) fun v s1 ⟨x,H1,I1,r1,q1⟩=>thn (hb pins s1 σ H1 _ I1 q1) fun u s2 ⟨y,H2,I2,r2,q2⟩ =>
  thn (ho pins s2 σ H2 x y v u _ I2 r1 r2 q2) fun c s3 ⟨z,H3,I3,r3,k,e,q3⟩ => ?_) hm
 subst e
 cases r3
 exact Cu ⟨H3,I3,q3⟩
noncomputable def tChain (r r':R2) (ta tb tc:TE):TE:=fun σ H Q=>ta σ H fun x H1=>tb σ H1 fun y H2=>r x y H2 fun z H3=>∃ k,z = .bl k /\
 (if k=true then tc σ H3 fun w' H4=>r' y w' H4 Q else Q (.bl false) H3)
theorem zfu {op op':Np} {r r':R2} (ho:OpR X (compareOp op) r) (ho':OpR X (compareOp op') r') (ha:PE X a ta) (hb:PE X b tb) (hc:PE X c tc)
  (hm:lastMarks [op,op'] [b,c]=false:=by with_unfolding_all rfl):PE X (.Compare a [op,op'] [b,c] pos) (tChain r r' ta tb tc):=by
 intro pins s σ H Q I h
 refine Compare_chain (thn (ha pins s σ H _ I h) fun v s1 ⟨x,H1,I1,r1,q1⟩=>chain_link (thn (hb pins s1 σ H1 _ I1 q1) fun u s2 ⟨y,H2,I2,r2,q2⟩ =>
  thn (ho pins s2 σ H2 x y v u _ I2 r1 r2 q2) fun d s3 ⟨z,H3,I3,r3,k,e,q3⟩ => ?_)) hm
 subst e
 cases r3
 refine Cu ?_
 cases k with
 | false=>exact ite_ff ⟨.bl false,H3,I3,rfl,q3⟩
 | true=>exact ite_tt (chain_last (thn (hc pins s3 σ H3 _ I3 q3) fun w' s4 ⟨z',H4,I4,r4,q4⟩=>ho' pins s4 σ H4 y z' u w' Q I4 r2 r4 q4))
theorem zdW {op op':Np} {r r':R2} (ho:OpR X (compareOp op) r) (ho':OpR X (compareOp op') r') (ha:PE X a ta) (hb:PE X b tb) (hc:PE X c tc)
  (hm:lastMarks [op,op'] [b,c]=false:=by with_unfolding_all rfl):PT X (.Compare a [op,op'] [b,c] pos) (tTest (tChain r r' ta tb tc)):=by
 intro pins s σ H Q I h
 refine isTrue_chain (thn (ha pins s σ H _ I h) fun v s1 ⟨x,H1,I1,r1,q1⟩=>test_link (thn (hb pins s1 σ H1 _ I1 q1) fun u s2 ⟨y,H2,I2,r2,q2⟩ =>
  thn (ho pins s2 σ H2 x y v u _ I2 r1 r2 q2) fun d s3 ⟨z,H3,I3,r3,k,e,q3⟩ => ?_)) hm
 subst e
 cases r3
 refine Cu ?_
 cases k with
 | false =>
  obtain ⟨k',e',q'⟩:=q3
  cases e'
  exact ite_ff ⟨H3,I3,q'⟩
 | true =>
  refine ite_tt (test_last (thn (hc pins s3 σ H3 _ I3 q3) fun w' s4 ⟨z',H4,I4,r4,q4⟩=>thn (ho' pins s4 σ H4 y z' u w' _ I4 r2 r4 q4) fun d' s5 ⟨z2,H5,I5,r5,k2,e2,q5⟩ => ?_))
  subst e2
  cases r5
  exact Cu ⟨H5,I5,q5⟩
theorem zdH:(sizeLine:Nat) < 2 ^ 63:=by rw [Oo]; decide
theorem op_add_str:OpR X (binaryOp .Add) (fun x y H Q=>∃ i j,x = .str i/\y = .str j/\i.length + j.length<=sizeLine/\Q (.str (i ++ j)) H):=by
 intro pins s σ H x y v u Q I rx ry h
 obtain ⟨i,j,rfl,rfl,hz,q⟩:=h
 obtain ⟨t,rfl⟩:=rx
 obtain ⟨t',rfl⟩:=ry
 exact add_str (fun t' tk=>⟨.str (i ++ j),H,I.tok _,⟨_,rfl⟩,q⟩) hz
theorem zb1 {x:V} {us:List A2} (r:Vals [x] us):∃ u,us = [u]/\RelV x u:=by
 cases r with
 | cons r1 r2=>cases r2; exact ⟨_,rfl,r1⟩
theorem zhb {x y:V} {us:List A2} (r:Vals [x,y] us):∃ u w',us = [u,w']/\RelV x u/\RelV y w':=by
 cases r with
 | cons r1 r2 =>
  cases r2 with
  | cons r3 r4=>cases r4; exact ⟨_,_,rfl,r1,r3⟩
theorem call_min2 (hc:X.calm=true):CallR X (.builtin "min") (fun xs H Q=>∃ i j,xs = [.int i,.int j]/\Q (.int (if j < i then j else i)) H):=by
 intro pins s σ H xs us Q I r h
 obtain ⟨i,j,rfl,q⟩:=h
 obtain ⟨u,w',rfl,⟨t,rfl⟩,⟨t',rfl⟩⟩:=zhb r
 refine min_two_ints (I.ok.hd hc) fun h' tk k=>⟨_,H,I.kept k,?_,q⟩
 by_cases hj:j < i
 ·rw [if_pos hj,if_pos hj]; exact ⟨_,rfl⟩
 ·rw [if_neg hj,if_neg hj]; exact ⟨_,rfl⟩
end
structure ObjM (h:Bx) (x dx C:A3) (mA:Str->Option A2):Prop where
 obj:h.get? x=some (Ei C dx)
 ns:h.Ns1 dx mA
 ne:dx≠x
theorem lookIn_ns {h:Bx} {dx:A3} {mA:Str->Option A2} (n:h.Ns1 dx mA):∃ od,h.get? dx=some od/\∀ name,Ir name od=some (mA name):=by
 obtain ⟨o,es,ep,ho,hd,hk,_,hm⟩:=n
 refine ⟨o,ho,fun name => ?_⟩
 have e:=hm name
 unfold nsFind findBy at e
 rw [<- Array.find?_toList] at e
 unfold Ir
 rw [hd]
 dsimp only
 split
 ·rename_i y q
  rw [q] at e
  exact congrArg some e
 ·rename_i q
  rw [q] at e
  have a:es.toList.any (·.refKey)=false:=by
   rw [O8]
   intro y hy
   obtain ⟨z,t,hkey⟩:=hk y (Array.mem_toList_iff.mp hy)
   simp [Sw,hkey]
  have a':¬ es.toList.any (·.refKey)=true:=by rw [a]; exact A9
  rw [if_neg a']
  exact congrArg some e
theorem ObjM.look {h:Bx} {x dx C:A3} {mA:Str->Option A2} (I:ObjM h x dx C mA):∃ od,Fc h x (Ei C dx) C (some od)/\∀ name,Ir name od=some (mA name) :=
 let ⟨od,ho,hl⟩:=lookIn_ns I.ns
 ⟨od,⟨I.obj,rfl,rfl,ho⟩,hl⟩
section
variable {prog:Ap} {w:Bb} {A:B7} {E:A2->A4->Prop} {s:A4} {K:Am} {x dx C f:A3} {mA:Str->Option A2} {name:Str} {v:A2}
theorem get_map {expr:Bool} {Q:A2->A4->Prop} (X:K.In s.heap) (I:ObjM s.heap x dx C mA) (hg:G3 K C name=true) (hh:Gw K C=true)
  (ha:Bw K (.ref C) name=some none) (hv:mA name=some v) (hv':Nd v=true) (h:Q v { s with toks:=s.toks + 1 }) :
  wpAny (model prog w) A (getAttr (.ref x) name expr) Q E s:=by
 obtain ⟨od,J,hl⟩:=I.look
 exact PySem.W.get_value X J (Iz hg).1 (PySem.W.findObj_own hh ha rfl (by rw [hl,hv])) hv' h
theorem get_meth {pl:Sem Bool} {Q:A2×List A2->A4->Prop} (X:K.In s.heap) (I:ObjM s.heap x dx C mA) (hg:G3 K C name=true)
  (hf:Bw K (.ref C) name=some (some (.ref f))) (ht:Hs K (.ref f)=true) (hv:mA name=none) (h:Q (.ref f,[.ref x]) s) :
  wpAny (model prog w) A (getMethod (.ref x) name pl) Q E s:=by
 obtain ⟨od,J,hl⟩:=I.look
 exact PySem.W.method_fn X J (Iz hg).1 (Iz hg).2 hf (beq_iff_eq.mp ht) (by show (Ir name od).map (·.isSome)=some false; rw [hl,hv]; rfl) h
theorem set_map {ns:List Str} {Q:Unit->A4->Prop} (X:K.In s.heap) (I:ObjM s.heap x dx C mA)
  (hs:Bw K (.ref C) "__setattr__" = some (some (.builtin "object.__setattr__"))) (hp:Jr K C=true) (ht:Ke K C name=some none) (hh:Gw K C=true)
  (hw:M2 mA ns) (hsz:ns.length<=sizeLine)
  (h:∀ h',ObjM h' x dx C (fun y=>if y=name then some v else mA y)->Fk dx s.heap h'->Q () { s with heap:=h',toks:=s.toks + 2 }) :
  wpAny (model prog w) A (setAttr (.ref x) name v) Q E s:=by
 obtain ⟨od,J,hl⟩:=I.look
 refine PySem.W.set_plain X J hs (PySem.W.osa_open (s:={ s with toks:=s.toks + 1 }) (r:=none) X J hp ht fun b => ?_)
 obtain ⟨cd,hc,hd'⟩:=PySem.W.any_some hh
 have hx:s.heap.get? x=some ⟨.ref C,some dx,.plain,#[]⟩:=I.obj
 refine A1 (Ad (A1 (A1 (Rm hx (A1 (Px (s:={ s with toks:=s.toks + 1 }) (PySem.W.looks_clsIn X hc) ?_))))))
 rw [hd']
 refine Ad (a:=some dx) (A1 (Ad (A1 ?_)))
 refine wpAny_nsSet1 (s:={ s with toks:=s.toks + 1 }) I.ns fun h' hn2 hs2 => ?_
 obtain ⟨oD,esD,epD,hoD,hdD,hcD⟩:=hn2.count (Qm name v hw)
 refine A1 (wpAny_lookBehind hoD (by rw [hdD]; exact pastItsLine_dict (C5 hcD (by rw [Aw]; omega))) ?_)
 exact Ad (h _ ⟨(hs2.2 _ (E7 I.ne)).trans I.obj,hn2,I.ne⟩ hs2)
theorem make_map {R:Ru->A4->Prop} {vs:List A2} {kw:List (Str×A2)} (X:K.In s.heap) (hm:Kf K C=true)
  (hi:Bw K (.ref C) "__init__" = some (some (.ref f))) (hf:O0 K (.ref f)=some (.type "function"))
  (h:codeAny (model prog w) (A.under (.builtin "type.__call__" ⟨.ref C :: vs,kw⟩)) (.call (.ref f) ⟨.ref (s.heap.objs.size + 1) :: vs,kw⟩) (PySem.W.InitBack (s.heap.objs.size + 1) R)
   { s with heap:=(s.heap.push Dr).push (Ei C s.heap.objs.size) }) :
  codeAny (model prog w) A (.call (.ref C) ⟨vs,kw⟩) R s:=by
 obtain ⟨hh,g,d,t,os⟩:=s
 exact PySem.W.make_core (PySem.W.makes_of X hm) (Iq X hi) (fun self=>PySem.W.bind_fn X self hf) (.inl rfl) h
end
noncomputable def putF (f:Str) (v:V):List (Str×V)->List (Str×V)
 | [] => [(f,v)]
 | (g,x) :: r=>if g=f then (g,v) :: r else (g,x) :: putF f v r
theorem zc9 (f g:Str) (v:V):∀ fs:List (Str×V),(putF f v fs).lookup g=if g=f then some v else fs.lookup g
 | []=>by
  show Fi g [(f,v)]=_
  by_cases h:g=f
  ·have hb:(g == f)=true:=beq_iff_eq.mpr h
   simp only [Fi,hb,if_pos h]
  ·have hb:(g == f)=false:=beq_eq_false_iff_ne.mpr h
   simp only [Fi,hb,if_neg h]
 | (k,x) :: r=>by
  have ih:=zc9 f g v r
  rw [show putF f v ((k,x) :: r)=(if k=f then (k,v) :: r else (k,x) :: putF f v r) from rfl]
  by_cases hk:k=f
  ·rw [if_pos hk]
   by_cases h:g=k
   ·have hb:(g == k)=true:=beq_iff_eq.mpr h
    simp only [Fi,hb,if_pos (h.trans hk)]
   ·have hb:(g == k)=false:=beq_eq_false_iff_ne.mpr h
    simp only [Fi,hb,if_neg (fun e:g=f=>h (e.trans hk.symm))]
  ·rw [if_neg hk]
   by_cases h:g=k
   ·have hb:(g == k)=true:=beq_iff_eq.mpr h
    simp only [Fi,hb,if_neg (fun e:g=f=>hk (h.symm.trans e))]
   ·have hb:(g == k)=false:=beq_eq_false_iff_ne.mpr h
    simp only [Fi,hb]
    exact ih
theorem zde (f:Str) (v:V):∀ fs:List (Str×V),f∈(putF f v fs).map (·.1)/\∀ g,g∈fs.map (·.1)->g∈(putF f v fs).map (·.1)
 | []=>⟨by simp [putF],fun g h=>by simp at h⟩
 | (k,x) :: r=>by
  obtain ⟨i1,i2⟩:=zde f v r
  rw [show putF f v ((k,x) :: r)=(if k=f then (k,v) :: r else (k,x) :: putF f v r) from rfl]
  by_cases hk:k=f
  ·rw [if_pos hk]
   subst hk
   exact ⟨by simp,fun g h=>by simpa using h⟩
  ·rw [if_neg hk]
   refine ⟨?_,fun g h => ?_⟩
   ·rw [Aq]
    exact Ac _ i1
   ·rw [Aq] at h ⊢
    rcases Bf.mp h with e | e
    ·exact Bf.mpr (.inl e)
    ·exact Ac _ (i2 g e)
theorem zdb (f:Str) (v:V):∀ fs:List (Str×V),(putF f v fs).length<=fs.length + 1
 | []=>by simp [putF]
 | (k,x) :: r=>by
  have ih:=zdb f v r
  rw [show putF f v ((k,x) :: r)=(if k=f then (k,v) :: r else (k,x) :: putF f v r) from rfl]
  by_cases hk:k=f
  ·rw [if_pos hk,Aw,Aw]; omega
  ·rw [if_neg hk,Aw,Aw]; omega
theorem RelO.some_of {v:V} {o:Option A2} (r:RelO (some v) o):∃ u,o=some u/\RelV v u:=by
 cases o with
 | none=>exact (show False from r).elim
 | some u=>exact ⟨u,rfl,r⟩
theorem RelO.none_of {o:Option A2} (r:RelO none o):o=none:=by
 cases o with
 | none=>rfl
 | some u=>exact (show False from r).elim
theorem handed_of {v:V} {u:A2} (r:RelV v u):Nd u=true:=by
 cases v with
 | non=>cases (show u=Ct from r); rfl
 | bl b=>cases (show u=Ie b from r); rfl
 | int i=>obtain ⟨t,e⟩:=(show ∃ t,u=Hr i t from r); cases e; rfl
 | str x=>obtain ⟨t,e⟩:=(show ∃ t,u=Kc x t from r); cases e; rfl
 | byt b=>obtain ⟨t,e⟩:=(show ∃ t,u=Po b t from r); cases e; rfl
 | flt b=>obtain ⟨t,e⟩:=(show ∃ t,u=Mq b t from r); cases e; rfl
 | ref a=>cases (show u=B1 a from r); rfl
 | ty n=>cases (show u=Ex n from r); rfl
section
variable {P:Ap} {w:Bb} {H H':Hp} {h h':Bx} {a C dx:A3} {fs fs':List (Str×V)}
theorem zd4 (hok:HOk P w H h) (e:H a=some (.ins C dx fs)):∃ mA,ObjM h a dx C mA/\(∀ f,RelO (fs.lookup f) (mA f))/\M2 mA (fs.map (·.1))/\fs.length<=1000/\H dx=some (.own a):=by
 obtain ⟨d,z,ne,ob,mA,n,r,q⟩:=(show ObjOk P w H h a (.ins C dx fs) from hok a _ e)
 exact ⟨mA,⟨ob,n,ne⟩,r,q,z,d⟩
end
structure Cls (K:Am) (C:A3):Prop where
 pg:G3 K C S5=true
 hd:Gw K C=true
 po:Jr K C=true
 sa:Bw K (.ref C) "__setattr__" = some (some (.builtin "object.__setattr__"))
theorem Cls.get {K:Am} {C:A3} (c:Cls K C) (f:Str):G3 K C f=true:=c.pg
noncomputable def NoAttr (K:Am) (C:A3) (f:Str):Prop:=Bw K (.ref C) f=some none
theorem NoAttr.taker {K:Am} {C:A3} {f:Str} (n:NoAttr K C f):Ke K C f=some none:=by
 unfold Ke
 rw [show Bw K (.ref C) f=some none from n]
 rfl
structure Meth (K:Am) (C:A3) (m:Str) (f:A3):Prop where
 at_:Bw K (.ref C) m=some (some (.ref f))
 fn:Hs K (.ref f)=true
 kp:D8 K (.ref f)=true
section
variable {X:Cx} {pins:List (A3×Obj)} {σ : St} {H:Hp} {s:A4} {a C dx:A3} {fs:List (Str×V)} {f:Str} {v:V} {A:B7} {E:A2->A4->Prop}
theorem getattr_ok {b:Bool} {Q:A2->A4->Prop} (I:Inv X pins σ H s) (e:H a=some (.ins C dx fs)) (c:Cls X.K C) (n:NoAttr X.K C f) (l:fs.lookup f=some v)
  (h:∀ u s',Inv X pins σ H s'->RelV v u->Q u s'):wpAny (model X.prog X.w) A (getAttr (.ref a) f b) Q E s:=by
 obtain ⟨mA,O,r,_,_,_⟩:=zd4 I.hok e
 obtain ⟨u,hu,ru⟩:=RelO.some_of (v:=v) (o:=mA f) (by rw [<- l]; exact r f)
 exact get_map I.kIn O (c.get f) c.hd n hu (handed_of ru) (h u _ (I.tok _) ru)
theorem zdM {m:Str} {g:A3} {pl:Sem Bool} {Q:A2×List A2->A4->Prop} (I:Inv X pins σ H s) (e:H a=some (.ins C dx fs)) (c:Cls X.K C) (k:Meth X.K C m g) (l:fs.lookup m=none)
  (h:Q (.ref g,[.ref a]) s):wpAny (model X.prog X.w) A (getMethod (.ref a) m pl) Q E s:=by
 obtain ⟨mA,O,r,_,_,_⟩:=zd4 I.hok e
 have hn:mA m=none:=RelO.none_of (by rw [<- l]; exact r m)
 exact get_meth I.kIn O (c.get m) k.at_ k.fn hn h
theorem setattr_ok {y:V} {u:A2} {Q:Unit->A4->Prop} (I:Inv X pins σ H s) (e:H a=some (.ins C dx fs)) (c:Cls X.K C) (n:NoAttr X.K C f) (hl:fs.length < 1000) (ry:RelV y u)
  (h:∀ s',Inv X pins σ (upd H a (.ins C dx (putF f y fs))) s'->Q () s'):wpAny (model X.prog X.w) A (setAttr (.ref a) f u) Q E s:=by
 obtain ⟨mA,O,r,wi,_,ho⟩:=zd4 I.hok e
 have hz:(fs.map (·.1)).length<=sizeLine:=by rw [A5,Oo]; omega
 refine set_map I.kIn O c.sa c.po n.taker c.hd wi hz fun h' O' sb=>h _ ?_
 have hd:∃ o,h'.get? dx=some o:=let ⟨o,_,_,e',_⟩:=O'.ns; ⟨o,e'⟩
 refine I.write (x:=a) (e:=dx) (by rw [e]; exact Eg) (.inr ho) (fun b q hb z=>(sb.2 b hb).trans z) hd ?_
 refine ⟨by rw [zaf O.ne]; exact ho,?_,O.ne,O'.obj,_,O'.ns,fun g => ?_,fun g hg => ?_⟩
 ·have:=zdb f y fs; omega
 ·show RelO ((putF f y fs).lookup g) (if g=f then some u else mA g)
  rw [zc9]
  by_cases q:g=f
  ·rw [if_pos q,if_pos q]; exact ry
  ·rw [if_neg q,if_neg q]; exact r g
 ·by_cases q:g=f
  ·rw [q]; exact (zde f y fs).1
  ·refine (zde f y fs).2 g (wi g fun z=>hg ?_)
   show (if g=f then some u else mA g)=none
   rw [if_neg q]; exact z
theorem Inv.made (I:Inv X pins σ H s):Inv X pins σ (upd (upd H s.heap.objs.size (.own (s.heap.objs.size + 1))) (s.heap.objs.size + 1) (.ins C s.heap.objs.size []))
  { s with heap:=(s.heap.push Dr).push (Ei C s.heap.objs.size) }:=by
 have e1:(s.heap.push Dr).get? s.heap.objs.size=some Dr:=Av s.heap rfl
 have e2:((s.heap.push Dr).push (Ei C s.heap.objs.size)).get? (s.heap.objs.size + 1)=some (Ei C s.heap.objs.size):=by
  have:=Av (s.heap.push Dr) (o:=Ei C s.heap.objs.size) rfl
  rwa [Eu] at this
 have e3:(s.heap.push Dr).Ns s.heap.objs.size (fun _=>none):=⟨Dr,#[],_,e1,rfl,(fun e he=>absurd he (by simp)),fun _=>rfl⟩
 have I1:=I.laid (a:=s.heap.objs.size) (o := .own (s.heap.objs.size + 1)) (h':=s.heap.push Dr) (t':=s.toks) (fun b u q=>A8 _ q) (Aa _) ⟨_,e1⟩
 refine I1.laid (a:=s.heap.objs.size + 1) (o := .ins C s.heap.objs.size []) (t':=s.toks) (fun b u q=>A8 _ q) (Qa (Eu _ _)) ?_
 have ne:s.heap.objs.size≠s.heap.objs.size + 1:=B8 (Ew _)
 refine ⟨by rw [zaf ne,zab],By _,ne,e2,fun _=>none,(Heap.Ns1.of_empty e3).at fun o q=>A8 _ q,fun _=>Eg,fun y hy=>absurd rfl hy⟩
theorem attr_of {prog:Ap} {w:Bb} {env:Env} {e:Ce} {f:Str} {pos:Pos} {s:A4} {Q:A2->A4->Prop} (hb:attributeBase e f env (eval e env)=eval e env)
  (h:wpAny (model prog w) A (eval e env) (fun o s₁ => wpAny (model prog w) A (getAttr o f true) Q E s₁) E s):wpAny (model prog w) A (eval (.Attribute e f pos) env) Q E s :=
 Attribute_any_ h (by rw [arm_eval_Attribute,hb])
end
noncomputable def tFld (K:Am) (ta:TE) (f:Str):TE:=fun σ H Q=>ta σ H fun x H1=>∃ a C dx fs v,x = .ref a/\H1 a=some (.ins C dx fs)/\Cls K C/\NoAttr K C f/\fs.lookup f=some v/\Q v H1
noncomputable def sFld (K:Am) (ta tv:TE) (f:Str):TS:=fun D σ H=>tv σ H fun y H1=>ta σ H1 fun x H2=>∃ a C dx fs,x = .ref a/\H2 a=some (.ins C dx fs)/\Cls K C/\NoAttr K C f/\fs.length < 1000 /\
 D.nx σ (upd H2 a (.ins C dx (putF f y fs)))
section
variable {X:Cx} {o e value:Ce} {f:Str} {pos pos' tpos:Pos} {ta tv:TE}
theorem zbR (he:PE X e ta) (hb:attributeBase e f X.env (eval e X.env)=eval e X.env):PE X (.Attribute e f pos) (tFld X.K ta f):=by
 intro pins s σ H Q I h
 refine attr_of hb (thn (he pins s σ H _ I h) fun u s1 ⟨x,H1,I1,rx,a,C,dx,fs,v,ex,ea,c,n,l,q⟩ => ?_)
 subst ex
 obtain rfl:u=B1 a:=rx
 exact getattr_ok I1 ea c n l fun u' s2 I2 ru=>⟨v,H1,I2,ru,q⟩
theorem zf7 (ha:PE X o ta) (hv:PE X value tv) (hs:swapsWith value (some (.Attribute o f pos')) pos.line X.env=pure false):PS X (.Assign [.Attribute o f pos'] value pos) (sFld X.K ta tv f):=by
 intro pins s σ H D I h
 refine plainObj_wpAny_Assign_Attribute (thn (hv pins s σ H _ I h) fun u s1 ⟨y,H1,I1,ry,q⟩=>thn (ha pins s1 σ H1 _ I1 q) fun ov s2 ⟨x,H2,I2,rx,a,C,dx,fs,ex,ea,c,n,l,q2⟩ => ?_) hs
 subst ex
 obtain rfl:ov=B1 a:=rx
 exact setattr_ok I2 ea c n l ry fun s3 I3=>⟨σ,_,I3,q2⟩
end
section
variable {X:Cx} {pins:List (A3×Obj)} {σ : St} {H:Hp} {s:A4} {A:B7} {E:A2->A4->Prop} {Q:A2->A4->Prop} {c:A2} {b:Bool}
inductive TyOf (K:Am) (H:Hp):V->A2->Prop where
 | non:TyOf K H .non (.type "NoneType")
 | bl (x:Bool):TyOf K H (.bl x) (.type "bool")
 | int (i:Int):TyOf K H (.int i) (.type "int")
 | str (x:Str):TyOf K H (.str x) (.type "str")
 | flt (x:UInt64):TyOf K H (.flt x) (.type "float")
 | lst {a:A3} {xs:List V} (e:H a=some (.lst xs)):TyOf K H (.ref a) (.type "list")
 | frz {a:A3} {o:Obj} {xs:List V} (e:H a=some (.frz o (.lst xs))):TyOf K H (.ref a) (.type "list")
 | tup {a:A3} {xs:List V} (e:H a=some (.tup xs)):TyOf K H (.ref a) (.type "tuple")
 | dK {a:A3} {kvs:List (Key×V)} (e:H a=some (.dK kvs)):TyOf K H (.ref a) (.type "dict")
 | dT {a:A3} {kvs:List (List Key×V)} (e:H a=some (.dT kvs)):TyOf K H (.ref a) (.type "dict")
 | ins {a C dx:A3} {fs:List (Str×V)} (e:H a=some (.ins C dx fs)) (cl:Cls K C) (ha:Bw K (.ref C) "__class__" = some (some (.builtin "object.__class__")))
   (hn:Jq K (.builtin "object.__class__") "__get__" = some (some (.builtin "getset_descriptor.__get__"))) (htk:Kd K (.builtin "object.__class__")=some true)
   (hm:Ej K C (.type "object")=some true):TyOf K H (.ref a) (.ref C)
theorem isinst_ok {x:V} {u t:A2} (I:Inv X pins σ H s) (rx:RelV x u) (ty:TyOf X.K H x t) (e:Fq X.K t c=some b) (h:∀ tk,Q (.bool b) { s with toks:=tk }) :
  wpAny (model X.prog X.w) A (call (.builtin "isinstance") [u,c]) Q E s:=by
 cases ty with
 | non=>cases (show u=Ct from rx); exact D9 PySem.W.kitx_none I.kIn Eg e (fun z=>nomatch z) h
 | bl y=>cases (show u=Ie y from rx); exact D9 PySem.W.kitx_bool I.kIn Eg e (fun z=>nomatch z) h
 | int i=>obtain ⟨t,q⟩:=(show ∃ t,u=Hr i t from rx); cases q; exact D9 PySem.W.kitx_int I.kIn Eg e (fun z=>nomatch z) h
 | str y=>obtain ⟨t,q⟩:=(show ∃ t,u=Kc y t from rx); cases q; exact D9 PySem.W.kitx_str I.kIn Eg e (fun z=>nomatch z) h
 | flt y=>obtain ⟨t,q⟩:=(show ∃ t,u=Mq y t from rx); cases q; exact D9 PySem.W.kitx_float I.kIn Eg e (fun z=>nomatch z) h
 | @lst a xs ea =>
  cases (show u=B1 a from rx)
  obtain ⟨_,_,n,_,h1⟩:=(show ObjOk X.prog X.w H s.heap a (.lst xs) from I.hok a _ ea)
  exact D9 N2 I.kIn ⟨_,h1,rfl⟩ e (fun z=>nomatch z) h
 | @frz a ob xs ea =>
  cases (show u=B1 a from rx)
  obtain ⟨_,_,_,n,_,h1⟩:=(show ObjOk X.prog X.w H s.heap a (.frz ob (.lst xs)) from I.hok a _ ea)
  exact D9 N2 I.kIn ⟨_,h1,rfl⟩ e (fun z=>nomatch z) h
 | @tup a xs ea =>
  cases (show u=B1 a from rx)
  obtain ⟨_,_,_,p⟩:=(show ObjOk X.prog X.w H s.heap a (.tup xs) from I.hok a _ ea)
  obtain ⟨o,h1,h2,_⟩:=p
  exact D9 PySem.W.kitx_tuple I.kIn ⟨o,h1,h2⟩ e (fun z=>nomatch z) h
 | @dK a kvs ea =>
  cases (show u=B1 a from rx)
  obtain ⟨_,_,vs,_,p⟩:=(show ObjOk X.prog X.w H s.heap a (.dK kvs) from I.hok a _ ea)
  obtain ⟨o,es,ep,h1,h2,_⟩:=p
  exact D9 N3 I.kIn ⟨o,h1,h2.1⟩ e (fun z=>nomatch z) h
 | @dT a kvs ea =>
  cases (show u=B1 a from rx)
  obtain ⟨_,_,xs,_,o,es,ep,h1,h2,_⟩:=(show ObjOk X.prog X.w H s.heap a (.dT kvs) from I.hok a _ ea)
  exact D9 N3 I.kIn ⟨o,h1,h2.1⟩ e (fun z=>nomatch z) h
 | @ins a C dx fs ea cl ha hn htk hm =>
  cases (show u=B1 a from rx)
  obtain ⟨mA,O,_⟩:=zd4 I.hok ea
  obtain ⟨od,J,_⟩:=O.look
  exact D9 (PySem.W.kitx_own (cl.get _) cl.hd ha hn htk hm) I.kIn J e (fun z=>nomatch z) h
end
structure Room (k:Nat) (A:B7):Prop where
 hd:A.handled=none
 dp:A.depth + 3 * k + 5 < recursionLimit
 un:A.units + 16 * k + 200 < cLine
theorem Room.mono {j k:Nat} {A:B7} (r:Room k A) (h:j<=k):Room j A:=⟨r.hd,by have:=r.dp; omega,by have:=r.un; omega⟩
theorem Room.deeper {k:Nat} {A:B7} (r:Room (k + 1) A) (env:Env):Room k (A.deeper env) :=
 ⟨r.hd,by have:=r.dp; show A.depth + 1 + 3 * k + 5 < _; omega,by have:=r.un; show A.units + 3 + 16 * k + 200 < _; omega⟩
theorem make_depth {A:B7} {C:A3} {us:List A2} {kw:List (Str×A2)}:(A.under (.builtin "type.__call__" ⟨.ref C :: us,kw⟩)).depth=A.depth + 1:=by
 first | rfl | simp [Lx,Code.weight,Code.isCreation,Code.isGuard,Code.isCaller,Qe,Mh,guardIds]
theorem make_units {A:B7} {C:A3} {us:List A2} {kw:List (Str×A2)}:(A.under (.builtin "type.__call__" ⟨.ref C :: us,kw⟩)).units=A.units + 1:=by
 first | rfl | simp [Lx,Code.cUnits,Qe,Mh]
theorem Room.make {k:Nat} {A:B7} (r:Room (k + 1) A) (C:A3) (us:List A2) (kw:List (Str×A2)):Room k (A.under (.builtin "type.__call__" ⟨.ref C :: us,kw⟩)) :=
 ⟨r.hd,by have:=r.dp; rw [make_depth]; omega,by have:=r.un; rw [make_units]; omega⟩
theorem Room.depth {k:Nat} {A:B7} (r:Room k A):A.depth < recursionLimit:=by have:=r.dp; omega
theorem Room.units {k:Nat} {A:B7} (r:Room k A):A.units + 64 < cLine:=by have:=r.un; omega
noncomputable def tNil:TA:=fun _ H Q=>Q [] H
noncomputable def tCons (ta:TE) (tr:TA):TA:=fun σ H Q=>ta σ H fun x H1=>tr σ H1 fun xs H2=>Q (x :: xs) H2
section
variable {X:Cx} {e:Ce} {es:List Ce} {te:TE} {t:TA} {pos:Pos}
theorem zac:PA X [] tNil:=fun _ _ _ _ H Q I h=>Calls.spliced_nil ⟨[],H,I,.nil,h⟩
theorem zaa (ha:PE X e te) (hr:PA X es t) (hs:starEach (e :: es) X.env=(false,eval e X.env) :: starEach es X.env:=by rfl):PA X (e :: es) (tCons te t):=by
 intro pos pins s σ H Q I h
 rw [hs]
 show wpAny _ _ (spliced ((false,eval e X.env) :: backTo pos (starEach es X.env))) _ _ s
 refine Calls.spliced_cons (thn (ha pins s σ H _ I h) fun u s1 ⟨x,H1,I1,r1,q1⟩ => ?_)
 exact thn (hr pos pins s1 σ H1 _ I1 q1) fun us s2 ⟨xs,H2,I2,r2,q2⟩=>⟨x :: xs,H2,I2,.cons r1 r2,q2⟩
noncomputable def tTup (t:TA):TE:=fun σ H Q=>t σ H fun xs H1=>xs.length<=sizeLine/\∀ p,H1 p=none->Q (.ref p) (upd H1 p (.tup xs))
noncomputable def tLst (t:TA):TE:=fun σ H Q=>t σ H fun xs H1=>xs.length<=sizeLine/\∀ p,H1 p=none->Q (.ref p) (upd H1 p (.lst xs))
theorem za9 {x1} (h:PA X es t):PE X (.Tuple es x1 pos) (tTup t):=by
 intro pins s σ H Q I hq
 refine wpAny_Tuple_spliced (thn (h pos pins s σ H _ I hq) fun us s1 ⟨xs,H1,I1,r,z,q⟩=>⟨by rw [<- r.length]; exact z,?_⟩)
 have hf:H1 s1.heap.objs.size=none:=I1.hok.fresh (Aa _)
 refine ⟨.ref s1.heap.objs.size,upd H1 s1.heap.objs.size (.tup xs),I1.laid (t':=s1.toks) (fun b u e=>A8 _ e) (Aa _) ?_,rfl,q _ hf⟩
 exact ⟨z,us,r,⟨_,Av _ rfl,rfl,_,rfl⟩⟩
theorem zaO (h:PA X es t):PE X (.List es pos) (tLst t):=by
 intro pins s σ H Q I hq
 refine wpAny_List_spliced (thn (h pos pins s σ H _ I hq) fun us s1 ⟨xs,H1,I1,r,z,q⟩=>⟨by rw [<- r.length]; exact z,?_⟩)
 have hf:H1 s1.heap.objs.size=none:=I1.hok.fresh (Aa _)
 refine ⟨.ref s1.heap.objs.size,upd H1 s1.heap.objs.size (.lst xs),I1.laid (t':=s1.toks) (fun b u e=>A8 _ e) (Aa _) ?_,rfl,q _ hf⟩
 exact ⟨z,us,0,r,Av _ rfl⟩
end
noncomputable abbrev Sp:=List V->Hp->VK->XK->Prop
noncomputable abbrev CXT:=List Env->Hp->A4->XK->A2->A4->Prop
structure Env0 (P:Ap) (w:Bb) (K:Am) (mg:Str->Option A2) (base:Bx) (A:B7) (outer:List Env) (s:A4) (H:Hp):Prop where
 frames:A.frames=some outer
 mod:Mod K mg base
 bs:∀ b o,base.get? b=some o->s.heap.get? b=some o/\H b=none
 bsz:base.objs.size<=s.heap.objs.size
 funs:s.heap.FunFrames base outer
 frf:∀ b∈frs outer,H b=none
 hok:HOk P w H s.heap
 bare:Gr s.gens
noncomputable def CE (outer:List Env) (P:Ap) (w:Bb) (H:Hp) (s:A4) (Q:VK) (u:A2) (s':A4):Prop :=
 ∃ v H',s'.os=s.os/\Gr s'.gens/\Un (frs outer) [] H H' s.heap s'.heap/\HOk P w H' s'.heap/\RelV v u/\Q v H'
noncomputable def CR (CX:CXT) (outer:List Env) (P:Ap) (w:Bb) (H:Hp) (s:A4) (Q:VK) (E:XK) (r:Ru) (s':A4):Prop :=
 match r with
 | .ok (.ret u)=>CE outer P w H s Q u s'
 | .ok _=>False
 | .error e=>CX outer H s E e s'
structure FnOk (P:Ap) (w:Bb) (K:Am) (mg:Str->Option A2) (base:Bx) (CX:CXT) (k:Nat) (f:A3) (fd:Ek) (ps:List Str) (sp:Sp):Prop where
 len:∀ vs H Q E,sp vs H Q E->vs.length=ps.length
 run:∀ (A:B7) (outer:List Env) (s:A4) (H:Hp) (args:Args) (us:List A2) (vs:List V) (Q:VK) (E:XK),Room k A->Env0 P w K mg base A outer s H->Ka s fd args (ps.zip us)->Vals vs us->sp vs H Q E ->
  codeAny (model P w) A (.call (.ref f) args) (CR CX outer P w H s Q E) s
theorem Env0.make {P:Ap} {w:Bb} {K:Am} {mg:Str->Option A2} {base:Bx} {A:B7} {outer:List Env} {s:A4} {H:Hp} (e:Env0 P w K mg base A outer s H) (C:A3) (us:List A2) (kw:List (Str×A2)) :
  Env0 P w K mg base (A.under (.builtin "type.__call__" ⟨.ref C :: us,kw⟩)) outer s H:=⟨by first | exact e.frames | (simpa [Lx,Code.envs,Mh,pushEnvs] using e.frames),e.mod,e.bs,e.bsz,e.funs,e.frf,e.hok,e.bare⟩
section
variable {X:Cx} {pins:List (A3×Obj)} {σ : St} {H:Hp} {s s':A4}
theorem Inv.env0 (I:Inv X pins σ H s):Env0 X.prog X.w X.K X.mg X.base X.A X.stack s H :=
 ⟨I.ok.frames,I.ok.mod,I.bs,C5 I.ok.bsz I.sz,I.stack,I.stkFree,I.hok,I.bare⟩
theorem Inv.after {Q:VK} {u:A2} (I:Inv X pins σ H s) (h:CE X.stack X.prog X.w H s Q u s'):EP X pins σ Q u s':=by
 obtain ⟨v,H',os,bare,un,hok,r,q⟩:=h
 obtain ⟨hh,g,d,t,os'⟩:=s'
 obtain rfl:os'=s.os:=os
 exact ⟨v,H',I.call (h':=hh) (g':=g) (d':=d) (t':=t) (ch := []) un hok bare (fun b z=>absurd z (by simp)),r,q⟩
end
noncomputable def tCall (sp:Sp) (dvs:List V) (E:XK) (t:TA):TE:=fun σ H Q=>t σ H fun vs H1=>sp (vs ++ dvs) H1 Q E
noncomputable def tMeth (C:A3) (m:Str) (sp:Sp) (dvs:List V) (E:XK) (ta:TE) (t:TA):TE:=fun σ H Q=>ta σ H fun x H1=>∃ a dx fs,x = .ref a/\H1 a=some (.ins C dx fs)/\fs.lookup m=none /\
 t σ H1 fun vs H2=>sp (x :: (vs ++ dvs)) H2 Q E
noncomputable def tMake (C:A3) (sp:Sp) (dvs:List V) (E:XK) (t:TA):TE:=fun σ H Q=>t σ H fun vs H1=>∀ x dx,H1 x=none->H1 dx=none->dx≠x ->
 sp (.ref x :: (vs ++ dvs)) (upd (upd H1 dx (.own x)) x (.ins C dx [])) (fun v H2=>v = .non/\Q (.ref x) H2) E
noncomputable def Binds (K:Am) (fd:Ek) (ps:List Str) (ds:List A2):Prop :=
 ∀ (s:A4) (us:List A2),K.In s.heap->(us ++ ds).length=ps.length->Ka s fd ⟨us,[]⟩ (ps.zip (us ++ ds))
theorem Binds.all {K:Am} {fd:Ek} {ps:List Str} (h:∀ us:List A2,us.length=ps.length->bindArgs fd ⟨us,[]⟩=pure (ps.zip us)):Binds K fd ps []:=fun s us _ hl=>by
 rw [C9] at hl ⊢
 exact .of_eq (h us hl)
noncomputable def Passes (CX:CXT) (X:Cx) (E:XK):Prop:=∀ (pins:List (A3×Obj)) (σ : St) (H:Hp) (s:A4) (e:A2) (s':A4),Inv X pins σ H s->CX X.stack H s E e s'->X.xe e s'
section
variable {X:Cx} {CX:CXT} {k:Nat} {f C:A3} {fd:Ek} {ps:List Str} {sp:Sp} {dvs:List V} {ds:List A2} {E:XK} {x m:Str} {p pos apos:Pos} {e o:Ce} {es:List Ce} {ta:TE} {t:TA}
theorem zf3 {pins:List (A3×Obj)} {σ : St} {H:Hp} {s:A4} {Q:VK} {us:List A2} {vs:List V} (F:FnOk X.prog X.w X.K X.mg X.base CX k f fd ps sp) (hr:Room k X.A) (hb:Binds X.K fd ps ds) (hd:Vals dvs ds) (hx:Passes CX X E)
  (I:Inv X pins σ H s) (r:Vals vs us) (h:sp (vs ++ dvs) H Q E):wpAny (model X.prog X.w) X.A (call (.ref f) us) (EP X pins σ Q) X.xe s:=by
 have r2:Vals (vs ++ dvs) (us ++ ds):=r.append hd
 have hl:(us ++ ds).length=ps.length:=by rw [<- r2.length]; exact F.len _ _ _ _ h
 refine Kq (Jc (F.run X.A X.stack s H ⟨us,[]⟩ (us ++ ds) (vs ++ dvs) Q E hr I.env0 (hb s us I.kIn hl) r2 h) fun r s' hq => ?_)
 cases r with
 | error e=>exact hx pins σ H s e s' I hq
 | ok fl =>
  cases fl with
  | ret u=>exact I.after hq
  | next=>exact Cn hq
  | brk=>exact Cn hq
  | cont=>exact Cn hq
theorem zgd (F:FnOk X.prog X.w X.K X.mg X.base CX k f fd ps sp) (hr:Room k X.A) (hg:Gl X x) (hm:X.mg x=some (.ref f)) (hk:D8 X.K (.ref f)=true) (hb:Binds X.K fd ps ds) (hd:Vals dvs ds) (hx:Passes CX X E)
  (ha:PA X (e :: es) t) (hdb:(x == ("__debug__" : Str))=false:=by decide) (he:starEach (e :: es) X.env=(false,eval e X.env) :: starEach es X.env:=by rfl) (hpl:(backTo pos (starEach es X.env)).any (·.1)=false:=by rfl) :
  PE X (.Call (.Name x p) (e :: es) [] pos) (tCall sp dvs E t):=by
 intro pins s σ H Q I h
 refine G0 (zcA I hg hm ?_ hdb)
 refine Jf (h₀ := X.base) I.ok.mod.kin hk (thn (ha pos pins s σ H _ I h) fun us s1 ⟨vs,H1,I1,r,q⟩=>⟨I1.kIn,?_⟩) he hpl
 exact zf3 F hr hb hd hx I1 r q
theorem pe_meth {pl:Sem Bool} (he:PE X o ta) (c:Cls X.K C) (hm:Meth X.K C m f) (F:FnOk X.prog X.w X.K X.mg X.base CX k f fd ps sp) (hr:Room k X.A) (hb:Binds X.K fd ps ds) (hd:Vals dvs ds) (hx:Passes CX X E) (ha:PA X (e :: es) t)
  (hst:starEach (e :: es) X.env=(false,eval e X.env) :: starEach es X.env:=by rfl) (hpl:(backTo pos (starEach es X.env)).any (·.1)=false:=by rfl)
  (ht:eval (.Call (.Attribute o m apos) (e :: es) [] pos) X.env=(do
   let ov <- eval o X.env
   standAt apos.atName
   let (f,first) <- holding [ov] (getMethod ov m pl)
   callWith pos f first (backTo pos (starEach (e :: es) X.env)) (backToKw pos (keywordEach [] X.env))):=by rfl) :
  PE X (.Call (.Attribute o m apos) (e :: es) [] pos) (tMeth C m sp dvs E ta t):=by
 intro pins s σ H Q I h
 refine Lr (pl:=pl) (thn (he pins s σ H _ I h) fun u s1 ⟨x,H1,I1,rx,a,dx,fs,ex,ea,l,q⟩ => ?_) ht
 subst ex
 obtain rfl:u=B1 a:=rx
 refine zdM I1 ea c hm l ?_
 refine Jf (first := [.ref a]) (h₀ := X.base) I.ok.mod.kin hm.kp (thn (ha pos pins s1 σ H1 _ I1 q) fun us s2 ⟨vs,H2,I2,r,q2⟩=>⟨I2.kIn,?_⟩) hst hpl
 exact zf3 (us := .ref a :: us) (vs := .ref a :: vs) F hr hb hd hx I2 (.cons rfl r) q2
theorem pe_meth0 {pl:Sem Bool} (he:PE X o ta) (c:Cls X.K C) (hm:Meth X.K C m f) (F:FnOk X.prog X.w X.K X.mg X.base CX k f fd ps sp) (hr:Room k X.A) (hb:Binds X.K fd ps ds) (hd:Vals dvs ds) (hx:Passes CX X E)
  (ht:eval (.Call (.Attribute o m apos) [] [] pos) X.env=(do
   let ov <- eval o X.env
   standAt apos.atName
   let (f,first) <- holding [ov] (getMethod ov m pl)
   callWith pos f first (backTo pos (starEach [] X.env)) (backToKw pos (keywordEach [] X.env))):=by rfl) :
  PE X (.Call (.Attribute o m apos) [] [] pos) (tMeth C m sp dvs E ta tNil):=by
 intro pins s σ H Q I h
 refine Lr (pl:=pl) (thn (he pins s σ H _ I h) fun u s1 ⟨x,H1,I1,rx,a,dx,fs,ex,ea,l,q⟩ => ?_) ht
 subst ex
 obtain rfl:u=B1 a:=rx
 refine zdM I1 ea c hm l ?_
 exact Ma (first := [.ref a]) I1.kIn hm.kp (zf3 (us := [.ref a]) (vs := [.ref a]) F hr hb hd hx I1 (.cons rfl .nil) q)
structure Mk (K:Am) (C f:A3):Prop where
 makes:Kf K C=true
 init:Bw K (.ref C) "__init__" = some (some (.ref f))
 fn:Hs K (.ref f)=true
 kp:D8 K (.ref C)=true
theorem run_make {pins:List (A3×Obj)} {σ : St} {H:Hp} {s:A4} {Q:VK} {us:List A2} {vs:List V} (M:Mk X.K C f) (F:FnOk X.prog X.w X.K X.mg X.base CX k f fd ps sp) (hr:Room (k + 1) X.A) (hb:Binds X.K fd ps ds) (hd:Vals dvs ds)
  (hx:Passes CX X E) (I:Inv X pins σ H s) (r:Vals vs us)
  (h:∀ x dx,H x=none->H dx=none->dx≠x->sp (.ref x :: (vs ++ dvs)) (upd (upd H dx (.own x)) x (.ins C dx [])) (fun v H2=>v = .non/\Q (.ref x) H2) E) :
  wpAny (model X.prog X.w) X.A (call (.ref C) us) (EP X pins σ Q) X.xe s:=by
 have hq:=h (s.heap.objs.size + 1) s.heap.objs.size (I.hok.fresh (Kv _)) (I.hok.fresh (Aa _)) (B8 (Ew _))
 have I2:=Inv.made (C:=C) I
 have r2:Vals (V.ref (s.heap.objs.size + 1) :: (vs ++ dvs)) (B1 (s.heap.objs.size + 1) :: (us ++ ds)) := .cons rfl (r.append hd)
 have hl:(B1 (s.heap.objs.size + 1) :: us ++ ds).length=ps.length:=by
  have e:=r2.length
  rw [F.len _ _ _ _ hq] at e
  exact e.symm
 refine Kq (make_map (f:=f) I.kIn M.makes M.init (beq_iff_eq.mp M.fn) (Jc (F.run _ X.stack _ _ ⟨B1 (s.heap.objs.size + 1) :: us,[]⟩ (B1 (s.heap.objs.size + 1) :: (us ++ ds)) _ _ E (hr.make C us [])
  (I2.env0.make C us []) (hb _ (B1 (s.heap.objs.size + 1) :: us) I2.kIn hl) r2 hq) fun r s' hq' => ?_))
 cases r with
 | error e=>exact hx pins σ _ _ e s' I2 hq'
 | ok fl =>
  cases fl with
  | ret u =>
   obtain ⟨v,H',I3,rv,ev,q3⟩:=I2.after hq'
   subst ev
   exact ⟨rv,⟨V.ref (s.heap.objs.size + 1),H',I3,rfl,q3⟩⟩
  | next=>exact Cn hq'
  | brk=>exact Cn hq'
  | cont=>exact Cn hq'
theorem pe_make0 (M:Mk X.K C f) (F:FnOk X.prog X.w X.K X.mg X.base CX k f fd ps sp) (hr:Room (k + 1) X.A) (hg:Gl X x) (hm:X.mg x=some (.ref C)) (hb:Binds X.K fd ps ds) (hd:Vals dvs ds) (hx:Passes CX X E)
  (hdb:(x == ("__debug__" : Str))=false:=by decide):PE X (.Call (.Name x p) [] [] pos) (tMake C sp dvs E tNil):=by
 intro pins s σ H Q I h
 refine G0 (zcA I hg hm ?_ hdb)
 exact Ma I.kIn M.kp (run_make (us := []) M F hr hb hd hx I .nil h)
end
section
variable {X:Cx} {CX:CXT} {k:Nat} {f C:A3} {fd:Ek} {ps ks:List Str} {sp:Sp} {E:XK} {x m:Str} {p pos apos kpos:Pos} {e o:Ce} {es:List Ce} {kws:List Su} {te ta:TE} {t tk:TA} {nm:Option Str}
variable {g:List A2->List A2->List A2} {gV:List V->List V->List V}
end
structure FnScope (N P:List Str) (sc:Fg):Prop where
 kind:sc.kind = .function
 co:sc.isCoroutine=false
 gen:sc.isGenerator=false
 nd:N.Nodup
 pre:N.take P.length=P
 par:∀ x∈P,sc.names.lookup x=some .local\/sc.names.lookup x=some .cell
 nofree:∀ y∈sc.names,y.2 ≠ .free
theorem zeO {kindOf:Str->Option J4} {x:Str}:∀ {binds:List (Str×A2)} {m:Str->Option A2},(∀ v,(x,v) ∉ binds)->bindL kindOf binds m x=m x
 | [],_,_=>rfl
 | (n,v) :: r,m,h=>by
  unfold bindL
  rw [zeO fun w hw=>h w (Ac _ hw)]
  split
  ·have:x≠n:=by rintro rfl; exact h v Ai
   simp [this]
  ·rfl
theorem zeQ {kindOf:Str->Option J4} {x:Str}:∀ {binds:List (Str×A2)} {m:Str->Option A2},(∀ v,(x,v) ∉ binds)->bindC kindOf binds m x=m x
 | [],_,_=>rfl
 | (n,v) :: r,m,h=>by
  unfold bindC
  rw [zeQ fun w hw=>h w (Ac _ hw)]
  split
  ·rfl
  ·have:x≠n:=by rintro rfl; exact h v Ai
   simp [this]
theorem zeP {kindOf:Str->Option J4} {x:Str} {v:A2}:∀ {P:List Str} {vs:List A2} {i:Nat} {m:Str->Option A2},P.Nodup->P[i]?=some x->vs[i]?=some v->kindOf x=some .local ->
  bindL kindOf (P.zip vs) m x=some v
 | [],_,_,_,_,h,_,_=>by simp at h
 | _ :: _,[],_,_,_,_,h,_=>by simp at h
 | p :: P,w :: vs,0,m,nd,h1,h2,hk=>by
  simp at h1 h2; subst h1; subst h2
  show bindL kindOf ((p,w) :: P.zip vs) m p=_
  unfold bindL
  rw [zeO fun v hv=>(Dv.mp nd).1 (Iv hv).1,if_pos hk]
  simp
 | p :: P,w :: vs,i + 1,m,nd,h1,h2,hk=>by
  show bindL kindOf ((p,w) :: P.zip vs) m x=_
  unfold bindL
  exact zeP (i:=i) (Dv.mp nd).2 (by simpa using h1) (by simpa using h2) hk
theorem zeR {kindOf:Str->Option J4} {x:Str} {v:A2}:∀ {P:List Str} {vs:List A2} {i:Nat} {m:Str->Option A2},P.Nodup->P[i]?=some x->vs[i]?=some v->kindOf x≠some .local ->
  bindC kindOf (P.zip vs) m x=some v
 | [],_,_,_,_,h,_,_=>by simp at h
 | _ :: _,[],_,_,_,_,h,_=>by simp at h
 | p :: P,w :: vs,0,m,nd,h1,h2,hk=>by
  simp at h1 h2; subst h1; subst h2
  show bindC kindOf ((p,w) :: P.zip vs) m p=_
  unfold bindC
  rw [zeQ fun v hv=>(Dv.mp nd).1 (Iv hv).1,if_neg hk]
  simp
 | p :: P,w :: vs,i + 1,m,nd,h1,h2,hk=>by
  show bindC kindOf ((p,w) :: P.zip vs) m x=_
  unfold bindC
  exact zeR (i:=i) (Dv.mp nd).2 (by simpa using h1) (by simpa using h2) hk
noncomputable def start (N:List Str) (vs:List V):St:=vs.map some ++ Br (N.length - vs.length) none
noncomputable def cxOf (CX:CXT) (P:Ap) (w:Bb) (K:Am) (mg:Str->Option A2) (base:Bx) (N:List Str) (qual:Str) (scope:Fg) (f:A3) (cd:A2) (A:B7) (outer:List Env) (s:A4) (H:Hp) (E:XK):Cx where
 prog:=P
 w:=w
 K:=K
 mg:=mg
 base:=base
 A:=A.deeper (envOfC qual scope s.heap.objs.size f cd)
 N:=N
 s₀ := s
 H₀ := H
 env:=envOfC qual scope s.heap.objs.size f cd
 outer:=outer
 stack:=envOfC qual scope s.heap.objs.size f cd :: outer
 ex := []
 calm:=true
 fn:=fun _=>true
 pn := []
 xe:=fun e s'=>wpAny (model P w) (A.deeper (envOfC qual scope s.heap.objs.size f cd)) (leaving (envOfC qual scope s.heap.objs.size f cd) e) (fun _ s''=>CX outer H s E e s'') (fun e' s''=>CX outer H s E e' s'') s'
theorem zfJ {sc:Fg} {n:Nat} {x:Str} (h:sc.names.lookup x=some .cell):∃ c,(cellsFrom n sc.names []).lookup x=some c:=by
 have q:=Ht sc.names n [] (.inl h)
 exact D5.mp q
theorem zeD {CX:CXT} {P:Ap} {w:Bb} {K:Am} {mg:Str->Option A2} {base:Bx} {N ps:List Str} {qual:Str} {scope:Fg} {f:A3} {cd:A2} {A:B7} {outer:List Env} {s s1:A4} {H:Hp} {E:XK} {us:List A2} {vs:List V}
  (S:FnScope N ps scope) (hd:A.handled=none) (e0:Env0 P w K mg base A outer s H) (hl:vs.length=ps.length) (r:Vals vs us)
  (x:InCallC s s.heap.objs.size (bindL (envOfC qual scope s.heap.objs.size f cd).kindOf (ps.zip us) fun _=>none) (cellsFrom (s.heap.objs.size + 1) scope.names []) (bindC (envOfC qual scope s.heap.objs.size f cd).kindOf (ps.zip us) fun _=>none) s1) :
  Inv (cxOf CX P w K mg base N qual scope f cd A outer s H E) [] (start N vs) H s1:=by
 have hpl:ps.length<=N.length:=by have:=congrArg Ey S.pre; rw [Cw] at this; omega
 obtain ⟨h1,tk,rfl,hk⟩:=x.done
 have noA:∀ b:A3,b ∉ (cxOf CX P w K mg base N qual scope f cd A outer s H E).ex:=fun b z=>absurd (show b∈([]:List A3) from z) (by simp)
 refine ⟨⟨e0.mod,S.kind,rfl,rfl,Aa _,fun y z c h1 h2 => ?_,fun y hy => ?_,fun y c _ h => ?_,fun _=>hd,Ml e0.frames,.inr ⟨rfl,rfl⟩,fun b z=>absurd z (noA b),e0.bs,e0.bsz,fun b _ _=>noA b,fun b z=>absurd z (noA b),e0.funs,e0.frf⟩,
  rfl,e0.bare,Un.kept hk,⟨_,x.toInCall.ns,fun i y v h1 h2 h3 => ?_⟩,fun y c h=>⟨_,x.cell y c h⟩,e0.hok.fresh (Aa _),fun y c h => ?_,fun p hp=>absurd (show p∈([]:List (A3×Obj)) from hp) (by simp),e0.hok.kept hk,?_⟩
 ·exact name_of_addr x.apart (Fm h1) (Fm h2)
 ·have hy:scope.names.lookup y=some .cell\/scope.names.lookup y=some .free:=hy
  rcases hy with hy | hy
  ·exact zfJ hy
  ·exact absurd rfl (S.nofree _ (Fm hy))
 ·exact G5 (x.above y c (Fm h))
 ·have hi:i < vs.length:=by
   unfold start at h2
   by_cases hi:i < vs.length
   ·exact hi
   ·rw [Ca (by simpa using hi)] at h2
    rw [Ib] at h2
    split at h2 <;> cases h2
  have ha:vs[i]?=some v:=by
   unfold start at h2
   rw [C4 (by simpa using hi),Af] at h2
   cases e:vs[i]? with
   | none=>rw [e] at h2; cases h2
   | some a=>rw [e] at h2; cases h2; rfl
  obtain ⟨u,hu,rv⟩:=r.get ha
  have hp:ps[i]?=some y:=by
   rw [<- S.pre,Lv (by omega)]; exact h1
  have ndP:ps.Nodup:=by rw [<- S.pre]; exact S.nd.sublist (Fu _ _)
  refine ⟨u,rv,?_⟩
  rcases S.par y (B0 hp) with k | k
  ·exact .inl ⟨k,zeP ndP hp hu k⟩
  ·obtain ⟨c,e⟩:=zfJ (n:=s.heap.objs.size + 1) k
   refine .inr ⟨.inl k,c,e,?_⟩
   have q:=x.cell y c e
   rw [zeR ndP hp hu (by show scope.names.lookup y≠_; rw [k]; decide)] at q
   exact q
 ·exact e0.hok.fresh (G5 (x.above y c (Fm h)))
 ·unfold start
  show _=N.length
  rw [Ag,A5,Mx]
  omega
theorem zhm {CX:CXT} {P:Ap} {w:Bb} {K:Am} {mg:Str->Option A2} {base:Bx} {k:Nat} {f:A3} {name qual:Str} {params:Qh} {body:List Cj} {scope:Fg} {dV kV doc pm cdv ct oc:A2} {an od:Option A3}
  {osl:Array (Option A2)} {N ps:List Str} {sp:Sp} (lk:K.lookup f=some ⟨oc,od,.func (Co name qual params body scope dV kV doc pm an cdv ct),osl⟩) (hcd:Fb K cdv qual=true) (S:FnScope N ps scope)
  (len:∀ vs H Q E,sp vs H Q E->vs.length=ps.length)
  (hbody:∀ (A:B7) (outer:List Env) (s:A4) (H:Hp) (vs:List V) (Q:VK) (E:XK),Room k (A.deeper (envOfC qual scope s.heap.objs.size f cdv))->sp vs H Q E ->
   ∃ t,PSs (cxOf CX P w K mg base N qual scope f cdv A outer s H E) body t/\t { nx:=fun _ H'=>Q .non H',rt:=Q } (start N vs) H) :
  FnOk P w K mg base CX (k + 1) f (Co name qual params body scope dV kV doc pm an cdv ct) ps sp:=by
 refine ⟨len,fun A outer s H args us vs Q E hr e0 hb r hsp => ?_⟩
 have hl:=len _ _ _ _ hsp
 have KX:K.In s.heap:=e0.mod.kin.keeps fun b o e=>(e0.bs b o e).1
 have lim:s.heap.NoLimit:=e0.mod.nolimit.keeps fun b o e=>(e0.bs b o e).1
 have hkind:∀ y∈ps.zip us,scope.names.lookup y.1=some .local\/(scope.names.lookup y.1=some .cell/\((cellsFrom (s.heap.objs.size + 1) scope.names []).lookup y.1).isSome=true):=fun ⟨n,v⟩ hy=>by
  rcases S.par n (Iv hy).1 with q | q
  ·exact .inl q
  ·exact .inr ⟨q,Ht _ _ _ (.inl q)⟩
 refine Oe hr.depth (KX _ _ lk) rfl S.co S.gen rfl (Ms KX hcd) (hb _ _ _ _ ?_)
 refine Mm S.kind hkind fun env he s1 x => ?_
 subst he
 refine ⟨lim.keeps x.toInCall.keep,So ?_⟩
 obtain ⟨t,ht,hq⟩:=hbody A outer s H vs Q E (hr.deeper _) hsp
 have I:Inv (cxOf CX P w K mg base N qual scope f cdv A outer s H E) [] (start N vs) H s1:=zeD S hr.hd e0 hl r x
 refine Dg (ht [] s1 (start N vs) H _ I hq) (fun fl s' hs => ?_) fun e s' hs=>hs
 have fin:∀ {σ':St} {H':Hp} {v:V} {u:A2},Inv (cxOf CX P w K mg base N qual scope f cdv A outer s H E) [] σ' H' s'->RelV v u->Q v H'->CE outer P w H s Q u s' :=
  fun {σ' H' v u} J rv q=>⟨v,H',J.os,J.bare,J.base,J.hok,rv,q⟩
 cases fl with
 | ret u =>
  obtain ⟨v,σ',H',J,rv,q⟩:=hs
  exact fin J rv q
 | next =>
  obtain ⟨σ',H',J,q⟩:=hs
  exact fin (v:=V.non) (u:=Ct) J rfl q
 | brk =>
  obtain ⟨_,_,_,q⟩:=hs
  exact Cn q
 | cont =>
  obtain ⟨_,_,_,q⟩:=hs
  exact Cn q
section
variable {X:Cx} {x:Str} {p pos:Pos} {e:Ce} {es:List Ce} {t:TA} {id T:String} {r:List V->Hp->VK->Prop}
noncomputable def tCB (r:List V->Hp->VK->Prop) (t:TA):TE:=fun σ H Q=>t σ H fun vs H1=>r vs H1 Q
theorem zai (hc:CallR X (.builtin id) r) (hg:Gl X x) (hm:X.mg x=none) (hv:bootBuiltins x=some (.builtin id)) (ha:PA X (e :: es) t) (hn:x ≠ "__name__" := by decide) (hdb:(x == ("__debug__" : Str))=false:=by decide)
  (he:starEach (e :: es) X.env=(false,eval e X.env) :: starEach es X.env:=by rfl) (hpl:(backTo pos (starEach es X.env)).any (·.1)=false:=by rfl):PE X (.Call (.Name x p) (e :: es) [] pos) (tCB r t):=by
 intro pins s σ H Q I h
 refine G0 (zey I hg hm hv ?_ hn hdb)
 exact Rc (thn (ha pos pins s σ H _ I h) fun us s1 ⟨vs,H1,I1,r1,q1⟩=>hc pins s1 σ H1 vs us Q I1 r1 q1) he hpl
theorem zbr (hc:CallR X (.type T) r) (hg:Gl X x) (hm:X.mg x=none) (hv:bootBuiltins x=some (.type T)) (ha:PA X (e :: es) t) (hn:x ≠ "__name__" := by decide) (hdb:(x == ("__debug__" : Str))=false:=by decide)
  (he:starEach (e :: es) X.env=(false,eval e X.env) :: starEach es X.env:=by rfl) (hpl:(backTo pos (starEach es X.env)).any (·.1)=false:=by rfl):PE X (.Call (.Name x p) (e :: es) [] pos) (tCB r t):=by
 intro pins s σ H Q I h
 refine G0 (zey I hg hm hv ?_ hn hdb)
 exact G9 (thn (ha pos pins s σ H _ I h) fun us s1 ⟨vs,H1,I1,r1,q1⟩=>hc pins s1 σ H1 vs us Q I1 r1 q1) he hpl
end
end L2
namespace HT
open PySem PyProof.Rows
noncomputable def lexLt:List Int->List Int->Bool
 | [],[]=>false
 | [],_ :: _=>true
 | _ :: _,[]=>false
 | x :: xs,y :: ys=>if x=y then lexLt xs ys else decide (x < y)
theorem lexLt_cons (x y:Int) (xs ys:List Int):lexLt (x :: xs) (y :: ys)=if x=y then lexLt xs ys else decide (x < y):=rfl
theorem lexLt_nil_nil:lexLt [] []=false:=rfl
theorem lexLt_nil_cons (y:Int) (ys:List Int):lexLt [] (y :: ys)=true:=rfl
theorem lexLt_cons_nil (x:Int) (xs:List Int):lexLt (x :: xs) []=false:=rfl
theorem eqAt_int (A:B7) (s:A4) (a:Int) (t:Tok) (c:Int) (u:Tok):∃ e,Nb A s (.int a t) (.int c u) e/\(e=true ↔ a=c) :=
 ⟨(a == c),Lq a t c u,by simp⟩
theorem rcLt_int (A:B7) (s:A4) (a:Int) (t:Tok) (c:Int) (u:Tok) (prog:Ap) (w:Bb) (E:A2->A4->Prop) (Q:A2->A4->Prop) (h:Q (.bool (decide (a < c))) s) :
  wpAny (model prog w) A (richCompare .Lt (.int a t) (.int c u)) Q E s :=
 (L5 h:wpAny (model prog w) A (compareOp .Lt (.int a t) (.int c u)) Q E s)
section
open PySem.SeqAt
open PySem.AutoSeq1 (wpAny_loadPart')
open PySem.MeetsSeq PySem.MeetsSeq2 PySem.MeetsSeq3
theorem tuple_lt_ints (l b:A3) (items items2:Array A2) (n n2:Nat) (dd dd2:Option A3) (sl sl2:Array (Option A2)) (ns ms:List Int) (hi:El items.toList ns) (hj:El items2.toList ms) :
  Meets (F0.«tuple.__lt__» ⟨[.ref l,.ref b],[]⟩)
   (fun _ R s=>s.heap.get? l=some { cls := .type "tuple",dict:=dd,data := .seq items n,slots:=sl }/\s.heap.get? b=some { cls := .type "tuple",dict:=dd2,data := .seq items2 n2,slots:=sl2 } /\
    R (.ok (.ret (.bool (lexLt ns ms)))) s) :=
 .of_wp fun prog w A R s h=>by
  obtain ⟨hp,g,d,tk,os⟩:=s; obtain ⟨hl,hb,h⟩:=h
  have f2:=AutoSeq1.sub_tuple_tuple
  have z1:items.size=ns.length:=by rw [<- hi.length]; simp
  have z2:items2.size=ms.length:=by rw [<- hj.length]; simp
  wp_walk using Eo hl,Eo hb,Gk _ (fun rest b s'=>b.1=none/\s'=⟨hp,g,d,tk,os⟩/\∃ (vs ws:List A2) (ns' ms':List Int),rest=vs.zip ws /\
   El vs ns'/\El ws ms'/\ns'.length + items2.size=ms'.length + items.size/\R (.ok (.ret (.bool (lexLt ns' ms')))) ⟨hp,g,d,tk,os⟩) _
  case turn =>
   rintro ⟨y,x⟩ rest b s' ⟨hb',rfl,vs,ws,ns',ms',hz,hvi,hwi,hlen,hR⟩
   cases hvi with
   | nil=>rw [List.zip_nil_left] at hz; cases hz
   | cons a t hvi' =>
    cases hwi with
    | nil=>rw [List.zip_nil_right] at hz; cases hz
    | cons c u hwi' =>
     rw [Gy] at hz
     injection hz with hyx hrest
     injection hyx with hy hx
     subst hy hx
     rw [lexLt_cons] at hR
     simp only [Aw] at hlen
     obtain ⟨e,he,hiff⟩:=eqAt_int A.in1 ⟨hp,g,d,tk,os⟩ a t c u
     refine A1 (he prog w _ _ ?_)
     cases e with
     | true =>
      rw [if_pos (hiff.mp rfl)] at hR
      wp_walk
      exact ⟨rfl,rfl,_,_,_,_,hrest,hvi',hwi',by omega,hR⟩
     | false =>
      rw [if_neg (fun q=>absurd (hiff.mpr q) A9)] at hR
      have hri:=rcLt_int A.in1 ⟨hp,g,d,tk,os⟩ a t c u prog w
      wp_walk using hri
      exact ⟨_,rfl,by simpa using hR⟩
  case fin =>
   rintro ⟨b1,b2⟩ s' ⟨hb',rfl,vs,ws,ns',ms',hz,hvi,hwi,hlen,hR⟩
   simp only at hb'
   subst hb'
   have hv:lexLt ns' ms'=decide (items.size < items2.size):=by
    cases hvi with
    | nil =>
     cases hwi with
     | nil =>
      simp only [Iw] at hlen
      rw [lexLt_nil_nil]
      exact (decide_eq_false (by omega)).symm
     | cons c u hw =>
      simp only [Iw,Aw] at hlen
      rw [lexLt_nil_cons]
      exact (decide_eq_true (by omega)).symm
    | cons a t hv =>
     cases hwi with
     | nil =>
      simp only [Iw,Aw] at hlen
      rw [lexLt_cons_nil]
      exact (decide_eq_false (by omega)).symm
     | cons c u hw =>
      rw [Gy] at hz
      cases hz
   rw [hv] at hR
   wp_walk
   exact ⟨_,rfl,by simpa [Qg] using hR⟩
  case h =>
   exact ⟨rfl,rfl,items.toList,items2.toList,ns,ms,rfl,hi,hj,by omega,h⟩
end
section
variable {prog:Ap} {w:Bb} {A:B7} {E:A2->A4->Prop} {s:A4}
theorem lt_tupInts {l b:A3} {items items2:Array A2} {ns ms:List Int} {Q:A2->A4->Prop} (hl:Jm s.heap l items) (hb:Jm s.heap b items2) (hi:El items.toList ns) (hj:El items2.toList ms)
  (hu:A.units < cLine) (h:Q (.bool (lexLt ns ms)) s):wpAny (model prog w) A (compareOp .Lt (.ref l) (.ref b)) Q E s:=by
 obtain ⟨⟨cls,dd,data,sl⟩,ho,hc,n,hd⟩:=id hl
 obtain ⟨⟨cls2,dd2,data2,sl2⟩,ho2,hc2,n2,hd2⟩:=id hb
 simp only at hc hd hc2 hd2
 subst hc hd hc2 hd2
 exact richCompare_meets_room (op := .Lt) ⟨_,ho,rfl⟩ ⟨_,ho2,rfl⟩ Ig Lj (La _ _) (tuple_lt_ints l b items items2 n n2 dd dd2 sl sl2 ns ms hi hj)
  ⟨ho,ho2,show Ie (lexLt ns ms)≠Value.notImplemented/\Q (.bool (lexLt ns ms)) s from ⟨(fun x=>nomatch x),h⟩⟩ hu
noncomputable def sIx (n d:Nat):Option Int->Nat
 | none=>d
 | some v=>if v < 0 then (v + (n:Int)).toNat else min v.toNat n
end
end HT
namespace L2
open PySem PySem.Spec PyProof.Rows
noncomputable abbrev TO:=St->Hp->(Option Int->Hp->Prop)->Prop
noncomputable def PO (X:Cx) (e:Option Ce) (t:TO):Prop :=
 ∀ (pins:List (A3×Obj)) (s:A4) (σ : St) (H:Hp) (Q:Option Int->Hp->Prop),Inv X pins σ H s->t σ H Q ->
  wpAny (model X.prog X.w) X.A (evalPart e X.env) (fun u s'=>∃ o H',Inv X pins σ H' s'/\IsPart u o/\Q o H') X.xe s
noncomputable def tNoPart:TO:=fun _ H Q=>Q none H
noncomputable def tPart (t:TE):TO:=fun σ H Q=>t σ H fun x H1=>∃ i,x = .int i/\Q (some i) H1
section
variable {X:Cx} {e:Ce} {te:TE} {lo hi:Option Ce} {tl th:TO} {pos p2:Pos}
theorem po_none:PO X none tNoPart:=by
 intro pins s σ H Q I h
 rw [S3]
 exact Ad ⟨none,H,I,.none,h⟩
theorem po_some (h:PE X e te):PO X (some e) (tPart te):=by
 intro pins s σ H Q I hw
 rw [evalPart_some]
 refine thn (h pins s σ H _ I hw) fun u s1 ⟨x,H1,I1,r1,q1⟩ => ?_
 obtain ⟨i,rfl,q⟩:=q1
 obtain ⟨t,rfl⟩:=r1
 exact ⟨some i,H1,I1,.int i t,q⟩
noncomputable def SlR (X:Cx) (r:V->Option Int->Option Int->Hp->VK->Prop):Prop :=
 ∀ (pins:List (A3×Obj)) (s:A4) (σ : St) (H:Hp) (x:V) (v vl vu:A2) (lo hi:Option Int) (sl:A3) (Q:VK),Inv X pins σ H s->RelV x v->s.heap.IsSliceOf sl vl vu .none->IsPart vl lo->IsPart vu hi->r x lo hi H Q ->
  ∃ T id,typeLookup (.type T) "__getitem__" = pure (some (.builtin id))/\s.TypeIs v T/\wpAny (model X.prog X.w) X.A (getItem v (.ref sl)) (EP X pins σ Q) X.xe s
noncomputable def tSl (r:V->Option Int->Option Int->Hp->VK->Prop) (te:TE) (tl th:TO):TE:=fun σ H Q=>te σ H fun x H1=>tl σ H1 fun l H2=>th σ H2 fun u H3=>r x l u H3 Q
theorem pe_slice {r:V->Option Int->Option Int->Hp->VK->Prop} (hr:SlR X r) (he:PE X e te) (hl:PO X lo tl) (hu:PO X hi th):PE X (.Subscript e (.Slice lo hi none p2) pos) (tSl r te tl th):=by
 intro pins s σ H Q I h
 refine Pb (thn (he pins s σ H _ I h) fun v s1 ⟨x,H1,I1,r1,q1⟩ => ?_)
 refine wpAny_Slice (thn (hl pins s1 σ H1 _ I1 q1) fun vl s2 ⟨l,H2,I2,pl,q2⟩=>thn (hu pins s2 σ H2 _ I2 q2) fun vu s3 ⟨u,H3,I3,pu,q3⟩ => ?_)
 rw [S3]
 refine Ad ?_
 have I4:Inv X pins σ H3 { s3 with heap:=s3.heap.push { cls := .type "slice",data := .fields #[vl,vu,.none] } }:=I3.kept (t':=s3.toks) fun b ob q=>A8 _ q
 obtain ⟨T,id,hT,ht,hg⟩:=hr pins { s3 with heap:=s3.heap.push { cls := .type "slice",data := .fields #[vl,vu,.none] } } σ H3 x v vl vu l u s3.heap.objs.size Q I4 r1 (Pq ..) pl pu q3
 show wpAny (model X.prog X.w) X.A (subscriptTail e (.Slice lo hi none p2) v (.ref s3.heap.objs.size)) (EP X pins σ Q) X.xe { s3 with heap:=s3.heap.push { cls := .type "slice",data := .fields #[vl,vu,.none] } }
 exact tail_any (ops := [.ref s3.heap.objs.size,v]) ht hT hg (by with_unfolding_all rfl)
noncomputable def cutV (xs:List V) (lo hi:Option Int):List V:=(xs.drop (HT.sIx xs.length 0 lo)).take (HT.sIx xs.length xs.length hi - HT.sIx xs.length 0 lo)
theorem cutV_length (xs:List V) (lo hi:Option Int):(cutV xs lo hi).length<=xs.length:=by
 unfold cutV
 rw [Cw,Ge]
 omega
end
noncomputable def ixN (n:Nat) (i:Int):Option Nat:=if 0<=i then (if i < n then some i.toNat else none) else if -(n:Int)<=i then some (i + n).toNat else none
noncomputable def atI {α : Type} (xs:List α) (i:Int):Option α := (ixN xs.length i).bind fun j=>xs[j]?
theorem zgo {n:Nat} {i:Int} {j:Nat} (h:ixN n i=some j):seqIndex? i n=some j/\j < n /\ -(n:Int)<=i/\i < n:=by
 unfold ixN at h
 by_cases h0:0<=i
 ·rw [if_pos h0] at h
  by_cases h1:i < n
  ·rw [if_pos h1] at h
   have e:i.toNat=j:=C6 h
   exact ⟨by rw [Op h0 h1,e],by omega,by omega,h1⟩
  ·rw [if_neg h1] at h; cases h
 ·rw [if_neg h0] at h
  by_cases h1 : -(n:Int)<=i
  ·rw [if_pos h1] at h
   have e:(i + n).toNat=j:=C6 h
   exact ⟨by rw [Nu (by omega) h1,e],by omega,h1,by omega⟩
  ·rw [if_neg h1] at h; cases h
theorem ze7 {α : Type} {xs:List α} {i:Int} {v : α} (h:atI xs i=some v):∃ j,seqIndex? i xs.length=some j/\xs[j]?=some v/\j < xs.length /\ -(xs.length:Int)<=i/\i < xs.length:=by
 unfold atI at h
 cases e:ixN xs.length i with
 | none=>rw [e] at h; cases h
 | some j =>
  rw [e] at h
  obtain ⟨h1,h2,h3,h4⟩:=zgo e
  exact ⟨j,h1,h,h2,h3,h4⟩
theorem zat {α : Type} {xs:List α} {j:Nat} {v : α} (h:xs[j]?=some v):atI xs (j:Int)=some v:=by
 have hj:j < xs.length:=(Ao.mp h).1
 have e:ixN xs.length (j:Int)=some j:=by
  unfold ixN
  rw [if_pos (by omega),if_pos (by omega)]; simp
 unfold atI; rw [e]; exact h
noncomputable def PlainIx (b:Ce):Prop:=∀ o i,subscripted b false o i=operate [o,i] (getItem o i)
noncomputable def IxR (X:Cx) (r:R2):Prop :=
 ∀ (value slice:Ce) (pins:List (A3×Obj)) (s:A4) (σ : St) (H:Hp) (x y:V) (v u:A2) (Q:VK),Inv X pins σ H s->RelV x v->RelV y u->r x y H Q ->
  subscripted slice false v u=operate [v,u] (getItem v u)->wpAny (model X.prog X.w) X.A (subscriptTail value slice v u) (EP X pins σ Q) X.xe s
noncomputable def MtR (X:Cx) (id:String) (r:V->List V->Hp->VK->Prop):Prop :=
 ∀ (pins:List (A3×Obj)) (s:A4) (σ : St) (H:Hp) (x:V) (xs:List V) (v:A2) (us:List A2) (Q:VK),Inv X pins σ H s->RelV x v->Vals xs us->r x xs H Q ->
  wpAny (model X.prog X.w) X.A (call (.builtin id) (v :: us)) (EP X pins σ Q) X.xe s
section
variable {X:Cx} {a b:Ce} {ta tb:TE} {pos:Pos}
theorem zay {r:R2} (hr:IxR X r) (ha:PE X a ta) (hb:PE X b tb) (hs:PlainIx b):PE X (.Subscript a b pos) (tOp r ta tb):=by
 intro pins s σ H Q I h
 exact Pb (binT ha hb I h fun v u s2 x y H2 I2 rx ry q=>hr a b pins s2 σ H2 x y v u Q I2 rx ry q (hs _ _))
noncomputable def rIxL (K:Am):R2:=fun x y H Q=>∃ p xs i v,x = .ref p/\y = .int i/\SqL K H p xs/\atI xs i=some v/\Q v H
noncomputable def rIxT (K:Am):R2:=fun x y H Q=>∃ p xs i v,x = .ref p/\y = .int i/\SqT K H p xs/\atI xs i=some v/\Q v H
noncomputable def rIxS:R2:=fun x y H Q=>∃ z i c,x = .str z/\y = .int i/\z.length<=sizeLine/\atI z.cps.toList i=some c/\Q (.str ⟨#[c]⟩) H
theorem zaz:IxR X (rIxL X.K):=by
 intro value slice pins s σ H x y v u Q I rx ry h hs
 obtain ⟨p,xs,i,z,rfl,rfl,hq,he,q⟩:=h
 cases rx
 obtain ⟨t,rfl⟩:=ry
 obtain ⟨its,r,pl,hz⟩:=I.list hq
 obtain ⟨j,h1,h2,h3,h4,h5⟩:=ze7 he
 obtain ⟨w,ew,rw'⟩:=r.get h2
 have hl:=r.length
 have hn:=zdH
 have fin:EP X pins σ Q w s:=⟨z,H,I,rw',q⟩
 by_cases h0:0<=i
 ·have hj:i.toNat=j:=by
   rw [Op h0 h5] at h1
   exact C6 h1
  exact item_listR pl.isList h0 (by omega) (by rw [hj]; simpa using ew) fin hs
 ·have hj:(i + (its.toArray.size:Int)).toNat=j:=by
   rw [Nu (by omega) h4] at h1
   rw [Az,<- hl]
   exact C6 h1
  exact Nt (x:=w) pl.isList.typeIs Pl.lookup
   (wpAny_getItem_list_neg (Q:=fun r s'=>r=w/\EP X pins σ Q r s') pl.isList (by omega) (by rw [Az] <;> omega) (by omega) (by rw [hj]; simpa using ew) ⟨rfl,fin⟩) hs
theorem za6:IxR X (rIxT X.K):=by
 intro value slice pins s σ H x y v u Q I rx ry h hs
 obtain ⟨p,xs,i,z,rfl,rfl,hq,he,q⟩:=h
 cases rx
 obtain ⟨t,rfl⟩:=ry
 obtain ⟨its,r,pl,hz⟩:=I.tuple hq
 obtain ⟨j,h1,h2,h3,h4,h5⟩:=ze7 he
 obtain ⟨w,ew,rw'⟩:=r.get h2
 have hl:=r.length
 have hn:=zdH
 have fin:EP X pins σ Q w s:=⟨z,H,I,rw',q⟩
 exact Nt (x:=w) pl.typeIs slot_tuple_getitem.lookup
  (getItem_tuple (j:=j) (Q:=fun r s'=>r=w/\EP X pins σ Q r s') pl (by omega) (by omega) (by rw [Az,<- hl]; exact h1) (by simpa using ew) ⟨rfl,fin⟩) hs
theorem ix_str:IxR X rIxS:=by
 intro value slice pins s σ H x y v u Q I rx ry h hs
 obtain ⟨z,i,c,rfl,rfl,hz,he,q⟩:=h
 obtain ⟨t,rfl⟩:=rx
 obtain ⟨t',rfl⟩:=ry
 obtain ⟨j,h1,h2,h3,h4,h5⟩:=ze7 he
 have hl:z.cps.toList.length=z.length:=by simp [Rt]
 rw [hl] at h1 h4 h5
 have hn:=zdH
 exact tail_any (typeIs_str s z t) slot_str_getitem.lookup (getItem_str (c:=c) (by
  have e1:decide (i < -(2 ^ 63:Int))=false:=decide_eq_false (by omega)
  have e2:decide (i>=2 ^ 63)=false:=decide_eq_false (by omega)
  rw [e1,e2,Lw]) (by rw [h1]; simpa using h2) ⟨.str ⟨#[c]⟩,H,I.tok _,⟨_,rfl⟩,q⟩) hs
theorem mapSeq_set (its:List A2) (n j:Nat) (u:A2):D7 (·.setIfInBounds j u) { cls := .type "list",data := .seq its.toArray n }={ cls := .type "list",data := .seq (its.set j u).toArray n }:=by
 simp [D7]
theorem Inv.lst {pins:List (A3×Obj)} {σ : St} {H:Hp} {s:A4} {p:A3} {xs:List V} (I:Inv X pins σ H s) (h:H p=some (.lst xs)) :
  ∃ (its:List A2) (n:Nat),Vals xs its/\s.heap.get? p=some { cls := .type "list",data := .seq its.toArray n }/\xs.length<=sizeLine:=by
 obtain ⟨z,its,n,r,e⟩:=I.hok p _ h
 exact ⟨its,n,r,e,z⟩
theorem Inv.lstUpd {pins:List (A3×Obj)} {σ : St} {H:Hp} {s:A4} {p:A3} {xs ys:List V} {its its':List A2} {n n':Nat} {f:Obj->Obj} (I:Inv X pins σ H s) (h:H p=some (.lst xs))
  (ho:s.heap.get? p=some { cls := .type "list",data := .seq its.toArray n }) (hf:f { cls := .type "list",data := .seq its.toArray n }={ cls := .type "list",data := .seq its'.toArray n' }) (r:Vals ys its') (hz:ys.length<=sizeLine) (t:Nat) :
  Inv X pins σ (upd H p (.lst ys)) { s with heap:=s.heap.update p f,toks:=t }:=by
 have e:(s.heap.update p f).get? p=some { cls := .type "list",data := .seq its'.toArray n' }:=by
  rw [Gd f ho (by rw [hf] <;> rfl),hf]
 refine I.write (x:=p) (e:=p) (by rw [h]; trivial) (.inl rfl) (fun b u hb q=>(Fx _ _ (E7 hb)).trans q) ⟨_,e⟩ ?_
 exact ⟨hz,its',n',r,e⟩
noncomputable def rSetL:V->V->V->Hp->(Hp->Prop)->Prop:=fun o i v H Q=>∃ p xs k j,o = .ref p/\i = .int k/\H p=some (.lst xs)/\ixN xs.length k=some j/\Q (upd H p (.lst (xs.set j v)))
theorem zfh:PSet X rSetL:=by
 intro pins s σ H o i v ov iv u Q I ro ri rv h
 obtain ⟨p,xs,k,j,rfl,rfl,hp,hj,q⟩:=h
 cases ro
 obtain ⟨t,rfl⟩:=ri
 obtain ⟨its,n,r,ho,hz⟩:=I.lst hp
 obtain ⟨h1,h2,h3,h4⟩:=zgo hj
 have hl:=r.length
 have hn:=zdH
 have I':Inv X pins σ (upd H p (.lst (xs.set j v))) { s with heap:=s.heap.update p (D7 (·.setIfInBounds j u)) } :=
  I.lstUpd hp ho (mapSeq_set its n j u) (r.set rv j) (by rw [Ov]; exact hz) s.toks
 by_cases h0:0<=k
 ·have hk:k.toNat=j:=by
   rw [Op h0 h4] at h1
   exact C6 h1
  exact PySem.W.ki_setAt ho h0 (by omega) (by rw [Az,<- hl]; exact h4) (by rw [hk]; exact ⟨_,I',q⟩)
 ·have hk:(k + (its.toArray.size:Int)).toNat=j:=by
   rw [Nu (by omega) h3] at h1
   rw [Az,<- hl]
   exact C6 h1
  exact PySem.W.ki_setBack ho (by omega) (by rw [Az,<- hl]; exact h3) (by omega) (by rw [hk]; exact ⟨_,I',q⟩)
theorem slice_bounds (lo hi:Option Int) (n:Nat):(sliceBounds lo hi none n).1=((HT.sIx n 0 lo:Nat):Int)/\(sliceBounds lo hi none n).2.1=((HT.sIx n n hi:Nat):Int)/\(sliceBounds lo hi none n).2.2=1:=by
 refine ⟨?_,?_,rfl⟩
 ·cases lo with
  | none=>simp [sliceBounds,HT.sIx]
  | some i =>
   simp only [sliceBounds,HT.sIx,Nk,show (1:Int) > 0 by decide,if_true]
   by_cases h:i < 0
   ·simp only [h,if_true] <;> omega
   ·simp only [h,if_false] <;> omega
 ·cases hi with
  | none=>simp [sliceBounds,HT.sIx]
  | some i =>
   simp only [sliceBounds,HT.sIx,Nk,show (1:Int) > 0 by decide,if_true]
   by_cases h:i < 0
   ·simp only [h,if_true] <;> omega
   ·simp only [h,if_false] <;> omega
theorem slicePick_cut (its:List A2) (lo hi:Option Int):slicePick its.toArray lo hi none=((its.drop (HT.sIx its.length 0 lo)).take (HT.sIx its.length its.length hi - HT.sIx its.length 0 lo)).toArray:=by
 obtain ⟨h1,h2,h3⟩:=slice_bounds lo hi its.toArray.size
 unfold slicePick
 rw [h1,h2,h3]
 simp only [sliceRange_one,pick_run,Az] <;> rfl
noncomputable def rSlL (K:Am):V->Option Int->Option Int->Hp->VK->Prop:=fun x lo hi H Q=>∃ a xs,x = .ref a/\SqL K H a xs/\∀ p,H p=none->Q (.ref p) (upd H p (.lst (cutV xs lo hi)))
theorem sl_list:SlR X (rSlL X.K):=by
 intro pins s σ H x v vl vu lo hi sl Q I rx hs pl pu h
 obtain ⟨a,xs,rfl,hx,q⟩:=h
 cases rx
 obtain ⟨its,r,ht,hz⟩:=I.list hx
 have hlen:=r.length
 refine ⟨"list",_,Pl.lookup,ht.isList.typeIs,?_⟩
 refine wpAny_getItem_list_slice ht.isList hs pl pu .none (by simp) ?_ (by rw [Az] <;> omega)
 rw [slicePick_cut,<- hlen]
 refine ⟨.ref s.heap.objs.size,_,I.laid (t':=s.toks) (o := .lst (cutV xs lo hi)) (fun b ob q=>A8 _ q) (Aa _) ?_,rfl,q _ (I.hok.fresh (Aa _))⟩
 exact ⟨C5 (cutV_length xs lo hi) hz,_,0,(r.drop (HT.sIx xs.length 0 lo)).take (HT.sIx xs.length xs.length hi - HT.sIx xs.length 0 lo),Av _ rfl⟩
noncomputable def flatV:V->Bool
 | .non=>true
 | .bl _=>true
 | .int _=>true
 | .str _=>true
 | _=>false
noncomputable def eqV:V->V->Bool
 | .non,.non=>true
 | .bl a,.bl b=>a == b
 | .bl a,.int b=>(if a then 1 else 0) == b
 | .int a,.bl b=>a == (if b then 1 else 0)
 | .int a,.int b=>a == b
 | .str a,.str b=>a == b
 | _,_=>false
theorem eqAt_V {A:B7} {s:A4} {y x:V} {u v:A2} (ry:RelV y u) (rx:RelV x v) (fy:flatV y=true) (fx:flatV x=true):Nb A s u v (eqV y x):=by
 cases y with
 | non =>
  cases ry
  cases x with
  | non=>cases rx; exact S9 _
  | bl b=>cases rx; exact Se b
  | int b=>obtain ⟨t,rfl⟩:=rx; exact Sd b t
  | str b=>obtain ⟨t,rfl⟩:=rx; exact Sc b t
  | _=>exact absurd (show false=true from fx) A9
 | bl a =>
  cases ry
  cases x with
  | non=>cases rx; exact Si a
  | bl b=>cases rx; exact Sk a b
  | int b=>obtain ⟨t,rfl⟩:=rx; exact Sj a b t
  | str b=>obtain ⟨t,rfl⟩:=rx; exact Sh a b t
  | _=>exact absurd (show false=true from fx) A9
 | int a =>
  obtain ⟨t',rfl⟩:=ry
  cases x with
  | non=>cases rx; exact Sf a t'
  | bl b=>cases rx; exact Sg a t' b
  | int b=>obtain ⟨t,rfl⟩:=rx; exact Lq a t' b t
  | str b=>obtain ⟨t,rfl⟩:=rx; exact Lp a t' b t
  | _=>exact absurd (show false=true from fx) A9
 | str a =>
  obtain ⟨t',rfl⟩:=ry
  cases x with
  | non=>cases rx; exact S7 a t'
  | bl b=>cases rx; exact S8 a t' b
  | int b=>obtain ⟨t,rfl⟩:=rx; exact Lo a t' b t
  | str b=>obtain ⟨t,rfl⟩:=rx; exact S6 a t' b t
  | _=>exact absurd (show false=true from fx) A9
 | _=>exact absurd (show false=true from fy) A9
noncomputable def eqU (x:V) (u:A2):Bool:=match u with
 | .none=>eqV .non x
 | .bool b=>eqV (.bl b) x
 | .int i _=>eqV (.int i) x
 | .str z _=>eqV (.str z) x
 | _=>false
theorem zg3 {x y:V} {u:A2} (r:RelV y u) (f:flatV y=true):eqU x u=eqV y x:=by
 cases y with
 | non=>cases r; rfl
 | bl b=>cases r; rfl
 | int i=>obtain ⟨t,rfl⟩:=r; rfl
 | str z=>obtain ⟨t,rfl⟩:=r; rfl
 | _=>exact absurd (show false=true from f) A9
theorem zdl {x:V}:∀ {xs:List V} {us:List A2},Vals xs us->xs.all flatV=true->us.any (eqU x)=xs.any fun y=>eqV y x
 | _,_,.nil,_=>rfl
 | y :: xs,u :: us,.cons r t,f=>by
  rw [Pg,Bz] at f
  rw [Gg,Gg,zg3 r f.1,zdl t f.2]
theorem zcl {A:B7} {s:A4} {x:V} {v:A2} (rx:RelV x v) (fx:flatV x=true):∀ {xs:List V} {us:List A2},Vals xs us->xs.all flatV=true->∀ u∈us,Nb A s u v (eqU x u)
 | _,_,.nil,_=>fun u hu=>by cases hu
 | y :: xs,u :: us,.cons r t,f=>fun u' hu=>by
  rw [Pg,Bz] at f
  rcases Bf.mp hu with rfl | hu
  ·rw [zg3 r f.1]; exact eqAt_V r rx f.1 fx
  ·exact zcl rx fx t f.2 u' hu
noncomputable def inV (x:V) (xs:List V):Bool:=xs.any fun y=>eqV y x
noncomputable def rIn (K:Am) (neg:Bool):R2:=fun x y H Q=>∃ p xs,y = .ref p/\(SqL K H p xs\/SqT K H p xs)/\flatV x=true/\xs.all flatV=true/\Q (.bl (if neg then !inV x xs else inV x xs)) H
theorem zeu:OpR X (compareOp .In) (rIn X.K false):=by
 intro pins s σ H x y v u Q I rx ry h
 obtain ⟨p,xs,rfl,hq,fx,fs,q⟩:=h
 cases ry
 rcases hq with hq | hq
 ·obtain ⟨its,r,pl,hz⟩:=I.list hq
  refine SeqAt.in_listAt (eqU x) pl.isList (fun w hw=>zcl rx fx r fs w (by simpa using hw)) ⟨.bl _,H,I,rfl,?_⟩
  rw [show its.toArray.any (eqU x)=its.any (eqU x) by simp,zdl r fs]
  exact q
 ·obtain ⟨its,r,pl,hz⟩:=I.tuple hq
  refine SeqAt.in_tupleAt (eqU x) pl (fun w hw=>zcl rx fx r fs w (by simpa using hw)) ⟨.bl _,H,I,rfl,?_⟩
  rw [show its.toArray.any (eqU x)=its.any (eqU x) by simp,zdl r fs]
  exact q
theorem zbS:OpR X (compareOp .NotIn) (rIn X.K true):=by
 intro pins s σ H x y v u Q I rx ry h
 obtain ⟨p,xs,rfl,hq,fx,fs,q⟩:=h
 cases ry
 rcases hq with hq | hq
 ·obtain ⟨its,r,pl,hz⟩:=I.list hq
  refine SeqAt.notIn_listAt (eqU x) pl.isList (fun w hw=>zcl rx fx r fs w (by simpa using hw)) ⟨.bl _,H,I,rfl,?_⟩
  rw [show its.toArray.any (eqU x)=its.any (eqU x) by simp,zdl r fs]
  exact q
 ·obtain ⟨its,r,pl,hz⟩:=I.tuple hq
  refine SeqAt.notIn_tupleAt (eqU x) pl (fun w hw=>zcl rx fx r fs w (by simpa using hw)) ⟨.bl _,H,I,rfl,?_⟩
  rw [show its.toArray.any (eqU x)=its.any (eqU x) by simp,zdl r fs]
  exact q
theorem zar:CallR X (.builtin "len") (fun xs H Q=>∃ p ys,xs = [.ref p]/\(SqL X.K H p ys\/SqT X.K H p ys)/\Q (.int ys.length) H):=by
 intro pins s σ H xs us Q I r h
 obtain ⟨p,ys,rfl,hq,q⟩:=h
 obtain ⟨u,rfl,rx⟩:=zb1 r
 cases rx
 have hn:=zdH
 rcases hq with hq | hq
 ·obtain ⟨its,r',pl,hz⟩:=I.list hq
  have hlen:=r'.length
  exact Calls.call_len_list pl.isList (by simp only [Az] <;> omega) ⟨.int ys.length,H,I.tok _,⟨s.toks + 1,by rw [Az,hlen]⟩,q⟩
 ·obtain ⟨its,r',pl,hz⟩:=I.tuple hq
  have hlen:=r'.length
  exact len_tuple pl (by simp only [Az] <;> omega) ⟨.int ys.length,H,I.tok _,⟨s.toks + 1,by rw [Az,hlen]⟩,q⟩
theorem call_len_str:CallR X (.builtin "len") (fun xs H Q=>∃ z,xs = [.str z]/\z.length<=sizeLine/\Q (.int z.length) H):=by
 intro pins s σ H xs us Q I r h
 obtain ⟨z,rfl,hz,q⟩:=h
 obtain ⟨u,rfl,t,rfl⟩:=zb1 r
 have hn:=zdH
 exact len_str (by omega) ⟨.int z.length,H,I.tok _,⟨_,rfl⟩,q⟩
theorem zbW:CallR X (.type "list") (fun xs H Q=>∃ p ys,xs = [.ref p]/\(SqL X.K H p ys\/SqT X.K H p ys)/\∀ l,H l=none->Q (.ref l) (upd H l (.lst ys))):=by
 intro pins s σ H xs us Q I r h
 obtain ⟨p,ys,rfl,hq,q⟩:=h
 obtain ⟨u,rfl,rx⟩:=zb1 r
 cases rx
 have fin:∀ (its:List A2),Vals ys its->ys.length<=sizeLine->∀ (h':Bx) (c':Nat),(∀ b o',s.heap.get? b=some o'->h'.get? b=some o') ->
   h'.get? s.heap.objs.size=some { cls := .type "list",dict:=none,data := .seq its.toArray c',slots := #[] }->EP X pins σ Q (.ref s.heap.objs.size) { s with heap:=h' }:=fun its r' hz h' c' kp e =>
  ⟨.ref s.heap.objs.size,_,I.laid (t':=s.toks) kp (Aa _) (show ObjOk X.prog X.w _ h' _ (.lst ys) from ⟨hz,its,c',r',e⟩),rfl,q _ (I.hok.fresh (Aa _))⟩
 rcases hq with hq | hq
 ·obtain ⟨its,r',pl,hz⟩:=I.list hq
  have hlen:=r'.length
  obtain ⟨o,ho,hc,n,hd⟩:=pl.isList
  exact S4 p (.inl rfl) ho hc hd (fun h' c' kp e=>fin its r' hz h' c' kp e) (by simp only [Az] <;> omega)
 ·obtain ⟨its,r',pl,hz⟩:=I.tuple hq
  have hlen:=r'.length
  obtain ⟨o,ho,hc,n,hd⟩:=pl
  exact S4 p (.inr rfl) ho hc hd (fun h' c' kp e=>fin its r' hz h' c' kp e) (by simp only [Az] <;> omega)
theorem zco:CallR X (.type "tuple") (fun xs H Q=>∃ p ys,xs = [.ref p]/\((SqL X.K H p ys/\∀ l,H l=none->Q (.ref l) (upd H l (.tup ys)))\/(SqT X.K H p ys/\Q (.ref p) H))):=by
 intro pins s σ H xs us Q I r h
 obtain ⟨p,ys,rfl,h⟩:=h
 obtain ⟨u,rfl,rx⟩:=zb1 r
 cases rx
 rcases h with ⟨hq,q⟩ | ⟨hq,q⟩
 ·obtain ⟨its,r',pl,hz⟩:=I.list hq
  have hlen:=r'.length
  refine call_tuple_list pl.isList (fun h' kp => ?_) (by simp only [Az] <;> omega)
  have I1:Inv X pins σ H { s with heap:=h' }:=I.kept (t':=s.toks) kp
  have I2:Inv X pins σ (upd H h'.objs.size (.tup ys)) { s with heap:=h'.push { cls := .type "tuple",data := .seq its.toArray } } :=
   I1.laid (t':=s.toks) (fun b o e=>A8 _ e) (Aa _) (show ObjOk X.prog X.w _ _ _ (.tup ys) from ⟨hz,its,r',IsTup.new _ _⟩)
  exact ⟨.ref h'.objs.size,_,I2,rfl,q _ (I1.hok.fresh (Aa _))⟩
 ·obtain ⟨its,r',pl,hz⟩:=I.tuple hq
  exact call_tuple_same pl ⟨.ref p,H,I,rfl,q⟩
noncomputable def tyV (K:Am) (T:String) (x:V) (H:Hp):Prop:=match x with
 | .str _=>T = "str"
 | .int _=>T = "int"
 | .ref p=>(T = "list" /\ ∃ xs,SqL K H p xs)\/(T = "tuple" /\ ∃ o,K.lookup p=some o/\o.cls = .type "tuple" /\ o.dict=none) \/
   (T = "dict" /\ ((∃ kvs,H p=some (.dK kvs))\/∃ kvs,H p=some (.dT kvs)))\/(T = "set" /\ ∃ S n,H p=some (.set S n))
 | _=>False
theorem zgN {pins:List (A3×Obj)} {σ : St} {H:Hp} {s:A4} {T:String} {x:V} {v:A2} (I:Inv X pins σ H s) (r:RelV x v) (ty:tyV X.K T x H) :
  s.TypeIs v T/\∀ a,v = .ref a->∃ ob,s.heap.get? a=some ob/\ob.dict=none:=by
 cases x with
 | str z =>
  obtain ⟨t,rfl⟩:=r
  cases (show T = "str" from ty)
  exact ⟨typeIs_str s z t,fun _ e=>nomatch e⟩
 | int i =>
  obtain ⟨t,rfl⟩:=r
  cases (show T = "int" from ty)
  exact ⟨Pa s i t,fun _ e=>nomatch e⟩
 | ref p =>
  cases r
  rcases ty with ⟨rfl,xs,hq⟩ | ⟨rfl,o,hk,hc,hd⟩ | ⟨rfl,hk⟩ | ⟨rfl,S,n,hk⟩
  ·obtain ⟨its,_,pl,_⟩:=I.list hq
   refine ⟨pl.isList.typeIs,fun a e => ?_⟩
   cases e
   obtain ⟨o,n,e,c,hd,_⟩:=pl
   exact ⟨o,e,hd⟩
  ·refine ⟨⟨o,I.kIn p o hk,hc⟩,fun a e => ?_⟩
   cases e
   exact ⟨o,I.kIn _ o hk,hd⟩
  ·have z:∃ o,s.heap.get? p=some o/\o.ExactDict:=by
    rcases hk with ⟨kvs,hk⟩ | ⟨kvs,hk⟩
    ·obtain ⟨_,_,_,_,o,_,_,e,ex,_⟩:=I.hok p _ hk
     exact ⟨o,e,ex⟩
    ·obtain ⟨_,_,_,_,o,_,_,e,ex,_⟩:=I.hok p _ hk
     exact ⟨o,e,ex⟩
   obtain ⟨o,e,ex⟩:=z
   refine ⟨⟨o,e,ex.1⟩,fun a e2 => ?_⟩
   cases e2
   exact ⟨o,e,ex.2.1⟩
  ·obtain ⟨o,_,_,_,e,ex,_⟩:=I.hok p _ hk
   refine ⟨⟨o,e,ex.1⟩,fun a e2 => ?_⟩
   cases e2
   exact ⟨o,e,ex.2.1⟩
 | _=>exact Cn ty
noncomputable def tBM0 (K:Am) (T:String) (r:V->List V->Hp->VK->Prop) (to:TE):TE:=fun σ H Q=>to σ H fun x H1=>tyV K T x H1/\r x [] H1 Q
noncomputable def tBM (K:Am) (T:String) (r:V->List V->Hp->VK->Prop) (to:TE) (t:TA):TE:=fun σ H Q=>to σ H fun x H1=>tyV K T x H1/\t σ H1 fun xs H2=>r x xs H2 Q
variable {o e:Ce} {es:List Ce} {to:TE} {t:TA} {name:Str} {apos cpos:Pos} {T id:String} {r:V->List V->Hp->VK->Prop}
theorem pe_bm0 (pa:PlainAttrs T) (slot:Slot T name id) (hty:typeOf (.builtin id)=pure (.type "method_descriptor")) (hm:MtR X id r) (ho:PE X o to)
  (hbase:attributeBase o name X.env (eval o X.env)=eval o X.env:=by rfl) (hline:(apos.endLine == cpos.line)=true:=by rfl):PE X (.Call (.Attribute o name apos) [] [] cpos) (tBM0 X.K T r to):=by
 intro pins s σ H Q I h
 refine wpAny_Call_method0_late hbase hline (thn (ho pins s σ H _ I h) fun v s1 ⟨x,H1,I1,r1,ty,q1⟩ => ?_)
 obtain ⟨h1,h2⟩:=zgN I1 r1 ty
 exact ⟨T,id,pa,slot,hty,h1,h2,M6 rfl (PySem.evalArgs_none (hm pins s1 σ H1 x [] v [] Q I1 r1 .nil q1))⟩
theorem zcj (pa:PlainAttrs T) (slot:Slot T name id) (hty:typeOf (.builtin id)=pure (.type "method_descriptor")) (hm:MtR X id r) (ho:PE X o to) (ha:PA X (e :: es) t)
  (hbase:attributeBase o name X.env (eval o X.env)=eval o X.env:=by rfl)
  (hfew:((backTo cpos (starEach (e :: es) X.env)).all (fun x => !x.1) && (backToKw cpos (keywordEach [] X.env)).all (fun x=>x.1.isSome)
   && decide ((e :: es).length + ([]:List Su).length + (if ([]:List Su).isEmpty then 0 else 1) < 30))=true:=by rfl)
  (hline:(apos.endLine == cpos.line)=true:=by rfl) (hs:starEach (e :: es) X.env=(false,eval e X.env) :: starEach es X.env:=by rfl) (hplain:(backTo cpos (starEach es X.env)).any (·.1)=false:=by rfl) :
  PE X (.Call (.Attribute o name apos) (e :: es) [] cpos) (tBM X.K T r to t):=by
 intro pins s σ H Q I h
 refine wpAny_Call_method_late hbase hfew hline rfl (thn (ho pins s σ H _ I h) fun v s1 ⟨x,H1,I1,r1,ty,q1⟩ => ?_)
 obtain ⟨h1,h2⟩:=zgN I1 r1 ty
 refine ⟨T,id,pa,slot,hty,h1,h2,?_⟩
 have hA:=ha cpos pins s1 σ H1 _ I1 q1
 rw [hs] at hA ⊢
 refine M6 (by show (false || (backTo cpos (starEach es X.env)).any (·.1))=false; rw [hplain] <;> rfl) (N0 ?_)
 exact thn hA fun us s2 ⟨vs,H2,I2,r2,q2⟩=>hm pins s2 σ H2 x vs v us Q I2 r1 r2 q2
end
noncomputable def MtM (X:Cx) (id:String) (r:V->List V->Hp->VK->Prop):Prop :=
 ∀ (pins:List (A3×Obj)) (s:A4) (σ : St) (H:Hp) (x:V) (xs:List V) (v:A2) (us:List A2) (Q:VK),Inv X pins σ H s->RelV x v->Vals xs us->r x xs H Q ->
  wpAny (model X.prog X.w) X.A (call (.builtin id) (v :: us)) (EP X pins σ Q) X.xe s
theorem Vals.one:∀ {x:V} {us:List A2},Vals [x] us->∃ u,us = [u]/\RelV x u
 | _,_,.cons r .nil=>⟨_,rfl,r⟩
theorem Vals.two:∀ {x y:V} {us:List A2},Vals [x,y] us->∃ u v,us = [u,v]/\RelV x u/\RelV y v
 | _,_,_,.cons r (.cons q .nil)=>⟨_,_,rfl,r,q⟩
theorem Vals.zero:∀ {us:List A2},Vals [] us->us = []
 | _,.nil=>rfl
theorem Vals.dropLast {xs:List V} {us:List A2} (h:Vals xs us):Vals xs.dropLast us.dropLast:=by
 induction h with
 | nil=>exact .nil
 | cons r t ih =>
  cases t with
  | nil=>exact .nil
  | cons q t'=>exact .cons r ih
theorem Vals.rep {xs:List V} {us:List A2} (h:Vals xs us):∀ k:Nat,Vals (Br k xs).flatten (Br k us).flatten
 | 0 => .nil
 | k + 1=>by
  rw [E9,E9,Fv,Fv]
  exact Vals.append h (Vals.rep h k)
theorem erase_last {α : Type} (l:List α):l.eraseIdx (l.length - 1)=l.dropLast:=by
 induction l with
 | nil=>rfl
 | cons a r ih =>
  cases r with
  | nil=>rfl
  | cons b r =>
   have e:(a :: b :: r).length - 1=((b :: r).length - 1) + 1:=by
    have h1:(a :: b :: r).length=r.length + 2:=rfl
    have h2:(b :: r).length=r.length + 1:=rfl
    omega
   rw [e,List.eraseIdx_cons_succ,ih]
   all_goals rfl
theorem zeI (its:List A2):∀ (k:Nat) (acc:List A2),
  Lb (fun x1 x2=>x1 ++ x2) acc.toArray (Br k its.toArray)=(acc ++ (Br k its).flatten).toArray
 | 0,acc=>by simp
 | k + 1,acc=>by
  have e:acc.toArray ++ its.toArray=(acc ++ its).toArray:=by simp
  have e2:(acc ++ its) ++ (Br k its).flatten=acc ++ (Br (k + 1) its).flatten:=by
   rw [E9,Fv,Au]
  rw [<- e2,<- zeI its k (acc ++ its),<- e,E9,Kx]
section
variable {X:Cx} {pins:List (A3×Obj)} {σ : St} {H:Hp} {s:A4} {l b:A3} {xs ys zs:List V}
theorem Inv.lset {its its':List A2} {n:Nat} {f:Array A2->Array A2} {t':Nat} (I:Inv X pins σ H s) (hH:H l=some (.lst xs))
  (e:s.heap.get? l=some { cls := .type "list",data := .seq its.toArray n }) (hf:f its.toArray=its'.toArray) (hv:Vals ys its') (hz:ys.length<=sizeLine) :
  Inv X pins σ (upd H l (.lst ys)) { s with heap:=s.heap.update l (D7 f),toks:=t' }:=by
 have q:=Ss e f
 rw [hf] at q
 refine I.write (x:=l) (e:=l) (by rw [hH]; exact trivial) (.inl rfl) (fun b' u hb hu=>(Fx s.heap (D7 f) (E7 hb)).trans hu) ⟨_,q⟩ ?_
 exact ⟨hz,its',_,hv,q⟩
theorem Inv.lnew {its:List A2} {t':Nat} (I:Inv X pins σ H s) (hv:Vals ys its) (hz:ys.length<=sizeLine) :
  Inv X pins σ (upd H s.heap.objs.size (.lst ys)) { s with heap:=s.heap.push { cls := .type "list",data := .seq its.toArray },toks:=t' } :=
 I.laid (fun _ _ q=>A8 _ q) (Aa _) ⟨hz,its,0,hv,Av _ rfl⟩
theorem Inv.fresh (I:Inv X pins σ H s):H s.heap.objs.size=none:=I.hok.fresh (Aa _)
theorem Inv.lstM (I:Inv X pins σ H s) (hH:H l=some (.lst xs)):xs.length<=sizeLine/\∃ (its:List A2) (n:Nat),Vals xs its/\xs.length=its.length/\s.heap.get? l=some { cls := .type "list",data := .seq its.toArray n }:=by
 obtain ⟨z,its,n,r,e⟩:=I.hok l _ hH
 exact ⟨z,its,n,r,r.length,e⟩
theorem notLongL {n:Nat} (h:n<=sizeLine):Gi n=false:=by
 unfold Gi
 exact decide_eq_false (by omega)
end
section
variable {X:Cx}
noncomputable def rAppend:V->List V->Hp->VK->Prop:=fun x vs H Q=>∃ l xs y,x = .ref l/\vs = [y]/\H l=some (.lst xs)/\xs.length < sizeLine/\Q .non (upd H l (.lst (xs ++ [y])))
theorem zaH:MtM X "list.append" rAppend:=by
 intro pins s σ H x vs v us Q I rx rv h
 obtain ⟨l,xs,y,rfl,rfl,hH,hz,q⟩:=h
 cases rx
 obtain ⟨u,rfl,ru⟩:=rv.one
 obtain ⟨z,its,n,r,hl,e⟩:=I.lstM hH
 refine Jd F.slot_list_append ⟨_,e,rfl⟩ F.entry_list_append (F.args_list_append_2 _ _) (PySem.list_append l its.toArray n u (by rw [Az]; omega)) ⟨e,?_⟩
 refine ⟨.non,_,I.lset (its':=its ++ [u]) hH e (by simp) (r.append (.cons ru .nil)) ?_,rfl,q⟩
 rw [Ag,Bd]
 omega
noncomputable def rPop:V->List V->Hp->VK->Prop:=fun x vs H Q=>∃ l xs y,x = .ref l/\vs = []/\H l=some (.lst xs)/\xs[xs.length - 1]?=some y/\Q y (upd H l (.lst xs.dropLast))
theorem mt_pop:MtM X "list.pop" rPop:=by
 intro pins s σ H x vs v us Q I rx rv h
 obtain ⟨l,xs,y,rfl,rfl,hH,hy,q⟩:=h
 cases rx
 have hus:=rv.zero
 subst hus
 obtain ⟨z,its,n,r,hl,e⟩:=I.lstM hH
 obtain ⟨u,hu,ru⟩:=r.get hy
 have hy':its.toArray[its.toArray.size - 1]?=some u:=by
  show its.toArray[its.length - 1]?=some u
  rw [<- Ci,<- hl]
  exact hu
 refine Jd F.slot_list_pop ⟨_,e,rfl⟩ F.entry_list_pop (F.args_list_pop_1 _) (MeetsSeq.list_pop_last l its.toArray n u hy' (by rw [Az]; omega)) ⟨e,?_⟩
 refine ⟨y,_,I.lset (its':=its.dropLast) hH e ?_ r.dropLast ?_,ru,q⟩
 ·show its.toArray.eraseIdxIfInBounds (its.toArray.size - 1)=its.dropLast.toArray
  rw [Az,List.eraseIdxIfInBounds_toArray,erase_last]
 ·rw [N8]
  omega
noncomputable def rCat:R2:=fun x y H Q=>∃ l b xs zs,x = .ref l/\y = .ref b/\H l=some (.lst xs)/\H b=some (.lst zs)/\xs.length + zs.length<=sizeLine/\∀ p,H p=none->Q (.ref p) (upd H p (.lst (xs ++ zs)))
theorem zbT:OpR X (binaryOp .Add) rCat:=by
 intro pins s σ H x y v u Q I rx ry h
 obtain ⟨l,b,xs,zs,rfl,rfl,hH,hB,hz,q⟩:=h
 cases rx
 cases ry
 obtain ⟨z,its,n,r,hl,e⟩:=I.lstM hH
 obtain ⟨z2,its2,n2,r2,hl2,e2⟩:=I.lstM hB
 refine PySem.P.add_list e e2 ?_ (by rw [Az,Az]; omega)
 have ea:its.toArray ++ its2.toArray=(its ++ its2).toArray:=by simp
 rw [ea]
 exact ⟨.ref _,_,I.lnew (t':=s.toks) (r.append r2) (by rw [Ag]; omega),rfl,q _ I.fresh⟩
noncomputable def rRep:R2:=fun x y H Q=>∃ l k xs,x = .ref l/\y = .int k/\H l=some (.lst xs) /\ -(2 ^ 63)<=k/\k < 2 ^ 63/\xs.length * k.toNat<=sizeLine /\
 ∀ p,H p=none->Q (.ref p) (upd H p (.lst (Br k.toNat xs).flatten))
theorem len_rep {α : Type} (xs:List α) (k:Nat):(Br k xs).flatten.length=k * xs.length:=by
 induction k with
 | zero=>simp
 | succ k ih=>rw [E9,Fv,Ag,ih,Nat.succ_mul,Mu]
theorem op_rep:OpR X (binaryOp .Mult) rRep:=by
 intro pins s σ H x y v u Q I rx ry h
 obtain ⟨l,k,xs,rfl,rfl,hH,h1,h2,hz,q⟩:=h
 cases rx
 obtain ⟨t,rfl⟩:=ry
 obtain ⟨z,its,n,r,hl,e⟩:=I.lstM hH
 have hlen:its.toArray.size * k.toNat<=sizeLine:=by rw [Az,<- hl]; exact hz
 have hcap:¬ its.toArray.size * k.toNat > (2 ^ 63 - 1) / 8:=by
  have:(sizeLine:Nat)<=(2 ^ 63 - 1) / 8:=by decide
  omega
 have hfit:¬ (!Builtin.List.listFitsIndex k)=true:=by
  rw [fitsIndex_both h1 h2]
  exact A9
 have hlong:¬ Gi (its.toArray.size * k.toNat)=true:=by
  rw [notLongL hlen]
  exact A9
 have hnew:Lb (fun x1 x2=>x1 ++ x2) #[] (Br (if its.toArray.isEmpty=true then 0 else k.toNat) its.toArray)=(Br k.toNat its).flatten.toArray:=by
  have f0:∀ m:Nat,Lb (fun x1 x2=>x1 ++ x2) #[] (Br m its.toArray)=(Br m its).flatten.toArray:=fun m=>by
   have:=zeI its m []
   rw [List.nil_append] at this
   exact this
  rw [f0]
  cases its with
  | nil=>simp
  | cons a r'=>rw [if_neg (by simp)]
 refine wpAny_binaryOp_repeat_ref (T := "list") (U := "int") (by decide) ⟨_,e,rfl⟩ (fun s'=>Pa s' k t) noFill_list_mul F.fills_int_mul Pr repeat_list F.slot_int_index.lookup
  (Jd Pr (Pa s k t) F.entry_int_rmul (F.args_int_rmul_2 _ _) (int___rmul___int_list k t l its.toArray n)
   ⟨e,rfl,⟨_,e,rfl⟩,Jd F.slot_list_mul ⟨_,e,rfl⟩ F.entry_list_mul (F.args_list_mul_2 _ _) (Sy l its.toArray n k t hfit hcap hlong) ⟨e,?_⟩⟩)
 rw [hnew]
 exact ⟨.ref _,_,I.lnew (t':=s.toks) (r.rep k.toNat) (by rw [len_rep,Nat.mul_comm]; exact hz),rfl,q _ I.fresh⟩
end
section
variable {prog:Ap} {w:Bb} {A:B7} {E:A2->A4->Prop} {s:A4}
end
section
variable {X:Cx}
end
section
variable {κ : Type} [DecidableEq κ]
noncomputable def valV (kvs:List (κ × V)) (k : κ):Option V:=(kvs.find? fun kv=>decide (kv.1=k)).map (·.2)
noncomputable def putK (kvs:List (κ × V)) (k : κ) (v:V):List (κ × V) :=
 if (kvs.any fun kv=>decide (kv.1=k))=true then kvs.map (fun kv=>if kv.1=k then (kv.1,v) else kv) else kvs ++ [(k,v)]
theorem za0 {p : κ × V} {r:List (κ × V)} {k : κ} (e:p.1=k):valV (p :: r) k=some p.2:=by simp [valV,F5,e]
theorem zaX {p : κ × V} {r:List (κ × V)} {k : κ} (e:¬ p.1=k):valV (p :: r) k=valV r k:=by simp [valV,F5,e]
theorem zbp (k : κ):∀ kvs:List (κ × V),(kvs.any fun kv=>decide (kv.1=k))=(valV kvs k).isSome
 | []=>rfl
 | p :: r=>by
  rw [Gg]
  by_cases e:p.1=k
  ·simp only [za0 e,decide_eq_true e,Bool.true_or,Option.isSome_some]
  ·rw [zaX e,decide_eq_false e,Pi]; exact zbp k r
theorem zfd (k j : κ) (y:V):∀ kvs:List (κ × V),valV (kvs.map fun kv=>if kv.1=k then (kv.1,y) else kv) j=(valV kvs j).map fun x=>if j=k then y else x
 | []=>rfl
 | p :: r=>by
  have ih:=zfd k j y r
  rw [Aq]
  by_cases h:p.1=k
  ·rw [if_pos h]
   by_cases e:p.1=j
   ·rw [za0 (p:=(p.1,y)) e,za0 e,Cf,if_pos (e.symm.trans h)]
   ·rw [zaX (p:=(p.1,y)) e,zaX e,ih]
  ·rw [if_neg h]
   by_cases e:p.1=j
   ·rw [za0 (p:=p) e,za0 e,Cf,if_neg (fun z=>h (e.trans z))]
   ·rw [zaX (p:=p) e,zaX e,ih]
theorem zeg (k j : κ) (y:V):∀ kvs:List (κ × V),valV kvs k=none->valV (kvs ++ [(k,y)]) j=if j=k then some y else valV kvs j
 | [],_=>by
  by_cases e:k=j
  ·rw [if_pos e.symm]; exact za0 (p:=(k,y)) e
  ·rw [if_neg (fun z=>e z.symm)]; exact zaX (p:=(k,y)) e
 | p :: r,hn=>by
  rw [Km]
  have hk:¬ p.1=k:=fun z=>by rw [za0 z] at hn; cases hn
  rw [zaX hk] at hn
  have ih:=zeg k j y r hn
  by_cases e:p.1=j
  ·rw [za0 e,za0 e,if_neg (fun z=>hk (e.trans z))]
  ·rw [zaX e,zaX e,ih]
theorem valV_put (kvs:List (κ × V)) (k j : κ) (y:V):valV (putK kvs k y) j=if j=k then some y else valV kvs j:=by
 unfold putK
 by_cases a:(kvs.any fun kv=>decide (kv.1=k))=true
 ·rw [if_pos a,zfd]
  rw [zbp] at a
  by_cases e:j=k
  ·obtain ⟨x,hx⟩:=D5.mp a
   rw [if_pos e,e,hx,Cf,if_pos rfl]
  ·rw [if_neg e]
   cases valV kvs j with
   | none=>rfl
   | some x=>rw [Cf,if_neg e]
 ·rw [if_neg a]
  refine zeg k j y kvs ?_
  rw [zbp] at a
  cases q:valV kvs k with
  | none=>rfl
  | some x=>rw [q] at a; exact (a rfl).elim
theorem zda (kvs:List (κ × V)) (k : κ) (v:V):(putK kvs k v).length<=kvs.length + 1:=by
 unfold putK
 split
 ·rw [A5]; omega
 ·rw [Ag,Aw,Iw]; omega
theorem zfr {kvs:List (κ × V)} {k : κ} (v:V) (h:valV kvs k=none):putK kvs k v=kvs ++ [(k,v)]:=by
 unfold putK
 rw [zbp,h]
 exact if_neg (by decide)
theorem RelO.isSome_eq {o:Option V} {u:Option A2} (r:RelO o u):o.isSome=u.isSome:=by
 cases o with
 | none=>cases u with
  | none=>rfl
  | some _=>exact (show False from r).elim
 | some _=>cases u with
  | none=>exact (show False from r).elim
  | some _=>rfl
theorem KV.val {kvs:List (κ × V)} {vs:List (κ × A2)} (r:KV kvs vs) (k : κ):RelO (valV kvs k) (valueAt vs k):=by
 unfold KV at r
 induction r with
 | nil=>exact Eg
 | @cons p q ps qs h t ih =>
  obtain ⟨h1,h2⟩:=h
  by_cases e:p.1=k
  ·have e':q.1=k:=h1.symm.trans e
   have b:valueAt (q :: qs) k=some q.2:=by simp [valueAt,F5,e']
   rw [za0 e,b]; exact h2
  ·have e':¬ q.1=k:=fun z=>e (h1.trans z)
   have b:valueAt (q :: qs) k=valueAt qs k:=by simp [valueAt,F5,e']
   rw [zaX e,b]; exact ih
theorem KV.any {kvs:List (κ × V)} {vs:List (κ × A2)} (r:KV kvs vs) (k : κ):(kvs.any fun kv=>decide (kv.1=k))=vs.any fun kv=>decide (kv.1=k):=by
 unfold KV at r
 induction r with
 | nil=>rfl
 | cons h t ih=>rw [Gg,Gg,ih,h.1]
theorem KV.repl {kvs:List (κ × V)} {vs:List (κ × A2)} (r:KV kvs vs) (k : κ) {y:V} {u:A2} (ry:RelV y u) :
  KV (kvs.map fun kv=>if kv.1=k then (kv.1,y) else kv) (vs.map fun kv=>if kv.1=k then (kv.1,u) else kv):=by
 unfold KV at r ⊢
 induction r with
 | nil=>exact .nil
 | @cons p q ps qs h t ih =>
  rw [Aq,Aq]
  refine .cons ?_ ih
  obtain ⟨h1,h2⟩:=h
  by_cases e:p.1=k
  ·rw [if_pos e,if_pos (h1.symm.trans e)]; exact ⟨h1,ry⟩
  ·rw [if_neg e,if_neg (fun z=>e (h1.trans z))]; exact ⟨h1,h2⟩
theorem KV.put {kvs:List (κ × V)} {vs:List (κ × A2)} (r:KV kvs vs) (k : κ) {y:V} {u:A2} (ry:RelV y u):KV (putK kvs k y) (stored vs k u):=by
 unfold putK stored
 rw [r.any k]
 by_cases e:(vs.any fun kv=>decide (kv.1=k))=true
 ·rw [if_pos e,if_pos e]; exact r.repl k ry
 ·rw [if_neg e,if_neg e]; exact Ev r ⟨rfl,ry⟩
theorem KV.length {kvs:List (κ × V)} {vs:List (κ × A2)} (r:KV kvs vs):kvs.length=vs.length:=Cz r
end
theorem zgn {P:Ap} {w:Bb} {k:Key} {u:A2} (r:RelV (kV k) u):(mixKind P w).is k u=true:=by
 cases k with
 | inl i=>obtain ⟨t,e⟩:=(show ∃ t,u=Hr i t from r); subst e; exact mixKind_int P w i t
 | inr x=>obtain ⟨t,e⟩:=(show ∃ t,u=Kc x t from r); subst e; exact mixKind_str P w x t
theorem zeC {P:Ap} {w:Bb}:∀ {ks:List Key} {us:List A2},Vals (ks.map kV) us->ItemsAre (mixKind P w) ks us
 | [],_,r=>by rw [Gq] at r; cases r; exact .nil
 | k :: ks,_,r=>by
  rw [Aq] at r
  cases r with
  | cons h t=>exact .cons (zgn h) (zeC t)
noncomputable abbrev KT (H:Hp):List (List Key×V)->List (List Key×A3×A2)->Prop:=C7 fun p q=>p.1=q.1/\H q.2.1=some (.tup (p.1.map kV))/\RelV p.2 q.2.2
theorem KT.val {H:Hp} {kvs:List (List Key×V)} {xs:List (List Key×A3×A2)} (r:KT H kvs xs) (k:List Key):RelO (valV kvs k) ((atKey xs k).map (·.2)):=by
 induction r with
 | nil=>exact Eg
 | @cons p q ps qs h t ih =>
  obtain ⟨h1,_,h2⟩:=h
  by_cases e:p.1=k
  ·have e':q.1=k:=h1.symm.trans e
   have b:atKey (q :: qs) k=some q.2:=by simp [atKey,F5,e']
   rw [za0 e,b]; exact h2
  ·have e':¬ q.1=k:=fun z=>e (h1.trans z)
   have b:atKey (q :: qs) k=atKey qs k:=by simp [atKey,F5,e']
   rw [zaX e,b]; exact ih
theorem KT.repl {H:Hp} {kvs:List (List Key×V)} {xs:List (List Key×A3×A2)} (r:KT H kvs xs) (k:List Key) {y:V} {u:A2} (ry:RelV y u) :
  KT H (kvs.map fun kv=>if kv.1=k then (kv.1,y) else kv) (xs.map (putAt k u)):=by
 induction r with
 | nil=>exact .nil
 | @cons p q ps qs h t ih =>
  rw [Aq,Aq]
  refine .cons ?_ ih
  obtain ⟨h1,h2,h3⟩:=h
  unfold putAt
  by_cases e:p.1=k
  ·rw [if_pos e,if_pos (h1.symm.trans e)]; exact ⟨h1,h2,ry⟩
  ·rw [if_neg e,if_neg (fun z=>e (h1.trans z))]; exact ⟨h1,h2,h3⟩
theorem KT.put {H:Hp} {kvs:List (List Key×V)} {xs:List (List Key×A3×A2)} (r:KT H kvs xs) (k:List Key) {b:A3} {y:V} {u:A2} (hb:H b=some (.tup (k.map kV))) (ry:RelV y u) :
  KT H (putK kvs k y) (storedH xs k b u):=by
 have e:(kvs.any fun kv=>decide (kv.1=k))=(atKey xs k).isSome:=by
  rw [zbp,(r.val k).isSome_eq,Hh]
 unfold putK storedH
 rw [e]
 by_cases q:(atKey xs k).isSome=true
 ·rw [if_pos q,if_pos q]; exact r.repl k ry
 ·rw [if_neg q,if_neg q]; exact Ev r ⟨rfl,hb,ry⟩
theorem KT.keeps {H H':Hp} {kvs:List (List Key×V)} {xs:List (List Key×A3×A2)} (r:KT H kvs xs) (ht:∀ b ys,H b=some (.tup ys)->H' b=some (.tup ys)):KT H' kvs xs :=
 C7.mapP r fun _ _ z=>⟨z.1,ht _ _ z.2.1,z.2.2⟩
section
variable {P:Ap} {w:Bb} {H:Hp} {h:Bx} {a:A3}
theorem zhj {u:HO} (ok:HOk P w H h) (e:Rd H a u):ObjOk P w H h a u:=e.ok ok
theorem ze6 {kvs:List (Key×V)} (ok:HOk P w H h) (e:Rd H a (.dK kvs)):kvs.length<=sizeLine/\(a == sysModules)=false/\∃ vs,KV kvs vs/\h.DictOf (mixKind P w) a vs :=
 show ObjOk P w H h a (.dK kvs) from zhj ok e
theorem zho {kvs:List (Key×V)} (ok:HOk P w H h) (e:H a=some (.dK kvs)):kvs.length<=sizeLine/\(a == sysModules)=false/\∃ vs,KV kvs vs/\h.DictOf (mixKind P w) a vs:=ze6 ok (.inl e)
theorem zdf {ks:List Key} (ok:HOk P w H h) (e:H a=some (.tup (ks.map kV))):(tupleKind (mixKind P w)).is h ks a:=by
 obtain ⟨_,its,r,o,h1,h2,n,h3⟩:=(show ObjOk P w H h a (.tup (ks.map kV)) from ok a _ e)
 exact ⟨o,its.toArray,n,h1,h2,h3,by simpa using zeC r⟩
theorem zgx {kvs:List (List Key×V)} (ok:HOk P w H h) (e:Rd H a (.dT kvs)):kvs.length<=sizeLine/\(a == sysModules)=false /\
  ∃ xs,KT H kvs xs/\h.DictOfH (tupleKind (mixKind P w)) a xs:=by
 obtain ⟨z,y,xs,r,o,es,ep,h1,h2,h3,h4,h5⟩:=(show ObjOk P w H h a (.dT kvs) from zhj ok e)
 refine ⟨z,y,xs,r,o,es,ep,h1,h2,h3,h4,fun x hx => ?_,h5⟩
 have all:∀ {l:List (List Key×V)} {m:List (List Key×A3×A2)},KT H l m->∀ x∈m,(tupleKind (mixKind P w)).is h x.1 x.2.1:=by
  intro l m q
  induction q with
  | nil=>intro x hx; exact nomatch hx
  | @cons p q ps qs hq t ih =>
   intro x hx
   rcases Bf.mp hx with e | hx
   ·subst e
    exact zdf ok (by rw [<- hq.1]; exact hq.2.1)
   ·exact ih x hx
 exact all r x hx
theorem zhn {kvs:List (List Key×V)} (ok:HOk P w H h) (e:H a=some (.dT kvs)):kvs.length<=sizeLine/\(a == sysModules)=false /\
  ∃ xs,KT H kvs xs/\h.DictOfH (tupleKind (mixKind P w)) a xs:=zgx ok (.inl e)
end
noncomputable def DGet (H:Hp) (a:A3) (y:V) (r:Option V):Prop :=
 (∃ kvs k,Rd H a (.dK kvs)/\y=kV k/\r=valV kvs k)\/∃ kvs k b,Rd H a (.dT kvs)/\y = .ref b/\H b=some (.tup (k.map kV))/\r=valV kvs k
noncomputable def DPut (H:Hp) (a:A3) (y v:V) (H':Hp):Prop :=
 (∃ kvs k,H a=some (.dK kvs)/\y=kV k/\kvs.length < sizeLine/\H'=upd H a (.dK (putK kvs k v))) \/
 ∃ kvs k b,H a=some (.dT kvs)/\y = .ref b/\H b=some (.tup (k.map kV))/\kvs.length < sizeLine/\H'=upd H a (.dT (putK kvs k v))
theorem DGet.k {H:Hp} {a:A3} {kvs:List (Key×V)} {k:Key} (e:H a=some (.dK kvs)):DGet H a (kV k) (valV kvs k) := .inl ⟨kvs,k,.inl e,rfl,rfl⟩
theorem DGet.t {H:Hp} {a b:A3} {kvs:List (List Key×V)} {k:List Key} (e:H a=some (.dT kvs)) (eb:H b=some (.tup (k.map kV))):DGet H a (.ref b) (valV kvs k) := .inr ⟨kvs,k,b,.inl e,rfl,eb,rfl⟩
theorem DPut.k {H:Hp} {a:A3} {kvs:List (Key×V)} {k:Key} {v:V} (e:H a=some (.dK kvs)) (hl:kvs.length < sizeLine):DPut H a (kV k) v (upd H a (.dK (putK kvs k v))) := .inl ⟨kvs,k,e,rfl,hl,rfl⟩
theorem DPut.t {H:Hp} {a b:A3} {kvs:List (List Key×V)} {k:List Key} {v:V} (e:H a=some (.dT kvs)) (eb:H b=some (.tup (k.map kV))) (hl:kvs.length < sizeLine) :
  DPut H a (.ref b) v (upd H a (.dT (putK kvs k v))) := .inr ⟨kvs,k,b,e,rfl,eb,hl,rfl⟩
section
variable {X:Cx} {pins:List (A3×Obj)} {σ : St} {H:Hp} {s:A4} {a:A3} {y v:V} {u r:A2} {o:Option V} {A:B7} {E:A2->A4->Prop}
theorem Inv.big (I:Inv X pins σ H s):sysModules < s.heap.objs.size:=by
 have h:mainGlobals < s.heap.objs.size:=(I.mod.glob.keeps I.bk).lt
 exact Gs (by decide) h
theorem d_getItem {Q:A2->A4->Prop} (hu:A.units + 1 < cLine) (I:Inv X pins σ H s) (g:DGet H a y (some v)) (ry:RelV y u) (h:∀ w' s',Inv X pins σ H s'->RelV v w'->Q w' s') :
  wpAny (model X.prog X.w) A (getItem (.ref a) u) Q E s:=by
 rcases g with ⟨kvs,k,e,ey,l⟩ | ⟨kvs,k,b,e,ey,eb,l⟩
 ·subst ey
  obtain ⟨z,hd,vs,rel,dd⟩:=ze6 I.hok e
  obtain ⟨w',hw,rw'⟩:=RelO.some_of (v:=v) (o:=valueAt vs k) (by rw [l]; exact rel.val k)
  exact wpAny_getItem_of (zgn ry) dd.mapOf hw (h w' _ (I.tok _) rw')
 ·subst ey
  cases (show u=B1 b from ry)
  obtain ⟨z,hd,xs,rel,dd⟩:=zgx I.hok e
  obtain ⟨w',hw,rw'⟩:=RelO.some_of (v:=v) (o:=(atKey xs k).map (·.2)) (by rw [l]; exact rel.val k)
  obtain ⟨p,hp,hp2⟩:=Ls.mp hw
  refine P8 (Ho hu) (zdf I.hok eb) dd hp ?_
  rw [hp2]
  exact h w' _ (I.tok _) rw'
theorem d_in {Q:A2->A4->Prop} (hu:A.units + 1 < cLine) (I:Inv X pins σ H s) (g:DGet H a y o) (ry:RelV y u) (h:∀ s',Inv X pins σ H s'->Q (.bool o.isSome) s') :
  wpAny (model X.prog X.w) A (compareOp .In u (.ref a)) Q E s:=by
 rcases g with ⟨kvs,k,e,ey,l⟩ | ⟨kvs,k,b,e,ey,eb,l⟩
 ·subst ey
  obtain ⟨z,hd,vs,rel,dd⟩:=ze6 I.hok e
  refine wpAny_in_of (zgn ry) hd dd.mapOf ?_
  rw [<- (rel.val k).isSome_eq,<- l]
  exact h _ (I.tok _)
 ·subst ey
  cases (show u=B1 b from ry)
  obtain ⟨z,hd,xs,rel,dd⟩:=zgx I.hok e
  refine wpAny_in_heap (Ho hu) (zdf I.hok eb) hd dd ?_
  have q:=(rel.val k).isSome_eq
  rw [Hh] at q
  rw [<- q,<- l]
  exact h _ (I.tok _)
theorem d_notIn {Q:A2->A4->Prop} (hu:A.units + 1 < cLine) (I:Inv X pins σ H s) (g:DGet H a y o) (ry:RelV y u) (h:∀ s',Inv X pins σ H s'->Q (.bool (!o.isSome)) s') :
  wpAny (model X.prog X.w) A (compareOp .NotIn u (.ref a)) Q E s:=by
 rcases g with ⟨kvs,k,e,ey,l⟩ | ⟨kvs,k,b,e,ey,eb,l⟩
 ·subst ey
  obtain ⟨z,hd,vs,rel,dd⟩:=ze6 I.hok e
  refine wpAny_notIn_of (zgn ry) hd dd.mapOf ?_
  rw [<- (rel.val k).isSome_eq,<- l]
  exact h _ (I.tok _)
 ·subst ey
  cases (show u=B1 b from ry)
  obtain ⟨z,hd,xs,rel,dd⟩:=zgx I.hok e
  refine Pt (Ho hu) (zdf I.hok eb) hd dd ?_
  have q:=(rel.val k).isSome_eq
  rw [Hh] at q
  rw [<- q,<- l]
  exact h _ (I.tok _)
theorem zd7 {h':Bx} {t':Nat} {ob:HO} (I:Inv X pins σ H s) (mu:Mut (H a)) (hs:Fk a s.heap h') (he:∃ q,h'.get? a=some q) (new:ObjOk X.prog X.w (upd H a ob) h' a ob) :
  Inv X pins σ (upd H a ob) { s with heap:=h',toks:=t' } :=
 I.write (x:=a) (e:=a) mu (.inl rfl) (fun b q hb z=>(hs.2 b hb).trans z) he new
theorem zg6 {P:Ap} {w:Bb} {H':Hp} {h':Bx} {kvs:List (Key×V)} {vs:List (Key×A2)} (z:kvs.length<=sizeLine) (hd:(a == sysModules)=false) (rel:KV kvs vs) (dd:h'.DictOf (mixKind P w) a vs) :
  ObjOk P w H' h' a (.dK kvs):=⟨z,hd,vs,rel,dd⟩
theorem d_setItem {H':Hp} {Q:Unit->A4->Prop} (hu:A.units + 1 < cLine) (I:Inv X pins σ H s) (g:DPut H a y v H') (ry:RelV y u) (rv:RelV v r) (h:∀ s',Inv X pins σ H' s'->Q () s') :
  wpAny (model X.prog X.w) A (setItem (.ref a) u r) Q E s:=by
 rcases g with ⟨kvs,k,e,ey,l,eH⟩ | ⟨kvs,k,b,e,ey,eb,l,eH⟩
 ·subst ey eH
  obtain ⟨z,hd,vs,rel,dd⟩:=zho I.hok e
  have hz:vs.length<=sizeLine:=by rw [<- rel.length]; exact z
  have hl:(putK kvs k v).length<=sizeLine:=by have:=zda kvs k v; omega
  refine wpAny_setItem_pairs (hsz:=hz) (zgn ry) dd fun h' dd' hs=>h _ ?_
  have he:∃ q,h'.get? a=some q:=let ⟨q,_,_,hq,_⟩:=dd'; ⟨q,hq⟩
  exact zd7 I (by rw [e]; exact Eg) hs he (zg6 hl hd (rel.put k rv) dd')
 ·subst ey eH
  cases (show u=B1 b from ry)
  obtain ⟨z,hd,xs,rel,dd⟩:=zhn I.hok e
  have hz:xs.length<=sizeLine:=by rw [<- Cz rel]; exact z
  have hl:(putK kvs k v).length<=sizeLine:=by have:=zda kvs k v; omega
  refine P6 (hsz:=hz) (Ho hu) (zdf I.hok eb) dd fun h' dd' hs=>h _ ?_
  obtain ⟨q,es,ep,hq,h2,h3,h4,_,h5⟩:=dd'
  refine zd7 I (by rw [e]; exact Eg) hs ⟨q,hq⟩ ⟨hl,hd,_,(rel.put k eb rv).keeps fun c ys ec => ?_,q,es,ep,hq,h2,h3,h4,h5⟩
  rw [zaf (zhg ec e (fun z=>nomatch z))]
  exact ec
end
section
variable {X:Cx} {pins:List (A3×Obj)} {σ : St} {H:Hp} {s:A4} {a:A3} {kvs:List (Key×V)} {k:Key} {u:A2} {A:B7} {E:A2->A4->Prop}
theorem d_len {Q:A2->A4->Prop} (I:Inv X pins σ H s) (e:Rd H a (.dK kvs)) (h:∀ t s',Inv X pins σ H s'->Q (.int kvs.length t) s'):wpAny (model X.prog X.w) A (call (.builtin "len") [.ref a]) Q E s:=by
 obtain ⟨z,hd,vs,rel,dd⟩:=ze6 I.hok e
 refine call_len_dict hd dd (by rw [<- rel.length]; rw [Oo] at z; omega) ?_
 rw [<- rel.length]
 exact h _ _ (I.tok _)
end
noncomputable def NoSl (i:Ce):Prop:=∀ ov iv,subscripted i false ov iv=operate [ov,iv] (getItem ov iv)
theorem zfT {prog:Ap} {w:Bb} {A:B7} {E:A2->A4->Prop} {s:A4} {env:Env} {value slice:Ce} {pos:Pos} {T id:String} {Q:A2->A4->Prop}
  (hl:typeLookup (.type T) "__getitem__" = pure (some (.builtin id))) (hs:NoSl slice)
  (h:wpAny (model prog w) A (eval value env) (fun o s₁ => wpAny (model prog w) A (eval slice env) (fun i s₂ => s₂.TypeIs o T/\wpAny (model prog w) A (getItem o i) Q E s₂) E s₁) E s) :
  wpAny (model prog w) A (eval (.Subscript value slice pos) env) Q E s:=by
 refine Pb (Dg h (fun o s₁ h₁ => Dg h₁ (fun i s₂ h₂ => ?_) fun _ _ x=>x) fun _ _ x=>x)
 obtain ⟨hT,h₂⟩:=h₂
 unfold subscriptTail
 refine A1 ?_
 rw [getitemInPython_of_ne hT.not_modules]
 refine A1 (Gz hT hl ?_)
 have fin:wpAny (model prog w) A (subscripted slice false o i) (fun r s₃ => wpAny (model prog w) A (letTemporaryGo value o r >>= fun _=>pure r) Q E s₃) E s₂ := by
  rw [hs o i]
  exact wpAny_operating (Dg h₂ (fun r s₃ h₃ => A1 (wpAny_letTemporaryGo (Ad h₃))) fun _ _ x=>x)
 first
  | exact Ad (A1 fin)
  | exact A1 (Ad (A1 fin))
  | exact A1 fin
theorem dict_typeIs {X:Cx} {pins:List (A3×Obj)} {σ : St} {H:Hp} {s:A4} {a:A3} {y:V} {o:Option V} (I:Inv X pins σ H s) (g:DGet H a y o):s.TypeIs (.ref a) "dict" := by
 rcases g with ⟨kvs,k,e,_,_⟩ | ⟨kvs,k,b,e,_,_,_⟩
 ·obtain ⟨_,_,vs,_,dd⟩:=ze6 I.hok e
  exact dd.typeIs
 ·obtain ⟨_,_,xs,_,dd⟩:=zgx I.hok e
  exact dd.typeIs
noncomputable def tDGet (td ty:TE):TE:=fun σ H Q=>td σ H fun x H1=>ty σ H1 fun y H2=>∃ a v,x = .ref a/\DGet H2 a y (some v)/\Q v H2
noncomputable def tDIn (ty td:TE):TE:=fun σ H Q=>ty σ H fun y H1=>td σ H1 fun x H2=>∃ a o,x = .ref a/\DGet H2 a y o/\Q (.bl o.isSome) H2
noncomputable def tDNotIn (ty td:TE):TE:=fun σ H Q=>ty σ H fun y H1=>td σ H1 fun x H2=>∃ a o,x = .ref a/\DGet H2 a y o/\Q (.bl (!o.isSome)) H2
noncomputable def sDPut (td ty tv:TE):TS:=fun D σ H=>tv σ H fun v H1=>td σ H1 fun x H2=>ty σ H2 fun y H3=>∃ a H4,x = .ref a/\DPut H3 a y v H4/\D.nx σ H4
section
variable {X:Cx} {o i e value:Ce} {pos pos' tpos:Pos} {td ty tv:TE}
theorem zb8 (hu:X.A.units + 1 < cLine) (ho:PE X o td) (hi:PE X i ty) (hs:NoSl i):PE X (.Subscript o i pos) (tDGet td ty):=by
 intro pins s σ H Q I h
 refine zfT Ku.lookup hs (thn (ho pins s σ H _ I h) fun u s1 ⟨x,H1,I1,rx,q1⟩=>thn (hi pins s1 σ H1 _ I1 q1) fun iv s2 ⟨y,H2,I2,ry,a,v,ex,g,q2⟩ => ?_)
 subst ex
 obtain rfl:u=B1 a:=rx
 exact ⟨dict_typeIs I2 g,d_getItem hu I2 g ry fun w' s3 I3 rw'=>⟨v,H2,I3,rw',q2⟩⟩
theorem zcI (hu:X.A.units + 1 < cLine) (hi:PE X i ty) (ho:PE X o td):PC X .In i o (tDIn ty td):=by
 intro pins s σ H Q I h
 refine thn (hi pins s σ H _ I h) fun iv s1 ⟨y,H1,I1,ry,q1⟩=>thn (ho pins s1 σ H1 _ I1 q1) fun u s2 ⟨x,H2,I2,rx,a,ov,ex,g,q2⟩ => ?_
 subst ex
 obtain rfl:u=B1 a:=rx
 exact d_in hu I2 g ry fun s3 I3=>⟨.bl ov.isSome,H2,I3,rfl,q2⟩
theorem zc3 (hu:X.A.units + 1 < cLine) (hi:PE X i ty) (ho:PE X o td):PC X .NotIn i o (tDNotIn ty td):=by
 intro pins s σ H Q I h
 refine thn (hi pins s σ H _ I h) fun iv s1 ⟨y,H1,I1,ry,q1⟩=>thn (ho pins s1 σ H1 _ I1 q1) fun u s2 ⟨x,H2,I2,rx,a,ov,ex,g,q2⟩ => ?_
 subst ex
 obtain rfl:u=B1 a:=rx
 exact d_notIn hu I2 g ry fun s3 I3=>⟨.bl (!ov.isSome),H2,I3,rfl,q2⟩
theorem zcx (hu:X.A.units + 1 < cLine) (ho:PE X o td) (hi:PE X i ty) (hv:PE X value tv) (hs:swapsWith value (some (.Subscript o i pos')) pos.line X.env=pure false) :
  PS X (.Assign [.Subscript o i pos'] value pos) (sDPut td ty tv):=by
 intro pins s σ H D I h
 refine Nr (thn (hv pins s σ H _ I h) fun r s1 ⟨v,H1,I1,rv,q1⟩=>thn (ho pins s1 σ H1 _ I1 q1) fun u s2 ⟨x,H2,I2,rx,q2⟩=>thn (hi pins s2 σ H2 _ I2 q2) fun iv s3 ⟨y,H3,I3,ry,a,H4,ex,g,q3⟩ => ?_) hs
 subst ex
 obtain rfl:u=B1 a:=rx
 exact d_setItem hu I3 g ry rv fun s4 I4=>⟨σ,H4,I4,q3⟩
end
theorem dk_empty {P:Ap} {w:Bb} {H:Hp} (h:Bx) (hb:sysModules < h.objs.size):ObjOk P w H (h.push { cls := .type "dict",data := .dict #[] }) h.objs.size (.dK []) :=
 ⟨By _,beq_eq_false_iff_ne.mpr (E7 (B8 hb)),[],.nil,Rw h⟩
theorem zfH {P:Ap} {w:Bb} {H:Hp} (h:Bx) (hb:sysModules < h.objs.size):ObjOk P w H (h.push { cls := .type "dict",data := .dict #[] }) h.objs.size (.dT []) :=
 ⟨By _,beq_eq_false_iff_ne.mpr (E7 (B8 hb)),[],.nil,_,#[],0,Av _ rfl,⟨rfl,rfl,rfl⟩,rfl,rfl,Du⟩
noncomputable def tDNewK:TE:=fun _ H Q=>∀ p,H p=none->Q (.ref p) (upd H p (.dK []))
noncomputable def tDNewT:TE:=fun _ H Q=>∀ p,H p=none->Q (.ref p) (upd H p (.dT []))
section
variable {X:Cx} {pos:Pos}
theorem zfs:PE X (.Dict [] [] pos) tDNewK:=fun pins s σ H Q I h =>
 Pu ⟨.ref s.heap.objs.size,_,I.laid (a:=s.heap.objs.size) (o := .dK []) (t':=s.toks) (fun _ _ q=>A8 _ q) (Aa _) (dk_empty s.heap I.big),rfl,h _ (I.hok.fresh (Aa _))⟩
theorem zci:PE X (.Dict [] [] pos) tDNewT:=fun pins s σ H Q I h =>
 Pu ⟨.ref s.heap.objs.size,_,I.laid (a:=s.heap.objs.size) (o := .dT []) (t':=s.toks) (fun _ _ q=>A8 _ q) (Aa _) (zfH s.heap I.big),rfl,h _ (I.hok.fresh (Aa _))⟩
end
section
variable {X:Cx} {pins:List (A3×Obj)} {σ : St} {H:Hp} {s:A4} {a:A3} {y d:V} {u r:A2} {o:Option V} {A:B7} {E:A2->A4->Prop}
end
section
variable {X:Cx} {o e f:Ce} {apos cpos:Pos} {td ty tx:TE}
end
section
variable {X:Cx} {pins:List (A3×Obj)} {σ : St} {H:Hp} {s:A4} {a:A3} {kvs:List (Key×V)} {A:B7} {E:A2->A4->Prop}
theorem d_copyOf {Q:A2->A4->Prop} (I:Inv X pins σ H s) (e:Rd H a (.dK kvs)) (h:∀ p s',H p=none->Inv X pins σ (upd H p (.dK kvs)) s'->Q (.ref p) s'):wpAny (model X.prog X.w) A (call (.type "dict") [.ref a]) Q E s:=by
 obtain ⟨z,hd,vs,rel,dd⟩:=ze6 I.hok e
 refine kt_call_dict hd dd (by rw [<- rel.length]; exact z) fun h' dd' hs => ?_
 refine h _ _ (I.hok.fresh (Aa _)) (I.laid (a:=s.heap.objs.size) (o := .dK kvs) (t':=s.toks) (fun b q hq => ?_) (Aa _) (zg6 z (beq_eq_false_iff_ne.mpr (E7 (B8 I.big))) rel dd'))
 exact (hs.2 b (B8 (An hq))).trans (A8 _ hq)
end
section
variable {X:Cx} {pins:List (A3×Obj)} {σ : St} {H:Hp} {s:A4} {a:A3} {y:V} {u:A2} {A:B7} {E:A2->A4->Prop}
end
end L2
namespace Att
open PySem PySem.W PySem.Calls PyProof.Rows
theorem ints_of_wellAll {P:Rv} {h:Bx}:∀ (ns:List Int) (vs:List A2),WellAll P h vs (ns.map WData.int)->El vs ns:=by
 intro ns
 induction ns with
 | nil =>
  intro vs w
  rw [Gq] at w
  cases w
  exact .nil
 | cons n ns ih =>
  intro vs w
  rw [Aq] at w
  cases w with
  | cons a b =>
   cases a
   exact .cons _ _ (ih _ b)
theorem script_of {l:OpenLaw} {n:Nat} (hn:l.most=some n) {P:Rv} {h:Bx} {args:List WData} {vals:List A2}
  (hpre:l.row.toRowW.claim.pre args=true) (hwl:WellAll P h vals args) :
  ∃ a vs ns,vals = [B1 a]/\args = [WData.list (ns.map WData.int)]/\h.get? a=some { cls := .type "list",data := .seq vs.toArray }/\El vs ns/\ns.length<=n:=by
 have hsh:WShape.hasAll [] args [.list .int]=true:=(pre_splitW hpre).1
 have hc:l.pre.holds [] { args:=args }=true:=(pre_splitW hpre).2
 obtain ⟨d,r,rfl,h1,h2⟩:=hasAllW_cons hsh
 obtain rfl:=hasAllW_nil h2
 obtain ⟨xs,rfl,h3⟩:=hasW_list h1
 obtain ⟨ns,rfl⟩:=items_int h3
 have hlen:ns.length<=n:=by
  unfold OpenLaw.pre at hc
  have h4:(WTm.not (.lt (.lit (.int (n:Int))) (.len (.arg 0)))).holds [] { args := [.list (ns.map .int)] }=true:=by
   have h4:=(holds_andW hc).1
   rw [hn] at h4
   exact h4
  have h5:=condW_of h4 (w_not (w_lt w_lit (w_len_list (w_arg rfl))))
  rw [A5] at h5
  refine Kr fun q => ?_
  have q':(n:Int) < ((ns.length:Nat):Int):=by omega
  first
   | (rw [decide_eq_true q'] at h5; exact absurd h5 (by decide))
   | (simp at h5; omega)
 cases hwl with
 | cons w1 w2 =>
  cases w2
  cases w1 with
  | list ho hall=>exact ⟨_,_,ns,rfl,rfl,ho,ints_of_wellAll ns _ hall,hlen⟩
theorem post_true (l:OpenLaw) (args:List WData):l.row.toRowW.claim.post args (.bool true) args=true :=
 postW_of (r:=l.row.toRowW) (X:=(true == true))
  (show WShape.has [] (.bool true) .bool=true by first | rfl | decide | simp [WShape.has,WShape.arms,WShape.armsAll])
  (show (WTm.eq .res (.lit (.bool true))).value [] { args:=args,res:=some (.bool true),after:=args }=some (.bool (true == true)) from w_eq_bool (w_res rfl) w_lit) rfl
theorem attach_call {l:OpenLaw} {n:Nat} {q:Ap} {loose:List Str} {XP:(Str->Option A2)->Bx->Prop} {YP:Bb->Bx->Prop} {d:DefRec}
  (hn:l.most=some n) (hdf:d.params.defaults = [])
  (call:∀ (w:Bb) (s₀ s₁ : A4) (mg mb:Str->Option A2) (fa:A3) (o:Obj) (pm cd doc:A2) (a:A3) (vs:List A2) (ns:List Int),
   Ground q loose [] XP w s₀ mg mb s₁.heap->YP w s₁.heap ->
   s₁.heap.get? fa=some o->o.data = .func (docDef d.name d.params d.body d.scope pm cd doc)->s₁.heap.CodeRec cd d.name->mg d.name=some (.ref fa) ->
   s₁.heap.get? a=some { cls := .type "list",data := .seq vs.toArray }->El vs ns->ns.length<=n->s₁.gens = #[] ->
   codeAny (model l.prog w) callerA (.call (.ref fa) ⟨[.ref a],[]⟩) (fun r s'=>r = .ok (.ret (.bool true))/\OldK s₁.heap s'.heap/\s'.os=s₁.os/\Gr s'.gens) s₁) :
  WalkO q loose XP YP l.row.toRowW d [] (fun f vs=>Nc f vs):=by
 intro w s₀ s₁ mg mb G Y fa o pm cd doc dV kV ho hd hcd hD hmg hg args vals as hpre hlay hrd hwl hlo
 obtain rfl:dV = .none:=Dflts.none hD hdf
 obtain rfl:kV = .none:=Dflts.noKw hD
 obtain ⟨a,vs,ns,rfl,rfl,hobj,hints,hlen⟩:=script_of hn hpre hwl
 refine enter_call (Jc (call w s₀ s₁ mg mb fa o pm cd doc a vs ns G Y ho (fd_plain hd) hcd hmg hobj hints hlen hg) fun r s' hq => ?_)
 obtain ⟨rfl,h2,h3,h4⟩:=hq
 exact ⟨.inl ⟨.bool true,.bool true,[],rfl,fun _=>rfl,.bool true,post_true l _,fun _=>⟨Fo,fun _ hm=>(nomatch hm)⟩⟩,h2,h3,h4⟩
section
variable {prog:Ap} {w:Bb} {A:B7} {E:A2->A4->Prop} {s:A4} {K:Frag}
noncomputable def ledger (h:Bx) (L d:A3):List (A3×Obj):=(Ab h.objs.size).filterMap fun a=>if a=L\/a=d then none else (h.get? a).map fun o=>(a,o)
end
end Att
namespace L2
open PySem PySem.Spec PyProof.Rows
theorem zcW:∀ {vs:List A2} {ns:List Int},El vs ns->Vals (ns.map V.int) vs
 | _,_,.nil => .nil
 | _,_,.cons n t h => .cons ⟨t,rfl⟩ (zcW h)
noncomputable def Only (H:Hp):Prop:=∀ b,H b=none\/∃ o xs,H b=some (.frz o (.lst xs))
theorem law_call {P:Ap} {w:Bb} {K:Am} {mg mb:Str->Option A2} {CX:CXT} {k:Nat} {fa a:A3} {fd:Ek} {x:Str} {sp:Sp} {s₁ : A4} {vs:List A2} {ns:List Int}
  (KX:K.In s₁.heap) (hns:s₁.heap.Ns mainGlobals mg) (hb:s₁.heap.Ns builtinsNs mb) (hbb:∀ x:Str,x ≠ "__name__" -> mb x=bootBuiltins x) (hlim:s₁.heap.NoLimit) (hg:s₁.gens = #[])
  (ha:s₁.heap.get? a=some { cls := .type "list",data := .seq vs.toArray }) (hi:El vs ns) (hl:ns.length<=sizeLine) (hr:Room k callerA)
  (F:∀ base:Bx,K.In base->base.Ns mainGlobals mg->FnOk P w K mg base CX k fa fd [x] sp) (hbind:∀ (s:A4) (u:A2),Ka s fd ⟨[u],[]⟩ [(x,u)])
  (hsp:∀ H:Hp,Only H->SqL K H a (ns.map V.int)->sp [.ref a] H (fun v _=>v = .bl true) fun _ _ _=>False)
  (hCX:∀ H e s',CX [] H s₁ (fun _ _ _=>False) e s'->False) :
  codeAny (model P w) callerA (.call (.ref fa) ⟨[.ref a],[]⟩) (fun r s'=>r = .ok (.ret (.bool true))/\OldK s₁.heap s'.heap/\s'.os=s₁.os/\Gr s'.gens) s₁ := by
 have rv:=zcW hi
 have lenV:=hi.length
 have core:∀ H:Hp,Only H->SqL K H a (ns.map V.int)->HOk P w H s₁.heap->(∀ b,H b≠none->b=a)->(H a≠none->K.lookup a=none) ->
   codeAny (model P w) callerA (.call (.ref fa) ⟨[.ref a],[]⟩) (fun r s'=>r = .ok (.ret (.bool true))/\OldK s₁.heap s'.heap/\s'.os=s₁.os/\Gr s'.gens) s₁ := by
  intro H hO hS hok hA hK
  have base_of:∀ {b:A3} {o:Obj},s₁.heap.get? b=some o->H b=none->(hidT s₁.heap H).get? b=some o:=fun e n=>hidT_get e n
  have noA:∀ {b:A3} {o:Obj} {es:Array J5} {ep:Nat},s₁.heap.get? b=some o->o.data = .dict es ep->H b=none:=fun {b o es ep} e d=>by
   cases q:H b with
   | none=>rfl
   | some u =>
    have e':b=a:=hA b (by rw [q]; simp)
    subst e'
    rw [ha] at e; cases e
    have d':Data.seq vs.toArray _=Data.dict es ep:=d
    cases d'
  have nsK:∀ {b:A3} {m:Str->Option A2},s₁.heap.Ns b m->(hidT s₁.heap H).Ns b m:=fun {b m} ⟨o,es,ep,e,d,r⟩=>⟨o,es,ep,base_of e (noA e d),d,r⟩
  have hKb:K.In (hidT s₁.heap H):=fun b o e=>base_of (KX b o e) (by
   cases q:H b with
   | none=>rfl
   | some u =>
    have e':b=a:=hA b (by rw [q]; simp)
    subst e'
    rw [hK (by rw [q]; simp)] at e; cases e)
  have hM:Mod K mg (hidT s₁.heap H):=⟨hKb,nsK hns,⟨mb,nsK hb,hbb⟩,let ⟨mc,h1,h2⟩:=hlim; ⟨mc,nsK h1,h2⟩⟩
  have e0:Env0 P w K mg (hidT s₁.heap H) callerA [] s₁ H:=⟨rfl,hM,fun b o e=>of_hidT e,Qa (hidT_size _ _),trivial,fun b hb=>absurd (show b∈([]:List A3) from hb) (by simp),hok,.of_eq hg⟩
  refine Jc ((F _ hKb (nsK hns)).run callerA [] s₁ H ⟨[.ref a],[]⟩ [.ref a] [.ref a] _ _ hr e0 (hbind s₁ (.ref a)) (.cons rfl .nil) (hsp H hO hS)) fun r s' h => ?_
  cases r with
  | error e=>exact (hCX H e s' h).elim
  | ok fl =>
   cases fl with
   | next=>exact Cn h
   | brk=>exact Cn h
   | cont=>exact Cn h
   | ret u =>
    obtain ⟨v,H',os,bare,un,hok',r',q⟩:=h
    have q':v = .bl true:=q
    subst q'
    obtain rfl:u=Ie true:=r'
    refine ⟨rfl,OldK.of_keep fun b o e => ?_,os,bare⟩
    cases q:H b with
    | none=>exact un.keep b o e q (by intro z; exact absurd (show b∈([]:List A3) from z) (by simp)) (by simp)
    | some u =>
     rcases hO b with z | ⟨ob,xs,z⟩
     ·rw [q] at z; cases z
     ·have z2:=un.frzs b ob _ z
      obtain ⟨e1,_⟩:=hok b _ z
      obtain ⟨e2,_⟩:=hok' b _ z2
      rw [e] at e1; cases e1
      exact e2
 cases hk:K.lookup a with
 | some o =>
  have e:=KX a o hk
  rw [ha] at e
  cases e
  refine core (fun _=>none) (fun _ => .inl rfl) (.inr ⟨_,vs.toArray,_,hk,rfl,rfl,rfl,by rw [Az,lenV]; exact hl,by simpa using rv⟩) (fun b u z=>by have z':(none:Option HO)=some u:=z; cases z') (fun b z=>absurd rfl z) fun z=>absurd rfl z
 | none =>
  refine core (fun b=>if b=a then some (.frz { cls := .type "list",data := .seq vs.toArray } (.lst (ns.map V.int))) else none) (fun b => ?_) (.inl (.inr ⟨{ cls := .type "list",data := .seq vs.toArray },if_pos rfl⟩)) (fun b u z => ?_) (fun b z => ?_) fun _=>hk
  ·by_cases hb:b=a
   ·exact .inr ⟨_,_,if_pos hb⟩
   ·exact .inl (if_neg hb)
  ·by_cases hb:b=a
   ·have z':=(if_pos hb).symm.trans z
    cases z'
    subst hb
    exact ⟨ha,by rw [A5]; exact hl,vs,_,rv,ha⟩
   ·have z':=(if_neg hb).symm.trans z
    cases z'
  ·by_cases hb:b=a
   ·exact hb
   ·exact absurd (if_neg hb) z
theorem walk_of {l:Kg} {n k:Nat} {q:Ap} {loose:List Str} {XP:(Str->Option A2)->Bx->Prop} {YP:Bb->Bx->Prop} {d:DefRec} {K:Rv->Am} {CX:Bb->CXT} {sp:Bb->Sp} {x:Str}
  (hn:l.most=some n) (hn2:n<=sizeLine) (hdf:d.params.defaults = []) (hr:Room k callerA)
  (hY:∀ (w:Bb) (h:Bx),YP w h->(K w.params).In h)
  (F:∀ (w:Bb) (mg:Str->Option A2) (fa:A3) (h:Bx),(K w.params).In h->h.Ns mainGlobals mg->mg d.name=some (.ref fa) ->
   ∃ fd:Ek,(∀ (s:A4) (u:A2),Ka s fd ⟨[u],[]⟩ [(x,u)]) /\
    ∀ base:Bx,(K w.params).In base->base.Ns mainGlobals mg->FnOk l.prog w (K w.params) mg base (CX w) k fa fd [x] (sp w))
  (hsp:∀ (w:Bb) (H:Hp) (a:A3) (ns:List Int),ns.length<=n->Only H->SqL (K w.params) H a (ns.map V.int)->sp w [.ref a] H (fun v _=>v = .bl true) fun _ _ _=>False)
  (hCX:∀ (w:Bb) (H:Hp) (s:A4) (e:A2) (s':A4),CX w [] H s (fun _ _ _=>False) e s'->False) :
  Of q loose XP YP l.row.toRowW d [] (fun f vs=>Nc f vs):=by
 refine Att.attach_call hn hdf fun w s₀ s₁ mg mb fa o pm cd doc a vs ns G Y ho hd hcd hmg hobj hints hlen hg => ?_
 have KX:=hY w _ Y
 obtain ⟨fd,hb,hF⟩:=F w mg fa _ KX G.T.g hmg
 exact law_call KX G.T.g G.T.b G.T.builtins G.T.nolimit hg hobj hints (C5 hlen hn2) hr hF hb (fun H hO hS=>hsp w H a ns hlen hO hS) fun H e s'=>hCX w H s₁ e s'
noncomputable def inClass (s:Cj) (j:Nat):Cj:=match s with
 | .ClassDef _ _ _ body _ _ _ _ _ _ _=>body.getD j (.Pass ⟨0,0,0,0⟩)
 | _ => .Pass ⟨0,0,0,0⟩
noncomputable def defArgs (s:Cj):Qh:=match s with
 | .FunctionDef _ a _ _ _ _ _ _ _ _=>a
 | _=>{ posonlyargs := [],args := [],vararg:=none,kwonlyargs := [],kw_defaults := [],kwarg:=none,defaults := [] }
noncomputable def defBody (s:Cj):List Cj:=match s with
 | .FunctionDef _ _ b _ _ _ _ _ _ _=>b
 | _ => []
noncomputable def defScope (s:Cj):Fg:=match s with
 | .FunctionDef _ _ _ _ _ _ sc _ _ _=>sc
 | _=>{ kind := .function,names := [],isGenerator:=false,isCoroutine:=false }
noncomputable abbrev CX0:CXT:=fun _ _ _ _ _ _=>False
noncomputable abbrev E0:XK:=fun _ _ _=>False
theorem zdZ {X:Cx}:Passes CX0 X E0:=fun _ _ _ _ _ _ _ h=>h.elim
structure Fun (K:Am) (x qual:Str) (st:Cj) (f:A3) (fd:Ek):Prop where
 ex:∃ (oc:A2) (od:Option A3) (kV doc pm:A2) (an:Option A3) (cdv ct:A2) (osl:Array (Option A2)),
  fd=Co x qual (defArgs st) (defBody st) (defScope st) .none kV doc pm an cdv ct/\K.lookup f=some ⟨oc,od,.func fd,osl⟩/\Fb K cdv qual=true
 kp:D8 K (.ref f)=true
section
variable {P:Ap} {w:Bb} {K:Am} {mg:Str->Option A2} {base:Bx}
theorem Fun.ok {x qual:Str} {st:Cj} {f:A3} {fd:Ek} {N ps:List Str} {k:Nat} {sp:Sp} (F:Fun K x qual st f fd) (S:FnScope N ps (defScope st)) (len:∀ vs H Q E,sp vs H Q E->vs.length=ps.length)
  (hbody:∀ (cdv:A2) (A:B7) (outer:List Env) (s:A4) (H:Hp) (vs:List V) (Q:VK) (E:XK),Room k (A.deeper (envOfC qual (defScope st) s.heap.objs.size f cdv))->sp vs H Q E ->
   ∃ t,PSs (cxOf CX0 P w K mg base N qual (defScope st) f cdv A outer s H E).nox (defBody st) t/\t { nx:=fun _ H'=>Q .non H',rt:=Q } (start N vs) H):FnOk P w K mg base CX0 (k + 1) f fd ps sp:=by
 obtain ⟨oc,od,kV,doc,pm,an,cdv,ct,osl,rfl,lk,hcd⟩:=F.ex
 refine zhm lk hcd S len fun A outer s H vs Q E hr hsp => ?_
 obtain ⟨t,h,q⟩:=hbody cdv A outer s H vs Q E hr hsp
 exact ⟨t,h.nox,q⟩
theorem Fun.binds {x qual:Str} {st:Cj} {f:A3} {fd:Ek} {ps:List Str} (F:Fun K x qual st f fd)
  (h:∀ (kV doc pm:A2) (an:Option A3) (cdv ct:A2) (us:List A2),us.length=ps.length->bindArgs (Co x qual (defArgs st) (defBody st) (defScope st) .none kV doc pm an cdv ct) ⟨us,[]⟩=pure (ps.zip us)):Binds K fd ps []:=by
 obtain ⟨oc,od,kV,doc,pm,an,cdv,ct,osl,rfl,lk,hcd⟩:=F.ex
 exact .all (h kV doc pm an cdv ct)
theorem zgr {x qual:Str} {st:Cj} {f:A3} {oc:A2} {od an:Option A3} {osl:Array (Option A2)} {kV doc pm cdv ct:A2} (l:K.lookup f=some ⟨oc,od,.func (Co x qual (defArgs st) (defBody st) (defScope st) .none kV doc pm an cdv ct),osl⟩)
  (c:Fb K cdv qual=true) (k:D8 K (.ref f)=true):Fun K x qual st f (Co x qual (defArgs st) (defBody st) (defScope st) .none kV doc pm an cdv ct):=⟨⟨oc,od,kV,doc,pm,an,cdv,ct,osl,rfl,l,c⟩,k⟩
end
theorem zcm {A:B7} {k:Nat} (hr:Room k A):A.units + 1 < cLine:=Nat.lt_of_le_of_lt (Nat.add_le_add_left (by decide:1<=64) _) hr.units
section
variable {X:Cx}
theorem pv (i:Nat) {x:Str} {pos:Pos} (hN:X.N[i]?=some x:=by rfl) (hv:Vis X.env.scope x:=by first | exact As rfl | exact F4 (As rfl) | exact F4 (F4 rfl)) (hd:(x == ("__debug__" : Str))=false:=by decide)
  (hcd:(x == ("__classdict__" : Str))=false:=by decide):PE X (.Name x pos) (tVar i):=pe_var hN hv hd hcd
theorem call_lenD:CallR X (.builtin "len") (fun xs H Q=>∃ a kvs,xs = [V.ref a]/\H a=some (.dK kvs)/\Q (.int kvs.length) H):=by
 intro pins s σ H xs us Q I r h
 obtain ⟨a,kvs,rfl,ha,q⟩:=h
 obtain ⟨u,rfl,ru⟩:=zb1 r
 cases ru
 exact d_len I (.inl ha) fun t s' I'=>⟨.int kvs.length,H,I',⟨t,rfl⟩,q⟩
end
theorem iteF {A B:Prop} (h:B):if false=true then A else B:=by
 rw [if_neg A9]
 exact h
theorem iteT {A B:Prop} (h:A):if true=true then A else B:=by
 rw [if_pos rfl]
 exact h
theorem ite2 {c A B:Prop} [Decidable c] (h1:c->A) (h2:¬ c->B):if c then A else B:=by
 by_cases h:c
 ·rw [if_pos h]
  exact h1 h
 ·rw [if_neg h]
  exact h2 h
noncomputable def Same (H H':Hp):Prop:=∀ b o,H b=some o->H' b=some o
theorem Same.refl (H:Hp):Same H H:=fun _ _ h=>h
theorem Same.trans {H H1 H2:Hp} (a:Same H H1) (b:Same H1 H2):Same H H2:=fun c o h=>b c o (a c o h)
theorem Same.free {H H':Hp} (e:Same H H') {l:A3} (h:H' l=Pc):H l=Pc:=by
 cases q:H l with
 | none=>rfl
 | some o =>
  rw [e l o q] at h
  cases h
theorem Same.seq {K:Am} {H H':Hp} {a:A3} {xs:List V} (e:Same H H') (h:SqL K H a xs):SqL K H' a xs:=by
 rcases h with (h | ⟨o,h⟩) | h
 ·exact .inl (.inl (e _ _ h))
 ·exact .inl (.inr ⟨o,e _ _ h⟩)
 ·exact .inr h
section
variable {κ : Type} [DecidableEq κ]
theorem zgg:∀ {l:List κ} {k : κ},l.Nodup->¬ k∈l->(l ++ [k]).Nodup
 | [],k,_,_=>by simp
 | a :: r,k,h,hk=>by
  obtain ⟨h1,h2⟩:=Dv.mp h
  show (a :: (r ++ [k])).Nodup
  refine Dv.mpr ⟨fun m => ?_,zgg h2 fun m=>hk (Bf.mpr (F4 m))⟩
  rcases Al.mp m with q | q
  ·exact h1 q
  ·exact hk (Bf.mpr (As (A7.mp q).symm))
end
theorem zc6 {κ β : Type} [BEq κ] [LawfulBEq κ] {k : κ} {v : β}:∀ {l:List (κ × β)},l.lookup k=some v->(k,v)∈l
 | [],h=>by simp at h
 | (a,b) :: r,h=>by
  rw [Ee] at h
  cases e:k == a with
  | true =>
   rw [e] at h
   simp at h
   rw [eq_of_beq e,h]
   exact Ai
  | false =>
   rw [e] at h
   exact Ac _ (zc6 h)
theorem zew {κ β : Type} [BEq κ] [LawfulBEq κ] {k : κ} {v : β}:∀ {l:List (κ × β)},(k,v)∈l->∃ w,l.lookup k=some w
 | [],h=>by simp at h
 | (a,b) :: r,h=>by
  rw [Ee]
  cases e:k == a with
  | true=>exact ⟨b,rfl⟩
  | false =>
   rcases Bf.mp h with h | h
   ·injection h with h1 h2
    rw [h1] at e
    simp at e
   ·exact zew h
theorem closure_ok {env:Env} {scope:Fg} (h:∀ x∈scope.names,x.2 = .free->∃ c,env.cells.lookup x.1=some c) :
  ∃ cl,closureFor scope env=pure cl/\(∀ x c,(x,c)∈cl->(x,Cr)∈scope.names/\env.cells.lookup x=some c)/\∀ x,(x,Cr)∈scope.names->∃ c,(x,c)∈cl:=by
 have all:∀ (names:List (Str×J4)) (acc:List (Str×A3)),(∀ x∈names,x.2 = .free->∃ c,env.cells.lookup x.1=some c) ->
   ∃ cl:List (Str×A3),(forIn names acc fun (x:Str×J4) (r:List (Str×A3))=>(if (x.2 == Cr)=true then do let c <- cellOf env x.1; pure (Dz ((x.1,c) :: r)) else pure (Dz r):Sem (ForInStep (List (Str×A3)))))=pure cl /\
    (∀ x c,(x,c)∈cl->(x,c)∈acc\/((x,Cr)∈names/\env.cells.lookup x=some c))/\(∀ p∈acc,p∈cl)/\∀ x,(x,Cr)∈names->∃ c,(x,c)∈cl:=by
  intro names
  induction names with
  | nil=>intro acc _; exact ⟨acc,rfl,fun x c h => .inl h,fun p h=>h,fun x h=>by simp at h⟩
  | cons y r ih =>
   intro acc hy
   obtain ⟨n,k⟩:=y
   by_cases hk:k = .free
   ·subst hk
    obtain ⟨c,hc⟩:=hy (n,.free) Ai rfl
    obtain ⟨cl,e,h1,h2,h3⟩:=ih ((n,c) :: acc) fun x hx=>hy x (Ac _ hx)
    refine ⟨cl,?_,fun x d hd => ?_,fun p hp=>h2 p (Ac _ hp),fun x hx => ?_⟩
    ·rw [Kw]
     have hcell:cellOf env n=pure c:=by unfold cellOf; rw [hc]
     simp only [beq_self_eq_true,if_true,hcell,pure_bind]
     exact e
    ·rcases h1 x d hd with q | ⟨q1,q2⟩
     ·rcases Bf.mp q with q | q
      ·injection q with q1 q2
       subst q1 q2
       exact .inr ⟨Ai,hc⟩
      ·exact .inl q
     ·exact .inr ⟨Ac _ q1,q2⟩
    ·rcases Bf.mp hx with q | q
     ·injection q with q1 _
      subst q1
      exact ⟨c,h2 _ Ai⟩
     ·exact h3 x q
   ·obtain ⟨cl,e,h1,h2,h3⟩:=ih acc fun x hx=>hy x (Ac _ hx)
    refine ⟨cl,?_,fun x d hd=>(h1 x d hd).imp id fun q=>⟨Ac _ q.1,q.2⟩,h2,fun x hx => ?_⟩
    ·rw [Kw]
     have hb:(k == Cr)=false:=by simpa using hk
     simp only [hb,Bm,if_false,pure_bind]
     exact e
    ·rcases Bf.mp hx with q | q
     ·injection q with _ q2
      exact absurd q2.symm hk
     ·exact h3 x q
 obtain ⟨cl,e,h1,_,h3⟩:=all scope.names [] h
 refine ⟨cl,?_,fun x c q=>(h1 x c q).resolve_left (by simp),h3⟩
 show ((forIn scope.names ([]:List (Str×A3)) fun (x:Str×J4) (r:List (Str×A3))=>(if (x.2 == Cr)=true then do let c <- cellOf env x.1; pure (Dz ((x.1,c) :: r)) else pure (Dz r):Sem (ForInStep (List (Str×A3))))) >>= fun r=>pure r)=pure cl
 rw [e]
 rfl
theorem zbu {env:Env}:∀ {names:List (Str×J4)} {x:Str},names.lookup x=some .free ->
  (names.map fun (n,k)=>if (k == Cr && env.scope.kind == .function && env.kindOf n == some .cell) then (n,J0) else (n,k)).lookup x=some .cell \/
  (names.map fun (n,k)=>if (k == Cr && env.scope.kind == .function && env.kindOf n == some .cell) then (n,J0) else (n,k)).lookup x=some .free
 | [],_,h=>by simp at h
 | (n,k) :: r,x,h=>by
  have ih := @zbu env r x
  show Fi x ((if (k == Cr && env.scope.kind == .function && env.kindOf n == some .cell)=true then (n,J0) else (n,k)) :: _)=_\/Fi x ((if (k == Cr && env.scope.kind == .function && env.kindOf n == some .cell)=true then (n,J0) else (n,k)) :: _)=_
  cases hx:x == n with
  | true =>
   simp only [Ee,hx] at h
   cases h
   by_cases hc:(Cr == Cr && env.scope.kind == .function && env.kindOf n == some .cell)=true
   ·rw [if_pos hc]; simp only [Ee,hx]; exact .inl trivial
   ·rw [if_neg hc]; simp only [Ee,hx]; exact .inr trivial
  | false =>
   simp only [Ee,hx] at h
   by_cases hc:(k == Cr && env.scope.kind == .function && env.kindOf n == some .cell)=true
   ·rw [if_pos hc]; simp only [Ee,hx]; exact ih h
   ·rw [if_neg hc]; simp only [Ee,hx]; exact ih h
noncomputable def cxComp (X:Cx) (scope:Fg) (N:List Str) (cl:List (Str×A3)) (C:A3) (s:A4) (H:Hp) (fp:List A3) (pn:List (A3×Obj)):Cx :=
 { X with N:=N,s₀ := s,H₀ := H,env:=compEnvC scope cl C X.env,outer:=X.stack,stack:=X.stack,ex:=fp,fn:=fun _=>false,pn:=pn,xe:=fun _ _=>False }
noncomputable def CapsOk (X:Cx) (scope:Fg):List (Nat×Str)->Prop
 | []=>True
 | p :: r=>(X.N[p.1]?=some p.2/\scope.names.lookup p.2=some .free/\(X.env.scope.names.lookup p.2=some .cell\/X.env.scope.names.lookup p.2=some .free))/\CapsOk X scope r
theorem CapsOk.get {X:Cx} {scope:Fg}:∀ {caps:List (Nat×Str)} {j:Nat} {p:Nat×Str},CapsOk X scope caps->caps[j]?=some p ->
  X.N[p.1]?=some p.2/\scope.names.lookup p.2=some .free/\(X.env.scope.names.lookup p.2=some .cell\/X.env.scope.names.lookup p.2=some .free)
 | [],_,_,_,h=>by simp at h
 | q :: r,0,p,h,e=>by simp at e; subst e; exact h.1
 | q :: r,j + 1,p,h,e=>CapsOk.get h.2 (by simpa using e)
noncomputable def capSt (own:List Str) (caps:List (Nat×Str)) (σ : St):St:=own.map (fun _=>none) ++ caps.map fun p=>(σ[p.1]?).join
noncomputable def CompW (J:It) (D:A3) (σ0:St) (H1:Hp) (g:TG) (tf:TT) (te:TE) (Q:VK):Prop:=∃ W:Nat->Nat->St->Hp->Prop,
 (∃ m,W 0 m σ0 (upd H1 D (.lst [])))/\∀ i m σ' H',W i m σ' H' ->
  (J.stop i H'/\Q (.ref D) H')\/(J.go i H'/\∀ x H2,J.yld i H' x H2->g x σ' H2 fun σ2 H3=>tf σ2 H3 fun b H4 =>
   if b=true then te σ2 H4 fun v H5=>∃ ys,H5 D=some (.lst ys)/\ys.length < sizeLine/\∃ m',m' < m/\W (i + 1) m' σ2 (upd H5 D (.lst (ys ++ [v])))
   else ∃ m',m' < m/\W (i + 1) m' σ2 H4)
noncomputable def tComp (wi:TI) (own:List Str) (caps:List (Nat×Str)) (g:TG) (tf:TT) (te:TE):TE:=fun σ H Q=>wi σ H fun J H1=>∀ D,H1 D=none->CompW J D (capSt own caps σ) H1 g tf te Q
noncomputable def PTs (X:Cx) (ifs:List Ce) (t:TT):Prop :=
 ∀ (pins:List (A3×Obj)) (s:A4) (σ : St) (H:Hp) (Q:Bool->Hp->Prop),Inv X pins σ H s->t σ H Q->wpAny (model X.prog X.w) X.A (forIn ifs true fun c r=>if r=true then do let ok <- isTrue c X.env (eval c X.env); pure (Dz ok) else pure (Dz r)) (TP X pins σ Q) X.xe s
noncomputable def tTrue:TT:=fun _ H Q=>Q true H
theorem zbm {X:Cx}:PTs X [] tTrue:=fun _ _ _ H _ I h=>wpAny_tests_nil ⟨H,I,h⟩
theorem zcw {X:Cx} {c:Ce} {t:TT} (h:PT X c t):PTs X [c] t:=fun pins s σ H Q I hw=>wpAny_tests_one (h pins s σ H Q I hw)
theorem comp_loop {prog:Ap} {w:Bb} {A:B7} {R:Ru->A4->Prop} {s:A4} {elt target iter:Ce} {ifs:List Ce} {scope:Fg} {pos:Pos} {it acc:A2} {env:Env} (I:Nat->A4->Prop)
  (turn:∀ n s,I n s->wpAny (model prog w) A (pyNext it) (fun r s₁ => match r with
   | none=>R (.ok .next) s₁
   | some v=>wpAny (model prog w) A (letOwnedTupleGo target it v) (fun _ s₁'=>wpAny (model prog w) A (assign target env v) (fun _ s₂ =>
     wpAny (model prog w) A (forIn ifs true fun c r=>if r=true then do let ok <- isTrue c env (eval c env); pure (Dz ok) else pure (Dz r)) (fun ok s₃ =>
      if ok=true then wpAny (model prog w) A (eval elt env) (fun x s₄ =>
       wpAny (model prog w) A (call (.builtin "list.append") [acc,x]) (fun _ s₅ => ∃ m,m < n/\I m s₅) (fun _ _=>False) s₄) (fun _ _=>False) s₃
      else ∃ m,m < n/\I m s₃) (fun _ _=>False) s₂) (fun _ _=>False) s₁') (fun _ _=>False) s₁) (fun _ _=>False) s)
  (n:Nat) (h:I n s) :
  codeAny (model prog w) A (.compLoop (.ListComp elt [⟨target,iter,ifs,0⟩] scope pos) 0 it acc env) R s:=by
 refine codeAny_loop rfl I (fun n s hI => ?_) n h
 show wpAny _ A ((compTurn (.ListComp elt [⟨target,iter,ifs,0⟩] scope pos) 0 it acc env).onRaise (fun x=>do noteFrame x env; theTreesLotGoes x)) _ _ s
 refine wpAny_noted ?_
 rw [compTurn_list]
 refine A1 (Kk (A1 (Dg (turn n s hI) (fun r s₁ h₁ => ?_) fun _ _ h'=>h'.elim)))
 cases r with
 | none=>exact Ad h₁
 | some v =>
  refine A1 (Dg h₁ (fun _ s₁' h₁' => ?_) fun _ _ h'=>h'.elim)
  refine A1 (Dg h₁' (fun _ s₂ h₂ => A1 (Dg h₂ (fun ok s₃ h₃ => ?_) fun _ _ h'=>h'.elim)) fun _ _ h'=>h'.elim)
  cases ok with
  | false=>exact Ad ⟨rfl,h₃⟩
  | true =>
   exact A1 (A1 (Dg h₃ (fun x s₄ h₄ => A1 (Dg h₄ (fun _ s₅ h₅ => Ad (Ad ⟨rfl,h₅⟩)) fun _ _ h'=>h'.elim)) fun _ _ h'=>h'.elim))
section
variable {X:Cx} {pins:List (A3×Obj)} {σ : St}
theorem comp_ok {H2:Hp} {s2:A4} {fp:List A3} {scope:Fg} {N:List Str} {cl:List (Str×A3)} {C:A3} (I2:Inv X pins σ H2 s2) (f2:∀ b∈fp,FpOk X pins H2 b) (hC:s2.heap.objs.size < C)
  (hfs:∀ b∈fp,b < s2.heap.objs.size) (hkind:scope.kind = .function) (hcl:∀ x c,cl.lookup x=some c->X.env.cells.lookup x=some c)
  (hhas:∀ x,((relabel scope X.env).names.lookup x=some .cell\/(relabel scope X.env).names.lookup x=some .free)->∃ c,cl.lookup x=some c) :
  (cxComp X scope N cl C s2 H2 fp (X.pn ++ pins)).Ok where
 mod:=I2.ok.mod
 kind:=hkind
 glob:=I2.ok.glob
 blt:=I2.ok.blt
 above:=G5 hC
 inj:=fun x y c h1 h2=>I2.ok.inj x y c (hcl x c h1) (hcl y c h2)
 has:=hhas
 cab:=fun _ _ h _=>by cases h
 hd:=I2.ok.hd
 frames:=I2.ok.frames
 stk := .inl rfl
 exf:=fun b hb=>⟨B8 (Gs (hfs b hb) hC),fun x c e=>(f2 b hb).2.2.2.2.1 x c (hcl x c e)⟩
 bs:=I2.bs
 bsz:=C5 I2.ok.bsz I2.sz
 noex:=fun b o e hb=>by
  rcases (f2 b hb).2.2.2.1 with z | z
  ·exact I2.ok.noex b o e z
  ·exact absurd (Ae (An e) (C5 I2.ok.bsz z)) (Dp _)
 exfs:=fun b hb z=>(Bf.mp (I2.stkSub b z)).elim (f2 b hb).2.1 (f2 b hb).2.2.1
 funs:=I2.stack
 frf:=I2.stkFree
theorem comp_start {H2:Hp} {s2:A4} {fp:List A3} {scope:Fg} {own:List Str} {caps:List (Nat×Str)} {cl:List (Str×A3)} {D C:A3} {h1:Bx} {tk:Nat} {m:Str->Option A2}
  (I2:Inv X pins σ H2 s2) (f2:∀ b∈fp,FpOk X pins H2 b) (hC : @Eq Nat C (s2.heap.objs.size + 1)) (hD : @Eq Nat D s2.heap.objs.size)
  (hfs:∀ b∈fp,b < s2.heap.objs.size) (hkind:scope.kind = .function) (hcl:∀ x c,cl.lookup x=some c->X.env.cells.lookup x=some c)
  (hhas:∀ x,((relabel scope X.env).names.lookup x=some .cell\/(relabel scope X.env).names.lookup x=some .free)->∃ c,cl.lookup x=some c)
  (hcap:CapsOk X scope caps) (hns:h1.Ns C m) (old:∀ b o,s2.heap.get? b=some o->h1.get? b=some o) (hlst:∃ n,h1.get? D=some { cls := .type "list",data := .seq #[] n }) :
  Inv (cxComp X scope (own ++ caps.map (·.2)) cl C s2 H2 fp (X.pn ++ pins)) [] (capSt own caps σ) (upd H2 D (.lst [])) { s2 with heap:=h1,toks:=tk }:=by
 have hCs:s2.heap.objs.size < C:=by omega
 have hDn:H2 D=none:=I2.hok.fresh (by omega)
 have hCn:H2 C=none:=I2.hok.fresh (by omega)
 have hCD:C≠D:=by show ¬ @Eq Nat C D; omega
 have hDs:s2.heap.objs.size<=D:=by show @LE.le Nat _ s2.heap.objs.size D; omega
 have new:ObjOk X.prog X.w (upd H2 D (.lst [])) h1 D (.lst []):=let ⟨n,e⟩:=hlst; ⟨By _,[],n,.nil,e⟩
 refine ⟨comp_ok I2 f2 hCs hfs hkind hcl hhas,rfl,I2.bare,Un.laid old hDs hDn,⟨m,hns,fun i x v e1 e2 e3 => ?_⟩,fun x c e => ?_,?_,fun x c e => ?_,fun p hp => ?_,I2.hok.laid old hDs new,?_⟩
 ·-- a captured name
  have e2':(capSt own caps σ)[i]?=some (some v):=e2
  unfold capSt at e2'
  by_cases hi:i < own.length
  ·rw [C4 (by simpa using hi),Af] at e2'
   cases q:own[i]? with
   | none=>rw [q] at e2'; cases e2'
   | some y=>rw [q] at e2'; cases e2'
  ·have hle:own.length<=i:=Kr hi
   rw [Ca (by simpa using hle),Af,A5] at e2'
   have e1':(own ++ caps.map (·.2))[i]?=some x:=e1
   rw [Ca hle,Af] at e1'
   cases q:caps[i - own.length]? with
   | none=>rw [q] at e2'; cases e2'
   | some p =>
    rw [q] at e2' e1'
    have ex:p.2=x:=C6 e1'
    have ev:(σ[p.1]?).join=some v:=C6 e2'
    obtain ⟨hN,hf,hv⟩:=hcap.get q
    have hσ : σ[p.1]?=some (some v):=by
     cases r : σ[p.1]? with
     | none=>rw [r] at ev; cases ev
     | some y=>rw [r] at ev; rw [show y=some v from ev]
    obtain ⟨mX,_,hl⟩:=I2.loc
    obtain ⟨u,ru,lk⟩:=hl p.1 p.2 v hN hσ (.inr hv)
    subst ex
    refine ⟨u,ru,.inr ⟨zbu hf,?_⟩⟩
    rcases lk with ⟨k,_⟩ | ⟨_,c,e,z⟩
    ·have k':X.env.scope.names.lookup p.2=some .local:=k
     rw [k'] at hv
     rcases hv with z | z <;> cases z
    ·obtain ⟨c',e'⟩:=hhas p.2 (zbu hf)
     have e2:=hcl p.2 c' e'
     rw [e] at e2
     cases e2
     obtain ⟨o,ho,hd⟩:=z
     exact ⟨c,e',o,old c o ho,hd⟩
 ·obtain ⟨v,o,ho,hd⟩:=I2.cell x c (hcl x c e)
  exact ⟨v,o,old c o ho,hd⟩
 ·show upd H2 D (.lst []) C=none
  rw [zaf hCD]; exact hCn
 ·obtain ⟨v,q⟩:=I2.cell x c (hcl x c e)
  rw [zaf (B8 (Ae q.lt hDs))]
  exact I2.freeC x c (hcl x c e)
 ·have hp':p∈X.pn ++ pins:=by
   have hp2:p∈(X.pn ++ pins) ++ []:=hp
   rwa [C9] at hp2
  obtain ⟨e,n,ne,nf,d⟩:=I2.pin p hp'
  have lt:=An e
  refine ⟨old p.1 p.2 e,by rw [zaf (B8 (Ae lt hDs))]; exact n,?_,fun z=>(Bf.mp (I2.stkSub p.1 z)).elim ne nf,d⟩
  exact B8 (Gs lt hCs)
 ·show (capSt own caps σ).length=(own ++ caps.map (·.2)).length
  unfold capSt
  simp
theorem comp_back {H2 H':Hp} {s2 s':A4} {fp:List A3} {scope:Fg} {N:List Str} {cl:List (Str×A3)} {C:A3} {σ':St} {pn:List (A3×Obj)} (I2:Inv X pins σ H2 s2) (f2:∀ b∈fp,FpOk X pins H2 b)
  (J:Inv (cxComp X scope N cl C s2 H2 fp pn) [] σ' H' s'):Inv X pins σ H' s' :=
 I2.call' (s':=s') (ch:=fp) J.os J.base J.hok J.bare fun b hb=>⟨(f2 b hb).2.2.2.1,(f2 b hb).2.1,(f2 b hb).2.2.2.2.1,(f2 b hb).2.2.2.2.2⟩
theorem Inv.gone {H:Hp} {s:A4} {C:A3} {h':Bx} (I:Inv X pins σ H s) (hs:Fk C s.heap h') (hn:H C=none) (h0:X.s₀.heap.objs.size<=C) (hL:C≠X.env.locals) (h2:∀ x c,X.env.cells.lookup x=some c->c≠C) (h3:∀ p∈X.pn ++ pins,p.1≠C) :
  Inv X pins σ H { s with heap:=h' }:=I.turned (t':=s.toks) (fun b o hb e=>(hs.2 b hb).trans e) hn hL (.inr h0) h2 h3
end
theorem free_of_relabel {env:Env} {scope:Fg} {x:Str} (hcell:∀ y∈scope.names,y.2 ≠ .cell) (h:(relabel scope env).names.lookup x=some .cell\/(relabel scope env).names.lookup x=some .free):(x,Cr)∈scope.names:=by
 have all:∀ k,(relabel scope env).names.lookup x=some k->(k = .cell\/k = .free)->(x,Cr)∈scope.names:=by
  intro k e hk
  have m:=zc6 e
  obtain ⟨⟨n,j⟩,hm,q⟩:=Ah.mp (show (x,k)∈scope.names.map _ from m)
  dsimp only at q
  by_cases c:(j == Cr && env.scope.kind == .function && env.kindOf n == some .cell)=true
  ·rw [if_pos c] at q
   injection q with q1 q2
   subst q1
   have jf:j = .free:=by
    simp only [Bz] at c
    exact eq_of_beq c.1.1
   rw [<- jf]; exact hm
  ·rw [if_neg c] at q
   injection q with q1 q2
   subst q1 q2
   rcases hk with z | z
   ·exact absurd z (hcell _ hm)
   ·rw [z] at hm; exact hm
 rcases h with h | h
 ·exact all _ h (.inl rfl)
 ·exact all _ h (.inr rfl)
structure Steps (Y:Cx) (tg:Ce) (J:It) (fp:List A3) (it:A3) (tn:Nat->Bx->Prop):Prop where
 item:∀ (i:Nat) (pins:List (A3×Obj)) (s:A4) (σ : St) (H:Hp) (E:A2->A4->Prop),Inv Y pins σ H s->(∀ b∈fp,FpOk Y pins H b)->tn i s.heap->J.go i H ->
  wpAny (model Y.prog Y.w) Y.A (pyNext (.ref it)) (fun r s1=>∃ u,r=some u /\
   wpAny (model Y.prog Y.w) Y.A (letOwnedTupleGo tg (.ref it) u) (fun _ s2=>∃ x H',Inv Y pins σ H' s2/\RelV x u/\J.yld i H x H'/\tn (i + 1) s2.heap/\∀ b∈fp,H' b=none) E s1) E s
 done:∀ (i:Nat) (pins:List (A3×Obj)) (s:A4) (σ : St) (H:Hp) (E:A2->A4->Prop),Inv Y pins σ H s->(∀ b∈fp,FpOk Y pins H b)->tn i s.heap->J.stop i H ->
  wpAny (model Y.prog Y.w) Y.A (pyNext (.ref it)) (fun r s1=>r=none/\Inv Y pins σ H s1) E s
structure Trn (P:Ap) (w:Bb) (K:Am) (Z:Cx->Prop) (tg:Ce) (J:It) (fp:List A3) (it:A3) (tn:Nat->Bx->Prop):Prop where
 obj:∀ i h,tn i h->∀ b∈fp,∃ o,h.get? b=some o/\∀ v,o.data ≠ .cell v
 keep:∀ i h h',tn i h->(∀ b∈fp,∀ o,h.get? b=some o->h'.get? b=some o)->tn i h'
 steps:∀ Y:Cx,Y.prog=P->Y.w=w->Y.K=K->Z Y->Steps Y tg J fp it tn
 self:∀ (A:B7) (i:Nat) (s:A4) (Q:A2->A4->Prop) (E:A2->A4->Prop),tn i s.heap->Q (.ref it) s->wpAny (model P w) A (pyIter (.ref it)) Q E s
noncomputable def PIEq (Z:Cx->Prop) (X:Cx) (pins:List (A3×Obj)) (σ : St) (tg:Ce) (R:It->Hp->Prop) (itv:A2) (s2:A4):Prop :=
 ∃ (it:A3) (fp:List A3) (tn:Nat->Bx->Prop) (J:It) (H':Hp),itv = .ref it/\Inv X pins σ H' s2/\Trn X.prog X.w X.K Z tg J fp it tn/\tn 0 s2.heap/\(∀ b∈fp,FpOk X pins H' b)/\R J H'
noncomputable def PIq (Z:Cx->Prop) (X:Cx) (tg iter:Ce) (wi:TI):Prop :=
 ∀ (pins:List (A3×Obj)) (s:A4) (σ : St) (H:Hp) (R:It->Hp->Prop),Inv X pins σ H s->wi σ H R ->
  wpAny (model X.prog X.w) X.A (eval iter X.env) (fun v s1=>wpAny (model X.prog X.w) X.A (pyIter v) (PIEq Z X pins σ tg R) X.xe s1) X.xe s
theorem PI.q {X:Cx} {tg iter:Ce} {wi:TI} (h:PI X tg iter wi):PIq (fun Y=>Y.calm=true) X tg iter wi:=fun pins s σ H R I q =>
 thn (h pins s σ H R I q) fun v s1 h1=>thn h1 fun itv s2 h2=>by
  obtain ⟨it,fp,tn,J,H',e,I',T,t0,f,r⟩:=h2
  exact ⟨it,fp,tn,J,H',e,I',⟨T.obj,T.keep,fun Y hP hw hK hz=>⟨fun i pins s σ H E=>hP ▸ hw ▸ T.item Y hP hw hK hz i pins s σ H E,fun i pins s σ H E=>hP ▸ hw ▸ T.done Y hP hw hK hz i pins s σ H E⟩,T.self⟩,t0,f,r⟩
section
variable {X:Cx} {elt target iter:Ce} {ifs:List Ce} {scope:Fg} {pos:Pos} {own:List Str} {caps:List (Nat×Str)} {wi:TI} {g:TG} {tf:TT} {te:TE}
structure CompScope (X:Cx) (scope:Fg) (caps:List (Nat×Str)):Prop where
 kind:scope.kind = .function
 cell:(scope.names.all fun y => !(y.2 == .cell))=true
 names:(scope.names.all fun y => !(y.2 == .local) || scope.names.lookup y.1 == some .local)=true
 free:(scope.names.all fun y => !(y.2 == .free) || (X.env.scope.names.lookup y.1 == some .cell || X.env.scope.names.lookup y.1 == some .free))=true
 caps:CapsOk X scope caps
theorem zdi {use:Option (A2->Sem Unit)} {R:A2->A4->Prop} {pins:List (A3×Obj)} {σ : St} {s:A4} {H:Hp} {Q:VK} (Z:Cx->Prop) (hc:∀ cl C s H fp pins,Z (cxComp X scope (own ++ caps.map (·.2)) cl C s H fp (X.pn ++ pins))) (S:CompScope X scope caps) (hi:PIq Z X target iter wi)
  (hg:∀ cl C s H fp pn,PG (cxComp X scope (own ++ caps.map (·.2)) cl C s H fp pn) target g)
  (ht:∀ cl C s H fp pn,PTs (cxComp X scope (own ++ caps.map (·.2)) cl C s H fp pn) ifs tf)
  (he:∀ cl C s H fp pn,PE (cxComp X scope (own ++ caps.map (·.2)) cl C s H fp pn) elt te)
  (I:Inv X pins σ H s) (h:tComp wi own caps g tf te σ H Q)
  (fin:∀ D C H' s' m,Inv X pins σ H' s'->s'.heap.Ns C m->H' C=none->X.s₀.heap.objs.size<=C->C≠X.env.locals->(∀ x c,X.env.cells.lookup x=some c->c≠C)->(∀ p∈X.pn ++ pins,p.1≠C)->Q (.ref D) H' ->
   compPost (model X.prog X.w) X.A X.xe use R (.ref D) C (.ok .next) s')
  (hs:∀ x,foldedSetIterable iter X.env x=pure x) :
  wpAny (model X.prog X.w) X.A (comprehension (.ListComp elt [⟨target,iter,ifs,0⟩] scope pos) scope X.env (firstIterPos [⟨target,iter,ifs,0⟩] pos) (newList []) false (eval iter X.env) use) R X.xe s:=by
 have hcell:∀ y∈scope.names,y.2 ≠ .cell:=fun y hy z=>by
  have:=Cg.mp S.cell y hy
  rw [z] at this; cases this
 have hnames:∀ y∈scope.names,y.2 = .local->scope.names.lookup y.1=some .local:=fun y hy z=>by
  have:=Cg.mp S.names y hy
  rw [z] at this
  simpa using this
 have hfree:∀ y∈scope.names,y.2 = .free->X.env.scope.names.lookup y.1=some .cell\/X.env.scope.names.lookup y.1=some .free:=fun y hy z=>by
  have:=Cg.mp S.free y hy
  rw [z] at this
  simpa using this
 obtain ⟨cl,hclos,hcl0,hcl1⟩:=closure_ok (env:=X.env) (scope:=scope) fun y hy z=>I.ok.has y.1 (hfree y hy z)
 have hcl:∀ x c,cl.lookup x=some c->X.env.cells.lookup x=some c:=fun x c e=>(hcl0 x c (zc6 e)).2
 have hhas:∀ x,((relabel scope X.env).names.lookup x=some .cell\/(relabel scope X.env).names.lookup x=some .free)->∃ c,cl.lookup x=some c:=fun x hx=>by
  obtain ⟨c,hm⟩:=hcl1 x (free_of_relabel hcell hx)
  exact zew hm
 refine wpAny_comprehension_free (g:=⟨target,iter,ifs,0⟩) (gs := []) rfl hs hclos S.kind hnames (thn (hi pins s σ H _ I h) fun v s1 h1=>thn h1 fun itv s2 h2 => ?_)
 obtain ⟨it,fp,tn,J,H2,e,I2,T,st2,f2,cont⟩:=h2
 subst e
 obtain ⟨W,⟨m0,w0⟩,turn⟩:=cont s2.heap.objs.size (I2.hok.fresh (Aa _))
 refine Ep (wpAny_newFunctionEnv hcell (by intro y hy; simp at hy) (fun h₁ hns₁ hsb₁ => ?_) S.kind)
 dsimp only at hns₁ hsb₁ ⊢
 generalize hH2:s2.heap.push { cls := .type "list",dict:=none,data := .seq ([]:List A2).toArray }=HL at hns₁ hsb₁ ⊢
 have hC:HL.objs.size=s2.heap.objs.size + 1:=by rw [<- hH2,Eu]
 have hfs:∀ b∈fp,b < s2.heap.objs.size:=fun b hb=>let ⟨_,e,_⟩:=T.obj 0 _ st2 b hb; An e
 have old:∀ b o,s2.heap.get? b=some o->h₁.get? b=some o:=fun b o e =>
  hsb₁.extBut b o (by rw [hC]; exact B8 (Em (An e))) (A8 _ (hH2 ▸ A8 _ e))
 have hlst:∃ n,h₁.get? s2.heap.objs.size=some { cls := .type "list",data := .seq #[] n }:=⟨_,hsb₁.extBut _ _ (by rw [hC]; exact B8 (Ew _)) (A8 _ (hH2 ▸ Av _ rfl))⟩
 have I4:Inv (cxComp X scope (own ++ caps.map (·.2)) cl HL.objs.size s2 H2 fp (X.pn ++ pins)) [] (capSt own caps σ) (upd H2 s2.heap.objs.size (.lst [])) { s2 with heap:=h₁,toks:=s2.toks + ([]:List (Str×A2)).length } :=
  comp_start I2 f2 hC rfl hfs S.kind hcl hhas S.caps hns₁ old hlst
 have st4:tn 0 h₁ := T.keep 0 _ _ st2 fun b hb o e=>old b o e
 have fr4:∀ b∈fp,upd H2 s2.heap.objs.size (.lst []) b=none:=fun b hb=>by
  rw [zaf (B8 (hfs b hb))]; exact (f2 b hb).1
 have hCs:s2.heap.objs.size < HL.objs.size:=by rw [hC]; exact Ew _
 have loop:codeAny (model X.prog X.w) X.A (.compLoop (.ListComp elt [⟨target,iter,ifs,0⟩] scope pos) 0 (.ref it) (.ref s2.heap.objs.size) (compEnvC scope cl HL.objs.size X.env))
   (compPost (model X.prog X.w) X.A X.xe use R (.ref s2.heap.objs.size) HL.objs.size) { s2 with heap:=h₁,toks:=s2.toks + ([]:List (Str×A2)).length }:=by
  refine comp_loop (fun n s'=>∃ i σ' H',Inv (cxComp X scope (own ++ caps.map (·.2)) cl HL.objs.size s2 H2 fp (X.pn ++ pins)) [] σ' H' s'/\tn i s'.heap/\(∀ b∈fp,H' b=none)/\W i n σ' H') ?_ m0 ⟨0,_,_,I4,st4,fr4,w0⟩
  have U:=T.steps (cxComp X scope (own ++ caps.map (·.2)) cl HL.objs.size s2 H2 fp (X.pn ++ pins)) rfl rfl rfl (hc _ _ _ _ _ _)
  rintro n s3 ⟨i,σ3,H3,I3,st3,fr3,w3⟩
  have stat:∀ {H':Hp},(∀ b∈fp,H' b=none)->∀ b∈fp,FpOk (cxComp X scope (own ++ caps.map (·.2)) cl HL.objs.size s2 H2 fp (X.pn ++ pins)) [] H' b:=fun {H'} hn b hb=>by
   refine ⟨hn b hb,(I3.ok.exf b hb).1,I3.ok.exfs b hb,.inl hb,(I3.ok.exf b hb).2,fun p hp => ?_⟩
   have hp':p∈X.pn ++ pins:=by
    have hp2:p∈(X.pn ++ pins) ++ []:=hp
    rwa [C9] at hp2
   exact (f2 b hb).2.2.2.2.2 p hp'
  rcases turn i n σ3 H3 w3 with ⟨stop,qn⟩ | ⟨go,step⟩
  ·refine thn (U.done i [] s3 σ3 H3 _ I3 (stat fr3) st3 stop) fun r s4 ⟨hr,I4⟩ => ?_
   subst hr
   obtain ⟨m,hm,_⟩:=I4.loc
   refine fin s2.heap.objs.size HL.objs.size H3 s4 m (comp_back I2 f2 I4) hm I4.free (C5 I2.sz (G5 hCs)) (Kh (Gs I2.lt hCs)) (fun x c e z => ?_) (fun p hp z => ?_) qn
   ·obtain ⟨v,q⟩:=I2.cell x c e
    exact absurd (Gs q.lt hCs) (by rw [z]; exact Dp _)
   ·exact absurd (Gs (An (I2.pin p hp).1) hCs) (by rw [z]; exact Dp _)
  ·refine thn (U.item i [] s3 σ3 H3 _ I3 (stat fr3) st3 go) fun r s4 ⟨u,hr,h4⟩ => ?_
   subst hr
   refine thn h4 fun _ s5 ⟨x,H5,I5,r5,y5,st5,fr5⟩ => ?_
   have I5':=I5.pinned (stat fr5) (T.obj _ _ st5)
   refine thn (hg cl HL.objs.size s2 H2 fp (X.pn ++ pins) _ s5 σ3 H5 x u _ I5' r5 (step x H5 y5)) fun _ s6 ⟨σ6,H6,I6,q6⟩ => ?_
   refine thn (ht cl HL.objs.size s2 H2 fp (X.pn ++ pins) _ s6 σ6 H6 _ I6 q6) fun b s7 ⟨H7,I7,q7⟩ => ?_
   have again:∀ {σ8:St} {H8:Hp} {s8:A4} {m':Nat},Inv (cxComp X scope (own ++ caps.map (·.2)) cl HL.objs.size s2 H2 fp (X.pn ++ pins)) ([] ++ pinsAt fp s5.heap) σ8 H8 s8->m' < n->W (i + 1) m' σ8 H8 ->
     ∃ m,m < n/\∃ i σ' H',Inv (cxComp X scope (own ++ caps.map (·.2)) cl HL.objs.size s2 H2 fp (X.pn ++ pins)) [] σ' H' s8/\tn i s8.heap/\(∀ b∈fp,H' b=none)/\W i m σ' H':=fun {σ8 H8 s8 m'} I8 hm w8=>by
    refine ⟨m',hm,i + 1,σ8,H8,I8.unpinned,T.keep _ _ _ st5 fun b hb o e=>(I8.pin (b,o) (Bo _ (Bo _ (zbY hb e)))).1,fun b hb => ?_,w8⟩
    obtain ⟨o,e,d⟩:=T.obj _ _ st5 b hb
    exact (I8.pin (b,o) (Bo _ (Bo _ (zbY hb e)))).2.1
   cases b with
   | false =>
    rw [if_neg A9] at q7 ⊢
    obtain ⟨m',hm,w7⟩:=q7
    exact again I7 hm w7
   | true =>
    rw [if_pos rfl] at q7 ⊢
    refine thn (he cl HL.objs.size s2 H2 fp (X.pn ++ pins) _ s7 σ6 H7 _ I7 q7) fun y s8 ⟨v,H8,I8,r8,ys,hy,hz,m',hm,w8⟩ => ?_
    refine thn (zaH _ s8 σ6 H8 (.ref s2.heap.objs.size) [v] (.ref s2.heap.objs.size) [y] (fun _ H9=>H9=upd H8 s2.heap.objs.size (.lst (ys ++ [v]))) I8 rfl (.cons r8 .nil) ⟨_,ys,v,rfl,rfl,hy,hz,rfl⟩) fun z s9 ⟨_,H9,I9,_,e9⟩ => ?_
    subst e9
    exact again I9 hm w8
 exact codeAny_compStart_list loop (T.self _ 0 _ _ _ st4 loop)
theorem za3 (hc:X.calm=true) (S:CompScope X scope caps) (hi:PI X target iter wi)
  (hg:∀ cl C s H fp pn,PG (cxComp X scope (own ++ caps.map (·.2)) cl C s H fp pn) target g)
  (ht:∀ cl C s H fp pn,PTs (cxComp X scope (own ++ caps.map (·.2)) cl C s H fp pn) ifs tf)
  (he:∀ cl C s H fp pn,PE (cxComp X scope (own ++ caps.map (·.2)) cl C s H fp pn) elt te)
  (hs:∀ x,foldedSetIterable iter X.env x=pure x:=by intro _; rfl):PE X (.ListComp elt [⟨target,iter,ifs,0⟩] scope pos) (tComp wi own caps g tf te):=by
 intro pins s σ H Q I h
 rw [S2]
 refine zdi (Q:=Q) (fun Y=>Y.calm=true) (fun _ _ _ _ _ _=>hc) S hi.q hg ht he I h (fun D C H' s' m I' hm hn h0 hL h2 h3 q => ?_) hs
 exact ⟨m,hm,fun h' hs'=>⟨.ref D,H',I'.gone hs' hn h0 hL h2 h3,rfl,q⟩⟩
theorem pe_compq (Z:Cx->Prop) (hc:∀ cl C s H fp pins,Z (cxComp X scope (own ++ caps.map (·.2)) cl C s H fp (X.pn ++ pins))) (S:CompScope X scope caps) (hi:PIq Z X target iter wi)
  (hg:∀ cl C s H fp pn,PG (cxComp X scope (own ++ caps.map (·.2)) cl C s H fp pn) target g)
  (ht:∀ cl C s H fp pn,PTs (cxComp X scope (own ++ caps.map (·.2)) cl C s H fp pn) ifs tf)
  (he:∀ cl C s H fp pn,PE (cxComp X scope (own ++ caps.map (·.2)) cl C s H fp pn) elt te)
  (hs:∀ x,foldedSetIterable iter X.env x=pure x:=by intro _; rfl):PE X (.ListComp elt [⟨target,iter,ifs,0⟩] scope pos) (tComp wi own caps g tf te):=by
 intro pins s σ H Q I h
 rw [S2]
 refine zdi (Q:=Q) Z hc S hi hg ht he I h (fun D C H' s' m I' hm hn h0 hL h2 h3 q => ?_) hs
 exact ⟨m,hm,fun h' hs'=>⟨.ref D,H',I'.gone hs' hn h0 hL h2 h3,rfl,q⟩⟩
theorem ps_setC {i:Nat} {x:Str} {pos' spos:Pos} (hN:X.N.Nodup) (hn:X.N[i]?=some x) (hx:Loc X.env.scope x) (hc:X.calm=true) (S:CompScope X scope caps) (hi:PI X target iter wi)
  (hg:∀ cl C s H fp pn,PG (cxComp X scope (own ++ caps.map (·.2)) cl C s H fp pn) target g)
  (ht:∀ cl C s H fp pn,PTs (cxComp X scope (own ++ caps.map (·.2)) cl C s H fp pn) ifs tf)
  (he:∀ cl C s H fp pn,PE (cxComp X scope (own ++ caps.map (·.2)) cl C s H fp pn) elt te)
  (hsw:swapsWith (.ListComp elt [⟨target,iter,ifs,0⟩] scope pos) (some (.Name x pos')) spos.line X.env=pure true:=by rfl)
  (hf:X.fn x=true\/X.env.scope.names.lookup x=some .local:=by first | exact .inl rfl | exact .inr rfl | assumption)
  (hs:∀ x,foldedSetIterable iter X.env x=pure x:=by intro _; rfl):PS X (.Assign [.Name x pos'] (.ListComp elt [⟨target,iter,ifs,0⟩] scope pos) spos) (tAsg (tComp wi own caps g tf te) (gName i)):=by
 intro pins s σ H D I h
 rw [exec_Assign_Name_used _ _ _ _ hsw]
 refine A1 (Kk (A1 ?_))
 show wpAny _ _ (do let _ <- comprehension (.ListComp elt [⟨target,iter,ifs,0⟩] scope pos) scope X.env _ (newList []) false (eval iter X.env) (some (assign (.Name x pos') X.env))) _ _ s
 refine A1 (Dg (zdi (use:=some (assign (.Name x pos') X.env)) (R:=fun _ s'=>SP X pins D .next s') (Q:=fun v H1=>gName i v σ H1 D.nx) (fun Y=>Y.calm=true) (fun _ _ _ _ _ _=>hc) S hi.q hg ht he I h (fun Dl C H' s' m I' hm hnC h0 hL h2 h3 q => ?_) hs)
  (fun _ s' hq=>Ad (Ad hq)) fun _ _ e=>e)
 show wpAny _ _ (assign (.Name x pos') X.env (.ref Dl)) _ _ s'
 refine Pk (zej I' hN hn hx (show RelV (.ref Dl) (.ref Dl) from rfl) (fun s'' I'' sb => ?_) hf)
 obtain ⟨a,hsb,ha⟩:=sb
 have hCa:C≠a:=by
  rcases ha with z | z
  ·rw [z]; exact hL
  ·exact E7 (h2 x a z)
 exact ⟨m,hm.sameBut hsb hCa,fun h' hs'=>⟨_,H',I''.gone hs' hnC h0 hL h2 h3,q⟩⟩
end
noncomputable def sgn (c:Nat):V := .str ⟨#[c]⟩
noncomputable def Its (x:Str):It:=⟨fun i _=>i < x.cps.size,fun i H v H'=>H'=H/\∃ c,x.cps[i]?=some c/\v=sgn c,fun i _=>i=x.cps.size⟩
theorem zfe {P:Ap} {w:Bb} {K:Am} {tg:Ce} (it:A3) (x:Str) (t:Tok) (ty:String)
  (hty : ["enumerate","zip","dict_itemiterator","dict_reverseitemiterator","odict_iterator","itertools.zip_longest","itertools.pairwise"].contains ty=false)
  (W:∀ A:B7,A.handled=none->Walks P w A it [it] [it] x.cps.size (SignAt x) (fun i h=>h.IsStrIter it ty x t i))
  (sf:∀ (A:B7) (i:Nat) (s:A4) (Q:A2->A4->Prop) (E:A2->A4->Prop),s.heap.IsStrIter it ty x t i->Q (.ref it) s->wpAny (model P w) A (pyIter (.ref it)) Q E s) :
  Turn P w K tg (Its x) [it] it (fun i h=>h.IsStrIter it ty x t i) where
 mem:=by simp
 obj:=fun i h st b hb=>by
  have e:b=it:=by simpa using hb
  subst e
  obtain ⟨o,e,c,d⟩:=st
  exact ⟨o,e,fun v z=>by rw [d] at z; cases z⟩
 keep:=fun i h h' st k=>by
  obtain ⟨o,e,r⟩:=st
  exact ⟨o,k it (by simp) o e,r⟩
 item:=by
  intro X hP hw hK hc i pins s σ H E I hf st hg
  subst hP hw hK
  obtain ⟨f0,f1,f2,f3,f4,f5⟩:=hf it (by simp)
  refine (W X.A (I.ok.hd hc)).item i s _ _ hg st fun v h' tk hv st' kk => ?_
  obtain ⟨c,u,hc',rfl⟩:=hv
  have I1:Inv X pins σ H { s with heap:=h',toks:=tk }:=I.turned (fun b o hb e=>kk b o (by simpa using hb) e) f0 f1 f3 f4 f5
  obtain ⟨o,e,cc,d⟩:=id st'
  exact ⟨_,rfl,zfO (s:={ s with heap:=h',toks:=tk }) e cc d hty ⟨sgn c,H,I1,⟨u,rfl⟩,⟨rfl,c,hc',rfl⟩,st',fun b hb=>(hf b hb).1⟩⟩
 done:=by
  intro X hP hw hK hc i pins s σ H E I hf st hg
  subst hP hw hK
  obtain ⟨f0,f1,f2,f3,f4,f5⟩:=hf it (by simp)
  have hi:i=x.cps.size:=hg
  subst hi
  exact (W X.A (I.ok.hd hc)).done s _ _ st fun h' tk kk=>⟨rfl,I.turned (fun b o hb e=>kk b o (by simpa using hb) e) f0 f1 f3 f4 f5⟩
 self:=fun A i s Q E st h=>sf A i s Q E st h
section
variable {X:Cx} {tg:Ce}
noncomputable def iStr (tl:TE):TI:=fun σ H R=>tl σ H fun v H1=>∃ x,v = .str x/\R (Its x) H1
theorem zgT {l:Ce} {tl:TE} (hl:PE X l tl):PI X tg l (iStr tl):=by
 intro pins s σ H R I h
 refine thn (hl pins s σ H _ I h) fun v s1 ⟨y,H1,I1,r1,q1⟩ => ?_
 obtain ⟨x,e,q⟩:=q1
 subst e
 obtain ⟨t,rfl⟩:=r1
 have hf:∀ o:Obj,∀ b ∈ [s1.heap.objs.size],FpOk X pins H1 b:=fun o b hb=>by
  have e:b=s1.heap.objs.size:=by simpa using hb
  subst e
  exact I1.fpOk (Aa _) (I1.hok.fresh (Aa _))
 cases ha:x.cps.all (· < 128)
 ·exact wpAny_pyIter_wide ha ⟨s1.heap.objs.size,[s1.heap.objs.size],_,_,H1,rfl,I1.kept (t':=s1.toks) fun b o e=>A8 _ e,
   zfe _ x t "str_iterator" (by decide) (fun A hA=>Walks.strWide hA _ x t) (fun A i s Q E st h=>wpAny_pyIter_striter_wide st h),⟨_,Av _ rfl,rfl,rfl⟩,hf default,q⟩
 ·exact wpAny_pyIter_ascii ha ⟨s1.heap.objs.size,[s1.heap.objs.size],_,_,H1,rfl,I1.kept (t':=s1.toks) fun b o e=>A8 _ e,
   zfe _ x t "str_ascii_iterator" (by decide) (fun A hA=>Walks.strAscii hA _ x t) (fun A i s Q E st h=>wpAny_pyIter_striter_ascii st h),⟨_,Av _ rfl,rfl,rfl⟩,hf default,q⟩
end
structure Gives (J:It) (Ok:Hp->Prop) (L:List V):Prop where
 go:∀ i H,Ok H->i < L.length->J.go i H
 yld:∀ i H x H',Ok H->J.yld i H x H'->i < L.length->H'=H/\L[i]?=some x
 stop:∀ H,Ok H->J.stop L.length H
theorem zaI (lo:Int) (n:Nat):Gives (Itr lo n) (fun _=>True) ((Ab n).map fun i=>V.int (lo + (i:Nat))) where
 go:=fun i H _ h=>by
  have:i < n:=by simpa using h
  exact this
 yld:=fun i H x H' _ y h=>by
  obtain ⟨e,rfl⟩:=y
  have:i < n:=by simpa using h
  exact ⟨e,by simp [this]⟩
 stop:=fun H _=>by
  show n<=_
  simp
theorem zeH (x:Str):Gives (Its x) (fun _=>True) (x.cps.toList.map sgn) where
 go:=fun i H _ h=>by
  have:i < x.cps.size:=by simpa using h
  exact this
 yld:=fun i H v H' _ y h=>by
  obtain ⟨e,c,hc,rfl⟩:=y
  refine ⟨e,?_⟩
  rw [Af]
  simp [hc]
 stop:=fun H _=>by
  show _=x.cps.size
  simp
theorem zao (K:Am) (a:A3) (xs:List V):Gives (Itl K a) (fun H=>SqL K H a xs) xs where
 go:=fun i H q h=>⟨xs,xs[i],q,by simp [h]⟩
 yld:=fun i H v H' q y h=>⟨y.1,y.2 xs q⟩
 stop:=fun H q=>⟨xs,q,Aa _⟩
theorem gives_tup (K:Am) (a:A3) (xs:List V):Gives (Itt K a) (fun H=>SqT K H a xs) xs where
 go:=fun i H q h=>⟨xs,xs[i],q,by simp [h]⟩
 yld:=fun i H v H' q y h=>⟨y.1,y.2 xs q⟩
 stop:=fun H q=>⟨xs,q,Aa _⟩
theorem zbE {J:It} {Ok:Hp->Prop} {L:List V} {g:TG} {tb:TS} {D:Ends} {σ : St} {H:Hp} (G:Gives J Ok L) (Pv:Nat->St->Hp->Prop) (h0:Pv 0 σ H) (hk:∀ i σ H,i<=L.length->Pv i σ H->Ok H)
  (hs:∀ i x σ H,L[i]?=some x->Pv i σ H->g x σ H fun σ2 H2=>tb { D with nx:=Pv (i + 1),ct:=Pv (i + 1),bk:=D.nx } σ2 H2) (hd:∀ σ H,Pv L.length σ H->D.nx σ H) :
  ∃ W:Nat->Nat->St->Hp->Prop,(∃ m,W 0 m σ H)/\∀ i m σ H,W i m σ H ->
   (J.stop i H/\D.nx σ H)\/(J.go i H/\∃ N:St->Hp->Prop,(∀ σ' H',N σ' H'->∃ m',m' < m/\W (i + 1) m' σ' H')/\∀ x H',J.yld i H x H'->g x σ H' fun σ2 H2=>tb { D with nx:=N,ct:=N,bk:=D.nx } σ2 H2):=by
 refine ⟨fun i m σ H=>m=L.length - i/\i<=L.length/\Pv i σ H,⟨L.length,by simp,By _,h0⟩,?_⟩
 rintro i m σ H ⟨rfl,hi,p⟩
 have q:=hk i σ H hi p
 by_cases hlt:i < L.length
 ·refine .inr ⟨G.go i H q hlt,Pv (i + 1),fun σ' H' p'=>⟨L.length - (i + 1),by omega,rfl,hlt,p'⟩,fun x H' y => ?_⟩
  obtain ⟨e,yy⟩:=G.yld i H x H' q y hlt
  subst e
  exact hs i x σ _ yy p
 ·have e:i=L.length:=by omega
  subst e
  exact .inl ⟨G.stop H q,hd σ H p⟩
noncomputable def CNext (D:A3) (L:List V) (Pv:Nat->List V->St->Hp->Prop) (i:Nat) (σ2:St) (v:V) (H5:Hp):Prop :=
 ∃ ys,H5 D=some (.lst ys)/\ys.length < sizeLine/\∃ m',m' < L.length - i/\(m'=L.length - (i + 1)/\i + 1<=L.length/\∃ xs,Pv (i + 1) xs σ2 (upd H5 D (.lst (ys ++ [v]))))
noncomputable def CSkip (L:List V) (Pv:Nat->List V->St->Hp->Prop) (i:Nat) (σ2:St) (H4:Hp):Prop :=
 ∃ m',m' < L.length - i/\(m'=L.length - (i + 1)/\i + 1<=L.length/\∃ xs,Pv (i + 1) xs σ2 H4)
theorem CNext.of {D:A3} {L:List V} {Pv:Nat->List V->St->Hp->Prop} {i:Nat} {σ2:St} {v:V} {H5:Hp} {xs:List V} (hi:i < L.length) (hL:L.length<=sizeLine) (h5:H5 D=some (.lst xs)) (hx:xs.length<=i) (p:Pv (i + 1) (xs ++ [v]) σ2 (upd H5 D (.lst (xs ++ [v])))):CNext D L Pv i σ2 v H5 :=
 ⟨xs,h5,by omega,L.length - (i + 1),by omega,rfl,hi,_,p⟩
theorem CSkip.of {L:List V} {Pv:Nat->List V->St->Hp->Prop} {i:Nat} {σ2:St} {H4:Hp} {xs:List V} (hi:i < L.length) (p:Pv (i + 1) xs σ2 H4):CSkip L Pv i σ2 H4:=⟨L.length - (i + 1),by omega,rfl,hi,_,p⟩
theorem zgD {J:It} {Ok:Hp->Prop} {L:List V} {g:TG} {tf:TT} {te:TE} {D:A3} {σ0:St} {H1:Hp} {Q:VK} (G:Gives J Ok L) (Pv:Nat->List V->St->Hp->Prop) (h0:Pv 0 [] σ0 (upd H1 D (.lst [])))
  (hk:∀ i xs σ H,i<=L.length->Pv i xs σ H->Ok H)
  (hs:∀ i x xs σ H,i < L.length->L[i]?=some x->Pv i xs σ H->g x σ H fun σ2 H3=>tf σ2 H3 fun b H4=>if b=true then te σ2 H4 fun v H5=>CNext D L Pv i σ2 v H5 else CSkip L Pv i σ2 H4)
  (hd:∀ xs σ H,Pv L.length xs σ H->Q (.ref D) H) :
  CompW J D σ0 H1 g tf te Q:=by
 refine ⟨fun i m σ H=>m=L.length - i/\i<=L.length/\∃ xs,Pv i xs σ H,⟨L.length,by simp,By _,[],h0⟩,?_⟩
 rintro i m σ H ⟨rfl,hi,xs,p⟩
 have q:=hk i xs σ H hi p
 by_cases hlt:i < L.length
 ·refine .inr ⟨G.go i H q hlt,fun x H' y => ?_⟩
  obtain ⟨e,yy⟩:=G.yld i H x H' q y hlt
  subst e
  exact hs i x xs σ _ hlt yy p
 ·have e:i=L.length:=by omega
  subst e
  exact .inl ⟨G.stop H q,hd xs σ H p⟩
theorem Same.put {H0 H:Hp} {p:A3} {o:HO} (s:Same H0 H) (n:H0 p=none):Same H0 (upd H p o):=fun b u e=>by
 rw [zaf (zan e n)]
 exact s b u e
theorem Same.new {H:Hp} {p:A3} {o:HO} (n:H p=none):Same H (upd H p o):=(Same.refl H).put n
theorem Same.tup {K:Am} {H H':Hp} {a:A3} {xs:List V} (e:Same H H') (h:SqT K H a xs):SqT K H' a xs:=by
 rcases h with (h | ⟨o,h⟩) | h
 ·exact .inl (.inl (e _ _ h))
 ·exact .inl (.inr ⟨o,e _ _ h⟩)
 ·exact .inr h
theorem zaG {α : Type} {l:List α} {i:Nat} {x : α} (h:l[i]?=some x):l.take (i + 1)=l.take i ++ [x]:=by
 rw [List.take_add_one,h]
 rfl
theorem zbV {J:It} {Ok:Hp->Prop} {L:List V} {tf:TT} {te:TE} {D:A3} {σ0 capv:St} {H1:Hp} {Q:VK} (hσ : σ0=none :: capv) (G:Gives J Ok L) (hL:L.length<=sizeLine) (hD:H1 D=none) (hOk:∀ H,Same H1 H->Ok H) (p:V->Bool) (F:V->V)
  (ht:∀ x∈L,∀ H R,Same H1 H->(∀ H',Same H H'->R (p x) H')->tf (some x :: capv) H R)
  (he:∀ x∈L,p x=true->∀ H R,Same H1 H->(∀ H',Same H H'->R (F x) H')->te (some x :: capv) H R)
  (hd:∀ H,Same H1 H->H D=some (.lst ((L.filter p).map F))->Q (.ref D) H) :
  CompW J D σ0 H1 (gName 0) tf te Q:=by
 subst hσ
 refine zgD G (fun i xs σ H=>(∃ o,σ = o :: capv)/\Same H1 H/\H D=some (.lst xs)/\xs=((L.take i).filter p).map F) ⟨⟨none,rfl⟩,Same.new hD,zab,by simp⟩ (fun i xs σ H _ h=>hOk H h.2.1) ?_ ?_
 ·rintro i x xs σ H hi hx ⟨⟨o,rfl⟩,s,e,exs⟩
  have hm:x∈L:=B0 hx
  have hxl:xs.length<=i:=by
   rw [exs,A5]
   exact C5 (D6 _ _) (by rw [Cw]; omega)
  show tf (some x :: capv) H _
  refine ht x hm H _ s fun H' s' => ?_
  cases hp:p x with
  | true =>
   rw [if_pos rfl]
   refine he x hm hp H' _ (s.trans s') fun H'' s'' => ?_
   have e'':H'' D=some (.lst xs):=s'' _ _ (s' _ _ e)
   refine CNext.of hi hL e'' hxl ⟨⟨some x,rfl⟩,((s.trans s').trans s'').put hD,zab,?_⟩
   rw [zaG hx,Db,Bs,exs]
   simp [hp]
  | false =>
   rw [if_neg A9]
   refine CSkip.of hi ⟨⟨some x,rfl⟩,s.trans s',s' _ _ e,?_⟩
   rw [zaG hx,Db,Bs,exs]
   simp [hp]
 ·rintro xs σ H ⟨_,s,e,exs⟩
  refine hd H s ?_
  rw [e,exs,C8]
theorem zcV {P:Ap} {w:Bb} {A:B7} {E:A2->A4->Prop} {s:A4} {a:A3} {its:List A2} {Q:A2->A4->Prop} (hh:A.handled=none) (hl:s.heap.IsList a its.toArray)
  (h:∀ (I:A3) (s2:A4),s2={ s with heap:=s.heap.push { cls := .type "list_iterator",data := .fields #[.ref a,.int 0 0] } }->I=s.heap.objs.size ->
   Walks P w A I [I,a] [I] its.length (fun i v=>its[i]?=some v) (fun i h=>h.IsListIter I a i/\h.IsList a its.toArray)->(s2.heap.IsListIter I a 0/\s2.heap.IsList a its.toArray)->(∀ b ∈ [I,a],b < s2.heap.objs.size) ->
   (∀ h':Bx,(∀ b o,b ∉ [I]->s2.heap.get? b=some o->h'.get? b=some o)->∀ b o,s.heap.get? b=some o->h'.get? b=some o)->Q (.ref I) s2) :
  wpAny (model P w) A (pyIter (.ref a)) Q E s:=by
 have hlt:a < s.heap.objs.size:=by obtain ⟨_,e,_⟩:=hl; exact An e
 refine Pj hl (h _ _ rfl rfl ?_ ⟨⟨_,Av _ rfl,rfl,rfl⟩,hl.push _⟩ (fun b hb => ?_) (fun h' k b o e=>k b o ?_ (A8 _ e)))
 ·have W:=Walks.list (prog:=P) (w:=w) (A:=A) hh s.heap.objs.size a (B8 hlt) its.toArray
  simpa using W
 ·show b < (s.heap.push _).objs.size
  rw [Eu]
  rcases Bf.mp hb with rfl | hb
  ·exact Ew _
  ·have e:b=a:=by simpa using hb
   subst e
   exact Em hlt
 ·intro z
  have e2:b=s.heap.objs.size:=by simpa using z
  subst e2
  exact absurd (An e) (Dp _)
theorem zfc {xs:List V} {us:List A2} (r:Vals xs us) {i:Nat} {u:A2} (h:us[i]?=some u):∃ x,xs[i]?=some x/\RelV x u:=by
 have hi:i < xs.length:=by rw [r.length]; exact (Ao.mp h).1
 obtain ⟨u',hu,ru⟩:=r.get (x:=xs[i]) (i:=i) (by simp [hi])
 rw [h] at hu
 cases hu
 exact ⟨_,by simp [hi],ru⟩
theorem range_all_map (bs:List Bool):(Ab bs.length).all (fun i=>bs.getD i false)=bs.all id:=by
 rw [Bq,Cg,Cg]
 constructor
 ·intro h x hx
  obtain ⟨i,hi,e⟩:=N7.mp hx
  have:=h i (B5.mpr hi)
  simp only [Aj,hi,getElem?_pos,Hm,e] at this
  exact this
 ·intro h i hi
  have hi':=B5.mp hi
  simp only [Aj,hi',getElem?_pos,Hm]
  exact h _ (Cp hi')
theorem range_any_map (bs:List Bool):(Ab bs.length).any (fun i=>bs.getD i false)=bs.any id:=by
 rw [Bq,Bv,Bv]
 constructor
 ·rintro ⟨i,hi,h⟩
  have hi':=B5.mp hi
  simp only [Aj,hi',getElem?_pos,Hm] at h
  exact ⟨_,Cp hi',h⟩
 ·rintro ⟨x,hx,h⟩
  obtain ⟨i,hi,e⟩:=N7.mp hx
  refine ⟨i,B5.mpr hi,?_⟩
  simp only [Aj,hi,getElem?_pos,Hm,e]
  exact h
section
variable {X:Cx}
theorem zff {P:Ap} {w:Bb} {A:B7} {bs:List Bool} {its:List A2} (r:Vals (bs.map V.bl) its):TruthOf P w A (fun i v=>its[i]?=some v) (fun i=>bs.getD i false):=by
 intro i v s Q E hv q
 obtain ⟨x,hx,rx⟩:=zfc r hv
 rw [Af] at hx
 cases e:bs[i]? with
 | none=>rw [e] at hx; cases hx
 | some b =>
  rw [e] at hx
  cases hx
  cases (show v=Ie b from rx)
  refine Cu ?_
  have eb:bs.getD i false=b:=by rw [Aj,e]; rfl
  rw [<- eb]
  exact q
theorem zeb (hc:X.calm=true):CallR X (.builtin "all") (fun xs H Q=>∃ (a:A3) (bs:List Bool),xs = [V.ref a]/\SqL X.K H a (bs.map V.bl)/\Q (.bl (bs.all id)) H):=by
 intro pins s σ H xs us Q I r h
 obtain ⟨a,bs,rfl,hq,q⟩:=h
 obtain ⟨u,rfl,ru⟩:=zb1 r
 cases ru
 obtain ⟨its,rv,p,hz⟩:=I.list hq
 refine call_all_walk (zcV (A:=X.A.in1) (I.ok.hd hc) p.isList fun It s2 e2 eI W st hf old => ?_)
 have hl:bs.length=its.length:=by have:=rv.length; rwa [A5] at this
 refine ⟨It,_,_,its.length,_,_,_,rfl,W,st,zff rv,fun h' tk k => ?_⟩
 subst e2
 rw [<- hl,range_all_map]
 exact ⟨.bl _,H,I.kept (t':=tk) (old h' k),rfl,q⟩
theorem zfK (hc:X.calm=true):CallR X (.builtin "any") (fun xs H Q=>∃ (a:A3) (bs:List Bool),xs = [V.ref a]/\SqL X.K H a (bs.map V.bl)/\Q (.bl (bs.any id)) H):=by
 intro pins s σ H xs us Q I r h
 obtain ⟨a,bs,rfl,hq,q⟩:=h
 obtain ⟨u,rfl,ru⟩:=zb1 r
 cases ru
 obtain ⟨its,rv,p,hz⟩:=I.list hq
 refine call_any_walk (zcV (A:=X.A.in1) (I.ok.hd hc) p.isList fun It s2 e2 eI W st hf old => ?_)
 have hl:bs.length=its.length:=by have:=rv.length; rwa [A5] at this
 refine ⟨It,_,_,its.length,_,_,_,rfl,W,st,zff rv,fun h' tk k => ?_⟩
 subst e2
 rw [<- hl,range_any_map]
 exact ⟨.bl _,H,I.kept (t':=tk) (old h' k),rfl,q⟩
theorem zcO:∀ {ns:List Int} {its:List A2},Vals (ns.map V.int) its->El its ns
 | [],_,r=>by rw [Gq] at r; cases r; exact .nil
 | n :: ns,_,r=>by
  rw [Aq] at r
  cases r with
  | cons h t =>
   obtain ⟨tk,e⟩:=(show ∃ t,_=Hr n t from h)
   subst e
   exact .cons n tk (zcO t)
theorem ints_get {ns:List Int} {its:List A2} (r:Vals (ns.map V.int) its) {i:Nat} {v:A2} (h:its[i]?=some v):∃ t,v = .int (ns.getD i 0) t:=by
 obtain ⟨x,hx,rx⟩:=zfc r h
 rw [Af] at hx
 cases e:ns[i]? with
 | none=>rw [e] at hx; cases hx
 | some n =>
  rw [e] at hx
  cases hx
  have en:ns.getD i 0=n:=by rw [Aj,e]; rfl
  rw [en]
  exact rx
theorem zdE (ns:List Int):∀ k,k<=ns.length->preSum (fun i=>ns.getD i 0) k=(ns.take k).sum
 | 0,_=>rfl
 | k + 1,h=>by
  have hk:k < ns.length:=by omega
  rw [preSum,zdE ns k (by omega),zaG (x:=ns[k]) (by simp [hk]),Ou]
  simp [Aj,hk]
theorem zeM (hc:X.calm=true):CallR X (.builtin "sum") (fun xs H Q=>∃ (a:A3) (ns:List Int),xs = [V.ref a]/\SqL X.K H a (ns.map V.int)/\Q (.int ns.sum) H):=by
 intro pins s σ H xs us Q I r h
 obtain ⟨a,ns,rfl,hq,q⟩:=h
 obtain ⟨u,rfl,ru⟩:=zb1 r
 cases ru
 obtain ⟨its,rv,p,hz⟩:=I.list hq
 have hl:ns.length=its.length:=by have:=rv.length; rwa [A5] at this
 refine call_sum_walkG (zcV (A:=X.A.in1) (I.ok.hd hc) p.isList fun It s2 e2 eI W st hf old => ?_)
 refine ⟨It,_,_,its.length,_,_,(fun i=>ns.getD i 0),rfl,W,st,hf,(fun _ _=>ints_get rv),fun h' tk t' k => ?_⟩
 subst e2
 refine ⟨.int _,H,I.kept (t':=tk) (old h' k),⟨t',rfl⟩,?_⟩
 rw [<- hl,zdE ns _ (Aa _),C8]
 exact q
noncomputable def many (ns:List Int):Nat:=(firstMet (fun i=>ns.getD i 0) ns.length).length
theorem call_set1 (hc:X.calm=true):CallR X (.type "set") (fun xs H Q=>∃ (a:A3) (ns:List Int),xs = [V.ref a]/\SqL X.K H a (ns.map V.int)/\ns.length + 1 < scanBound/\∀ p,H p=none->Q (.ref p) (upd H p (.set (fun k=>(firstMet (fun i=>ns.getD i 0) ns.length).any (· == k)) (many ns)))):=by
 intro pins s σ H xs us Q I r h
 obtain ⟨a,ns,rfl,hq,hb,q⟩:=h
 obtain ⟨u,rfl,ru⟩:=zb1 r
 cases ru
 obtain ⟨its,rv,p,hz⟩:=I.list hq
 have hl:ns.length=its.length:=by have:=rv.length; rwa [A5] at this
 have hsz:its.toArray.size=ns.length:=by rw [Az,hl]
 refine call_set_list (items:=its.toArray) (ns:=ns) (I.ok.hd hc) p.isList (by simpa using zcO rv) (by rw [hsz]; exact hb) fun h' tk hS k => ?_
 rw [hsz] at hS
 have I':Inv X pins σ (upd H s.heap.objs.size (.set (fun k=>(firstMet (fun i=>ns.getD i 0) ns.length).any (· == k)) (many ns))) { s with heap:=h',toks:=tk } :=
  I.laid (fun b o e=>k b o (An e) e) (Aa _) hS
 exact ⟨.ref _,_,I',rfl,q _ (I.hok.fresh (Aa _))⟩
theorem call_lenS:CallR X (.builtin "len") (fun xs H Q=>∃ a S n,xs = [V.ref a]/\H a=some (.set S n)/\Q (.int n) H):=by
 intro pins s σ H xs us Q I r h
 obtain ⟨a,S,n,rfl,hq,q⟩:=h
 obtain ⟨u,rfl,ru⟩:=zb1 r
 cases ru
 obtain ⟨o,es,ep,t,h1,h2,h3,h4,h5,h6,h7,h8⟩:=(show s.heap.SetOf (intKind X.prog X.w) a S n from I.hok a _ hq)
 have hfit:(es.size:Int) < 2 ^ 63:=by
  have:(es.size:Int) < 4096:=by unfold scanBound at h6; omega
  exact Int.lt_of_lt_of_le this (by decide)
 exact call_len_set h1 h2 h3 h7 hfit ⟨.int n,H,I.tok _,⟨_,by rw [h8]⟩,q⟩
theorem zes:OpR X (compareOp .LtE) (fun x y H Q=>∃ i j,x = .str i/\y = .str j/\Q (.bl (!decide (j.cps.toList < i.cps.toList))) H):=by
 intro pins s σ H x y v u Q I rx ry h
 obtain ⟨i,j,rfl,rfl,q⟩:=h
 obtain ⟨t,rfl⟩:=rx
 obtain ⟨t',rfl⟩:=ry
 exact PySem.P.le_str (zaF I q rfl)
theorem call_isi {c:A2} {cv:V} (hcv:RelV cv c) (huniq:∀ u,RelV cv u->u=c):CallR X (.builtin "isinstance") (fun xs H Q=>∃ x t b,xs = [x,cv]/\TyOf X.K H x t/\Fq X.K t c=some b/\Q (.bl b) H):=by
 intro pins s σ H xs us Q I r h
 obtain ⟨x,t,b,rfl,ty,e,q⟩:=h
 obtain ⟨u,u',rfl,ru,ru'⟩:=zhb r
 have:=huniq u' ru'
 subst this
 exact isinst_ok I ru ty e fun tk=>⟨.bl b,H,I.tok _,rfl,q⟩
theorem zbZ (T:String):CallR X (.builtin "isinstance") (fun xs H Q=>∃ x t b,xs = [x,.ty T]/\TyOf X.K H x t/\Fq X.K t (.type T)=some b/\Q (.bl b) H):=call_isi (c := .type T) (cv := .ty T) rfl fun _ h=>h
end
section
variable {X:Cx}
noncomputable def tCut (t u:TS):TS:=fun D σ H=>∃ M:St->Hp->Prop,t { D with nx:=M } σ H/\∀ σ' H',M σ' H'->u D σ' H'
theorem zbC {st:Cj} {rest:List Cj} {t u:TS} (h1:PS X st t) (h2:PSs X rest u):PSs X (st :: rest) (tCut t u):=by
 intro pins s σ H D I h
 obtain ⟨M,h,hM⟩:=h
 refine Lf (thn (h1 pins s σ H { D with nx:=M } I h) fun f s1 q => ?_)
 cases f with
 | next =>
  obtain ⟨σ',H',I',q⟩:=q
  exact h2 pins s1 σ' H' D I' (hM σ' H' q)
 | ret v=>exact q
 | brk=>exact q
 | cont=>exact q
theorem zaP {scope:Fg} {N:List Str} {cl:List (Str×A3)} {C:A3} {s:A4} {H:Hp} {fp:List A3} {pn:List (A3×Obj)} (h:N.Nodup):(cxComp X scope N cl C s H fp pn).N.Nodup:=h
theorem zb7 {x:Str} {i:Int} {pos:Pos} (hg:Gl X x) (hm:∃ t,X.mg x=some (.int i t)) (hd:(x == ("__debug__" : Str))=false:=by decide):PE X (.Name x pos) (tC (.int i)):=by
 obtain ⟨t,hm⟩:=hm
 exact zgc hg hm ⟨t,rfl⟩ hd
end
theorem ln1 {P:List A2->Prop} {p:Str} (h:∀ a,P [a]):∀ us:List A2,us.length = [p].length->P us
 | [a],_=>h a
theorem ln2 {P:List A2->Prop} {p q:Str} (h:∀ a b,P [a,b]):∀ us:List A2,us.length = [p,q].length->P us
 | [a,b],_=>h a b
theorem ln3 {P:List A2->Prop} {p q r:Str} (h:∀ a b c,P [a,b,c]):∀ us:List A2,us.length = [p,q,r].length->P us
 | [a,b,c],_=>h a b c
theorem ln4 {P:List A2->Prop} {p q r s:Str} (h:∀ a b c d,P [a,b,c,d]):∀ us:List A2,us.length = [p,q,r,s].length->P us
 | [a,b,c,d],_=>h a b c d
structure Callee (P:Ap) (w:Bb) (K:Am) (mg:Str->Option A2) (base:Bx) (x:Str) (k:Nat) (ps:List Str) (sp:Sp):Prop where
 ex:∃ f fd,FnOk P w K mg base CX0 k f fd ps sp/\mg x=some (.ref f)/\D8 K (.ref f)=true/\Binds K fd ps []/\∃ o,K.lookup f=some o/\o.data = .func fd
structure DefAt (K:Am) (mg:Str->Option A2) (x:Str) (st:Cj):Prop where
 ex:∃ f fd,Fun K x x st f fd/\mg x=some (.ref f)
theorem def_mk {K:Am} {mg:Str->Option A2} {h:Bx} {x:Str} {st:Cj} {f:A3} {oc:A2} {od an:Option A3} {osl:Array (Option A2)} {kV doc pm cdv ct:A2} (X:K.In h) (G:h.Ns mainGlobals mg)
  (a:C2 K mainGlobals x=some (some (.ref f)))
  (l:K.lookup f=some ⟨oc,od,.func (Co x x (defArgs st) (defBody st) (defScope st) .none kV doc pm an cdv ct),osl⟩)
  (c:Fb K cdv x=true) (k:D8 K (.ref f)=true):DefAt K mg x st:=⟨f,_,zgr l c k,L3 X G a⟩
theorem int_mk {K:Am} {mg:Str->Option A2} {h:Bx} {x:Str} {i:Int} {t:Tok} (X:K.In h) (G:h.Ns mainGlobals mg) (a:C2 K mainGlobals x=some (some (.int i t))):∃ t,mg x=some (.int i t):=⟨t,L3 X G a⟩
section
variable {P:Ap} {w:Bb} {K:Am} {mg:Str->Option A2} {base:Bx}
theorem DefAt.callee {x:Str} {st:Cj} {N ps:List Str} {k:Nat} {sp:Sp} (D:DefAt K mg x st) (S:FnScope N ps (defScope st))
  (hb:∀ (kV doc pm:A2) (an:Option A3) (cdv ct:A2) (us:List A2),us.length=ps.length->bindArgs (Co x x (defArgs st) (defBody st) (defScope st) .none kV doc pm an cdv ct) ⟨us,[]⟩=pure (ps.zip us))
  (len:∀ vs H Q E,sp vs H Q E->vs.length=ps.length)
  (hbody:∀ (f:A3) (cdv:A2) (A:B7) (outer:List Env) (s:A4) (H:Hp) (vs:List V) (Q:VK) (E:XK),Room k (A.deeper (envOfC x (defScope st) s.heap.objs.size f cdv))->sp vs H Q E ->
   ∃ t,PSs (cxOf CX0 P w K mg base N x (defScope st) f cdv A outer s H E).nox (defBody st) t/\t { nx:=fun _ H'=>Q .non H',rt:=Q } (start N vs) H):Callee P w K mg base x (k + 1) ps sp:=by
 obtain ⟨f,fd,F,m⟩:=D.ex
 obtain ⟨oc,od,kV,doc,pm,an,cdv,ct,osl,e,lk,hcd⟩:=id F.ex
 exact ⟨f,fd,F.ok S len (fun cdv A outer s H vs Q E hr h=>hbody f cdv A outer s H vs Q E hr h),m,F.kp,F.binds hb,_,lk,rfl⟩
end
section
variable {X:Cx} {x:Str} {k:Nat} {ps:List Str} {sp:Sp} {p pos:Pos} {e:Ce} {es:List Ce} {t:TA}
theorem zaR (C:Callee X.prog X.w X.K X.mg X.base x k ps sp) (hr:Room k X.A) (hg:Gl X x) (ha:PA X (e :: es) t) (hdb:(x == ("__debug__" : Str))=false:=by decide)
  (he:starEach (e :: es) X.env=(false,eval e X.env) :: starEach es X.env:=by rfl) (hpl:(backTo pos (starEach es X.env)).any (·.1)=false:=by rfl):PE X (.Call (.Name x p) (e :: es) [] pos) (tCall sp [] E0 t):=by
 obtain ⟨f,fd,F,hm,hk,hb,_⟩:=C.ex
 exact zgd F hr hg hm hk hb .nil zdZ ha hdb he hpl
end
structure Bn (mg:Str->Option A2):Prop where
 n_len:mg "len" = none
 n_all:mg "all" = none
 n_any:mg "any" = none
 n_max:mg "max" = none
 n_min:mg "min" = none
 n_sum:mg "sum" = none
 n_sorted:mg "sorted" = none
 n_isinstance:mg "isinstance" = none
 n_int:mg "int" = none
 n_bool:mg "bool" = none
 n_str:mg "str" = none
 n_list:mg "list" = none
 n_tuple:mg "tuple" = none
 n_dict:mg "dict" = none
 n_set:mg "set" = none
 n_range:mg "range" = none
 n_reversed:mg "reversed" = none
 n_repr:mg "repr" = none
 n_abs:mg "abs" = none
 n_enumerate:mg "enumerate" = none
 n_zip:mg "zip" = none
theorem bn_mk {K:Am} {mg:Str->Option A2} {h:Bx} (X:K.In h) (G:h.Ns mainGlobals mg)
  (a_len:C2 K mainGlobals "len" = some none)
  (a_all:C2 K mainGlobals "all" = some none)
  (a_any:C2 K mainGlobals "any" = some none)
  (a_max:C2 K mainGlobals "max" = some none)
  (a_min:C2 K mainGlobals "min" = some none)
  (a_sum:C2 K mainGlobals "sum" = some none)
  (a_sorted:C2 K mainGlobals "sorted" = some none)
  (a_isinstance:C2 K mainGlobals "isinstance" = some none)
  (a_int:C2 K mainGlobals "int" = some none)
  (a_bool:C2 K mainGlobals "bool" = some none)
  (a_str:C2 K mainGlobals "str" = some none)
  (a_list:C2 K mainGlobals "list" = some none)
  (a_tuple:C2 K mainGlobals "tuple" = some none)
  (a_dict:C2 K mainGlobals "dict" = some none)
  (a_set:C2 K mainGlobals "set" = some none)
  (a_range:C2 K mainGlobals "range" = some none)
  (a_reversed:C2 K mainGlobals "reversed" = some none)
  (a_repr:C2 K mainGlobals "repr" = some none)
  (a_abs:C2 K mainGlobals "abs" = some none)
  (a_enumerate:C2 K mainGlobals "enumerate" = some none)
  (a_zip:C2 K mainGlobals "zip" = some none)
  : Bn mg:=⟨Bc X G a_len,Bc X G a_all,Bc X G a_any,Bc X G a_max,Bc X G a_min,Bc X G a_sum,Bc X G a_sorted,Bc X G a_isinstance,Bc X G a_int,Bc X G a_bool,Bc X G a_str,Bc X G a_list,Bc X G a_tuple,Bc X G a_dict,Bc X G a_set,Bc X G a_range,Bc X G a_reversed,Bc X G a_repr,Bc X G a_abs,Bc X G a_enumerate,Bc X G a_zip⟩
theorem DefAt.entry {P:Ap} {w:Bb} {K:Am} {mg:Str->Option A2} {x p:Str} {st:Cj} {k:Nat} {sp:Sp} {fa:A3} (D:DefAt K mg x st) (hfa:mg x=some (.ref fa))
  (hb:∀ (kV doc pm:A2) (an:Option A3) (cdv ct v:A2),bindArgs (Co x x (defArgs st) (defBody st) (defScope st) .none kV doc pm an cdv ct) ⟨[v],[]⟩=pure [(p,v)])
  (C:∀ base:Bx,Callee P w K mg base x k [p] sp) :
  ∃ fd:Ek,(∀ (s:A4) (v:A2),Ka s fd ⟨[v],[]⟩ [(p,v)])/\∀ base:Bx,K.In base->base.Ns mainGlobals mg->FnOk P w K mg base CX0 k fa fd [p] sp:=by
 obtain ⟨f,fd,F,m⟩:=D.ex
 rw [m] at hfa
 cases hfa
 obtain ⟨oc,od,kV,doc,pm,an,cdv,ct,osl,rfl,lk,hcd⟩:=F.ex
 refine ⟨_,fun s v => .of_eq (hb kV doc pm an cdv ct v),fun base _ _ => ?_⟩
 obtain ⟨f',fd',G,m',_,_,o,lo,ed⟩:=(C base).ex
 rw [m] at m'
 cases m'
 rw [lk] at lo
 cases lo
 cases ed
 exact G
structure Fly (B:Bx) (l:List Env) (x:A3) (c fl:A2) (h:Bx):Prop where
 stay:B.StaysIn h
 new:B.get? x=none
 frs:h.FunFrames B l
 obj:∃ (oe:Obj) (vs:Array A2) (T:A3) (oT:Obj) (ts:Array A2),h.get? x=some oe/\(oe.cls=c/\oe.dict=none)/\oe.data = .fields vs/\vs[1]?=some (.ref T)/\vs[2]?=some .none/\B.get? T=none/\T≠x/\h.get? T=some oT/\oT.data = .fields ts/\ts[3]?=some fl
structure Fresh (B:Bx) (l:List Env) (x:A3) (c:A2) (h:Bx):Prop where
 stay:B.StaysIn h
 new:B.get? x=none
 frs:h.FunFrames B l
 obj:∃ (oe:Obj) (vs:Array A2),h.get? x=some oe/\(oe.cls=c/\oe.dict=none)/\oe.data = .fields vs/\vs[1]?=some .none/\vs[2]?=some .none
section
variable {M:Hv} {A:B7} {E:A2->A4->Prop} {s:A4} {B:Bx} {l outer:List Env} {env:Env} {x L:A3} {c:A2}
theorem dict_mapFields (o:Obj) (f:Array A2->Array A2):(o.mapFields f).dict=o.dict:=by
 unfold Fa
 split <;> rfl
theorem zaM {h:Bx} {a b:A3} {o:Obj} {vs:Array A2} {f:Array A2->Array A2} (ha:h.get? a=some o) (hd:o.data = .fields vs) :
  (h.update a (Fa f)).get? a=some (o.mapFields f)/\(b≠a->(h.update a (Fa f)).get? b=h.get? b) :=
 ⟨Gd _ ha (N4 (Fs hd f)),fun hb=>Fx _ _ (E7 hb)⟩
theorem zeJ {oe:Obj} {vs:Array A2} {head:A2} {hadNext:Bool} {Q:Unit->A4->Prop} (hfr:A.frames=some (env :: outer)) (hl:s.heap.FunFrames B (env :: outer)) (hf:env.frame=some L)
  (st:B.StaysIn s.heap) (nx:B.get? x=none) (hx:s.heap.get? x=some oe) (hc:oe.cls=c/\oe.dict=none) (hd:oe.data = .fields vs) (h2:vs[2]?=some .none)
  (k:∀ h',Fly B (env :: outer) x c (rawInt L) h'->s.heap.UpToSlots h'->Q () { s with heap:=h' }) :
  wpAny M A (do let a <- frameOf env; let pl <- entryPlaceOf L hadNext; let b <- Lm head a .none (rawInt L) .none pl; setField (.ref x) 1 b) Q E s:=by
 have hsz:2 < vs.size:=(Gv.mp h2).1
 have xnf:x ∉ (env :: outer).filterMap (·.frame):=fun hm=>by
  obtain ⟨_,o,ho,hno⟩:=hl.mem hm
  rw [hx] at ho
  cases ho
  exact hno vs hd
 refine A1 (wpAny_frameOf_fun hfr hl hf fun g1 so=>A1 (wpAny_entryPlaceOf fun pl hpl => ?_))
 unfold Lm newFields
 refine A1 (Ep ?_ (hpl.sizeOk5 _ _ _ _ _))
 have hx1:g1.get? x=some oe:=(so.2.1 x xnf).trans hx
 have st1:B.StaysIn g1:=fun b o hb=>by
  refine (so.2.1 b fun hm => ?_).trans (st b o hb)
  have:=(hl.mem hm).1
  rw [hb] at this
  cases this
 have big:x < g1.objs.size:=An hx1
 generalize hnew:({ cls := .type "traceback",dict:=none,data := .fields ([head,.ref L,.none,rawInt L,.none] ++ (if pl.isEmpty then Br 6 Ct else pl)).toArray }:Obj)=tb
 have hx2:(g1.push tb).get? x=some oe:=A8 tb hx1
 refine Hn hx2 hd (by omega) (k _ ?_ ?_)
 ·have tx:g1.objs.size≠x:=Kh big
  obtain ⟨e1,e2⟩:=zaM (b:=g1.objs.size) (f:=fun a=>a.setIfInBounds 1 (B1 g1.objs.size)) hx2 hd
  have hT:(g1.push tb).get? g1.objs.size=some tb:=Av g1 (by rw [<- hnew]; rfl)
  refine ⟨fun b o hb => ?_,nx,hl.of_keeps fun b o hb hno => ?_,_,_,g1.objs.size,tb,_,e1,⟨(Og _ _).trans hc.1,(dict_mapFields _ _).trans hc.2⟩,Fs hd _,(by show (vs.setIfInBounds 1 (B1 g1.objs.size))[1]?=_; simp [show 1 < vs.size by omega]),?_,st1.fresh,tx,(e2 tx).trans hT,by rw [<- hnew],?_⟩
  ·obtain ⟨_,e3⟩:=zaM (b:=b) (f:=fun a=>a.setIfInBounds 1 (B1 g1.objs.size)) hx2 hd
   refine (e3 fun z => ?_).trans (A8 tb (st1 b o hb))
   rw [z,nx] at hb
   cases hb
  ·have bx:b≠x:=fun z=>by
    rw [z,hx] at hb
    cases hb
    exact hno vs hd
   obtain ⟨sl,hs⟩:=so.2.2 b o hb
   obtain ⟨_,e3⟩:=zaM (b:=b) (f:=fun a=>a.setIfInBounds 1 (B1 g1.objs.size)) hx2 hd
   exact ⟨_,(e3 bx).trans (A8 tb hs),rfl⟩
  ·rw [Array.getElem?_setIfInBounds_ne (by decide)]
   exact h2
  ·rcases hpl with rfl | ⟨_,_,_,_,_,_,_,rfl⟩ <;> rfl
 ·intro b o hb hno
  have bx:b≠x:=fun z=>by
   rw [z,hx] at hb
   cases hb
   exact hno vs hd
  obtain ⟨sl,hs⟩:=so.2.2 b o hb
  obtain ⟨_,e3⟩:=zaM (b:=b) (f:=fun a=>a.setIfInBounds 1 (B1 g1.objs.size)) hx2 hd
  exact ⟨sl,(e3 bx).trans (A8 tb hs)⟩
theorem zcQ {fl:A2} {Q:Unit->A4->Prop} (F:Fly B l x c fl s.heap) (k:∀ h',Fly B l x c .none h'->s.heap.UpToSlots h'->Q () { s with heap:=h' }):wpAny M A (setFlight (.ref x) none) Q E s:=by
 obtain ⟨oe,vs,T,oT,ts,hx,hc,hd,h1,h2,nT,tx,hT,dT,h3⟩:=F.obj
 have hsz:3 < ts.size:=(Gv.mp h3).1
 unfold setFlight
 refine A1 (G6 hx hd h1 ?_)
 rw [if_pos (by simp)]
 refine Hn hT dT hsz (k _ ?_ ?_)
 ·have e:∀ b,b≠T->(s.heap.update T (Fa (·.setIfInBounds 3 ((none:Option A3).elim Ct fun f=>rawInt f)))).get? b=s.heap.get? b:=fun b hb=>(zaM hT dT).2 hb
  refine ⟨fun b o hb=>(e b fun z => ?_).trans (F.stay b o hb),F.new,F.frs.of_keeps fun b o hb hno=>⟨o,(e b fun z => ?_).trans hb,rfl⟩,oe,vs,T,_,_,(e x (E7 tx)).trans hx,hc,hd,h1,h2,nT,tx,(zaM (b:=T) hT dT).1,Fs dT _,by simp [hsz]⟩
  ·rw [z,nT] at hb; cases hb
  ·rw [z,hT] at hb; cases hb; exact hno ts dT
 ·intro b o hb hno
  refine ⟨o.slots,((zaM hT dT).2 fun z => ?_).trans hb⟩
  rw [z,hT] at hb; cases hb; exact hno ts dT
theorem zfG {Q:Unit->A4->Prop} (hfr:A.frames=some (env :: outer)) (hf:env.frame=some L) (F:Fly B (env :: outer) x c .none s.heap)
  (k:∀ h',Fly B (env :: outer) x c (rawInt L) h'->s.heap.UpToSlots h'->Q () { s with heap:=h' }):wpAny M A (noteFrame (.ref x) env) Q E s:=by
 obtain ⟨oe,vs,T,oT,ts,hx,hc,hd,h1,h2,nT,tx,hT,dT,h3⟩:=F.obj
 have hsz:3 < ts.size:=(Gv.mp h3).1
 unfold noteFrame
 simp only [hf]
 refine A1 (G6 hx hd h1 ?_)
 rw [if_pos (by simp)]
 refine A1 (G6 hT dT h3 ?_)
 rw [if_neg (by simp [rawInt])]
 refine A1 (Hn hT dT hsz ?_)
 have e:∀ b,b≠T->(s.heap.update T (Fa (·.setIfInBounds 3 Ct))).get? b=s.heap.get? b:=fun b hb=>(zaM hT dT).2 hb
 have nf:∀ b o,s.heap.get? b=some o->(∀ vs,o.data ≠ .fields vs)->b≠T:=fun b o hb hno z=>by
  rw [z,hT] at hb; cases hb; exact hno ts dT
 refine zeJ hfr (F.frs.of_keeps fun b o hb hno=>⟨o,(e b (nf b o hb hno)).trans hb,rfl⟩) hf (fun b o hb=>(e b fun z => ?_).trans (F.stay b o hb)) F.new ((e x (E7 tx)).trans hx) hc hd h2 fun h' F' u=>k h' F' fun b o hb hno => ?_
 ·rw [z,nT] at hb; cases hb
 ·exact u b o ((e b (nf b o hb hno)).trans hb) hno
theorem fresh_note {Q:Unit->A4->Prop} (hfr:A.frames=some (env :: outer)) (hf:env.frame=some L) (F:Fresh B (env :: outer) x c s.heap)
  (k:∀ h',Fly B (env :: outer) x c (rawInt L) h'->s.heap.UpToSlots h'->Q () { s with heap:=h' }):wpAny M A (noteFrame (.ref x) env) Q E s:=by
 obtain ⟨oe,vs,hx,hc,hd,h1,h2⟩:=F.obj
 unfold noteFrame
 simp only [hf]
 refine A1 (G6 hx hd h1 ?_)
 rw [if_neg (by decide)]
 exact zeJ hfr F.frs hf F.stay F.new hx hc hd h2 k
theorem Fly.tail {fl:A2} {h:Bx} (F:Fly B (env :: outer) x c fl h):Fly B outer x c fl h:=⟨F.stay,F.new,F.frs.2.2,F.obj⟩
theorem fly_leave {Q:Unit->A4->Prop} (hfr:A.frames=some (env :: outer)) (hf:env.frame=some L) (F:Fly B (env :: outer) x c .none s.heap)
  (k:∀ h',Fly B outer x c .none h'->s.heap.UpToSlots h'->Q () { s with heap:=h' }):wpAny M A (leaving env (.ref x)) Q E s:=by
 unfold leaving
 exact A1 (zfG hfr hf F fun h1 F1 u1=>zcQ (s:={ s with heap:=h1 }) F1 fun h2 F2 u2=>k h2 F2.tail (u1.trans u2))
theorem fresh_leave {Q:Unit->A4->Prop} (hfr:A.frames=some (env :: outer)) (hf:env.frame=some L) (F:Fresh B (env :: outer) x c s.heap)
  (k:∀ h',Fly B outer x c .none h'->s.heap.UpToSlots h'->Q () { s with heap:=h' }):wpAny M A (leaving env (.ref x)) Q E s:=by
 unfold leaving
 exact A1 (fresh_note hfr hf F fun h1 F1 u1=>zcQ (s:={ s with heap:=h1 }) F1 fun h2 F2 u2=>k h2 F2.tail (u1.trans u2))
end
section
variable {P:Ap} {w:Bb}
theorem ObjOk.there {H:Hp} {h:Bx} {a:A3} {o:HO} (x:ObjOk P w H h a o):∃ ob,h.get? a=some ob:=by
 cases o with
 | lst xs=>obtain ⟨_,_,_,_,e⟩:=x; exact ⟨_,e⟩
 | tup xs=>obtain ⟨_,_,_,o,e,_⟩:=x; exact ⟨o,e⟩
 | dK kvs=>obtain ⟨_,_,_,_,o,_,_,e,_⟩:=x; exact ⟨o,e⟩
 | dT kvs=>obtain ⟨_,_,_,_,o,_,_,e,_⟩:=x; exact ⟨o,e⟩
 | set S n=>obtain ⟨o,_,_,_,e,_⟩:=x; exact ⟨o,e⟩
 | ins C dx fs=>obtain ⟨_,_,_,e,_⟩:=x; exact ⟨_,e⟩
 | own y=>exact x
 | xd fs=>obtain ⟨_,⟨o,_,_,e,_⟩,_⟩:=x; exact ⟨o,e⟩
 | rng lo hi=>obtain ⟨_,_,_,e⟩:=x; exact ⟨_,e⟩
 | frz ob u=>obtain ⟨e,_⟩:=x; exact ⟨_,e⟩
 | tbl ps=>exact ⟨_,(show h.get? a=some _ from x)⟩
 | met f y=>exact ⟨_,(show h.get? a=some _ from x)⟩
 | ext φ => obtain ⟨_,e,_⟩:=x; exact e
noncomputable def CX1 (P:Ap) (w:Bb):CXT:=fun outer H s E e s'=>∃ (x:A3) (c:A2) (B:Bx) (H':Hp),e = .ref x/\Fly B outer x c .none s'.heap/\s'.os=s.os/\Gr s'.gens/\Un (frs outer) [] H H' s.heap s'.heap/\HOk P w H' s'.heap/\H' x=none /\
 (∀ b o,H' b=some o->∃ ob,B.get? b=some ob)/\(∀ b o,s.heap.get? b=some o->b ∉ frs outer->∃ ob,B.get? b=some ob)/\E c none H'
theorem ze5 {B h h':Bx} {H:Hp} (ok:HOk P w H h) (st:B.StaysIn h) (st':B.StaysIn h') (inB:∀ b o,H b=some o->∃ ob,B.get? b=some ob):HOk P w H h':=fun a o e=>by
 refine (ok a o e).stay (fun b u hb q => ?_) (fun _ q=>q) fun _ _ q=>q
 have ⟨ob,hB⟩:∃ ob,B.get? b=some ob:=by
  rcases hb with z | z
  ·rw [z]; exact inB a o e
  ·exact inB b _ z
 have:=st b ob hB
 rw [q] at this
 cases this
 exact st' b _ hB
theorem zgt {B h0 h h':Bx} {fs:List A3} {H H':Hp} (u:Un fs [] H H' h0 h) (st:B.StaysIn h) (st':B.StaysIn h') (up:h.UpToSlots h') (inB:∀ b o,h0.get? b=some o->b ∉ fs->∃ ob,B.get? b=some ob)
  (hfs:∀ b∈fs,∀ o,h.get? b=some o->∀ vs,o.data ≠ .fields vs):Un fs [] H H' h0 h' where
 keep:=fun b o e n hb hx=>by
  obtain ⟨ob,hB⟩:=inB b o e hb
  have q:=u.keep b o e n hb hx
  have:=st b ob hB
  rw [q] at this
  cases this
  exact st' b _ hB
 slot:=fun b o e n hb hx=>by
  obtain ⟨sl,q⟩:=u.slot b o e n hb hx
  obtain ⟨sl',q'⟩:=up b _ q (hfs b hb _ q)
  exact ⟨sl',q'⟩
 free:=u.free
 there:=fun b o e hx=>by
  by_cases hb:b∈fs
  ·obtain ⟨o',q⟩:=u.there b o e hx
   obtain ⟨sl,q'⟩:=up b o' q (hfs b hb o' q)
   exact ⟨_,q'⟩
  ·obtain ⟨ob,hB⟩:=inB b o e hb
   exact ⟨ob,st' b ob hB⟩
 tups:=u.tups
 frzs:=u.frzs
 tbls:=u.tbls
theorem zcR {B h:Bx} {l:List Env} (f:h.FunFrames B l):∀ b∈frs l,∀ o,h.get? b=some o->∀ vs,o.data ≠ .fields vs:=fun b hb o e vs=>by
 obtain ⟨_,o',e',hno⟩:=f.mem hb
 rw [e] at e'
 cases e'
 exact hno vs
theorem zdq {X:Cx} {pins:List (A3×Obj)} {σ : St} {H H':Hp} {s:A4} {h':Bx} (I:Inv X pins σ H s) (hex:X.ex = []) (u:Un (frs X.stack) [] H H' s.heap h'):Un X.fs [] X.H₀ H' X.s₀.heap h':=by
 have nl:∀ b o,X.s₀.heap.get? b=some o->b≠X.env.locals:=fun b o e=>B8 (Ae (An e) I.ok.above)
 have nst:∀ b o,X.s₀.heap.get? b=some o->b ∉ X.fs->b ∉ frs X.stack:=fun b o e hb z=>(Bf.mp (I.stkSub b z)).elim (nl b o e) hb
 have B:=I.base
 rw [hex] at B
 refine ⟨fun b o e n hb hx=>u.keep b o (B.keep b o e n hb hx) (B.free b o e n hx) (nst b o e hb) hx,fun b o e n hb hx => ?_,fun b o e n hx => ?_,fun b o e hx => ?_,fun b xs e=>u.tups b xs (B.tups b xs e),fun b o v e=>u.frzs b o v (B.frzs b o v e),fun b ps e => ?_⟩
 ·obtain ⟨sl,e1⟩:=B.slot b o e n hb hx
  obtain ⟨sl',e2⟩:=u.any e1 (B.free b o e n hx) hx
  exact ⟨sl',e2⟩
 ·obtain ⟨o',e1⟩:=B.there b o e hx
  exact u.free b o' e1 (B.free b o e n hx) hx
 ·obtain ⟨o',e1⟩:=B.there b o e hx
  exact u.there b o' e1 hx
 ·obtain ⟨m1,e1⟩:=B.tbls b ps e
  obtain ⟨m2,e2⟩:=u.tbls b _ e1
  exact ⟨m1 ++ m2,by rw [e2,Ju]⟩
theorem zcz {K:Am} {mg:Str->Option A2} {base:Bx} {N:List Str} {qual:Str} {scope:Fg} {f:A3} {cd:A2} {A:B7} {outer:List Env} {s₀ : A4} {H₀ : Hp} {E:XK} :
  Passes (CX1 P w) (cxOf (CX1 P w) P w K mg base N qual scope f cd A outer s₀ H₀ E) E:=by
 intro pins σ H s e s' I h
 obtain ⟨x,c,B,H',rfl,F,ho,hg,u,ok,nx,inB,old,q⟩:=h
 have hfr:(A.deeper (envOfC qual scope s₀.heap.objs.size f cd)).frames=some (envOfC qual scope s₀.heap.objs.size f cd :: outer):=I.ok.frames
 have ut:Un (frs outer) [] H₀ H' s₀.heap s'.heap:=zdq I rfl u
 have old':∀ b o,s₀.heap.get? b=some o->b ∉ frs outer->∃ ob,B.get? b=some ob:=fun b o e hb=>by
  obtain ⟨o',e1⟩:=I.base.there b o e (by show b ∉ ([]:List A3); simp)
  refine old b o' e1 fun z => ?_
  rcases Bf.mp (I.stkSub b z) with z | z
  ·exact absurd (Ae (An e) I.ok.above) (by rw [z]; exact Dp _)
  ·exact hb z
 show wpAny (model P w) _ (leaving _ (.ref x)) _ _ s'
 refine fly_leave hfr rfl F fun h' F' up=>⟨x,c,B,H',rfl,F',(show s'.os=s₀.os from ho.trans I.os),hg,zgt ut F.stay F'.stay up old' (zcR F.tail.frs),ze5 ok F.stay F'.stay inB,nx,inB,old',q⟩
theorem pass_no {X:Cx} {E:XK} (hE:∀ c d H,¬ E c d H):Passes (CX1 P w) X E:=fun _ _ _ _ _ _ _ h=>by
 obtain ⟨_,_,_,_,_,_,_,_,_,_,_,_,_,q⟩:=h
 exact (hE _ _ _ q).elim
theorem zbh {X:Cx}:Passes (CX1 P w) X E0:=pass_no fun _ _ _ h=>h
theorem raise_out {K:Am} {mg:Str->Option A2} {base:Bx} {N:List Str} {qual:Str} {scope:Fg} {f:A3} {cd:A2} {A:B7} {outer:List Env} {s₀ : A4} {H₀ : Hp} {E:XK} {pins:List (A3×Obj)} {σ : St} {H:Hp} {s s':A4} {x:A3} {c:A2} {args:List A2}
  (I:Inv (cxOf (CX1 P w) P w K mg base N qual scope f cd A outer s₀ H₀ E) pins σ H s) (hx:Heap.MadeExcOf s.heap s'.heap x c args) (ho:s'.os=s.os) (hg:Gr s'.gens) (q:E c none H) :
  (cxOf (CX1 P w) P w K mg base N qual scope f cd A outer s₀ H₀ E).xe (.ref x) s':=by
 have hfr:(A.deeper (envOfC qual scope s₀.heap.objs.size f cd)).frames=some (envOfC qual scope s₀.heap.objs.size f cd :: outer):=I.ok.frames
 have hin:∀ env∈envOfC qual scope s₀.heap.objs.size f cd :: outer,∀ a,env.frame=some a->a∈frs (envOfC qual scope s₀.heap.objs.size f cd :: outer):=fun env he a ha=>Ez.mpr ⟨env,he,ha⟩
 have st:(E1 s.heap (frs (envOfC qual scope s₀.heap.objs.size f cd :: outer))).StaysIn s'.heap:=fun b o e=>hx.keeps b o (Je _ e)
 have nx:(E1 s.heap (frs (envOfC qual scope s₀.heap.objs.size f cd :: outer))).get? x=none:=by
  cases e:(E1 s.heap (frs (envOfC qual scope s₀.heap.objs.size f cd :: outer))).get? x with
  | none=>rfl
  | some o =>
   have:=Je _ e
   rw [hx.new] at this
   cases this
 have fr0:s.heap.FunFrames (E1 s.heap (frs (envOfC qual scope s₀.heap.objs.size f cd :: outer))) (envOfC qual scope s₀.heap.objs.size f cd :: outer):=PySem.W.funFrames_hide I.stack hin
 obtain ⟨t,hobj,_,_⟩:=hx.there
 have F:Fresh (E1 s.heap (frs (envOfC qual scope s₀.heap.objs.size f cd :: outer))) (envOfC qual scope s₀.heap.objs.size f cd :: outer) x c s'.heap :=
  ⟨st,nx,fr0.of_keeps fun b o hb _=>⟨o,hx.keeps b o hb,rfl⟩,_,_,hobj,⟨rfl,rfl⟩,rfl,rfl,rfl⟩
 have inB:∀ b o,s.heap.get? b=some o->b ∉ frs (envOfC qual scope s₀.heap.objs.size f cd :: outer)->∃ ob,(E1 s.heap (frs (envOfC qual scope s₀.heap.objs.size f cd :: outer))).get? b=some ob:=fun b o e hb=>⟨o,M9 _ e hb⟩
 have trk:∀ b o,H b=some o->∃ ob,(E1 s.heap (frs (envOfC qual scope s₀.heap.objs.size f cd :: outer))).get? b=some ob:=fun b o e=>by
  have lt:=I.hok.lt e
  cases e2:s.heap.get? b with
  | none =>
   exfalso
   have ok:=I.hok b o e
   obtain ⟨ob,hob⟩:=ok.there
   rw [e2] at hob
   cases hob
  | some ob =>
   refine inB b ob e2 fun z => ?_
   have:=I.stkFree b z
   rw [e] at this
   cases this
 have old:∀ b o,s₀.heap.get? b=some o->b ∉ frs outer->∃ ob,(E1 s.heap (frs (envOfC qual scope s₀.heap.objs.size f cd :: outer))).get? b=some ob:=fun b o e hb=>by
  obtain ⟨o',e1⟩:=I.base.there b o e (by show b ∉ ([]:List A3); simp)
  refine inB b o' e1 fun z => ?_
  rcases Bf.mp (I.stkSub b z) with z | z
  ·exact absurd (Ae (An e) I.ok.above) (by rw [z]; exact Dp _)
  ·exact hb z
 have u0:Un (frs outer) [] H₀ H s₀.heap s.heap:=zdq I rfl Un.refl
 have u1:Un (frs outer) [] H₀ H s₀.heap s'.heap:=u0.trans (Un.kept hx.keeps)
 have ok1:HOk P w H s'.heap:=I.hok.kept hx.keeps
 have nxH:H x=none:=by
  cases e:H x with
  | none=>rfl
  | some o =>
   obtain ⟨ob,hob⟩:=(I.hok x o e).there
   rw [hx.new] at hob
   cases hob
 show wpAny (model P w) _ (leaving _ (.ref x)) _ _ s'
 exact fresh_leave hfr rfl F fun h' F' up=>⟨x,c,_,H,rfl,F',(show s'.os=s₀.os from ho.trans I.os),hg,zgt u1 F.stay F'.stay up old (zcR F.frs.2.2),ze5 ok1 F.stay F'.stay trk,nxH,trk,old,q⟩
end
theorem entry_unchain:entryFor table "proto.unchain" = some F0.«proto.unchain» := entryFor_of_tree (by kernel_rfl)
section
variable {prog:Ap} {w:Bb} {A:B7} {E:A2->A4->Prop} {s:A4}
theorem raiseNew_h {α : Type} {x e:A3} {ox oe:Obj} {vs xs:Array A2} {Q : α -> A4->Prop} (hh:A.handled=some (.ref e)) (hx:s.heap.get? x=some ox) (dx:ox.data = .fields xs) (hs:2 < xs.size) (ne:e≠x)
  (he:s.heap.get? e=some oe) (de:oe.data = .fields vs) (h2:vs[2]?=some .none)
  (h:E (.ref x) { s with heap:=s.heap.update x (Fa (·.setIfInBounds 2 (.ref e))) }):wpAny (model prog w) A (raiseNew (.ref x):Sem α) Q E s:=by
 unfold raiseNew
 refine A1 (Ry ?_)
 rw [hh]
 dsimp only
 rw [if_pos (by simpa using ne)]
 refine A1 (D3 (wpAny_runValue (Ql entry_unchain ?_)))
 unfold F0.«proto.unchain»
 dsimp only
 refine A1 (G6 he de h2 ?_)
 rw [if_pos (by decide)]
 refine Ad ?_
 dsimp only
 refine A1 ?_
 unfold updateField
 refine A1 (wpAny_load hx ?_)
 rw [dx]
 dsimp only
 rw [if_pos hs]
 refine wpAny_update hx ?_
 exact wpAny_throw h
theorem range_end_h {it e:A3} {oe:Obj} {vs:Array A2} {x left step:Int} {Q:Option A2->A4->Prop} (hh:A.handled=some (.ref e)) (he:s.heap.get? e=some oe) (de:oe.data = .fields vs) (h2:vs[2]?=some .none)
  (hit:Ga s.heap it x left step) (hleft:left<=0)
  (hQ:∀ h',Qb it s.heap h'->Q none { s with heap:=h' }):wpAny (model prog w) A (pyNext (.ref it)) Q E s:=by
 have ty:s.TypeIs (.ref it) "range_iterator" := ⟨_,hit,rfl⟩
 unfold pyNext
 refine A1 (Go (G7 (name:=A0 "__next__") ty M5 (Ds M5 ty F.entry_range_iterator_next (?_:wpAny _ _ (field (.ref it) 0 >>= _) _ _ s) (F.args_range_iterator_next_1 _))))
 refine A1 (G6 hit rfl (x:=rawInt x) rfl (?_:wpAny _ _ (field (.ref it) 1 >>= _) _ _ s))
 refine A1 (G6 hit rfl (x:=rawInt left) rfl (?_:wpAny _ _ (field (.ref it) 2 >>= _) _ _ s))
 refine A1 (G6 hit rfl (x:=rawInt step) rfl (?_:wpAny _ _ (if left<=0 then _ else _) _ _ s))
 rw [if_pos hleft]
 refine A1 (Fz (A1 (?_:wpAny _ _ (newExc (.type "StopIteration") [] >>= _) _ _ _)))
 refine A1 (?_:wpAny _ _ (newTuple [] >>= _) _ _ _)
 simp only [newTuple]
 refine A1 (Ep (A1 (m:=firstArgMember _ _) (On (a:=Ct) (by first | rfl | (simp only [firstArgMember]; rfl)) (Ep ?_ (by size_fits)))) (by size_fits))
 refine raiseNew_h (A:=A.in1) (e:=e) (oe:=oe) (vs:=vs) (show A.in1.handled=some (.ref e) from hh) (Av _ rfl) rfl (by rw [Array.size_append]; exact Ae (show 2 < 6 by decide) (Ot _ _)) ?_ (A8 _ (A8 _ he)) de h2 ?_
 ·rw [Eu]
  exact B8 (Em (An he))
 ·refine A1 (Gj (T := "StopIteration") (b:=true) ⟨_,Gd _ (Av _ rfl) rfl,rfl⟩ Rr ?_)
  refine Ad (hQ _ fun b o hb hbo => ?_)
  rw [Fx _ _ ?_]
  ·exact A8 _ (A8 _ hbo)
  ·rw [Eu]
   exact Kh (Em (An hbo))
end
noncomputable def QH (e:A3) (oe:Obj) (Y:Cx):Prop:=Y.A.handled=some (.ref e)/\(e,oe)∈Y.pn/\∃ vs,oe.data = .fields vs/\vs[2]?=some .none
section
variable {X:Cx} {tg:Ce} {e:A3} {oe:Obj}
theorem QH.comp {scope:Fg} {N:List Str} {cl:List (Str×A3)} {C:A3} {s:A4} {H:Hp} {fp:List A3} {pins:List (A3×Obj)} (q:QH e oe X):QH e oe (cxComp X scope N cl C s H fp (X.pn ++ pins)) :=
 ⟨q.1,Bg _ q.2.1,q.2.2⟩
theorem range_item_q {it:A3} {lo:Int} {n i:Nat} {pins:List (A3×Obj)} {s:A4} {σ : St} {H:Hp} {E:A2->A4->Prop} (I:Inv X pins σ H s) (hf:∀ b ∈ [it],FpOk X pins H b)
  (st:Ga s.heap it (lo + (i:Nat) * 1) ((n:Int) - (i:Nat)) 1) (hg:i < n) :
  wpAny (model X.prog X.w) X.A (pyNext (.ref it)) (fun r s1=>∃ u,r=some u /\
   wpAny (model X.prog X.w) X.A (letOwnedTupleGo tg (.ref it) u) (fun _ s2=>∃ x H',Inv X pins σ H' s2/\RelV x u/\(Itr lo n).yld i H x H'/\Ga s2.heap it (lo + ((i + 1:Nat):Int) * 1) ((n:Int) - ((i + 1:Nat):Int)) 1/\∀ b ∈ [it],H' b=none) E s1) E s:=by
 obtain ⟨f0,f1,f2,f3,f4,f5⟩:=hf it (by simp)
 refine wpAny_pyNext_range_item st (by omega) fun h' st' sb => ?_
 have I1:Inv X pins σ H { s with heap:=h',toks:=s.toks + 1 }:=I.turned (fun b o hb e=>(sb.2 b hb).trans e) f0 f1 f3 f4 f5
 have st2:Ga h' it (lo + ((i + 1:Nat):Int) * 1) ((n:Int) - ((i + 1:Nat):Int)) 1:=by
  have e1:lo + ((i + 1:Nat):Int) * 1=lo + (i:Nat) * 1 + 1:=by omega
  have e2:(n:Int) - ((i + 1:Nat):Int)=(n:Int) - (i:Nat) - 1:=by omega
  rw [e1,e2]; exact st'
 refine ⟨_,rfl,zfO (s:={ s with heap:=h',toks:=s.toks + 1 }) (n := "range_iterator") st2 rfl rfl (by decide) ⟨.int (lo + i),H,I1,⟨s.toks,?_⟩,⟨rfl,rfl⟩,st2,fun b hb=>(hf b hb).1⟩⟩
 rw [Rh]
theorem trn_range {P:Ap} {w:Bb} {K:Am} (it:A3) (lo:Int) (n:Nat):Trn P w K (QH e oe) tg (Itr lo n) [it] it (fun i h=>Ga h it (lo + (i:Nat) * 1) ((n:Int) - (i:Nat)) 1) where
 obj:=fun i h st b hb=>by
  have e:b=it:=by simpa using hb
  subst e
  exact ⟨_,st,fun v z=>by
   have z':Qd _=Rx v:=z
   cases z'⟩
 keep:=fun i h h' st k=>k it (by simp) _ st
 steps:=fun Y hP hw hK hz=>⟨fun i pins s σ H E I hf st hg=>range_item_q I hf st hg,fun i pins s σ H E I hf st hg=>by
  obtain ⟨hh,hm,vs,de,h2⟩:=hz
  obtain ⟨f0,f1,f2,f3,f4,f5⟩:=hf it (by simp)
  exact range_end_h hh (I.pin (e,oe) (Bg _ hm)).1 de h2 st (by have:n<=i:=hg; omega) fun h' eb=>⟨rfl,I.turned (t':=s.toks) (fun b o hb e=>eb b o hb e) f0 f1 f3 f4 f5⟩⟩
 self:=fun _ _ _ _ _ st h=>Nq st h
theorem range_itq {pins:List (A3×Obj)} {σ : St} {H:Hp} {s:A4} {R:It->Hp->Prop} {E:A2->A4->Prop} {lo hi:Int} {t u v:Tok} {tk:Nat} (I:Inv X pins σ H s) (h1 : -(2 ^ 62)<=lo) (h2:lo < 2 ^ 62) (h3 : -(2 ^ 62)<=hi) (h4:hi < 2 ^ 62)
  (q:R (Itr lo (hi - lo).toNat) H):wpAny (model X.prog X.w) X.A (pyIter (.ref s.heap.objs.size)) (PIEq (QH e oe) X pins σ tg R) E { s with heap:=s.heap.push { cls := .type "range",data := .fields #[.int lo t,.int hi u,.int 1 v] },toks:=tk }:=by
 refine P7 (P4 ..) (small_one h1 h2 h3 h4) ?_
 have I1:Inv X pins σ H { s with heap:=s.heap.push { cls := .type "range",data := .fields #[.int lo t,.int hi u,.int 1 v] },toks:=tk }:=I.kept fun b o e=>A8 _ e
 refine ⟨(s.heap.push { cls := .type "range",data := .fields #[.int lo t,.int hi u,.int 1 v] }).objs.size,[(s.heap.push { cls := .type "range",data := .fields #[.int lo t,.int hi u,.int 1 v] }).objs.size],_,_,H,rfl,
  I1.kept (t':=tk) fun b o e=>A8 _ e,trn_range _ lo (hi - lo).toNat,?_,fun b hb => ?_,q⟩
 ·have e1:lo + ((0:Nat):Int) * 1=lo:=by simp
  have e2:(((hi - lo).toNat:Nat):Int) - ((0:Nat):Int)=K9 lo hi 1:=by rw [S0]; split <;> omega
  show Ga _ _ (lo + ((0:Nat):Int) * 1) ((((hi - lo).toNat:Nat):Int) - ((0:Nat):Int)) 1
  rw [e1,e2]
  exact Av _ rfl
 ·have e:b=(s.heap.push { cls := .type "range",data := .fields #[.int lo t,.int hi u,.int 1 v] }).objs.size:=by simpa using hb
  subst e
  exact I1.fpOk (Aa _) (I1.hok.fresh (Aa _))
theorem pi_range1q {a:Ce} {ta:TA} {p pos:Pos} (hg:Gl X "range") (hm:X.mg "range" = none) (ha:PA X [a] ta) (hs:starEach [a] X.env = [(false,eval a X.env)]:=by rfl):PIq (QH e oe) X tg (.Call (.Name "range" p) [a] [] pos) (iRng1 ta):=by
 intro pins s σ H R I h
 refine Call_ (zey I hg hm boot_range (G9 (thn (ha pos pins s σ H _ I h) fun us s1 ⟨vs,H1,I1,r1,q1⟩ => ?_) hs rfl))
 obtain ⟨j,e,q1,q2,q⟩:=q1
 subst e
 cases r1 with
 | cons r rr =>
  cases rr
  obtain ⟨t,rfl⟩:=r
  exact Sq (range_itq I1 (by omega) (by omega) q1 q2 (by simpa using q))
end
structure RoomH (k:Nat) (A:B7) (e:A3):Prop where
 hd:A.handled=some (.ref e)
 dp:A.depth + 3 * k + 5 < recursionLimit
 un:A.units + 16 * k + 200 < cLine
theorem Room.mark {k:Nat} {A:B7} {e:A3} (r:Room k A):RoomH k (A.mark (some (.ref e))) e:=⟨rfl,r.dp,r.un⟩
theorem RoomH.depth {k:Nat} {A:B7} {e:A3} (r:RoomH k A e):A.depth < recursionLimit:=by have:=r.dp; omega
structure FnOkH (P:Ap) (w:Bb) (K:Am) (mg:Str->Option A2) (base:Bx) (e:A3) (oe:Obj) (k:Nat) (f:A3) (fd:Ek) (ps:List Str) (sp:Sp):Prop where
 len:∀ vs H Q E,sp vs H Q E->vs.length=ps.length
 run:∀ (A:B7) (outer:List Env) (s:A4) (H:Hp) (args:Args) (us:List A2) (vs:List V) (Q:VK),RoomH k A e->Env0 P w K mg base A outer s H->s.heap.get? e=some oe->H e=none->e ∉ frs outer->(∀ v,oe.data ≠ .cell v) ->
  Ka s fd args (ps.zip us)->Vals vs us->sp vs H Q E0->codeAny (model P w) A (.call (.ref f) args) (CR CX0 outer P w H s Q E0) s
noncomputable def cxH (P:Ap) (w:Bb) (K:Am) (mg:Str->Option A2) (base:Bx) (N:List Str) (qual:Str) (scope:Fg) (f:A3) (cd:A2) (A:B7) (outer:List Env) (s:A4) (H:Hp) (e:A3) (oe:Obj):Cx :=
 { cxOf CX0 P w K mg base N qual scope f cd A outer s H E0 with calm:=false,pn := [(e,oe)],xe:=fun _ _=>False }
theorem cxH_q {P:Ap} {w:Bb} {K:Am} {mg:Str->Option A2} {base:Bx} {N:List Str} {qual:Str} {scope:Fg} {f:A3} {cd:A2} {A:B7} {outer:List Env} {s:A4} {H:Hp} {e:A3} {oe:Obj} {vs:Array A2}
  (hh:A.handled=some (.ref e)) (de:oe.data = .fields vs) (h2:vs[2]?=some .none):QH e oe (cxH P w K mg base N qual scope f cd A outer s H e oe):=⟨hh,A7.mpr rfl,vs,de,h2⟩
theorem fn_ofH {P:Ap} {w:Bb} {K:Am} {mg:Str->Option A2} {base:Bx} {e:A3} {oe:Obj} {k:Nat} {f:A3} {name qual:Str} {params:Qh} {body:List Cj} {scope:Fg} {dV kV doc pm cdv ct oc:A2} {an od:Option A3}
  {osl:Array (Option A2)} {N ps:List Str} {sp:Sp} (lk:K.lookup f=some ⟨oc,od,.func (Co name qual params body scope dV kV doc pm an cdv ct),osl⟩) (hcd:Fb K cdv qual=true) (S:FnScope N ps scope)
  (len:∀ vs H Q E,sp vs H Q E->vs.length=ps.length)
  (hbody:∀ (A:B7) (outer:List Env) (s:A4) (H:Hp) (vs:List V) (Q:VK),A.handled=some (.ref e)->sp vs H Q E0 ->
   ∃ t,PSs (cxH P w K mg base N qual scope f cdv A outer s H e oe) body t/\t { nx:=fun _ H'=>Q .non H',rt:=Q } (start N vs) H) :
  FnOkH P w K mg base e oe (k + 1) f (Co name qual params body scope dV kV doc pm an cdv ct) ps sp:=by
 refine ⟨len,fun A outer s H args us vs Q hr e0 he hn hne hnc hb r hsp => ?_⟩
 have hl:=len _ _ _ _ hsp
 have KX:K.In s.heap:=e0.mod.kin.keeps fun b o e=>(e0.bs b o e).1
 have lim:s.heap.NoLimit:=e0.mod.nolimit.keeps fun b o e=>(e0.bs b o e).1
 have hkind:∀ y∈ps.zip us,scope.names.lookup y.1=some .local\/(scope.names.lookup y.1=some .cell/\((cellsFrom (s.heap.objs.size + 1) scope.names []).lookup y.1).isSome=true):=fun ⟨n,v⟩ hy=>by
  rcases S.par n (Iv hy).1 with q | q
  ·exact .inl q
  ·exact .inr ⟨q,Ht _ _ _ (.inl q)⟩
 refine Oe hr.depth (KX _ _ lk) rfl S.co S.gen rfl (Ms KX hcd) (hb _ _ _ _ ?_)
 refine Mm S.kind hkind fun env hen s1 x => ?_
 subst hen
 refine ⟨lim.keeps x.toInCall.keep,So ?_⟩
 obtain ⟨t,ht,hq⟩:=hbody A outer s H vs Q hr.hd hsp
 have I0:Inv (cxOf CX0 P w K mg base N qual scope f cdv { A with handled:=none } outer s H E0) [] (start N vs) H s1 :=
  zeD S rfl ⟨e0.frames,e0.mod,e0.bs,e0.bsz,e0.funs,e0.frf,e0.hok,e0.bare⟩ hl r x
 have I:Inv (cxH P w K mg base N qual scope f cdv A outer s H e oe) [] (start N vs) H s1:=by
  refine ⟨⟨I0.ok.mod,I0.ok.kind,I0.ok.glob,I0.ok.blt,I0.ok.above,I0.ok.inj,I0.ok.has,I0.ok.cab,(fun z=>absurd z A9),Ml e0.frames,I0.ok.stk,I0.ok.exf,I0.ok.bs,I0.ok.bsz,I0.ok.noex,I0.ok.exfs,I0.ok.funs,I0.ok.frf⟩,
   I0.os,I0.bare,I0.base,I0.loc,I0.cell,I0.free,I0.freeC,fun p hp => ?_,I0.hok,I0.len⟩
  have e1:p=(e,oe):=by
   rcases Al.mp hp with z | z
   ·exact A7.mp z
   ·cases z
  subst e1
  exact ⟨x.toInCall.keep _ _ he,hn,B8 (An he),hne,hnc⟩
 refine Dg (ht [] s1 (start N vs) H _ I hq) (fun fl s' hs => ?_) fun e s' hs=>Cn hs
 have fin:∀ {σ':St} {H':Hp} {v:V} {u:A2},Inv (cxH P w K mg base N qual scope f cdv A outer s H e oe) [] σ' H' s'->RelV v u->Q v H'->CE outer P w H s Q u s' :=
  fun {σ' H' v u} J rv q=>⟨v,H',J.os,J.bare,J.base,J.hok,rv,q⟩
 cases fl with
 | ret u =>
  obtain ⟨v,σ',H',J,rv,q⟩:=hs
  exact fin J rv q
 | next =>
  obtain ⟨σ',H',J,q⟩:=hs
  exact fin (v:=V.non) (u:=Ct) J rfl q
 | brk =>
  obtain ⟨_,_,_,q⟩:=hs
  exact Cn q
 | cont =>
  obtain ⟨_,_,_,q⟩:=hs
  exact Cn q
section
variable {X:Cx} {k:Nat} {f:A3} {fd:Ek} {ps:List Str} {sp:Sp} {x:Str} {p pos:Pos} {ex:Ce} {es:List Ce} {t:TA} {e:A3} {oe:Obj}
theorem pe_callH (F:FnOkH X.prog X.w X.K X.mg X.base e oe k f fd ps sp) (hr:RoomH k X.A e) (hp:(e,oe)∈X.pn) (hgd:e ∉ frs X.stack) (hg:Gl X x) (hm:X.mg x=some (.ref f)) (hk:D8 X.K (.ref f)=true) (hb:Binds X.K fd ps [])
  (ha:PA X (ex :: es) t) (hdb:(x == ("__debug__" : Str))=false:=by decide) (he:starEach (ex :: es) X.env=(false,eval ex X.env) :: starEach es X.env:=by rfl) (hpl:(backTo pos (starEach es X.env)).any (·.1)=false:=by rfl) :
  PE X (.Call (.Name x p) (ex :: es) [] pos) (tCall sp [] E0 t):=by
 intro pins s σ H Q I h
 refine G0 (zcA I hg hm ?_ hdb)
 refine Jf (h₀ := X.base) I.ok.mod.kin hk (thn (ha pos pins s σ H _ I h) fun us s1 ⟨vs,H1,I1,r,q⟩=>⟨I1.kIn,?_⟩) he hpl
 have q':sp vs H1 Q E0:=by simpa using q
 have hl:us.length=ps.length:=by rw [<- r.length]; exact F.len _ _ _ _ q'
 obtain ⟨e1,e2,e3,e4,e5⟩:=I1.pin (e,oe) (Bg _ hp)
 have hb':=hb s1 us I1.kIn (by simpa using hl)
 rw [C9] at hb'
 refine Kq (Jc (F.run X.A X.stack s1 H1 ⟨us,[]⟩ us vs Q hr I1.env0 e1 e2 hgd e5 hb' r q') fun r s' hq => ?_)
 cases r with
 | error e=>exact Cn hq
 | ok fl =>
  cases fl with
  | ret u=>exact I1.after hq
  | next=>exact Cn hq
  | brk=>exact Cn hq
  | cont=>exact Cn hq
end
structure Air (P:Ap) (w:Bb) (outer:List Env) (H:Hp) (s:A4) (E:XK) (B:Bx) (x:A3) (c:A2) (H':Hp) (fl:A2) (s':A4):Prop where
 fly:Fly B outer x c fl s'.heap
 os:s'.os=s.os
 bare:Gr s'.gens
 un:Un (frs outer) [] H H' s.heap s'.heap
 hok:HOk P w H' s'.heap
 nx:H' x=none
 trk:∀ b o,H' b=some o->∃ ob,B.get? b=some ob
 old:∀ b o,s.heap.get? b=some o->b ∉ frs outer->∃ ob,B.get? b=some ob
 e:E c none H'
theorem Air.move {P:Ap} {w:Bb} {outer:List Env} {H:Hp} {s:A4} {E:XK} {B:Bx} {x:A3} {c:A2} {H':Hp} {fl fl':A2} {s':A4} {h':Bx} (a:Air P w outer H s E B x c H' fl s') (F:Fly B outer x c fl' h') (up:s'.heap.UpToSlots h') :
  Air P w outer H s E B x c H' fl' { s' with heap:=h' } :=
 ⟨F,a.os,a.bare,zgt a.un a.fly.stay F.stay up a.old (zcR a.fly.frs),ze5 a.hok a.fly.stay F.stay a.trk,a.nx,a.trk,a.old,a.e⟩
noncomputable def cxTry (X:Cx) (E:XK) (pn:List (A3×Obj)):Cx :=
 { X with pn:=pn,xe:=fun e s'=>∃ pins σ H s,Inv { X with pn:=pn,xe:=fun _ _=>False } pins σ H s/\CX1 X.prog X.w X.stack H s E e s' }
noncomputable def cxHand (X:Cx) (x:A3) (ox:Obj) (pn:List (A3×Obj)):Cx :=
 { X with A:=X.A.mark (some (.ref x)),calm:=false,pn:=(x,ox) :: pn,xe:=fun _ _=>False }
section
variable {X:Cx} {pins:List (A3×Obj)} {σ : St} {H:Hp} {s:A4}
theorem za1 {E:XK} {pn:List (A3×Obj)}:Passes (CX1 X.prog X.w) (cxTry X E pn) E:=fun pins σ H s e s' I h =>
 ⟨pins,σ,H,s,⟨⟨I.ok.mod,I.ok.kind,I.ok.glob,I.ok.blt,I.ok.above,I.ok.inj,I.ok.has,I.ok.cab,I.ok.hd,I.ok.frames,I.ok.stk,I.ok.exf,I.ok.bs,I.ok.bsz,I.ok.noex,I.ok.exfs,I.ok.funs,I.ok.frf⟩,I.os,I.bare,I.base,I.loc,I.cell,I.free,I.freeC,I.pin,I.hok,I.len⟩,h⟩
theorem Inv.other {A:B7} {cm:Bool} {pn:List (A3×Obj)} {xe:A2->A4->Prop} {pins':List (A3×Obj)} (I:Inv X pins σ H s) (hf:A.frames=X.A.frames) (hd:cm=true->A.handled=none)
  (hp:∀ p∈pn ++ pins',s.heap.get? p.1=some p.2/\H p.1=none/\p.1≠X.env.locals/\p.1 ∉ X.fs/\∀ v,p.2.data ≠ .cell v):Inv { X with A:=A,calm:=cm,pn:=pn,xe:=xe } pins' σ H s :=
 ⟨⟨I.ok.mod,I.ok.kind,I.ok.glob,I.ok.blt,I.ok.above,I.ok.inj,I.ok.has,I.ok.cab,hd,hf.trans I.ok.frames,I.ok.stk,I.ok.exf,I.ok.bs,I.ok.bsz,I.ok.noex,I.ok.exfs,I.ok.funs,I.ok.frf⟩,I.os,I.bare,I.base,I.loc,I.cell,I.free,I.freeC,hp,I.hok,I.len⟩
theorem Inv.lost {h':Bx} {m':Str->Option A2} {t':Nat} (I:Inv X pins σ H s) (hn':h'.Ns X.env.locals m') (hs:Fk X.env.locals s.heap h'):Inv X pins (Br X.N.length none) H { s with heap:=h',toks:=t' }:=by
 obtain ⟨m,hn,hl⟩:=id I.loc
 obtain ⟨oL,_,_,hoL,_⟩:=id hn
 refine ⟨I.ok,I.os,I.bare,⟨fun b o e n hb hx => ?_,fun b o e n hb hx => ?_,I.base.free,fun b o e hx => ?_,I.base.tups,I.base.frzs,I.base.tbls⟩,⟨m',hn',fun j y v' e1 e2 e3 => ?_⟩,fun y c e => ?_,I.free,I.freeC,fun p hp => ?_,fun b ob e => ?_,by simp⟩
 ·exact (hs.2 b (B8 (Ae (An e) I.ok.above))).trans (I.base.keep b o e n hb hx)
 ·obtain ⟨sl,e1⟩:=I.base.slot b o e n hb hx
  exact ⟨sl,(hs.2 b (B8 (Ae (An e) I.ok.above))).trans e1⟩
 ·obtain ⟨o',e1⟩:=I.base.there b o e hx
  exact ⟨o',(hs.2 b (B8 (Ae (An e) I.ok.above))).trans e1⟩
 ·rw [Ib] at e2
  split at e2 <;> cases e2
 ·obtain ⟨w',z⟩:=I.cell y c e
  exact ⟨w',z.sameBut hs (I.cne y c e)⟩
 ·obtain ⟨e,n,ne,nf,d⟩:=I.pin p hp
  exact ⟨(hs.2 p.1 ne).trans e,n,ne,nf,d⟩
 ·refine (I.hok b ob e).stay (fun c w' hc q=>(hs.2 c ?_).trans q) (fun _ q=>q) fun _ _ q=>q
  intro hcl
  rw [hcl] at hc
  rcases hc with z | z
  ·rw [<- z,I.free] at e; cases e
  ·rw [I.free] at z; cases z
noncomputable def tTry (X:Cx) (CE:A2) (i:Nat) (tb:XK->TS) (th:A3->A2->TS):TS:=fun D σ H=>∃ E:XK,tb E D σ H /\
 ∀ c H' x,E c none H'->H' x=none->Is X.K c CE=some true/\th x c { nx:=fun _ _=>False,rt:=D.rt,bk:=fun _ _=>False,ct:=fun _ _=>False } ((Br X.N.length none).set i (some (.ref x))) H'
theorem ps_try {body:List Cj} {cn n:Str} {np hpos pos:Pos} {b₀ : Cj} {suite:List Cj} {i:Nat} {CE:A2} {tb:XK->TS} {th:A3->A2->TS} (hst:X.stack=X.env :: X.outer) (hfr:X.env.frame=some X.env.locals) (hN:X.N.Nodup) (hi:X.N[i]?=some n)
  (hl:X.env.scope.names.lookup n=some .local) (hg:Gl X cn) (hm:X.mg cn=some CE)
  (hb:∀ E pn,PSs (cxTry X E pn) body (tb E))
  (hh:∀ x c ox pn vs,ox.cls=c/\ox.dict=none->ox.data = .fields vs->vs[2]?=some .none->x ∉ frs X.stack->PSs (cxHand X x ox pn) (b₀ :: suite) (th x c))
  (hd:(cn == ("__debug__" : Str))=false:=by decide) :
  PS X (.Try body [.ExceptHandler (some (.Name cn np)) (some n) (b₀ :: suite) hpos] [] [] pos) (tTry X CE i tb th):=by
 intro pins s σ H D I h
 obtain ⟨E,hbd,hex⟩:=h
 have I1:Inv (cxTry X E (X.pn ++ pins)) [] σ H s:=I.other rfl I.ok.hd (by rw [C9]; exact I.pin)
 have back:∀ {σ' H' s'},Inv (cxTry X E (X.pn ++ pins)) [] σ' H' s'->Inv X pins σ' H' s':=fun {σ' H' s'} J =>
  Inv.other (X:=cxTry X E (X.pn ++ pins)) (A:=X.A) (cm:=X.calm) (pn:=X.pn) (xe:=X.xe) J rfl I.ok.hd fun p hp=>J.pin p (Bg _ hp)
 refine wpAny_Try_except (Dg (hb E (X.pn ++ pins) [] s σ H D I1 hbd) (fun f s1 q => ?_) fun e s1 q => ?_)
 ·cases f with
  | next=>obtain ⟨σ',H',J,q⟩:=q; exact Ha ⟨σ',H',back J,q⟩
  | ret u=>obtain ⟨v,σ',H',J,r,q⟩:=q; exact ⟨v,σ',H',back J,r,q⟩
  | brk=>obtain ⟨σ',H',J,q⟩:=q; exact ⟨σ',H',back J,q⟩
  | cont=>obtain ⟨σ',H',J,q⟩:=q; exact ⟨σ',H',back J,q⟩
 ·obtain ⟨pins',σ',H1,s0,J,x,c,B,H2,rfl,F,ho,hgn,u,ok,nx,inB,old,q⟩:=q
  have a0:Air X.prog X.w (X.env :: X.outer) H1 s0 E B x c H2 .none s1:=hst ▸ ⟨F,ho,hgn,u,ok,nx,inB,old,q⟩
  have hfrm:X.A.frames=some (X.env :: X.outer):=hst ▸ I.ok.frames
  refine zfG hfrm hfr a0.fly fun h1 F1 u1 => ?_
  have a1:=a0.move F1 u1
  refine zcQ a1.fly fun h2 F2 u2 => ?_
  have a2:=a1.move F2 u2
  obtain ⟨hE,hth⟩:=hex c H2 x q nx
  have inv2:∀ {fl s'},Air X.prog X.w (X.env :: X.outer) H1 s0 E B x c H2 fl s'->Inv { X with pn:=X.pn ++ pins,xe:=fun _ _=>False } pins' σ' H2 s':=fun {fl s'} a =>
   J.call' a.os (show Un (frs X.stack) [] H1 H2 s0.heap s'.heap by rw [hst]; exact a.un) a.hok a.bare fun b z=>absurd z (by simp)
  have J2:=inv2 a2
  have xo:x ∉ frs X.stack:=fun z=>by
   rw [hst] at z
   obtain ⟨oe,vs,_,_,_,h1,_,h2,_⟩:=a2.fly.obj
   exact zcR a2.fly.frs x z oe h1 vs h2
  have xl:x≠X.env.locals:=fun z=>xo (by rw [hst]; exact Ez.mpr ⟨X.env,Ai,by rw [z]; exact hfr⟩)
  have xf:x ∉ X.fs:=fun z=>xo (by
   rw [hst]
   obtain ⟨y,hy,e⟩:=Ez.mp z
   exact Ez.mpr ⟨y,Ac _ hy,e⟩)
  have J2m:Inv { X with A:=X.A.mark (some (.ref x)),calm:=false,pn := [],xe:=fun _ _=>False } [] σ' H2 { s1 with heap:=h2 }:=J2.other rfl (fun z=>absurd z A9) fun p hp=>absurd hp (by simp)
  refine wpAny_handleBy_cons (codeAny_handlers_test (zcA (X:={ X with A:=X.A.mark (some (.ref x)),calm:=false,pn := [],xe:=fun _ _=>False }) J2m hg hm ?_ hd)) (by intro q; cases q)
  have LT:L4 (model X.prog X.w) h2 (typeOf (.ref x)) c:=by
   obtain ⟨oe,vs,_,_,_,h1,hc,_⟩:=a2.fly.obj
   rw [<- hc.1]
   exact (Pw h1).andThen .now
  refine (PySem.W.exm_one (M:=model X.prog X.w) J2.kIn LT hE).here ?_
  dsimp only
  rw [if_pos rfl]
  refine codeAny_handlers_suite_as ?_
  refine zcQ a2.fly fun h3 F3 u3 => ?_
  have a3:=a2.move F3 u3
  have J3:=inv2 a3
  obtain ⟨ox,vs,T,oT,ts,hx,hc,hdx,h1x,h2x,nT,tx,hT,dT,h3x⟩:=a3.fly.obj
  have K3:Inv (cxHand X x ox (X.pn ++ pins)) [] σ' H2 { s1 with heap:=h3 }:=J3.other (A:=X.A.mark (some (.ref x))) (cm:=false) (pn:=(x,ox) :: (X.pn ++ pins)) (xe:=fun _ _=>False) rfl (fun z=>absurd z A9) fun p hp=>by
   rw [C9] at hp
   rcases Bf.mp hp with z | z
   ·subst z; exact ⟨hx,nx,xl,xf,fun v z=>by rw [hdx] at z; cases z⟩
   ·exact J3.pin p (Bg _ z)
  have K3w:=K3.weak (σ':=Br X.N.length none) (by rw [Mx]; exact K3.len.symm) fun i v e=>by
   rw [Ib] at e
   split at e <;> cases e
  refine zdS (X:=cxHand X x ox (X.pn ++ pins)) (v:=V.ref x) K3w hN hi (.inl hl) rfl (fun s4 K4 => ?_) (.inr hl)
  refine Dg (hh x c ox (X.pn ++ pins) vs hc hdx h2x xo [] s4 _ H2 _ K4 hth) (fun f s5 q5 => ?_) fun _ _ z=>Cn z
  cases f with
  | next=>obtain ⟨_,_,_,z⟩:=q5; exact Cn z
  | brk=>obtain ⟨_,_,_,z⟩:=q5; exact Cn z
  | cont=>obtain ⟨_,_,_,z⟩:=q5; exact Cn z
  | ret u5 =>
   obtain ⟨v,σ5,H5,K5,r5,q5⟩:=q5
   obtain ⟨m5,hn5,_⟩:=id K5.loc
   refine wpAny_nameGoes (env:=X.env) (show X.env.kindOf n=some .local from hl) hn5 (by rw [I.ok.kind]; rfl) fun h6 m6 hn6 sb6 => ?_
   have K6:=K5.lost (t':=s5.toks + 1) hn6 sb6
   refine ⟨v,Br X.N.length none,H5,?_,r5,q5⟩
   exact Inv.other (X:=cxHand X x ox (X.pn ++ pins)) (A:=X.A) (cm:=X.calm) (pn:=X.pn) (xe:=X.xe) K6 rfl I.ok.hd fun p hp=>K6.pin p (Bg _ (Ac _ hp))
end
structure ErrCls (K:Am) (D:A3):Prop where
 ga:Bw K (.ref D) "__getattribute__" = some (some (.builtin "BaseException.__getattribute__"))
 gh:Bw K (.ref D) "__getattr__" = some none
 hc:(G8 K D).isSome=true
 ha:Bw K (.ref D) "__class__" = some (some (.builtin "object.__class__"))
 hn:Jq K (.builtin "object.__class__") "__get__" = some (some (.builtin "getset_descriptor.__get__"))
 ht:Kd K (.builtin "object.__class__")=some true
 hm:Ej K D (.type "object")=some true
 hb:Ej K D (.type "BaseException")=some true
theorem find_cls {K:Am} {D:A3} (E:ErrCls K D) (od:Option Obj):Nj K D od "__class__" = some (.bind (.builtin "getset_descriptor.__get__") (.builtin "object.__class__")):=by
 obtain ⟨cd,hc⟩:=D5.mp E.hc
 unfold Nj
 rw [hc]
 simp [E.ha,E.hn,E.ht]
section
variable {prog:Ap} {w:Bb} {A:B7} {E:A2->A4->Prop} {s:A4} {K:Am} {x D:A3} {ox:Obj}
theorem exc_check {M:Hv} {nameV:A2} {Q:Unit->A4->Prop} (Er:ErrCls K D) (X:K.In s.heap) (I:Fc s.heap x ox D none) (hq:Q () s) :
  wpAny M A (checkBuiltinCall "BaseException.__getattribute__" ⟨[.ref x,nameV],[]⟩) Q E s:=by
 have hk:builtinKind "BaseException.__getattribute__" = some .slot:=by decide +kernel
 have hsplit:splitId "BaseException.__getattribute__" = some ("BaseException","__getattribute__"):=by decide +kernel
 have ha:=F.args_bexc_ga (.ref x) nameV
 have L0:=I.type (M:=M)
 have L1:=PySem.W.looks_mroIn (M:=M) X Er.hb
 have LI:L4 M s.heap (isInstance (.ref x) (.type "BaseException")) true:=L0.andThen L1
 obtain ⟨h,g,d,t,os⟩:=s
 simp only [checkBuiltinCall,hk,hsplit]
 refine A1 (LI.at ?_)
 repeat (any_goals (first | assumption | wp_step))
theorem exc_entry {tk:Tok} {Q:Fin->A4->Prop} (Er:ErrCls K D) (X:K.In s.heap) (I:Fc s.heap x ox D none) (hq:Q (.done (.ret (.ref D))) s) :
  wpAny (model prog w) A (F0.«object.__getattribute__» ⟨[.ref x,.str "__class__" tk],[]⟩) Q E s:=by
 obtain ⟨h,g,d,t,os⟩:=s
 have L0:=I.type (M:=model prog w)
 have L1:=PySem.W.looks_find (M:=model prog w) X I (find_cls Er none)
 unfold F0.«object.__getattribute__»
 refine A1 (On (a:=(.ref x,[.str "__class__" tk])) (by rfl) ?_)
 dsimp only
 refine A1 (Ad (A1 (L0.at (A1 (L1.at ?_)))))
 show wpAny _ _ (J6 (.builtin "getset_descriptor.__get__") (.builtin "object.__class__") (.ref x) (.ref D)) _ _ _
 unfold J6
 dsimp only
 refine A1 (D3 (Kq (PySem.W.class_get (s:=⟨h,g,d,t,os⟩) (ox:=ox) (od:=none) X I Er.hm ?_)))
 exact Ad hq
theorem exc_call {tk:Tok} {R:Ru->A4->Prop} (Er:ErrCls K D) (X:K.In s.heap) (I:Fc s.heap x ox D none) (hq:R (.ok (.ret (.ref D))) s) :
  codeAny (model prog w) A (.call (.builtin "BaseException.__getattribute__") ⟨[.ref x,.str "__class__" tk],[]⟩) R s :=
 codeAny_call_builtin Oa.ga.plain F.entry_bexc_ga (exc_check Er X I (exc_entry Er X I hq))
theorem exc_class {Q:Option A2->A4->Prop} (Er:ErrCls K D) (X:K.In s.heap) (I:Fc s.heap x ox D none) (hq:Q (some (.ref D)) { s with toks:=s.toks + 1 }):wpAny (model prog w) A (getAttr? (.ref x) "__class__") Q E s:=by
 obtain ⟨h,g,d,t,os⟩:=s
 have L0:=I.type (M:=model prog w)
 have L1:=Iq (M:=model prog w) X Er.ga
 have L2:=Iq (M:=model prog w) X Er.gh
 have f3:=Oa.ga.bind (.ref x)
 unfold getAttr? getAttrBy? getAttrBy
 refine A1 (wpAny_mkText (A1 (Go (D3 (A1 (L0.at (A1 (L1.at ?_))))))))
 have hx2:(onTheHeap (B1 D) && Jj "BaseException.__getattribute__" == Jj "object.__getattribute__")=false:=by
  have hx1:(Jj "BaseException.__getattribute__" == Jj "object.__getattribute__")=false:=by decide +kernel
  rw [hx1,P5]
 dsimp only
 rw [hx2,if_neg A9]
 unfold getAttrByItsOwn hookBefore
 refine A1 ?_
 rw [if_pos (by rfl)]
 refine L2.at ?_
 refine A1 (Go (D3 ?_))
 unfold callGetattribute
 rw [if_neg (by decide)]
 unfold boundAndCalled
 refine A1 ?_
 rw [f3]
 refine Ad ?_
 refine Kq (exc_call (s:=⟨h,g,d,t + 1,os⟩) Er X I ?_)
 exact PySem.W.handed_on rfl (Ad hq)
end
theorem isType_cls {K:Am} {D:A3} {M:Hv} {h:Bx} (X:K.In h) (hc:(G8 K D).isSome=true):L4 M h (isType (.ref D)) true:=by
 obtain ⟨cd,hc⟩:=D5.mp hc
 unfold G8 at hc
 split at hc
 ·next ho =>
  intro A Q E s k q
  unfold isType loadHead
  exact A1 (Rm (k _ _ (X _ _ ho)) (Ad q))
 ·cases hc
theorem kitx_exc {K:Am} {x D:A3} {ox:Obj} (Er:ErrCls K D):PySem.W.KitX K (.ref x) (.ref D) (fun h=>Fc h x ox D none) where
 ty:=fun _ _ _ I=>I.type
 it:=fun _ _ X _=>isType_cls X Er.hc
 ne:=fun h tp dd its n sl X htp=>by
  obtain ⟨cd,hc⟩:=D5.mp Er.hc
  refine Ob.mpr fun q => ?_
  have e:D=tp:=Ni (beq_iff_eq.mp q)
  subst e
  unfold G8 at hc
  split at hc
  ·next ho =>
   have z:=(X _ _ ho).symm.trans htp
   cases z
  ·cases hc
 ca:=fun X I k=>exc_class Er X I k
section
variable {X:Cx}
theorem zaT:CallR X (.builtin "isinstance") (fun xs H Q=>∃ (e C D:A3) (oe:Obj) (b:Bool),xs = [.ref e,.ref C]/\((e,oe)∈X.pn/\(oe.cls = .ref D/\oe.dict=none)/\∃ vs,oe.data = .fields vs)/\ErrCls X.K D/\Fq X.K (.ref D) (.ref C)=some b/\Q (.bl b) H):=by
 intro pins s σ H xs us Q I r h
 obtain ⟨e,C,D,oe,b,rfl,⟨hp,⟨hc,hd⟩,vs,hv⟩,Er,hk,q⟩:=h
 obtain ⟨u,u',rfl,ru,ru'⟩:=zhb r
 cases (show u=B1 e from ru)
 cases (show u'=B1 C from ru')
 have ia:Fc s.heap e oe D none:=⟨(I.pin (e,oe) (Bg _ hp)).1,hc,by unfold PySem.W.notCls; rw [hv],by rw [hd]; trivial⟩
 exact D9 (kitx_exc (ox:=oe) Er) I.kIn ia hk (fun z=>nomatch z) fun tk=>⟨.bl b,H,I.tok _,rfl,q⟩
end
structure Err (K:Am) (mg:Str->Option A2) (x:Str) (C:A3):Prop where
 bound:mg x=some (.ref C)
 exc:Hf K C [.type "ValueError",.type "Exception",.type "BaseException",.type "object"] "ValueError.__new__" = true
theorem err_obj {K:Am} {h:Bx} {C:A3} {bmB:List A2} {newId:String} (X:K.In h) (q:Hf K C bmB newId=true) :
  ∃ bm N nm q bs hdct sn sub ab col dd k0 k1 k2 k3 k5 mN,h.get? C=some (excClassObj nm q C N bs bm hdct sn sub ab col dd k0 k1 k2 k3 k5 newId)/\h.Ns N mN/\mN "__init__" = none/\OwnTail h bmB bm:=by
 unfold Hf at q
 split at q
 ·next dd cd sl ho =>
  split at q
  ·next C' bm k0 k1 k2 k3 n k5 hm hs =>
   simp only [Bz,beq_iff_eq,Fy] at q
   obtain ⟨⟨⟨⟨⟨r1,r2⟩,hdel⟩,ht⟩,hok⟩,hni⟩:=q
   subst r1 r2
   cases cd with
   | mk nm bs mro ns qn hd sn sub ab col del =>
    dsimp only at hm hdel hok hni
    subst hm hdel
    cases sl with
    | mk l =>
     simp only at hs
     subst hs
     exact ⟨bm,ns,nm,qn,bs,hd,sn,sub,ab,col,dd,k0,k1,k2,k3,k5,_,X _ _ ho,.of_isNs (PySem.W.isNs_of_in X hok),PySem.W.nsMap_none_of_in X hok hni,PySem.W.tail_of_in X ht⟩
  ·cases q
 ·cases q
noncomputable def tRaise (E:XK) (C:A3) (ta:TA):TS:=fun _ σ H=>ta σ H fun vs H1=>vs.length<=sizeLine/\E (.ref C) none H1
section
variable {P:Ap} {w:Bb} {K:Am} {mg:Str->Option A2} {base:Bx} {N:List Str} {qual:Str} {scope:Fg} {f:A3} {cd:A2} {A:B7} {outer:List Env} {s₀ : A4} {H₀ : Hp} {E:XK}
theorem zbq {x:Str} {C:A3} {np cpos pos:Pos} {e:Ce} {es:List Ce} {t:TA} (O:Err K mg x C) (hg:Gl (cxOf (CX1 P w) P w K mg base N qual scope f cd A outer s₀ H₀ E) x)
  (ha:PA (cxOf (CX1 P w) P w K mg base N qual scope f cd A outer s₀ H₀ E) (e :: es) t) (hd:(x == ("__debug__" : Str))=false:=by decide)
  (he:starEach (e :: es) (envOfC qual scope s₀.heap.objs.size f cd)=(false,eval e (envOfC qual scope s₀.heap.objs.size f cd)) :: starEach es (envOfC qual scope s₀.heap.objs.size f cd):=by rfl)
  (hpl:(backTo cpos (starEach es (envOfC qual scope s₀.heap.objs.size f cd))).any (·.1)=false:=by rfl) :
  PS (cxOf (CX1 P w) P w K mg base N qual scope f cd A outer s₀ H₀ E) (.Raise (some (.Call (.Name x np) (e :: es) [] cpos)) none pos) (tRaise E C t):=by
 intro pins s σ H D I h
 obtain ⟨bm,Nn,nm,q,bs,hdct,sn,sub,ab,col,dd,k0,k1,k2,k3,k5,mN,hC,hN,hni,T⟩:=err_obj I.ok.mod.kin O.exc
 refine wpAny_Raise_call_subT (C:=C) (nm:=nm) (q:=q) (N:=Nn) (bs:=bs) (bm:=bm) (hdct:=hdct) (sn:=sn) (sub:=sub) (ab:=ab) (col:=col) (dd:=dd) (k0:=k0) (k1:=k1) (k2:=k2) (k3:=k3) (k5:=k5) (env:=envOfC qual scope s₀.heap.objs.size f cd)
  O9 (mN:=mN) (T.hasType O9.hasBase) (I.ok.hd rfl) ?_ hni (zcA I hg O.bound ⟨rfl,?_⟩ hd)
 ·rw [he]
  show (false || (backTo cpos (starEach es (envOfC qual scope s₀.heap.objs.size f cd))).any (·.1))=false
  rw [hpl]; rfl
 ·have g:=ha cpos pins s σ H _ I h
  change wpAny _ _ (spliced (backTo cpos (starEach (e :: es) (envOfC qual scope s₀.heap.objs.size f cd)))) _ _ s at g
  rw [he] at g ⊢
  refine N0 (thn g fun us s2 ⟨vs,H1,I1,r,hl,q⟩ => ?_)
  exact ⟨rfl,by rw [<- r.length]; exact hl,I1.bk _ _ hC,hN.keeps I1.bk,T.keeps I1.bk,fun h' x hx=>raise_out I1 hx rfl I1.bare q⟩
end
structure Callee1 (P:Ap) (w:Bb) (K:Am) (mg:Str->Option A2) (base:Bx) (x:Str) (k:Nat) (ps:List Str) (sp:Sp):Prop where
 ex:∃ f fd,FnOk P w K mg base (CX1 P w) k f fd ps sp/\mg x=some (.ref f)/\D8 K (.ref f)=true/\Binds K fd ps []
structure MethAt (K:Am) (C:A3) (cn m:Str) (st:Cj):Prop where
 ex:∃ f fd,Fun K m (cn ++ A0 "." ++ m) st f fd/\Meth K C m f
structure Method (P:Ap) (w:Bb) (K:Am) (mg:Str->Option A2) (base:Bx) (C:A3) (m:Str) (CX:CXT) (k:Nat) (ps:List Str) (sp:Sp):Prop where
 ex:∃ f fd,FnOk P w K mg base CX k f fd ps sp/\Meth K C m f/\Binds K fd ps []
section
variable {P:Ap} {w:Bb} {K:Am} {mg:Str->Option A2} {base:Bx}
theorem Fun.ok1 {x qual:Str} {st:Cj} {f:A3} {fd:Ek} {N ps:List Str} {k:Nat} {sp:Sp} (F:Fun K x qual st f fd) (S:FnScope N ps (defScope st)) (len:∀ vs H Q E,sp vs H Q E->vs.length=ps.length)
  (hbody:∀ (cdv:A2) (A:B7) (outer:List Env) (s:A4) (H:Hp) (vs:List V) (Q:VK) (E:XK),Room k (A.deeper (envOfC qual (defScope st) s.heap.objs.size f cdv))->sp vs H Q E ->
   ∃ t,PSs (cxOf (CX1 P w) P w K mg base N qual (defScope st) f cdv A outer s H E) (defBody st) t/\t { nx:=fun _ H'=>Q .non H',rt:=Q } (start N vs) H):FnOk P w K mg base (CX1 P w) (k + 1) f fd ps sp:=by
 obtain ⟨oc,od,kV,doc,pm,an,cdv,ct,osl,rfl,lk,hcd⟩:=F.ex
 exact zhm lk hcd S len fun A outer s H vs Q E hr hsp=>hbody cdv A outer s H vs Q E hr hsp
theorem DefAt.callee1 {x:Str} {st:Cj} {N ps:List Str} {k:Nat} {sp:Sp} (D:DefAt K mg x st) (S:FnScope N ps (defScope st))
  (hb:∀ (kV doc pm:A2) (an:Option A3) (cdv ct:A2) (us:List A2),us.length=ps.length->bindArgs (Co x x (defArgs st) (defBody st) (defScope st) .none kV doc pm an cdv ct) ⟨us,[]⟩=pure (ps.zip us))
  (len:∀ vs H Q E,sp vs H Q E->vs.length=ps.length)
  (hbody:∀ (f:A3) (cdv:A2) (A:B7) (outer:List Env) (s:A4) (H:Hp) (vs:List V) (Q:VK) (E:XK),Room k (A.deeper (envOfC x (defScope st) s.heap.objs.size f cdv))->sp vs H Q E ->
   ∃ t,PSs (cxOf (CX1 P w) P w K mg base N x (defScope st) f cdv A outer s H E) (defBody st) t/\t { nx:=fun _ H'=>Q .non H',rt:=Q } (start N vs) H):Callee1 P w K mg base x (k + 1) ps sp:=by
 obtain ⟨f,fd,F,m⟩:=D.ex
 exact ⟨f,fd,F.ok1 S len (fun cdv A outer s H vs Q E hr h=>hbody f cdv A outer s H vs Q E hr h),m,F.kp,F.binds hb⟩
theorem MethAt.meth1 {cn m:Str} {C:A3} {st:Cj} {N ps:List Str} {k:Nat} {sp:Sp} (D:MethAt K C cn m st) (S:FnScope N ps (defScope st))
  (hb:∀ (kV doc pm:A2) (an:Option A3) (cdv ct:A2) (us:List A2),us.length=ps.length->bindArgs (Co m (cn ++ A0 "." ++ m) (defArgs st) (defBody st) (defScope st) .none kV doc pm an cdv ct) ⟨us,[]⟩=pure (ps.zip us))
  (len:∀ vs H Q E,sp vs H Q E->vs.length=ps.length)
  (hbody:∀ (f:A3) (cdv:A2) (A:B7) (outer:List Env) (s:A4) (H:Hp) (vs:List V) (Q:VK) (E:XK),Room k (A.deeper (envOfC (cn ++ A0 "." ++ m) (defScope st) s.heap.objs.size f cdv))->sp vs H Q E ->
   ∃ t,PSs (cxOf (CX1 P w) P w K mg base N (cn ++ A0 "." ++ m) (defScope st) f cdv A outer s H E) (defBody st) t/\t { nx:=fun _ H'=>Q .non H',rt:=Q } (start N vs) H):Method P w K mg base C m (CX1 P w) (k + 1) ps sp:=by
 obtain ⟨f,fd,F,m⟩:=D.ex
 exact ⟨f,fd,F.ok1 S len (fun cdv A outer s H vs Q E hr h=>hbody f cdv A outer s H vs Q E hr h),m,F.binds hb⟩
theorem MethAt.meth0 {cn m:Str} {C:A3} {st:Cj} {N ps:List Str} {k:Nat} {sp:Sp} (D:MethAt K C cn m st) (S:FnScope N ps (defScope st))
  (hb:∀ (kV doc pm:A2) (an:Option A3) (cdv ct:A2) (us:List A2),us.length=ps.length->bindArgs (Co m (cn ++ A0 "." ++ m) (defArgs st) (defBody st) (defScope st) .none kV doc pm an cdv ct) ⟨us,[]⟩=pure (ps.zip us))
  (len:∀ vs H Q E,sp vs H Q E->vs.length=ps.length)
  (hbody:∀ (f:A3) (cdv:A2) (A:B7) (outer:List Env) (s:A4) (H:Hp) (vs:List V) (Q:VK) (E:XK),Room k (A.deeper (envOfC (cn ++ A0 "." ++ m) (defScope st) s.heap.objs.size f cdv))->sp vs H Q E ->
   ∃ t,PSs (cxOf CX0 P w K mg base N (cn ++ A0 "." ++ m) (defScope st) f cdv A outer s H E).nox (defBody st) t/\t { nx:=fun _ H'=>Q .non H',rt:=Q } (start N vs) H):Method P w K mg base C m CX0 (k + 1) ps sp:=by
 obtain ⟨f,fd,F,m⟩:=D.ex
 exact ⟨f,fd,F.ok S len (fun cdv A outer s H vs Q E hr h=>hbody f cdv A outer s H vs Q E hr h),m,F.binds hb⟩
end
section
variable {X:Cx} {x m:Str} {k:Nat} {ps:List Str} {sp:Sp} {p pos apos:Pos} {o e:Ce} {es:List Ce} {ta:TE} {t:TA} {E:XK} {C:A3} {CX:CXT}
theorem zep (F:Callee1 X.prog X.w X.K X.mg X.base x k ps sp) (hr:Room k X.A) (hx:Passes (CX1 X.prog X.w) X E) (hg:Gl X x) (ha:PA X (e :: es) t) (hdb:(x == ("__debug__" : Str))=false:=by decide)
  (he:starEach (e :: es) X.env=(false,eval e X.env) :: starEach es X.env:=by rfl) (hpl:(backTo pos (starEach es X.env)).any (·.1)=false:=by rfl):PE X (.Call (.Name x p) (e :: es) [] pos) (tCall sp [] E t):=by
 obtain ⟨f,fd,F,hm,hk,hb⟩:=F.ex
 exact zgd F hr hg hm hk hb .nil hx ha hdb he hpl
theorem zfM {pl:Sem Bool} (he:PE X o ta) (c:Cls X.K C) (F:Method X.prog X.w X.K X.mg X.base C m CX k ps sp) (hr:Room k X.A) (hx:Passes CX X E) (ha:PA X (e :: es) t)
  (hst:starEach (e :: es) X.env=(false,eval e X.env) :: starEach es X.env:=by rfl) (hpl:(backTo pos (starEach es X.env)).any (·.1)=false:=by rfl)
  (ht:eval (.Call (.Attribute o m apos) (e :: es) [] pos) X.env=(do
   let ov <- eval o X.env
   standAt apos.atName
   let (f,first) <- holding [ov] (getMethod ov m pl)
   callWith pos f first (backTo pos (starEach (e :: es) X.env)) (backToKw pos (keywordEach [] X.env))):=by rfl) :
  PE X (.Call (.Attribute o m apos) (e :: es) [] pos) (tMeth C m sp [] E ta t):=by
 obtain ⟨f,fd,F,hm,hb⟩:=F.ex
 exact pe_meth he c hm F hr hb .nil hx ha hst hpl ht
theorem pe_mt0 {pl:Sem Bool} (he:PE X o ta) (c:Cls X.K C) (F:Method X.prog X.w X.K X.mg X.base C m CX k ps sp) (hr:Room k X.A) (hx:Passes CX X E)
  (ht:eval (.Call (.Attribute o m apos) [] [] pos) X.env=(do
   let ov <- eval o X.env
   standAt apos.atName
   let (f,first) <- holding [ov] (getMethod ov m pl)
   callWith pos f first (backTo pos (starEach [] X.env)) (backToKw pos (keywordEach [] X.env))):=by rfl) :
  PE X (.Call (.Attribute o m apos) [] [] pos) (tMeth C m sp [] E ta tNil):=by
 obtain ⟨f,fd,F,hm,hb⟩:=F.ex
 exact pe_meth0 he c hm F hr hb .nil hx ht
end
section
variable {X:Cx}
noncomputable def gLst (K:Am) (n:Nat) (t:TGs):TG:=fun v σ H Q=>∃ a xs,v = .ref a/\SqL K H a xs/\xs.length=n/\t xs σ H Q
theorem zf9 {es:List Ce} {k:Nat} {t:TGs} {n:Nat} {pos:Pos} (hc:X.calm=true) (h:PGs X es t)
  (hn:(assignEach es X.env).length=n:=by rfl) (hst:(assignEach es X.env).findIdx? (·.1)=none:=by rfl):PG X (.Tuple es k pos) (gLst X.K n t):=by
 intro pins s σ H v u Q I r hw
 obtain ⟨a,xs,e1,hq,hl,hw⟩:=hw
 subst e1
 cases r
 obtain ⟨its,rv,p,hz⟩:=I.list hq
 rw [Re]
 refine A1 (Kk ?_)
 unfold unpack
 have hsz:(assignEach es X.env).length=its.toArray.size:=by simp [hn,<- hl,rv.length]
 rw [hsz,hst]
 refine A1 (D3 (PySem.W.kun_itemsOf (I.ok.hd hc) p.isList fun h' hx => ?_))
 have I1:Inv X pins σ H { s with heap:=h' }:=I.kept (t':=s.toks) fun b o e=>hx b o (B8 (An e)) e
 exact h pins _ σ H xs _ Q I1 (by simpa using rv) hw
end
mutual
inductive VD (K:Am) (H:Hp):V->Gm->Prop
 | non:VD K H .non .none
 | bl (b:Bool):VD K H (.bl b) (.bool b)
 | int (i:Int):VD K H (.int i) (.int i)
 | str (x:Str):VD K H (.str x) (.str x)
 | lst {a:A3} {xs:List V} {ds:List Gm}:SqL K H a xs->VDs K H xs ds->VD K H (.ref a) (.list ds)
 | tup {a:A3} {xs:List V} {ds:List Gm}:SqT K H a xs->VDs K H xs ds->VD K H (.ref a) (.tuple ds)
inductive VDs (K:Am) (H:Hp):List V->List Gm->Prop
 | nil:VDs K H [] []
 | cons {x:V} {d:Gm} {xs:List V} {ds:List Gm}:VD K H x d->VDs K H xs ds->VDs K H (x :: xs) (d :: ds)
end
theorem VDs.map {K:Am} {H:Hp} {α : Type} {f : α -> V} {g : α -> Gm}:∀ {l:List α},(∀ x∈l,VD K H (f x) (g x))->VDs K H (l.map f) (l.map g)
 | [],_ => .nil
 | x :: l,h => .cons (h x Ai) (VDs.map fun y hy=>h y (Ac _ hy))
section
variable {X:Cx} {pins:List (A3×Obj)} {σ : St} {H:Hp} {s:A4}
mutual
theorem VD.reads (I:Inv X pins σ H s):∀ {v:V} {d:Gm} {u:A2},VD X.K H v d->RelV v u->∃ as,Reads s.heap u d as
 | _,_,_,.non,r=>by cases r; exact ⟨_,.none⟩
 | _,_,_,.bl b,r=>by cases r; exact ⟨_,.bool b⟩
 | _,_,_,.int i,r=>by obtain ⟨t,rfl⟩:=r; exact ⟨_,.int i t⟩
 | _,_,_,.str x,r=>by obtain ⟨t,rfl⟩:=r; exact ⟨_,.str x t⟩
 | _,_,_,.lst hq hs,r=>by
  cases r
  obtain ⟨its,rv,⟨o,n,e,c,_,d⟩,_⟩:=I.list hq
  obtain ⟨as,ra⟩:=VDs.reads I hs rv
  exact ⟨_,.list e c d (by simpa using ra)⟩
 | _,_,_,.tup hq hs,r=>by
  cases r
  obtain ⟨its,rv,⟨o,e,c,n,d⟩,_⟩:=I.tuple hq
  obtain ⟨as,ra⟩:=VDs.reads I hs rv
  exact ⟨_,.tuple e c d (by simpa using ra)⟩
theorem VDs.reads (I:Inv X pins σ H s):∀ {vs:List V} {ds:List Gm} {us:List A2},VDs X.K H vs ds->Vals vs us->∃ as,ReadsAll s.heap us ds as
 | _,_,_,.nil,r=>by cases r; exact ⟨_,.nil⟩
 | _,_,_,.cons h hs,r=>by
  cases r with
  | cons r rr =>
   obtain ⟨a1,r1⟩:=VD.reads I h r
   obtain ⟨a2,r2⟩:=VDs.reads I hs rr
   exact ⟨_,.cons r1 r2⟩
end
end
section
variable {X:Cx}
noncomputable def rEqD (K:Am) (neg:Bool):R2:=fun x y H Q=>∃ d e,VD K H x d/\VD K H y e/\Do d=true/\Do e=true/\Q (.bl (if neg then !PyData.eqv d e else D0 d e)) H
theorem zfv (hu:X.A.units + 64 < cLine):OpR X (compareOp .Eq) (rEqD X.K false):=by
 intro pins s σ H x y v u Q I rx ry h
 obtain ⟨d,e,hd,he,s1,s2,q⟩:=h
 obtain ⟨a1,r1⟩:=hd.reads I rx
 obtain ⟨a2,r2⟩:=he.reads I ry
 exact eq_dataH r1 r2 s1 s2 hu ⟨.bl _,H,I,rfl,q⟩
theorem op_neD (hu:X.A.units + 64 < cLine):OpR X (compareOp .NotEq) (rEqD X.K true):=by
 intro pins s σ H x y v u Q I rx ry h
 obtain ⟨d,e,hd,he,s1,s2,q⟩:=h
 obtain ⟨a1,r1⟩:=hd.reads I rx
 obtain ⟨a2,r2⟩:=he.reads I ry
 exact ne_dataH r1 r2 s1 s2 hu ⟨.bl _,H,I,rfl,q⟩
theorem zef:∀ {xs:List Str} {us:List A2},Sr us xs->Vals (xs.map V.str) us
 | _,_,.nil => .nil
 | _,_,.cons _ t r => .cons ⟨t,rfl⟩ (zef r)
theorem zdx {pins:List (A3×Obj)} {σ : St} {H:Hp} {s:A4} {Q:VK} {vs:List A2} {out:Array A2} {ys:List V} (I:Inv X pins σ H s) (hl:ys.length<=sizeLine) (r:Vals ys out.toList)
  (q:Q (.ref (s.heap.objs.size + 1)) (upd H (s.heap.objs.size + 1) (.lst ys))):EP X pins σ Q (.ref (s.heap.objs.size + 1)) { s with heap:=sortedAll s.heap vs out }:=by
 obtain ⟨e,he⟩:=sortedAll_at s.heap vs out
 exact ⟨.ref (s.heap.objs.size + 1),_,I.laid (t':=s.toks) (fun b o=>sortedAll_old) (Kv _) (show ObjOk X.prog X.w _ _ _ (.lst ys) from ⟨hl,out.toList,e,r,by simpa using he⟩),rfl,q⟩
theorem zcJ:CallR X (.builtin "sorted") (fun xs H Q=>∃ (a:A3) (ns:List Int),xs = [V.ref a]/\SqL X.K H a (ns.map V.int)/\ns.length < 64/\∀ p (ns':List Int),H p=none->ns'.Perm ns->ns'.Pairwise (· <= ·)->Q (.ref p) (upd H p (.lst (ns'.map V.int)))):=by
 intro pins s σ H xs us Q I r h
 obtain ⟨a,ns,rfl,hq,hb,q⟩:=h
 obtain ⟨u,rfl,ru⟩:=zb1 r
 cases ru
 obtain ⟨its,rv,p,hz⟩:=I.list hq
 have hl:ns.length=its.length:=by have:=rv.length; rwa [A5] at this
 refine sorted_ints p.isList (zcO rv) (by omega) fun out ns' a1 a2 a3 => ?_
 exact zdx I (by rw [A5,a2.length_eq]; exact C5 (G5 hb) (by decide)) (zcW a1) (q _ ns' (I.hok.fresh (Kv _)) a2 a3)
end
theorem zdr:∀ {l:List A2} {ss:List Str},l.length=ss.length->(∀ (j:Nat) (v:A2) (x:Str),l[j]?=some v->ss[j]?=some x->∃ t,v = .str x t)->Sr l ss
 | [],[],_,_ => .nil
 | v :: l,x :: ss,hl,h=>by
  obtain ⟨t,rfl⟩:=h 0 v x rfl rfl
  exact .cons _ _ (zdr (by simpa using hl) fun j u y e1 e2=>h (j + 1) u y (by simpa using e1) (by simpa using e2))
theorem KV.get {κ : Type}:∀ {a:List (κ × V)} {b:List (κ × A2)} {i:Nat} {k : κ} {x:A2},KV a b->b[i]?=some (k,x)->∃ v,a[i]?=some (k,v)/\RelV v x
 | [],_,_,_,_,h,e=>by cases h; simp at e
 | (k',v') :: a,_,i,k,x,h,e=>by
  cases h with
  | cons r rr =>
   cases i with
   | zero =>
    simp at e
    obtain ⟨r1,r2⟩:=r
    simp only at r1
    rw [e] at r1 r2
    exact ⟨v',by rw [r1]; rfl,r2⟩
   | succ i=>exact KV.get (i:=i) rr (by simpa using e)
section
variable {X:Cx}
theorem call_sortedD (hc:X.calm=true):CallR X (.builtin "sorted") (fun xs H Q=>∃ (a:A3) (kvs:List (Key×V)) (ss:List Str),xs = [V.ref a]/\Rd H a (.dK kvs)/\kvs.map (·.1)=ss.map Dj/\ss.length < 64 /\
  ∀ p (ss':List Str),H p=none->ss'.Perm ss->sortedS ss'=true->Q (.ref p) (upd H p (.lst (ss'.map V.str)))):=by
 intro pins s σ H xs us Q I r h
 obtain ⟨a,kvs,ss,rfl,hq,hk,h64,q⟩:=h
 obtain ⟨u,rfl,ru⟩:=zb1 r
 cases ru
 obtain ⟨hz,lo,vs,kv,hD⟩:=(show ObjOk X.prog X.w H s.heap a (.dK kvs) from hq.ok I.hok)
 obtain ⟨ep,hat⟩:=hD.dictAt
 have hlen:vs.length=ss.length:=by
  have e1:=kv.length
  have e2:=congrArg Ey hk
  rw [A5,A5] at e2
  omega
 have big64:(64:Nat)<=sizeLine:=by decide
 refine Fl Oq Nv Nx (Ny _) ?_
 unfold F0.«sorted»
 refine A1 (m:=checkCount "sorted" 1 1 _) (Ad ?_)
 refine A1 (M8 (A:=X.A.in1) (PySem.W.kdl_dict (knd:=mixKind X.prog X.w) (kvs:=vs) (ep:=ep) lo) (I.ok.hd hc) hat (by omega) fun h' tk acc hkeep hacc => ?_)
 have hl:acc.toList.length=vs.length:=by rw [At]; exact hacc.1
 have hS:Sr acc.toList ss:=by
  refine zdr (by omega) fun j v x e1 e2 => ?_
  obtain ⟨k,y,e3,hk2⟩:=hacc.2 j v (by rw [<- Ci]; exact e1)
  obtain ⟨v',e4,_⟩:=kv.get e3
  have e5:(kvs.map (·.1))[j]?=some k:=by rw [Af,e4]; rfl
  rw [hk,Af,e2] at e5
  have e6:Dj x=k:=C6 e5
  subst e6
  rcases zaN (show keyIs (Dj x) v=true from hk2) with ⟨i,t,e,_⟩ | ⟨y,t,e,e7⟩
  ·cases e
  ·cases e; exact ⟨t,e7⟩
 refine A1 (Ip ?_ (by rw [hl]; omega))
 have hoL:(h'.push (seqObj "list" acc.toList.toArray 0)).get? h'.objs.size=some (seqObj "list" acc.toList.toArray 0):=Av _ rfl
 refine A1 (D3 (Ds Mn ⟨_,hoL,rfl⟩ M0 (list_sort_treeK strKind_oneLt hoL hS.keysOf (fun v₁ v₂ rest e=>keyKind_strs (by rw [<- e]; exact hS)) (by omega) fun st' hp hs=>⟨_,rfl,?_⟩) (Mp _)))
 obtain ⟨ss',a1,a2,a3⟩:=sorted_out_str hS hp hs
 refine Ad ⟨_,rfl,?_⟩
 obtain ⟨e,he⟩:=Rz (out:=(arrOf st').map (·.2)) hoL
 have I1:Inv X pins σ H { s with heap:=h',toks:=tk }:=I.kept hkeep
 have I2:=Inv.laid (o := .lst (ss'.map V.str)) (a:=h'.objs.size) (h':=sortedHeap (h'.push (seqObj "list" acc.toList.toArray 0)) h'.objs.size acc.toList ((arrOf st').map (·.2))) (t':=tk) I1 (fun b o hb=>by
  have lt:=An hb
  rw [Rp (B8 lt) (by rw [Eu]; exact Em lt)]
  exact A8 _ hb) (Aa _) (show ObjOk X.prog X.w _ _ _ (.lst (ss'.map V.str)) from ⟨by rw [A5,a2.length_eq]; omega,_,e,zef a1,by rw [Array.toArray_toList]; exact he⟩)
 exact ⟨.ref h'.objs.size,_,I2,rfl,q _ ss' (I1.hok.fresh (Aa _)) a2 a3⟩
end
section
variable {X:Cx} {pins:List (A3×Obj)} {σ : St} {H:Hp} {s:A4} {a:A3} {kvs:List (Key×V)}
end
section
variable {X:Cx} {tg:Ce}
end
structure HCallee (P:Ap) (w:Bb) (K:Am) (mg:Str->Option A2) (base:Bx) (x:Str) (k:Nat) (ps:List Str) (spf:A3->A2->Sp):Prop where
 ex:∃ f fd,(∀ (e:A3) (oe:Obj) (c:A2) (vs:Array A2),oe.cls=c/\oe.dict=none->oe.data = .fields vs->vs[2]?=some .none->FnOkH P w K mg base e oe k f fd ps (spf e c)) /\
  mg x=some (.ref f)/\D8 K (.ref f)=true/\Binds K fd ps []
theorem DefAt.hcallee {P:Ap} {w:Bb} {K:Am} {mg:Str->Option A2} {base:Bx} {x:Str} {st:Cj} {N ps:List Str} {k:Nat} {spf:A3->A2->Sp} (D:DefAt K mg x st) (S:FnScope N ps (defScope st))
  (hb:∀ (kV doc pm:A2) (an:Option A3) (cdv ct:A2) (us:List A2),us.length=ps.length->bindArgs (Co x x (defArgs st) (defBody st) (defScope st) .none kV doc pm an cdv ct) ⟨us,[]⟩=pure (ps.zip us))
  (len:∀ e c vs H Q E,spf e c vs H Q E->vs.length=ps.length)
  (hbody:∀ (f:A3) (cdv:A2) (A:B7) (outer:List Env) (s:A4) (H:Hp) (vs:List V) (Q:VK) (e:A3) (oe:Obj) (c:A2) (ws:Array A2),oe.cls=c/\oe.dict=none->oe.data = .fields ws->QH e oe (cxH P w K mg base N x (defScope st) f cdv A outer s H e oe)->spf e c vs H Q E0 ->
   ∃ t,PSs (cxH P w K mg base N x (defScope st) f cdv A outer s H e oe) (defBody st) t/\t { nx:=fun _ H'=>Q .non H',rt:=Q } (start N vs) H):HCallee P w K mg base x (k + 1) ps spf:=by
 obtain ⟨f,fd,F,m⟩:=D.ex
 have hbi:=F.binds hb
 obtain ⟨oc,od,kV,doc,pm,an,cdv,ct,osl,rfl,lk,hcd⟩:=id F.ex
 exact ⟨f,_,fun e oe c ws hc hd h2=>fn_ofH lk hcd S (len e c) fun A outer s H vs Q hh h=>hbody f cdv A outer s H vs Q e oe c ws hc hd (cxH_q hh hd h2) h,m,F.kp,hbi⟩
section
variable {X:Cx} {f:Str} {k k':Nat} {ps:List Str} {spf:A3->A2->Sp} {p pos:Pos} {e:Ce} {es:List Ce} {t:TA} {x:A3} {c:A2} {ox:Obj} {pn:List (A3×Obj)} {vs:Array A2}
theorem pe_hand (C:HCallee X.prog X.w X.K X.mg X.base f k ps spf) (hr:Room k' X.A) (hx:x ∉ frs X.stack) (hc:ox.cls=c/\ox.dict=none) (hd:ox.data = .fields vs) (h2:vs[2]?=some .none) (hk:k<=k') (hg:Gl X f)
  (ha:PA (cxHand X x ox pn) (e :: es) t) (hdb:(f == ("__debug__" : Str))=false:=by decide)
  (he:starEach (e :: es) X.env=(false,eval e X.env) :: starEach es X.env:=by rfl) (hpl:(backTo pos (starEach es X.env)).any (·.1)=false:=by rfl):PE (cxHand X x ox pn) (.Call (.Name f p) (e :: es) [] pos) (tCall (spf x c) [] E0 t):=by
 obtain ⟨fa,fd,F,m,kp,hb⟩:=C.ex
 exact pe_callH (X:=cxHand X x ox pn) (F x ox c vs hc hd h2) (Room.mark (hr.mono hk)) Ai hx hg m kp hb ha hdb he hpl
end
structure Maker (P:Ap) (w:Bb) (K:Am) (mg:Str->Option A2) (base:Bx) (x:Str) (C:A3) (CX:CXT) (k:Nat) (ps:List Str) (sp:Sp):Prop where
 ex:∃ f fd,Mk K C f/\FnOk P w K mg base CX k f fd ps sp/\mg x=some (.ref C)/\Binds K fd ps []
theorem pe_mk0 {X:Cx} {x:Str} {C:A3} {CX:CXT} {k:Nat} {ps:List Str} {sp:Sp} {E:XK} {p pos:Pos} (M:Maker X.prog X.w X.K X.mg X.base x C CX k ps sp) (hr:Room (k + 1) X.A) (hx:Passes CX X E) (hg:Gl X x) (hdb:(x == ("__debug__" : Str))=false:=by decide) :
  PE X (.Call (.Name x p) [] [] pos) (tMake C sp [] E tNil):=by
 obtain ⟨f,fd,M,F,m,b⟩:=M.ex
 exact pe_make0 M F hr hg m b .nil hx hdb
section
variable {Y:Cx}
theorem op_notIn_seq' (K:Am) (h:Y.K=K):OpR Y (compareOp .NotIn) (rIn K true):=by subst h; exact zbS
theorem zbJ (K:Am) (h:Y.K=K):IxR Y (rIxL K):=by subst h; exact zaz
theorem ix_tup' (K:Am) (h:Y.K=K):IxR Y (rIxT K):=by subst h; exact za6
end
noncomputable def isStar:Ce->Bool
 | .Starred _ _=>true
 | _=>false
theorem star_cons {e:Ce} (es:List Ce) (env:Env) (h:isStar e=false):starEach (e :: es) env=(false,eval e env) :: starEach es env:=by
 cases e <;> first | rfl | cases h
structure QA (X:Cx) (es:List Ce) (t:TA):Prop where h:PA X es t
structure QE (X:Cx) (e:Ce) (t:TE):Prop where h:PE X e t
section
variable {X:Cx} {e:Ce} {es:List Ce} {te:TE} {t:TA} {pos:Pos}
theorem qe (h:PE X e te):QE X e te:=⟨h⟩
theorem zaA:QA X [] tNil:=⟨zac⟩
theorem zag (ha:QE X e te) (hr:QA X es t) (h:isStar e=false:=by rfl):QA X (e :: es) (tCons te t):=⟨zaa ha.h hr.h (star_cons es X.env h)⟩
theorem zbe {k} (h:QA X es t):QE X (.Tuple es k pos) (tTup t):=⟨za9 h.h⟩
theorem zbn (h:QA X es t):QE X (.List es pos) (tLst t):=⟨zaO h.h⟩
end
structure QS (X:Cx) (st:Cj) (t:TS):Prop where h:PS X st t
structure QSs (X:Cx) (st:List Cj) (t:TS):Prop where h:PSs X st t
section
variable {X:Cx} {st:Cj} {rest:List Cj} {t u:TS} {a b e:Ce} {ta tb te:TE} {pos:Pos}
theorem qs (h:PS X st t):QS X st t:=⟨h⟩
theorem zeV (h:QS X st t):QSs X [st] t:=⟨zah h.h⟩
theorem qe_ix {r:R2} (hr:IxR X r) (ha:QE X a ta) (hb:QE X b tb) (hs:PlainIx b):QE X (.Subscript a b pos) (tOp r ta tb):=⟨zay hr ha.h hb.h hs⟩
theorem zdo {op:Operator} {r:R2} (ho:OpR X (binaryOp op) r) (ha:QE X a ta) (hb:QE X b tb):QE X (.BinOp a op b pos) (tOp r ta tb):=⟨zau ho ha.h hb.h⟩
theorem zaD (h:QS X st t) (hr:QSs X rest u):QSs X (st :: rest) (tSeq t u):=⟨zae h.h hr.h⟩
theorem qss_cut (h:QS X st t) (hr:QSs X rest u):QSs X (st :: rest) (tCut t u):=⟨zbC h.h hr.h⟩
theorem zf5 (h:QE X e te):QS X (.Return (some e) pos) (tRet te):=⟨zam h.h⟩
theorem zbd {i:Nat} {x:Str} {pos':Pos} (hN:X.N.Nodup) (hi:X.N[i]?=some x) (hx:Loc X.env.scope x) (he:QE X e te) (hs:swapsWith e (some (.Name x pos')) pos.line X.env=pure false:=by rfl) (hf:X.fn x=true\/X.env.scope.names.lookup x=some .local:=by first | exact .inl rfl | exact .inr rfl | assumption) :
  QS X (.Assign [.Name x pos'] e pos) (tAsg te (gName i)):=⟨zak hN hi hx he.h hs hf⟩
end
theorem DefAt.calleeQ {P:Ap} {w:Bb} {K:Am} {mg:Str->Option A2} {base:Bx} {x:Str} {st:Cj} {N ps:List Str} {k:Nat} {sp:Sp} (D:DefAt K mg x st) (S:FnScope N ps (defScope st))
  (hb:∀ (kV doc pm:A2) (an:Option A3) (cdv ct:A2) (us:List A2),us.length=ps.length->bindArgs (Co x x (defArgs st) (defBody st) (defScope st) .none kV doc pm an cdv ct) ⟨us,[]⟩=pure (ps.zip us))
  (len:∀ vs H Q E,sp vs H Q E->vs.length=ps.length)
  (hbody:∀ (f:A3) (cdv:A2) (A:B7) (outer:List Env) (s:A4) (H:Hp) (vs:List V) (Q:VK) (E:XK),Room k (A.deeper (envOfC x (defScope st) s.heap.objs.size f cdv))->sp vs H Q E ->
   ∃ t,QSs (cxOf CX0 P w K mg base N x (defScope st) f cdv A outer s H E).nox (defBody st) t/\t { nx:=fun _ H'=>Q .non H',rt:=Q } (start N vs) H):Callee P w K mg base x (k + 1) ps sp :=
 D.callee S hb len fun f cdv A outer s H vs Q E hr h=>let ⟨t,q,r⟩:=hbody f cdv A outer s H vs Q E hr h; ⟨t,q.h,r⟩
theorem DefAt.hcalleeQ {P:Ap} {w:Bb} {K:Am} {mg:Str->Option A2} {base:Bx} {x:Str} {st:Cj} {N ps:List Str} {k:Nat} {spf:A3->A2->Sp} (D:DefAt K mg x st) (S:FnScope N ps (defScope st))
  (hb:∀ (kV doc pm:A2) (an:Option A3) (cdv ct:A2) (us:List A2),us.length=ps.length->bindArgs (Co x x (defArgs st) (defBody st) (defScope st) .none kV doc pm an cdv ct) ⟨us,[]⟩=pure (ps.zip us))
  (len:∀ e c vs H Q E,spf e c vs H Q E->vs.length=ps.length)
  (hbody:∀ (f:A3) (cdv:A2) (A:B7) (outer:List Env) (s:A4) (H:Hp) (vs:List V) (Q:VK) (e:A3) (oe:Obj) (c:A2) (ws:Array A2),oe.cls=c/\oe.dict=none->oe.data = .fields ws->QH e oe (cxH P w K mg base N x (defScope st) f cdv A outer s H e oe)->spf e c vs H Q E0 ->
   ∃ t,QSs (cxH P w K mg base N x (defScope st) f cdv A outer s H e oe) (defBody st) t/\t { nx:=fun _ H'=>Q .non H',rt:=Q } (start N vs) H):HCallee P w K mg base x (k + 1) ps spf :=
 D.hcallee S hb len fun f cdv A outer s H vs Q e oe c ws hc hd hq h=>let ⟨t,q,r⟩:=hbody f cdv A outer s H vs Q e oe c ws hc hd hq h; ⟨t,q.h,r⟩
theorem zbo {X:Cx} {x:Str} {C:A3} {pos:Pos} (hg:Gl X x) (hm:X.mg x=some (.ref C)) (hd:(x == ("__debug__" : Str))=false:=by decide):PE X (.Name x pos) (tC (.ref C)):=zgc (v := .ref C) hg hm rfl hd
section
variable {K:Am} {C D CE:A3} {oc:A2} {od:Option A3} {cd:ClassData} {sl:Array (Option A2)} {b:Bool}
end
theorem zbl {H:Hp} {p l:A3} {ys:List V} {o:HO} (h:H l=some (.lst ys)) (n:H p=none):upd H p o l=some (.lst ys):=by rw [zaf (zan h n)]; exact h
theorem Same.lstE {H0 H:Hp} (m:Same H0 H) {o:HO} {p:A3} (n:H p=none):Same H0 (upd H p o)/\upd H p o p=some o:=⟨m.put (m.free n),zab⟩
theorem zgF {ns:List Int} {k:Int} (h0:0<=k) (h:k < (ns.length:Int)):atI (ns.map V.int) k=some (V.int (ns.getD k.toNat 0)):=by
 have hk:k.toNat < ns.length:=by omega
 have e:((k.toNat:Nat):Int)=k:=by omega
 rw [<- e]
 refine zat ?_
 rw [Af,Aj,Dk,A6 hk]
 rfl
theorem getD_big {ns:List Int} {k:Int} (h:¬ k < (ns.length:Int)):ns.getD k.toNat 0=0:=by
 rw [Aj,Cv (by omega)]
 rfl
theorem zcs {x:Str}:x.cps.toList.length=x.length:=by simp [Rt]
theorem zaK:1000<=sizeLine:=by decide
theorem big {n:Nat} (h:n<=1000):n<=sizeLine:=C5 h zaK
theorem bigr {n:Nat} (h:Nat.ble n 1000=true):n<=sizeLine:=big (N5 h)
theorem p2:(0:Int) < 2:=by decide
theorem p6:(0:Int) < 6:=by decide
theorem len_app (x y:Str):(x ++ y).length=x.length + y.length:=by
 have:=congrArg Ey (Li x y)
 rw [Ag,zcs,zcs,zcs] at this
 exact this
theorem zd3 (c:Nat):(⟨#[c]⟩:Str).length=1:=rfl
theorem dec_ii {a b:Int}:decide (V.int a=V.int b)=decide (a=b):=by
 rw [decide_eq_decide]
 exact ⟨fun h=>by injection h,fun h=>by rw [h]⟩
theorem zbk {i n:Nat} {lo:Int} {x:V} (h:((Ab n).map fun i=>V.int (lo + ((i:Nat):Int)))[i]?=some x):i < n/\x=V.int (lo + ((i:Nat):Int)):=by
 have hi:i < n:=by
  have:=(Ao.mp h).1
  simpa using this
 rw [Af,Cd hi] at h
 cases h
 exact ⟨hi,rfl⟩
noncomputable def small (c:Nat):Bool:=decide (97<=c) && decide (c<=122)
noncomputable def isName (x:Str):Bool:=(decide (1<=x.length) && decide (x.length<=6)) && x.cps.toList.all small
noncomputable def abc:Str:=A0 "abcdefghijklmnopqrstuvwxyz"
theorem zed:abc.cps.toList=(Ab 26).map (97 + ·):=by decide +kernel
theorem ze9:abc.length=26:=by decide +kernel
theorem abc_at {k:Int} (h0:0<=k) (h:k < 26):∃ c,atI abc.cps.toList k=some c/\small c=true:=by
 have e:((k.toNat:Nat):Int)=k:=by omega
 refine ⟨97 + k.toNat,?_,?_⟩
 ·rw [<- e]
  refine zat ?_
  rw [zed,Af,Cd (by omega),Dk]
  rfl
 ·unfold small
  rw [decide_eq_true (by omega:97<=97 + k.toNat),decide_eq_true (by omega:97 + k.toNat<=122)]
  rfl
theorem zgh {x:Str} (h1:1<=x.length) (h2:x.length<=6) (h3:x.cps.toList.all small=true):isName x=true:=by
 unfold isName
 rw [decide_eq_true h1,decide_eq_true h2,h3]
 rfl
theorem name_one {c:Nat} (h:small c=true):isName ⟨#[c]⟩=true:=zgh (by rw [zd3]; decide) (by rw [zd3]; decide) (by simp [h])
theorem name_len {x:Str} (h:isName x=true):1<=x.length/\x.length<=6:=by
 unfold isName at h
 simp only [Bz,decide_eq_true_eq] at h
 exact h.1
theorem app_list (x y:Str):(x ++ y).cps.toList=x.cps.toList ++ y.cps.toList:=Li x y
theorem zcM {α : Type} [DecidableEq α]:∀ {l m:List α},l.Nodup->(∀ x∈l,x∈m)->l.length<=m.length
 | [],_,_,_=>By _
 | x :: l,m,hn,h=>by
  have hx:=h x Ai
  have hn:=Dv.mp hn
  have ih:=zcM (m:=m.erase x) hn.2 fun y hy=>(List.mem_erase_of_ne (fun z:y=x=>hn.1 (by rw [<- z]; exact hy))).mpr (h y (Ac _ hy))
  have e:=Lu hx
  have:=Me hx
  rw [Aw]
  omega
theorem zgp (x:Str) (us:List Str):inV (V.str x) (us.map V.str)=decide (x∈us):=by
 unfold inV
 rw [K8,Bq,Bv,decide_eq_true_eq]
 constructor
 ·rintro ⟨y,hy,e⟩
  have e':(y == x)=true:=e
  rw [<- eq_of_beq e']; exact hy
 ·intro h
  exact ⟨x,h,beq_self_eq_true x⟩
theorem zeK (us:List Str):(us.map V.str).all flatV=true:=by
 rw [Im,Cg]
 intro x _
 rfl
theorem spare_some (us:List Str) (h:us.length<=25):∃ c∈abc.cps.toList,(⟨#[c]⟩:Str) ∉ us:=by
 apply De
 intro hn
 have hall:∀ y∈abc.cps.toList.map (fun c=>(⟨#[c]⟩:Str)),y∈us:=fun y hy=>by
  obtain ⟨c,hc,rfl⟩:=Ah.mp hy
  exact De fun z=>hn ⟨c,hc,z⟩
 have nd:(abc.cps.toList.map (fun c=>(⟨#[c]⟩:Str))).Nodup:=by
  rw [zed,Bp]
  decide +kernel
 have:=zcM nd hall
 rw [A5,zcs,ze9] at this
 omega
theorem abc_small {c:Nat} (h:c∈abc.cps.toList):small c=true:=by
 rw [zed] at h
 obtain ⟨i,hi,rfl⟩:=Ah.mp h
 have:=B5.mp hi
 unfold small
 rw [decide_eq_true (by omega:97<=97 + i),decide_eq_true (by omega:97 + i<=122)]
 rfl
theorem zdg:∀ (ns acc:List Int),(ns.foldl Hq acc).length<=acc.length + ns.length/\(acc.Nodup->((ns.foldl Hq acc).length=acc.length + ns.length ↔ (acc ++ ns).Nodup))
 | [],acc=>⟨by simp,fun h=>by simp [h]⟩
 | n :: ns,acc=>by
  rw [Kx]
  by_cases hm:n∈acc
  ·have e:Hq acc n=acc:=by
    unfold Hq
    rw [if_pos (Bv.mpr ⟨n,hm,by simp⟩)]
   rw [e]
   have ih:=zdg ns acc
   refine ⟨by have:=ih.1; rw [Aw]; omega,fun _=>⟨fun z => ?_,fun z => ?_⟩⟩
   ·have:=ih.1
    rw [Aw] at z
    omega
   ·exact absurd rfl ((E3.mp z).2.2 n hm n Ai)
  ·have e:Hq acc n=acc ++ [n]:=by
    unfold Hq
    rw [if_neg]
    intro z
    obtain ⟨x,hx,ex⟩:=Bv.mp z
    have:x=n:=by simpa using ex
    subst this
    exact hm hx
   rw [e]
   have ih:=zdg ns (acc ++ [n])
   rw [Ag,Bd,Au] at ih
   refine ⟨by have:=ih.1; rw [Aw]; omega,fun h => ?_⟩
   have hn:(acc ++ [n]).Nodup:=by
    refine E3.mpr ⟨h,by simp,fun a ha b hb => ?_⟩
    have:b=n:=by simpa using hb
    subst this
    intro z
    subst z
    exact hm ha
   have:=ih.2 hn
   rw [Aw]
   rw [show acc.length + (ns.length + 1)=acc.length + 1 + ns.length by omega]
   exact this
theorem many_eq (ns:List Int):many ns=(ns.foldl Hq []).length:=by
 unfold many firstMet
 congr 2
 apply Fd
 intro i
 rw [Af]
 by_cases h:i < ns.length
 ·rw [Cd h]
  simp [Aj,h]
 ·rw [Cv (by simpa using h),Cv (by simpa using h)]
  rfl
theorem many_nodup (ns:List Int):many ns=ns.length ↔ ns.Nodup:=by
 rw [many_eq]
 have:=(zdg ns []).2 Du
 simpa using this
noncomputable def inR (t:Int):Bool:=decide (0<=t) && decide (t<=7)
noncomputable def areTeeth (ts:List Int):Bool:=decide (0∈ts) && (decide (many ts=ts.length) && ts.all inR)
theorem in_zero (ts:List Int):inV (V.int 0) (ts.map V.int)=decide (0∈ts):=by
 unfold inV
 rw [K8,Bq,Bv,decide_eq_true_eq]
 constructor
 ·rintro ⟨x,hx,e⟩
  have:x=0:=by
   have e':(x == 0)=true:=e
   exact eq_of_beq e'
  rw [<- this]; exact hx
 ·intro h
  exact ⟨0,h,rfl⟩
theorem zhh (ts:List Int):(ts.map V.int).all flatV=true:=by
 rw [Im,Cg]
 intro x _
 rfl
noncomputable def KindsL (G:A3->Prop) (H:Hp):List V->List (Str×List Int)->Prop
 | [],[]=>True
 | v :: vs,k :: ks=>(∃ q t,v = .ref q/\H q=some (.lst [.str k.1,.ref t])/\H t=some (.lst (k.2.map V.int))/\G q/\G t)/\KindsL G H vs ks
 | _,_=>False
theorem KindsL.mono {G G':A3->Prop} {H H':Hp} (s:∀ a o,G a->H a=some o->H' a=some o) (g:∀ a,G a->G' a):∀ {vs:List V} {ks:List (Str×List Int)},KindsL G H vs ks->KindsL G' H' vs ks
 | [],[],_=>trivial
 | _ :: _,_ :: _,⟨⟨q,t,e,h1,h2,g1,g2⟩,r⟩=>⟨⟨q,t,e,s _ _ g1 h1,s _ _ g2 h2,g _ g1,g _ g2⟩,KindsL.mono s g r⟩
 | [],_ :: _,h=>h.elim
 | _ :: _,[],h=>h.elim
theorem KindsL.same {G:A3->Prop} {H H':Hp} {vs:List V} {ks:List (Str×List Int)} (s:Same H H') (h:KindsL G H vs ks):KindsL G H' vs ks:=h.mono (fun a o _ e=>s a o e) fun _ g=>g
theorem KindsL.upd {G:A3->Prop} {H:Hp} {p:A3} {o:HO} {vs:List V} {ks:List (Str×List Int)} (h:KindsL G H vs ks) (n:¬ G p):KindsL G (upd H p o) vs ks:=h.mono (fun a u g e=>by rw [zaf (fun z:a=p=>n (by rw [<- z]; exact g))]; exact e) fun _ g=>g
theorem KindsL.snoc {G:A3->Prop} {H:Hp} {q t:A3} {k:Str×List Int} (h1:H q=some (.lst [.str k.1,.ref t])) (h2:H t=some (.lst (k.2.map V.int))) (g1:G q) (g2:G t):∀ {vs:List V} {ks:List (Str×List Int)},KindsL G H vs ks->KindsL G H (vs ++ [.ref q]) (ks ++ [k])
 | [],[],_=>⟨⟨q,t,rfl,h1,h2,g1,g2⟩,trivial⟩
 | _ :: _,_ :: _,⟨a,b⟩=>⟨a,KindsL.snoc h1 h2 g1 g2 b⟩
 | [],_ :: _,x=>x.elim
 | _ :: _,[],x=>x.elim
theorem KindsL.length {G:A3->Prop} {H:Hp}:∀ {vs:List V} {ks:List (Str×List Int)},KindsL G H vs ks->vs.length=ks.length
 | [],[],_=>rfl
 | _ :: _,_ :: _,⟨_,b⟩=>by rw [Aw,Aw,KindsL.length b]
 | [],_ :: _,x=>x.elim
 | _ :: _,[],x=>x.elim
theorem KindsL.get {G:A3->Prop} {H:Hp}:∀ {vs:List V} {ks:List (Str×List Int)} {i:Nat} {v:V},KindsL G H vs ks->vs[i]?=some v->∃ k q t,ks[i]?=some k/\v = .ref q/\H q=some (.lst [.str k.1,.ref t])/\H t=some (.lst (k.2.map V.int))
 | [],[],_,_,_,e=>by simp at e
 | _ :: _,k :: _,0,_,⟨⟨q,t,e,h1,h2,_⟩,_⟩,z=>by
  simp at z
  subst z
  exact ⟨k,q,t,rfl,e,h1,h2⟩
 | _ :: _,_ :: _,i + 1,_,⟨_,b⟩,z=>by
  obtain ⟨k,q,t,h⟩:=KindsL.get (i:=i) b (by simpa using z)
  exact ⟨k,q,t,by simpa using h⟩
 | [],_ :: _,_,_,x,_=>x.elim
 | _ :: _,[],_,_,x,_=>x.elim
noncomputable def GT (ts:List Int):Prop:=∃ f:Nat->Bool,ts=((Ab 8).filter f).map (fun i=>((i:Nat):Int))/\f 0=true
structure Drawn (G:A3->Prop) (H:Hp) (vs:List V) (ks:List (Str×List Int)):Prop where
 rows:KindsL G H vs ks
 nd:(ks.map (·.1)).Nodup
 good:∀ k∈ks,isName k.1=true/\GT k.2
theorem Drawn.same {G:A3->Prop} {H H':Hp} {vs:List V} {ks:List (Str×List Int)} (d:Drawn G H vs ks) (s:Same H H'):Drawn G H' vs ks:=⟨d.rows.same s,d.nd,d.good⟩
theorem Drawn.upd {G:A3->Prop} {H:Hp} {p:A3} {o:HO} {vs:List V} {ks:List (Str×List Int)} (d:Drawn G H vs ks) (n:¬ G p):Drawn G (upd H p o) vs ks:=⟨d.rows.upd n,d.nd,d.good⟩
theorem Drawn.any {G:A3->Prop} {H:Hp} {vs:List V} {ks:List (Str×List Int)} (d:Drawn G H vs ks):Drawn (fun _=>True) H vs ks:=⟨d.rows.mono (fun _ _ _ e=>e) fun _ _=>trivial,d.nd,d.good⟩
theorem Drawn.snoc {G:A3->Prop} {H:Hp} {vs:List V} {ks:List (Str×List Int)} {q t:A3} {k:Str×List Int} (d:Drawn G H vs ks) (h1:H q=some (.lst [.str k.1,.ref t])) (h2:H t=some (.lst (k.2.map V.int))) (g1:G q) (g2:G t) (hn:k.1 ∉ ks.map (·.1)) (hk:isName k.1=true/\GT k.2):Drawn G H (vs ++ [.ref q]) (ks ++ [k]):=by
 refine ⟨KindsL.snoc h1 h2 g1 g2 d.rows,?_,fun x hx => ?_⟩
 ·rw [Bs]
  refine E3.mpr ⟨d.nd,by simp,fun a ha b hb => ?_⟩
  have e:b=k.1:=by simpa using hb
  rw [e]
  exact fun z=>hn (z ▸ ha)
 ·rcases Al.mp hx with z | z
  ·exact d.good x z
  ·rw [A7.mp z]; exact hk
noncomputable abbrev Combs:=List (Str×List Int)
noncomputable def cGet (cs:Combs) (x:Str):Option (List Int):=(cs.find? fun c=>decide (c.1=x)).map (·.2)
noncomputable def cPut (cs:Combs) (x:Str) (ts:List Int):Combs:=if (cs.any fun c=>decide (c.1=x))=true then cs.map (fun c=>if c.1=x then (c.1,ts) else c) else cs ++ [(x,ts)]
noncomputable def canon (ts:List Int):List Int:=((Ab 8).filter fun i=>decide (((i:Nat):Int)∈ts)).map fun i=>((i:Nat):Int)
theorem zgY (f:Nat->Bool):(((Ab 8).filter f).map fun i=>((i:Nat):Int)).Pairwise (· < ·):=by
 rw [Cb]
 refine Bi Di ?_
 refine Et ?_ (Dt (n:=8))
 intro a b h
 omega
theorem zea (ts:List Int):(canon ts).Pairwise (· < ·):=zgY _
theorem mem_canon {ts:List Int} {t:Int}:t∈canon ts ↔ t∈ts/\0<=t/\t<=7:=by
 unfold canon
 simp only [Ah,B9,B5,decide_eq_true_eq]
 constructor
 ·rintro ⟨i,⟨hi,hm⟩,rfl⟩
  exact ⟨hm,by omega,by omega⟩
 ·rintro ⟨hm,h0,h7⟩
  refine ⟨t.toNat,⟨by omega,?_⟩,by omega⟩
  rwa [show ((t.toNat:Nat):Int)=t by omega]
theorem zba {l:List Int} (h:l.Pairwise (· < ·)):l.Nodup:=h.imp fun h=>by omega
theorem zca (ts:List Int):(canon ts).Nodup:=zba (zea ts)
theorem zb6 {a b:List Int} (hp:a.Perm b) (ha:a.Pairwise (· <= ·)) (hb:b.Pairwise (· <= ·)):a=b :=
 hp.eq_of_pairwise (fun x y _ _ h1 h2=>Int.le_antisymm h1 h2) ha hb
theorem zd9 {ns ts:List Int} (hp:ns.Perm ts) (hs:ns.Pairwise (· <= ·)) (hn:ts.Nodup) (hr:∀ t∈ts,0<=t/\t<=7):ns=canon ts:=by
 refine zb6 (hp.trans ?_) hs ((zea ts).imp fun h=>by omega)
 rw [Eh hn (zca ts)]
 intro t
 rw [mem_canon]
 exact ⟨fun h=>⟨h,hr t h⟩,fun h=>h.1⟩
theorem zfN {ts:List Int} (h:GT ts):ts.Pairwise (· < ·):=by
 obtain ⟨f,rfl,_⟩:=h
 exact zgY f
theorem zcK {ts:List Int} (h:GT ts):∀ t∈ts,0<=t/\t<=7:=by
 obtain ⟨f,rfl,_⟩:=h
 intro t ht
 obtain ⟨i,hi,rfl⟩:=Ah.mp ht
 have:=B5.mp (B9.mp hi).1
 omega
theorem ze2 {ts:List Int} (h:GT ts):(0:Int)∈ts:=by
 obtain ⟨f,rfl,h0⟩:=h
 exact Ah.mpr ⟨0,B9.mpr ⟨by decide,h0⟩,rfl⟩
theorem gt_canon {ts:List Int} (h0:(0:Int)∈ts):GT (canon ts):=⟨_,rfl,decide_eq_true h0⟩
theorem gt_eq {ts:List Int} (h:GT ts):canon ts=ts:=by
 symm
 refine zd9 (Ki _) ((zfN h).imp fun h=>by omega) (zba (zfN h)) (zcK h)
theorem zg2 {ts:List Int} (h:GT ts):ts.length<=8:=by
 obtain ⟨f,rfl,_⟩:=h
 rw [A5]
 exact C5 (D6 _ _) (by simp)
theorem canon_len (ts:List Int):(canon ts).length<=8:=by
 unfold canon
 rw [A5]
 exact C5 (D6 _ _) (by simp)
theorem inR_iff {t:Int}:inR t=true ↔ 0<=t/\t<=7:=by unfold inR; simp
theorem teeth_iff {ts:List Int}:areTeeth ts=true ↔ (0:Int)∈ts/\ts.Nodup/\∀ t∈ts,0<=t/\t<=7:=by
 unfold areTeeth
 simp only [Bz,decide_eq_true_eq,many_nodup,Cg,inR_iff]
theorem zcX {ts:List Int} (hn:ts.Nodup) (hr:∀ t∈ts,0<=t/\t<=7):ts.length<=8:=by
 have:ts.length<=(canon ts).length:=zcM hn fun x hx=>mem_canon.mpr ⟨hx,hr x hx⟩
 have:=canon_len ts
 omega
theorem gt_teeth {ts:List Int} (h:GT ts):areTeeth ts=true:=teeth_iff.mpr ⟨ze2 h,zba (zfN h),zcK h⟩
structure Good (cs:Combs):Prop where
 len:cs.length<=8
 nd:(cs.map (·.1)).Nodup
 ok:∀ c∈cs,isName c.1=true/\GT c.2
theorem good_nil:Good []:=⟨by decide,Du,by simp⟩
theorem zd5 {cs:Combs} {x:Str} {ts:List Int} (h:cGet cs x=some ts):(x,ts)∈cs:=by
 unfold cGet at h
 obtain ⟨c,hc,rfl⟩:=Ls.mp h
 have h1:=Hj hc
 have h2:c.1=x:=by simpa using Ow hc
 rw [<- h2]
 exact h1
theorem get_none {cs:Combs} {x:Str}:cGet cs x=none ↔ x ∉ cs.map (·.1):=by
 unfold cGet
 rw [Option.map_eq_none_iff,No]
 simp only [decide_eq_true_eq,Ah,not_exists,not_and]
theorem zec {cs:Combs} {x:Str}:(cs.any fun c=>decide (c.1=x))=(cGet cs x).isSome:=by
 rw [Bq,Bv,Option.isSome_iff_ne_none,ne_eq,get_none,Sx,Ah]
 simp
theorem zcP {c:Str×List Int} {cs:Combs} {x:Str}:cGet (c :: cs) x=if c.1=x then some c.2 else cGet cs x:=by
 unfold cGet
 rw [F5]
 by_cases h:c.1=x
 ·simp [h]
 ·simp [h]
theorem zf6 {cs:Combs} {x:Str} {ts:List Int} (h:cGet cs x=none):cPut cs x ts=cs ++ [(x,ts)]:=by
 unfold cPut
 rw [zec,h]
 rfl
theorem zeX {cs:Combs} {x:Str} {ts us:List Int} (h:cGet cs x=some us):cPut cs x ts=cs.map (fun c=>if c.1=x then (c.1,ts) else c):=by
 unfold cPut
 rw [zec,h]
 rfl
theorem put_keys {cs:Combs} {x:Str} {ts us:List Int} (h:cGet cs x=some us):(cPut cs x ts).map (·.1)=cs.map (·.1):=by
 rw [zeX h,Bp]
 apply Ck
 intro c _
 show (if c.1=x then (c.1,ts) else c).1=c.1
 split <;> rfl
theorem Good.put {cs:Combs} {x:Str} {ts:List Int} (g:Good cs) (hx:isName x=true) (ht:GT ts) (hl:cs.length < 8\/(cGet cs x).isSome=true):Good (cPut cs x ts):=by
 cases e:cGet cs x with
 | none =>
  rw [zf6 e]
  refine ⟨?_,?_,?_⟩
  ·rw [e] at hl
   rw [Ag,Bd]
   rcases hl with h | h
   ·omega
   ·cases h
  ·rw [Bs]
   exact zgg g.nd (get_none.mp e)
  ·intro c hc
   rcases Al.mp hc with h | h
   ·exact g.ok c h
   ·rw [A7.mp h]; exact ⟨hx,ht⟩
 | some us =>
  refine ⟨?_,by rw [put_keys e]; exact g.nd,?_⟩
  ·rw [zeX e,A5]; exact g.len
  ·rw [zeX e]
   intro c hc
   obtain ⟨c0,h0,rfl⟩:=Ah.mp hc
   split
   ·exact ⟨(g.ok c0 h0).1,ht⟩
   ·exact g.ok c0 h0
noncomputable def KvR (G:A3->Prop) (H:Hp):List (Key×V)->Combs->Prop:=C7 fun kv c=>∃ t,kv=(Dj c.1,V.ref t)/\H t=some (.lst (c.2.map V.int))/\G t
noncomputable def DictR (G:A3->Prop) (H:Hp) (d:A3) (cs:Combs):Prop:=G d/\∃ kvs,H d=some (.dK kvs)/\KvR G H kvs cs
theorem KvR.mono {G G':A3->Prop} {H H':Hp} {kvs:List (Key×V)} {cs:Combs} (s:∀ a o,G a->H a=some o->H' a=some o) (g:∀ a,G a->G' a) (h:KvR G H kvs cs):KvR G' H' kvs cs :=
 Mc (fun _ _ ⟨t,e,h1,g1⟩=>⟨t,e,s _ _ g1 h1,g _ g1⟩) h
theorem DictR.mono {G G':A3->Prop} {H H':Hp} {d:A3} {cs:Combs} (s:∀ a o,G a->H a=some o->H' a=some o) (g:∀ a,G a->G' a) (h:DictR G H d cs):DictR G' H' d cs :=
 let ⟨g0,kvs,e,r⟩:=h
 ⟨g _ g0,kvs,s _ _ g0 e,r.mono s g⟩
theorem KvR.keys {G:A3->Prop} {H:Hp}:∀ {kvs:List (Key×V)} {cs:Combs},KvR G H kvs cs->kvs.map (·.1)=(cs.map (·.1)).map Dj
 | _,_,.nil=>rfl
 | _,_,.cons ⟨t,e,_⟩ r=>by
  subst e
  show _ :: _=_ :: _
  rw [show K0 _ _=_ from KvR.keys r]
theorem KvR.val {G:A3->Prop} {H:Hp} {x:Str}:∀ {kvs:List (Key×V)} {cs:Combs},KvR G H kvs cs ->
  (cGet cs x=none/\valV kvs (Dj x)=none)\/∃ ts t,cGet cs x=some ts/\valV kvs (Dj x)=some (.ref t)/\H t=some (.lst (ts.map V.int))/\G t
 | _,_,.nil => .inl ⟨rfl,rfl⟩
 | _,_,.cons (b:=c) ⟨t,e,h1,g1⟩ r=>by
  subst e
  by_cases h:c.1=x
  ·refine .inr ⟨c.2,t,by rw [zcP,if_pos h],za0 (by rw [h]),h1,g1⟩
  ·have hn:¬ ((Dj c.1:Key)=Dj x):=fun z=>h (M1 z)
   rcases KvR.val (x:=x) r with ⟨e1,e2⟩ | ⟨ts,t',e1,e2,e3⟩
   ·exact .inl ⟨by rw [zcP,if_neg h]; exact e1,by rw [zaX hn]; exact e2⟩
   ·exact .inr ⟨ts,t',by rw [zcP,if_neg h]; exact e1,by rw [zaX hn]; exact e2,e3⟩
theorem KvR.some {G:A3->Prop} {H:Hp} {kvs:List (Key×V)} {cs:Combs} {x:Str} (r:KvR G H kvs cs):(valV kvs (Dj x)).isSome=(cGet cs x).isSome:=by
 rcases r.val (x:=x) with ⟨e1,e2⟩ | ⟨ts,t',e1,e2,e3⟩
 ·rw [e1,e2]; rfl
 ·rw [e1,e2]; rfl
theorem KvR.map {G:A3->Prop} {H:Hp} {x:Str} {t:A3} {ts:List Int} (h1:H t = .some (.lst (ts.map V.int))) (g1:G t):∀ {kvs:List (Key×V)} {cs:Combs},KvR G H kvs cs ->
  KvR G H (kvs.map fun kv=>if kv.1=Dj x then (kv.1,V.ref t) else kv) (cs.map fun c=>if c.1=x then (c.1,ts) else c)
 | _,_,.nil => .nil
 | _,_,.cons (b:=c) ⟨t',e,h2,g2⟩ r=>by
  subst e
  refine .cons ?_ (KvR.map h1 g1 r)
  dsimp only
  by_cases hx:c.1=x
  ·rw [if_pos hx,if_pos (by rw [hx])]
   exact ⟨t,rfl,h1,g1⟩
  ·rw [if_neg hx,if_neg (fun z=>hx (M1 z))]
   exact ⟨t',rfl,h2,g2⟩
theorem KvR.put {G:A3->Prop} {H:Hp} {kvs:List (Key×V)} {cs:Combs} {x:Str} {t:A3} {ts:List Int} (r:KvR G H kvs cs) (h1:H t = .some (.lst (ts.map V.int))) (g1:G t):KvR G H (putK kvs (Dj x) (.ref t)) (cPut cs x ts):=by
 unfold putK cPut
 rw [zbp,zec,r.some]
 split
 ·exact r.map h1 g1
 ·exact Ev r ⟨t,rfl,h1,g1⟩
noncomputable abbrev PastR (G:A3->Prop) (H:Hp):List V->List Combs->Prop:=C7 fun v cs=>∃ d,v = .ref d/\DictR G H d cs
structure Bk (C:A3) (G:A3->Prop) (H:Hp) (b l:A3) (cs:Combs) (past:List Combs):Prop where
 live:∀ x,G x->H x≠none
 nb:¬ G b
 nl:¬ G l
 ins:∃ dx d,H b=some (.ins C dx [("combs",.ref d),("past",.ref l)])/\DictR G H d cs
 lst:∃ vs,H l=some (.lst vs)/\PastR G H vs past
 good:Good cs
 goods:∀ p∈past,Good p
 few:past.length<=300
theorem Bk.move {C:A3} {G:A3->Prop} {H H':Hp} {b l:A3} {cs:Combs} {past:List Combs} (B:Bk C G H b l cs past) (s:∀ a o,G a\/a=b\/a=l->H a=some o->H' a=some o):Bk C G H' b l cs past:=by
 have s':∀ a o,G a->H a=some o->H' a=some o:=fun a o g e=>s a o (.inl g) e
 obtain ⟨dx,d,e1,r1⟩:=B.ins
 obtain ⟨vs,e2,r2⟩:=B.lst
 refine ⟨fun x g => ?_,B.nb,B.nl,⟨dx,d,s _ _ (.inr (.inl rfl)) e1,r1.mono s' fun _ g=>g⟩,⟨vs,s _ _ (.inr (.inr rfl)) e2,?_⟩,B.good,B.goods,B.few⟩
 ·have:=B.live x g
  cases e:H x with
  | none=>exact absurd e this
  | some o=>rw [s' x o g e]; simp
 ·exact Mc (fun _ _ ⟨d,e,r⟩=>⟨d,e,r.mono s' fun _ g=>g⟩) r2
theorem Bk.same {C:A3} {G:A3->Prop} {H H':Hp} {b l:A3} {cs:Combs} {past:List Combs} (B:Bk C G H b l cs past) (s:Same H H'):Bk C G H' b l cs past:=B.move fun a o _ e=>s a o e
theorem Bk.liveB {C:A3} {G:A3->Prop} {H:Hp} {b l:A3} {cs:Combs} {past:List Combs} (B:Bk C G H b l cs past):H b≠none/\H l≠none:=by
 obtain ⟨dx,d,e1,r1⟩:=B.ins
 obtain ⟨vs,e2,r2⟩:=B.lst
 exact ⟨by rw [e1]; simp,by rw [e2]; simp⟩
structure Mv (b l:A3) (G G':A3->Prop) (H H':Hp):Prop where
 keep:∀ a o,H a=some o->a≠b->a≠l->H' a=some o
 on:∀ a,H a≠none->H' a≠none
 new:∀ a,G' a->G a\/H a=none
theorem zex {H H':Hp} (s:Same H H'):∀ a,H a≠none->H' a≠none:=fun a h=>by
 cases e:H a with
 | none=>exact absurd e h
 | some o=>rw [s a o e]; simp
theorem Mv.ofSame {b l:A3} {G:A3->Prop} {H H':Hp} (s:Same H H'):Mv b l G G H H':=⟨fun a o e _ _=>s a o e,zex s,fun _ g => .inl g⟩
theorem Mv.trans {b l:A3} {G G1 G2:A3->Prop} {H H1 H2:Hp} (m:Mv b l G G1 H H1) (m':Mv b l G1 G2 H1 H2):Mv b l G G2 H H2:=by
 refine ⟨fun a o e n1 n2=>m'.keep a o (m.keep a o e n1 n2) n1 n2,fun a h=>m'.on a (m.on a h),fun a g => ?_⟩
 rcases m'.new a g with g1 | e
 ·exact m.new a g1
 ·refine .inr ?_
  cases q:H a with
  | none=>rfl
  | some o=>exact absurd e (m.on a (by rw [q]; simp))
noncomputable def Deed (ea:Nat->A3) (C:A3) (G:A3->Prop) (H:Hp) (b l:A3) (cs:Combs) (past:List Combs) (Q:VK) (E:XK):Except Nat Combs->Prop
 | .error j=>∀ H',Same H H'->E (.ref (ea j)) none H'
 | .ok cs'=>∀ H' G',Mv b l G G' H H'->Bk C G' H' b l cs' (past ++ [cs])->Q (.int ((past.length:Int) + 1)) H'
theorem Deed.from {ea:Nat->A3} {C:A3} {G:A3->Prop} {H H1:Hp} {b l:A3} {cs:Combs} {past:List Combs} {Q:VK} {E:XK} {r:Except Nat Combs} (d:Deed ea C G H b l cs past Q E r) (s:Same H H1):Deed ea C G H1 b l cs past Q E r:=by
 cases r with
 | error j=>exact fun H' s'=>d H' (s.trans s')
 | ok cs'=>exact fun H' G' m B=>d H' G' ((Mv.ofSame s).trans m) B
noncomputable def full (past:List Combs) (cs':Combs):Except Nat Combs:=if 300<=past.length then .error 9 else .ok cs'
noncomputable def putD (cs:Combs) (past:List Combs) (x:Str) (ts:List Int):Except Nat Combs :=
 if isName x=false then .error 0 else if areTeeth ts=false then .error 1 else if (cGet cs x).isSome=true then .error 2 else if 8<=cs.length then .error 3 else full past (cPut cs x (canon ts))
theorem call_dictD {X:Cx}:CallR X (.type "dict") (fun xs H Q=>∃ a kvs,xs = [V.ref a]/\Rd H a (.dK kvs)/\∀ p,H p=none->Q (.ref p) (upd H p (.dK kvs))):=by
 intro pins s σ H xs us Q I r h
 obtain ⟨a,kvs,rfl,ha,q⟩:=h
 obtain ⟨u,rfl,ru⟩:=zb1 r
 cases ru
 exact d_copyOf I ha fun p s' np I'=>⟨.ref p,_,I',rfl,q p np⟩
noncomputable def sle (a b:Str):Prop:=a.cps.toList<=b.cps.toList
theorem sle_iff {a b:Str}:sle a b ↔ ltCps b.cps.toList a.cps.toList=false:=by
 unfold sle
 rw [ltCps_eq,decide_eq_false_iff_not,N6]
theorem sle_trans {a b c:Str} (h1:sle a b) (h2:sle b c):sle a c:=Pf h1 h2
theorem zcD {a b:Str} (h1:sle a b) (h2:sle b a):a=b:=by
 have:=List.le_antisymm h1 h2
 cases a; cases b
 simp only at this
 rw [Str.mk.injEq,<- Kj]
 exact this
theorem zdC:∀ {l:List Str} {p:Str},risingS p l=true->(p :: l).Pairwise sle
 | [],p,_=>by simp
 | x :: r,p,h=>by
  simp only [risingS,Bz,Fy] at h
  have ih:=zdC h.2
  have hpx:sle p x:=sle_iff.mpr h.1
  refine Jv.mpr ⟨fun y hy => ?_,ih⟩
  rcases Bf.mp hy with rfl | hm
  ·exact hpx
  ·exact sle_trans hpx ((Jv.mp ih).1 y hm)
theorem zdw {l:List Str} (h:sortedS l=true):l.Pairwise sle:=by
 cases l with
 | nil=>exact Fo
 | cons x r=>exact zdC h
theorem zei {a b:List Str} (hp:a.Perm b) (ha:sortedS a=true) (hb:sortedS b=true):a=b :=
 hp.eq_of_pairwise (fun _ _ _ _ h1 h2=>zcD h1 h2) (zdw ha) (zdw hb)
theorem atI_int {α : Type} {xs:List α} {k:Int} {v : α} (h0:0<=k) (h:xs[k.toNat]?=some v):atI xs k=some v:=by
 have e:((k.toNat:Nat):Int)=k:=by omega
 rw [<- e]
 exact zat h
noncomputable def kindD (k:Str×List Int):Gm := .list [.str k.1,.list (k.2.map .int)]
noncomputable def kindsD (ks:List (Str×List Int)):Gm := .list (ks.map kindD)
theorem zfB {K:Am} {H:Hp}:∀ (ns:List Int),VDs K H (ns.map V.int) (ns.map Ed)
 | [] => .nil
 | n :: ns => .cons (.int n) (zfB ns)
theorem zeA {K:Am} {G:A3->Prop} {H:Hp}:∀ {vs:List V} {ks:List (Str×List Int)},KindsL G H vs ks->VDs K H vs (ks.map kindD)
 | [],[],_ => .nil
 | _ :: _,k :: _,⟨⟨q,t,e,h1,h2,_⟩,r⟩=>by
  subst e
  exact .cons (.lst (SqL.of h1) (.cons (.str _) (.cons (.lst (SqL.of h2) (zfB _)) .nil))) (zeA r)
 | [],_ :: _,x=>x.elim
 | _ :: _,[],x=>x.elim
theorem str_ok {x:Str} (h:isName x=true):Df x=true:=by
 unfold isName at h
 simp only [Bz] at h
 unfold Df
 rw [<- Array.all_toList]
 refine Cg.mpr fun c hc => ?_
 have:=Cg.mp h.2 c hc
 unfold small at this
 simp only [Bz,decide_eq_true_eq] at this
 exact decide_eq_true (by omega)
theorem zfC:∀ ns:List Int,Ba (ns.map Ed)=true
 | []=>rfl
 | n :: ns=>by rw [Aq,Ba,zfC ns]; rfl
theorem zdL:∀ ns:List Int,C0 (ns.map Ed)=0
 | []=>rfl
 | n :: ns=>by rw [Aq,C0,zdL ns]; rfl
theorem zeB:∀ {ks:List (Str×List Int)},(∀ k∈ks,isName k.1=true)->Ba (ks.map kindD)=true
 | [],_=>rfl
 | k :: ks,h=>by
  rw [Aq,Ba,zeB fun x hx=>h x (Ac _ hx)]
  simp [kindD,D4,Ba,zfC,str_ok (h k Ai)]
theorem zdd:∀ ks:List (Str×List Int),C0 (ks.map kindD)<=2
 | []=>by simp [C0]
 | k :: ks=>by
  rw [Aq,C0]
  have:=zdd ks
  have e:(kindD k).depth=2:=by simp [kindD,Dm,C0,zdL]
  omega
theorem kinds_shaped {ks:List (Str×List Int)} (h:∀ k∈ks,isName k.1=true):Do (kindsD ks)=true:=by
 unfold Do kindsD
 rw [D4,zeB h,F8,Dm]
 have:=zdd ks
 exact decide_eq_true (by omega)
theorem nil_shaped:Do (.list [])=true:=by simp [Do,D4,Ba,Dm,C0]
theorem kinds_nil (ks:List (Str×List Int)):D0 (kindsD ks) (.list [])=ks.isEmpty:=by
 cases ks with
 | nil=>simp [kindsD,D0,Eb]
 | cons k ks=>simp [kindsD,D0,Eb]
noncomputable def errNames:List Str := [A0 "BadName",A0 "BadTeeth",A0 "NameTaken",A0 "BookFull",A0 "NoComb",A0 "BadTooth",A0 "ToothThere",A0 "FirstTooth",A0 "ToothMissing",A0 "DeedsFull",A0 "NothingDone",A0 "BadShape",A0 "BadPlace",A0 "BadLength",A0 "NoFilling"]
noncomputable def errName (j:Nat):Str:=errNames.getD j (A0 "")
noncomputable def valErr:List A2 := [.type "ValueError",.type "Exception",.type "BaseException",.type "object"]
noncomputable def clsChk (K:Am) (C:A3):Bool:=(G8 K C).isSome && O0 K (.ref C) == some (.type "type")
noncomputable def errChk1 (K:Am) (l:List A3) (ce:A3) (D:A3) (j:Nat):Bool :=
 (Ab 15).all (fun i=>Ej K D (.ref (l.getD i 0)) == some (i == j)) && (Ej K D (.ref ce) == some true &&
 (Bw K (.ref D) "__getattribute__" == some (some (.builtin "BaseException.__getattribute__")) && (Bw K (.ref D) "__getattr__" == some none &&
 (Bw K (.ref D) "__class__" == some (some (.builtin "object.__class__")) && (Ej K D (.type "object") == some true && (Ej K D (.type "BaseException") == some true && Hf K D valErr "ValueError.__new__"))))))
noncomputable def errChk (K:Am) (l:List A3) (ce:A3) (js:List Nat):Bool :=
 (Ab 15).all (fun i=>clsChk K (l.getD i 0)) && (clsChk K ce && (Ej K ce (.type "BaseException") == some true &&
 (Jq K (.builtin "object.__class__") "__get__" == some (some (.builtin "getset_descriptor.__get__")) && (Kd K (.builtin "object.__class__") == some true && js.all fun j=>errChk1 K l ce (l.getD j 0) j))))
structure KindF (K:Am) (ea:Nat->A3) (D:A3) (j:Nat):Prop where
 lt:j < 15
 cls:ErrCls K D
 kit:∀ i,i < 15->Fq K (.ref D) (.ref (ea i))=some (decide (i=j))
structure EJ (K:Am) (ea:Nat->A3) (ce:A2) (j:Nat):Prop where
 kf:KindF K ea (ea j) j
 ex:Is K (.ref (ea j)) ce=some true
 exc:Hf K (ea j) valErr "ValueError.__new__" = true
theorem zez {K:Am} {D C:A3} {b:Bool} (h:clsChk K C=true) (m:Ej K D (.ref C)=some b):O1 K (.ref D) (.ref C)=some b:=by
 unfold clsChk at h
 simp only [Bz,beq_iff_eq] at h
 unfold O1
 simp only [h.1,h.2]
 rw [if_pos (by decide)]
 exact m
theorem ej_of {K:Am} {l:List A3} {ce:A3} {js:List Nat} {j:Nat} (h:errChk K l ce js=true) (hj:j∈js) (hlt:j < 15):EJ K (fun i=>l.getD i 0) (.ref ce) j:=by
 unfold errChk at h
 simp only [Bz,beq_iff_eq,Cg,B5] at h
 obtain ⟨h1,h2,h3,h4,h5,h6⟩:=h
 have h7:=h6 j hj
 unfold errChk1 at h7
 simp only [Bz,beq_iff_eq,Cg,B5] at h7
 obtain ⟨g1,g2,g3,g4,g5,g6,g7,g8⟩:=h7
 have hc:(G8 K (l.getD j 0)).isSome=true:=by
  have:=h1 j hlt
  unfold clsChk at this
  simp only [Bz] at this
  exact this.1
 refine ⟨⟨hlt,⟨g3,g4,hc,g5,h4,h5,g6,g7⟩,fun i hi => ?_⟩,?_,g8⟩
 ·have m:=g1 i hi
  unfold Fq
  by_cases e:i=j
  ·subst e
   rw [if_pos (beq_self_eq_true _),decide_eq_true rfl]
  ·have ne:l.getD j 0≠l.getD i 0:=fun z=>by
    have m2:=g1 j hlt
    rw [<- z] at m
    rw [m] at m2
    simp [e] at m2
   rw [if_neg (fun z=>ne (Ni (beq_iff_eq.mp z))),decide_eq_false e]
   have e2:(i == j)=false:=beq_eq_false_iff_ne.mpr e
   rw [e2] at m
   exact zez (h1 i hi) m
 ·unfold Is
  rw [if_pos (by rw [show PySem.W.subIn K (.ref ce) (.type "BaseException")=some true from h3]; rfl)]
  exact zez h2 g2
theorem EJ.err {K:Am} {mg:Str->Option A2} {ea:Nat->A3} {ce:A2} {j:Nat} {x:Str} (e:EJ K ea ce j) (hm:mg x=some (.ref (ea j))):Err K mg x (ea j):=⟨hm,e.exc⟩
structure BookAt (K:Am) (C:A3):Prop where
 cls:Cls K C
 nc:NoAttr K C "combs"
 np:NoAttr K C "past"
noncomputable def bookChk (K:Am) (C:A3):Bool:=G3 K C S5 && (Gw K C && (Jr K C && (Bw K (.ref C) "__setattr__" == some (some (.builtin "object.__setattr__")) && (Bw K (.ref C) "combs" == some none && Bw K (.ref C) "past" == some none))))
theorem book_of {K:Am} {C:A3} (h:bookChk K C=true):BookAt K C:=by
 unfold bookChk at h
 simp only [Bz,beq_iff_eq] at h
 obtain ⟨h1,h2,h3,h4,h5,h6⟩:=h
 exact ⟨⟨h1,h2,h3,h4⟩,h5,h6⟩
theorem meth_mk {K:Am} {C:A3} {cn m:Str} {st:Cj} {f:A3} {oc:A2} {od an:Option A3} {osl:Array (Option A2)} {kV doc pm cdv ct:A2} (a:Bw K (.ref C) m=some (some (.ref f)))
  (l:K.lookup f=some ⟨oc,od,.func (Co m (cn ++ A0 "." ++ m) (defArgs st) (defBody st) (defScope st) .none kV doc pm an cdv ct),osl⟩) (c:Fb K cdv (cn ++ A0 "." ++ m)=true) (k:D8 K (.ref f)=true) (i:Hs K (.ref f)=true):MethAt K C cn m st :=
 ⟨f,_,zgr l c k,a,i,k⟩
structure InitAt (K:Am) (mg:Str->Option A2) (C:A3) (x qual:Str) (st:Cj):Prop where
 ex:∃ f fd,Mk K C f/\Fun K "__init__" qual st f fd
 m:mg x=some (.ref C)
theorem init_mk {K:Am} {mg:Str->Option A2} {C:A3} {x qual:Str} {st:Cj} {f:A3} {oc:A2} {od an:Option A3} {osl:Array (Option A2)} {kV doc pm cdv ct:A2} (hm:mg x=some (.ref C)) (a:Bw K (.ref C) "__init__" = some (some (.ref f)))
  (l:K.lookup f=some ⟨oc,od,.func (Co "__init__" qual (defArgs st) (defBody st) (defScope st) .none kV doc pm an cdv ct),osl⟩) (c:Fb K cdv qual=true) (k:D8 K (.ref f)=true) (i:Hs K (.ref f)=true) (k2:D8 K (.ref C)=true) (mk:Kf K C=true):InitAt K mg C x qual st :=
 ⟨⟨f,_,⟨mk,a,i,k2⟩,zgr l c k⟩,hm⟩
theorem ref_mk {K:Am} {mg:Str->Option A2} {h:Bx} {x:Str} {f:A3} (X:K.In h) (G:h.Ns mainGlobals mg) (a:C2 K mainGlobals x=some (some (.ref f))):mg x=some (.ref f):=L3 X G a
theorem at_last {α : Type} (l:List α) (a : α):atI (l ++ [a]) (-1)=some a:=by
 unfold atI ixN
 rw [if_neg (by decide),if_pos (by rw [Ag,Bd]; omega)]
 have e:((-1:Int) + (((l ++ [a]).length:Nat):Int)).toNat=l.length:=by rw [Ag,Bd]; omega
 rw [e]
 simp
section
variable {X:Cx}
end
section
variable {X:Cx} {T id:String} {name:Str} {r:V->List V->Hp->VK->Prop} {o e:Ce} {es:List Ce} {to:TE} {t:TA} {apos cpos:Pos}
end
noncomputable def pw (t:Int):Int:=2 ^ t.toNat
noncomputable def worth (ts:List Int):Int:=(ts.map pw).sum
noncomputable def aheadOf (n:Int):List Int:=((Ab 7).filter fun d=>n.toNat.testBit d).map fun i=>((i:Nat):Int)
noncomputable def meets (ah ts:List Int):Bool:=ts.any fun t=>decide (t∈ah)
noncomputable def afterOf (ah ts:List Int):List Int:=((canon (ah ++ ts)).filter fun d=>decide (0 < d)).map fun d=>d - 1
theorem zee:worth []=0:=rfl
theorem zaZ (t:Int) (ts:List Int):worth (t :: ts)=pw t + worth ts:=rfl
theorem zcC (a b:List Int):worth (a ++ b)=worth a + worth b:=by
 induction a with
 | nil=>simp [worth]
 | cons t a ih=>rw [Km,zaZ,zaZ,ih]; omega
theorem worth_perm {a b:List Int} (h:a.Perm b):worth a=worth b:=by
 induction h with
 | nil=>rfl
 | cons x _ ih=>rw [zaZ,zaZ,ih]
 | swap x y l=>simp only [zaZ]; omega
 | trans _ _ h1 h2=>exact h1.trans h2
theorem pw_pos (t:Int):0 < pw t:=by unfold pw; exact Int.pow_pos (by decide)
theorem zfb (ts:List Int):0<=worth ts:=by
 induction ts with
 | nil=>exact E2 _
 | cons t ts ih=>rw [zaZ]; have:=pw_pos t; omega
noncomputable def bitSum (f:Nat->Bool):Nat->Nat
 | 0=>0
 | k + 1=>2 ^ k * (if f k then 1 else 0) + bitSum f k
theorem zcb (f:Nat->Bool) (k:Nat):bitSum f (k + 1)=2 ^ k * (if f k then 1 else 0) + bitSum f k:=rfl
theorem zcp (f:Nat->Bool):∀ k,bitSum f k < 2 ^ k
 | 0=>P0
 | k + 1=>by
  have:=zcp f k
  rw [zcb]
  rw [Q9]
  cases f k
  ·simp; omega
  ·simp; omega
theorem zbK (f:Nat->Bool) (i:Nat):∀ k,(bitSum f k).testBit i=(decide (i < k) && f i)
 | 0=>by simp [bitSum]
 | k + 1=>by
  rw [zcb,Nat.testBit_two_pow_mul_add _ (zcp f k),zbK f i k]
  by_cases h:i < k
  ·rw [if_pos h,decide_eq_true h,decide_eq_true (show i < k + 1 by omega)]
  ·rw [if_neg h]
   by_cases e:i=k
   ·subst e
    rw [Fn,decide_eq_true (Ew i)]
    cases f i <;> rfl
   ·rw [decide_eq_false (show ¬ i < k + 1 by omega),Fj]
    cases f k
    ·exact Gf _
    ·show (1:Nat).testBit (i - k)=false
     rw [Ob]
     exact fun z=>absurd (Nat.testBit_one_eq_true_iff_self_eq_zero.mp z) (by omega)
theorem zbX (f:Nat->Bool):∀ k,worth (((Ab k).filter f).map fun i=>((i:Nat):Int))=((bitSum f k:Nat):Int)
 | 0=>rfl
 | k + 1=>by
  rw [E6,Db,Bs,zcC,zbX f k,zcb]
  cases h:f k
  ·simp [h,worth]
  ·simp only [h,Cy,F6,if_true,Aq,Gq,zaZ,zee]
   unfold pw
   rw [Dk]
   push_cast
   omega
theorem zdj {f:Nat->Bool} {k:Nat} (i:Nat):(worth (((Ab k).filter f).map fun i=>((i:Nat):Int))).toNat.testBit i=(decide (i < k) && f i):=by
 rw [zbX,Dk,zbK]
theorem ahead_worth (f:Nat->Bool):aheadOf (worth (((Ab 7).filter f).map fun i=>((i:Nat):Int)))=((Ab 7).filter f).map fun i=>((i:Nat):Int):=by
 unfold aheadOf
 congr 1
 refine O7 fun i hi => ?_
 rw [zdj,decide_eq_true (B5.mp hi),F8]
theorem zbg {n:Int} (h0:0<=n) (h1:n < 128):worth (aheadOf n)=n:=by
 unfold aheadOf
 rw [zbX]
 have:bitSum (fun d=>n.toNat.testBit d) 7=n.toNat:=by
  refine Ji fun i => ?_
  rw [zbK]
  by_cases h:i < 7
  ·rw [decide_eq_true h,F8]
  ·rw [decide_eq_false h,Fj]
   symm
   refine Iu (Ae (show n.toNat < 2 ^ 7 by omega) (Jg (by decide) (by omega)))
 rw [this]
 omega
theorem mem_ahead {n t:Int}:t∈aheadOf n ↔ 0<=t/\t<=6/\n.toNat.testBit t.toNat=true:=by
 unfold aheadOf
 simp only [Ah,B9,B5]
 constructor
 ·rintro ⟨i,⟨hi,hb⟩,rfl⟩
  exact ⟨by omega,by omega,by simpa using hb⟩
 ·rintro ⟨h0,h6,hb⟩
  exact ⟨t.toNat,⟨by omega,hb⟩,by omega⟩
theorem meets_false {ah ts:List Int}:meets ah ts=false ↔ ∀ t∈ts,t ∉ ah:=by
 unfold meets
 simp [O8]
theorem zeT {n:Int} {ts:List Int} (h0:0<=n) (h1:n < 128) (g:GT ts):Dx n (worth ts)=0 ↔ meets (aheadOf n) ts=false:=by
 have hb:Dx n (worth ts)=((n.toNat &&& (worth ts).toNat:Nat):Int):=by
  unfold Dx
  rw [decide_eq_true h0,decide_eq_true (zfb ts)]
 rw [hb,meets_false]
 obtain ⟨f,rfl,_⟩:=g
 constructor
 ·intro h t ht ha
  obtain ⟨t0,t6,tb⟩:=mem_ahead.mp ha
  obtain ⟨i,hi,rfl⟩:=Ah.mp ht
  obtain ⟨hr,hf⟩:=B9.mp hi
  have z:(n.toNat &&& (worth (((Ab 8).filter f).map fun i=>((i:Nat):Int))).toNat)=0:=by omega
  have z:=congrArg (fun m=>m.testBit i) z
  simp only [P1,zdj,Gf] at z
  rw [Dk] at tb
  rw [tb,hf,decide_eq_true (B5.mp hr)] at z
  exact absurd z (by decide)
 ·intro h
  have z:(n.toNat &&& (worth (((Ab 8).filter f).map fun i=>((i:Nat):Int))).toNat)=0:=by
   refine Ji fun i => ?_
   rw [P1,zdj,Gf]
   cases e:n.toNat.testBit i with
   | false=>rfl
   | true =>
    have hi:i < 7:=by
     apply De
     intro hn
     have:=Iu (Ae (show n.toNat < 2 ^ 7 by omega) (Jg (by decide) (show 7<=i by omega)))
     rw [this] at e
     exact absurd e (by decide)
    cases ef:f i with
    | false=>simp
    | true =>
     exfalso
     refine h (i:Int) (Ah.mpr ⟨i,B9.mpr ⟨B5.mpr (by omega),ef⟩,rfl⟩) (mem_ahead.mpr ⟨by omega,by omega,?_⟩)
     rwa [Dk]
  omega
theorem worth_half (l:List Int) (h:∀ t∈l,0<=t):worth l=2 * worth ((l.filter fun d=>decide (0 < d)).map fun d=>d - 1) + ((l.count 0:Nat):Int):=by
 induction l with
 | nil=>rfl
 | cons t l ih =>
  have ih:=ih fun x hx=>h x (Ac _ hx)
  have t0:=h t Ai
  rw [zaZ,Cy,List.count_cons]
  by_cases e:t=0
  ·subst e
   rw [ih]
   simp [pw]
   omega
  ·have hp:0 < t:=by omega
   have:pw t=2 * pw (t - 1):=by
    unfold pw
    rw [show t.toNat=(t - 1).toNat + 1 by omega,Int.pow_succ]
    omega
   rw [if_pos (decide_eq_true hp),Aq,zaZ,this,ih]
   rw [if_neg (by simpa using e)]
   omega
theorem zfL {ah ts:List Int}:∀ d∈afterOf ah ts,0<=d/\d<=6:=by
 intro d hd
 obtain ⟨x,hx,rfl⟩:=Ah.mp hd
 obtain ⟨hc,hp⟩:=B9.mp hx
 have:=(mem_canon.mp hc).2
 have:=of_decide_eq_true hp
 omega
theorem zcU (ah ts:List Int):(afterOf ah ts).Pairwise (· < ·):=by
 unfold afterOf
 rw [Cb]
 exact ((zea (ah ++ ts)).sublist Di).imp fun h=>by omega
theorem zcc (n:Int):(aheadOf n).Nodup:=by
 refine zba ?_
 unfold aheadOf
 rw [Cb]
 refine Bi Di (Et ?_ (Dt (n:=7)))
 intro a b h
 omega
theorem zdn {ah ts:List Int} (ha:ah.Nodup) (hr:∀ t∈ah,0<=t/\t<=6) (ht:ts.Nodup) (hr':∀ t∈ts,0<=t/\t<=7) (hm:meets ah ts=false):worth (afterOf ah ts)=(worth ah + worth ts) / 2:=by
 have hn:(ah ++ ts).Nodup:=E3.mpr ⟨ha,ht,fun a h1 b h2 e=>meets_false.mp hm b h2 (e ▸ h1)⟩
 have hp:(canon (ah ++ ts)).Perm (ah ++ ts):=by
  rw [Eh (zca _) hn]
  intro t
  rw [mem_canon]
  refine ⟨fun h=>h.1,fun h=>⟨h,?_⟩⟩
  rcases Al.mp h with z | z
  ·have:=hr t z; omega
  ·exact hr' t z
 have hw:=worth_half (canon (ah ++ ts)) fun t h=>(mem_canon.mp h).2.1
 rw [worth_perm hp,zcC] at hw
 have hc:=List.nodup_iff_count.mp (zca (ah ++ ts)) 0
 unfold afterOf
 omega
theorem zbA {n:Int}:∀ t∈aheadOf n,0<=t/\t<=6:=fun t h=>⟨(mem_ahead.mp h).1,(mem_ahead.mp h).2.1⟩
theorem zdp {n:Int} (h0:0<=n):(0:Int)∈aheadOf n ↔ n % 2=1:=by
 rw [mem_ahead]
 have:n.toNat.testBit 0=decide (n.toNat % 2=1):=Nat.testBit_zero _
 rw [show (0:Int).toNat=0 from rfl,this,decide_eq_true_eq]
 omega
noncomputable def stepsOf (cs:Combs) (n:Int):List (Str×Int):=if n % 2=1 then [("",n / 2)] else (cs.filter fun c=>decide (Builtin.bitAnd n (worth c.2)=0)).map fun c=>(c.1,(n + worth c.2) / 2)
noncomputable def goesOf (cs:Combs) (ah:List Int):List (Str×List Int):=if (0:Int)∈ah then [("",afterOf ah [])] else (cs.filter fun c => !meets ah c.2).map fun c=>(c.1,afterOf ah c.2)
theorem zdu {cs:Combs} {n:Int} (h0:0<=n) (h1:n < 128) (g:∀ c∈cs,GT c.2):(goesOf cs (aheadOf n)).map (fun p=>(p.1,worth p.2))=stepsOf cs n:=by
 unfold goesOf stepsOf
 by_cases e:n % 2=1
 ·rw [if_pos e,if_pos ((zdp h0).mpr e),Aq,Gq,zdn (zcc n) zbA Du (by simp) (by rfl),zbg h0 h1,zee,Int.add_zero]
 ·rw [if_neg e,if_neg fun z=>e ((zdp h0).mp z),Bp]
  have hf:(cs.filter fun c => !meets (aheadOf n) c.2)=cs.filter fun c=>decide (Dx n (worth c.2)=0):=by
   refine O7 fun c hc => ?_
   rw [Bq,decide_eq_true_eq,zeT h0 h1 (g c hc),Fy]
  rw [hf]
  refine Ck fun c hc => ?_
  obtain ⟨hc,hz⟩:=B9.mp hc
  have gc:=g c hc
  show (c.1,worth (afterOf (aheadOf n) c.2))=_
  rw [zdn (zcc n) zbA (zba (zfN gc)) (zcK gc) ((zeT h0 h1 gc).mp (of_decide_eq_true hz)),zbg h0 h1]
theorem steps_lt {cs:Combs} {n:Int} (h0:0<=n) (h1:n < 128) (g:∀ c∈cs,GT c.2):∀ p∈stepsOf cs n,0<=p.2/\p.2 < 128:=by
 rw [<- zdu h0 h1 g]
 intro p hp
 obtain ⟨q,hq,rfl⟩:=Ah.mp hp
 have:∃ a b,q.2=afterOf a b:=by
  unfold goesOf at hq
  split at hq
  ·rw [A7.mp hq]; exact ⟨_,_,rfl⟩
  ·obtain ⟨c,_,rfl⟩:=Ah.mp hq; exact ⟨_,_,rfl⟩
 obtain ⟨a,b,e⟩:=this
 show 0<=worth q.2/\worth q.2 < 128
 rw [e]
 refine ⟨zfb _,?_⟩
 have hs:afterOf a b=((Ab 7).filter fun i=>decide (((i:Nat):Int)∈afterOf a b)).map fun i=>((i:Nat):Int):=by
  refine zb6 ?_ ((zcU a b).imp fun h=>by omega) ?_
  ·rw [Eh (zba (zcU a b))]
   ·intro t
    simp only [Ah,B9,B5,decide_eq_true_eq]
    constructor
    ·intro h
     have:=zfL t h
     exact ⟨t.toNat,⟨by omega,by rwa [show ((t.toNat:Nat):Int)=t by omega]⟩,by omega⟩
    ·rintro ⟨i,⟨_,h⟩,rfl⟩
     exact h
   ·refine zba ?_
    rw [Cb]
    refine Bi Di (Et ?_ (Dt (n:=7)))
    intro a b h
    omega
  ·rw [Cb]
   refine Bi Di (Et ?_ (Dt (n:=7)))
   intro a b h
   omega
 rw [hs,zbX]
 have:=zcp (fun i=>decide (((i:Nat):Int)∈afterOf a b)) 7
 omega
noncomputable def StepsR (H:Hp):List V->List (Str×Int)->Prop
 | [],[]=>True
 | v :: vs,s :: ss=>(∃ q,v = .ref q/\H q=some (.tup [.str s.1,.int s.2]))/\StepsR H vs ss
 | _,_=>False
theorem StepsR.mono {H H':Hp} (m:∀ q xs,H q=some (.tup xs)->H' q=some (.tup xs)):∀ {vs:List V} {ss:List (Str×Int)},StepsR H vs ss->StepsR H' vs ss
 | [],[],_=>trivial
 | _ :: _,_ :: _,⟨⟨q,e,h⟩,r⟩=>⟨⟨q,e,m q _ h⟩,r.mono m⟩
 | [],_ :: _,x=>x.elim
 | _ :: _,[],x=>x.elim
theorem StepsR.length {H:Hp}:∀ {vs:List V} {ss:List (Str×Int)},StepsR H vs ss->vs.length=ss.length
 | [],[],_=>rfl
 | _ :: _,_ :: _,⟨_,r⟩=>by rw [Aw,Aw,r.length]
 | [],_ :: _,x=>x.elim
 | _ :: _,[],x=>x.elim
theorem StepsR.snoc {H:Hp} {q:A3} {s:Str×Int} (hq:H q=some (.tup [.str s.1,.int s.2])):∀ {vs:List V} {ss:List (Str×Int)},StepsR H vs ss->StepsR H (vs ++ [.ref q]) (ss ++ [s])
 | [],[],_=>⟨⟨q,rfl,hq⟩,trivial⟩
 | _ :: _,_ :: _,⟨a,r⟩=>⟨a,r.snoc hq⟩
 | [],_ :: _,x=>x.elim
 | _ :: _,[],x=>x.elim
theorem StepsR.get {H:Hp} {i:Nat} {s:Str×Int}:∀ {vs:List V} {ss:List (Str×Int)},StepsR H vs ss->ss[i]?=some s->∃ q,vs[i]?=some (.ref q)/\H q=some (.tup [.str s.1,.int s.2]):=by
 induction i with
 | zero =>
  intro vs ss r e
  match vs,ss,r with
  | [],[],_=>simp at e
  | v :: _,x :: _,⟨⟨q,ev,h⟩,_⟩ =>
   simp at e
   subst e
   exact ⟨q,by rw [ev]; rfl,h⟩
 | succ i ih =>
  intro vs ss r e
  match vs,ss,r with
  | [],[],_=>simp at e
  | v :: vs,x :: ss,⟨_,r⟩ =>
   obtain ⟨q,e1,e2⟩:=ih r (by simpa using e)
   exact ⟨q,by simpa using e1,e2⟩
noncomputable def byNames (cs:Combs) (nm:List Str):Combs:=nm.map fun x=>(x,(cGet cs x).getD [])
theorem byNames_snoc {cs:Combs} {nm:List Str} {x:Str} {ts:List Int} (h:cGet cs x=some ts):byNames cs (nm ++ [x])=byNames cs nm ++ [(x,ts)]:=by
 unfold byNames
 rw [Bs,Aq,Gq,h]
 rfl
theorem zdt {cs:Combs} {c:Str×List Int} {n:Int} (h:¬ n % 2=1):stepsOf (cs ++ [c]) n=stepsOf cs n ++ if Builtin.bitAnd n (worth c.2)=0 then [(c.1,(n + worth c.2) / 2)] else []:=by
 unfold stepsOf
 rw [if_neg h,if_neg h,Db,Bs]
 congr 1
 by_cases e:Dx n (worth c.2)=0
 ·rw [if_pos e,Cy,if_pos (decide_eq_true e)]
  rfl
 ·rw [if_neg e,Cy,if_neg (by simpa using e)]
  rfl
theorem steps_nil {n:Int} (h:¬ n % 2=1):stepsOf [] n = []:=by
 unfold stepsOf
 rw [if_neg h]
 rfl
theorem zek {cs:Combs} {n:Int} (h:n % 2=1):stepsOf cs n = [((Str.ofString "" : Str),n / 2)]:=by
 unfold stepsOf
 exact if_pos h
theorem steps_len {cs:Combs} {n:Int} (h:¬ n % 2=1):(stepsOf cs n).length<=cs.length:=by
 unfold stepsOf
 rw [if_neg h,A5]
 exact D6 _ _
theorem zgq (t:Int) (ts:List Int):inV (V.int t) (ts.map V.int)=decide (t∈ts):=by
 unfold inV
 rw [K8,Bq,Bv,decide_eq_true_eq]
 constructor
 ·rintro ⟨x,hx,e⟩
  have:x=t:=by
   have e':(x == t)=true:=e
   exact eq_of_beq e'
  rw [<- this]; exact hx
 ·intro h
  exact ⟨t,h,beq_self_eq_true t⟩
theorem after_canon {ah ts ns:List Int} (ha:ah.Nodup) (hr:∀ t∈ah,0<=t/\t<=6) (ht:ts.Nodup) (hr':∀ t∈ts,0<=t/\t<=7) (hm:meets ah ts=false) (hp:ns.Perm (ah ++ ts)) (hs:ns.Pairwise (· <= ·)):ns=canon (ah ++ ts):=by
 refine zd9 hp hs (E3.mpr ⟨ha,ht,fun a h1 b h2 e=>meets_false.mp hm b h2 (e ▸ h1)⟩) fun t h => ?_
 rcases Al.mp h with z | z
 ·have:=hr t z; omega
 ·exact hr' t z
noncomputable def GoesR (H:Hp):List V->List (Str×List Int)->Prop
 | [],[]=>True
 | v :: vs,s :: ss=>(∃ q t,v = .ref q/\H q=some (.tup [.str s.1,.ref t])/\H t=some (.tup (s.2.map V.int)))/\GoesR H vs ss
 | _,_=>False
theorem GoesR.mono {H H':Hp} (m:∀ q xs,H q=some (.tup xs)->H' q=some (.tup xs)):∀ {vs:List V} {ss:List (Str×List Int)},GoesR H vs ss->GoesR H' vs ss
 | [],[],_=>trivial
 | _ :: _,_ :: _,⟨⟨q,t,e,h,h2⟩,r⟩=>⟨⟨q,t,e,m q _ h,m t _ h2⟩,r.mono m⟩
 | [],_ :: _,x=>x.elim
 | _ :: _,[],x=>x.elim
theorem GoesR.length {H:Hp}:∀ {vs:List V} {ss:List (Str×List Int)},GoesR H vs ss->vs.length=ss.length
 | [],[],_=>rfl
 | _ :: _,_ :: _,⟨_,r⟩=>by rw [Aw,Aw,r.length]
 | [],_ :: _,x=>x.elim
 | _ :: _,[],x=>x.elim
theorem GoesR.snoc {H:Hp} {q t:A3} {s:Str×List Int} (hq:H q=some (.tup [.str s.1,.ref t])) (ht:H t=some (.tup (s.2.map V.int))):∀ {vs:List V} {ss:List (Str×List Int)},GoesR H vs ss->GoesR H (vs ++ [.ref q]) (ss ++ [s])
 | [],[],_=>⟨⟨q,t,rfl,hq,ht⟩,trivial⟩
 | _ :: _,_ :: _,⟨a,r⟩=>⟨a,r.snoc hq ht⟩
 | [],_ :: _,x=>x.elim
 | _ :: _,[],x=>x.elim
theorem GoesR.get {H:Hp} {i:Nat} {s:Str×List Int}:∀ {vs:List V} {ss:List (Str×List Int)},GoesR H vs ss->ss[i]?=some s->∃ q t,vs[i]?=some (.ref q)/\H q=some (.tup [.str s.1,.ref t])/\H t=some (.tup (s.2.map V.int)):=by
 induction i with
 | zero =>
  intro vs ss r e
  match vs,ss,r with
  | [],[],_=>simp at e
  | v :: _,x :: _,⟨⟨q,t,ev,h,h2⟩,_⟩ =>
   simp at e
   subst e
   exact ⟨q,t,by rw [ev]; rfl,h,h2⟩
 | succ i ih =>
  intro vs ss r e
  match vs,ss,r with
  | [],[],_=>simp at e
  | v :: vs,x :: ss,⟨_,r⟩ =>
   obtain ⟨q,t,e1,e2⟩:=ih r (by simpa using e)
   exact ⟨q,t,by simpa using e1,e2⟩
theorem goes_in {cs:Combs} {ah:List Int} (h:(0:Int)∈ah):goesOf cs ah = [((A0 "" : Str),afterOf ah [])]:=by
 unfold goesOf
 exact if_pos h
theorem goes_nil {ah:List Int} (h:(0:Int) ∉ ah):goesOf [] ah = []:=by
 unfold goesOf
 rw [if_neg h]
 rfl
theorem zeF {cs:Combs} {c:Str×List Int} {ah:List Int} (h:(0:Int) ∉ ah):goesOf (cs ++ [c]) ah=goesOf cs ah ++ if meets ah c.2=true then [] else [(c.1,afterOf ah c.2)]:=by
 unfold goesOf
 rw [if_neg h,if_neg h,Db,Bs]
 congr 1
 by_cases e:meets ah c.2=true
 ·rw [if_pos e,Cy,if_neg (by rw [e]; decide)]
  rfl
 ·rw [if_neg e,Cy,if_pos (by simpa using e)]
  rfl
end L2
namespace L2
open PySem PySem.Spec PyProof.Rows PySem.W
structure LtOk (n:Nat) (lt:Nat->Nat->Bool):Prop where
 tr:∀ {a b c},lt a b=true->lt b c=true->lt a c=true
 tot:∀ {a b},a < n->b < n->a≠b->lt a b=false->lt b a=true
 irr:∀ a,lt a a=false
noncomputable abbrev gd (p:Array Nat) (i:Nat):Nat:=p.getD i 0
noncomputable def Pm (n:Nat) (p:Array Nat):Prop:=p.Perm (Ik (Ab n))
theorem Pm.size {n:Nat} {p:Array Nat} (h:Pm n p):p.size=n:=by
 have:=Sn h
 simpa using this
theorem Pm.list {n:Nat} {p:Array Nat} (h:Pm n p):p.toList.Perm (Ab n):=by
 have:=Sm h
 simpa using this
theorem ze3 {p:Array Nat} {i:Nat} (h:i < p.size):p[i]?=some (gd p i):=by simp [gd,h]
theorem zgM {p:Array Nat} {i x:Nat} (h:p[i]?=some x):gd p i=x:=by simp [gd,Array.getD_eq_getD_getElem?,h]
theorem Pm.lt {n:Nat} {p:Array Nat} (h:Pm n p) {i:Nat} (hi:i < n):gd p i < n:=by
 have e:=ze3 (p:=p) (i:=i) (by rw [h.size]; exact hi)
 have:gd p i∈p.toList:=by
  rw [<- Ci] at e
  exact B0 e
 exact B5.mp (h.list.mem_iff.mp this)
theorem Pm.ne {n:Nat} {p:Array Nat} (h:Pm n p) {i j:Nat} (hi:i < n) (hj:j < n) (hn:i≠j):gd p i≠gd p j:=by
 intro e
 have nd:p.toList.Nodup:=h.list.nodup_iff.mpr Oh
 have e1:=ze3 (p:=p) (i:=i) (by rw [h.size]; exact hi)
 have e2:=ze3 (p:=p) (i:=j) (by rw [h.size]; exact hj)
 rw [<- Ci] at e1 e2
 rw [<- e,<- e1] at e2
 exact hn ((K7 (by rw [At,h.size]; exact hi) nd).mp e2.symm)
section
variable {n:Nat} {lt:Nat->Nat->Bool} {cmp:Nat->Nat->(Bool->A4->Prop)->A4->Prop} {s:A4}
noncomputable def Up (lt:Nat->Nat->Bool) (p:Array Nat) (m:Nat):Prop:=∀ i j,i < j->j < m->lt (gd p i) (gd p j)=true
noncomputable def Dn (lt:Nat->Nat->Bool) (p:Array Nat) (m:Nat):Prop:=∀ i j,i < j->j < m->lt (gd p j) (gd p i)=true
theorem Up.more (L:LtOk n lt) {p:Array Nat} {m:Nat} (u:Up lt p m) (h:lt (gd p (m - 1)) (gd p m)=true):Up lt p (m + 1):=by
 intro i j hij hj
 by_cases e:j=m
 ·subst e
  by_cases e2:i=j - 1
  ·rw [e2]; exact h
  ·exact L.tr (u i (j - 1) (by omega) (by omega)) h
 ·exact u i j hij (by omega)
theorem Dn.more (L:LtOk n lt) {p:Array Nat} {m:Nat} (u:Dn lt p m) (h:lt (gd p m) (gd p (m - 1))=true):Dn lt p (m + 1):=by
 intro i j hij hj
 by_cases e:j=m
 ·subst e
  by_cases e2:i=j - 1
  ·rw [e2]; exact h
  ·exact L.tr h (u i (j - 1) (by omega) (by omega))
 ·exact u i j hij (by omega)
variable (L:LtOk n lt) (hc:∀ i j C,i < n->j < n->i≠j->C (lt i j) s->cmp i j C s)
include L hc
theorem zgH {p:Array Nat} (pm:Pm n p) {Q:Nat->A4->Prop}:∀ f m,1<=m->m + f=n->Up lt p m->(∀ m',m<=m'->m'<=n->Up lt p m'->(m'=n\/lt (gd p m') (gd p (m' - 1))=true)->Q m' s)->(kas_asc p f m).kasWp cmp Q s
 | 0,m,h1,hf,u,q=>q m (Aa _) (by omega) u (.inl (by omega))
 | f + 1,m,h1,hf,u,q=>by
  refine hc _ _ _ (pm.lt (by omega)) (pm.lt (by omega)) (pm.ne (by omega) (by omega) (by omega)) ?_
  cases e:lt (gd p m) (gd p (m - 1)) with
  | true=>exact q m (Aa _) (by omega) u (.inr e)
  | false=>exact zgH pm f (m + 1) (by omega) (by omega) (u.more L (L.tot (pm.lt (by omega)) (pm.lt (by omega)) (pm.ne (by omega) (by omega) (by omega)) e)) fun m' a b c d=>q m' (by omega) b c d
theorem zgy {p:Array Nat} (pm:Pm n p) {Q:Array Nat×Nat×Nat->A4->Prop}:∀ f m,1<=m->m + f=n->Dn lt p m->(∀ m',m<=m'->m'<=n->Dn lt p m'->Q (p,m',0) s)->(kas_desc f p m 0).kasWp cmp Q s
 | 0,m,h1,hf,u,q=>q m (Aa _) (by omega) u
 | f + 1,m,h1,hf,u,q=>by
  refine hc _ _ _ (pm.lt (by omega)) (pm.lt (by omega)) (pm.ne (by omega) (by omega) (by omega)) ?_
  cases e:lt (gd p m) (gd p (m - 1)) with
  | true=>exact zgy pm f (m + 1) (by omega) (by omega) (u.more L e) fun m' a b c=>q m' (by omega) b c
  | false =>
   refine hc _ _ _ (pm.lt (by omega)) (pm.lt (by omega)) (pm.ne (by omega) (by omega) (by omega)) ?_
   rw [show lt (p.getD (m - 1) 0) (p.getD m 0)=true from L.tot (pm.lt (by omega)) (pm.lt (by omega)) (pm.ne (by omega) (by omega) (by omega)) e]
   exact q m (Aa _) (by omega) u
omit hc L in
theorem Dn.rev {p:Array Nat} (pm:Pm n p) {m:Nat} (hm:m<=n) (u:Dn lt p m):Up lt (kas_rev p 0 m) m:=by
 have g:∀ i,i < m->gd (kas_rev p 0 m) i=gd p (m - 1 - i):=fun i hi=>by
  refine zgM ?_
  unfold kas_rev
  rw [Kb (by rw [pm.size]; exact hm),if_pos ⟨by omega,hi⟩,show 0 + m - 1 - i=m - 1 - i by omega]
  exact ze3 (by rw [pm.size]; omega)
 intro i j hij hj
 rw [g i (by omega),g j hj]
 exact u _ _ (by omega) (by omega)
omit hc L in
theorem Pm.rev {p:Array Nat} (pm:Pm n p) (i j:Nat):Pm n (kas_rev p i j):=Mj (mirror_perm _ _ _ _) pm
theorem count_ok {p:Array Nat} (pm:Pm n p) (hn:1<=n) {Q:Nat×Array Nat->A4->Prop} (q:∀ m p',1<=m->m<=n->Pm n p'->Up lt p' m->Q (m,p') s):(kas_count n p).kasWp cmp Q s:=by
 unfold kas_count
 rw [KasT.kasWp_bind]
 refine zgH L hc pm (n - 1) 1 (Aa _) (by omega) (fun i j a b=>by omega) fun m h1 h2 u h => ?_
 by_cases e:m=n
 ·rw [if_pos (by simpa using e)]
  exact q m p h1 h2 pm u
 ·rw [if_neg (by simpa using e)]
  rcases h with h | h
  ·exact absurd h e
  by_cases e2:m > 1
  ·rw [if_pos e2]
   refine hc _ _ _ (pm.lt (by omega)) (pm.lt (by omega)) (pm.ne (by omega) (by omega) (by omega)) ?_
   rw [show lt (p.getD 0 0) (p.getD (m - 1) 0)=true from u 0 (m - 1) (by omega) (by omega)]
   exact q m p h1 h2 pm u
  ·rw [if_neg e2]
   have e3:m=1:=by omega
   subst e3
   unfold kas_descPart
   rw [KasT.kasWp_bind]
   refine zgy L hc pm (n - (1 + 1)) (1 + 1) (by omega) (by omega) (fun i j a b=>by
    obtain ⟨rfl,rfl⟩:i=0/\j=1:=by omega
    exact h) fun m' a b d => ?_
   show (kas_tail3 m' n p).kasWp cmp Q s
   unfold kas_tail3
   rw [KasT.kasWp_bind]
   refine zgH L hc (pm.rev 0 m') (n - m') m' (by omega) (by omega) (d.rev pm b) fun m2 a2 b2 u2 _ => ?_
   exact q m2 _ (by omega) b2 (pm.rev 0 m') u2
theorem zdY {p:Array Nat} (pm:Pm n p) {k:Nat} (hk:k < n) (u:Up lt p k) {Q:Nat->A4->Prop} (q:∀ l,l<=k->(∀ i,i < l->lt (gd p i) (gd p k)=true)->(∀ i,l<=i->i < k->lt (gd p k) (gd p i)=true)->Q l s) :
  ∀ f l r,l<=r->r<=k->r - l<=f->(∀ i,i < l->lt (gd p i) (gd p k)=true)->(∀ i,r<=i->i < k->lt (gd p k) (gd p i)=true)->(kas_place p k f l r).kasWp cmp Q s
 | 0,l,r,h1,h2,h3,a,b=>q l (by omega) a fun i x y=>b i (by omega) y
 | f + 1,l,r,h1,h2,h3,a,b=>by
  unfold kas_place
  by_cases e:l>=r
  ·rw [if_pos e]
   exact q l (by omega) a fun i x y=>b i (by omega) y
  ·rw [if_neg e]
   refine hc _ _ _ (pm.lt hk) (pm.lt (by omega)) (pm.ne hk (by omega) (by omega)) ?_
   cases e2:lt (gd p k) (gd p ((l + r) / 2)) with
   | true =>
    refine zdY pm hk u q f l ((l + r) / 2) (by omega) (by omega) (by omega) a fun i x y => ?_
    by_cases e3:i=(l + r) / 2
    ·rw [e3]; exact e2
    ·exact L.tr e2 (u _ _ (by omega) y)
   | false =>
    have e4:=L.tot (pm.lt hk) (pm.lt (by omega)) (pm.ne hk (by omega) (by omega)) e2
    refine zdY pm hk u q f ((l + r) / 2 + 1) r (by omega) (by omega) (by omega) (fun i x => ?_) b
    by_cases e3:i=(l + r) / 2
    ·rw [e3]; exact e4
    ·exact L.tr (u i ((l + r) / 2) (by omega) (by omega)) e4
omit hc L in
theorem Up.bubble {p:Array Nat} (pm:Pm n p) {k l:Nat} (hk:k < n) (hl:l<=k) (u:Up lt p k) (a:∀ i,i < l->lt (gd p i) (gd p k)=true) (b:∀ i,l<=i->i < k->lt (gd p k) (gd p i)=true):Up lt (Hw p k (k - l)) (k + 1):=by
 have g:∀ i,i<=k->gd (Hw p k (k - l)) i=if i=l then gd p k else if l < i then gd p (i - 1) else gd p i:=fun i hi=>by
  refine zgM ?_
  rw [Lz (by rw [pm.size]; exact hk) _ (by omega),show k - (k - l)=l by omega]
  by_cases e:i=l
  ·rw [if_pos e,if_pos e]; exact ze3 (by rw [pm.size]; exact hk)
  ·rw [if_neg e,if_neg e]
   by_cases e2:l < i
   ·rw [if_pos ⟨e2,hi⟩,if_pos e2]; exact ze3 (by rw [pm.size]; omega)
   ·rw [if_neg (fun z=>e2 z.1),if_neg e2]; exact ze3 (by rw [pm.size]; omega)
 intro i j hij hj
 rw [g i (by omega),g j (by omega)]
 by_cases e1:i=l
 ·rw [if_pos e1,if_neg (by omega),if_pos (by omega)]
  exact b _ (by omega) (by omega)
 ·rw [if_neg e1]
  by_cases e2:l < i
  ·rw [if_pos e2,if_neg (by omega),if_pos (by omega)]
   exact u _ _ (by omega) (by omega)
  ·rw [if_neg e2]
   by_cases e3:j=l
   ·rw [if_pos e3]; exact a i (by omega)
   ·rw [if_neg e3]
    by_cases e4:l < j
    ·rw [if_pos e4]
     exact u _ _ (by omega) (by omega)
    ·rw [if_neg e4]
     exact u _ _ hij (by omega)
theorem zg9 {Q:Array Nat->A4->Prop} (q:∀ p,Pm n p->Up lt p n->Q p s):∀ f p k,Pm n p->k + f=n->Up lt p k->(kas_bin f p k).kasWp cmp Q s
 | 0,p,k,pm,h,u=>q p pm (by rwa [show n=k by omega])
 | f + 1,p,k,pm,h,u=>by
  unfold kas_bin
  rw [KasT.kasWp_bind]
  refine zdY L hc pm (by omega) u (fun l hl a b => ?_) k 0 k (by omega) (by omega) (by omega) (fun i hi=>by omega) (fun i hi h2=>by omega)
  exact zg9 q f _ (k + 1) (Mj (bubble_perm _ _ _) pm) (by omega) (u.bubble pm (by omega) hl a b)
theorem sort_ok (hn:1<=n) {Q:Array Nat->A4->Prop} (q:∀ p,Pm n p->Up lt p n->Q p s):(kas_sort n).kasWp cmp Q s:=by
 unfold kas_sort
 rw [KasT.kasWp_bind]
 refine count_ok L hc (Gc _) hn fun m p h1 h2 pm u => ?_
 by_cases e:m < n
 ·rw [if_pos e]
  rw [show max m 1=m by omega]
  exact zg9 L hc q _ p m pm (by omega) u
 ·rw [if_neg e]
  exact q p pm (by rwa [show n=m by omega])
end
end L2
namespace L2
open PySem PySem.Spec PyProof.Rows PySem.W
open AutoSeq1 (wpAny_loadPart')
open MeetsSeq MeetsSeq2 MeetsSeq3
theorem lt_loop0 (l b:A3) (its its2:Array A2) (n n2:Nat) {x y:Str} {t u:Tok} (h0:its[0]?=some (.str x t)) (h1:its2[0]?=some (.str y u)) (hne:(x.cps.toList == y.cps.toList)=false) :
  Meets (F0.«list.__eq__.loop» ⟨[.ref l,.ref b,rawInt 0,rawInt 0],[]⟩)
   (fun _ R s=>s.heap.get? l=some { cls := .type "list",dict:=none,data := .seq its n,slots := #[] }/\s.heap.get? b=some { cls := .type "list",dict:=none,data := .seq its2 n2,slots := #[] } /\
    R (.ok (.ret (.bool (decide (x.cps.toList < y.cps.toList))))) s):=by
 intro prog w A R s h
 obtain ⟨hp,g,d,tk,os⟩:=s; obtain ⟨hl,hb,h⟩:=h
 wp_walk using Eo hl,Eo hb
 have e0:its[(0:Int).toNat]?=some (.str x t):=h0
 have e1:its2[(0:Int).toNat]?=some (.str y u):=h1
 rw [e0,e1]
 refine A1 (Os x y t u prog w _ _ _ _ ?_)
 rw [hne]
 wp_walk using Eo hl,Eo hb
 rw [e0,e1]
 refine A1 ?_
 show wpAny _ _ (compareOp .Lt (.str x t) (.str y u)) _ _ _
 refine PySem.P.lt_str ?_
 wp_walk
 exact h
theorem list_lt0 (l b:A3) (its its2:Array A2) (n n2:Nat) {x y:Str} {t u:Tok} (h0:its[0]?=some (.str x t)) (h1:its2[0]?=some (.str y u)) (hne:(x.cps.toList == y.cps.toList)=false) :
  Meets (F0.«list.__lt__» ⟨[.ref l,.ref b],[]⟩)
   (fun _ R s=>s.heap.get? l=some { cls := .type "list",dict:=none,data := .seq its n,slots := #[] }/\s.heap.get? b=some { cls := .type "list",dict:=none,data := .seq its2 n2,slots := #[] } /\
    R (.ok (.ret (.bool (decide (x.cps.toList < y.cps.toList))))) s):=by
 intro prog w A R s h
 obtain ⟨hp,g,d,tk,os⟩:=s; obtain ⟨hl,hb,h⟩:=h
 have f3:=AutoSeq1.sub_list_list
 wp_walk using Eo hl,Eo hb
 exact ⟨plainId_quiet plain_eq_loop _,Ql entry_eq_loop (by
  rw [Around.under_plainId plain_eq_loop _]
  exact lt_loop0 l b its its2 n n2 h0 h1 hne prog w A R _ ⟨hl,hb,h⟩)⟩
section
variable {prog:Ap} {w:Bb} {A:B7} {E:A2->A4->Prop} {s:A4}
theorem key_lt0 {a b:A3} {its its2:Array A2} {n n2:Nat} {x y:Str} {t u:Tok} {Q:Bool->A4->Prop} (ha:s.heap.get? a=some (seqObj "list" its n)) (hb:s.heap.get? b=some (seqObj "list" its2 n2)) (h0:its[0]?=some (.str x t)) (h1:its2[0]?=some (.str y u)) (hne:(x.cps.toList == y.cps.toList)=false)
  (hu:A.units < cLine) (q:Q (decide (x.cps.toList < y.cps.toList)) s):wpAny (model prog w) A (keyLt' oneType' (.ref a) (.ref b)) Q E s:=by
 rw [Rq,oneLt'_eq]
 simp only [if_true]
 refine A1 (Rn hu ?_)
 refine A1 (Lg (T := "list") ⟨_,ha,rfl⟩ Qc (Jd Qc ⟨_,ha,rfl⟩ F.entry_list_lt (F.args_list_lt_2 _ _) (list_lt0 a b its its2 n n2 h0 h1 hne) ⟨ha,hb,?_⟩))
 exact Cu q
theorem sort_by {lt:Nat->Nat->Bool} {a:A3} {vs:List A2} {n:Nat} {P:O2->A4->Prop} (ho:s.heap.get? a=some (seqObj "list" vs.toArray n)) (L:LtOk vs.length lt) (h64:vs.length < 64)
  (hT:∀ h':Bx,(∀ b o,b≠a->s.heap.get? b=some o->h'.get? b=some o)->∀ v∈vs,Looks (model prog w) h' (typeOf v) (.type "list"))
  (hc:∀ h':Bx,(∀ b o,b≠a->s.heap.get? b=some o->h'.get? b=some o)->∀ i j C,i < vs.length->j < vs.length->i≠j->C (lt i j) { s with heap:=h' }->wpAny (model prog w) A (keyLt' oneType' (vs.getD i Ct) (vs.getD j Ct)) C (fun _ _=>False) { s with heap:=h' })
  (q:∀ p:List Nat,p.Perm (Ab vs.length)->p.Pairwise (fun i j=>lt i j=true)->P (.done (.ret .none)) { s with heap:=sortedHeap s.heap a vs (Ik (p.map fun i=>vs.getD i Ct)) }) :
  wpAny (model prog w) A (F0.«list.sort» ⟨[.ref a],[]⟩) P E s:=by
 rw [Qj]; have hlt:=An ho
 obtain ⟨e1,o1⟩:∃ e,(s.heap.update a (D7 fun _=>(#[]:Array A2))).get? a=some (seqObj "list" #[] e):=⟨_,Qk ho fun _ => #[]⟩
 have hz:vs.toArray.size=vs.length:=Az
 have big:64<=sizeLine:=by decide
 refine A1 (Nw ho rfl (A1 (Gp ho rfl (A1 (Ij o1 rfl (A1 (Rl (A1 (Ip (D3 ?_) (By _))) (by show vs.length<=_; omega))))) (by rw [hz]; omega) (By _))))
 have o6:(((s.heap.update a (D7 fun _=>(#[]:Array A2))).push (seqObj "tuple" vs.toArray 0)).push (seqObj "list" #[] 0)).get? a=some (seqObj "list" #[] e1):=A8 _ (A8 _ o1)
 have keep:∀ b o,b≠a->s.heap.get? b=some o->(((s.heap.update a (D7 fun _=>(#[]:Array A2))).push (seqObj "tuple" vs.toArray 0)).push (seqObj "list" #[] 0)).get? b=some o:=fun b o hb e =>
  A8 _ (A8 _ (by rw [Jn _ _ _ _ hb]; exact e))
 show wpAny (model prog w) A _ P E { s with heap:=((s.heap.update a (D7 fun _=>(#[]:Array A2))).push (seqObj "tuple" vs.toArray 0)).push (seqObj "list" #[] 0) }; dsimp only
 by_cases h2:vs.toArray.size < 2
 ·rw [if_pos h2,if_pos h2]; refine A1 (Ad ?_)
  rw [Nz]; refine A1 (Ad ?_)
  have hsnd:(arrOf (Kt general' (vs.toArray.zip vs.toArray) #[] 7 none)).map (·.2)=Ik ((Ab vs.length).map fun i=>vs.getD i Ct):=by
   show (pairsOf vs).map (·.2)=_
   match vs,h2 with
   | [],_=>simp [pairsOf]
   | [v],_=>simp [pairsOf,E6]
   | _ :: _ :: _,h2=>simp at h2; omega
  dsimp only
  rw [hsnd]
  refine A1 (Ij o6 rfl (A1 (Gp o6 rfl ?_ (By _) (by rw [Az,A5,Ax]; omega))))
  simp only [bne_self_eq_false,Bm,if_false]
  refine Ad (q (Ab vs.length) (Ki _) ?_)
  match vs,h2 with
  | [],_=>exact Fo
  | [v],_=>exact M3 _ _
  | _ :: _ :: _,h2=>simp at h2; omega
 ·rw [if_neg h2,if_neg h2]
  refine A1 (kas_kind (T := .type "list") (by omega) (hT _ keep) (by decide) (by decide) ?_)
  have est:Kt oneType' (vs.toArray.zip vs.toArray) #[] 7 none=kas_st oneType' (pairsOf vs) (Ik (Ab vs.length)):=by
   have e:=kas_range (pairsOf vs)
   rw [Jb] at e
   unfold kas_st
   rw [e]; rfl
  have ask:(kas_sort vs.length).kasWp (kas_ask prog w A oneType' vs) (fun p s'=>s'={ s with heap:=((s.heap.update a (D7 fun _=>(#[]:Array A2))).push (seqObj "tuple" vs.toArray 0)).push (seqObj "list" #[] 0) }/\Pm vs.length p/\Up lt p vs.length) { s with heap:=((s.heap.update a (D7 fun _=>(#[]:Array A2))).push (seqObj "tuple" vs.toArray 0)).push (seqObj "list" #[] 0) } :=
   sort_ok L (hc _ keep) (by omega) fun p pm u=>⟨rfl,pm,u⟩
  rw [kas_ask_eq] at ask
  have run:=kas_runs (E:=E) (Q:=fun _ st' s'=>∃ p:Array Nat,arrOf st'=p.map (kas_item (pairsOf vs))/\failedOf st'=none/\s'={ s with heap:=((s.heap.update a (D7 fun _=>(#[]:Array A2))).push (seqObj "tuple" vs.toArray 0)).push (seqObj "list" #[] 0) }/\Pm vs.length p/\Up lt p vs.length) (by omega) h64 (fun p' st' s' _ a2 a3 a4=>⟨p',a2,a3,a4⟩) ask
  rw [<- est] at run
  refine A1 (Dg run ?_ fun _ _ e=>e)
  rintro ⟨⟨⟩,st'⟩ s' ⟨p,har,hf,rfl,pm,u⟩
  dsimp only
  have hout:(arrOf st').map (·.2)=Ik (p.toList.map fun i=>vs.getD i Ct):=by
   refine Kj.mp ?_
   rw [har,Array.map_map,Oc]
   refine Ck fun i _ => ?_
   show (kas_item (pairsOf vs) i).2=_
   rw [kas_item_eq]
  rw [hout]
  refine A1 (Ij o6 rfl (A1 (Gp o6 rfl ?_ (By _) (by rw [Az,A5,At,pm.size]; omega))))
  rw [hf]
  simp only [bne_self_eq_false,Bm,if_false]
  refine Ad (q p.toList pm.list ?_)
  rw [D1]
  intro i j hi hj hij
  have z:=pm.size
  rw [At] at hi hj
  have:=u i j hij (by omega)
  have e1:=zgM (p:=p) (i:=i) (x:=p[i]) (by simp [hi])
  have e2:=zgM (p:=p) (i:=j) (x:=p[j]) (by simp [hj])
  rw [e1,e2] at this
  simpa using this
end
noncomputable def kd (ks:List (Str×List Int)) (i:Nat):Str×List Int:=ks.getD i (A0 "",[])
theorem zgm {ks:List (Str×List Int)} {i:Nat} {k:Str×List Int} (h:ks[i]?=some k):kd ks i=k:=by simp [kd,h]
theorem KindsL.at {G:A3->Prop} {H:Hp} {vs:List V} {ks:List (Str×List Int)} (h:KindsL G H vs ks) {i:Nat} (hi:i < ks.length):∃ q t,vs[i]?=some (.ref q)/\H q=some (.lst [.str (kd ks i).1,.ref t])/\H t=some (.lst ((kd ks i).2.map V.int)):=by
 have hl:=h.length
 obtain ⟨k,q,t,e,ev,h1,h2⟩:=h.get (A6 (by omega:i < vs.length))
 refine ⟨q,t,?_,?_,?_⟩
 ·rw [A6 (by omega:i < vs.length),ev]
 ·rw [zgm e]; exact h1
 ·rw [zgm e]; exact h2
theorem KindsL.pick {G:A3->Prop} {H:Hp} {vs:List V} {ks:List (Str×List Int)} (h:KindsL G H vs ks):∀ {p:List Nat},(∀ i∈p,i < ks.length)->KindsL (fun _=>True) H (p.map fun i=>vs.getD i .non) (p.map (kd ks))
 | [],_=>trivial
 | i :: p,hp=>by
  obtain ⟨q,t,ev,h1,h2⟩:=h.at (hp i Ai)
  exact ⟨⟨q,t,by simp [ev],h1,h2,trivial,trivial⟩,h.pick fun j hj=>hp j (Ac _ hj)⟩
theorem kd_range (ks:List (Str×List Int)):(Ab ks.length).map (kd ks)=ks:=by
 refine Fd fun i => ?_
 rw [Af]
 by_cases h:i < ks.length
 ·rw [Cd h,A6 h,Cf,zgm (A6 h)]
 ·simp [Kr h]
theorem Vals.pick {xs:List V} {us:List A2} (r:Vals xs us):∀ {p:List Nat},(∀ i∈p,i < xs.length)->Vals (p.map fun i=>xs.getD i .non) (p.map fun i=>us.getD i Ct)
 | [],_ => .nil
 | i :: p,hp=>by
  obtain ⟨u,e,ru⟩:=r.get (A6 (hp i Ai))
  refine .cons ?_ (r.pick fun j hj=>hp j (Ac _ hj))
  have e1:xs.getD i .non=xs[i]'(hp i Ai):=by simp [hp i Ai]
  have e2:us.getD i Ct=u:=by simp [e]
  show RelV (xs.getD i .non) (us.getD i Ct)
  rw [e1,e2]
  exact ru
noncomputable def ltK (ks:List (Str×List Int)) (i j:Nat):Bool:=decide ((kd ks i).1.cps.toList < (kd ks j).1.cps.toList)
theorem ltK_ok {ks:List (Str×List Int)} (nd:(ks.map (·.1)).Nodup):LtOk ks.length (ltK ks):=by
 refine ⟨fun h1 h2 => ?_,fun {a b} ha hb hne h => ?_,fun a => ?_⟩
 ·exact decide_eq_true (Pe (of_decide_eq_true h1) (of_decide_eq_true h2))
 ·refine decide_eq_true ?_
  have h:=of_decide_eq_false h
  have hle:(kd ks b).1.cps.toList<=(kd ks a).1.cps.toList:=N6.mp h
  refine De fun hn=>hne ?_
  have e:(kd ks a).1=(kd ks b).1:=zcD (N6.mp hn) hle
  have e1:=zgm (A6 ha)
  have e2:=zgm (A6 hb)
  rw [e1,e2] at e
  refine (K7 (l:=ks.map (·.1)) (by rw [A5]; exact ha) nd).mp ?_
  rw [Af,Af,A6 ha,A6 hb,Cf,Cf,e]
 ·exact decide_eq_false (J9 _)
section
variable {X:Cx}
theorem call_sortedK (hu:X.A.units + 64 < cLine):CallR X (.builtin "sorted") (fun xs H Q=>∃ (a:A3) (vs:List V) (ks:List (Str×List Int)) (G:A3->Prop),xs = [V.ref a]/\H a=some (.lst vs)/\KindsL G H vs ks/\(ks.map (·.1)).Nodup/\ks.length < 64 /\
  ∀ p vs' ks',H p=none->KindsL (fun _=>True) H vs' ks'->ks'.Perm ks->sortedS (ks'.map (·.1))=true->Q (.ref p) (upd H p (.lst vs'))):=by
 intro pins s σ H xs us Q I r h
 obtain ⟨a,vs,ks,G,rfl,hq,kk,nd,h64,q⟩:=h
 obtain ⟨u,rfl,ru⟩:=zb1 r
 cases ru
 obtain ⟨z,its,n,rv,hl,ea⟩:=I.lstM hq
 have hlk:=kk.length
 have big:64<=sizeLine:=by decide
 have row:∀ i,i < its.length->∃ q,its.getD i Ct = .ref q/\∃ (ii:List A2) (m:Nat) (tk:Tok),s.heap.get? q=some (seqObj "list" ii.toArray m)/\ii.toArray[0]?=some (.str (kd ks i).1 tk):=by
  intro i hi
  obtain ⟨qa,t,ev,h1,h2⟩:=kk.at (i:=i) (by omega)
  obtain ⟨w,ew,rw'⟩:=rv.get ev
  cases rw'
  obtain ⟨_,ii,m,ri,_,ei⟩:=I.lstM h1
  obtain ⟨w1,w2,rfl,⟨tk,rfl⟩,_⟩:=ri.two
  exact ⟨qa,by simp [ew],_,m,tk,ei,rfl⟩
 refine Fl Oq Nv Nx (Ny _) (show wpAny _ _ (F0.«sorted» _) _ _ _ from ?_)
 unfold F0.«sorted»
 refine A1 (m:=checkCount "sorted" 1 1 _) (Ad (A1 (collect_list (vs:=its) ⟨_,ea,rfl,n,rfl⟩ (A1 (Ip ?_ (by omega))) (by omega))))
 have hsz:((s.heap.push (seqObj "list" #[] 0)).update s.heap.objs.size (D7 (· ++ its.toArray))).objs.size=s.heap.objs.size + 1:=(Heap.size_update ..).trans (size_push' ..)
 have hoL:(((s.heap.push (seqObj "list" #[] 0)).update s.heap.objs.size (D7 (· ++ its.toArray))).push (seqObj "list" its.toArray 0)).get? (s.heap.objs.size + 1)=some (seqObj "list" its.toArray 0):=by rw [<- hsz]; exact Av _ rfl
 have hsz0:=hsz
 have old:∀ b o,s.heap.get? b=some o->b≠s.heap.objs.size + 1/\(((s.heap.push (seqObj "list" #[] 0)).update s.heap.objs.size (D7 (· ++ its.toArray))).push (seqObj "list" its.toArray 0)).get? b=some o:=fun b o e=>by
  have lt:=An e
  refine ⟨B8 (Em lt),A8 _ ?_⟩
  rw [Jn _ _ _ _ (B8 lt)]
  exact A8 _ e
 show wpAny _ _ _ _ _ { s with heap:=((s.heap.push (seqObj "list" #[] 0)).update s.heap.objs.size (D7 (· ++ its.toArray))).push (seqObj "list" its.toArray 0) }; rw [hsz]
 have LO:LtOk its.length (ltK ks):=by rw [show its.length=ks.length by omega]; exact ltK_ok nd
 refine A1 (D3 (Ds Mn ⟨_,hoL,rfl⟩ M0 (sort_by hoL LO (by omega) (fun h' hk v hv => ?_) (fun h' hk i j C hi hj hij hC => ?_) fun p pp ps=>⟨_,rfl,?_⟩) (Mp _)))
 ·obtain ⟨i,hi,ei⟩:=Es hv
  obtain ⟨qa,e1,ii,m,tk,e2,e3⟩:=row i hi
  have e4:v = .ref qa:=by rw [<- e1,<- ei]; simp [hi]
  subst e4
  exact fun A' Q' E' s' k' q'=>wpAny_typeOf ⟨_,k' _ _ (hk _ _ (old _ _ e2).1 (old _ _ e2).2),rfl⟩ q'
 ·obtain ⟨qa,e1,ii,m,tk,e2,e3⟩:=row i hi
  obtain ⟨qb,f1,jj,m',tk',f2,f3⟩:=row j hj
  rw [e1,f1]
  refine key_lt0 (hk _ _ (old _ _ e2).1 (old _ _ e2).2) (hk _ _ (old _ _ f2).1 (old _ _ f2).2) e3 f3 ?_ ?_ hC
  ·rw [beq_eq_false_iff_ne]
   intro e
   have z:ltK ks i j=false:=decide_eq_false (by rw [e]; exact J9 _)
   have z2:=LO.tot hi hj hij z
   exact absurd (of_decide_eq_true z2) (by rw [e]; exact J9 _)
  ·show X.A.units + 1 + 1 < cLine
   omega
 ·have hpl:p.length=its.length:=by rw [pp.length_eq,Ax]
  have hin:∀ i∈p,i < its.length:=fun i hi=>B5.mp (pp.mem_iff.mp hi)
  refine Ad ⟨_,rfl,?_⟩
  refine zdx I (ys:=p.map fun i=>vs.getD i .non) (by rw [A5]; omega) ?_ ?_
  ·rw [List.toList_toArray]
   exact rv.pick fun i hi=>by have:=hin i hi; omega
  ·refine q _ _ (p.map (kd ks)) (I.hok.fresh (Kv _)) (kk.pick fun i hi=>by have:=hin i hi; omega) ?_ ?_
   ·have e:=pp.map (kd ks)
    rwa [show its.length=ks.length by omega,kd_range] at e
   ·refine Oy _ ?_
    rw [Bp,Cb]
    refine ps.imp fun {i j} h => ?_
    have h:(kd ks i).1.cps.toList < (kd ks j).1.cps.toList:=of_decide_eq_true h
    show ltCps (kd ks j).1.cps.toList (kd ks i).1.cps.toList=false
    rw [ltCps_eq]
    exact decide_eq_false fun z=>J9 _ (Pe h z)
end
noncomputable def intsChk:List A2->List Int->Bool
 | [],[]=>true
 | .int i _ :: r,k :: s=>decide (i=k) && intsChk r s
 | _,_=>false
theorem zfD:∀ {us:List A2} {ns:List Int},intsChk us ns=true->Vals (ns.map V.int) us
 | [],[],_ => .nil
 | .int i t :: r,k :: s,h=>by
  simp only [intsChk,Bz,decide_eq_true_eq] at h
  obtain ⟨rfl,h⟩:=h
  exact .cons ⟨t,rfl⟩ (zfD h)
 | [],_ :: _,h=>by cases h
noncomputable def tupChk (K:Am) (a:A3) (ns:List Int):Bool:=match K.lookup a with
 | some o=>(o.cls == .type "tuple") && match o.data with
  | .seq its _=>intsChk its.toList ns && decide (its.size<=1000)
  | _=>false
 | none=>false
theorem tup_chk {K:Am} {a:A3} {ns:List Int} (h:tupChk K a ns=true) (H:Hp):SqT K H a (ns.map V.int):=by
 unfold tupChk at h
 split at h
 ·rename_i o e
  rw [Bz] at h
  obtain ⟨hc,h⟩:=h
  split at h
  ·rename_i its n ed
   rw [Bz] at h
   exact .inr ⟨o,its,n,e,eq_of_beq hc,ed,big (of_decide_eq_true h.2),zfD h.1⟩
  ·cases h
 ·cases h
end L2
namespace L2
open PySem PySem.Spec PyProof.Rows
theorem zg8 {J:It} {Ok:Hp->Prop} {L:List V} {tf:TT} {te:TE} {D:A3} {σ0 capv:St} {H1:Hp} {Q:VK} (hσ : σ0=none :: capv) (G:Gives J Ok L) (hL:L.length<=sizeLine) (hD:H1 D=none) (hOk:∀ H,Same H1 H->Ok H) (p:Nat->Bool) (Rel:Hp->Nat->V->Prop)
  (hm:∀ H H' i v,Same H H'->Rel H i v->Rel H' i v) (hw:∀ H i v l l',v ≠ .ref D->H D=some (.lst l)->Rel H i v->Rel (upd H D (.lst l')) i v)
  (ht:∀ (i:Nat) x,L[i]?=some x->∀ H R,Same H1 H->(∀ H',Same H H'->R (p i) H')->tf (some x :: capv) H R)
  (he:∀ (i:Nat) x,L[i]?=some x->p i=true->∀ H R,Same H1 H->H D≠none->(∀ H' v,Same H H'->v ≠ .ref D->Rel H' i v->R v H')->te (some x :: capv) H R)
  (hd:∀ H ys,Same H1 H->H D=some (.lst ys)->C7 (fun i y=>y ≠ .ref D/\Rel H i y) ((Ab L.length).filter p) ys->Q (.ref D) H) :
  CompW J D σ0 H1 (gName 0) tf te Q:=by
 subst hσ
 refine zgD G (fun i xs σ H=>(∃ o,σ = o :: capv)/\Same H1 H/\H D=some (.lst xs)/\C7 (fun i y=>y ≠ .ref D/\Rel H i y) ((Ab i).filter p) xs) ⟨⟨none,rfl⟩,Same.new hD,zab,.nil⟩ (fun i xs σ H _ h=>hOk H h.2.1) ?_ ?_
 ·rintro i x xs σ H hi hx ⟨⟨o,rfl⟩,s,e,hr⟩
  show tf (some x :: capv) H _
  refine ht i x hx H _ s fun H' s' => ?_
  have hxl:xs.length<=i:=by
   rw [<- Cz hr]
   exact C5 (D6 _ _) (by rw [Ax]; omega)
  have efil:(Ab (i + 1)).filter p=(Ab i).filter p ++ if p i=true then [i] else []:=by
   rw [E6,Db]
   congr 1
   rw [Cy,F6]
  cases hp:p i with
  | true =>
   rw [if_pos rfl]
   refine he i x hx hp H' _ (s.trans s') (by rw [s' _ _ e]; exact nofun) fun H2 v s2 hv rv => ?_
   have e2:=s2 _ _ (s' _ _ e)
   refine CNext.of hi hL e2 hxl ⟨⟨some x,rfl⟩,((s.trans s').trans s2).put hD,zab,?_⟩
   rw [efil,if_pos hp]
   exact Ev (C7.mapP hr fun j y z=>⟨z.1,hw _ _ _ _ _ z.1 e2 (hm _ _ _ _ (s'.trans s2) z.2)⟩) ⟨hv,hw _ _ _ _ _ hv e2 rv⟩
  | false =>
   rw [if_neg A9]
   refine CSkip.of (xs:=xs) hi ⟨⟨some x,rfl⟩,s.trans s',s' _ _ e,?_⟩
   rw [efil,if_neg (by rw [hp]; exact A9),C9]
   exact C7.mapP hr fun j y z=>⟨z.1,hm _ _ _ _ s' z.2⟩
 ·rintro xs σ H ⟨_,s,e,hr⟩
  exact hd H xs s e hr
theorem C7.at {α β : Type} {R : α -> β -> Prop}:∀ {l:List α} {m:List β} {i:Nat} {x : α},C7 R l m->l[i]?=some x->∃ y,m[i]?=some y/\R x y
 | _,_,i,x,.nil,h=>by simp at h
 | _,_,0,x,.cons h r,e=>by
  simp at e
  subst e
  exact ⟨_,rfl,h⟩
 | _,_,i + 1,x,.cons h r,e=>by
  obtain ⟨y,e1,e2⟩:=C7.at (i:=i) r (by simpa using e)
  exact ⟨y,by simpa using e1,e2⟩
theorem zfI {J:It} {Ok:Hp->Prop} {L:List V} {tf:TT} {te:TE} {D:A3} {σ0 capv:St} {H1:Hp} {Q:VK} (hσ : σ0=none :: capv) (G:Gives J Ok L) (hL:L.length<=sizeLine) (hD:H1 D=none) (hOk:∀ H,Same H1 H->Ok H) (p:Nat->Bool) (F:Nat->V) (hF:∀ i,i < L.length->p i=true->F i ≠ .ref D)
  (ht:∀ (i:Nat) x,L[i]?=some x->∀ H R,Same H1 H->(∀ H',Same H H'->R (p i) H')->tf (some x :: capv) H R)
  (he:∀ (i:Nat) x,L[i]?=some x->p i=true->∀ H R,Same H1 H->(∀ H',Same H H'->R (F i) H')->te (some x :: capv) H R)
  (hd:∀ H,Same H1 H->H D=some (.lst (((Ab L.length).filter p).map F))->Q (.ref D) H) :
  CompW J D σ0 H1 (gName 0) tf te Q:=by
 refine zg8 hσ G hL hD hOk p (fun _ i v=>v=F i) (fun _ _ _ _ _ h=>h) (fun _ _ _ _ _ _ _ h=>h) ht (fun i x hx hp H R s _ h=>he i x hx hp H R s fun H' s'=>h H' _ s' (hF i (Ao.mp hx).1 hp) rfl) fun H ys s e pr=>hd H s ?_
 rw [e]
 have:∀ {l:List Nat} {m:List V},C7 (fun i y=>y ≠ .ref D/\y=F i) l m->m=l.map F:=by
  intro l m q
  induction q with
  | nil=>rfl
  | cons h _ ih=>rw [Aq,<- ih,h.2]
 rw [this pr]
noncomputable def nmSort (cs:Combs):List Str:=(cs.map (·.1)).mergeSort fun a b=>decide (a.cps.toList<=b.cps.toList)
theorem zeZ (cs:Combs):(nmSort cs).Perm (cs.map (·.1)):=List.mergeSort_perm _ _
theorem zev (cs:Combs):sortedS (nmSort cs)=true:=by
 refine Oy _ ?_
 have h:=List.pairwise_mergeSort (le:=fun a b:Str=>decide (a.cps.toList<=b.cps.toList)) (fun a b c h1 h2=>decide_eq_true (Pf (of_decide_eq_true h1) (of_decide_eq_true h2))) (fun a b=>by
  rcases List.le_total a.cps.toList b.cps.toList with h | h
  ·rw [decide_eq_true h]; rfl
  ·rw [decide_eq_true h,Mi]) (cs.map (·.1))
 exact h.imp fun {a b} h=>sle_iff.mp (show a.cps.toList<=b.cps.toList from of_decide_eq_true h)
noncomputable def srt (cs:Combs):Combs:=byNames cs (nmSort cs)
theorem zc7 {cs:Combs} (nd:(cs.map (·.1)).Nodup) {c:Str×List Int} (h:c∈cs):cGet cs c.1=some c.2:=by
 induction cs with
 | nil=>cases h
 | cons d cs ih =>
  rw [zcP]
  rw [Aq,Dv] at nd
  rcases Bf.mp h with rfl | h
  ·exact if_pos rfl
  ·rw [if_neg (fun z:d.1=c.1=>nd.1 (z ▸ Ah.mpr ⟨c,h,rfl⟩))]
   exact ih nd.2 h
theorem zgE {cs ks:Combs} (nd:(cs.map (·.1)).Nodup) (p:ks.Perm cs):byNames cs (ks.map (·.1))=ks:=by
 unfold byNames
 rw [Bp]
 conv=>rhs; rw [<- J8 ks]
 refine Ck fun k hk => ?_
 show (k.1,(cGet cs k.1).getD [])=k
 rw [zc7 nd (p.mem_iff.mp hk)]
 rfl
theorem zfg {cs:Combs} (nd:(cs.map (·.1)).Nodup):(srt cs).Perm cs:=by
 have h:(byNames cs (nmSort cs)).Perm (byNames cs (cs.map (·.1))):=(zeZ cs).map _
 rw [zgE nd (Ki _)] at h
 exact h
noncomputable def stp (C:Combs) (s:Nat):List (Str×Int):=stepsOf C (s:Int)
noncomputable abbrev tr (r:List Bool) (s:Nat):Bool:=r.getD s false
noncomputable def GC (C:Combs):Prop:=∀ c∈C,GT c.2
theorem zds {C:Combs} (g:GC C) {s:Nat} (h:s < 128) {p:Str×Int} (hp:p∈stp C s):0<=p.2/\p.2.toNat < 128:=by
 have:=steps_lt (n:=(s:Int)) (by omega) (by omega) g p hp
 omega
theorem zbj (lo:Int) (n:Nat):((Ab n).map fun i=>V.int (lo + ((i:Nat):Int))).length=n:=by rw [A5,Ax]
theorem at0 {x y:V}:atI [x,y] 0=some x:=show atI [x,y] ((0:Nat):Int)=_ from zat rfl
theorem at1 {x y:V}:atI [x,y] 1=some y:=show atI [x,y] ((1:Nat):Int)=_ from zat rfl
theorem zdR {C:Combs} (h8:C.length<=8) (s:Nat):(stp C s).length<=8:=by
 unfold stp
 by_cases e:(s:Int) % 2=1
 ·rw [zek e]; exact N5 rfl
 ·exact C5 (steps_len e) h8
theorem zha {α : Type} {ws:List α} {m:Nat} {x : α} (hl:ws.length=m + 1) (h:ws[m]?=some x):atI ws (-1)=some x:=by
 have hne:ws ≠ []:=fun z=>by rw [z] at hl; simp at hl
 have e:ws=ws.dropLast ++ [ws.getLast hne]:=(Ky hne).symm
 have e2:ws.getLast hne=x:=by
  rw [M4]
  have:ws[m]?=some (ws[ws.length - 1]'(by omega)):=by rw [A6 (by omega)]; congr 2; omega
  rw [h] at this
  exact (C6 this).symm
 rw [e,e2]
 exact at_last _ _
section
variable {X:Cx}
end
theorem zav:∀ (n:Nat) (l:List Nat),l.Nodup->(∀ x∈l,x < n)->l.length<=n
 | 0,[],_,_=>Aa _
 | 0,x :: l,_,h=>absurd (h x Ai) (by omega)
 | n + 1,l,nd,h=>by
  by_cases hn:n∈l
  ·have e:=Lu hn
   have:=zav n (l.erase n) (nd.erase n) (fun x hx=>by
    have h1:=h x (List.mem_of_mem_erase hx)
    have h2:x≠n:=((Sl nd).mp hx).1
    omega)
   omega
  ·have:=zav n l nd (fun x hx=>by
    have h1:=h x hx
    have h2:x≠n:=fun z=>hn (z ▸ hx)
    omega)
   omega
noncomputable def nx (C:Combs) (row:List Bool) (s:Nat):Option (Str×Int):=(stp C s).find? fun p=>tr row p.2.toNat
noncomputable def LaysR (H:Hp) (vs:List V) (n:Nat->Str) (i:Nat):Prop:=C7 (fun (j:Nat) (v:V)=>∃ q,v = .ref q/\H q=some (.tup [.int (j:Int),.str (n j)])) ((Ab i).filter fun j=>decide (n j≠A0 "")) vs
theorem LaysR.mono {H H':Hp} {vs:List V} {n:Nat->Str} {i:Nat} (m:∀ q xs,H q=some (.tup xs)->H' q=some (.tup xs)) (r:LaysR H vs n i):LaysR H' vs n i:=C7.mapP r fun _ _ ⟨q,a,b⟩=>⟨q,a,m _ _ b⟩
theorem LaysR.skip {H:Hp} {vs:List V} {n:Nat->Str} {i:Nat} (r:LaysR H vs n i) (h:n i=A0 ""):LaysR H vs n (i + 1):=by
 unfold LaysR
 rw [E6,Db,Cy,if_neg (by simpa using h),F6,C9]
 exact r
theorem LaysR.snoc {H:Hp} {vs:List V} {n:Nat->Str} {i:Nat} {q:A3} (r:LaysR H vs n i) (h:n i≠A0 "") (hq:H q=some (.tup [.int (i:Int),.str (n i)])):LaysR H (vs ++ [.ref q]) n (i + 1):=by
 unfold LaysR
 rw [E6,Db,Cy,if_pos (by simpa using h),F6]
 exact Ev r ⟨q,rfl,hq⟩
theorem LaysR.len {H:Hp} {vs:List V} {n:Nat->Str} {i:Nat} (r:LaysR H vs n i):vs.length<=i:=by
 rw [<- Cz r]
 exact C5 (D6 _ _) (by rw [Ax]; omega)
section
variable {prog:Ap} {w:Bb} {A:B7} {E:A2->A4->Prop} {s:A4} {d it:A3} {o:Obj} {es:Array J5} {ep i:Nat}
theorem zgu (ho:s.heap.get? d=some o) (hc:o.ExactDict):s.TypeIs (.ref d) "dict" := ⟨o,ho,hc.1⟩
theorem zgw {Q:A2->A4->Prop} (hd:(d == sysModules)=false) (ho:s.heap.get? d=some o) (hc:o.ExactDict) (hdat:o.data = .dict es ep)
  (hQ:Q (.ref s.heap.objs.size) { s with heap:=s.heap.push { cls := .type "dict_keyiterator",data := .fields #[.ref d,.int 0 0,.int es.size 0,.int ep 0] } }):wpAny (model prog w) A (pyIter (.ref d)) Q E s:=by
 have hT:=zgu ho hc
 refine wpAny_pyIter_slot hT Ph (Ds Ph hT F.entry_dict_iter (show wpAny _ _ (F0.«dict.__iter__» _) _ _ _ from ?_) (F.args_dict_iter_1 _))
 unfold F0.«dict.__iter__»; refine A1 ?_
 unfold Rj; refine A1 (wpAny_notOrdered_dict hT (show wpAny _ _ (pure (B1 d)) _ _ s from Ad (show wpAny _ _ (Ks d >>= _) _ _ s from ?_)))
 unfold Ks; rw [if_neg (by rw [hd]; exact A9)]
 refine A1 (Ad (A1 (Ii ho hdat (A1 (Ly ho hdat (A1 (Ep (Ad ⟨_,rfl,"dict_keyiterator",_,⟨_,Av _ rfl,rfl⟩,Ec.lookup,?_⟩))))))))
 simpa [rawInt] using hQ
theorem zgv {Q:Option A2->A4->Prop} (hit:s.heap.IsKeyIter it d i es.size ep) (hod:s.heap.get? d=some o) (hdd:o.data = .dict es ep) (hlt:i < es.size)
  (hQ:∀ h',h'.IsKeyIter it d (i + 1) es.size ep->Fk it s.heap h'->Q (some es[i].key) { s with heap:=h' }):wpAny (model prog w) A (pyNext (.ref it)) Q E s:=by
 obtain ⟨oi,hi,hc,hd⟩:=id hit
 have hown:Io "dict_keyiterator" = false:=by decide
 unfold pyNext
 refine A1 (Go (G7 (name:=A0 "__next__") hit.typeIs Ec (Ds Ec hit.typeIs Le ?_ (L7 _))))
 refine A1 (Ad (A1 (A1 ?_)))
 first | refine A1 (F9 hit.typeIs (Ad (A1 (Jx hi hd ?_)))) | refine A1 (Ft hit.typeIs (Ad (A1 (Jx hi hd ?_))))
 simp only [hown,Bm,if_false]
 show wpAny _ _ (if (B1 d == Ct)=true then _ else _) _ _ s
 rw [if_neg (show ¬ ((B1 d == Ct)=true) from A9)]; refine A1 (Ad (A1 (Ii hod hdd ?_)))
 rw [if_neg (by simp)]; refine A1 (Ad (A1 (Ly hod hdd ?_)))
 rw [if_neg (by simp)]; refine Ad ?_
 simp only [show ¬ ((i:Int) < 0) from by omega,if_false,Dk,Hi hlt]; refine A1 ?_
 first | refine A1 (F9 hit.typeIs (Ad (A1 (Jo hit.typeIs ?_)))) | refine A1 (Ft hit.typeIs (Ad (A1 (Jo hit.typeIs ?_))))
 have hit':(s.heap.update it (Fa (·.setIfInBounds 1 (rawInt ((i:Int) + 1))))).IsKeyIter it d (i + 1) es.size ep:=⟨_,Gd _ hi (N4 (Fs hd _)),(Og ..).trans hc,by rw [Fs hd]; simp [rawInt]⟩
 refine (show wpAny _ _ (setField (.ref it) 1 (rawInt ((i:Int) + 1)) >>= _) _ _ s from A1 (Hn hi hd (by simp) (A1 (D3 (A1 (Jo (s:={ s with heap:=s.heap.update it (Fa (·.setIfInBounds 1 (rawInt ((i:Int) + 1)))) }) hit'.typeIs ?_))))))
 show wpAny _ _ (pure es[i].key) _ _ _
 exact Ad (Ad ⟨_,rfl,Ad (hQ _ hit' (L6 ..))⟩)
theorem zg5 {Q:Option A2->A4->Prop} (hh:A.handled=none) (hit:s.heap.IsKeyIter it d i es.size ep) (hod:s.heap.get? d=some o) (hdd:o.data = .dict es ep) (hge:es.size<=i)
  (hQ:∀ h',Qb it s.heap h'->Q none { s with heap:=h' }):wpAny (model prog w) A (pyNext (.ref it)) Q E s:=by
 obtain ⟨oi,hi,hc,hd⟩:=id hit
 have hown:Io "dict_keyiterator" = false:=by decide
 unfold pyNext
 refine A1 (Go (G7 (name:=A0 "__next__") hit.typeIs Ec (Ds Ec hit.typeIs Le ?_ (L7 _))))
 refine A1 (Ad (A1 (A1 ?_)))
 first | refine A1 (F9 hit.typeIs (Ad (A1 (Jx hi hd ?_)))) | refine A1 (Ft hit.typeIs (Ad (A1 (Jx hi hd ?_))))
 simp only [hown,Bm,if_false]
 show wpAny _ _ (if (B1 d == Ct)=true then _ else _) _ _ s
 rw [if_neg (show ¬ ((B1 d == Ct)=true) from A9)]; refine A1 (Ad (A1 (Ii hod hdd ?_)))
 rw [if_neg (by simp)]; refine A1 (Ad (A1 (Ly hod hdd ?_)))
 rw [if_neg (by simp)]; refine Ad ?_
 simp only [show ¬ ((i:Int) < 0) from by omega,if_false,Dk,Array.getElem?_eq_none hge]; refine A1 ?_
 first | refine A1 (F9 hit.typeIs (Ad ?_)) | refine A1 (Ft hit.typeIs (Ad ?_))
 refine (show wpAny _ _ (setField (.ref it) 0 .none >>= _) _ _ s from A1 (Hn hi hd (by simp) (show wpAny _ _ (newExc (.type "StopIteration") [] >>= _) _ _ _ from A1 ?_)))
 simp only [newExc,newTuple]; refine A1 (Ep ?_ (by size_fits))
 refine A1 (m:=firstArgMember _ _) (On (a:=Ct) (by first | rfl | (simp only [firstArgMember]; rfl)) (Ep ?_ (by size_fits)))
 simp only [raiseNew]; refine A1 (Ry ?_); rw [show A.in1.handled=none from hh]
 refine A1 (Ad (wpAny_throw ?_)); refine A1 (Gj (T := "StopIteration") (b:=true) ⟨_,Av _ rfl,rfl⟩ Rr ?_); exact Ad (hQ _ (((L6 ..).extBut.push _).push _))
end
theorem C7.rev {α β : Type} {R : α -> β -> Prop}:∀ {l:List α} {m:List β} {i:Nat} {y : β},C7 R l m->m[i]?=some y->∃ x,l[i]?=some x/\R x y
 | _,_,i,x,.nil,h=>by simp at h
 | _,_,0,x,.cons h r,e=>by
  simp at e
  subst e
  exact ⟨_,rfl,h⟩
 | _,_,i + 1,x,.cons h r,e=>by
  obtain ⟨y,e1,e2⟩:=C7.rev (i:=i) r (by simpa using e)
  exact ⟨y,by simpa using e1,e2⟩
section
variable {X:Cx} {pins:List (A3×Obj)} {σ : St} {H:Hp} {s:A4} {a:A3} {kvs:List (List Key×V)}
theorem Inv.freezeT (I:Inv X pins σ H s) (h:H a=some (.dT kvs)):∃ o,s.heap.get? a=some o/\Inv X pins σ (upd H a (.frz o (.dT kvs))) s:=by
 have ok:=(show ObjOk X.prog X.w H s.heap a (.dT kvs) from I.hok a _ h)
 obtain ⟨o,ho⟩:=ok.there
 refine ⟨o,ho,?_⟩
 have:=Inv.write (x:=a) (e:=a) (o := .frz o (.dT kvs)) (h':=s.heap) (t':=s.toks) I (by rw [h]; trivial) (.inl rfl) (fun _ _ _ q=>q) ⟨o,ho⟩ ⟨ho,ok.stay (fun _ _ _ q=>q) (fun b q=>by rw [zaf (fun z=>by rw [z,h] at q; cases q)]; exact q) fun b xs q=>by rw [zaf (fun z=>by rw [z,h] at q; cases q)]; exact q⟩
 exact this
theorem Inv.unfreezeT {o:Obj} (I:Inv X pins σ H s) (h:H a=some (.frz o (.dT kvs))) (h0:∀ o u,X.H₀ a≠some (.frz o u)):Inv X pins σ (upd H a (.dT kvs)) s:=by
 have nn:∀ b,H b=none->b≠a:=fun b q z=>by rw [z,h] at q; cases q
 obtain ⟨ho,ok⟩:=(show ObjOk X.prog X.w H s.heap a (.frz o (.dT kvs)) from I.hok a _ h)
 have own:∀ b y,H b=some (.own y)->upd H a (.dT kvs) b=some (.own y):=fun b y q=>by rw [zaf (fun z=>by rw [z,h] at q; cases q)]; exact q
 have tups:∀ b xs,H b=some (.tup xs)->upd H a (.dT kvs) b=some (.tup xs):=fun b y q=>by rw [zaf (fun z=>by rw [z,h] at q; cases q)]; exact q
 refine ⟨I.ok,I.os,I.bare,⟨I.base.keep,I.base.slot,fun b u q n hx => ?_,I.base.there,fun b xs q=>tups b xs (I.base.tups b xs q),fun b u v q => ?_,fun b ps q => ?_⟩,I.loc,I.cell,?_,fun y c e => ?_,fun p hp => ?_,fun b u q => ?_,I.len⟩
 ·have:=I.base.free b u q n hx
  rw [zaf (nn b this)]; exact this
 ·have q':=I.base.frzs b u v q
  rw [zaf (fun z=>h0 _ _ (z ▸ q))]; exact q'
 ·obtain ⟨m,e⟩:=I.base.tbls b ps q
  exact ⟨m,by rw [zaf (fun z=>by rw [z,h] at e; cases e)]; exact e⟩
 ·rw [zaf (nn _ I.free)]; exact I.free
 ·rw [zaf (nn _ (I.freeC y c e))]; exact I.freeC y c e
 ·obtain ⟨e1,e2,e3,e4,e5⟩:=I.pin p hp
  exact ⟨e1,by rw [zaf (nn _ e2)]; exact e2,e3,e4,e5⟩
 ·by_cases hb:b=a
  ·subst hb
   rw [zab] at q
   cases q
   exact ok.stay (fun _ _ _ q=>q) (fun c q=>own c _ q) tups
  ·rw [zaf hb] at q
   exact (I.hok b u q).stay (fun _ _ _ q=>q) (fun c q=>own c _ q) tups
end
noncomputable def IttD (a:A3) (o:Obj) (kvs:List (List Key×V)):It:=⟨fun i H=>H a=some (.frz o (.dT kvs))/\i < kvs.length,fun i H v H'=>H'=H/\∃ k y b,kvs[i]?=some (k,y)/\v = .ref b/\H b=some (.tup (k.map kV)),fun i H=>H a=some (.frz o (.dT kvs))/\kvs.length<=i⟩
theorem ze4 {X:Cx} {pins:List (A3×Obj)} {σ : St} {H:Hp} {s:A4} {a:A3} {o:Obj} {kvs:List (List Key×V)} {es:Array J5} {ep:Nat} (I:Inv X pins σ H s) (h:H a=some (.frz o (.dT kvs))) (hd:o.data = .dict es ep) :
  s.heap.get? a=some o/\(a == sysModules)=false/\o.ExactDict/\es.size=kvs.length/\∀ i (hi:i < es.size),∃ k y b,kvs[i]?=some (k,y)/\es[i].key = .ref b/\H b=some (.tup (k.map kV)):=by
 obtain ⟨ho,hz,lo,xs,kt,o',es',ep',ho',c,d,r,_⟩:=(show ObjOk X.prog X.w H s.heap a (.frz o (.dT kvs)) from I.hok a _ h)
 rw [ho] at ho'
 cases ho'
 rw [hd] at d
 cases d
 have hl:=Cz kt
 have hl2:es.size=xs.length:=by rw [<- At,r,A5]
 refine ⟨ho,lo,c,by omega,fun i hi => ?_⟩
 have e1:es.toList[i]?=some es[i]:=by simp [hi]
 rw [r,Af] at e1
 cases ex:xs[i]? with
 | none=>rw [ex] at e1; cases e1
 | some x =>
  rw [ex] at e1
  obtain ⟨p,ep,h1,h2,h3⟩:=C7.rev kt ex
  refine ⟨p.1,p.2,x.2.1,ep,?_,h2⟩
  rw [<- C6 e1]
  rfl
theorem turn_dictT {P:Ap} {w:Bb} {K:Am} {tg:Ce} (a it:A3) (o:Obj) (kvs:List (List Key×V)) (es:Array J5) (ep:Nat) (hd:o.data = .dict es ep) :
  Turn P w K tg (IttD a o kvs) [it] it (fun i h=>h.IsKeyIter it a i es.size ep) where
 mem:=by simp
 obj:=fun i h st b hb=>by
  have e:b=it:=by simpa using hb
  subst e
  obtain ⟨o,e,c,d⟩:=st
  exact ⟨o,e,fun v z=>by rw [d] at z; cases z⟩
 keep:=fun i h h' st k=>by
  obtain ⟨o,e,r⟩:=st
  exact ⟨o,k it (by simp) o e,r⟩
 item:=by
  intro X hP hw hK hc i pins s σ H E I hf st hg
  subst hP hw hK
  obtain ⟨hz,hi⟩:=hg
  obtain ⟨ho,lo,hex,hsz,hk⟩:=ze4 I hz hd
  obtain ⟨f0,f1,f2,f3,f4,f5⟩:=hf it (by simp)
  obtain ⟨k,y,b,e1,e2,e3⟩:=hk i (by omega)
  refine zgv st ho hd (by omega) fun h' st' sb => ?_
  have I1:Inv X pins σ H { s with heap:=h' }:=I.turned (t':=s.toks) (fun b o hb e=>(sb.2 b hb).trans e) f0 f1 f3 f4 f5
  obtain ⟨o',e,c,d⟩:=id st'
  refine ⟨_,rfl,zfO (s:={ s with heap:=h' }) e c d (by decide) ⟨.ref b,H,I1,e2,⟨rfl,k,y,b,e1,rfl,e3⟩,st',fun b hb=>(hf b hb).1⟩⟩
 done:=by
  intro X hP hw hK hc i pins s σ H E I hf st hg
  subst hP hw hK
  obtain ⟨hz,hi⟩:=hg
  obtain ⟨ho,lo,hex,hsz,hk⟩:=ze4 I hz hd
  obtain ⟨f0,f1,f2,f3,f4,f5⟩:=hf it (by simp)
  exact zg5 (I.ok.hd hc) st ho hd (by omega) fun h' eb=>⟨rfl,I.turned (t':=s.toks) (fun b o hb e=>eb b o hb e) f0 f1 f3 f4 f5⟩
 self:=fun A i s Q E st h=>by
  obtain ⟨o,e,c,d⟩:=st
  exact Om ⟨o,e,c,d⟩ h
section
variable {X:Cx} {tg:Ce}
noncomputable def iDicT (i:Nat):TI:=fun σ H R=>∃ a o kvs,σ[i]?=some (some (.ref a))/\H a=some (.frz o (.dT kvs))/\R (IttD a o kvs) H
theorem pi_dicT {i:Nat} {x:Str} {np:Pos} (hx:PE X (.Name x np) (tVar i)):PI X tg (.Name x np) (iDicT i):=by
 intro pins s σ H R I h
 obtain ⟨a,o,kvs,hσ,ha,q⟩:=h
 refine thn (hx pins s σ H (fun v H1=>v = .ref a/\H1=H) I ⟨_,hσ,rfl,rfl⟩) fun v s1 ⟨y,H1,I1,r1,e1,e2⟩ => ?_
 subst e1 e2
 cases r1
 obtain ⟨ho,_,_,_,_,o',es,ep,ho',_,d,_⟩:=(show ObjOk X.prog X.w H1 s1.heap a (.frz o (.dT kvs)) from I1.hok a _ ha)
 rw [ho] at ho'
 cases ho'
 obtain ⟨_,lo,hex,hsz,_⟩:=ze4 I1 ha d
 refine zgw lo ho hex d ?_
 refine ⟨s1.heap.objs.size,[s1.heap.objs.size],_,_,H1,rfl,I1.kept (t':=s1.toks) fun b o e=>A8 _ e,turn_dictT a _ o kvs es ep d,?_,fun b hb => ?_,q⟩
 ·exact ⟨_,Av _ rfl,rfl,rfl⟩
 ·have e:b=s1.heap.objs.size:=by simpa using hb
  subst e
  exact I1.fpOk (Aa _) (I1.hok.fresh (Aa _))
noncomputable def DfrzT (a:A3) (o:Obj) (kvs:List (List Key×V)) (D:Ends):Ends:={ nx:=fun σ H=>H a=some (.frz o (.dT kvs))/\D.nx σ (upd H a (.dT kvs)),rt:=fun v H=>H a=some (.frz o (.dT kvs))/\D.rt v (upd H a (.dT kvs)),bk:=fun σ H=>H a=some (.frz o (.dT kvs))/\D.bk σ (upd H a (.dT kvs)),ct:=fun σ H=>H a=some (.frz o (.dT kvs))/\D.ct σ (upd H a (.dT kvs)) }
noncomputable def tForT (i:Nat) (g:TG) (tb:TS):TS:=fun D σ H=>∃ a kvs,σ[i]?=some (some (.ref a))/\H a=some (.dT kvs)/\∀ o,∃ W:Nat->Nat->St->Hp->Prop,(∃ m,W 0 m σ (upd H a (.frz o (.dT kvs))))/\∀ j m σ H,W j m σ H ->
 ((IttD a o kvs).stop j H/\(DfrzT a o kvs D).nx σ H)\/((IttD a o kvs).go j H/\∃ N:St->Hp->Prop,(∀ σ' H',N σ' H'->∃ m',m' < m/\W (j + 1) m' σ' H') /\
  ∀ x H',(IttD a o kvs).yld j H x H'->g x σ H' fun σ2 H2=>tb { DfrzT a o kvs D with nx:=N,ct:=N,bk:=(DfrzT a o kvs D).nx } σ2 H2)
theorem zeY {i:Nat} {x:Str} {body:List Cj} {g:TG} {tb:TS} {np pos:Pos} (hp:Q6 (model X.prog X.w) X.A X.env X.xe) (hc:X.calm=true) (hx:PE X (.Name x np) (tVar i)) (hg:PG X tg g) (hb:PSs X body tb)
  (hs:∀ y,foldedSetIterable (.Name x np) X.env y=pure y:=by intro _; rfl):PS X (.For tg (.Name x np) body [] pos) (tForT i g tb):=by
 intro pins s σ H D I h
 obtain ⟨a,kvs,hσ,ha,h⟩:=h
 obtain ⟨o,ho,I1⟩:=I.freezeT ha
 have h0:∀ o u,X.H₀ a≠some (.frz o u):=fun o' u z=>by
  have:=I.base.frzs a o' u z
  rw [ha] at this
  cases this
 refine Dg (za2 hp hc (pi_dicT hx) hg hb hs pins s σ (upd H a (.frz o (.dT kvs))) (DfrzT a o kvs D) I1 ⟨a,o,kvs,hσ,zab,h o⟩) (fun f s' q => ?_) fun _ _ z=>z
 cases f with
 | next=>obtain ⟨σ',H',J,e,q⟩:=q; exact ⟨σ',_,J.unfreezeT e h0,q⟩
 | brk=>obtain ⟨σ',H',J,e,q⟩:=q; exact ⟨σ',_,J.unfreezeT e h0,q⟩
 | cont=>obtain ⟨σ',H',J,e,q⟩:=q; exact ⟨σ',_,J.unfreezeT e h0,q⟩
 | ret u=>obtain ⟨v,σ',H',J,r,e,q⟩:=q; exact ⟨v,σ',_,J.unfreezeT e h0,r,q⟩
end
section
variable {prog:Ap} {w:Bb} {A:B7} {E:A2->A4->Prop} {s:A4} {d:A3} {o:Obj} {es:Array J5} {ep:Nat}
theorem ed_len {Q:A2->A4->Prop} (hd:(d == sysModules)=false) (ho:s.heap.get? d=some o) (hc:o.ExactDict) (hdat:o.data = .dict es ep) (hfit:(es.size:Int) < 2 ^ 63) (h:Q (.int es.size (s.toks + 1)) { s with toks:=s.toks + 1 + 1 }):wpAny (model prog w) A (call (.builtin "len") [.ref d]) Q E s:=by
 have hT:=zgu ho hc
 refine Fl kind_len plain_len entry_len (args_len1 _) (show wpAny _ _ (F0.«len» _) _ _ _ from ?_)
 unfold F0.«len»; refine A1 (m:=oneArg "len" _) (Ad ?_)
 refine A1 (m:=callSpecial? (.ref d) (A0 "__len__")) (G7 (name:=A0 "__len__") hT Ps (Ds Ps hT F.entry_dict_len (show wpAny _ _ (dictSize d >>= _) _ _ s from ?_) (F.args_dict_len_1 _)))
 unfold dictSize; refine A1 (A1 (Ii ho hdat (Ad (show wpAny _ _ (Ri d >>= _) _ _ s from A1 (wpAny_pendingCount_other hd (Qi ?_))))))
 show wpAny _ _ _ _ _ { s with toks:=s.toks + 1 }; refine A1 (D3 (Ad (A1 (wpAny_letGo ?_))))
 show wpAny _ _ (if ((es.size + 0:Nat):Int) < 0 then _ else _) _ _ _
 rw [if_neg (by omega)]
 show wpAny _ _ (if ((es.size + 0:Nat):Int)>=2 ^ 63 then _ else _) _ _ _
 rw [if_neg (by omega)]
 exact A1 (wpAny_mkInt (Ad ⟨_,rfl,h⟩))
end
noncomputable def kI (ns:List Int):List Key:=ns.map Jk
theorem kI_V (ns:List Int):(kI ns).map kV=ns.map V.int:=by unfold kI; rw [Bp]; rfl
theorem zdJ:∀ {a b:List Int},kI a=kI b->a=b
 | [],[],_=>rfl
 | [],_ :: _,h=>by cases h
 | _ :: _,[],h=>by cases h
 | x :: a,y :: b,h=>by
  unfold kI at h
  rw [Aq,Aq] at h
  injection h with h1 h2
  injection h1 with h1
  rw [h1,zdJ h2]
section
variable {X:Cx}
theorem zeN:CallR X (.builtin "len") (fun xs H Q=>∃ (a:A3) (kvs:List (List Key×V)),xs = [V.ref a]/\H a=some (.dT kvs)/\Q (.int kvs.length) H):=by
 intro pins s σ H xs us Q I r h
 obtain ⟨a,kvs,rfl,ha,q⟩:=h
 obtain ⟨u,rfl,ru⟩:=zb1 r
 cases ru
 obtain ⟨hz,lo,xs,kt,o,es,ep,ho,c,d,e,_⟩:=(show ObjOk X.prog X.w H s.heap a (.dT kvs) from I.hok a _ ha)
 have hl:=Cz kt
 have hl2:es.size=xs.length:=by rw [<- At,e,A5]
 have hz2:sizeLine < 2 ^ 62:=by decide
 refine ed_len lo ho c d (by omega) ⟨.int _,H,I.tok _,⟨_,rfl⟩,?_⟩
 rw [show es.size=kvs.length by omega]
 exact q
end
theorem zdm {a b:Nat} (ha:a < 128) (hb:b < 128) (h:aheadOf (a:Int)=aheadOf (b:Int)):a=b:=by
 have h1:=zbg (n:=(a:Int)) (by omega) (by omega)
 have h2:=zbg (n:=(b:Int)) (by omega) (by omega)
 rw [h,h2] at h1
 omega
noncomputable def akey (s:Nat):List Key:=kI (aheadOf (s:Int))
theorem zcT {a b:Nat} (ha:a < 128) (hb:b < 128) (h:akey a=akey b):a=b:=zdm ha hb (zdJ h)
theorem valV_mem {κ : Type} [DecidableEq κ] {kvs:List (κ × V)} {k : κ}:(valV kvs k).isSome=true ↔ k∈kvs.map (·.1):=by
 rw [<- zbp,Bv,Ah]
 constructor
 ·rintro ⟨x,hx,e⟩; exact ⟨x,hx,of_decide_eq_true e⟩
 ·rintro ⟨x,hx,e⟩; exact ⟨x,hx,decide_eq_true e⟩
theorem zfR {κ : Type} [DecidableEq κ]:∀ {kvs:List (κ × V)} {i:Nat} {k : κ} {v:V},(kvs.map (·.1)).Nodup->kvs[i]?=some (k,v)->valV kvs k=some v
 | [],_,_,_,_,h=>by simp at h
 | p :: kvs,0,k,v,nd,h=>by
  simp at h
  subst h
  exact za0 rfl
 | p :: kvs,i + 1,k,v,nd,h=>by
  rw [Aq,Dv] at nd
  have h':kvs[i]?=some (k,v):=by simpa using h
  rw [zaX (fun z=>nd.1 (z ▸ Ah.mpr ⟨(k,v),B0 h',rfl⟩))]
  exact zfR nd.2 h'
theorem zaV {ks:Combs} {s:Nat} (hs:s < 128) (g:GC ks):(goesOf ks (aheadOf (s:Int))).map (fun p=>(p.1,worth p.2))=stp ks s:=zdu (by omega) (by omega) g
theorem zbb {ks:Combs} {s:Nat} (hs:s < 128) (g:GC ks) {p:Str×List Int} (hp:p∈goesOf ks (aheadOf (s:Int))):(worth p.2).toNat < 128/\0<=worth p.2/\kI p.2=akey (worth p.2).toNat/\(p.1,worth p.2)∈stp ks s:=by
 have hm:(p.1,worth p.2)∈stp ks s:=by rw [<- zaV hs g]; exact Ah.mpr ⟨p,hp,rfl⟩
 have hlt:=zds g hs hm
 refine ⟨hlt.2,hlt.1,?_,hm⟩
 have:∃ a b,p.2=afterOf a b:=by
  unfold goesOf at hp
  split at hp
  ·rw [A7.mp hp]; exact ⟨_,_,rfl⟩
  ·obtain ⟨c,_,rfl⟩:=Ah.mp hp; exact ⟨_,_,rfl⟩
 obtain ⟨a,b,e⟩:=this
 unfold akey
 rw [show (((worth p.2).toNat:Nat):Int)=worth p.2 by have:=hlt.1; show _=_; omega]
 congr 1
 rw [e]
 have hs:afterOf a b=((Ab 7).filter fun i=>decide (((i:Nat):Int)∈afterOf a b)).map fun i=>((i:Nat):Int):=by
  refine zb6 ?_ ((zcU a b).imp fun h=>by omega) ?_
  ·rw [Eh (zba (zcU a b))]
   ·intro t
    simp only [Ah,B9,B5,decide_eq_true_eq]
    constructor
    ·intro h
     have:=zfL t h
     exact ⟨t.toNat,⟨by omega,by rwa [show ((t.toNat:Nat):Int)=t by omega]⟩,by omega⟩
    ·rintro ⟨i,⟨_,h⟩,rfl⟩
     exact h
   ·refine zba ?_
    rw [Cb]
    refine Bi Di (Et ?_ (Dt (n:=7)))
    intro a b h
    omega
  ·rw [Cb]
   refine Bi Di (Et ?_ (Dt (n:=7)))
   intro a b h
   omega
 rw [hs]
 exact (ahead_worth _).symm
theorem zgs {a:A3} {o:Obj} {kvs:List (List Key×V)} {g:TG} {tb:TS} {D:Ends} {σ : St} {H:Hp} (Pv:Nat->St->Hp->Prop) (h0:Pv 0 σ H) (hk:∀ i σ H,Pv i σ H->H a=some (.frz o (.dT kvs)))
  (hs:∀ i k y b σ H,kvs[i]?=some (k,y)->H b=some (.tup (k.map kV))->Pv i σ H->g (.ref b) σ H fun σ2 H2=>tb { D with nx:=Pv (i + 1),ct:=Pv (i + 1),bk:=D.nx } σ2 H2) (hd:∀ σ H,Pv kvs.length σ H->D.nx σ H) :
  ∃ W:Nat->Nat->St->Hp->Prop,(∃ m,W 0 m σ H)/\∀ j m σ H,W j m σ H->((IttD a o kvs).stop j H/\D.nx σ H)\/((IttD a o kvs).go j H/\∃ N:St->Hp->Prop,(∀ σ' H',N σ' H'->∃ m',m' < m/\W (j + 1) m' σ' H') /\
   ∀ x H',(IttD a o kvs).yld j H x H'->g x σ H' fun σ2 H2=>tb { D with nx:=N,ct:=N,bk:=D.nx } σ2 H2):=by
 refine ⟨fun j m σ H=>m=kvs.length - j/\j<=kvs.length/\Pv j σ H,⟨_,rfl,By _,h0⟩,?_⟩
 rintro j m σ H ⟨rfl,hj,p⟩
 by_cases hlt:j < kvs.length
 ·refine .inr ⟨⟨hk _ _ _ p,hlt⟩,Pv (j + 1),fun σ' H' p'=>⟨kvs.length - (j + 1),by omega,rfl,hlt,p'⟩,?_⟩
  rintro x H' ⟨rfl,k,y,b,e1,rfl,e3⟩
  exact hs j k y b σ _ e1 e3 p
 ·have e:j=kvs.length:=by omega
  subst e
  exact .inl ⟨⟨hk _ _ _ p,Aa _⟩,hd σ H p⟩
theorem comp_x2 {K:Am} {J:It} {Ok:Hp->Prop} {L:List V} {tf:TT} {te:TE} {D:A3} {σ0 capv:St} {H1:Hp} {Q:VK} (hσ : σ0=none :: none :: capv) (G:Gives J Ok L) (hL:L.length<=sizeLine) (hD:H1 D=none) (hOk:∀ H,Same H1 H->Ok H) (X Y:Nat->V) (hXY:∀ (i:Nat) x,L[i]?=some x->∃ q,x = .ref q/\H1 q=some (.tup [X i,Y i])) (p:Nat->Bool) (Rel:Hp->Nat->V->Prop)
  (hm:∀ H H' i v,Same H H'->Rel H i v->Rel H' i v) (hw:∀ H i v l l',v ≠ .ref D->H D=some (.lst l)->Rel H i v->Rel (upd H D (.lst l')) i v)
  (ht:∀ i,i < L.length->∀ H R,Same H1 H->(∀ H',Same H H'->R (p i) H')->tf (some (X i) :: some (Y i) :: capv) H R)
  (he:∀ i,i < L.length->p i=true->∀ H R,Same H1 H->H D≠none->(∀ H' v,Same H H'->v ≠ .ref D->Rel H' i v->R v H')->te (some (X i) :: some (Y i) :: capv) H R)
  (hd:∀ H ys,Same H1 H->H D=some (.lst ys)->C7 (fun i y=>y ≠ .ref D/\Rel H i y) ((Ab L.length).filter p) ys->Q (.ref D) H) :
  CompW J D σ0 H1 (gTup K 2 (gCons (gName 0) (gCons (gName 1) gNil))) tf te Q:=by
 subst hσ
 refine zgD G (fun i xs σ H=>(∃ o1 o2,σ = o1 :: o2 :: capv)/\Same H1 H/\H D=some (.lst xs)/\C7 (fun i y=>y ≠ .ref D/\Rel H i y) ((Ab i).filter p) xs) ⟨⟨none,none,rfl⟩,Same.new hD,zab,.nil⟩ (fun i xs σ H _ h=>hOk H h.2.1) ?_ ?_
 ·rintro i x xs σ H hi hx ⟨⟨o1,o2,rfl⟩,s,e,hr⟩
  obtain ⟨qx,rfl,hqx⟩:=hXY i x hx
  refine ⟨qx,[X i,Y i],rfl,SqT.of (s _ _ hqx),rfl,_,_,rfl,_,_,rfl,rfl,?_⟩
  show tf (some (X i) :: some (Y i) :: capv) H _
  refine ht i hi H _ s fun H' s' => ?_
  have hxl:xs.length<=i:=by
   rw [<- Cz hr]
   exact C5 (D6 _ _) (by rw [Ax]; omega)
  have efil:(Ab (i + 1)).filter p=(Ab i).filter p ++ if p i=true then [i] else []:=by
   rw [E6,Db]
   congr 1
   rw [Cy,F6]
  cases hp:p i with
  | true =>
   rw [if_pos rfl]
   refine he i hi hp H' _ (s.trans s') (by rw [s' _ _ e]; exact nofun) fun H2 v s2 hv rv => ?_
   have e2:=s2 _ _ (s' _ _ e)
   refine CNext.of hi hL e2 hxl ⟨⟨_,_,rfl⟩,((s.trans s').trans s2).put hD,zab,?_⟩
   rw [efil,if_pos hp]
   exact Ev (C7.mapP hr fun j y z=>⟨z.1,hw _ _ _ _ _ z.1 e2 (hm _ _ _ _ (s'.trans s2) z.2)⟩) ⟨hv,hw _ _ _ _ _ hv e2 rv⟩
  | false =>
   rw [if_neg A9]
   refine CSkip.of (xs:=xs) hi ⟨⟨_,_,rfl⟩,s.trans s',s' _ _ e,?_⟩
   rw [efil,if_neg (by rw [hp]; exact A9),C9]
   exact C7.mapP hr fun j y z=>⟨z.1,hm _ _ _ _ s' z.2⟩
 ·rintro xs σ H ⟨_,s,e,hr⟩
  exact hd H xs s e hr
theorem zgC {K:Am} {J:It} {Ok:Hp->Prop} {L:List V} {tf:TT} {te:TE} {D:A3} {σ0 capv:St} {H1:Hp} {Q:VK} (hσ : σ0=none :: none :: capv) (G:Gives J Ok L) (hL:L.length<=sizeLine) (hD:H1 D=none) (hOk:∀ H,Same H1 H->Ok H) (X Y:Nat->V) (hXY:∀ (i:Nat) x,L[i]?=some x->∃ q,x = .ref q/\H1 q=some (.tup [X i,Y i])) (p:Nat->Bool) (F:Nat->V) (hF:∀ i,i < L.length->p i=true->F i ≠ .ref D)
  (ht:∀ i,i < L.length->∀ H R,Same H1 H->(∀ H',Same H H'->R (p i) H')->tf (some (X i) :: some (Y i) :: capv) H R)
  (he:∀ i,i < L.length->p i=true->∀ H R,Same H1 H->(∀ H',Same H H'->R (F i) H')->te (some (X i) :: some (Y i) :: capv) H R)
  (hd:∀ H,Same H1 H->H D=some (.lst (((Ab L.length).filter p).map F))->Q (.ref D) H) :
  CompW J D σ0 H1 (gTup K 2 (gCons (gName 0) (gCons (gName 1) gNil))) tf te Q:=by
 refine comp_x2 hσ G hL hD hOk X Y hXY p (fun _ i v=>v=F i) (fun _ _ _ _ _ h=>h) (fun _ _ _ _ _ _ _ h=>h) ht (fun i hi hp H R s _ h=>he i hi hp H R s fun H' s'=>h H' _ s' (hF i hi hp) rfl) fun H ys s e pr=>hd H s ?_
 rw [e]
 have:∀ {l:List Nat} {m:List V},C7 (fun i y=>y ≠ .ref D/\y=F i) l m->m=l.map F:=by
  intro l m q
  induction q with
  | nil=>rfl
  | cons h _ ih=>rw [Aq,<- ih,h.2]
 rw [this pr]
theorem GoesR.nth {H:Hp} {vs:List V} {gs:List (Str×List Int)} (r:GoesR H vs gs) {i:Nat} {x:V} (h:vs[i]?=some x):∃ q t,x = .ref q/\H q=some (.tup [.str (gs.getD i ("",[])).1,.ref t])/\H t=some (.tup ((gs.getD i ("",[])).2.map V.int))/\i < gs.length:=by
 have hi:i < gs.length:=by rw [<- r.length]; exact (Ao.mp h).1
 obtain ⟨q,t,e1,e2,e3⟩:=r.get (A6 hi)
 rw [h] at e1
 cases e1
 refine ⟨q,t,rfl,?_,?_,hi⟩
 ·rw [Aj,A6 hi]; exact e2
 ·rw [Aj,A6 hi]; exact e3
noncomputable def tupY (H:Hp) (vs:List V) (i:Nat):V:=match vs[i]? with
 | some (.ref q)=>match H q with
  | some (.tup [_,y])=>y
  | _ => .non
 | _ => .non
theorem zdP {H:Hp} {vs:List V} {i:Nat} {q:A3} {x y:V} (h1:vs[i]?=some (.ref q)) (h2:H q=some (.tup [x,y])):tupY H vs i=y:=by
 unfold tupY
 rw [h1]
 simp only [h2]
theorem zf8 {X:Cx} {pos:Pos} (K:Am) (hK:X.K=K) {es:List Ce} {k:Nat} {t:TGs} {n:Nat} (hc:X.calm=true) (h:PGs X es t)
  (hn:(assignEach es X.env).length=n:=by rfl) (hst:(assignEach es X.env).findIdx? (·.1)=none:=by rfl):PG X (.Tuple es k pos) (gTup K n t):=by
 subst hK
 exact zdF hc h hn hst
noncomputable def ind (b:Bool):Nat:=if b=true then 1 else 0
structure Tile (sp:Nat) (al ta:Nat->Nat->Bool):Prop where
 pos:1<=sp
 pa:∀ k d,al (k + sp) d=al k d
 pt:∀ k d,ta (k + sp) d=ta k d
 la:∀ k d,7<=d->al k d=false
 lt:∀ k d,8<=d->ta k d=false
 one:∀ k,ind (al k 0) + ind (ta k 0)=1
 step:∀ k d,ind (al (k + 1) d)=ind (al k (d + 1)) + ind (ta k (d + 1))
namespace Tile
variable {sp:Nat} {al ta:Nat->Nat->Bool}
end Tile
noncomputable def tkOf (C:Combs) (x:Str):List Int:=(cGet C x).getD []
theorem zc8 {ah ts:List Int} (ha:∀ t∈ah,0<=t/\t<=6) (ht:∀ t∈ts,0<=t/\t<=7) (d:Nat):(d:Int)∈afterOf ah ts ↔ ((d + 1:Nat):Int)∈ah\/((d + 1:Nat):Int)∈ts:=by
 unfold afterOf
 rw [Ah]
 constructor
 ·rintro ⟨y,hy,e⟩
  obtain ⟨h1,h2⟩:=B9.mp hy
  have h3:=(mem_canon.mp h1).1
  rw [show ((d + 1:Nat):Int)=y by omega]
  exact Al.mp h3
 ·intro h
  refine ⟨((d + 1:Nat):Int),B9.mpr ⟨mem_canon.mpr ⟨Al.mpr h,?_⟩,decide_eq_true (by omega)⟩,by omega⟩
  rcases h with h | h
  ·have:=ha _ h; omega
  ·exact ht _ h
theorem tk_perm {C C':Combs} (p:C.Perm C') (nd:(C.map (·.1)).Nodup) (x:Str):cGet C x=cGet C' x:=by
 have nd':(C'.map (·.1)).Nodup:=(p.map _).nodup_iff.mp nd
 cases e:cGet C x with
 | none =>
  symm
  rw [get_none] at e ⊢
  exact fun z=>e ((p.map _).mem_iff.mpr z)
 | some ts=>exact (zc7 nd' (p.mem_iff.mp (zd5 e))).symm
noncomputable def laid (nm:Nat->Str) (sp:Nat):List Nat:=(Ab sp).filter fun j=>decide (nm j≠A0 "")
theorem KindsL.getG {G:A3->Prop} {H:Hp}:∀ {vs:List V} {ks:List (Str×List Int)} {i:Nat} {v:V},KindsL G H vs ks->vs[i]?=some v->∃ k q t,ks[i]?=some k/\v = .ref q/\H q=some (.lst [.str k.1,.ref t])/\H t=some (.lst (k.2.map V.int))/\G t
 | [],[],_,_,_,e=>by simp at e
 | _ :: _,k :: _,0,_,⟨⟨q,t,e,h1,h2,g1,g2⟩,_⟩,z=>by
  simp at z
  subst z
  exact ⟨k,q,t,rfl,e,h1,h2,g2⟩
 | _ :: _,_ :: _,i + 1,_,⟨_,b⟩,z=>by
  obtain ⟨k,q,t,h⟩:=KindsL.getG (i:=i) b (by simpa using z)
  exact ⟨k,q,t,by simpa using h⟩
 | [],_ :: _,_,_,x,_=>x.elim
 | _ :: _,[],_,_,x,_=>x.elim
theorem KindsL.live {G:A3->Prop} {H:Hp}:∀ {vs:List V} {ks:List (Str×List Int)},KindsL G H vs ks->KindsL (fun x=>H x≠none) H vs ks
 | [],[],_=>trivial
 | _ :: _,_ :: _,⟨⟨q,t,e,h1,h2,_,_⟩,r⟩=>⟨⟨q,t,e,h1,h2,(show H q≠none by rw [h1]; exact nofun),(show H t≠none by rw [h2]; exact nofun)⟩,KindsL.live r⟩
 | [],_ :: _,x=>x.elim
 | _ :: _,[],x=>x.elim
theorem Drawn.live {G:A3->Prop} {H:Hp} {vs:List V} {ks:List (Str×List Int)} (d:Drawn G H vs ks):Drawn (fun x=>H x≠none) H vs ks:=⟨d.rows.live,d.nd,d.good⟩
noncomputable abbrev gallopS:Bool->Keyed->Array Keyed->Nat->Nat->Nat->StateT SortSt Sem (Option Nat):=sortPriv% PySem.Builtin.gallop
structure Ranks (prog:Ap) (w:Bb) (A:B7) (E:A2->A4->Prop) (s:A4) (kd:Ff) (S:Ay->Prop) (rk:Ay->Int):Prop where
 ask:∀ {x y:Ay} {st:C3} {Q:Option Bool->C3->Prop},S x->S y->kindOf st=kd->Q (some (decide (rk x < rk y))) st->wpS (model prog w) A E s (lt' x y) Q st
section
variable {prog:Ap} {w:Bb} {A:B7} {E:A2->A4->Prop} {s:A4} {kd:Ff} {S:Ay->Prop} {rk:Ay->Int}
noncomputable def kAt (rk:Ay->Int) (arr:Array Ay) (i:Nat):Int:=match arr[i]? with
 | some x=>rk x
 | none=>0
theorem zaY {arr:Array Ay} {i:Nat} (h:i < arr.size):kAt rk arr i=rk arr[i]:=by unfold kAt; rw [Hi h]
theorem zaJ {arr:Array Ay} {i:Nat} {Q:Ay->C3->Prop} {st:C3} (h:i < arr.size) (q:Q arr[i] st):wpS (model prog w) A E s (elem' arr i) Q st:=by
 rw [elem'_eq,Hi h]
 exact Ar q
noncomputable def Up2 (rk:Ay->Int) (arr:Array Ay) (lo hi:Nat):Prop:=∀ i j,lo<=i->i<=j->j < hi->kAt rk arr i<=kAt rk arr j
theorem zbG (C:Ranks prog w A E s kd S rk) {left:Bool} {key:Ay} {arr:Array Ay} {b n hint:Nat} {Q:Option Nat->C3->Prop} {st:C3} (hk:S key) (hS:∀ i (h:i < arr.size),b<=i->i < b + n->S arr[i]) (sz:b + n<=arr.size) (hh:hint < n) (up:Up2 rk arr b (b + n)) (hst:kindOf st=kd)
  (q:∀ k,k<=n->(∀ i,i < k->(if left=true then kAt rk arr (b + i) < rk key else kAt rk arr (b + i)<=rk key))->(∀ i,k<=i->i < n->(if left=true then rk key<=kAt rk arr (b + i) else rk key < kAt rk arr (b + i)))->Q (some k) st) :
  wpS (model prog w) A E s (gallopS left key arr b n hint) Q st:=by
 obtain ⟨P,hP⟩:∃ P:Nat->Bool,P=fun i=>if left=true then decide (kAt rk arr (b + i) < rk key) else decide (kAt rk arr (b + i)<=rk key):=⟨_,rfl⟩
 have mono:∀ i j,i<=j->j < n->P j=true->P i=true:=fun i j hij hj h=>by
  have:=up (b + i) (b + j) (by omega) (by omega) (by omega)
  rw [hP] at h ⊢
  dsimp only at h ⊢
  cases left
  ·simp at h ⊢; omega
  ·simp at h ⊢; omega
 have q':∀ k,k<=n->(∀ i,i < k->P i=true)->(∀ i,k<=i->i < n->P i=false)->Q (some k) st:=fun k h1 h2 h3=>by
  refine q k h1 (fun i hi => ?_) (fun i h4 h5 => ?_)
  ·have:=h2 i hi
   rw [hP] at this
   cases left <;> simpa using this
  ·have:=h3 i h4 h5
   rw [hP] at this
   cases left <;> simpa using this
 have bey:∀ i,i < n->∀ (Q':Option Bool->C3->Prop),Q' (some (P i)) st->wpS (model prog w) A E s (do
   let x <- elem' arr (b + i)
   if left=true then lt' x key else do
    let r <- lt' key x
    pure (Pp (fun x => !x) r)) Q' st:=fun i hi Q' h=>by
  refine Ak (zaJ (by omega) ?_)
  have hSi:=hS (b + i) (by omega) (by omega) (by omega)
  have e:=zaY (rk:=rk) (show b + i < arr.size by omega)
  cases hl:left with
  | true =>
   rw [if_pos rfl]
   refine C.ask hSi hk hst ?_
   rw [hP,hl] at h
   simpa [e] using h
  | false =>
   rw [if_neg A9]
   refine Ak (C.ask hk hSi hst (Ar ?_))
   rw [hP,hl] at h
   have e2:(!decide (rk key < rk arr[b + i]))=decide (kAt rk arr (b + i)<=rk key):=by
    rw [e,<- decide_not,decide_eq_decide]; omega
   show Q' (some (!decide (rk key < rk arr[b + i]))) st
   rw [e2]
   simpa using h
 have bin:∀ lo hi,lo<=hi->hi<=n->(∀ i,i < lo->P i=true)->(∀ i,hi<=i->i < n->P i=false)->∀ (F:Nat->Option (Option Nat)×Nat×Nat->StateT C3 Sem (ForInStep (Option (Option Nat)×Nat×Nat))),
   (∀ x lo hi,lo < hi->hi<=n->∀ R:ForInStep (Option (Option Nat)×Nat×Nat)->C3->Prop,R (.yield (none,if P (lo + (hi - lo) / 2)=true then (lo + (hi - lo) / 2 + 1,hi) else (lo,lo + (hi - lo) / 2))) st->wpS (model prog w) A E s (F x (none,lo,hi)) R st) ->
   (∀ x lo hi,hi<=lo->∀ R:ForInStep (Option (Option Nat)×Nat×Nat)->C3->Prop,R (.done (none,lo,hi)) st->wpS (model prog w) A E s (F x (none,lo,hi)) R st) ->
   wpS (model prog w) A E s (forIn [:n] (none,lo,hi) F) (fun c st'=>st'=st/\∃ k,c.1=none/\c.2.2=k/\k<=n/\(∀ i,i < k->P i=true)/\(∀ i,k<=i->i < n->P i=false)) st:=fun lo hi h1 h2 h3 h4 F f1 f2=>by
  refine Da (I:=fun x c st'=>st'=st/\∃ lo hi,c=(none,lo,hi)/\lo<=hi/\hi<=n/\hi - lo + x<=n/\(∀ i,i < lo->P i=true)/\(∀ i,hi<=i->i < n->P i=false)) ?_ ?_ ⟨rfl,lo,hi,rfl,h1,h2,by omega,h3,h4⟩
  ·rintro x c st' _ hx ⟨rfl,lo,hi,rfl,a1,a2,a3,a4,a5⟩
   by_cases e:lo < hi
   ·refine f1 x lo hi e a2 _ ?_
    dsimp only
    cases hm:P (lo + (hi - lo) / 2) with
    | true=>exact ⟨rfl,lo + (hi - lo) / 2 + 1,hi,rfl,by omega,a2,by omega,fun i hi'=>mono i (lo + (hi - lo) / 2) (by omega) (by omega) hm,a5⟩
    | false =>
     refine ⟨rfl,lo,lo + (hi - lo) / 2,rfl,by omega,by omega,by omega,a4,fun i h6 h7 => ?_⟩
     cases hz:P i with
     | false=>rfl
     | true=>rw [mono _ i h6 h7 hz] at hm; cases hm
   ·exact f2 x lo hi (by omega) _ ⟨rfl,hi,rfl,rfl,a2,fun i hi'=>a4 i (by omega),a5⟩
  ·rintro c st' ⟨rfl,lo,hi,rfl,a1,a2,a3,a4,a5⟩
   exact ⟨rfl,hi,rfl,rfl,a2,fun i hi'=>a4 i (by omega),a5⟩
 refine Ak (bey hint hh _ ?_)
 dsimp only
 cases hr:P hint with
 | true =>
  rw [if_pos rfl]
  refine Ak (Ef (Da (I:=fun x c st'=>st'=st/\∃ la off,c=(none,la,off)/\la < off/\x + 1<=off/\hint + la < n/\P (hint + la)=true) (Q:=fun c st'=>st'=st/\∃ la off,c=(none,la,off)/\la < off/\hint + la < n/\P (hint + la)=true/\(n - hint<=off\/(off < n - hint/\P (hint + off)=false))) ?step ?fin ⟨rfl,0,1,rfl,by omega,by omega,by omega,hr⟩) ?post)
  case fin =>
   rintro c st' ⟨rfl,la,off,rfl,a1,a2,a3,a4⟩
   exact ⟨rfl,la,off,rfl,a1,a3,a4,.inl (by omega)⟩
  case step =>
   rintro x c st' _ hx ⟨rfl,la,off,rfl,a1,a2,a3,a4⟩
   dsimp only
   by_cases e:off>=n - hint
   ·rw [if_pos e]
    exact Ar ⟨rfl,la,off,rfl,a1,a3,a4,.inl e⟩
   ·rw [if_neg e]
    refine Ak (bey (hint + off) (by omega) _ ?_)
    dsimp only
    cases hm:P (hint + off) with
    | true =>
     rw [if_neg (by decide)]
     exact Ar ⟨rfl,off,2 * off + 1,rfl,by omega,by omega,by omega,hm⟩
    | false =>
     rw [if_pos (by decide)]
     exact Ar ⟨rfl,la,off,rfl,a1,a3,a4,.inr ⟨by omega,hm⟩⟩
  case post =>
   rintro c st' ⟨rfl,la,off,rfl,a1,a3,a4,a5⟩
   dsimp only
   refine Ak (Ef (bin (hint + la + 1) (hint + min off (n - hint)) (by omega) (by omega) (fun i hi=>mono i (hint + la) (by omega) a3 a4) (fun i h6 h7 => ?_) _ (fun x lo hi h1 h2 R hR => ?_) fun x lo hi h1 R hR => ?_) (by rintro ⟨r,lo',hi'⟩ st2 ⟨rfl,k,e1,e2,h1,h2,h3⟩; dsimp only at e1 e2 ⊢; subst e1 e2; exact Ar (q' _ h1 h2 h3)))
   ·rcases a5 with z | ⟨z1,z2⟩
    ·omega
    ·cases hz:P i with
     | false=>rfl
     | true=>rw [mono (hint + off) i (by omega) h7 hz] at z2; cases z2
   ·dsimp only
    rw [if_neg (by omega)]
    refine Ak (bey _ (by omega) _ ?_)
    dsimp only
    cases hm:P (lo + (hi - lo) / 2) with
    | true=>rw [if_pos rfl]; rw [hm,if_pos rfl] at hR; exact Ar hR
    | false=>rw [if_neg A9]; rw [hm,if_neg A9] at hR; exact Ar hR
   ·dsimp only
    rw [if_pos h1]
    exact Ar hR
 | false =>
  rw [if_neg A9]
  refine Ak (Ef (Da (I:=fun x c st'=>st'=st/\∃ la off,c=(none,la,off)/\la < off/\x + 1<=off/\la<=hint/\P (hint - la)=false) (Q:=fun c st'=>st'=st/\∃ la off,c=(none,la,off)/\la < off/\la<=hint/\P (hint - la)=false/\(hint + 1<=off\/(off < hint + 1/\P (hint - off)=true))) ?step ?fin ⟨rfl,0,1,rfl,by omega,by omega,by omega,hr⟩) ?post)
  case fin =>
   rintro c st' ⟨rfl,la,off,rfl,a1,a2,a3,a4⟩
   exact ⟨rfl,la,off,rfl,a1,a3,a4,.inl (by omega)⟩
  case step =>
   rintro x c st' _ hx ⟨rfl,la,off,rfl,a1,a2,a3,a4⟩
   dsimp only
   by_cases e:off>=hint + 1
   ·rw [if_pos e]
    exact Ar ⟨rfl,la,off,rfl,a1,a3,a4,.inl e⟩
   ·rw [if_neg e]
    refine Ak (bey (hint - off) (by omega) _ ?_)
    dsimp only
    cases hm:P (hint - off) with
    | true =>
     rw [if_pos rfl]
     exact Ar ⟨rfl,la,off,rfl,a1,a3,a4,.inr ⟨by omega,hm⟩⟩
    | false =>
     rw [if_neg A9]
     exact Ar ⟨rfl,off,2 * off + 1,rfl,by omega,by omega,by omega,hm⟩
  case post =>
   rintro c st' ⟨rfl,la,off,rfl,a1,a3,a4,a5⟩
   dsimp only
   refine Ak (Ef (bin (hint + 1 - min off (hint + 1)) (hint - la) (by omega) (by omega) (fun i hi => ?_) (fun i h6 h7 => ?_) _ (fun x lo hi h1 h2 R hR => ?_) fun x lo hi h1 R hR => ?_) (by rintro ⟨r,lo',hi'⟩ st2 ⟨rfl,k,e1,e2,h1,h2,h3⟩; dsimp only at e1 e2 ⊢; subst e1 e2; exact Ar (q' _ h1 h2 h3)))
   ·rcases a5 with z | ⟨z1,z2⟩
    ·omega
    ·exact mono i (hint - off) (by omega) (by omega) z2
   ·cases hz:P i with
    | false=>rfl
    | true=>rw [mono (hint - la) i h6 h7 hz] at a4; cases a4
   ·dsimp only
    rw [if_neg (by omega)]
    refine Ak (bey _ (by omega) _ ?_)
    dsimp only
    cases hm:P (lo + (hi - lo) / 2) with
    | true=>rw [if_pos rfl]; rw [hm,if_pos rfl] at hR; exact Ar hR
    | false=>rw [if_neg A9]; rw [hm,if_neg A9] at hR; exact Ar hR
   ·dsimp only
    rw [if_pos h1]
    exact Ar hR
end
noncomputable abbrev Srt (rk:Ay->Int) (l:List Ay):Prop:=l.Pairwise fun x y=>rk x<=rk y
structure MI (rk:Ay->Int) (la lb out:List Ay) (ia ib:Nat):Prop where
 perm:out.Perm (la.take ia ++ lb.take ib)
 srt:Srt rk out
 low:∀ x∈out,(∀ y∈la.drop ia,rk x<=rk y)/\∀ y∈lb.drop ib,rk x<=rk y
noncomputable def MFin (rk:Ay->Int) (la lb res:List Ay):Prop:=res.Perm (la ++ lb)/\Srt rk res
section
variable {rk:Ay->Int} {la lb out:List Ay} {ia ib:Nat}
theorem za7 {l:List Ay} {i:Nat} (h:i < l.length):l.drop i=l[i] :: l.drop (i + 1):=Hk h
theorem zdT {l:List Ay} (s:Srt rk l) {i:Nat} (h:i < l.length):∀ y∈l.drop (i + 1),rk l[i]<=rk y:=by
 have:=Bi (Fw i l) s
 rw [za7 h] at this
 exact (Jv.mp this).1
theorem MI.pushA (m:MI rk la lb out ia ib) (sa:Srt rk la) (h:ia < la.length) (hb:∀ y∈lb.drop ib,rk la[ia]<=rk y):MI rk la lb (out ++ [la[ia]]) (ia + 1) ib:=by
 have hd:=za7 h
 refine ⟨?_,?_,fun x hx => ?_⟩
 ·rw [Cs h]
  have:=m.perm.append_right [la[ia]]
  refine this.trans ?_
  rw [Au,Au]
  exact Dh _ Dw
 ·refine C1.mpr ⟨m.srt,by simp,fun x hx y hy => ?_⟩
  rw [A7.mp hy]
  exact (m.low x hx).1 _ (by rw [hd]; exact Ai)
 ·rcases Al.mp hx with z | z
  ·exact ⟨fun y hy=>(m.low x z).1 y (by rw [hd]; exact Ac _ hy),(m.low x z).2⟩
  ·rw [A7.mp z]
   exact ⟨zdT sa h,hb⟩
theorem MI.pushB (m:MI rk la lb out ia ib) (sb:Srt rk lb) (h:ib < lb.length) (ha:∀ y∈la.drop ia,rk lb[ib]<=rk y):MI rk la lb (out ++ [lb[ib]]) ia (ib + 1):=by
 have hd:=za7 h
 refine ⟨?_,?_,fun x hx => ?_⟩
 ·rw [Cs h]
  have:=m.perm.append_right [lb[ib]]
  rwa [Au] at this
 ·refine C1.mpr ⟨m.srt,by simp,fun x hx y hy => ?_⟩
  rw [A7.mp hy]
  exact (m.low x hx).2 _ (by rw [hd]; exact Ai)
 ·rcases Al.mp hx with z | z
  ·exact ⟨(m.low x z).1,fun y hy=>(m.low x z).2 y (by rw [hd]; exact Ac _ hy)⟩
  ·rw [A7.mp z]
   exact ⟨ha,zdT sb h⟩
theorem MI.moreA (sa:Srt rk la):∀ {k ia:Nat} {out:List Ay},MI rk la lb out ia ib->ia + k<=la.length->(∀ i (h:i < la.length),ia<=i->i < ia + k->∀ y∈lb.drop ib,rk la[i]<=rk y)->MI rk la lb (out ++ (la.drop ia).take k) (ia + k) ib
 | 0,ia,out,m,_,_=>by simpa using m
 | k + 1,ia,out,m,h,hy=>by
  have m1:=m.pushA sa (by omega) (hy ia (by omega) (Aa _) (by omega))
  have m2:=MI.moreA sa (k:=k) m1 (by omega) fun i hi h1 h2=>hy i hi (by omega) (by omega)
  rw [za7 (show ia < la.length by omega),Gn]
  rw [Au,Mw,show ia + 1 + k=ia + (k + 1) by omega] at m2
  exact m2
theorem MI.moreB (sb:Srt rk lb):∀ {k ib:Nat} {out:List Ay},MI rk la lb out ia ib->ib + k<=lb.length->(∀ i (h:i < lb.length),ib<=i->i < ib + k->∀ y∈la.drop ia,rk lb[i]<=rk y)->MI rk la lb (out ++ (lb.drop ib).take k) ia (ib + k)
 | 0,ib,out,m,_,_=>by simpa using m
 | k + 1,ib,out,m,h,hy=>by
  have m1:=m.pushB sb (by omega) (hy ib (by omega) (Aa _) (by omega))
  have m2:=MI.moreB sb (k:=k) m1 (by omega) fun i hi h1 h2=>hy i hi (by omega) (by omega)
  rw [za7 (show ib < lb.length by omega),Gn]
  rw [Au,Mw,show ib + 1 + k=ib + (k + 1) by omega] at m2
  exact m2
theorem MI.restA (m:MI rk la lb out ia lb.length) (sa:Srt rk la):MFin rk la lb (out ++ la.drop ia):=by
 refine ⟨?_,C1.mpr ⟨m.srt,Bi (Fw _ _) sa,fun x hx y hy=>(m.low x hx).1 y hy⟩⟩
 have:=m.perm.append_right (la.drop ia)
 rw [C8] at this
 refine this.trans ?_
 rw [Au]
 refine (Dh _ Dw).trans ?_
 rw [<- Au,Cc]
theorem MI.restB (m:MI rk la lb out la.length ib) (sb:Srt rk lb):MFin rk la lb (out ++ lb.drop ib):=by
 refine ⟨?_,C1.mpr ⟨m.srt,Bi (Fw _ _) sb,fun x hx y hy=>(m.low x hx).2 y hy⟩⟩
 have:=m.perm.append_right (lb.drop ib)
 rw [C8,Au,Cc] at this
 exact this
theorem MI.restBA (m:MI rk la lb out ia ib) (sa:Srt rk la) (sb:Srt rk lb) (h:∀ x∈lb.drop ib,∀ y∈la.drop ia,rk x<=rk y):MFin rk la lb (out ++ lb.drop ib ++ la.drop ia):=by
 refine ⟨?_,C1.mpr ⟨C1.mpr ⟨m.srt,Bi (Fw _ _) sb,fun x hx y hy=>(m.low x hx).2 y hy⟩,Bi (Fw _ _) sa,fun x hx y hy => ?_⟩⟩
 ·have:=m.perm.append_right (lb.drop ib ++ la.drop ia)
  rw [<- Au] at this
  refine this.trans ?_
  rw [Au,<- Au (lb.take ib),Cc]
  refine (Dh _ Dw).trans ?_
  rw [<- Au,Cc]
 ·rcases Al.mp hx with z | z
  ·exact (m.low x z).1 y hy
  ·exact h x z y hy
end
theorem zaQ (a:Array Ay) (i j:Nat):(a.extract i j).toList=(a.toList.drop i).take (j - i):=by simp
theorem zaS (a:Array Ay) (i:Nat):(a.extract i).toList=a.toList.drop i:=by
 rw [zaQ]
 exact Il (by simp)
noncomputable def Like (st st':C3):Prop:=kindOf st'=kindOf st/\arrOf st'=arrOf st/\pendingOf st'=pendingOf st/\failedOf st'=failedOf st
theorem Like.refl (st:C3):Like st st:=⟨rfl,rfl,rfl,rfl⟩
noncomputable abbrev mergeLoS:Array Keyed->Array Keyed->StateT SortSt Sem (Array Keyed):=sortPriv% PySem.Builtin.mergeLo
theorem zgJ {rk:Ay->Int} {arr:Array Ay} (s:Srt rk arr.toList) {lo hi:Nat} (h:hi<=arr.size):Up2 rk arr lo hi:=fun i j _ hij hj=>by
 rw [zaY (show i < arr.size by omega),zaY (show j < arr.size by omega)]
 by_cases e:i=j
 ·subst e; exact E2 _
 ·have:=D1.mp s i j (by simpa using (show i < arr.size by omega)) (by simpa using (show j < arr.size by omega)) (by omega)
  simpa using this
theorem zaq (a:Array Ay) {i:Nat} (h:i < a.size):a.toList[i]'(by simpa using h)=a[i]:=by simp
theorem zb9 {l:List Ay} {i:Nat} {y:Ay} (h:y∈l.drop i):∃ j,∃ hj:j < l.length,i<=j/\l[j]=y:=by
 obtain ⟨j,hj,e⟩:=Es h
 rw [Ge] at hj
 rw [K2] at e
 exact ⟨i + j,by omega,by omega,e⟩
theorem zcL {rk:Ay->Int} {l:List Ay} (s:Srt rk l) {i:Nat} (h:i < l.length):∀ y∈l.drop i,rk l[i]<=rk y:=fun y hy=>by
 rw [za7 h] at hy
 rcases Bf.mp hy with rfl | z
 ·exact E2 _
 ·exact zdT s h y z
theorem zal {M:Hv} {A:B7} {E:A2->A4->Prop} {s:A4} {σ α : Type} {c:Prop} [Decidable c] {x y:StateT σ Sem α} {Q : α -> σ -> Prop} {st : σ} (h1:c->wpS M A E s x Q st) (h2:¬ c->wpS M A E s y Q st):wpS M A E s (if c then x else y) Q st:=by
 by_cases h:c
 ·rw [if_pos h]; exact h1 h
 ·rw [if_neg h]; exact h2 h
theorem zfa {M:Hv} {A:B7} {E:A2->A4->Prop} {s:A4} {σ α : Type} {c:Prop} [Decidable c] {x y:StateT σ Sem α} {Q : α -> σ -> Prop} {st : σ} (h2:¬ c->wpS M A E s y Q st) (h1:c->wpS M A E s x Q st):wpS M A E s (if c then x else y) Q st:=zal h1 h2
theorem zfU {X G:Prop} (k:X->G) (h:X):G:=k h
theorem zbf {M:Hv} {A:B7} {E:A2->A4->Prop} {s:A4} {f:C3->C3} {Q:PUnit->C3->Prop} {st:C3} (hf:Like st (f st)) (h:∀ st',Like st st'->Q ⟨⟩ st'):wpS M A E s (modify f:StateT C3 Sem PUnit) Q st:=Ko (h _ hf)
theorem Like.trans {a b c:C3} (h:Like a b) (k:Like b c):Like a c:=⟨k.1.trans h.1,k.2.1.trans h.2.1,k.2.2.1.trans h.2.2.1,k.2.2.2.trans h.2.2.2⟩
section
variable {prog:Ap} {w:Bb} {A:B7} {E:A2->A4->Prop} {s:A4} {kd:Ff} {S:Ay->Prop} {rk:Ay->Int}
theorem mergeLo_ok (C:Ranks prog w A E s kd S rk) {a b:Array Ay} {Q:Array Ay->C3->Prop} {st:C3} (ha:0 < a.size) (hb:0 < b.size) (sa:Srt rk a.toList) (sb:Srt rk b.toList) (Sa:∀ i (h:i < a.size),S a[i]) (Sb:∀ i (h:i < b.size),S b[i]) (h0:∀ y∈a.toList,rk b[0]<=rk y) (hl:∀ y∈b.toList,rk y<=rk (a[a.size - 1]'(by omega))) (hst:kindOf st=kd)
  (q:∀ res st',Like st st'->MFin rk a.toList b.toList res.toList->Q res st'):wpS (model prog w) A E s (mergeLoS a b) Q st:=by
 have la:a.toList.length=a.size:=At
 have lb:b.toList.length=b.size:=At
 have m0:MI rk a.toList b.toList [b[0]] 0 1:=by
  have mm:MI rk a.toList b.toList [] 0 0:=⟨by simp,Fo,fun x hx=>by cases hx⟩
  have:=mm.pushB sb (by omega) (by rw [Lc,zaq b hb]; exact h0)
  rw [zaq b hb] at this
  exact this
 have lastA:∀ ib,∀ x∈b.toList.drop ib,∀ ia,ia + 1=a.size->∀ y∈a.toList.drop ia,rk x<=rk y:=fun ib x hx ia e y hy=>by
  obtain ⟨j,hj,h1,e2⟩:=zb9 hy
  have:j=a.size - 1:=by omega
  subst this
  rw [<- e2,zaq a (by omega)]
  exact hl x (List.mem_of_mem_drop hx)
 have doneA:∀ {out:List Ay} {ia ib:Nat},MI rk a.toList b.toList out ia ib->ib=b.size->MFin rk a.toList b.toList (out ++ a.toList.drop ia ++ b.toList.drop ib):=fun m e=>by
  subst e
  rw [<- lb] at m ⊢
  rw [Ol,C9]
  exact m.restA sa
 have doneB:∀ {out:List Ay} {ia ib:Nat},MI rk a.toList b.toList out ia ib->ia=a.size->MFin rk a.toList b.toList (out ++ a.toList.drop ia ++ b.toList.drop ib):=fun m e=>by
  subst e
  rw [<- la] at m ⊢
  rw [Ol,C9]
  exact m.restB sb
 refine Ak (Jw (Fz ⟨rfl,?_⟩))
 dsimp only
 refine Ak (zaJ hb ?_)
 refine zal (fun e1 => ?_) (fun e1 => ?_)
 ·have e1:1=b.size:=by simpa using e1
  refine Ar (q _ st (Like.refl st) ?_)
  have:=doneA m0 e1
  simp only [B6,Ch,zaS]
  exact this
 refine zal (fun e2 => ?_) (fun e2 => ?_)
 ·have e2:0 + 1=a.size:=by simpa using e2
  refine Ar (q _ st (Like.refl st) ?_)
  have:=m0.restBA sa sb (fun x hx y hy=>lastA 1 x hx 0 e2 y hy)
  simp only [B6,Ch,zaS]
  exact this
 have e1:¬ 1=b.size:=by simpa using e1
 have e2:¬ 0 + 1=a.size:=by simpa using e2
 refine Ak (Ih ?_)
 refine Ak (Ef (Da (I:=fun x c st'=>Like st st'/\∃ (out:Array Ay) (ia ib g:Nat),c=(none,out,ia,ib,g)/\MI rk a.toList b.toList out.toList ia ib/\ia + 1 < a.size/\ib < b.size/\x < ia + ib) (Q:=fun c st'=>Like st st'/\∃ res:Array Ay,c.1=some res/\MFin rk a.toList b.toList res.toList) ?step ?fin ⟨Like.refl st,_,_,_,_,rfl,m0,by omega,by omega,by omega⟩) ?post)
 case fin =>
  rintro c st' ⟨_,out,ia,ib,g,rfl,_,h1,h2,h3⟩
  omega
 case post =>
  rintro ⟨r,out,ia,ib,g⟩ st' ⟨hL,res,e,hf⟩
  dsimp only at e ⊢
  subst e
  exact Ar (q res st' hL hf)
 case step =>
  rintro x c st1 _ hx ⟨hL,out,ia,ib,g,rfl,m,h1,h2,h3⟩
  dsimp only
  have hk1:kindOf st1=kd:=hL.1.trans hst
  refine Ak (Ef (Da (I:=fun y c st'=>st'=st1/\∃ (out:Array Ay) (ia ib ac bc:Nat),c=(none,out,ia,ib,ac,bc)/\MI rk a.toList b.toList out.toList ia ib/\ia + 1 < a.size/\ib < b.size/\x < ia + ib/\(0 < y->x + 1 < ia + ib)) (Q:=fun c st'=>st'=st1/\((∃ res:Array Ay,c.1=some res/\MFin rk a.toList b.toList res.toList)\/∃ (out:Array Ay) (ia ib ac bc:Nat),c=(none,out,ia,ib,ac,bc)/\MI rk a.toList b.toList out.toList ia ib/\ia + 1 < a.size/\ib < b.size/\x + 1 < ia + ib)) ?step ?fin ⟨rfl,_,_,_,_,_,rfl,m,h1,h2,h3,by omega⟩) ?post)
  case fin =>
   rintro c st' ⟨rfl,out,ia,ib,ac,bc,rfl,m,h1,h2,h3,h4⟩
   exact ⟨rfl,.inr ⟨out,ia,ib,ac,bc,rfl,m,h1,h2,h4 (by omega)⟩⟩
  case step =>
   rintro y c st' _ hy ⟨rfl,out,ia,ib,ac,bc,rfl,m,h1,h2,h3,h4⟩
   dsimp only
   refine Ak (zaJ h2 (Ak (zaJ (show ia < a.size by omega) (Ak (C.ask (Sb _ h2) (Sa _ (by omega)) hk1 ?_)))))
   dsimp only
   refine zal (fun hw => ?_) (fun hw => ?_)
   ·have hw:rk b[ib] < rk a[ia]:=by simpa using hw
    have m':=m.pushB sb (by omega) (fun y hy=>by
     have:=zcL sa (show ia < a.toList.length by omega) y hy
     rw [zaq a (by omega)] at this
     rw [zaq b h2]
     omega)
    rw [zaq b h2] at m'
    refine Ak (zaJ h2 ?_)
    refine zal (fun e => ?_) (fun e => ?_)
    ·have e:ib + 1=b.size:=by simpa using e
     refine Ar ⟨rfl,.inl ⟨_,rfl,?_⟩⟩
     have:=doneA m' e
     simp only [B6,Ch,zaS]
     exact this
    have e:¬ ib + 1=b.size:=by simpa using e
    refine zal (fun _=>Ar ⟨rfl,.inr ⟨_,_,_,_,_,rfl,by simpa using m',h1,by omega,by omega⟩⟩) (fun _=>Ar ⟨rfl,_,_,_,_,_,rfl,by simpa using m',h1,by omega,by omega,by omega⟩)
   ·have hw:rk a[ia]<=rk b[ib]:=by simpa using hw
    have m':=m.pushA sa (by omega) (fun y hy=>by
     have:=zcL sb (show ib < b.toList.length by omega) y hy
     rw [zaq b h2] at this
     rw [zaq a (by omega)]
     omega)
    rw [zaq a (by omega)] at m'
    refine Ak (zaJ (show ia < a.size by omega) ?_)
    refine zal (fun e => ?_) (fun e => ?_)
    ·have e:ia + 1 + 1=a.size:=by simpa using e
     refine Ar ⟨rfl,.inl ⟨_,rfl,?_⟩⟩
     have:=m'.restBA sa sb (fun x hx y hy=>lastA _ x hx _ e y hy)
     simp only [B6,Ch,zaS]
     exact this
    have e:¬ ia + 1 + 1=a.size:=by simpa using e
    refine zal (fun _=>Ar ⟨rfl,.inr ⟨_,_,_,_,_,rfl,by simpa using m',by omega,h2,by omega⟩⟩) (fun _=>Ar ⟨rfl,_,_,_,_,_,rfl,by simpa using m',by omega,h2,by omega,by omega⟩)
  case post =>
   rintro ⟨r,out,ia,ib,ac,bc⟩ st' ⟨rfl,hres | ⟨out',ia',ib',ac',bc',e,m,h1,h2,h3⟩⟩
   ·obtain ⟨res,e,hf⟩:=hres
    dsimp only at e ⊢
    subst e
    exact Ar ⟨hL,res,rfl,hf⟩
   cases e
   dsimp only
   refine Ak (Jw (Fz ⟨rfl,?_⟩))
   refine Ak (Ef (Da (I:=fun y c st'=>Like st st'/\∃ (out:Array Ay) (ia ib g ac bc:Nat),c=(none,out,ia,ib,g,ac,bc)/\MI rk a.toList b.toList out.toList ia ib/\ia + 1 < a.size/\ib < b.size/\x + 1 < ia + ib) (Q:=fun c st'=>Like st st'/\((∃ res:Array Ay,c.1=some res/\MFin rk a.toList b.toList res.toList)\/∃ (out:Array Ay) (ia ib g ac bc:Nat),c=(none,out,ia,ib,g,ac,bc)/\MI rk a.toList b.toList out.toList ia ib/\ia + 1 < a.size/\ib < b.size/\x + 1 < ia + ib)) ?step ?fin ⟨hL,_,_,_,_,_,_,rfl,m,h1,h2,h3⟩) ?post)
   case fin =>
    rintro c st' ⟨hL2,h⟩
    exact ⟨hL2,.inr h⟩
   case post =>
    rintro ⟨r,out,ia,ib,g,ac,bc⟩ st2 ⟨hL2,hres | ⟨out',ia',ib',g',ac',bc',e,m,h1,h2,h3⟩⟩
    ·obtain ⟨res,e,hf⟩:=hres
     dsimp only at e ⊢
     subst e
     exact Ar ⟨hL2,res,rfl,hf⟩
    cases e
    dsimp only
    exact Ak (zbf ⟨rfl,rfl,rfl,rfl⟩ fun st3 hL3=>Ar ⟨hL2.trans hL3,_,_,_,_,rfl,m,h1,h2,h3⟩)
   case step =>
    rintro y c st2 _ hy ⟨hL2,out,ia,ib,g,ac,bc,rfl,m,h1,h2,h3⟩
    dsimp only
    apply zfU
    ·intro R
     refine zal (fun h0=>Ak (zbf ⟨rfl,rfl,rfl,rfl⟩ ?_)) (fun h0=>Ak (zbf ⟨rfl,rfl,rfl,rfl⟩ ?_))
     ·clear h0
      generalize g - 1=g'
      revert g'
      exact R
     ·exact R g
    intro g' st3 hL3
    have hL4:=hL2.trans hL3
    have hk3:kindOf st3=kd:=hL4.1.trans hst
    refine Ak (zaJ h2 ?_)
    refine Ak (zbG C (Sb _ h2) (fun i h _ _=>Sa i h) (by omega) (by omega) (zgJ sa (by omega)) hk3 fun k j1 j2 j3 => ?_)
    dsimp only
    simp only [Bm,if_false] at j2 j3
    have mA:=m.moreA sa (k:=k) (by omega) (fun i hi g1 g2 y hy=>by
     have h5:=j2 (i - ia) (by omega)
     rw [show ia + (i - ia)=i by omega,zaY (by omega)] at h5
     have h6:=zcL sb (show ib < b.toList.length by omega) y hy
     rw [zaq b h2] at h6
     rw [zaq a (by omega)]
     omega)
    have gtB:∀ y∈a.toList.drop (ia + k),rk b[ib]<=rk y:=fun y hy=>by
     obtain ⟨j,hj,g1,e⟩:=zb9 hy
     have h5:=j3 (j - ia) (by omega) (by omega)
     rw [show ia + (j - ia)=j by omega,zaY (by omega)] at h5
     rw [<- e,zaq a (by omega)]
     omega
    have ex:(a.extract ia (ia + k)).toList=(a.toList.drop ia).take k:=by rw [zaQ,E5]
    rw [<- ex,<- B6] at mA
    have f12:∀ (_:¬ (ia + k + 1 == a.size)=true) (_:¬ (ia + k == a.size)=true),ia + k + 1 < a.size:=fun e5 e6=>by
     have e5:¬ ia + k + 1=a.size:=by simpa using e5
     have e6:¬ ia + k=a.size:=by simpa using e6
     omega
    have f32:x + 1 < ia + k + ib:=by omega
    apply zfU
    ·intro R
     refine zfa (fun k0 => ?b2) (fun k0=>zal (fun e => ?x2) (fun e5=>zal (fun e => ?y2) (fun e6 => ?a2)))
     rotate_right
     have h12:=f12 e5 e6
     have h32:=f32
     clear e5 e6 k0
     have mA':=mA
     have gtB':=gtB
     generalize out ++ a.extract ia (ia + k)=out2 at mA' ⊢
     generalize ia + k=ia2 at mA' gtB' h12 h32 ⊢
     revert out2 ia2
     exact R
     ·have e7:k=0:=by omega
      have gtB2:=gtB
      rw [e7,Mt] at gtB2
      exact R out ia m gtB2 h1 h3
     ·have e:ia + k + 1=a.size:=by simpa using e
      refine Ar ⟨hL4,.inl ⟨_,rfl,?_⟩⟩
      have:=mA.restBA sa sb (fun x hx y hy=>lastA _ x hx _ e y hy)
      simp only [B6,zaS] at this ⊢
      exact this
     ·have e:ia + k=a.size:=by simpa using e
      refine Ar ⟨hL4,.inl ⟨_,rfl,?_⟩⟩
      have:=doneB mA e
      simp only [B6,zaS] at this ⊢
      exact this
    intro out2 ia2 mA gtB h12 h32
    have mB:=mA.pushB sb (by omega) (fun y hy=>by rw [zaq b h2]; exact gtB y hy)
    rw [zaq b h2] at mB
    refine Ak (zaJ h2 ?_)
    refine zal (fun e => ?_) (fun e => ?_)
    ·have e:ib + 1=b.size:=by simpa using e
     refine Ar ⟨hL4,.inl ⟨_,rfl,?_⟩⟩
     have:=doneA mB e
     simp only [B6,Ch,zaS]
     exact this
    have e8:¬ ib + 1=b.size:=by simpa using e
    have hia2:ia2 < a.size:=by omega
    have hb4:ib + 1 < b.size:=by omega
    have h34:x + 1 < ia2 + (ib + 1):=by omega
    rw [<- Ch] at mB
    generalize out2.push b[ib]=out4 at mB ⊢
    generalize ib + 1=ib4 at mB hb4 h34 ⊢
    refine Ak (zaJ hia2 ?_)
    refine Ak (zbG C (Sa _ hia2) (fun i h _ _=>Sb i h) (by omega) (by omega) (zgJ sb (by omega)) hk3 fun k2 j4 j5 j6 => ?_)
    dsimp only
    simp only [if_true] at j5 j6
    have mC:=mB.moreB sb (k:=k2) (by omega) (fun i hi g1 g2 y hy=>by
     have h5:=j5 (i - ib4) (by omega)
     rw [show ib4 + (i - ib4)=i by omega,zaY (by omega)] at h5
     have h6:=zcL sa (show ia2 < a.toList.length by omega) y hy
     rw [zaq a hia2] at h6
     rw [zaq b (by omega)]
     omega)
    have leA:∀ y∈b.toList.drop (ib4 + k2),rk a[ia2]<=rk y:=fun y hy=>by
     obtain ⟨j,hj,g1,e⟩:=zb9 hy
     have h5:=j6 (j - ib4) (by omega) (by omega)
     rw [show ib4 + (j - ib4)=j by omega,zaY (by omega)] at h5
     rw [<- e,zaq b (by omega)]
     omega
    have ex2:(b.extract ib4 (ib4 + k2)).toList=(b.toList.drop ib4).take k2:=by rw [zaQ,E5]
    rw [<- ex2,<- B6] at mC
    have f22:∀ (_:¬ (ib4 + k2 == b.size)=true),ib4 + k2 < b.size:=fun e5=>by
     have e5:¬ ib4 + k2=b.size:=by simpa using e5
     omega
    have f33:x + 1 < ia2 + (ib4 + k2):=by omega
    apply zfU
    ·intro R
     refine zfa (fun k1 => ?b3) (fun k1=>zal (fun e => ?x3) (fun e5 => ?a3))
     rotate_right
     have h22:=f22 e5
     have h33:=f33
     clear e5 k1
     have mC':=mC
     have leA':=leA
     generalize out4 ++ b.extract ib4 (ib4 + k2)=out3 at mC' ⊢
     generalize ib4 + k2=ib2 at mC' leA' h22 h33 ⊢
     revert out3 ib2
     exact R
     ·have e7:k2=0:=by omega
      have leA2:=leA
      rw [e7,Mt] at leA2
      exact R out4 ib4 mB leA2 hb4 h34
     ·have e:ib4 + k2=b.size:=by simpa using e
      refine Ar ⟨hL4,.inl ⟨_,rfl,?_⟩⟩
      have:=doneA mC e
      simp only [B6,Ch,zaS] at this ⊢
      exact this
    intro out3 ib2 mC leA h22 h33
    have mD:=mC.pushA sa (by omega) (fun y hy=>by rw [zaq a hia2]; exact leA y hy)
    rw [zaq a hia2,<- Ch] at mD
    refine Ak (zaJ hia2 ?_)
    refine zal (fun e => ?_) (fun e => ?_)
    ·have e:ia2 + 1 + 1=a.size:=by simpa using e
     refine Ar ⟨hL4,.inl ⟨_,rfl,?_⟩⟩
     have:=mD.restBA sa sb (fun x hx y hy=>lastA _ x hx _ e y hy)
     simp only [B6,Ch,zaS] at this ⊢
     exact this
    have e9:¬ ia2 + 1 + 1=a.size:=by simpa using e
    exact zal (fun _=>Ar ⟨hL4,.inr ⟨_,_,_,_,_,_,rfl,mD,by omega,h22,by omega⟩⟩) (fun _=>Ar ⟨hL4,_,_,_,_,_,_,rfl,mD,by omega,h22,by omega⟩)
end
structure HI (rk:Ay->Int) (la lb out:List Ay) (na nb:Nat):Prop where
 perm:out.Perm (la.drop na ++ lb.drop nb)
 srt:out.Pairwise fun x y=>rk y<=rk x
 high:∀ x∈out,(∀ y∈la.take na,rk y<=rk x)/\∀ y∈lb.take nb,rk y<=rk x
section
variable {rk:Ay->Int} {la lb out:List Ay} {na nb:Nat}
theorem zbt {l:List Ay} {n:Nat} {y:Ay} (h:y∈l.take n):∃ j,∃ hj:j < l.length,j < n/\l[j]=y:=by
 obtain ⟨j,hj,e⟩:=Es h
 rw [Cw] at hj
 rw [K1] at e
 exact ⟨j,by omega,by omega,e⟩
theorem zdv {l:List Ay} (s:Srt rk l) {n:Nat} (h0:0 < n) (h:n<=l.length):∀ y∈l.take n,rk y<=rk (l[n - 1]'(by omega)):=fun y hy=>by
 obtain ⟨j,hj,h1,rfl⟩:=zbt hy
 by_cases e:j=n - 1
 ·subst e; exact E2 _
 ·exact D1.mp s j (n - 1) hj (by omega) (by omega)
theorem zcd {l:List Ay} {m n:Nat} (h:m<=n) {y:Ay} (hy:y∈l.take m):y∈l.take n:=by
 have:l.take m=(l.take n).take m:=by rw [List.take_take,Nat.min_eq_left h]
 rw [this] at hy
 exact J7 hy
theorem HI.pushA (m:HI rk la lb out na nb) (sa:Srt rk la) (h0:0 < na) (h:na<=la.length) (hb:∀ y∈lb.take nb,rk y<=rk (la[na - 1]'(by omega))):HI rk la lb (out ++ [la[na - 1]'(by omega)]) (na - 1) nb:=by
 have hd:la.drop (na - 1)=la[na - 1]'(by omega) :: la.drop na:=by
  have:=za7 (l:=la) (i:=na - 1) (by omega)
  rwa [O3 h0] at this
 have hm:la[na - 1]'(by omega)∈la.take na:=by
  rw [Lk]
  exact ⟨na - 1,by omega,rfl⟩
 refine ⟨?_,C1.mpr ⟨m.srt,by simp,fun x hx y hy => ?_⟩,fun x hx => ?_⟩
 ·rw [hd,Km]
  exact (m.perm.append_right _).trans Dw
 ·rw [A7.mp hy]
  exact (m.high x hx).1 _ hm
 ·rcases Al.mp hx with z | z
  ·exact ⟨fun y hy=>(m.high x z).1 y (zcd (by omega) hy),(m.high x z).2⟩
  ·rw [A7.mp z]
   exact ⟨fun y hy=>zdv sa h0 h y (zcd (by omega) hy),hb⟩
theorem HI.pushB (m:HI rk la lb out na nb) (sb:Srt rk lb) (h0:0 < nb) (h:nb<=lb.length) (ha:∀ y∈la.take na,rk y<=rk (lb[nb - 1]'(by omega))):HI rk la lb (out ++ [lb[nb - 1]'(by omega)]) na (nb - 1):=by
 have hd:lb.drop (nb - 1)=lb[nb - 1]'(by omega) :: lb.drop nb:=by
  have:=za7 (l:=lb) (i:=nb - 1) (by omega)
  rwa [O3 h0] at this
 have hm:lb[nb - 1]'(by omega)∈lb.take nb:=by
  rw [Lk]
  exact ⟨nb - 1,by omega,rfl⟩
 refine ⟨?_,C1.mpr ⟨m.srt,by simp,fun x hx y hy => ?_⟩,fun x hx => ?_⟩
 ·rw [hd]
  refine (m.perm.append_right _).trans ?_
  rw [Au]
  refine Dh _ ?_
  exact Dw
 ·rw [A7.mp hy]
  exact (m.high x hx).2 _ hm
 ·rcases Al.mp hx with z | z
  ·exact ⟨(m.high x z).1,fun y hy=>(m.high x z).2 y (zcd (by omega) hy)⟩
  ·rw [A7.mp z]
   exact ⟨ha,fun y hy=>zdv sb h0 h y (zcd (by omega) hy)⟩
theorem HI.moreA (m:HI rk la lb out na nb) (sa:Srt rk la) (h:na<=la.length):∀ {d p:Nat},p + d=na->(∀ i (h:i < la.length),p<=i->i < na->∀ y∈lb.take nb,rk y<=rk la[i])->HI rk la lb (out ++ ((la.drop p).take d).reverse) p nb
 | 0,p,e,_=>by
  have:p=na:=by omega
  subst this
  simpa using m
 | d + 1,p,e,hy=>by
  have m1:=HI.moreA m sa h (d:=d) (p:=p + 1) (by omega) fun i hi h1 h2=>hy i hi (by omega) h2
  have m2:=m1.pushA sa (by omega) (by omega) (hy (p + 1 - 1) (by omega) (by omega) (by omega))
  rw [za7 (show p < la.length by omega),Gn,O6,<- Au]
  simpa only [O4] using m2
theorem HI.moreB (m:HI rk la lb out na nb) (sb:Srt rk lb) (h:nb<=lb.length):∀ {d p:Nat},p + d=nb->(∀ i (h:i < lb.length),p<=i->i < nb->∀ y∈la.take na,rk y<=rk lb[i])->HI rk la lb (out ++ ((lb.drop p).take d).reverse) na p
 | 0,p,e,_=>by
  have:p=nb:=by omega
  subst this
  simpa using m
 | d + 1,p,e,hy=>by
  have m1:=HI.moreB m sb h (d:=d) (p:=p + 1) (by omega) fun i hi h1 h2=>hy i hi (by omega) h2
  have m2:=m1.pushB sb (by omega) (by omega) (hy (p + 1 - 1) (by omega) (by omega) (by omega))
  rw [za7 (show p < lb.length by omega),Gn,O6,<- Au]
  simpa only [O4] using m2
theorem HI.rev (m:HI rk la lb out na nb):Srt rk out.reverse:=List.pairwise_reverse.mpr m.srt
theorem HI.restAB (m:HI rk la lb out na nb) (sa:Srt rk la) (sb:Srt rk lb) (h:∀ x∈la.take na,∀ y∈lb.take nb,rk x<=rk y):MFin rk la lb (la.take na ++ lb.take nb ++ out.reverse):=by
 refine ⟨?_,C1.mpr ⟨C1.mpr ⟨Bi (Fu _ _) sa,Bi (Fu _ _) sb,h⟩,m.rev,fun x hx y hy => ?_⟩⟩
 ·refine (Dh _ ((O5 out).trans m.perm)).trans ?_
  have e:la.take na ++ lb.take nb ++ (la.drop na ++ lb.drop nb)=la.take na ++ (lb.take nb ++ la.drop na) ++ lb.drop nb:=by simp
  rw [e]
  refine (Hl _ (Dh _ Dw)).trans ?_
  rw [<- Au,Cc,Au,Cc]
 ·have:=m.high y (Oi.mp hy)
  rcases Al.mp hx with z | z
  ·exact this.1 x z
  ·exact this.2 x z
theorem HI.restBA (m:HI rk la lb out na nb) (sa:Srt rk la) (sb:Srt rk lb) (h:∀ x∈lb.take nb,∀ y∈la.take na,rk x<=rk y):MFin rk la lb (lb.take nb ++ la.take na ++ out.reverse):=by
 refine ⟨?_,C1.mpr ⟨C1.mpr ⟨Bi (Fu _ _) sb,Bi (Fu _ _) sa,h⟩,m.rev,fun x hx y hy => ?_⟩⟩
 ·refine (Dh _ ((O5 out).trans m.perm)).trans ?_
  have e:lb.take nb ++ la.take na ++ (la.drop na ++ lb.drop nb)=lb.take nb ++ la ++ lb.drop nb:=by
   have:=Cc na la
   rw [Au,<- Au (la.take na),this,<- Au]
  rw [e]
  refine (Hl _ Dw).trans ?_
  rw [Au,Cc]
 ·have:=m.high y (Oi.mp hy)
  rcases Al.mp hx with z | z
  ·exact this.2 x z
  ·exact this.1 x z
end
theorem zaE (a:Array Ay) (n:Nat):(a.extract 0 n).toList=a.toList.take n:=by
 rw [zaQ,Lc,Q8]
noncomputable abbrev mergeHiS:Array Keyed->Array Keyed->StateT SortSt Sem (Array Keyed):=sortPriv% PySem.Builtin.mergeHi
section
variable {prog:Ap} {w:Bb} {A:B7} {E:A2->A4->Prop} {s:A4} {kd:Ff} {S:Ay->Prop} {rk:Ay->Int}
theorem mergeHi_ok (C:Ranks prog w A E s kd S rk) {a b:Array Ay} {Q:Array Ay->C3->Prop} {st:C3} (ha:0 < a.size) (hb:0 < b.size) (sa:Srt rk a.toList) (sb:Srt rk b.toList) (Sa:∀ i (h:i < a.size),S a[i]) (Sb:∀ i (h:i < b.size),S b[i]) (h0:∀ y∈a.toList,rk b[0]<=rk y) (hl:∀ y∈b.toList,rk y<=rk (a[a.size - 1]'(by omega))) (hst:kindOf st=kd)
  (q:∀ res st',Like st st'->MFin rk a.toList b.toList res.toList->Q res st'):wpS (model prog w) A E s (mergeHiS a b) Q st:=by
 have la:a.toList.length=a.size:=At
 have lb:b.toList.length=b.size:=At
 have m0:HI rk a.toList b.toList [a[a.size - 1]'(by omega)] (a.size - 1) b.size:=by
  have mm:HI rk a.toList b.toList [] a.size b.size:=⟨by rw [<- la,<- lb]; simp,Fo,fun x hx=>by cases hx⟩
  have:=mm.pushA sa ha (by omega) (fun y hy=>by rw [zaq a (by omega)]; exact hl y (J7 hy))
  rw [zaq a (by omega)] at this
  exact this
 have firstB:∀ nb,nb=1->∀ na,∀ x∈b.toList.take nb,∀ y∈a.toList.take na,rk x<=rk y:=fun nb e na x hx y hy=>by
  subst e
  obtain ⟨j,hj,h1,e2⟩:=zbt hx
  have:j=0:=by omega
  subst this
  rw [<- e2,zaq b hb]
  exact h0 y (J7 hy)
 have doneA:∀ {out:List Ay} {na nb:Nat},HI rk a.toList b.toList out na nb->na=0->MFin rk a.toList b.toList (a.toList.take na ++ b.toList.take nb ++ out.reverse):=fun m e=>by
  subst e
  exact m.restAB sa sb (fun x hx=>by simp at hx)
 have doneB:∀ {out:List Ay} {na nb:Nat},HI rk a.toList b.toList out na nb->nb=0->MFin rk a.toList b.toList (a.toList.take na ++ b.toList.take nb ++ out.reverse):=fun m e=>by
  subst e
  exact m.restAB sa sb (fun x _ y hy=>by simp at hy)
 refine Ak (Jw (Fz ⟨rfl,?_⟩))
 dsimp only
 refine Ak (zaJ (by omega) ?_)
 refine zal (fun e1 => ?_) (fun e1 => ?_)
 ·have e1:a.size - 1=0:=by simpa using e1
  refine Ar (q _ st (Like.refl st) ?_)
  have:=doneA m0 e1
  simp only [B6,Cq,zaE]
  exact this
 refine zal (fun e2 => ?_) (fun e2 => ?_)
 ·have e2:b.size=1:=by simpa using e2
  refine Ar (q _ st (Like.refl st) ?_)
  have:=m0.restBA sa sb (fun x hx y hy=>firstB _ e2 _ x hx y hy)
  simp only [B6,Cq,zaE]
  exact this
 have e1:¬ a.size - 1=0:=by simpa using e1
 have e2:¬ b.size=1:=by simpa using e2
 refine Ak (Ih ?_)
 refine Ak (Ef (Da (I:=fun x c st'=>Like st st'/\∃ (out:Array Ay) (na nb g:Nat),c=(none,na,nb,out,g)/\HI rk a.toList b.toList out.toList na nb/\0 < na/\na<=a.size/\1 < nb/\nb<=b.size/\x + na + nb < a.size + b.size) (Q:=fun c st'=>Like st st'/\∃ res:Array Ay,c.1=some res/\MFin rk a.toList b.toList res.toList) ?step ?fin ⟨Like.refl st,_,_,_,_,rfl,m0,by omega,by omega,by omega,by omega,by omega⟩) ?post)
 case fin =>
  rintro c st' ⟨_,out,na,nb,g,rfl,_,h1,h2,h3,h4,h5⟩
  omega
 case post =>
  rintro ⟨r,na,nb,out,g⟩ st' ⟨hL,res,e,hf⟩
  dsimp only at e ⊢
  subst e
  exact Ar (q res st' hL hf)
 case step =>
  rintro x c st1 _ hx ⟨hL,out,na,nb,g,rfl,m,h1,h1',h2,h2',h3⟩
  dsimp only
  have hk1:kindOf st1=kd:=hL.1.trans hst
  refine Ak (Ef (Da (I:=fun y c st'=>st'=st1/\∃ (out:Array Ay) (na nb ac bc:Nat),c=(none,na,nb,out,ac,bc)/\HI rk a.toList b.toList out.toList na nb/\0 < na/\na<=a.size/\1 < nb/\nb<=b.size/\x + na + nb < a.size + b.size/\(0 < y->x + 1 + na + nb < a.size + b.size)) (Q:=fun c st'=>st'=st1/\((∃ res:Array Ay,c.1=some res/\MFin rk a.toList b.toList res.toList)\/∃ (out:Array Ay) (na nb ac bc:Nat),c=(none,na,nb,out,ac,bc)/\HI rk a.toList b.toList out.toList na nb/\0 < na/\na<=a.size/\1 < nb/\nb<=b.size/\x + 1 + na + nb < a.size + b.size)) ?step ?fin ⟨rfl,_,_,_,_,_,rfl,m,h1,h1',h2,h2',h3,by omega⟩) ?post)
  case fin =>
   rintro c st' ⟨rfl,out,na,nb,ac,bc,rfl,m,h1,h1',h2,h2',h3,h4⟩
   exact ⟨rfl,.inr ⟨out,na,nb,ac,bc,rfl,m,h1,h1',h2,h2',h4 (by omega)⟩⟩
  case step =>
   rintro y c st' _ hy ⟨rfl,out,na,nb,ac,bc,rfl,m,h1,h1',h2,h2',h3,h4⟩
   dsimp only
   have ib:nb - 1 < b.size:=by omega
   have ia:na - 1 < a.size:=by omega
   refine Ak (zaJ ib (Ak (zaJ ia (Ak (C.ask (Sb _ ib) (Sa _ ia) hk1 ?_)))))
   dsimp only
   refine zal (fun hw => ?_) (fun hw => ?_)
   ·have hw:rk b[nb - 1] < rk a[na - 1]:=by simpa using hw
    have m':=m.pushA sa h1 (by omega) (fun y hy=>by
     have:=zdv sb (show 0 < nb by omega) (by omega) y hy
     rw [zaq b ib] at this
     rw [zaq a ia]
     omega)
    rw [zaq a ia,<- Ch] at m'
    refine Ak (zaJ ia ?_)
    refine zal (fun e => ?_) (fun e => ?_)
    ·have e:na - 1=0:=by simpa using e
     refine Ar ⟨rfl,.inl ⟨_,rfl,?_⟩⟩
     have:=doneA m' e
     simp only [B6,Cq,zaE]
     exact this
    have e:¬ na - 1=0:=by simpa using e
    refine zal (fun _=>Ar ⟨rfl,.inr ⟨_,_,_,_,_,rfl,m',by omega,by omega,h2,h2',by omega⟩⟩) (fun _=>Ar ⟨rfl,_,_,_,_,_,rfl,m',by omega,by omega,h2,h2',by omega,by omega⟩)
   ·have hw:rk a[na - 1]<=rk b[nb - 1]:=by simpa using hw
    have m':=m.pushB sb (by omega) (by omega) (fun y hy=>by
     have:=zdv sa h1 (by omega) y hy
     rw [zaq a ia] at this
     rw [zaq b ib]
     omega)
    rw [zaq b ib,<- Ch] at m'
    refine Ak (zaJ ib ?_)
    refine zal (fun e => ?_) (fun e => ?_)
    ·have e:nb - 1=1:=by simpa using e
     refine Ar ⟨rfl,.inl ⟨_,rfl,?_⟩⟩
     have:=m'.restBA sa sb (fun x hx y hy=>firstB _ e _ x hx y hy)
     simp only [B6,Cq,zaE]
     exact this
    have e:¬ nb - 1=1:=by simpa using e
    refine zal (fun _=>Ar ⟨rfl,.inr ⟨_,_,_,_,_,rfl,m',h1,h1',by omega,by omega,by omega⟩⟩) (fun _=>Ar ⟨rfl,_,_,_,_,_,rfl,m',h1,h1',by omega,by omega,by omega,by omega⟩)
  case post =>
   rintro ⟨r,na,nb,out,ac,bc⟩ st' ⟨rfl,hres | ⟨out',na',nb',ac',bc',e,m,h1,h1',h2,h2',h3⟩⟩
   ·obtain ⟨res,e,hf⟩:=hres
    dsimp only at e ⊢
    subst e
    exact Ar ⟨hL,res,rfl,hf⟩
   cases e
   dsimp only
   refine Ak (Jw (Fz ⟨rfl,?_⟩))
   refine Ak (Ef (Da (I:=fun y c st'=>Like st st'/\∃ (out:Array Ay) (na nb g ac bc:Nat),c=(none,na,nb,out,g,ac,bc)/\HI rk a.toList b.toList out.toList na nb/\0 < na/\na<=a.size/\1 < nb/\nb<=b.size/\x + 1 + na + nb < a.size + b.size) (Q:=fun c st'=>Like st st'/\((∃ res:Array Ay,c.1=some res/\MFin rk a.toList b.toList res.toList)\/∃ (out:Array Ay) (na nb g ac bc:Nat),c=(none,na,nb,out,g,ac,bc)/\HI rk a.toList b.toList out.toList na nb/\0 < na/\na<=a.size/\1 < nb/\nb<=b.size/\x + 1 + na + nb < a.size + b.size)) ?step ?fin ⟨hL,_,_,_,_,_,_,rfl,m,h1,h1',h2,h2',h3⟩) ?post)
   case fin =>
    rintro c st' ⟨hL2,h⟩
    exact ⟨hL2,.inr h⟩
   case post =>
    rintro ⟨r,na,nb,out,g,ac,bc⟩ st2 ⟨hL2,hres | ⟨out',na',nb',g',ac',bc',e,m,h1,h1',h2,h2',h3⟩⟩
    ·obtain ⟨res,e,hf⟩:=hres
     dsimp only at e ⊢
     subst e
     exact Ar ⟨hL2,res,rfl,hf⟩
    cases e
    dsimp only
    exact Ak (zbf ⟨rfl,rfl,rfl,rfl⟩ fun st3 hL3=>Ar ⟨hL2.trans hL3,_,_,_,_,rfl,m,h1,h1',h2,h2',by omega⟩)
   case step =>
    rintro y c st2 _ hy ⟨hL2,out,na,nb,g,ac,bc,rfl,m,h1,h1',h2,h2',h3⟩
    dsimp only
    have ib:nb - 1 < b.size:=by omega
    refine zal (fun _=>Ak (zbf ⟨rfl,rfl,rfl,rfl⟩ fun st3 hL3 => ?_)) (fun _=>Ak (zbf ⟨rfl,rfl,rfl,rfl⟩ fun st3 hL3 => ?_))
    all_goals
     have hL4:=hL2.trans hL3
     have hk3:kindOf st3=kd:=hL4.1.trans hst
     refine Ak (zaJ ib ?_)
     refine Ak (zbG C (Sb _ ib) (fun i h _ _=>Sa i h) (by omega) (by omega) (zgJ sa (by omega)) hk3 fun p j1 j2 j3 => ?_)
     dsimp only
     simp only [Bm,if_false,Q7] at j2 j3
     have mA:=m.moreA sa (by omega) (d:=na - p) (p:=p) (by omega) (fun i hi g1 g2 y hy=>by
      have h5:=j3 i g1 g2
      rw [zaY (by omega)] at h5
      have h6:=zdv sb (show 0 < nb by omega) (by omega) y hy
      rw [zaq b ib] at h6
      rw [zaq a (by omega)]
      omega)
     have leB:∀ y∈a.toList.take p,rk y<=rk b[nb - 1]:=fun y hy=>by
      obtain ⟨j,hj,g1,e⟩:=zbt hy
      have h5:=j2 j g1
      rw [zaY (by omega)] at h5
      rw [<- e,zaq a (by omega)]
      exact h5
     rw [<- zaQ,<- Cq,<- B6] at mA
     refine zal (fun k0 => ?_) (fun k0 => ?_)
     rotate_left
     have mA:=m
     have h12:=h1
     have h12':=h1'
     have h32:=h3
     have e7:p=na:=by omega
     rw [e7] at leB ⊢
     generalize out=out2 at mA ⊢
     generalize na=na2 at mA leB h12 h12' h32 ⊢
     rotate_left
     refine zal (fun e => ?_) (fun e => ?_)
     ·have e:p=0:=by simpa using e
      refine Ar ⟨hL4,.inl ⟨_,rfl,?_⟩⟩
      have:=doneA mA e
      simp only [B6,Cq,zaE] at this ⊢
      exact this
     have e5:¬ p=0:=by simpa using e
     have h12:0 < p:=by omega
     have h12':p<=a.size:=by omega
     have h32:x + 1 + p + nb < a.size + b.size:=by omega
     generalize out ++ (a.extract p na).reverse=out2 at mA ⊢
     generalize na - p=kk at k0 ⊢
     generalize p=na2 at mA leB h12 h12' h32 ⊢
    all_goals
     have mB:=mA.pushB sb (by omega) (by omega) (fun y hy=>by rw [zaq b ib]; exact leB y hy)
     rw [zaq b ib,<- Ch] at mB
     refine Ak (zaJ ib ?_)
     refine zal (fun e => ?_) (fun e => ?_)
     ·have e:nb - 1=1:=by simpa using e
      refine Ar ⟨hL4,.inl ⟨_,rfl,?_⟩⟩
      have:=mB.restBA sa sb (fun x hx y hy=>firstB _ e _ x hx y hy)
      simp only [B6,Cq,zaE]
      exact this
     have e8:¬ nb - 1=1:=by simpa using e
     have hia2:na2 - 1 < a.size:=by omega
     refine Ak (zaJ hia2 ?_)
     refine Ak (zbG C (Sa _ hia2) (fun i h _ _=>Sb i h) (by omega) (by omega) (zgJ sb (by omega)) hk3 fun p2 j4 j5 j6 => ?_)
     dsimp only
     simp only [if_true,Q7] at j5 j6
     have mC:=mB.moreB sb (by omega) (d:=nb - 1 - p2) (p:=p2) (by omega) (fun i hi g1 g2 y hy=>by
      have h5:=j6 i g1 g2
      rw [zaY (by omega)] at h5
      have h6:=zdv sa h12 (by omega) y hy
      rw [zaq a hia2] at h6
      rw [zaq b (by omega)]
      omega)
     have leA:∀ y∈b.toList.take p2,rk y<=rk a[na2 - 1]:=fun y hy=>by
      obtain ⟨j,hj,g1,e⟩:=zbt hy
      have h5:=j5 j g1
      rw [zaY (by omega)] at h5
      rw [<- e,zaq b (by omega)]
      omega
     rw [<- zaQ,<- Cq,<- B6] at mC
     refine zal (fun k1 => ?_) (fun k1 => ?_)
     rotate_left
     have mC:=mB
     have h22:1 < nb - 1:=by omega
     have h22':nb - 1<=b.size:=by omega
     have h33:x + 1 + na2 + (nb - 1) < a.size + b.size:=by omega
     have e7:p2=nb - 1:=by omega
     rw [e7] at leA ⊢
     generalize out2.push b[nb - 1]=out3 at mC ⊢
     generalize nb - 1=nb2 at mC leA h22 h22' h33 ⊢
     rotate_left
     refine zal (fun e => ?_) (fun e => ?_)
     ·have e:p2=1:=by simpa using e
      refine Ar ⟨hL4,.inl ⟨_,rfl,?_⟩⟩
      have:=mC.restBA sa sb (fun x hx y hy=>firstB _ e _ x hx y hy)
      simp only [B6,Cq,zaE] at this ⊢
      exact this
     have e5:¬ p2=1:=by simpa using e
     refine zal (fun e => ?_) (fun e => ?_)
     ·have e:p2=0:=by simpa using e
      refine Ar ⟨hL4,.inl ⟨_,rfl,?_⟩⟩
      have:=doneB mC e
      simp only [B6,Cq,zaE] at this ⊢
      exact this
     have e6:¬ p2=0:=by simpa using e
     have h22:1 < p2:=by omega
     have h22':p2<=b.size:=by omega
     have h33:x + 1 + na2 + p2 < a.size + b.size:=by omega
     generalize out2.push b[nb - 1] ++ (b.extract p2 (nb - 1)).reverse=out3 at mC ⊢
     generalize nb - 1 - p2=kk2 at k1 ⊢
     generalize p2=nb2 at mC leA h22 h22' h33 ⊢
    all_goals
     have mD:=mC.pushA sa h12 (by omega) (fun y hy=>by rw [zaq a hia2]; exact leA y hy)
     rw [zaq a hia2,<- Ch] at mD
     refine Ak (zaJ hia2 ?_)
     refine zal (fun e => ?_) (fun e => ?_)
     ·have e:na2 - 1=0:=by simpa using e
      refine Ar ⟨hL4,.inl ⟨_,rfl,?_⟩⟩
      have:=doneA mD e
      simp only [B6,Cq,zaE] at this ⊢
      exact this
     have e9:¬ na2 - 1=0:=by simpa using e
     exact zal (fun _=>Ar ⟨hL4,.inr ⟨_,_,_,_,_,_,rfl,mD,by omega,by omega,h22,h22',by omega⟩⟩) (fun _=>Ar ⟨hL4,_,_,_,_,_,_,rfl,mD,by omega,by omega,h22,h22',by omega⟩)
end
theorem za5 {rk:Ay->Int} {xs ys:Array Ay} {i j:Nat} (h:xs[i]?=ys[j]?):kAt rk xs i=kAt rk ys j:=by unfold kAt; rw [h]
theorem zcB {rk:Ay->Int} {xs:Array Ay} {i j:Nat} (hj:j<=xs.size) (k:Nat):kAt rk (mirror xs i j ((j - i) / 2)) k=if i<=k/\k < j then kAt rk xs (i + j - 1 - k) else kAt rk xs k:=by
 have e:=Kb (i:=i) hj k
 by_cases h:i<=k/\k < j
 ·rw [if_pos h] at e ⊢; exact za5 e
 ·rw [if_neg h] at e ⊢; exact za5 e
theorem zbv {rk:Ay->Int} {xs:Array Ay} {i j:Nat} (hj:j<=xs.size) (h:∀ k,i<=k->k < j->kAt rk xs k=kAt rk xs (j - 1)) (k:Nat):kAt rk (mirror xs i j ((j - i) / 2)) k=kAt rk xs k:=by
 rw [zcB hj]
 by_cases e:i<=k/\k < j
 ·rw [if_pos e,h _ (by omega) (by omega),h k e.1 e.2]
 ·rw [if_neg e]
theorem zdK {rk:Ay->Int} {xs:Array Ay} {src d:Nat} (hs:src < xs.size) (hd:d<=src) (k:Nat):kAt rk (bubble xs src d) k=if k=src - d then kAt rk xs src else if src - d < k/\k<=src then kAt rk xs (k - 1) else kAt rk xs k:=by
 have e:=Lz hs d hd k
 by_cases h:k=src - d
 ·rw [if_pos h] at e ⊢; exact za5 e
 ·rw [if_neg h] at e ⊢
  by_cases h2:src - d < k/\k<=src
  ·rw [if_pos h2] at e ⊢; exact za5 e
  ·rw [if_neg h2] at e ⊢; exact za5 e
structure Chg (lo hi:Nat) (st st':C3):Prop where
 kind:kindOf st'=kindOf st
 pend:pendingOf st'=pendingOf st
 fail:failedOf st'=failedOf st
 perm:(arrOf st').Perm (arrOf st)
 out:∀ i,(i < lo\/hi<=i)->(arrOf st')[i]?=(arrOf st)[i]?
theorem Chg.refl {lo hi:Nat} (st:C3):Chg lo hi st st:=⟨rfl,rfl,rfl,Gc _,fun _ _=>rfl⟩
theorem Chg.size {lo hi:Nat} {st st':C3} (h:Chg lo hi st st'):(arrOf st').size=(arrOf st).size:=h.perm.size_eq
theorem Chg.trans {lo hi:Nat} {a b c:C3} (h:Chg lo hi a b) (k:Chg lo hi b c):Chg lo hi a c:=⟨k.kind.trans h.kind,k.pend.trans h.pend,k.fail.trans h.fail,k.perm.trans h.perm,fun i hi=>(k.out i hi).trans (h.out i hi)⟩
theorem Chg.wide {lo hi lo' hi':Nat} {a b:C3} (h:Chg lo hi a b) (h1:lo'<=lo) (h2:hi<=hi'):Chg lo' hi' a b:=⟨h.kind,h.pend,h.fail,h.perm,fun i hi=>h.out i (by omega)⟩
theorem Chg.mirror {lo hi i j:Nat} {st st':C3} (h:Chg lo hi st st') (hi':lo<=i) (hj:j<=hi) (hs:j<=(arrOf st').size):Chg lo hi st (setArr st' (mirror (arrOf st') i j ((j - i) / 2))) :=
 h.trans ⟨rfl,rfl,rfl,mirror_perm _ _ _ _,fun k hk=>by
  show (Rb (arrOf st') i j ((j - i) / 2))[k]?=_
  rw [Kb hs,if_neg (by omega)]⟩
theorem Chg.bubble {lo hi src d:Nat} {st st':C3} (h:Chg lo hi st st') (h1:lo + d<=src) (h2:src < hi) (hs:src < (arrOf st').size):Chg lo hi st (setArr st' (bubble (arrOf st') src d)) :=
 h.trans ⟨rfl,rfl,rfl,bubble_perm _ _ _,fun k hk=>by
  show (Hw (arrOf st') src d)[k]?=_
  rw [Lz hs _ (by omega),if_neg (by omega),if_neg (by omega)]⟩
theorem zb0 {S:Ay->Prop} {a b:Array Ay} (p:b.Perm a) (h:∀ x∈a.toList,S x):∀ x∈b.toList,S x:=fun x hx=>h x ((Gu.mp p).mem_iff.mp hx)
theorem zgI {S:Ay->Prop} {a:Array Ay} (h:∀ x∈a.toList,S x) (i:Nat) (hi:i < a.size):S a[i]:=h _ (by simp)
theorem Up2.more {rk:Ay->Int} {arr:Array Ay} {lo hi:Nat} (u:Up2 rk arr lo hi) (h:lo < hi) (e:kAt rk arr (hi - 1)<=kAt rk arr hi):Up2 rk arr lo (hi + 1):=fun i j h1 h2 h3=>by
 by_cases ej:j=hi
 ·by_cases ei:i=hi
  ·rw [ei,ej]; exact E2 _
  ·have:=u i (hi - 1) h1 (by omega) (by omega)
   rw [ej]; omega
 ·exact u i j h1 h2 (by omega)
noncomputable def Dn2 (rk:Ay->Int) (arr:Array Ay) (lo hi:Nat):Prop:=∀ i j,lo<=i->i<=j->j < hi->kAt rk arr j<=kAt rk arr i
theorem Dn2.more {rk:Ay->Int} {arr:Array Ay} {lo hi:Nat} (u:Dn2 rk arr lo hi) (h:lo < hi) (e:kAt rk arr hi<=kAt rk arr (hi - 1)):Dn2 rk arr lo (hi + 1):=fun i j h1 h2 h3=>by
 by_cases ej:j=hi
 ·by_cases ei:i=hi
  ·rw [ei,ej]; exact E2 _
  ·have:=u i (hi - 1) h1 (by omega) (by omega)
   rw [ej]; omega
 ·exact u i j h1 h2 (by omega)
theorem Dn2.like {rk:Ay->Int} {arr arr':Array Ay} {lo hi:Nat} (u:Dn2 rk arr lo hi) (h:∀ k,kAt rk arr' k=kAt rk arr k):Dn2 rk arr' lo hi:=fun i j h1 h2 h3=>by
 rw [h,h]; exact u i j h1 h2 h3
section
variable {prog:Ap} {w:Bb} {A:B7} {E:A2->A4->Prop} {s:A4} {kd:Ff} {S:Ay->Prop} {rk:Ay->Int}
theorem zgj (C:Ranks prog w A E s kd S rk) {i j:Nat} {st:C3} {Q:Option Bool->C3->Prop} (hS:∀ x∈(arrOf st).toList,S x) (hk:kindOf st=kd) (hi:i < (arrOf st).size) (hj:j < (arrOf st).size) (q:Q (some (decide (kAt rk (arrOf st) i < kAt rk (arrOf st) j))) st):wpS (model prog w) A E s (ltAt' i j) Q st:=by
 rw [ltAt'_eq]
 refine Ak (Ih (Ak (zaJ hi (Ak (zaJ hj (C.ask (zgI hS i hi) (zgI hS j hj) hk ?_))))))
 rw [zaY hi,zaY hj] at q
 exact q
theorem zgG (C:Ranks prog w A E s kd S rk) {st:C3} {lo a nrem:Nat} (hS:∀ x∈(arrOf st).toList,S x) (hk:kindOf st=kd) (hn:lo + nrem<=(arrOf st).size) (ha:1<=a) (han:a<=nrem) (u:Up2 rk (arrOf st) lo (lo + a)) {F:Nat->Option (Option Nat)×Nat->StateT C3 Sem (ForInStep (Option (Option Nat)×Nat))}
  (f:∀ x n R,lo + n < (arrOf st).size->1<=n->(if kAt rk (arrOf st) (lo + n) < kAt rk (arrOf st) (lo + n - 1) then R (Sv (none,n)) st else R (Dz (none,n + 1)) st)->wpS (model prog w) A E s (F x (none,n)) R st) :
  wpS (model prog w) A E s (forIn [a:nrem] (none,a) F) (fun c st'=>st'=st/\∃ n,c=(none,n)/\a<=n/\n<=nrem/\Up2 rk (arrOf st) lo (lo + n)/\(n=nrem\/kAt rk (arrOf st) (lo + n) < kAt rk (arrOf st) (lo + n - 1))) st:=by
 refine Da (I:=fun x c st'=>st'=st/\c=(none,x)/\Up2 rk (arrOf st) lo (lo + x)) ?step ?fin ⟨rfl,rfl,u⟩
 case fin =>
  rintro c st' ⟨rfl,rfl,u'⟩
  rw [show max a nrem=nrem by omega] at u' ⊢
  exact ⟨rfl,nrem,rfl,han,Aa _,u',.inl rfl⟩
 case step =>
  rintro x c st' hax hxn ⟨rfl,rfl,u'⟩
  refine f x x _ (by omega) (by omega) ?_
  by_cases hl:kAt rk (arrOf st') (lo + x) < kAt rk (arrOf st') (lo + x - 1)
  ·rw [if_pos hl]
   exact ⟨rfl,x,rfl,hax,by omega,u',.inr hl⟩
  ·rw [if_neg hl]
   exact ⟨rfl,rfl,by have:=u'.more (by omega) (by omega); rwa [show lo + x + 1=lo + (x + 1) by omega] at this⟩
theorem countRun_ok (C:Ranks prog w A E s kd S rk) {st:C3} {lo nrem:Nat} {Q:Option Nat->C3->Prop} (hS:∀ x∈(arrOf st).toList,S x) (hk:kindOf st=kd) (hn:lo + nrem<=(arrOf st).size) (h1:1<=nrem)
  (q:∀ m st',Chg lo (lo + nrem) st st'->1<=m->m<=nrem->Up2 rk (arrOf st') lo (lo + m)->Q (some m) st'):wpS (model prog w) A E s (countRun' lo nrem) Q st:=by
 rw [countRun'_eq]
 have asc1:∀ {st1:C3},Chg lo (lo + nrem) st st1->∀ {i j:Nat} {R:Option Bool->C3->Prop},i < (arrOf st).size->j < (arrOf st).size->R (some (decide (kAt rk (arrOf st1) i < kAt rk (arrOf st1) j))) st1->wpS (model prog w) A E s (ltAt' i j) R st1:=fun {st1} c i j R hi hj r =>
  zgj C (zb0 c.perm hS) (c.kind.trans hk) (by rw [c.size]; exact hi) (by rw [c.size]; exact hj) r
 refine Ak (Ef (zgG C hS hk hn (Aa 1) h1 (fun i j a b c=>by rw [show i=j by omega]; exact E2 _) fun x n R b1 b2 r => ?_) ?_)
 ·refine Ak (asc1 (Chg.refl st) (by omega) (by omega) ?_)
  dsimp only
  refine zal (fun e => ?_) (fun e => ?_)
  ·rw [if_pos (by simpa using e)] at r; exact Ar r
  ·rw [if_neg (by simpa using e)] at r; exact Ar r
 rintro ⟨r,n⟩ st0 ⟨e0,n',e,hn1,hn2,u,hor⟩
 cases e
 rw [e0]
 clear e0 st0
 dsimp only
 refine zal (fun e=>Ar (q n _ (Chg.refl _) hn1 hn2 u)) (fun e => ?_)
 have e:¬ n=nrem:=by simpa using e
 have hlt:=hor.resolve_left e
 refine zal (fun g => ?_) (fun g => ?_)
 refine Ak (asc1 (Chg.refl st) (by omega) (by omega) ?_)
 dsimp only
 refine zal (fun _=>Ar (q n _ (Chg.refl _) hn1 hn2 u)) (fun ng => ?_)
 have ng:kAt rk (arrOf st) (lo + n - 1)<=kAt rk (arrOf st) lo:=by simpa using ng
 have all:∀ k,lo<=k->k < lo + n->kAt rk (arrOf st) k=kAt rk (arrOf st) (lo + n - 1):=fun k a b=>by
  have a1:=u lo k (Aa _) a b
  have a2:=u k (lo + n - 1) a (by omega) (by omega)
  omega
 refine Ak (Ln ?_)
 have c1:=(Chg.refl (lo:=lo) (hi:=lo + nrem) st).mirror (i:=lo) (j:=lo + n) (Aa _) (by omega) (by omega)
 have d1:Dn2 rk (arrOf (setArr st (mirror (arrOf st) lo (lo + n) ((lo + n - lo) / 2)))) lo (lo + (n + 1)):=by
  refine Dn2.like (arr:=arrOf st) ?_ (zbv (by omega) all)
  have d0:Dn2 rk (arrOf st) lo (lo + n):=fun i j a b c=>by rw [all i a (by omega),all j (by omega) c]; exact E2 _
  exact d0.more (by omega) (by omega)
 generalize setArr st (mirror (arrOf st) lo (lo + n) ((lo + n - lo) / 2))=st1 at c1 d1 ⊢
 rotate_left
 have c1:=Chg.refl (lo:=lo) (hi:=lo + nrem) st
 have d1:Dn2 rk (arrOf st) lo (lo + (n + 1)):=by
  have d0:Dn2 rk (arrOf st) lo (lo + n):=fun i j a b c=>by rw [show i=j by omega]; exact E2 _
  exact d0.more (by omega) (by omega)
 obtain ⟨st1,hh⟩:∃ st1,st1=st:=⟨_,rfl⟩
 have c1:Chg lo (lo + nrem) st st1:=by rw [hh]; exact c1
 have d1:Dn2 rk (arrOf st1) lo (lo + (n + 1)):=by rw [hh]; exact d1
 rw [<- hh]
 clear hh
 all_goals
  refine Ak (Jw (Fz ⟨rfl,?_⟩))
  refine Ak (Ef (Da (I:=fun x c st'=>∃ neq,c=(none,x,neq)/\Chg lo (lo + nrem) st st'/\Dn2 rk (arrOf st') lo (lo + x)/\neq + 1<=x/\∀ i,lo + x - (neq + 1)<=i->i < lo + x->kAt rk (arrOf st') i=kAt rk (arrOf st') (lo + x - 1))
   (Q:=fun c st'=>∃ m neq,c=(none,m,neq)/\Chg lo (lo + nrem) st st'/\n + 1<=m/\m<=nrem/\Dn2 rk (arrOf st') lo (lo + m)/\neq + 1<=m/\∀ i,lo + m - (neq + 1)<=i->i < lo + m->kAt rk (arrOf st') i=kAt rk (arrOf st') (lo + m - 1)) ?step ?fin ⟨0,rfl,c1,d1,by omega,fun i a b=>by congr 1; omega⟩) ?post)
  case fin =>
   rintro c st' ⟨neq,rfl,a1,a2,a3,a4⟩
   rw [show max (n + 1) nrem=nrem by omega] at a2 a3 a4 ⊢
   exact ⟨nrem,neq,rfl,a1,by omega,Aa _,a2,a3,a4⟩
  case step =>
   rintro x c st' hx1 hx2 ⟨neq,rfl,a1,a2,a3,a4⟩
   dsimp only
   have sz:=a1.size
   refine Ak (asc1 a1 (by omega) (by omega) ?_)
   dsimp only
   refine zal (fun e1 => ?_) (fun e1 => ?_)
   ·have e1:kAt rk (arrOf st') (lo + x) < kAt rk (arrOf st') (lo + x - 1):=by simpa using e1
    have d2:Dn2 rk (arrOf st') lo (lo + (x + 1)):=a2.more (by omega) (by omega)
    refine zal (fun e2=>Ak (Ln (Ar ?_))) (fun e2=>Ar ?_)
    ·exact ⟨0,rfl,a1.mirror (by omega) (by omega) (by omega),d2.like (zbv (by omega) a4),by omega,fun i a b=>by congr 1; omega⟩
    ·exact ⟨0,rfl,a1,d2,by omega,fun i a b=>by congr 1; omega⟩
   ·have e1:kAt rk (arrOf st') (lo + x - 1)<=kAt rk (arrOf st') (lo + x):=by simpa using e1
    refine Ak (asc1 a1 (by omega) (by omega) ?_)
    dsimp only
    refine zal (fun e2=>Ar ?_) (fun e2=>Ar ?_)
    ·exact ⟨x,neq,rfl,a1,hx1,by omega,a2,a3,a4⟩
    ·have e2:kAt rk (arrOf st') (lo + x)<=kAt rk (arrOf st') (lo + x - 1):=by simpa using e2
     refine ⟨neq + 1,rfl,a1,a2.more (by omega) e2,by omega,fun i a b => ?_⟩
     rw [show lo + (x + 1) - 1=lo + x by omega]
     by_cases ei:i=lo + x
     ·rw [ei]
     ·rw [a4 i (by omega) (by omega)]; omega
  case post =>
   rintro ⟨r,m,neq⟩ st' ⟨m',neq',e2,a1,am,am2,a2,a3,a4⟩
   cases e2
   dsimp only
   have sz:=a1.size
   refine zal (fun g2 => ?_) (fun g2 => ?_)
   refine Ak (Ln ?_)
   have a5:=a1.mirror (i:=lo + m - (neq + 1)) (j:=lo + m) (by omega) (by omega) (by omega)
   have a6:Dn2 rk (arrOf (setArr st' (mirror (arrOf st') (lo + m - (neq + 1)) (lo + m) ((lo + m - (lo + m - (neq + 1))) / 2)))) lo (lo + m):=a2.like (zbv (by omega) a4)
   generalize setArr st' (mirror (arrOf st') (lo + m - (neq + 1)) (lo + m) ((lo + m - (lo + m - (neq + 1))) / 2))=st2 at a5 a6 ⊢
   rotate_left
   have a5:=a1
   have a6:=a2
   clear a1 a2 a3 a4
   generalize st'=st2 at a5 a6 ⊢
   all_goals
    have sz2:=a5.size
    have a7:=a5.mirror (i:=lo) (j:=lo + m) (Aa _) (by omega) (by omega)
    have a8:Up2 rk (arrOf (setArr st2 (mirror (arrOf st2) lo (lo + m) ((lo + m - lo) / 2)))) lo (lo + m):=fun i j b1 b2 b3=>by
     show kAt rk (mirror (arrOf st2) lo (lo + m) ((lo + m - lo) / 2)) i<=kAt rk (mirror (arrOf st2) lo (lo + m) ((lo + m - lo) / 2)) j
     rw [zcB (by omega),zcB (by omega),if_pos (by omega),if_pos (by omega)]
     exact a6 _ _ (by omega) (by omega) (by omega)
    refine Ak (Ln ?_)
    generalize setArr st2 (mirror (arrOf st2) lo (lo + m) ((lo + m - lo) / 2))=st3 at a7 a8 ⊢
    have sz3:=a7.size
    refine Ak (Ef (zgG C (zb0 a7.perm hS) (a7.kind.trans hk) (by omega) (show 1<=m by omega) (by omega) a8 fun x n R b1 b2 r => ?_) ?_)
    ·refine Ak (asc1 a7 (by omega) (by omega) ?_)
     dsimp only
     refine zal (fun e => ?_) (fun e => ?_)
     ·rw [if_pos (by simpa using e)] at r; exact Ar r
     ·rw [if_neg (by simpa using e)] at r; exact Ar r
    rintro ⟨r,k⟩ st4 ⟨e0,k',ek,b1,b2,b3,_⟩
    cases ek
    rw [e0]
    exact Ar (q k _ a7 (by omega) b2 b3)
theorem binSort_ok (C:Ranks prog w A E s kd S rk) {st:C3} {lo n ok:Nat} {Q:Bool->C3->Prop} (hS:∀ x∈(arrOf st).toList,S x) (hk:kindOf st=kd) (hn:lo + n<=(arrOf st).size) (hok:ok<=n) (u:Up2 rk (arrOf st) lo (lo + ok))
  (q:∀ st',Chg lo (lo + n) st st'->Up2 rk (arrOf st') lo (lo + n)->Q true st'):wpS (model prog w) A E s (binarySort' lo n ok) Q st:=by
 rw [binarySort'_eq]
 refine Ak (Ef (Da (I:=fun k c st'=>c=(none,())/\Chg lo (lo + n) st st'/\Up2 rk (arrOf st') lo (lo + min k n)) (Q:=fun c st'=>c=(none,())/\Chg lo (lo + n) st st'/\Up2 rk (arrOf st') lo (lo + n)) ?step ?fin ?init) ?post)
 case post =>
  rintro c st' ⟨rfl,a,b⟩
  exact Ar (q st' a b)
 case init =>
  refine ⟨rfl,Chg.refl _,fun i j a b c => ?_⟩
  by_cases h1:ok=0
  ·rw [show i=j by omega]; exact E2 _
  ·exact u i j a b (by omega)
 case fin =>
  rintro c st' ⟨rfl,a,b⟩
  refine ⟨rfl,a,?_⟩
  rwa [show min (max (max ok 1) n) n=n by omega] at b
 case step =>
  rintro k c st' hk1 hk2 ⟨rfl,a,b⟩
  rw [show min k n=k by omega] at b
  have sz:=a.size
  refine Ak (Ef (Da (I:=fun x c st''=>st''=st'/\∃ l r,c=(none,l,r)/\l<=r/\r<=k/\r - l<=k - x/\(∀ i,i < l->kAt rk (arrOf st') (lo + i)<=kAt rk (arrOf st') (lo + k))/\(∀ i,r<=i->i < k->kAt rk (arrOf st') (lo + k) < kAt rk (arrOf st') (lo + i)))
   (Q:=fun c st''=>st''=st'/\∃ l r,c=(none,l,r)/\l<=k/\(∀ i,i < l->kAt rk (arrOf st') (lo + i)<=kAt rk (arrOf st') (lo + k))/\(∀ i,l<=i->i < k->kAt rk (arrOf st') (lo + k) < kAt rk (arrOf st') (lo + i))) ?istep ?ifin ⟨rfl,0,k,rfl,by omega,by omega,by omega,fun i hi=>by omega,fun i h1 h2=>by omega⟩) ?ipost)
  case ifin =>
   rintro c st'' ⟨rfl,l,r,rfl,b1,b2,b3,b4,b5⟩
   exact ⟨rfl,l,r,rfl,by omega,b4,fun i h1 h2=>b5 i (by omega) h2⟩
  case istep =>
   rintro x c st'' _ hx ⟨rfl,l,r,rfl,b1,b2,b3,b4,b5⟩
   dsimp only
   refine zal (fun e=>Ar ⟨rfl,l,r,rfl,by omega,b4,fun i h1 h2=>b5 i (by omega) h2⟩) (fun e => ?_)
   refine Ak (zgj C (zb0 a.perm hS) (a.kind.trans hk) (by omega) (by omega) ?_)
   dsimp only
   refine zal (fun e1=>Ar ?_) (fun e1=>Ar ?_)
   ·have e1:kAt rk (arrOf st'') (lo + k) < kAt rk (arrOf st'') (lo + (l + r) / 2):=by simpa using e1
    refine ⟨rfl,l,(l + r) / 2,rfl,by omega,by omega,by omega,b4,fun i h1 h2 => ?_⟩
    have:=b (lo + (l + r) / 2) (lo + i) (by omega) (by omega) (by omega)
    omega
   ·have e1:kAt rk (arrOf st'') (lo + (l + r) / 2)<=kAt rk (arrOf st'') (lo + k):=by simpa using e1
    refine ⟨rfl,(l + r) / 2 + 1,r,rfl,by omega,by omega,by omega,fun i h1 => ?_,b5⟩
    have:=b (lo + i) (lo + (l + r) / 2) (by omega) (by omega) (by omega)
    omega
  case ipost =>
   rintro ⟨r0,l,r⟩ st'' ⟨e0,l',r',e,b2,b4,b5⟩
   cases e
   rw [e0]
   dsimp only
   rw [moveDown'_eq]
   refine Ak (Ko (Ar ⟨rfl,a.bubble (by omega) (by omega) (by omega),?_⟩))
   rw [show min (k + 1) n=k + 1 by omega]
   intro i j h1 h2 h3
   show kAt rk (bubble (arrOf st') (lo + k) (lo + k - (lo + l))) i<=kAt rk (bubble (arrOf st') (lo + k) (lo + k - (lo + l))) j
   rw [zdK (by omega) (by omega),zdK (by omega) (by omega),show lo + k - (lo + k - (lo + l))=lo + l by omega]
   by_cases e1:i=lo + l
   ·rw [if_pos e1]
    by_cases e2:j=lo + l
    ·rw [if_pos e2]; exact E2 _
    ·rw [if_neg e2,if_pos (by omega)]
     have:=b5 (j - 1 - lo) (by omega) (by omega)
     rw [show lo + (j - 1 - lo)=j - 1 by omega] at this
     omega
   ·rw [if_neg e1]
    by_cases e3:lo + l < i/\i<=lo + k
    ·rw [if_pos e3,if_neg (by omega),if_pos (by omega)]
     exact b _ _ (by omega) (by omega) (by omega)
    ·rw [if_neg e3]
     by_cases e2:j=lo + l
     ·rw [if_pos e2]
      have:=b4 (i - lo) (by omega)
      rwa [show lo + (i - lo)=i by omega] at this
     ·rw [if_neg e2]
      by_cases e4:lo + l < j/\j<=lo + k
      ·rw [if_pos e4]
       exact b _ _ (by omega) (by omega) (by omega)
      ·rw [if_neg e4]
       exact b _ _ (by omega) (by omega) (by omega)
end
theorem wpS_setSt {M:Hv} {A:B7} {E:A2->A4->Prop} {s:A4} {σ : Type} {x : σ} {Q:PUnit -> σ -> Prop} {st : σ} (h:Q ⟨⟩ x):wpS M A E s (set x:StateT σ Sem PUnit) Q st:=by
 unfold wpS; rw [StateT.run_set]; exact Ad ⟨rfl,h⟩
theorem wpS_setLike {M:Hv} {A:B7} {E:A2->A4->Prop} {s:A4} {x:C3} {Q:PUnit->C3->Prop} {st:C3} (h:∀ st',kindOf st'=kindOf x->arrOf st'=arrOf x->pendingOf st'=pendingOf x->failedOf st'=failedOf x->Q ⟨⟩ st'):wpS M A E s (set x:StateT C3 Sem PUnit) Q st:=wpS_setSt (h x rfl rfl rfl rfl)
noncomputable abbrev seg (l:List Ay) (lo n:Nat):List Ay:=(l.drop lo).take n
theorem mem_seg {l:List Ay} {lo n:Nat} {y:Ay} (h:y∈seg l lo n):∃ j,∃ hj:j < l.length,lo<=j/\j < lo + n/\l[j]=y:=by
 obtain ⟨j,hj,h1,e⟩:=zbt h
 rw [Ge] at hj
 rw [K2] at e
 exact ⟨lo + j,by omega,by omega,by omega,e⟩
theorem seg_split (l:List Ay) (lo m n:Nat):seg l lo (m + n)=seg l lo m ++ seg l (lo + m) n:=by
 unfold seg
 rw [Pd,Ld]
theorem seg_whole (l:List Ay) (lo n:Nat):l=l.take lo ++ seg l lo n ++ l.drop (lo + n):=by
 unfold seg
 conv=>lhs; rw [<- Cc lo l,<- Cc n (l.drop lo)]
 rw [Ld,Au]
theorem zdU {rk:Ay->Int} {arr:Array Ay} {lo hi:Nat} (u:Up2 rk arr lo hi) (h:hi<=arr.size):Srt rk (seg arr.toList lo (hi - lo)):=by
 refine D1.mpr fun i j hi1 hj hij => ?_
 have l1:(seg arr.toList lo (hi - lo)).length<=hi - lo:=List.length_take_le _ _
 have:=u (lo + i) (lo + j) (by omega) (by omega) (by omega)
 rw [zaY (by omega),zaY (by omega)] at this
 simpa [seg,K1,K2] using this
theorem up_seg {rk:Ay->Int} {arr:Array Ay} {P L R:List Ay} (e:arr.toList=P ++ L ++ R) (s:Srt rk L):Up2 rk arr P.length (P.length + L.length):=by
 have hz:arr.size=P.length + L.length + R.length:=by
  rw [<- At,e,Ag,Ag]
 intro i j h1 h2 h3
 have g:∀ k (hk:P.length<=k) (hk2:k < P.length + L.length),kAt rk arr k=rk (L[k - P.length]'(by omega)):=fun k hk hk2=>by
  rw [zaY (by omega),<- zaq arr (by omega)]
  congr 1
  have:arr.toList[k]?=some (L[k - P.length]'(by omega)):=by
   rw [e,C4 (by rw [Ag]; omega),Ca hk,A6 (by omega)]
  rw [A6 (by rw [At]; omega)] at this
  exact C6 this
 rw [g i h1 (by omega),g j (by omega) h3]
 by_cases eij:i=j
 ·subst eij; exact E2 _
 ·exact D1.mp s _ _ (by omega) (by omega) (by omega)
theorem zeS (base:Nat):∀ (l:List Ay) (n:Nat) (arr:Array Ay),base + n + l.length<=arr.size ->
  ((l.zipIdx n).foldl (fun (a:Array Ay) (x:Ay×Nat)=>a.setIfInBounds (base + x.2) x.1) arr).toList=arr.toList.take (base + n) ++ l ++ arr.toList.drop (base + n + l.length)
 | [],n,arr,h=>by simp
 | x :: l,n,arr,h=>by
  rw [Aw] at h
  rw [List.zipIdx_cons,Kx,zeS base l (n + 1) _ (by rw [Array.size_setIfInBounds]; omega)]
  dsimp only
  rw [L9]
  have hb:base + n < arr.toList.length:=by rw [At]; omega
  have e1:(arr.toList.set (base + n) x).take (base + (n + 1))=arr.toList.take (base + n) ++ [x]:=by
   rw [show base + (n + 1)=base + n + 1 by omega,Cs (by rw [Ov]; exact hb),List.getElem_set_self,List.take_set_of_le (Aa _)]
  have e2:(arr.toList.set (base + n) x).drop (base + (n + 1) + l.length)=arr.toList.drop (base + n + (x :: l).length):=by
   rw [List.drop_set_of_lt (by omega),Aw]
   congr 1; omega
  rw [e1,e2]
  simp
noncomputable abbrev Pend:=Array (Nat×Nat×Nat)
theorem pend_at {p:Pend} {pre post:List (Nat×Nat×Nat)} {x y:Nat×Nat×Nat} (e:p.toList=pre ++ x :: y :: post):p[pre.length]?=some x/\p[pre.length + 1]?=some y:=by
 constructor
 ·rw [<- Ci,e]; simp
 ·rw [<- Ci,e]; simp
theorem pend_new {p:Pend} {pre post:List (Nat×Nat×Nat)} {x y z:Nat×Nat×Nat} (e:p.toList=pre ++ x :: y :: post):((p.setIfInBounds pre.length z).eraseIdxIfInBounds (pre.length + 1)).toList=pre ++ z :: post:=by
 rw [Array.toList_eraseIdxIfInBounds,L9,e]
 simp [List.eraseIdx_append_of_length_le]
theorem back_out {arr arr':Array Ay} {b:Nat} {M:List Ay} (e:arr'.toList=arr.toList.take b ++ M ++ arr.toList.drop (b + M.length)) (h:b + M.length<=arr.size):∀ i,(i < b\/b + M.length<=i)->arr'[i]?=arr[i]?:=fun i hi=>by
 rw [<- Ci,<- Ci,e]
 have lb:(arr.toList.take b).length=b:=by rw [Cw,At]; omega
 rcases hi with z | z
 ·rw [C4 (by rw [Ag]; omega),C4 (by omega),Lv z]
 ·rw [Ca (by rw [Ag]; omega),List.getElem?_drop,Ag,lb]
  congr 1; omega
theorem zcr {M:Hv} {A:B7} {E:A2->A4->Prop} {s:A4} {f:C3->C3} {Q:PUnit->C3->Prop} {st:C3} (h:∀ st',kindOf st'=kindOf (f st)->arrOf st'=arrOf (f st)->pendingOf st'=pendingOf (f st)->failedOf st'=failedOf (f st)->Q ⟨⟩ st'):wpS M A E s (modify f:StateT C3 Sem PUnit) Q st:=Ko (h _ rfl rfl rfl rfl)
section
variable {prog:Ap} {w:Bb} {A:B7} {E:A2->A4->Prop} {s:A4} {kd:Ff} {S:Ay->Prop} {rk:Ay->Int}
structure Mrg (rk:Ay->Int) (lo hi:Nat) (st st':C3) (p':List (Nat×Nat×Nat)):Prop where
 kind:kindOf st'=kindOf st
 fail:failedOf st'=failedOf st
 pend:(pendingOf st').toList=p'
 perm:(arrOf st').Perm (arrOf st)
 out:∀ i,(i < lo\/hi<=i)->(arrOf st')[i]?=(arrOf st)[i]?
 up:Up2 rk (arrOf st') lo hi
theorem mergeAt_ok (C:Ranks prog w A E s kd S rk) {st:C3} {sa na p1 nb p2:Nat} {pre post:List (Nat×Nat×Nat)} {Q:Bool->C3->Prop} (hS:∀ x∈(arrOf st).toList,S x) (hk:kindOf st=kd) (hf:failedOf st=none) (hp:(pendingOf st).toList=pre ++ (sa,na,p1) :: (sa + na,nb,p2) :: post) (h1:0 < na) (h2:0 < nb) (hz:sa + na + nb<=(arrOf st).size) (ua:Up2 rk (arrOf st) sa (sa + na)) (ub:Up2 rk (arrOf st) (sa + na) (sa + na + nb))
  (q:∀ st',Mrg rk sa (sa + na + nb) st st' (pre ++ (sa,na + nb,p1) :: post)->Q true st'):wpS (model prog w) A E s (mergeAt' pre.length) Q st:=by
 obtain ⟨g1,g2⟩:=pend_at hp
 have hn:=pend_new (z:=(sa,na + nb,p1)) hp
 refine Ak (Ih ?_)
 dsimp only
 unfold pendingOf at g1 g2
 rw [g1,g2]
 dsimp only
 refine Ak (wpS_setLike fun st1 k1 a1 q1 f1 => ?_)
 have k1:kindOf st1=kindOf st:=k1
 have a1:arrOf st1=arrOf st:=a1
 have f1:failedOf st1=failedOf st:=f1
 have q1:(pendingOf st1).toList=pre ++ (sa,na + nb,p1) :: post:=by rw [q1]; exact hn
 have hk1:kindOf st1=kd:=k1.trans hk
 have same:Up2 rk (arrOf st) sa (sa + na + nb)->Q true st1:=fun u=>q st1 ⟨k1,f1,q1,a1 ▸ Gc _,fun i _=>by rw [a1],by rw [a1]; exact u⟩
 have hA:=zgI hS
 have i1:sa + na < (arrOf st).size:=by omega
 refine Ak (zaJ i1 ?_)
 refine Ak (zbG C (arr:=arrOf st) (hA _ i1) (fun i h _ _=>hA i h) (by omega) (by omega) ua hk1 fun k j1 j2 j3 => ?_)
 dsimp only
 simp only [Bm,if_false,<- zaY (rk:=rk) i1] at j2 j3
 refine zal (fun e=>Ar (same ?_)) (fun e => ?_)
 ·have e:na - k=0:=by simpa using e
  intro i j b1 b2 b3
  by_cases e1:j < sa + na
  ·exact ua i j b1 b2 e1
  by_cases e2:sa + na<=i
  ·exact ub i j e2 b2 b3
  have a2:=j2 (i - sa) (by omega)
  rw [show sa + (i - sa)=i by omega] at a2
  have a3:=ub (sa + na) j (Aa _) (by omega) b3
  omega
 have e:¬ na - k=0:=by simpa using e
 have hidx:sa + k + (na - k) - 1=sa + na - 1:=by omega
 rw [hidx]
 have i2:sa + na - 1 < (arrOf st).size:=by omega
 refine Ak (zaJ i2 ?_)
 refine Ak (zbG C (arr:=arrOf st) (hA _ i2) (fun i h _ _=>hA i h) (by omega) (by omega) ub hk1 fun m j4 j5 j6 => ?_)
 dsimp only
 simp only [if_true,<- zaY (rk:=rk) i2] at j5 j6
 refine zal (fun e0=>Ar (same ?_)) (fun e0 => ?_)
 ·have e0:m=0:=by simpa using e0
  intro i j b1 b2 b3
  by_cases e1:j < sa + na
  ·exact ua i j b1 b2 e1
  by_cases e2:sa + na<=i
  ·exact ub i j e2 b2 b3
  have a2:=j6 (j - (sa + na)) (by omega) (by omega)
  rw [show sa + na + (j - (sa + na))=j by omega] at a2
  have a3:=ua i (sa + na - 1) b1 (by omega) (by omega)
  omega
 have e0:¬ m=0:=by simpa using e0
 have lL:(arrOf st).toList.length=(arrOf st).size:=At
 have xl:((arrOf st).extract (sa + k) (sa + na)).toList=seg (arrOf st).toList (sa + k) (na - k):=by rw [zaQ,show sa + na - (sa + k)=na - k by omega]
 have yl:((arrOf st).extract (sa + na) (sa + na + m)).toList=seg (arrOf st).toList (sa + na) m:=by rw [zaQ,E5]
 have xs:((arrOf st).extract (sa + k) (sa + na)).size=na - k:=by rw [Ng]; omega
 have ys:((arrOf st).extract (sa + na) (sa + na + m)).size=m:=by rw [Ng]; omega
 have srtX:Srt rk (seg (arrOf st).toList (sa + k) (na - k)):=by
  have:=zdU (lo:=sa + k) (hi:=sa + na) (fun i j b1 b2 b3=>ua i j (by omega) b2 b3) (by omega)
  rwa [show sa + na - (sa + k)=na - k by omega] at this
 have srtY:Srt rk (seg (arrOf st).toList (sa + na) m):=by
  have:=zdU (lo:=sa + na) (hi:=sa + na + m) (fun i j b1 b2 b3=>ub i j (by omega) b2 (by omega)) (by omega)
  rwa [E5] at this
 have atSeg:∀ {lo n:Nat} {y:Ay},y∈seg (arrOf st).toList lo n->∃ j,lo<=j/\j < lo + n/\j < (arrOf st).size/\rk y=kAt rk (arrOf st) j:=fun {lo n y} hy=>by
  obtain ⟨j,hj,b1,b2,b3⟩:=mem_seg hy
  have hj2:j < (arrOf st).size:=by omega
  refine ⟨j,b1,b2,hj2,?_⟩
  rw [<- b3,zaY hj2,zaq _ hj2]
 have cX:∀ y∈seg (arrOf st).toList (sa + k) (na - k),kAt rk (arrOf st) (sa + na)<=rk y/\rk y<=kAt rk (arrOf st) (sa + na - 1):=fun y hy=>by
  obtain ⟨j,b1,b2,b3,b4⟩:=atSeg hy
  have a2:=j3 (j - sa) (by omega) (by omega)
  rw [show sa + (j - sa)=j by omega] at a2
  have a3:=ua j (sa + na - 1) (by omega) (by omega) (by omega)
  omega
 have cY:∀ y∈seg (arrOf st).toList (sa + na) m,kAt rk (arrOf st) (sa + na)<=rk y/\rk y<=kAt rk (arrOf st) (sa + na - 1):=fun y hy=>by
  obtain ⟨j,b1,b2,b3,b4⟩:=atSeg hy
  have a2:=j5 (j - (sa + na)) (by omega)
  rw [show sa + na + (j - (sa + na))=j by omega] at a2
  have a3:=ub (sa + na) j (by omega) (by omega) (by omega)
  omega
 have fin:∀ (res:Array Ay) (st2:C3),Like st1 st2->MFin rk ((arrOf st).extract (sa + k) (sa + na)).toList ((arrOf st).extract (sa + na) (sa + na + m)).toList res.toList->∀ st3,kindOf st3=kindOf st2->arrOf st3=Lb (fun (a:Array Ay) (x:Ay×Nat)=>a.setIfInBounds (sa + k + x.2) x.1) (arrOf st2) res.toList.zipIdx->pendingOf st3=pendingOf st2->failedOf st3=failedOf st2->Mrg rk sa (sa + na + nb) st st3 (pre ++ (sa,na + nb,p1) :: post):=fun res st2 hL hM st3 k3 a3 q3 f3=>by
  rw [xl,yl] at hM
  have lM:res.toList.length=na - k + m:=by
   rw [hM.1.length_eq,Ag,<- xl,<- yl,At,At,xs,ys]
  rw [hL.2.1,a1] at a3
  have b3:=congrArg M7 a3
  rw [zeS (sa + k) res.toList 0 (arrOf st) (by omega),Mt] at b3
  have ew:(arrOf st).toList=(arrOf st).toList.take (sa + k) ++ (seg (arrOf st).toList (sa + k) (na - k) ++ seg (arrOf st).toList (sa + na) m) ++ (arrOf st).toList.drop (sa + k + res.toList.length):=by
   rw [lM]
   have:=seg_whole (arrOf st).toList (sa + k) (na - k + m)
   rwa [seg_split,show sa + k + (na - k)=sa + na by omega] at this
  refine ⟨k3.trans (hL.1.trans k1),f3.trans (hL.2.2.2.trans f1),by rw [q3,hL.2.2.1,q1],?_,fun i hi=>back_out b3 (by omega) i (by omega),?_⟩
  ·refine Gu.mpr ?_
   rw [b3]
   conv=>rhs; rw [ew]
   exact Hl _ (Dh _ hM.1)
  ·have e1:(arrOf st).toList.take (sa + k)=(arrOf st).toList.take sa ++ seg (arrOf st).toList sa k:=Pd
   have e2:(arrOf st).toList.drop (sa + k + res.toList.length)=seg (arrOf st).toList (sa + na + m) (nb - m) ++ (arrOf st).toList.drop (sa + na + nb):=by
    rw [lM,show sa + k + (na - k + m)=sa + na + m by omega]
    unfold seg
    conv=>lhs; rw [<- Cc (nb - m) ((arrOf st).toList.drop (sa + na + m))]
    rw [Ld,show sa + na + m + (nb - m)=sa + na + nb by omega]
   have e3:(arrOf st3).toList=(arrOf st).toList.take sa ++ (seg (arrOf st).toList sa k ++ res.toList ++ seg (arrOf st).toList (sa + na + m) (nb - m)) ++ (arrOf st).toList.drop (sa + na + nb):=by
    rw [b3,e1,e2]; simp
   have cM:∀ y∈res.toList,kAt rk (arrOf st) (sa + na)<=rk y/\rk y<=kAt rk (arrOf st) (sa + na - 1):=fun y hy=>by
    rcases Al.mp (hM.1.mem_iff.mp hy) with z | z
    ·exact cX y z
    ·exact cY y z
   have cA:∀ y∈seg (arrOf st).toList sa k,rk y<=kAt rk (arrOf st) (sa + na):=fun y hy=>by
    obtain ⟨j,b1,b2,b3,b4⟩:=atSeg hy
    have a2:=j2 (j - sa) (by omega)
    rw [show sa + (j - sa)=j by omega] at a2
    omega
   have cB:∀ y∈seg (arrOf st).toList (sa + na + m) (nb - m),kAt rk (arrOf st) (sa + na - 1)<=rk y/\kAt rk (arrOf st) (sa + na)<=rk y:=fun y hy=>by
    obtain ⟨j,b1,b2,b3,b4⟩:=atSeg hy
    have a2:=j6 (j - (sa + na)) (by omega) (by omega)
    rw [show sa + na + (j - (sa + na))=j by omega] at a2
    have a3:=ub (sa + na) j (by omega) (by omega) (by omega)
    omega
   have sA:Srt rk (seg (arrOf st).toList sa k):=by
    have:=zdU (lo:=sa) (hi:=sa + k) (fun i j b1 b2 b3=>ua i j (by omega) b2 (by omega)) (by omega)
    rwa [E5] at this
   have sB:Srt rk (seg (arrOf st).toList (sa + na + m) (nb - m)):=by
    have:=zdU (lo:=sa + na + m) (hi:=sa + na + nb) (fun i j b1 b2 b3=>ub i j (by omega) b2 (by omega)) (by omega)
    rwa [show sa + na + nb - (sa + na + m)=nb - m by omega] at this
   have sAll:Srt rk (seg (arrOf st).toList sa k ++ res.toList ++ seg (arrOf st).toList (sa + na + m) (nb - m)):=by
    refine C1.mpr ⟨C1.mpr ⟨sA,hM.2,fun x hx y hy=>Mz (cA x hx) (cM y hy).1⟩,sB,fun x hx y hy => ?_⟩
    rcases Al.mp hx with z | z
    ·exact Mz (cA x z) (cB y hy).2
    ·exact Mz (cM x z).2 (cB y hy).1
   have:=up_seg e3 sAll
   have l1:((arrOf st).toList.take sa).length=sa:=by rw [Cw]; omega
   have l2:(seg (arrOf st).toList sa k ++ res.toList ++ seg (arrOf st).toList (sa + na + m) (nb - m)).length=na + nb:=by
    rw [Ag,Ag,lM]
    unfold seg
    rw [Cw,Cw,Ge,Ge]
    omega
   rwa [l1,l2,<- Hu] at this
 have x0:0 < ((arrOf st).extract (sa + k) (sa + na)).size:=by omega
 have y0:0 < ((arrOf st).extract (sa + na) (sa + na + m)).size:=by omega
 have hX:Srt rk ((arrOf st).extract (sa + k) (sa + na)).toList:=by rw [xl]; exact srtX
 have hY:Srt rk ((arrOf st).extract (sa + na) (sa + na + m)).toList:=by rw [yl]; exact srtY
 have SX:∀ i (h:i < ((arrOf st).extract (sa + k) (sa + na)).size),S ((arrOf st).extract (sa + k) (sa + na))[i]:=fun i h=>by rw [Gb]; exact hA _ _
 have SY:∀ i (h:i < ((arrOf st).extract (sa + na) (sa + na + m)).size),S ((arrOf st).extract (sa + na) (sa + na + m))[i]:=fun i h=>by rw [Gb]; exact hA _ _
 have Y0:rk (((arrOf st).extract (sa + na) (sa + na + m))[0]'y0)=kAt rk (arrOf st) (sa + na):=by
  rw [zaY i1,Gb]; rfl
 have XL:rk (((arrOf st).extract (sa + k) (sa + na))[((arrOf st).extract (sa + k) (sa + na)).size - 1]'(by omega))=kAt rk (arrOf st) (sa + na - 1):=by
  rw [zaY i2,Gb]
  congr 2
  rw [xs]; omega
 have hh0:∀ y∈((arrOf st).extract (sa + k) (sa + na)).toList,rk (((arrOf st).extract (sa + na) (sa + na + m))[0]'y0)<=rk y:=fun y hy=>by
  rw [xl] at hy; rw [Y0]; exact (cX y hy).1
 have hhl:∀ y∈((arrOf st).extract (sa + na) (sa + na + m)).toList,rk y<=rk (((arrOf st).extract (sa + k) (sa + na))[((arrOf st).extract (sa + k) (sa + na)).size - 1]'(by omega)):=fun y hy=>by
  rw [yl] at hy; rw [XL]; exact (cY y hy).2
 refine zal (fun _=>Ak (mergeLo_ok C x0 y0 hX hY SX SY hh0 hhl hk1 fun res st2 hL hM=>Ak (zcr fun st3 k3 a3 q3 f3 => ?_))) (fun _=>Ak (mergeHi_ok C x0 y0 hX hY SX SY hh0 hhl hk1 fun res st2 hL hM=>Ak (zcr fun st3 k3 a3 q3 f3 => ?_)))
 all_goals
  have r:=fin res st2 hL hM st3 k3 a3 q3 f3
  have fl:failedOf st3=none:=r.fail.trans hf
  refine Ak (Ih ?_)
  unfold failedOf at fl
  rw [fl]
  exact Ar (q st3 r)
end
noncomputable def Stk (rk:Ay->Int) (arr:Array Ay):List (Nat×Nat×Nat)->Nat->Nat->Prop
 | [],a,e=>a=e
 | x :: r,a,e=>x.1=a/\0 < x.2.1/\Up2 rk arr a (a + x.2.1)/\Stk rk arr r (a + x.2.1) e
section
variable {rk:Ay->Int} {arr arr':Array Ay}
theorem Stk.le:∀ {l:List (Nat×Nat×Nat)} {a e:Nat},Stk rk arr l a e->a + l.length<=e
 | [],a,e,h=>by have h:a=e:=h; simp; omega
 | x :: r,a,e,⟨h1,h2,h3,h4⟩=>by have:=Stk.le h4; rw [Aw]; omega
theorem Stk.congr:∀ {l:List (Nat×Nat×Nat)} {a e:Nat},(∀ i,a<=i->i < e->kAt rk arr' i=kAt rk arr i)->Stk rk arr l a e->Stk rk arr' l a e
 | [],a,e,_,h=>h
 | x :: r,a,e,hc,⟨h1,h2,h3,h4⟩=>by
  have:=Stk.le h4
  refine ⟨h1,h2,fun i j b1 b2 b3 => ?_,Stk.congr (fun i b1 b2=>hc i (by omega) b2) h4⟩
  rw [hc i b1 (by omega),hc j (by omega) (by omega)]
  exact h3 i j b1 b2 b3
theorem Stk.split:∀ {l m:List (Nat×Nat×Nat)} {a e:Nat},Stk rk arr (l ++ m) a e->∃ b,Stk rk arr l a b/\Stk rk arr m b e
 | [],m,a,e,h=>⟨a,rfl,h⟩
 | x :: r,m,a,e,⟨h1,h2,h3,h4⟩=>by
  obtain ⟨b,g1,g2⟩:=Stk.split h4
  exact ⟨b,⟨h1,h2,h3,g1⟩,g2⟩
theorem Stk.join:∀ {l m:List (Nat×Nat×Nat)} {a b e:Nat},Stk rk arr l a b->Stk rk arr m b e->Stk rk arr (l ++ m) a e
 | [],m,a,b,e,h,k=>by have h:a=b:=h; rw [h]; exact k
 | x :: r,m,a,b,e,⟨h1,h2,h3,h4⟩,k=>⟨h1,h2,h3,Stk.join h4 k⟩
theorem Stk.mod {f:Nat×Nat×Nat->Nat×Nat×Nat} (hf:∀ x,(f x).1=x.1/\(f x).2.1=x.2.1):∀ {l:List (Nat×Nat×Nat)} {i a e:Nat},Stk rk arr l a e->Stk rk arr (l.modify i f) a e
 | [],i,a,e,h=>by cases i <;> simpa [List.modify_nil] using h
 | x :: r,0,a,e,⟨h1,h2,h3,h4⟩=>by
  show Stk rk arr (f x :: r) a e
  refine ⟨(hf x).1.trans h1,?_,?_,?_⟩
  ·rw [(hf x).2]; exact h2
  ·rw [(hf x).2]; exact h3
  ·rw [(hf x).2]; exact h4
 | x :: r,i + 1,a,e,⟨h1,h2,h3,h4⟩=>⟨h1,h2,h3,Stk.mod hf h4⟩
theorem two_at {α : Type} {l:List α} {i:Nat} (h:i + 1 < l.length):∃ pre x y post,l=pre ++ x :: y :: post/\pre.length=i:=by
 refine ⟨l.take i,l[i]'(by omega),l[i + 1],l.drop (i + 2),?_,by rw [Cw]; omega⟩
 conv=>lhs; rw [<- Cc i l]
 rw [Hk (show i < l.length by omega),Hk h]
end
section
variable {prog:Ap} {w:Bb} {A:B7} {E:A2->A4->Prop} {s:A4} {kd:Ff} {S:Ay->Prop} {rk:Ay->Int}
structure Stg (rk:Ay->Int) (kd:Ff) (a₀ : Array Ay) (st:C3) (e:Nat):Prop where
 kind:kindOf st=kd
 fail:failedOf st=none
 perm:(arrOf st).Perm a₀
 stk:Stk rk (arrOf st) (pendingOf st).toList 0 e
 le:e<=a₀.size
theorem zc5 (C:Ranks prog w A E s kd S rk) {a₀ : Array Ay} {st:C3} {i e:Nat} {Q:Bool->C3->Prop} (hS:∀ x∈a₀.toList,S x) (g:Stg rk kd a₀ st e) (hi:i + 1 < (pendingOf st).size)
  (q:∀ st',Stg rk kd a₀ st' e->(pendingOf st').size + 1=(pendingOf st).size->(∀ j,e<=j->(arrOf st')[j]?=(arrOf st)[j]?)->Q true st'):wpS (model prog w) A E s (mergeAt' i) Q st:=by
 obtain ⟨pre,⟨sa,na,p1⟩,⟨sb,nb,p2⟩,post,hp,rfl⟩:=two_at (l:=(pendingOf st).toList) (i:=i) (by rw [At]; exact hi)
 have hs:=g.stk
 rw [hp] at hs
 obtain ⟨b,s1,e1,n1,u1,e2,n2,u2,s2⟩:=hs.split
 dsimp only at e1 n1 u1 e2 n2 u2 s2
 subst e1 e2
 have sz:=g.perm.size_eq
 have l2:=s2.le
 have le:=g.le
 refine mergeAt_ok C (zb0 g.perm hS) g.kind g.fail hp n1 n2 (by omega) u1 u2 fun st' m => ?_
 refine q st' ⟨m.kind.trans g.kind,m.fail.trans g.fail,m.perm.trans g.perm,?_,g.le⟩ ?_ fun j hj=>m.out j (.inr (by omega))
 ·rw [m.pend]
  refine Stk.join (b:=sa) (s1.congr fun i b1 b2=>za5 (m.out i (.inl b2))) ⟨rfl,by show 0 < na + nb; omega,?_,?_⟩
  ·have:=m.up; show Up2 rk _ sa (sa + (na + nb)); rwa [<- Hu]
  ·show Stk rk _ post (sa + (na + nb)) e
   rw [<- Hu]
   exact s2.congr fun i b1 b2=>za5 (m.out i (.inr b1))
 ·rw [<- At,<- At,m.pend,hp,Ag,Ag,Aw,Aw,Aw]
  omega
theorem sortRuns_ok (C:Ranks prog w A E s kd S rk) {st:C3} {Q:Unit->C3->Prop} (hS:∀ x∈(arrOf st).toList,S x) (hk:kindOf st=kd) (hf:failedOf st=none) (hp:pendingOf st = #[]) (h2:2<=(arrOf st).size)
  (q:∀ st',(arrOf st').Perm (arrOf st)->failedOf st'=none->Up2 rk (arrOf st') 0 (arrOf st).size->Q () st'):wpS (model prog w) A E s sortRuns' Q st:=by
 rw [sortRuns'_eq]
 refine Ak (Ih ?_)
 dsimp only
 obtain ⟨a₀,ha⟩:∃ a,a=arrOf st:=⟨_,rfl⟩
 have g0:Stg rk kd a₀ st 0:=⟨hk,hf,ha ▸ Gc _,by rw [hp]; exact rfl,By _⟩
 rw [<- ha] at hS h2 ⊢
 rw [<- ha] at q
 refine Ak (Ef (Da (I:=fun x c st'=>∃ lo,c=(none,lo)/\Stg rk kd a₀ st' lo/\(x<=lo\/lo=a₀.size)) (Q:=fun c st'=>∃ lo,c=(none,lo)/\Stg rk kd a₀ st' lo/\lo=a₀.size) ?step ?fin ⟨0,rfl,g0,.inl (By _)⟩) ?post)
 case fin =>
  rintro c st' ⟨lo,rfl,g,h⟩
  have:=g.le
  exact ⟨lo,rfl,g,by omega⟩
 case step =>
  rintro x c st1 _ hx ⟨lo,rfl,g,hlo⟩
  dsimp only
  have gle:=g.le
  refine zal (fun e=>Ar ⟨lo,rfl,g,by omega⟩) (fun e => ?_)
  have sz:=g.perm.size_eq
  refine Ak (countRun_ok C (zb0 g.perm hS) g.kind (by omega) (by omega) fun n st2 c2 n1 n2 u2 => ?_)
  have keep:∀ {st2:C3},Chg lo a₀.size st1 st2->Stg rk kd a₀ st2 lo:=fun c2=>⟨c2.kind.trans g.kind,c2.fail.trans g.fail,c2.perm.trans g.perm,by rw [c2.pend]; exact g.stk.congr fun i b1 b2=>za5 (c2.out i (.inl b2)),g.le⟩
  have c2':Chg lo a₀.size st1 st2:=c2.wide (Aa _) (by omega)
  have g2:=keep c2'
  have sz2:=g2.perm.size_eq
  dsimp only
  refine zal (fun hm=>Ak (Jw (Fz ⟨rfl,Ak (binSort_ok C (zb0 g2.perm hS) g2.kind (by omega) (by omega) u2 fun st3 c3 u3 => ?_)⟩))) (fun hm => ?_)
  simp only [En,Bm,if_false]
  have g3:=keep (c2'.trans (c3.wide (Aa _) (by omega)))
  generalize hn3:min (a₀.size - lo) (minRun' a₀.size a₀.size 0)=n3 at u3 ⊢
  have n31:1<=n3:=by omega
  have n32:lo + n3<=a₀.size:=by omega
  rotate_left
  have g3:=g2
  have u3:=u2
  have n31:=n1
  have n32:lo + n<=a₀.size:=by omega
  clear c2 c2' u2 g2 n2 n1 hm sz2
  generalize st2=st3 at g3 u3 ⊢
  generalize n=n3 at u3 n31 n32 ⊢
  all_goals
   have push:∀ {st4:C3},Stg rk kd a₀ st4 lo->Up2 rk (arrOf st4) lo (lo + n3)->Stg rk kd a₀ (setPending st4 ((pendingOf st4).push (lo,n3,0))) (lo + n3):=fun {st4} g4 u4=>⟨g4.kind,g4.fail,g4.perm,by
    show Stk rk (arrOf st4) ((pendingOf st4).push (lo,n3,0)).toList 0 (lo + n3)
    rw [Ch]
    exact g4.stk.join ⟨rfl,n31,u4,rfl⟩,n32⟩
   refine Ak (Ih ?_)
   cases hb:(pendingOf st3).back? with
   | none=>exact Ak (Ko (Ar ⟨lo + n3,rfl,push g3 u3,by omega⟩))
   | some t =>
    obtain ⟨s1,n1',pp⟩:=t
    dsimp only
    refine Ak (Ef (Da (I:=fun _ c st'=>c=(none,())/\Stg rk kd a₀ st' lo/\Up2 rk (arrOf st') lo (lo + n3)) (Q:=fun c st'=>c=(none,())/\Stg rk kd a₀ st' lo/\Up2 rk (arrOf st') lo (lo + n3)) ?_ (fun _ _ h=>h) ⟨rfl,g3,u3⟩) ?_)
    ·rintro y c st4 _ _ ⟨rfl,g4,u4⟩
     refine Ak (Ih ?_)
     by_cases hps:(pendingOf st4).size > 1
     ·rw [if_pos hps]
      cases hq:(pendingOf st4)[(pendingOf st4).size - 2]? with
      | none=>exact Ar ⟨rfl,g4,u4⟩
      | some t =>
       obtain ⟨t1,t2,older⟩:=t
       dsimp only
       refine zal (fun _=>Ar ⟨rfl,g4,u4⟩) (fun _=>Ak (zc5 C hS g4 (by omega) fun st5 g5 _ o5 => ?_))
       simp only [En,Bm,if_false]
       refine Ar ⟨rfl,g5,fun i j b1 b2 b3 => ?_⟩
       rw [za5 (o5 i b1),za5 (o5 j (by omega))]
       exact u4 i j b1 b2 b3
     ·rw [if_neg hps]
      exact Ar ⟨rfl,g4,u4⟩
    ·rintro c st4 ⟨rfl,g4,u4⟩
     dsimp only
     refine Ak (zcr fun st5 k5 a5 q5 f5=>Ak (Ko (Ar ⟨lo + n3,rfl,push (st4:=st5) ?_ ?_,by omega⟩)))
     ·refine ⟨k5.trans g4.kind,f5.trans g4.fail,by rw [a5]; exact g4.perm,?_,g4.le⟩
      rw [a5,q5]
      show Stk rk (arrOf st4) ((pendingOf st4).modify _ _).toList 0 lo
      rw [Array.toList_modify]
      refine Stk.mod ?_ g4.stk
      exact fun x=>⟨rfl,rfl⟩
     ·rw [a5]; exact u4
 case post =>
  rintro c st1 ⟨lo,rfl,g,rfl⟩
  dsimp only
  have l1:=g.stk.le
  rw [At] at l1
  refine Ak (Ef (Da (I:=fun x c st'=>c=(none,())/\Stg rk kd a₀ st' a₀.size/\((pendingOf st').size<=1\/(pendingOf st').size + x<=a₀.size)) (Q:=fun c st'=>c=(none,())/\Stg rk kd a₀ st' a₀.size/\(pendingOf st').size<=1) ?_ ?_ ⟨rfl,g,.inr (by omega)⟩) ?_)
  ·rintro x c st2 _ hx ⟨rfl,g2,hp2⟩
   refine Ak (Ih ?_)
   refine zal (fun e=>Ar ⟨rfl,g2,e⟩) (fun e => ?_)
   refine Ak (zc5 C hS g2 ?_ fun st5 g5 z5 o5 => ?_)
   ·by_cases hb:Option.any (fun x=>decide (x < Option.elim (pendingOf st2)[(pendingOf st2).size - 2 + 1]? 0 fun x=>x.2.1)) (if (pendingOf st2).size - 2 > 0 then Pp (fun x=>x.2.1) (pendingOf st2)[(pendingOf st2).size - 2 - 1]? else none)=true
    ·rw [if_pos hb]; omega
    ·rw [if_neg hb]; omega
   ·simp only [En,Bm,if_false]
    exact Ar ⟨rfl,g5,by omega⟩
  ·rintro c st2 ⟨rfl,g2,hp2⟩
   exact ⟨rfl,g2,by omega⟩
  ·rintro c st2 ⟨rfl,g2,hp2⟩
   refine Ar (q st2 g2.perm g2.fail ?_)
   have hs:=g2.stk
   have hl:(pendingOf st2).toList.length<=1:=by rw [At]; exact hp2
   match hm:(pendingOf st2).toList,hs,hl with
   | [],hs,_=>have hs:0=a₀.size:=hs; omega
   | [x],⟨b1,b2,b3,b4⟩,_ =>
    have b4:0 + x.2.1=a₀.size:=b4
    rwa [b4] at b3
end
end L2
namespace L2
open PySem PySem.Spec PyProof.Rows PySem.W
section
variable {prog:Ap} {w:Bb} {A:B7} {E:A2->A4->Prop} {s:A4}
end
section
variable {X:Cx}
end
end L2
namespace L2
open PySem PySem.Spec PyProof.Rows
noncomputable def behN (C:Combs) (l:List Nat):List Nat:=(Ab 128).filter fun s=>l.any fun t=>(stp C t).any fun p=>decide (p.2.toNat=s)
noncomputable def rowN (C:Combs):Nat->List Nat
 | 0 => [0]
 | k + 1=>behN C (rowN C k)
theorem beh_mem {C:Combs} {l:List Nat} {s:Nat}:s∈behN C l ↔ s < 128/\∃ t∈l,∃ p∈stp C t,p.2.toNat=s:=by
 unfold behN
 rw [B9,B5]
 constructor
 ·rintro ⟨h,e⟩
  obtain ⟨t,ht,e⟩:=Bv.mp e
  obtain ⟨p,hp,e⟩:=Bv.mp e
  exact ⟨h,t,ht,p,hp,of_decide_eq_true e⟩
 ·rintro ⟨h,t,ht,p,hp,e⟩
  exact ⟨h,Bv.mpr ⟨t,ht,Bv.mpr ⟨p,hp,decide_eq_true e⟩⟩⟩
theorem putK_keys {κ : Type} [DecidableEq κ] (kvs:List (κ × V)) (k : κ) (v:V):(putK kvs k v).map (·.1)=if k∈kvs.map (·.1) then kvs.map (·.1) else kvs.map (·.1) ++ [k]:=by
 unfold putK
 by_cases h:(kvs.any fun kv=>decide (kv.1=k))=true
 ·rw [if_pos h,if_pos (valV_mem.mp (by rw [<- zbp]; exact h)),Bp]
  refine Ck fun kv _ => ?_
  show (if kv.1=k then (kv.1,v) else kv).1=kv.1
  split <;> rfl
 ·rw [if_neg h,if_neg (fun z=>h (by rw [zbp]; exact valV_mem.mpr z)),Bs]
  rfl
noncomputable def GrL (H:Hp) (kvs:List (List Key×V)) (ks:Combs) (L:List Nat):Prop:=C7 (fun (s:Nat) (kv:List Key×V)=>kv.1=akey s/\∃ q vs,kv.2 = .ref q/\H q=some (.lst vs)/\GoesR H vs (goesOf ks (aheadOf (s:Int)))) L kvs
theorem GrL.mono {H H':Hp} {kvs:List (List Key×V)} {ks:Combs} {L:List Nat} (r:GrL H kvs ks L) (m:∀ kv∈kvs,∀ q vs,kv.2 = .ref q->H q=some (.lst vs)->H' q=some (.lst vs)) (mt:∀ q xs,H q=some (.tup xs)->H' q=some (.tup xs)):GrL H' kvs ks L:=by
 induction r with
 | nil=>exact .nil
 | cons h _ ih =>
  obtain ⟨a,q,vs,b,c,d⟩:=h
  exact .cons ⟨a,q,vs,b,m _ Ai q vs b c,d.mono mt⟩ (ih fun kv hkv=>m kv (Ac _ hkv))
theorem GrL.same {H H':Hp} {kvs:List (List Key×V)} {ks:Combs} {L:List Nat} (r:GrL H kvs ks L) (s:Same H H'):GrL H' kvs ks L:=r.mono (fun _ _ _ _ _ e=>s _ _ e) fun _ _ e=>s _ _ e
theorem GrL.len {H:Hp} {kvs:List (List Key×V)} {ks:Combs} {L:List Nat} (r:GrL H kvs ks L):kvs.length=L.length:=(Cz r).symm
theorem GrL.keys {H:Hp} {kvs:List (List Key×V)} {ks:Combs} {L:List Nat} (r:GrL H kvs ks L):kvs.map (·.1)=L.map akey:=by
 induction r with
 | nil=>rfl
 | cons h _ ih=>rw [Aq,Aq,ih,h.1]
theorem akeys_nd {L:List Nat} (nd:L.Nodup) (lt:∀ s∈L,s < 128):(L.map akey).Nodup:=by
 rw [Fh,Cb]
 rw [Fh] at nd
 exact Gh (fun {a b} ha hb hab e=>hab (zcT (lt a ha) (lt b hb) e)) nd
theorem GrL.val {H:Hp} {kvs:List (List Key×V)} {ks:Combs} {L:List Nat} (r:GrL H kvs ks L) (nd:L.Nodup) (lt:∀ s∈L,s < 128) {s:Nat} (hs:s∈L):∃ q vs,valV kvs (akey s)=some (.ref q)/\H q=some (.lst vs)/\GoesR H vs (goesOf ks (aheadOf (s:Int))):=by
 obtain ⟨i,hi,rfl⟩:=Es hs
 obtain ⟨kv,e1,e2,q,vs,e3,e4,e5⟩:=C7.at r (A6 hi)
 refine ⟨q,vs,?_,e4,e5⟩
 rw [<- e3]
 exact zfR (by rw [r.keys]; exact akeys_nd nd lt) (by rw [e1,<- e2])
theorem GrL.has {H:Hp} {kvs:List (List Key×V)} {ks:Combs} {L:List Nat} (r:GrL H kvs ks L) (lt:∀ s∈L,s < 128) {s:Nat} (hs:s < 128):(valV kvs (akey s)).isSome=decide (s∈L):=by
 rw [Bq,valV_mem,r.keys,decide_eq_true_eq,Ah]
 exact ⟨fun ⟨j,hj,e⟩=>zcT (lt j hj) hs e ▸ hj,fun h=>⟨s,h,rfl⟩⟩
theorem GrL.snoc {H:Hp} {kvs:List (List Key×V)} {ks:Combs} {L:List Nat} {s:Nat} {q:A3} {vs:List V} (r:GrL H kvs ks L) (h1:H q=some (.lst vs)) (h2:GoesR H vs (goesOf ks (aheadOf (s:Int)))):GrL H (kvs ++ [(akey s,.ref q)]) ks (L ++ [s]):=Ev r ⟨rfl,q,vs,rfl,h1,h2⟩
noncomputable def ClsS (C:Combs) (L:List Nat):Prop:=(∀ s∈L,s < 128)/\∀ s∈L,∀ p∈stp C s,p.2.toNat∈L
theorem akeysL_kI (L:List Nat):L.map akey=(L.map fun (s:Nat)=>aheadOf (s:Int)).map kI:=by rw [Bp]; rfl
noncomputable def ov (al:Nat->Nat->Bool) (i p:Nat):Nat:=if p < i then 1 else ind (al i (p - i))
section
variable {al ta:Nat->Nat->Bool}
noncomputable def cn (nm:Nat->Str) (i:Nat):Nat:=(laid nm i).length
end
theorem laid_up (nm:Nat->Str) (n:Nat):(laid nm n).Pairwise (· < ·):=Bi Di Dt
theorem zgi {n j:Nat} (f:Nat->V) (v:V) (h:j < n):((Ab n).map f).set j v=(Ab n).map fun p=>if p=j then v else f p:=by
 refine Fd fun i => ?_
 rw [List.getElem?_set,Af,A5,Ax]
 by_cases e:j=i
 ·subst e
  rw [if_pos rfl,if_pos h,Af,Cd h,Cf,if_pos rfl]
 ·rw [if_neg e,Af]
  by_cases hi:i < n
  ·rw [Cd hi,Cf,Cf,if_neg (fun z=>e z.symm)]
  ·rw [Cv (by rw [Ax]; omega)]
   rfl
theorem count_teeth {ts:List Int} (nd:ts.Nodup) (h0:∀ t∈ts,0<=t) (i p:Nat):(ts.map fun t=>i + t.toNat).count p=if i<=p then ind (decide (((p - i:Nat):Int)∈ts)) else 0:=by
 have nd2:(ts.map fun t=>i + t.toNat).Nodup:=by
  rw [Fh,Cb]
  rw [Fh] at nd
  refine Gh (fun {a b} ha hb hab e=>hab ?_) nd
  have:=h0 a ha
  have:=h0 b hb
  omega
 have hm:p∈(ts.map fun t=>i + t.toNat) ↔ i<=p/\((p - i:Nat):Int)∈ts:=by
  rw [Ah]
  constructor
  ·rintro ⟨t,ht,rfl⟩
   have:=h0 t ht
   exact ⟨by omega,by rw [show ((i + t.toNat - i:Nat):Int)=t by omega]; exact ht⟩
  ·rintro ⟨h,ht⟩
   exact ⟨_,ht,by omega⟩
 rw [nd2.count]
 by_cases h:i<=p
 ·rw [if_pos h]
  by_cases h2:((p - i:Nat):Int)∈ts
  ·rw [if_pos (hm.mpr ⟨h,h2⟩),decide_eq_true h2]; rfl
  ·rw [if_neg (fun z=>h2 (hm.mp z).2),decide_eq_false h2]; rfl
 ·rw [if_neg h,if_neg (fun z=>h (hm.mp z).1)]
end L2
namespace L2
open PySem PySem.Spec PyProof.Rows PySem.W
noncomputable def lexR:Nat->List Int->Nat
 | 0,_=>0
 | _ + 1,[]=>0
 | n + 1,x :: xs=>(x.toNat + 1) * 9 ^ n + lexR n xs
noncomputable def Smalls (ns:List Int):Prop:=ns.length<=8/\∀ x∈ns,0<=x/\x<=7
theorem ze0:∀ (n:Nat) (l:List Int),(∀ x∈l,0<=x/\x<=7)->lexR n l < 9 ^ n
 | 0,_,_=>P0
 | n + 1,[],_=>Nf (by decide)
 | n + 1,x :: l,h=>by
  have i:=ze0 n l fun y hy=>h y (Ac _ hy)
  have hx:=h x Ai
  show (x.toNat + 1) * 9 ^ n + lexR n l < 9 ^ (n + 1)
  rw [Q9]
  have:(x.toNat + 1) * 9 ^ n<=8 * 9 ^ n:=Jh _ (by omega)
  omega
theorem zd2:∀ (n:Nat) (a b:List Int),a.length<=n->b.length<=n->(∀ x∈a,0<=x/\x<=7)->(∀ x∈b,0<=x/\x<=7)->(lexR n a < lexR n b ↔ HT.lexLt a b=true)/\(lexR n a=lexR n b->a=b)
 | 0,[],[],_,_,_,_=>⟨by rw [HT.lexLt_nil_nil]; simp [lexR],fun _=>rfl⟩
 | 0,_ :: _,_,h,_,_,_=>absurd h (by simp)
 | 0,_,_ :: _,_,h,_,_=>absurd h (by simp)
 | n + 1,[],[],_,_,_,_=>⟨by rw [HT.lexLt_nil_nil]; simp [lexR],fun _=>rfl⟩
 | n + 1,[],y :: b,_,_,_,_=>by
  have p:0 < 9 ^ n:=Nf (by decide)
  have:0 < (y.toNat + 1) * 9 ^ n:=Rf (by omega) p
  rw [HT.lexLt_nil_cons]
  refine ⟨?_,?_⟩
  ·show 0 < (y.toNat + 1) * 9 ^ n + lexR n b ↔ _
   exact ⟨fun _=>rfl,fun _=>by omega⟩
  ·show 0=(y.toNat + 1) * 9 ^ n + lexR n b->_
   intro h; omega
 | n + 1,x :: a,[],_,_,_,_=>by
  have p:0 < 9 ^ n:=Nf (by decide)
  have:0 < (x.toNat + 1) * 9 ^ n:=Rf (by omega) p
  rw [HT.lexLt_cons_nil]
  refine ⟨?_,?_⟩
  ·show (x.toNat + 1) * 9 ^ n + lexR n a < 0 ↔ _
   exact ⟨fun h=>by omega,fun h=>by cases h⟩
  ·show (x.toNat + 1) * 9 ^ n + lexR n a=0->_
   intro h; omega
 | n + 1,x :: a,y :: b,ha,hb,sa,sb=>by
  have i:=zd2 n a b (by simpa using ha) (by simpa using hb) (fun z hz=>sa z (Ac _ hz)) (fun z hz=>sb z (Ac _ hz))
  have la:=ze0 n a fun z hz=>sa z (Ac _ hz)
  have lb:=ze0 n b fun z hz=>sb z (Ac _ hz)
  have hx:=sa x Ai
  have hy:=sb y Ai
  rw [HT.lexLt_cons]
  show ((x.toNat + 1) * 9 ^ n + lexR n a < (y.toNat + 1) * 9 ^ n + lexR n b ↔ _)/\((x.toNat + 1) * 9 ^ n + lexR n a=(y.toNat + 1) * 9 ^ n + lexR n b->_)
  rcases Int.lt_trichotomy x y with h | h | h
  ·have:(x.toNat + 1 + 1) * 9 ^ n<=(y.toNat + 1) * 9 ^ n:=Jh _ (by omega)
   rw [Rg (x.toNat + 1) 1] at this
   rw [if_neg (by omega),decide_eq_true h]
   exact ⟨⟨fun _=>rfl,fun _=>by omega⟩,fun z=>by omega⟩
  ·subst h
   rw [if_pos rfl]
   refine ⟨⟨fun z=>i.1.mp (by omega),fun z => ?_⟩,fun z => ?_⟩
   ·have:=i.1.mpr z; omega
   ·rw [i.2 (by omega)]
  ·have:(y.toNat + 1 + 1) * 9 ^ n<=(x.toNat + 1) * 9 ^ n:=Jh _ (by omega)
   rw [Rg (y.toNat + 1) 1] at this
   rw [if_neg (by omega),decide_eq_false (by omega)]
   exact ⟨⟨fun z=>by omega,fun z=>by cases z⟩,fun z=>by omega⟩
section
variable {prog:Ap} {w:Bb} {A:B7} {E:A2->A4->Prop} {s:A4}
theorem sortR {a:A3} {vs:List A2} {n:Nat} {P:O2->A4->Prop} (rk:Ay->Int) (S:Ay->Prop) (ho:s.heap.get? a=some (seqObj "list" vs.toArray n)) (hS:∀ v∈vs,S (v,v)) (hb:vs.length<=sizeLine)
  (hk:2<=vs.length->∀ h':Bx,(∀ b o,b≠a->s.heap.get? b=some o->h'.get? b=some o)->∃ kd:Ff,(∀ Q:Ff->A4->Prop,Q kd { s with heap:=h' }->wpAny (model prog w) A (keyKind' vs.toArray) Q E { s with heap:=h' })/\Ranks prog w A E { s with heap:=h' } kd S rk)
  (q:∀ out:List A2,out.Perm vs->out.Pairwise (fun x y=>rk (x,x)<=rk (y,y))->P (.done (.ret .none)) { s with heap:=sortedHeap s.heap a vs out.toArray }) :
  wpAny (model prog w) A (F0.«list.sort» ⟨[.ref a],[]⟩) P E s:=by
 have hpl:(pairsOf vs).toList=vs.map fun v=>(v,v):=by
  unfold pairsOf
  rw [Array.toList_zip]
  simp [List.zip_eq_zipWith,List.zipWith_self]
 have fin:∀ st':C3,(arrOf st').Perm (pairsOf vs)->Up2 rk (arrOf st') 0 (pairsOf vs).size->P (.done (.ret .none)) { s with heap:=sortedHeap s.heap a vs ((arrOf st').map (·.2)) }:=fun st' hp hs=>by
  have hp':(arrOf st').toList.Perm (vs.map fun v=>(v,v)):=by rw [<- hpl]; exact Gu.mp hp
  have hx:∀ x∈(arrOf st').toList,x=(x.2,x.2):=fun x hx=>by
   obtain ⟨v,_,rfl⟩:=Ah.mp (hp'.mem_iff.mp hx)
   rfl
  have e:(arrOf st').map (·.2)=((arrOf st').toList.map (·.2)).toArray:=by
   refine Kj.mp ?_
   rw [Oc]
  rw [e]
  refine q _ ?_ ?_
  ·have:=hp'.map (·.2)
   rw [Bp] at this
   have e2:vs.map ((fun x:Ay=>x.2) ∘ fun v=>(v,v))=vs:=by
    conv=>rhs; rw [<- J8 vs]
    rfl
   rw [e2] at this
   exact this
  ·rw [Cb,D1]
   intro i j hi hj hij
   have hz:(arrOf st').size=(pairsOf vs).size:=hp.size_eq
   rw [At] at hi hj
   have:=hs i j (By _) (by omega) (by omega)
   rw [zaY hi,zaY hj] at this
   have e1:=hx _ (Cp (l:=(arrOf st').toList) (n:=i) (by rw [At]; exact hi))
   have e2:=hx _ (Cp (l:=(arrOf st').toList) (n:=j) (by rw [At]; exact hj))
   rw [<- e1,<- e2]
   simpa using this
 rw [Qj]; have hlt:=An ho
 obtain ⟨e1,o1⟩:∃ e,(s.heap.update a (D7 fun _=>(#[]:Array A2))).get? a=some (seqObj "list" #[] e):=⟨_,Qk ho fun _ => #[]⟩
 have hz:vs.toArray.size=vs.length:=Az
 refine A1 (Nw ho rfl (A1 (Gp ho rfl (A1 (Ij o1 rfl (A1 (Rl (A1 (Ip (D3 ?_) (By _))) (by show vs.length<=_; omega))))) (by rw [hz]; omega) (By _))))
 have o6:(((s.heap.update a (D7 fun _=>(#[]:Array A2))).push (seqObj "tuple" vs.toArray 0)).push (seqObj "list" #[] 0)).get? a=some (seqObj "list" #[] e1):=A8 _ (A8 _ o1)
 have keep:∀ b o,b≠a->s.heap.get? b=some o->(((s.heap.update a (D7 fun _=>(#[]:Array A2))).push (seqObj "tuple" vs.toArray 0)).push (seqObj "list" #[] 0)).get? b=some o:=fun b o hb e =>
  A8 _ (A8 _ (by rw [Jn _ _ _ _ hb]; exact e))
 show wpAny (model prog w) A _ P E { s with heap:=((s.heap.update a (D7 fun _=>(#[]:Array A2))).push (seqObj "tuple" vs.toArray 0)).push (seqObj "list" #[] 0) }; dsimp only
 by_cases h2:vs.toArray.size < 2
 ·rw [if_pos h2,if_pos h2]; refine A1 (Ad ?_)
  rw [Nz]; refine A1 (Ad ?_)
  dsimp only
  refine A1 (Ij o6 rfl (A1 (Gp o6 rfl ?_ (By _) (by rw [Ox]; show (pairsOf vs).size<=_; rw [Jb]; omega))))
  simp only [bne_self_eq_false,Bm,if_false]
  refine Ad (fin (Kt general' (vs.toArray.zip vs.toArray) #[] 7 none) (Gc _) fun i j _ hij hj => ?_)
  rw [Jb] at hj
  rw [show i=j by omega]; exact E2 _
 ·rw [if_neg h2,if_neg h2]
  obtain ⟨kd,hkk,hrk⟩:=hk (by omega) _ keep
  refine A1 (hkk _ ?_)
  refine A1 (Dg (sortRuns_ok hrk (st:=Kt kd (vs.toArray.zip vs.toArray) #[] 7 none) (Q:=fun _ st'=>(arrOf st').Perm (pairsOf vs)/\failedOf st'=none/\Up2 rk (arrOf st') 0 (pairsOf vs).size) ?_ rfl rfl rfl (by show 2<=(pairsOf vs).size; rw [Jb]; omega) fun st' c1 c2 c3=>⟨c1,c2,c3⟩) ?_ fun _ _ e=>e)
  ·intro x hx
   have hx:x∈(pairsOf vs).toList:=hx
   rw [hpl] at hx
   obtain ⟨v,hv,rfl⟩:=Ah.mp hx
   exact hS v hv
  rintro ⟨⟨⟩,st'⟩ s' ⟨rfl,hp,hf,hs⟩
  dsimp only
  refine A1 (Ij o6 rfl (A1 (Gp o6 rfl ?_ (By _) (by rw [Ox,hp.size_eq,Jb]; omega))))
  rw [hf]
  simp only [bne_self_eq_false,Bm,if_false]
  exact Ad (fin st' hp hs)
end
section
variable {prog:Ap} {w:Bb} {A:B7} {E:A2->A4->Prop} {s:A4}
theorem zfA {fin:Bool} {Q:Bool->A4->Prop} {X Y:Nat} (hf:fin=decide (X < Y)):∀ {xs ys:List A2} {ns ms:List Int} (i:Nat),El xs ns->El ys ms->ns.length + Y=ms.length + X->Q (HT.lexLt ns ms) s->KatLex prog w A true fin Q (xs.zip ys) i s
 | _,_,_,_,i,.nil,.nil,hl,q=>by
  rw [HT.lexLt_nil_nil] at q
  refine kat_nil ?_
  rw [hf,decide_eq_false (by simp at hl; omega)]
  exact q
 | _,_,_,_,i,.nil,.cons c u hw,hl,q=>by
  rw [HT.lexLt_nil_cons] at q
  refine kat_nil ?_
  rw [hf,decide_eq_true (by simp at hl; omega)]
  exact q
 | _,_,_,_,i,.cons a t hv,.nil,hl,q=>by
  rw [HT.lexLt_cons_nil] at q
  refine kat_nil ?_
  rw [hf,decide_eq_false (by simp at hl; omega)]
  exact q
 | _,_,_,_,i,.cons a t hv,.cons c u hw,hl,q=>by
  rw [HT.lexLt_cons] at q
  rw [Gy]
  obtain ⟨e,he,hiff⟩:=HT.eqAt_int A s a t c u
  refine kat_cons (he prog w _ _ ?_)
  cases e with
  | true =>
   rw [if_pos (hiff.mp rfl)] at q
   exact kat_yes (zfA hf (i + 1) hv hw (by simp at hl; omega) q)
  | false =>
   rw [if_neg (fun z=>absurd (hiff.mpr z) A9)] at q
   refine kat_no ?_
   rw [F8]
   cases hi:(i == 0) with
   | true=>exact oneLt_int q
   | false=>exact kat_one _ _ (L5 q)
noncomputable def TKind (kd:Ff):Prop:=kd=tuples' true\/kd=general'\/kd=oneType'
theorem keyLt_tup {kd:Ff} (hkd:TKind kd) {l b:A3} {items items2:Array A2} {ns ms:List Int} {Q:Bool->A4->Prop} (hl:Jm s.heap l items) (hb:Jm s.heap b items2) (hi:El items.toList ns) (hj:El items2.toList ms)
  (hu:A.units < cLine) (q:Q (HT.lexLt ns ms) s):wpAny (model prog w) A (keyLt' kd (.ref l) (.ref b)) Q E s:=by
 rcases hkd with rfl | rfl | rfl
 ·obtain ⟨o,ho,_,n,hd⟩:=hl
  obtain ⟨o2,ho2,_,n2,hd2⟩:=hb
  refine kat_lt ho hd ho2 hd2 (zfA rfl 0 hi hj ?_ q)
  have:=hi.length
  have:=hj.length
  simp at *
  omega
 ·show wpAny _ _ (oneLt' false (.ref l) (.ref b)) _ _ _
  exact kat_one _ _ (HT.lt_tupInts hl hb hi hj hu q)
 ·rw [Rq,oneLt'_eq]
  simp only [if_true]
  refine A1 (Rn hu ?_)
  obtain ⟨⟨cls,dd,data,sl⟩,ho,hc,n,hd⟩:=id hl
  obtain ⟨⟨cls2,dd2,data2,sl2⟩,ho2,hc2,n2,hd2⟩:=id hb
  simp only at hc hd hc2 hd2
  subst hc hd hc2 hd2
  refine A1 (Lg (T := "tuple") ⟨_,ho,rfl⟩ Ig (Jd Ig ⟨_,ho,rfl⟩ Lj (La _ _) (HT.tuple_lt_ints l b items items2 n n2 dd dd2 sl sl2 ns ms hi hj) ⟨ho,ho2,?_⟩))
  exact Cu q
noncomputable def TupS (h:Bx) (f:A3->List Int) (k:Ay):Prop:=∃ a items,k.1 = .ref a/\Jm h a items/\El items.toList (f a)/\Smalls (f a)
noncomputable def rkT (f:A3->List Int) (k:Ay):Int:=match k.1 with
 | .ref a=>((lexR 8 (f a):Nat):Int)
 | _=>0
theorem ranks_tup {kd:Ff} (hkd:TKind kd) (hu:A.units < cLine) (f:A3->List Int) {h0:Bx} (hk:∀ a items,Jm h0 a items->Jm s.heap a items):Ranks prog w A E s kd (TupS h0 f) (rkT f):=⟨fun {x y st Q} hx hy he q=>by
 obtain ⟨x1,x2⟩:=x
 obtain ⟨y1,y2⟩:=y
 obtain ⟨a,items,e,ta,ia,sa⟩:=hx
 obtain ⟨b,items2,e2,tb,ib,sb⟩:=hy
 dsimp only at e e2
 subst e e2
 rw [lt'_eq]
 refine Ak (Ih ?_)
 rw [he]
 have hq:decide (rkT f (.ref a,x2) < rkT f (.ref b,y2))=HT.lexLt (f a) (f b):=by
  have:=(zd2 8 (f a) (f b) sa.1 sb.1 sa.2 sb.2).1
  show decide (((lexR 8 (f a):Nat):Int) < ((lexR 8 (f b):Nat):Int))=_
  rw [Bq,decide_eq_true_eq,<- this]
  omega
 rw [hq] at q
 exact Ak (Jw (Go (keyLt_tup hkd (hk _ _ ta) (hk _ _ tb) ia ib hu ⟨rfl,Ar q⟩)))⟩
noncomputable def IsFirst (h:Bx) (v:A2) (f:Option A2):Prop:=∃ a o xs n,v = .ref a/\h.get? a=some o/\o.cls = .type "tuple" /\ o.data = .seq xs n/\f=xs[0]?
theorem zct {M:Hv}:∀ (vs:List A2) (fs:List (Option A2)) {Q:List (Option A2)->A4->Prop},C7 (IsFirst s.heap) vs fs->Q fs s->wpAny M A (vs.mapM firstOfTuple') Q E s
 | _,_,_,.nil,h=>by rw [List.mapM_nil]; exact Ad h
 | _,_,Q,.cons (l₁ := vs) (l₂ := fs) r t,h=>by
  obtain ⟨a,o,xs,n,rfl,ho,hc,hd,rfl⟩:=r
  rw [List.mapM_cons]
  refine A1 ?_
  rw [kas_first_eq]
  refine A1 (Looks.here (show Looks M s.heap (typeOf (.ref a)) o.cls from (Looks.ld ho).andThen .now) ?_)
  rw [hc,if_neg (by first | decide | simp)]
  refine A1 (Nw ho hd (Ad ?_))
  exact A1 (zct vs fs (Q:=fun bs s'=>wpAny M A (pure (xs[0]? :: bs)) Q E s') t (Ad h))
theorem tup_kind {M:Hv} {vs:List A2} (hv:∀ v∈vs,∃ a items ns,v = .ref a/\Jm s.heap a items/\El items.toList ns) (h2:2<=vs.length):∃ kd,TKind kd/\∀ Q:Ff->A4->Prop,Q kd s->wpAny M A (keyKind' vs.toArray) Q E s:=by
 obtain ⟨fs,pf⟩:∃ fs,C7 (IsFirst s.heap) vs fs:=by
  clear h2
  induction vs with
  | nil=>exact ⟨[],.nil⟩
  | cons v vs ih =>
   obtain ⟨fs,pf⟩:=ih fun u hu=>hv u (Ac _ hu)
   obtain ⟨a,items,ns,rfl,⟨o,ho,hc,n,hd⟩,_⟩:=hv v Ai
   exact ⟨_ :: fs,.cons ⟨a,o,items,n,rfl,ho,hc,hd,rfl⟩ pf⟩
 by_cases hall:fs.toArray.all (fun x=>x.isSome)=true
 ·have kt:∃ gs,KatTups s.heap vs gs/\gs.length=vs.length/\∀ g∈gs,∃ i t,g=Hr i t:=by
   have hall':∀ x∈fs,x.isSome=true:=by simpa using hall
   clear h2 hall
   induction pf with
   | nil=>exact ⟨[],.nil,rfl,by simp⟩
   | @cons v f vs fs r t ih =>
    obtain ⟨gs,g1,g2,g3⟩:=ih (fun u hu=>hv u (Ac _ hu)) fun x hx=>hall' x (Ac _ hx)
    obtain ⟨a,o,xs,n,rfl,ho,hc,hd,rfl⟩:=r
    obtain ⟨a',items,ns,e,⟨o',ho',hc',n',hd'⟩,hI⟩:=hv _ Ai
    cases e
    rw [ho] at ho'
    cases ho'
    rw [hd] at hd'
    injection hd' with e1 e2
    subst e1
    obtain ⟨g,hg⟩:=D5.mp (hall' _ Ai)
    obtain ⟨t',e3⟩:=hI.int_at 0 g (by rw [Ci]; exact hg)
    exact ⟨g :: gs,.cons ho hc hd hg g1,by rw [Aw,g2,Aw],fun u hu=>by
     rcases Bf.mp hu with rfl | hu
     ·exact ⟨_,_,e3⟩
     ·exact g3 u hu⟩
  obtain ⟨gs,g1,g2,g3⟩:=kt
  refine ⟨tuples' true,.inl rfl,fun Q q=>kat_kind (T := .type "int") g1 (by omega) (fun v hv => ?_) (by decide) (by
   have:(Ex "int" != Ex "tuple")=true:=by decide
   rw [this]; exact q)⟩
  obtain ⟨i,t,rfl⟩:=g3 v hv
  exact .now
 ·have hne:¬ (fs.toArray.all (fun x=>x.isSome)=true):=hall
  by_cases hfst:(fs.toArray[0]?.bind id).isSome=true
  ·refine ⟨general',.inr (.inl rfl),fun Q q => ?_⟩
   rw [kat_kind_eq,Jz,map_eq_pure_bind]
   refine A1 (A1 (zct vs _ pf (Ad ?_)))
   rw [if_neg hne,if_pos hfst]
   exact Ad q
  ·refine ⟨oneType',.inr (.inr rfl),fun Q q => ?_⟩
   rw [kat_kind_eq,Jz,map_eq_pure_bind]
   refine A1 (A1 (zct vs _ pf (Ad ?_)))
   rw [if_neg hne,if_neg hfst]
   rw [oneTypeOnly'_eq,Jz,map_eq_pure_bind]
   refine A1 (A1 (A1 (kas_mapM (r:=Ex "tuple") _ (fun v hv' Q' hq => ?_) (Ad ?_))))
   ·obtain ⟨a,items,ns,rfl,⟨o,ho,hc,n,hd⟩,_⟩:=hv v hv'
    refine Looks.here (show Looks M s.heap (typeOf (.ref a)) o.cls from (Looks.ld ho).andThen .now) ?_
    rw [hc]
    exact hq
   ·obtain ⟨v₁,rest,rfl⟩:∃ v₁ rest,vs=v₁ :: rest:=by
     match vs,h2 with
     | v₁ :: rest,_=>exact ⟨v₁,rest,rfl⟩
    have hall2:((K0 (fun _=>Ex "tuple") (v₁ :: rest)).toArray.all fun x=>x == Ex "tuple")=true:=by
     simp only [List.all_toArray,Im,Cg]
     intro _ _
     show (Ex "tuple" == Ex "tuple")=true
     decide
    have h0:(K0 (fun _=>Ex "tuple") (v₁ :: rest)).toArray[0]?=some (Ex "tuple"):=by simp
    rw [h0]
    simp only [hall2,if_true]
    exact Ad (Ad q)
end
section
variable {prog:Ap} {w:Bb} {A:B7} {E:A2->A4->Prop} {s:A4} {d:A3} {o:Obj} {es:Array J5} {ep:Nat}
theorem ed_walks (hh:A.handled=none) (I:A3) (hne:d≠I) (hdat:o.data = .dict es ep):Walks prog w A I [I,d] [I] es.size (fun i v=>∃ e,es[i]?=some e/\v=e.key) (fun i h=>h.IsKeyIter I d i es.size ep/\h.get? d=some o) where
 sub:=fun b hb=>by simp at hb; simp [hb]
 frame:=fun _ _ _ st hk=>⟨st.1.at fun o e=>hk I (by simp) o e,hk d (by simp) _ st.2⟩
 item:=fun i s Q E hi st hQ=>by
  refine zgv st.1 st.2 hdat hi fun h' hit' hs' => ?_
  exact hQ _ h' s.toks ⟨es[i],by simp [hi],rfl⟩ ⟨hit',by rw [hs'.2 d hne]; exact st.2⟩ fun b o hb e=>hs'.extBut b o (fun h=>hb (by simp [h])) e
 done:=fun s Q E st hQ=>zg5 hh st.1 st.2 hdat (Aa _) fun h' he'=>hQ h' s.toks fun b o hb e=>he' b o (fun h=>hb (by simp [h])) e
 self:=fun _ _ _ _ st hQ=>Om st.1 hQ
theorem kdl_ed (lo:(d == sysModules)=false) (hc:o.ExactDict) (hdat:o.data = .dict es ep):KdlSrc prog w "dict" d d es.size (fun i v=>∃ e,es[i]?=some e/\v=e.key) (fun h=>h.get? d=some o) where
 type:=fun s hm=>⟨o,hm,hc.1⟩
 there:=fun _ hm=>⟨An hm,An hm⟩
 keep:=fun _ _ hm hk=>hk d (.inl rfl) _ hm
 notList:=by decide
 notTuple:=by decide
 hint:=fun _ _ s _ hm hq=>kdl_hint_dict (s:=s) ⟨o,hm,hc.1⟩ hq
 iter:=fun _ _ hh hm=>⟨_,_,(fun _ _ hq=>zgw lo hm hc hdat hq),ed_walks hh _ (B8 (An hm)) hdat,⟨⟨_,Av _ rfl,rfl,rfl⟩,A8 _ hm⟩⟩
end
noncomputable def tupF (H:Hp) (b:A3):List Int:=match H b with
 | some (.tup xs)=>xs.map fun v=>match v with | .int i=>i | _=>0
 | _ => []
theorem zfS {H:Hp} {b:A3} {ns:List Int} (h:H b=some (.tup (ns.map V.int))):tupF H b=ns:=by
 unfold tupF
 rw [h]
 show (ns.map V.int).map _=ns
 rw [Bp]
 exact List.map_id'' (fun _=>rfl) ns
noncomputable def adr:A2->A3
 | .ref b=>b
 | _=>0
noncomputable def TupsR (H:Hp) (nss:List (List Int)) (ws:List V):Prop:=C7 (fun (ns:List Int) (v:V)=>∃ q,v = .ref q/\H q=some (.tup (ns.map V.int))) nss ws
section
variable {X:Cx}
theorem call_sortedDT (hc:X.calm=true) (hu:X.A.units + 64 < cLine):CallR X (.builtin "sorted") (fun xs H Q=>∃ (a:A3) (kvs:List (List Key×V)) (nss:List (List Int)),xs = [V.ref a]/\Rd H a (.dT kvs)/\kvs.map (·.1)=nss.map kI/\(∀ ns∈nss,Smalls ns)/\nss.length<=4096 /\
  ∀ p (nss':List (List Int)) (ws:List V),H p=none->nss'.Perm nss->nss'.Pairwise (fun x y=>lexR 8 x<=lexR 8 y)->TupsR H nss' ws->Q (.ref p) (upd H p (.lst ws))):=by
 intro pins s σ H xs us Q I r h
 obtain ⟨a,kvs,nss,rfl,hq,hk,hsm,hb,q⟩:=h
 obtain ⟨u,rfl,ru⟩:=zb1 r
 cases ru
 obtain ⟨hz,lo,xs,pr,o,es,ep,ho,hex,hdat,hes,hnd⟩:=(show ObjOk X.prog X.w H s.heap a (.dT kvs) from hq.ok I.hok)
 have hlx:kvs.length=xs.length:=Cz pr
 have hle:es.size=xs.length:=by rw [<- At,hes,A5]
 have hlen:xs.length=nss.length:=by
  have e2:=congrArg Ey hk
  rw [A5,A5] at e2
  omega
 have big:(4096:Nat)<=sizeLine:=by decide
 refine Fl Oq Nv Nx (Ny _) ?_
 unfold F0.«sorted»
 refine A1 (m:=checkCount "sorted" 1 1 _) (Ad ?_)
 refine A1 (M8 (A:=X.A.in1) (kdl_ed (ep:=ep) lo hex hdat) (I.ok.hd hc) ho (by omega) fun h' tk acc hkeep hacc => ?_)
 have hl:acc.toList.length=xs.length:=by rw [At,<- hle]; exact hacc.1
 have hrow:∀ (j:Nat) v,acc.toList[j]?=some v->∃ b ns items,v = .ref b/\nss[j]?=some ns/\H b=some (.tup (ns.map V.int))/\Jm s.heap b items/\El items.toList ns:=by
  intro j v e1
  obtain ⟨e,e2,e3⟩:=hacc.2 j v (by rw [<- Ci]; exact e1)
  rw [<- Ci,hes,Af] at e2
  cases hx:xs[j]? with
  | none=>rw [hx] at e2; cases e2
  | some x =>
   rw [hx] at e2
   cases e2
   obtain ⟨kv,e4,e5,e6,_⟩:=C7.rev pr hx
   have e7:(kvs.map (·.1))[j]?=some kv.1:=by rw [Af,e4]; rfl
   rw [hk,Af] at e7
   cases hn:nss[j]? with
   | none=>rw [hn] at e7; cases e7
   | some ns =>
    rw [hn] at e7
    have e7:kI ns=kv.1:=C6 e7
    rw [<- e7,kI_V] at e6
    obtain ⟨_,its,rv,it⟩:=(show ObjOk X.prog X.w H s.heap x.2.1 (.tup (ns.map V.int)) from I.hok _ _ e6)
    exact ⟨_,ns,its.toArray,e3,rfl,e6,it,by simpa using zcO rv⟩
 have hmem:∀ v∈acc.toList,∃ b items,v = .ref b/\Jm s.heap b items/\El items.toList (tupF H b)/\Smalls (tupF H b)/\H b=some (.tup ((tupF H b).map V.int)):=fun v hv=>by
  obtain ⟨j,hj,e⟩:=Es hv
  obtain ⟨b,ns,items,rfl,e1,e2,e3,e4⟩:=hrow j v (by rw [A6 hj,e])
  have:=zfS e2
  rw [<- this] at e1 e2 e4
  exact ⟨b,items,rfl,e3,e4,hsm _ (B0 e1),e2⟩
 have hmap:acc.toList.map (fun v=>tupF H (adr v))=nss:=by
  refine Fd fun j => ?_
  rw [Af]
  by_cases hj:j < acc.toList.length
  ·obtain ⟨b,ns,items,e0,e1,e2,_,_⟩:=hrow j _ (A6 hj)
   rw [A6 hj,e1,Cf,e0]
   show some (tupF H b)=_
   rw [zfS e2]
  ·rw [Cv (by omega),Cv (by omega)]
   rfl
 refine A1 (Ip ?_ (by rw [hl]; omega))
 have hoL:(h'.push (seqObj "list" acc.toList.toArray 0)).get? h'.objs.size=some (seqObj "list" acc.toList.toArray 0):=Av _ rfl
 refine A1 (D3 (Ds Mn ⟨_,hoL,rfl⟩ M0 (sortR (rkT (tupF H)) (TupS s.heap (tupF H)) hoL (fun v hv => ?_) (by omega) (fun h2 h3 hk3 => ?_) fun out a2 a3=>⟨_,rfl,?_⟩) (Mp _)))
 ·obtain ⟨b,items,rfl,e3,e4,e5,_⟩:=hmem v hv
  exact ⟨b,items,rfl,e3,e4,e5⟩
 ·have kp:∀ a items,Jm s.heap a items->Jm h3 a items:=fun b items it=>by
   obtain ⟨o',e1,e2⟩:=it
   exact ⟨o',hk3 b _ (B8 (An (hkeep _ _ e1))) (A8 _ (hkeep _ _ e1)),e2⟩
  obtain ⟨kd,k1,k2⟩:=tup_kind (M:=model X.prog X.w) (A:=X.A.in1.in1) (E:=fun e s'=>_) (s:={ s with heap:=h3,toks:=tk }) (vs:=acc.toList) (fun v hv=>by
   obtain ⟨b,items,rfl,e3,e4,_⟩:=hmem v hv
   exact ⟨b,items,_,rfl,kp _ _ e3,e4⟩) h2
  exact ⟨kd,k2,ranks_tup (s:={ s with heap:=h3,toks:=tk }) k1 (by show X.A.units + 1 + 1 < cLine; omega) (tupF H) kp⟩
 ·refine Ad ⟨_,rfl,?_⟩
  obtain ⟨e,he⟩:=Rz (out:=out.toArray) hoL
  have I1:Inv X pins σ H { s with heap:=h',toks:=tk }:=I.kept hkeep
  have hvo:Vals (out.map fun v=>V.ref (adr v)) out:=by
   have:∀ v∈out,∃ b,v = .ref b:=fun v hv=>by
    obtain ⟨b,_,e,_⟩:=hmem v (a2.mem_iff.mp hv)
    exact ⟨b,e⟩
   clear a2 a3 he
   induction out with
   | nil=>exact .nil
   | cons v out ih =>
    obtain ⟨b,rfl⟩:=this v Ai
    exact .cons rfl (ih fun u hu=>this u (Ac _ hu))
  have I2:=Inv.laid (o := .lst (out.map fun v=>V.ref (adr v))) (a:=h'.objs.size) (h':=sortedHeap (h'.push (seqObj "list" acc.toList.toArray 0)) h'.objs.size acc.toList out.toArray) (t':=tk) I1 (fun b o hb=>by
   have lt:=An hb
   rw [Rp (B8 lt) (by rw [Eu]; exact Em lt)]
   exact A8 _ hb) (Aa _) (show ObjOk X.prog X.w _ _ _ (.lst (out.map fun v=>V.ref (adr v))) from ⟨by rw [A5,a2.length_eq]; omega,out,e,hvo,he⟩)
  refine ⟨.ref h'.objs.size,_,I2,rfl,q _ (out.map fun v=>tupF H (adr v)) _ (I1.hok.fresh (Aa _)) ?_ ?_ ?_⟩
  ·rw [<- hmap]
   exact a2.map _
  ·rw [Cb]
   refine Gh (fun {x y} hx hy h => ?_) a3
   obtain ⟨b,_,rfl,_⟩:=hmem x (a2.mem_iff.mp hx)
   obtain ⟨c,_,rfl,_⟩:=hmem y (a2.mem_iff.mp hy)
   have h:((lexR 8 (tupF H b):Nat):Int)<=((lexR 8 (tupF H c):Nat):Int):=h
   show lexR 8 (tupF H b)<=lexR 8 (tupF H c)
   omega
  ·have hm:∀ v∈out,H (adr v)=some (.tup ((tupF H (adr v)).map V.int)):=fun v hv=>by
    obtain ⟨b,_,rfl,_,_,_,e⟩:=hmem v (a2.mem_iff.mp hv)
    exact e
   clear a2 a3 he hvo I2
   induction out with
   | nil=>exact .nil
   | cons v out ih=>exact .cons ⟨_,rfl,hm v Ai⟩ (ih fun u hu=>hm u (Ac _ hu))
end
section
variable {X:Cx}
end
theorem zcY (s:Nat):Smalls (aheadOf (s:Int)):=by
 refine ⟨?_,fun x hx=>by have:=zbA x hx; omega⟩
 unfold aheadOf
 rw [A5]
 exact C5 (D6 _ _) (by rw [Ax]; decide)
end L2
set_option maxHeartbeats 4000000
namespace L2
open PySem PySem.Spec PyProof.Rows PySem.W
section
variable {prog:Ap} {w:Bb} {A:B7} {E:A2->A4->Prop} {s:A4}
end
noncomputable def storeAll (kvs:List (Key×A2)):List (Key×A2):=kvs.foldl (fun m p=>stored m p.1 p.2) []
section
variable {prog:Ap} {w:Bb} {A:B7} {E:A2->A4->Prop} {s:A4}
end
section
variable {prog:Ap} {w:Bb} {A:B7} {E:A2->A4->Prop} {s:A4}
end
section
variable {X:Cx}
end
end L2
namespace L2
open PySem PySem.Spec PyProof.Rows
section
variable {X:Cx} {pins:List (A3×Obj)} {σ : St} {H:Hp} {s:A4} {h':Bx}
end
end L2
namespace Att
open PySem PySem.W PySem.Calls PyProof.Rows
end Att
namespace L2
open PySem PySem.Spec PyProof.Rows
section
variable {X:Cx}
end
theorem zaU {s d:Nat} (hs:s < 128):((d:Nat):Int)∈aheadOf (s:Int) ↔ s.testBit d=true:=by
 rw [mem_ahead]
 constructor
 ·rintro ⟨_,_,h⟩
  simpa using h
 ·intro h
  refine ⟨by omega,Kn fun z => ?_,by simpa using h⟩
  have h7:7<=d:=by omega
  rw [Iu (Ae hs (show 128<=2 ^ d from Jg (n:=2) (by decide) h7))] at h
  cases h
theorem zdk {a b:Nat} (h:∀ d,a.testBit d=b.testBit d):a=b:=Ji h
noncomputable def StB (C:Combs) (s:Nat) (x:Str) (n:Nat):Prop:=(s.testBit 0=true/\x=A0 "" /\ ∀ d,n.testBit d=s.testBit (d + 1))\/(s.testBit 0=false/\∃ c∈C,x=c.1/\(∀ d:Nat,s.testBit d=true->(d:Int) ∉ c.2)/\∀ d,n.testBit d=(s.testBit (d + 1) || decide (((d + 1:Nat):Int)∈c.2)))
theorem zeG {C:Combs} (g:GC C) {s:Nat} (hs:s < 128) {p:Str×List Int} (hp:p∈goesOf C (aheadOf (s:Int))):∃ m:Nat,m < 128/\worth p.2=(m:Int)/\StB C s p.1 m:=by
 obtain ⟨k1,k2,k3,_⟩:=zbb hs g hp
 refine ⟨(worth p.2).toNat,k1,by omega,?_⟩
 have e:=zdJ k3
 generalize (worth p.2).toNat=m at k1 e
 unfold goesOf at hp
 by_cases h0:(0:Int)∈aheadOf (s:Int)
 ·rw [if_pos h0] at hp
  have hp:=A7.mp hp
  refine .inl ⟨(zaU hs).mp h0,by rw [hp],fun d => ?_⟩
  rw [Bq,<- zaU k1,<- zaU hs,<- e,hp,zc8 zbA (by simp)]
  simp
 ·rw [if_neg h0] at hp
  obtain ⟨c,hc,rfl⟩:=Ah.mp hp
  obtain ⟨hc1,hc2⟩:=B9.mp hc
  have hm:meets (aheadOf (s:Int)) c.2=false:=by simpa using hc2
  refine .inr ⟨?_,c,hc1,rfl,fun d hd z=>meets_false.mp hm _ z ((zaU hs).mpr hd),fun d => ?_⟩
  ·cases z:s.testBit 0 with
   | false=>rfl
   | true=>exact absurd ((zaU hs).mpr z) h0
  ·rw [Bq,<- zaU k1,Kz,decide_eq_true_eq,<- zaU hs,<- e]
   exact zc8 zbA (zcK (g c hc1)) d
theorem stp_bits {C:Combs} (g:GC C) {s n:Nat} (hs:s < 128) {x:Str}:(x,(n:Int))∈stp C s ↔ n < 128/\StB C s x n:=by
 rw [<- zaV hs g,Ah]
 constructor
 ·rintro ⟨p,hp,e⟩
  obtain ⟨m,m1,m2,m3⟩:=zeG g hs hp
  injection e with e1 e2
  have:m=n:=by omega
  subst this
  exact ⟨m1,e1 ▸ m3⟩
 ·rintro ⟨hn,h⟩
  have key:∀ p∈goesOf C (aheadOf (s:Int)),p.1=x->(∀ m,worth p.2=(m:Nat)->StB C s p.1 m->m=n)->∃ p∈goesOf C (aheadOf (s:Int)),(p.1,worth p.2)=(x,(n:Int)):=fun p hp e1 e2=>by
   obtain ⟨m,_,m2,m3⟩:=zeG g hs hp
   exact ⟨p,hp,by rw [e1,m2,e2 m m2 m3]⟩
  rcases h with ⟨h0,rfl,hb⟩ | ⟨h0,c,hc,rfl,hx,hb⟩
  ·refine key (A0 "",afterOf (aheadOf (s:Int)) []) ?_ rfl fun m _ hm => ?_
   ·unfold goesOf
    rw [if_pos (show (0:Int)∈aheadOf (s:Int) from (zaU hs).mpr h0)]
    exact A7.mpr rfl
   ·rcases hm with ⟨_,_,hb'⟩ | ⟨h0',_⟩
    ·exact zdk fun d=>by rw [hb,hb']
    ·rw [h0] at h0'; cases h0'
  ·have n0:(0:Int) ∉ aheadOf (s:Int):=fun z=>by
    have:=(zaU (d:=0) hs).mp z
    rw [h0] at this; cases this
   have hp:(c.1,afterOf (aheadOf (s:Int)) c.2)∈goesOf C (aheadOf (s:Int)):=by
    unfold goesOf
    rw [if_neg n0]
    refine Ah.mpr ⟨c,B9.mpr ⟨hc,?_⟩,rfl⟩
    have:meets (aheadOf (s:Int)) c.2=false:=meets_false.mpr fun t ht z=>by
     have h1:=zbA t z
     obtain ⟨d,rfl⟩:=Mg h1.1
     exact hx d ((zaU hs).mp z) ht
    rw [this]; rfl
   obtain ⟨k1,k2,k3,_⟩:=zbb hs g hp
   have e:=zdJ k3
   refine ⟨_,hp,?_⟩
   have e2:(worth (afterOf (aheadOf (s:Int)) c.2)).toNat=n:=by
    refine zdk fun d => ?_
    rw [Bq,<- zaU k1,hb,Kz,decide_eq_true_eq,<- zaU hs]
    dsimp only at e ⊢
    rw [<- e]
    exact zc8 zbA (zcK (g c hc)) d
   dsimp only at k2 e2 ⊢
   rw [<- e2,show (((worth (afterOf (aheadOf (s:Int)) c.2)).toNat:Nat):Int)=worth (afterOf (aheadOf (s:Int)) c.2) by omega]
noncomputable def hit (C:Combs) (x:Nat×Str) (q:Nat):Bool:=decide (x.1<=q) && decide (((q - x.1:Nat):Int)∈tkOf C x.2)
noncomputable def cov (C:Combs) (l:List (Nat×Str)) (q:Nat):Nat:=(l.map fun x=>ind (hit C x q)).sum
theorem zcS (C:Combs) (l:List (Nat×Str)) (x:Nat×Str) (q:Nat):cov C (l ++ [x]) q=cov C l q + ind (hit C x q):=by
 unfold cov
 rw [Bs,Ou]
 simp
noncomputable def chs (C:Combs):Nat->List (List (Nat×Str))
 | 0 => [[]]
 | p + 1=>(chs C p).flatMap fun r=>r :: C.map fun c=>r ++ [(p,c.1)]
noncomputable def OkC (C:Combs) (l:List (Nat×Str)) (p:Nat):Prop:=(∀ q,q < p->cov C l q=1)/\∀ q,q < p + 8->cov C l q<=1
noncomputable def shp (C:Combs) (l:List (Nat×Str)) (p:Nat):Nat:=bitSum (fun d=>decide (cov C l (p + d)=1)) 7
theorem zd8 {C:Combs}:∀ {p:Nat} {l:List (Nat×Str)},l∈chs C p->∀ x∈l,x.1 < p/\x.2∈C.map (·.1)
 | 0,l,h,x,hx=>by
  rw [A7.mp (show l ∈ [[]] from h)] at hx
  cases hx
 | p + 1,l,h,x,hx=>by
  obtain ⟨r,hr,h⟩:=Kl.mp h
  rcases Bf.mp h with rfl | h
  ·have:=zd8 hr x hx
   exact ⟨by omega,this.2⟩
  ·obtain ⟨c,hc,rfl⟩:=Ah.mp h
   rcases Al.mp hx with z | z
   ·have:=zd8 hr x z
    exact ⟨by omega,this.2⟩
   ·rw [A7.mp z]
    exact ⟨Ew _,Ah.mpr ⟨c,hc,rfl⟩⟩
theorem tk_in {C:Combs} (g:GC C) {x:Str} {t:Int} (h:t∈tkOf C x):0<=t/\t<=7:=by
 unfold tkOf at h
 cases e:cGet C x with
 | none=>rw [e] at h; cases h
 | some ts=>rw [e] at h; exact zcK (g _ (zd5 e)) t h
theorem sum_zero {α : Type} {l:List α} {f : α -> Nat} (h:∀ x∈l,f x=0):(l.map f).sum=0:=by
 induction l with
 | nil=>rfl
 | cons a l ih =>
  rw [Aq,Fp,h a Ai,ih fun x hx=>h x (Ac _ hx)]
theorem zdh {C:Combs} (g:GC C) {p:Nat} {l:List (Nat×Str)} (h:l∈chs C p) {q:Nat} (hq:p + 7<=q):cov C l q=0:=sum_zero fun x hx=>by
 have:=(zd8 h x hx).1
 unfold hit
 rw [decide_eq_false (show ¬ ((q - x.1:Nat):Int)∈tkOf C x.2 from fun z=>by have:=(tk_in g z).2; omega),P5]
 rfl
theorem shp_lt (C:Combs) (l:List (Nat×Str)) (p:Nat):shp C l p < 128:=zcp _ 7
theorem zbB {C:Combs} (g:GC C) {p:Nat} {l:List (Nat×Str)} (h:l∈chs C p) (d:Nat):(shp C l p).testBit d=decide (cov C l (p + d)=1):=by
 unfold shp
 rw [zbK]
 by_cases hd:d < 7
 ·rw [decide_eq_true hd,F8]
 ·rw [decide_eq_false hd,Fj,zdh g h (by omega)]
  rfl
theorem zg0 {C:Combs} (nd:(C.map (·.1)).Nodup) {c:Str×List Int} (hc:c∈C) (p d:Nat):hit C (p,c.1) (p + d)=decide ((d:Int)∈c.2):=by
 unfold hit tkOf
 rw [zc7 nd hc]
 simp
theorem hit_below {C:Combs} {p q:Nat} {x:Str} (h:q < p):hit C (p,x) q=false:=by
 unfold hit
 rw [decide_eq_false (show ¬ p<=q by omega),Fj]
theorem ok_none {C:Combs} {p:Nat} {l:List (Nat×Str)} (hl:l∈chs C p) (g:GC C):OkC C l (p + 1) ↔ OkC C l p/\cov C l p=1:=by
 constructor
 ·rintro ⟨h1,h2⟩
  exact ⟨⟨fun q hq=>h1 q (by omega),fun q hq=>h2 q (by omega)⟩,h1 p (by omega)⟩
 ·rintro ⟨⟨h1,h2⟩,h3⟩
  refine ⟨fun q hq => ?_,fun q hq => ?_⟩
  ·by_cases e:q=p
   ·rw [e]; exact h3
   ·exact h1 q (by omega)
  ·by_cases e:q < p + 8
   ·exact h2 q e
   ·rw [zdh g hl (by omega)]; omega
theorem ok_some {C:Combs} {p:Nat} {l:List (Nat×Str)} (hl:l∈chs C p) (g:GC C) (nd:(C.map (·.1)).Nodup) {c:Str×List Int} (hc:c∈C):OkC C (l ++ [(p,c.1)]) (p + 1) ↔ OkC C l p/\cov C l p=0/\∀ d:Nat,cov C l (p + d)=1->(d:Int) ∉ c.2:=by
 have e1:∀ q,q < p->cov C (l ++ [(p,c.1)]) q=cov C l q:=fun q hq=>by rw [zcS,hit_below hq]; rfl
 have e2:∀ d,cov C (l ++ [(p,c.1)]) (p + d)=cov C l (p + d) + ind (decide ((d:Int)∈c.2)):=fun d=>by rw [zcS,zg0 nd hc]
 have h0:(0:Int)∈c.2:=ze2 (g c hc)
 have e0:cov C (l ++ [(p,c.1)]) p=cov C l p + 1:=by
  have:=e2 0
  rw [decide_eq_true (show ((0:Nat):Int)∈c.2 from h0)] at this
  exact this
 constructor
 ·rintro ⟨h1,h2⟩
  have hp:=h1 p (by omega)
  refine ⟨⟨fun q hq=>by rw [<- e1 q hq]; exact h1 q (by omega),fun q hq => ?_⟩,by omega,fun d hd z => ?_⟩
  ·by_cases e:q < p
   ·rw [<- e1 q e]; exact h2 q (by omega)
   ·have:=h2 q (by omega)
    have e3:=e2 (q - p)
    rw [show p + (q - p)=q by omega] at e3
    omega
  ·have e3:=e2 d
   rw [hd,decide_eq_true z] at e3
   have hd8:d<=7:=by have:=(zcK (g c hc) _ z).2; omega
   have:=h2 (p + d) (by omega)
   rw [e3] at this
   exact absurd this (by decide)
 ·rintro ⟨⟨h1,h2⟩,h3,h4⟩
  refine ⟨fun q hq => ?_,fun q hq => ?_⟩
  ·by_cases e:q=p
   ·rw [e,e0,h3]
   ·rw [e1 q (by omega)]; exact h1 q (by omega)
  ·by_cases e:q < p
   ·rw [e1 q e]; exact h2 q (by omega)
   ·have e3:=e2 (q - p)
    rw [show p + (q - p)=q by omega] at e3
    have hle:cov C l q<=1:=by
     by_cases e':q < p + 8
     ·exact h2 q e'
     ·rw [zdh g hl (by omega)]; omega
    rw [e3]
    by_cases z:((q - p:Nat):Int)∈c.2
    ·have:cov C l q≠1:=fun y=>h4 (q - p) (by rw [show p + (q - p)=q by omega]; exact y) z
     rw [decide_eq_true z]
     show cov C l q + 1<=1
     omega
    ·rw [decide_eq_false z]
     exact hle
section
variable {P:Ap} {w:Bb} {A:B7} {E:A2->A4->Prop} {s:A4}
noncomputable def Inner (P:Ap) (w:Bb) (h:Bx):List (List Key)->List A2->Prop:=C7 fun k v=>∃ b,v = .ref b/\My (mixKind P w) h k b
noncomputable def IsNest (P:Ap) (w:Bb) (h:Bx) (ks:List (List Key)) (a:A3):Prop:=∃ ob its m,h.get? a=some ob/\ob.cls = .type "tuple" /\ ob.data = .seq its m/\Inner P w h ks its.toList
theorem IsNest.type {ks:List (List Key)} {a:A3} (x:IsNest P w s.heap ks a):s.TypeIs (.ref a) "tuple" := by
 obtain ⟨ob,_,_,e1,e2,_⟩:=x
 exact ⟨ob,e1,e2⟩
theorem zeE {h:Bx}:∀ {x y:List (List Key)} {vs:List A2},Inner P w h x vs->Inner P w h y vs->x=y
 | _,_,_,.nil,.nil=>rfl
 | _,_,_,.cons ⟨b,e,k⟩ r,.cons ⟨c,e',k'⟩ r'=>by
  rw [e] at e'
  cases e'
  rw [k.inj k',zeE r r']
theorem zfx {h:Bx} {a:A3} {x y:List (List Key)} (hx:IsNest P w h x a) (hy:IsNest P w h y a):x=y:=by
 obtain ⟨ob,its,m,e1,_,e2,r⟩:=hx
 obtain ⟨ob',its',m',e1',_,e2',r'⟩:=hy
 rw [e1] at e1'
 cases e1'
 rw [e2] at e2'
 cases e2'
 exact zeE r r'
theorem nest_keeps {h h':Bx} {ks:List (List Key)} {a d:A3} {o:Obj} {es:Array J5} {ep:Nat} (x:IsNest P w h ks a) (ho:h.get? d=some o) (hd:o.data = .dict es ep) (hs:Fk d h h'):IsNest P w h' ks a:=by
 obtain ⟨ob,its,m,e1,e2,e3,r⟩:=x
 refine ⟨ob,its,m,?_,e2,e3,C7.mapP r fun k v ⟨b,e,kk⟩=>⟨b,e,kk.keeps ho hd hs⟩⟩
 rw [<- e1]
 refine hs.2 a fun z => ?_
 rw [z,ho] at e1
 cases e1
 rw [hd] at e3
 cases e3
noncomputable def nestHash (P:Ap) (w:Bb) (ks:List (List Key)):Int:=reduceHash (F7 (ks.map (tupleKeyHash (mixKind P w))))
noncomputable def nestDraws (ks:List (List Key)):Nat:=(ks.map fun k=>k.length + 1).sum + 1
theorem nest_hash {ks:List (List Key)} {a:A3} {Q:Int->A4->Prop} (hu:A.units + 4 < cLine) (hk:IsNest P w s.heap ks a) (q:Q (nestHash P w ks) { s with toks:=s.toks + nestDraws ks }):wpAny (model P w) A (pyHash (.ref a)) Q E s:=by
 have ty:=hk.type
 obtain ⟨ob,its,m,e1,_,e3,r⟩:=hk
 unfold pyHash pyHashByItsType
 refine A1 (wpAny_cRoomFor_or (.inr (by omega)) (A1 (Gz ty Ic.lookup ?_)))
 dsimp only
 rw [if_neg (by rw [beq_builtin_none]; decide)]
 refine A1 (Gz ty Ic.lookup ?_)
 refine A1 (wpAny_callSpecialIfBoundUnlessNone?_slot ty Ic (Ds Ic ty F.entry_tuple_hash ?_ (F.args_tuple_hash_1 _)))
 change wpAny (model P w) A.in1 (Qf (B1 a) >>= fun arr=>_) _ E s
 refine A1 (Kp e1 e3 (A1 ?_))
 rw [<- Jt]
 refine Gk _ (fun rest (b:Array Int) s'=>∃ done left,ks=done ++ left/\Inner P w s.heap left rest/\b.toList=done.map (tupleKeyHash (mixKind P w))/\s'={ s with toks:=s.toks + (done.map fun k=>k.length + 1).sum }) _ ?_ ?_ _ _ ⟨[],ks,rfl,r,rfl,rfl⟩
 ·rintro v rest b s' ⟨done,left,rfl,hl,hb,rfl⟩
  cases hl with
  | @cons k _ ks' _ h1 hl' =>
   obtain ⟨c,rfl,hc⟩:=h1
   have fin:∃ done' left',done ++ k :: ks'=done' ++ left'/\Inner P w s.heap left' rest/\(b.push (tupleKeyHash (mixKind P w) k)).toList=done'.map (tupleKeyHash (mixKind P w))/\({ s with toks:=s.toks + (done.map fun k=>k.length + 1).sum + (k.length + 1) }:A4)={ s with toks:=s.toks + (done'.map fun k=>k.length + 1).sum } :=
    ⟨done ++ [k],ks',by simp,hl',by simp [hb],by simp [Hu]⟩
   refine A1 (wpAny_pyHash_tuple (knd:=mixKind P w) (s:={ s with toks:=s.toks + (done.map fun k=>k.length + 1).sum }) (by rw [Lh]; omega) hc ?_)
   first
    | exact Ad fin
    | exact A1 (Ad (Ad fin))
 ·rintro b s' ⟨done,left,rfl,hl,hb,rfl⟩
  cases hl
  rw [C9] at q
  change wpAny (model P w) A.in1 (retInt (F7 b.toList)) _ E _
  rw [hb]
  refine Qi ?_
  unfold nestHash reduceHash at q
  unfold nestDraws at q
  rw [<- Hu] at q
  change wpAny (model P w) A (if (decide (-(2:Int) ^ 63<=F7 (done.map (tupleKeyHash (mixKind P w)))) && decide (F7 (done.map (tupleKeyHash (mixKind P w))) < 2 ^ 63))=true then _ else _) Q E _
  split
  ·rename_i c
   rw [if_pos c] at q
   exact Ad q
  ·rename_i c
   rw [if_neg c] at q
   exact A1 (Fz (Ad q))
theorem nest_eq_tree {x y:List (List Key)} {a b:A3} {R:O2->A4->Prop} (hu:A.units < cLine) (hx:IsNest P w s.heap x a) (hy:IsNest P w s.heap y b) (q:R (.done (.ret (.bool (decide (x=y))))) s) :
  wpAny (model P w) A (F0.«tuple.__eq__» ⟨[.ref a,.ref b],[]⟩) R E s:=by
 have ty:=hy.type
 obtain ⟨oa,xs,na,a1,_,a3,ra⟩:=hx
 obtain ⟨ob,ys,nb,b1,_,b3,rb⟩:=hy
 change wpAny (model P w) A (isInstance (B1 b) (.type "tuple") >>= fun c=>_) R E s
 refine A1 (Gj ty Jp ?_)
 simp only [En,Bm,if_false]
 refine A1 (Kp a1 a3 (A1 (Kp b1 b3 (A1 ?_))))
 refine Gk _ (fun rest r s'=>r.1=none/\s'=s/\∃ x' y' xs' ys',rest=List.zip xs' ys'/\Inner P w s.heap x' xs'/\Inner P w s.heap y' ys'/\(x'=y' ↔ x=y)/\(xs'.length=ys'.length ↔ xs.size=ys.size)) _ ?_ ?_ _ _ ⟨rfl,rfl,x,y,xs.toList,ys.toList,rfl,ra,rb,Iff.rfl,by simp⟩
 ·rintro ⟨u,v⟩ rest r s' ⟨hr,rfl,x',y',xs',ys',hz,hx',hy',hd,hl⟩
  cases hx' with
  | nil=>simp at hz
  | @cons k1 u' x2 xs2 h1 t1 =>
   cases hy' with
   | nil=>simp at hz
   | @cons k2 v' y2 ys2 h2 t2 =>
    rw [Gy] at hz
    injection hz with hz1 hz2
    injection hz1 with z1 z2
    subst z1 z2 hz2
    obtain ⟨c1,rfl,g1⟩:=h1
    obtain ⟨c2,rfl,g2⟩:=h2
    refine A1 (wpAny_eqBool_tuple hu g1 g2 ?_)
    by_cases e:k1=k2
    ·subst e
     rw [decide_eq_true rfl]
     simp only [En,Bm,if_false]
     exact Ad ⟨rfl,rfl,x2,y2,xs2,ys2,rfl,t1,t2,by rw [<- hd]; simp,by rw [<- hl]; simp⟩
    ·rw [decide_eq_false e]
     simp only [Bool.not_false,if_true]
     have ne:¬ x=y:=fun z=>by
      have:=hd.mpr z
      injection this with z1 _
      exact e z1
     rw [decide_eq_false ne] at q
     exact A1 (Ad (Ad (Ad q)))
 ·rintro ⟨r1,r2⟩ s' ⟨hr,rfl,x',y',xs',ys',hz,hx',hy',hd,hl⟩
  dsimp only at hr
  subst hr
  refine Ad ?_
  have e:(xs.size == ys.size)=decide (x=y):=by
   rw [Bq,beq_iff_eq,decide_eq_true_eq,<- hd,<- hl]
   cases hx' with
   | nil=>cases hy' with
    | nil=>simp
    | cons _ _=>simp
   | cons _ _=>cases hy' with
    | nil=>simp
    | cons _ _=>simp at hz
  change R (.done (.ret (.bool (xs.size == ys.size)))) s'
  rw [e]
  exact q
theorem nest_eq {x y:List (List Key)} {a b:A3} {Q:Bool->A4->Prop} (hu:A.units + 4 < cLine) (hx:IsNest P w s.heap x a) (hy:IsNest P w s.heap y b) (q:Q (decide (x=y)) s):wpAny (model P w) A (eqBool (.ref a) (.ref b)) Q E s:=by
 unfold eqBool
 try with_reducible refine D3 ?_
 change wpAny (model P w) A (if (B1 a == B1 b)=true then _ else _) Q E s
 by_cases e:(B1 a == B1 b)=true
 ·rw [if_pos e]
  have e':=eq_of_beq e
  cases e'
  rw [decide_eq_true (zfx hx hy)] at q
  exact A1 (Fz (Ad q))
 ·rw [if_neg e]
  exact A1 (wpAny_richCompare_same_room (op := .Eq) hx.type hy.type Ja (Ds Ja hx.type F.entry_tuple_eq (nest_eq_tree (by rw [Lh]; omega) hx hy ⟨_,rfl,(fun z=>nomatch z),Cu q⟩) (F.args_tuple_eq_2 _ _)) (by omega))
theorem tup_quiet {M:Hv} {n:Nat} {ks:List Key} {a:A3} {Q:Bool->A4->Prop} (hk:My (mixKind P w) s.heap ks a) (q:Q true s):wpAny M A (eqIsQuiet (n + 1) (.ref a)) Q E s:=by
 have ty:=hk.typeIs
 obtain ⟨ob,its,m,e1,_,e3,r⟩:=hk
 unfold eqIsQuiet
 refine A1 (Gz ty Ja.lookup ?_)
 change wpAny M A (isInstance (B1 a) (.type "tuple") >>= fun c=>_) Q E s
 refine A1 (Gj ty Jp ?_)
 simp only [En,Bm,if_false]
 refine A1 (Rk e1 e3 (A1 ?_))
 change wpAny M A (forIn its _ _) _ E s
 rw [<- Jt]
 refine Gk _ (fun rest r s'=>r.1=none/\s'=s/\∀ v∈rest,carriedByValue v=true) _ ?_ ?_ _ _ ⟨rfl,rfl,r.byValue⟩
 ·rintro v rest r s' ⟨_,rfl,hv⟩
  rw [eqIsQuiet_byValue _ (hv v Ai)]
  refine A1 (Ad ?_)
  simp only [En,Bm,if_false]
  exact Ad ⟨rfl,rfl,fun u hu'=>hv u (Ac _ hu')⟩
 ·rintro ⟨r1,r2⟩ s' ⟨hr,rfl,_⟩
  dsimp only at hr
  subst hr
  exact Ad q
theorem nest_quiet {M:Hv} {ks:List (List Key)} {a:A3} {Q:Bool->A4->Prop} (hk:IsNest P w s.heap ks a) (q:Q true s):wpAny M A (eqIsQuiet 8 (.ref a)) Q E s:=by
 have ty:=hk.type
 obtain ⟨ob,its,m,e1,_,e3,r⟩:=hk
 unfold eqIsQuiet
 refine A1 (Gz ty Ja.lookup ?_)
 change wpAny M A (isInstance (B1 a) (.type "tuple") >>= fun c=>_) Q E s
 refine A1 (Gj ty Jp ?_)
 simp only [En,Bm,if_false]
 refine A1 (Rk e1 e3 (A1 ?_))
 change wpAny M A (forIn its _ _) _ E s
 rw [<- Jt]
 have hall:∀ v∈its.toList,∃ k b,v = .ref b/\My (mixKind P w) s.heap k b:=fun v hv=>by
  obtain ⟨i,hi⟩:=Iy.mp hv
  obtain ⟨k,_,b,e,hk⟩:=C7.rev r hi
  exact ⟨k,b,e,hk⟩
 refine Gk _ (fun rest r s'=>r.1=none/\s'=s/\∀ v∈rest,∃ k b,v = .ref b/\My (mixKind P w) s.heap k b) _ ?_ ?_ _ _ ⟨rfl,rfl,hall⟩
 ·rintro v rest r s' ⟨_,rfl,hv⟩
  obtain ⟨k,b,rfl,hk⟩:=hv v Ai
  refine A1 (tup_quiet (n:=6) hk ?_)
  simp only [En,Bm,if_false]
  exact Ad ⟨rfl,rfl,fun u hu'=>hv u (Ac _ hu')⟩
 ·rintro ⟨r1,r2⟩ s' ⟨hr,rfl,_⟩
  dsimp only at hr
  subst hr
  exact Ad q
end
noncomputable def nestKind (P:Ap) (w:Bb):HeapKind P w (List (List Key)) where
 is:=IsNest P w
 hash:=nestHash P w
 draws:=nestDraws
 room:=fun A=>A.units + 4 < cLine
 inj:=zfx
 keeps:=nest_keeps
 pyHash:=nest_hash
 eqBool:=nest_eq
 quiet:=nest_quiet
noncomputable def NestAt (H:Hp) (b:A3) (ks:List (List Key)):Prop:=∃ ws,H b=some (.tup ws)/\C7 (fun (k:List Key) (v:V)=>∃ c,v = .ref c/\H c=some (.tup (k.map kV))) ks ws
noncomputable abbrev NX:=List (List Key)×A3×V
noncomputable def nestIn (P:Ap) (w:Bb) (a:A3) (xs:List NX) (h:Bx):Prop:=xs.length<=sizeLine/\(a == sysModules)=false/\∃ ys:List (List (List Key)×A3×A2),C7 (fun (p:NX) (q:List (List Key)×A3×A2)=>p.1=q.1/\p.2.1=q.2.1/\RelV p.2.2 q.2.2) xs ys /\
 ∃ o es ep,h.get? a=some o/\o.ExactDict/\o.data = .dict es ep/\es.toList=ys.map (entryOfKey (nestKind P w))/\(ys.map (·.1)).Nodup
noncomputable def DN (P:Ap) (w:Bb) (a:A3) (xs:List NX):HO := .ext (nestIn P w a xs)
noncomputable def nks (xs:List NX):List (List (List Key)):=xs.map (·.1)
noncomputable def hasN (l:List (List (List Key))) (ks:List (List Key)):Bool:=l.any fun z=>decide (z=ks)
theorem hasN_iff {l:List (List (List Key))} {ks:List (List Key)}:hasN l ks=true ↔ ks∈l:=by
 unfold hasN
 rw [Bv]
 exact ⟨fun ⟨x,h1,h2⟩=>of_decide_eq_true h2 ▸ h1,fun h=>⟨ks,h,decide_eq_true rfl⟩⟩
theorem zfF {l:List (List (List Key))} {ks:List (List Key)} (h:ks ∉ l):hasN l ks=false:=by
 cases e:hasN l ks with
 | false=>rfl
 | true=>exact absurd (hasN_iff.mp e) h
noncomputable def KeysN (H:Hp) (xs:List NX):Prop:=∀ x∈xs,NestAt H x.2.1 x.1
noncomputable def NDict (P:Ap) (w:Bb) (H:Hp) (a:A3) (xs:List NX):Prop:=((xs = []/\H a=some (.dK []))\/H a=some (DN P w a xs))/\KeysN H xs
theorem NestAt.same {H H':Hp} {b:A3} {ks:List (List Key)} (n:NestAt H b ks) (m:∀ q xs,H q=some (.tup xs)->H' q=some (.tup xs)):NestAt H' b ks:=by
 obtain ⟨ws,e,r⟩:=n
 exact ⟨ws,m _ _ e,C7.mapP r fun _ _ ⟨c,e1,e2⟩=>⟨c,e1,m _ _ e2⟩⟩
theorem KeysN.same {H H':Hp} {xs:List NX} (n:KeysN H xs) (m:∀ q xs,H q=some (.tup xs)->H' q=some (.tup xs)):KeysN H' xs:=fun x hx=>(n x hx).same m
section
variable {P:Ap} {w:Bb} {H:Hp} {h:Bx} {a b:A3} {xs:List NX} {ks:List (List Key)}
theorem NDict.same {H':Hp} (n:NDict P w H a xs) (sm:Same H H'):NDict P w H' a xs:=⟨n.1.imp (fun z=>⟨z.1,sm _ _ z.2⟩) fun z=>sm _ _ z,n.2.same fun _ _ e=>sm _ _ e⟩
theorem zd0 (ok:HOk P w H h) (n:NestAt H b ks):IsNest P w h ks b:=by
 obtain ⟨ws,e,r⟩:=n
 obtain ⟨_,its,rv,o,h1,h2,m,h3⟩:=(show ObjOk P w H h b (.tup ws) from ok b _ e)
 refine ⟨o,its.toArray,m,h1,h2,h3,?_⟩
 have:∀ {ks:List (List Key)} {ws:List V} {its:List A2},C7 (fun (k:List Key) (v:V)=>∃ c,v = .ref c/\H c=some (.tup (k.map kV))) ks ws->Vals ws its->Inner P w h ks its:=by
  intro ks ws its r
  induction r generalizing its with
  | nil=>intro rv; cases rv; exact .nil
  | cons q _ ih =>
   intro rv
   cases rv with
   | cons rv1 rv2 =>
    obtain ⟨c,rfl,ec⟩:=q
    exact .cons ⟨c,rv1,zdf ok ec⟩ (ih rv2)
 simpa using this r rv
theorem zcN (ok:HOk P w H h) (n:NDict P w H a xs):xs.length<=sizeLine/\(a == sysModules)=false/\∃ ys,C7 (fun (p:NX) (q:List (List Key)×A3×A2)=>p.1=q.1/\p.2.1=q.2.1/\RelV p.2.2 q.2.2) xs ys/\h.DictOfH (nestKind P w) a ys:=by
 obtain ⟨n1,n2⟩:=n
 rcases n1 with ⟨rfl,e⟩ | e
 ·obtain ⟨_,hd,vs,rel,o,es,ep,h1,h2,h3,_,h4,_⟩:=zho ok e
  cases rel
  refine ⟨By _,hd,[],.nil,o,es,ep,h1,h2,h3,?_,fun x hx=>absurd hx List.not_mem_nil,Du⟩
  generalize es.toList=l at h4 ⊢
  cases h4
  rfl
 ·obtain ⟨⟨z,hd,ys,r,o,es,ep,h1,h2,h3,h4,h5⟩,_,_⟩:=(show ObjOk P w H h a (DN P w a xs) from ok a _ e)
  refine ⟨z,hd,ys,r,o,es,ep,h1,h2,h3,h4,fun y hy => ?_,h5⟩
  obtain ⟨i,hi⟩:=Iy.mp hy
  obtain ⟨x,hx,e1,e2,_⟩:=C7.rev r hi
  have:=zd0 ok (n2 x (B0 hx))
  rw [e1,e2] at this
  exact this
theorem zhl {ys:List (List (List Key)×A3×A2)} (r:C7 (fun (p:NX) (q:List (List Key)×A3×A2)=>p.1=q.1/\p.2.1=q.2.1/\RelV p.2.2 q.2.2) xs ys):ys.map (·.1)=nks xs:=by
 unfold nks
 induction r with
 | nil=>rfl
 | cons q _ ih=>rw [Aq,Aq,ih,q.1]
theorem zdN {ys:List (List (List Key)×A3×A2)} {ks:List (List Key)}:(atKey ys ks).isSome=hasN (ys.map (·.1)) ks:=by
 unfold atKey
 rw [Hh,Bq,List.find?_isSome,hasN_iff,Ah]
 exact ⟨fun ⟨x,h1,h2⟩=>⟨x,h1,of_decide_eq_true h2⟩,fun ⟨x,h1,h2⟩=>⟨x,h1,decide_eq_true h2⟩⟩
end
section
variable {X:Cx} {pins:List (A3×Obj)} {σ : St} {H:Hp} {s:A4} {a b:A3} {xs:List NX} {ks:List (List Key)} {A:B7} {E:A2->A4->Prop}
theorem n_notIn {Q:A2->A4->Prop} (hu:A.units + 5 < cLine) (I:Inv X pins σ H s) (n:NDict X.prog X.w H a xs) (hb:NestAt H b ks) (q:∀ s',Inv X pins σ H s'->Q (.bool (!hasN (nks xs) ks)) s') :
  wpAny (model X.prog X.w) A (compareOp .NotIn (.ref b) (.ref a)) Q E s:=by
 obtain ⟨z,hd,ys,r,dd⟩:=zcN I.hok n
 refine Pt (knd:=nestKind X.prog X.w) (show A.in1.units + 4 < cLine by rw [Lh]; omega) (zd0 I.hok hb) hd dd ?_
 rw [zdN,zhl r]
 exact q _ (I.tok _)
theorem n_getItem {Q:A2->A4->Prop} {c:A3} {v:V} (hu:A.units + 5 < cLine) (I:Inv X pins σ H s) (n:NDict X.prog X.w H a xs) (hb:NestAt H b ks) (hm:(ks,c,v)∈xs) (q:∀ w' s',Inv X pins σ H s'->RelV v w'->Q w' s') :
  wpAny (model X.prog X.w) A (getItem (.ref a) (.ref b)) Q E s:=by
 obtain ⟨z,hd,ys,r,dd⟩:=zcN I.hok n
 obtain ⟨i,hi⟩:=Iy.mp hm
 obtain ⟨⟨k',c',v'⟩,hy,e1,e2,rv⟩:=C7.at r hi
 dsimp only at e1 e2 rv
 subst e1 e2
 obtain ⟨_,_,_,_,_,_,_,_,nd⟩:=id dd
 refine P8 (knd:=nestKind X.prog X.w) (show A.in1.units + 4 < cLine by rw [Lh]; omega) (zd0 I.hok hb) dd (atKey_of_get nd hy) (q _ _ (I.tok _) rv)
theorem n_setItem {Q:Unit->A4->Prop} {v:V} {u:A2} (hu:A.units + 5 < cLine) (I:Inv X pins σ H s) (n:NDict X.prog X.w H a xs) (hb:NestAt H b ks) (hn:ks ∉ nks xs) (hl:xs.length < sizeLine) (rv:RelV v u)
  (q:∀ s',Inv X pins σ (upd H a (DN X.prog X.w a (xs ++ [(ks,b,v)]))) s'->Q () s'):wpAny (model X.prog X.w) A (setItem (.ref a) (.ref b) u) Q E s:=by
 have mu:Mut (H a):=by
  rcases n.1 with ⟨_,e⟩ | e <;> rw [e] <;> exact Eg
 obtain ⟨z,hd,ys,r,dd⟩:=zcN I.hok n
 have e0:atKey ys ks=none:=by
  have:=zdN (ys:=ys) (ks:=ks)
  rw [zhl r,zfF hn] at this
  cases e:atKey ys ks with
  | none=>rfl
  | some y=>rw [e] at this; cases this
 refine P6 (knd:=nestKind X.prog X.w) (hsz:=by rw [<- Cz r]; omega) (show A.in1.units + 4 < cLine by rw [Lh]; omega) (zd0 I.hok hb) dd fun h' dd' hs=>q _ ?_
 obtain ⟨o,es,ep,h1,h2,h3,h4,_,h5⟩:=dd'
 have fin:nestIn X.prog X.w a (xs ++ [(ks,b,v)]) h':=by
  refine ⟨by rw [Ag,Bd]; omega,hd,_,?_,o,es,ep,h1,h2,h3,h4,h5⟩
  rw [storedH_new e0]
  exact Ev r ⟨rfl,rfl,rv⟩
 refine zd7 I mu hs ⟨o,h1⟩ ⟨fin,⟨o,h1⟩,fun g1 g2 x hx => ?_⟩
 obtain ⟨y1,y2,ys',y3,o',es',ep',y4,y5⟩:=x
 exact ⟨y1,y2,ys',y3,o',es',ep',hx _ y4,y5⟩
theorem n_type (I:Inv X pins σ H s) (n:NDict X.prog X.w H a xs):s.TypeIs (.ref a) "dict" := by
 obtain ⟨_,_,ys,_,dd⟩:=zcN I.hok n
 exact dd.typeIs
end
noncomputable def tNNotIn (P:Ap) (w:Bb) (ty td:TE):TE:=fun σ H Q=>ty σ H fun y H1=>td σ H1 fun x H2=>∃ a b xs ks,x = .ref a/\y = .ref b/\NDict P w H2 a xs/\NestAt H2 b ks/\Q (.bl (!hasN (nks xs) ks)) H2
noncomputable def tNGet (P:Ap) (w:Bb) (td ty:TE):TE:=fun σ H Q=>td σ H fun x H1=>ty σ H1 fun y H2=>∃ a b c xs ks v,x = .ref a/\y = .ref b/\NDict P w H2 a xs/\NestAt H2 b ks/\(ks,c,v)∈xs/\Q v H2
noncomputable def sNPut (P:Ap) (w:Bb) (td ty tv:TE):TS:=fun D σ H=>tv σ H fun v H1=>td σ H1 fun x H2=>ty σ H2 fun y H3=>∃ a b xs ks,x = .ref a/\y = .ref b/\NDict P w H3 a xs/\NestAt H3 b ks/\ks ∉ nks xs/\xs.length < sizeLine/\D.nx σ (upd H3 a (DN P w a (xs ++ [(ks,b,v)])))
section
variable {X:Cx} {o i e value:Ce} {pos pos' tpos:Pos} {td ty tv:TE}
theorem pc_nnotin (hu:X.A.units + 64 < cLine) (hi:PE X i ty) (ho:PE X o td):PC X .NotIn i o (tNNotIn X.prog X.w ty td):=by
 intro pins s σ H Q I h
 refine thn (hi pins s σ H _ I h) fun iv s1 ⟨y,H1,I1,ry,q1⟩=>thn (ho pins s1 σ H1 _ I1 q1) fun u s2 ⟨x,H2,I2,rx,a,b,xs,ks,ex,ey,n,hb,q2⟩ => ?_
 subst ex ey
 cases (show u=B1 a from rx)
 cases (show iv=B1 b from ry)
 exact n_notIn (by omega) I2 n hb fun s3 I3=>⟨.bl _,H2,I3,rfl,q2⟩
theorem pe_nget (hu:X.A.units + 64 < cLine) (ho:PE X o td) (hi:PE X i ty) (hs:NoSl i):PE X (.Subscript o i pos) (tNGet X.prog X.w td ty):=by
 intro pins s σ H Q I h
 refine zfT Ku.lookup hs (thn (ho pins s σ H _ I h) fun u s1 ⟨x,H1,I1,rx,q1⟩=>thn (hi pins s1 σ H1 _ I1 q1) fun iv s2 ⟨y,H2,I2,ry,a,b,c,xs,ks,v,ex,ey,n,hb,hm,q2⟩ => ?_)
 subst ex ey
 cases (show u=B1 a from rx)
 cases (show iv=B1 b from ry)
 exact ⟨n_type I2 n,n_getItem (by omega) I2 n hb hm fun w' s3 I3 rw'=>⟨v,H2,I3,rw',q2⟩⟩
theorem ps_nput (hu:X.A.units + 64 < cLine) (ho:PE X o td) (hi:PE X i ty) (hv:PE X value tv) (hs:swapsWith value (some (.Subscript o i pos')) pos.line X.env=pure false):PS X (.Assign [.Subscript o i pos'] value pos) (sNPut X.prog X.w td ty tv):=by
 intro pins s σ H D I h
 refine Nr (thn (hv pins s σ H _ I h) fun r s1 ⟨v,H1,I1,rv,q1⟩=>thn (ho pins s1 σ H1 _ I1 q1) fun u s2 ⟨x,H2,I2,rx,q2⟩=>thn (hi pins s2 σ H2 _ I2 q2) fun iv s3 ⟨y,H3,I3,ry,a,b,xs,ks,ex,ey,n,hb,hn,hl,q3⟩ => ?_) hs
 subst ex ey
 cases (show u=B1 a from rx)
 cases (show iv=B1 b from ry)
 exact n_setItem (by omega) I3 n hb hn hl rv fun s4 I4=>⟨σ,_,I4,q3⟩
noncomputable def rInT (K:Am):R2:=fun x y H Q=>∃ d es,VD K H x d/\VD K H y (.tuple es)/\d.canLay0=true/\Ba es=true/\d.depth<=50/\Q (.bl (es.any fun e=>D0 e d)) H
theorem op_inT (hu:X.A.units + 64 < cLine):OpR X (compareOp .In) (rInT X.K):=by
 intro pins s σ H x y v u Q I rx ry h
 obtain ⟨d,es,hd,he,c1,c2,dp,q⟩:=h
 obtain ⟨a1,r1⟩:=hd.reads I rx
 obtain ⟨a2,r2⟩:=he.reads I ry
 exact SeqAt.in_tuple_reads r2 r1 c2 c1 (by have:=Nat.min_le_right (C0 es) d.depth; omega) ⟨.bl _,H,I,rfl,q⟩
end
noncomputable def tDisp1T (tk tv:TE):TE:=fun σ H Q=>∀ p,H p=none->tk σ (upd H p (.dT [])) fun x H1=>tv σ H1 fun y H2=>∃ k b,H2 p=some (.dT [])/\x = .ref b/\H2 b=some (.tup (k.map kV))/\Q (.ref p) (upd H2 p (.dT [(k,y)]))
theorem zeq {X:Cx} {pos:Pos} {k v:Ce} {tk tv:TE} (hu:X.A.units + 1 < cLine) (hk:PE X k tk) (hv:PE X v tv):PE X (.Dict [some k] [v] pos) (tDisp1T tk tv):=by
 intro pins s σ H Q I q
 have hn:=I.hok.fresh (Aa s.heap.objs.size)
 have I1:=I.laid (a:=s.heap.objs.size) (o := .dT []) (h':=s.heap.push { cls := .type "dict",data := .dict #[] }) (t':=s.toks) (fun _ _ q=>A8 _ q) (Aa _) (zfH s.heap I.big)
 refine wpAny_Dict_any rfl rfl (by simp) (show 1<=15 by decide) (pairTrees_cons_walk (thn (hk pins _ σ _ _ I1 (q _ hn)) fun u s1 ⟨x,H1,J1,rx,q1⟩=>thn (hv pins s1 σ H1 _ J1 q1) fun r s2 ⟨y,H2,J2,ry,kk,b,hp,ex,hb,q2⟩=>pairTrees_nil_walk ?_))
 subst ex
 cases (show u=B1 b from rx)
 unfold PySem.storeAll
 rw [Kw]
 obtain ⟨z,hd,xs,rel,dd⟩:=zhn J2.hok hp
 cases rel
 refine A1 (A1 (wpAny_dictSet_heap (knd:=tupleKind (mixKind X.prog X.w)) (hsz:=By _) (by show X.A.units < cLine; omega) (zdf J2.hok hb) dd fun h' dd' hs=>Ad ?_))
 dsimp only
 rw [List.forIn_nil]
 refine Ad ⟨.ref s.heap.objs.size,_,?_,rfl,q2⟩
 obtain ⟨o,es,ep,h1,h2,h3,h4,_,h5⟩:=dd'
 refine zd7 J2 (by rw [hp]; exact Eg) hs ⟨o,h1⟩ ⟨show 1<=sizeLine from C5 (by decide) zaK,hd,_,.cons ⟨rfl,?_,ry⟩ .nil,o,es,ep,h1,h2,h3,h4,h5⟩
 rw [zaf (zhg hb hp (fun z=>nomatch z))]
 exact hb
section
variable {X:Cx} {o i e value:Ce} {pos pos' tpos:Pos} {td ty tv:TE}
theorem pc_nnotin' (P:Ap) (w:Bb) (hP:X.prog=P) (hw:X.w=w) (hu:X.A.units + 64 < cLine) (hi:PE X i ty) (ho:PE X o td):PC X .NotIn i o (tNNotIn P w ty td):=by subst hP hw; exact pc_nnotin hu hi ho
theorem pe_nget' (P:Ap) (w:Bb) (hP:X.prog=P) (hw:X.w=w) (hu:X.A.units + 64 < cLine) (ho:PE X o td) (hi:PE X i ty) (hs:NoSl i):PE X (.Subscript o i pos) (tNGet P w td ty):=by subst hP hw; exact pe_nget hu ho hi hs
theorem ps_nput' (P:Ap) (w:Bb) (hP:X.prog=P) (hw:X.w=w) (hu:X.A.units + 64 < cLine) (ho:PE X o td) (hi:PE X i ty) (hv:PE X value tv) (hs:swapsWith value (some (.Subscript o i pos')) pos.line X.env=pure false):PS X (.Assign [.Subscript o i pos'] value pos) (sNPut P w td ty tv):=by subst hP hw; exact ps_nput hu ho hi hv hs
end
noncomputable def st1 (C:Combs) (s t:Nat):Prop:=∃ p∈stp C s,p.2.toNat=t
noncomputable def rch (C:Combs) (s:Nat):Nat->Nat->Prop
 | 0,t=>t=s
 | n + 1,t=>∃ u,rch C s n u/\st1 C u t
theorem zgP {C:Combs} (g:GC C) {s t:Nat} (hs:s < 128) (h:st1 C s t):t < 128:=by
 obtain ⟨p,hp,rfl⟩:=h
 exact (zds g hs hp).2
theorem zc1 {C:Combs} (g:GC C) {s:Nat} (hs:s < 128):∀ {n t:Nat},rch C s n t->t < 128
 | 0,t,h=>by rw [show t=s from h]; exact hs
 | n + 1,t,⟨u,h1,h2⟩=>zgP g (zc1 g hs h1) h2
theorem zcv {C:Combs} {s m u:Nat} (h:rch C s m u):∀ {n t:Nat},rch C u n t->rch C s (m + n) t
 | 0,t,h2=>by rw [show t=u from h2]; exact h
 | n + 1,t,⟨v,h1,h2⟩=>⟨v,zcv h h1,h2⟩
theorem zeo {C:Combs} {s m:Nat}:∀ {n t:Nat},rch C s (m + n) t->∃ u,rch C s m u/\rch C u n t
 | 0,t,h=>⟨t,h,rfl⟩
 | n + 1,t,⟨v,h1,h2⟩=>by
  obtain ⟨u,a,b⟩:=zeo h1
  exact ⟨u,a,v,b,h2⟩
theorem zdV {C:Combs} (g:GC C):∀ {k t:Nat},t∈rowN C k ↔ rch C 0 k t
 | 0,t=>A7
 | k + 1,t=>by
  rw [show rowN C (k + 1)=behN C (rowN C k) from rfl,beh_mem]
  constructor
  ·rintro ⟨_,u,hu,p,hp,e⟩
   exact ⟨u,(zdV g).mp hu,p,hp,e⟩
  ·rintro ⟨u,hu,h⟩
   exact ⟨zgP g (zc1 g (by decide) hu) h,u,(zdV g).mpr hu,h⟩
noncomputable def Fil (C:Combs) (n:Nat):Prop:=rch C 0 n 0
theorem fil_zero (C:Combs):Fil C 0:=rfl
theorem zf4 {C:Combs} {s:Nat}:∀ {n t:Nat},rch C s n t->∃ f:Nat->Nat,f n=t/\∀ i,i<=n->rch C s i (f i)/\rch C (f i) (n - i) t
 | 0,t,h=>⟨fun _=>t,rfl,fun i hi=>by
  have:i=0:=by omega
  subst this
  exact ⟨h,rfl⟩⟩
 | n + 1,t,⟨u,h1,h2⟩=>by
  obtain ⟨f,e,hf⟩:=zf4 h1
  refine ⟨fun i=>if i<=n then f i else t,if_neg (by omega),fun i hi => ?_⟩
  dsimp only
  by_cases z:i<=n
  ·rw [if_pos z]
   refine ⟨(hf i z).1,?_⟩
   rw [show n + 1 - i=n - i + 1 by omega]
   exact ⟨u,(hf i z).2,h2⟩
  ·rw [if_neg z]
   have:i=n + 1:=by omega
   subst this
   rw [Fn]
   exact ⟨⟨u,h1,h2⟩,rfl⟩
theorem twice {f:Nat->Nat} (h:∀ i,i<=128->f i < 128):∃ i j,i < j/\j<=128/\f i=f j:=by
 refine De fun z => ?_
 have nd:((Ab 129).map f).Nodup:=by
  rw [List.Nodup,Cb,D1]
  intro i j hi hj hij e
  rw [Nm,Nm] at e
  rw [Ax] at hj
  exact z ⟨i,j,hij,by omega,e⟩
 have:=zav 128 _ nd (fun x hx=>by
  obtain ⟨i,hi,rfl⟩:=Ah.mp hx
  exact h i (by have:=B5.mp hi; omega))
 rw [A5,Ax] at this
 omega
theorem fil_small {C:Combs} (g:GC C):∀ (n:Nat),Fil C n->1<=n->∃ m,1<=m/\m<=128/\Fil C m:=by
 intro n
 induction n using Nat.strongRecOn with
 | _ n ih =>
  intro h h1
  by_cases hn:n<=128
  ·exact ⟨n,h1,hn,h⟩
  obtain ⟨f,e,hf⟩:=zf4 h
  obtain ⟨i,j,hij,hj,ef⟩:=twice (f:=f) fun i hi=>zc1 g (by decide) (hf i (by omega)).1
  have a:=(hf i (by omega)).1
  have b:=(hf j (by omega)).2
  rw [<- ef] at b
  exact ih (i + (n - j)) (by omega) (zcv a b) (by omega)
noncomputable def HR (C:Combs) (k s:Nat):Prop:=rch C 0 k s/\∃ n,rch C s n 0
theorem hr_zero (C:Combs) (s:Nat):HR C 0 s ↔ s=0:=⟨fun h=>h.1,fun h=>⟨h,0,h.symm⟩⟩
theorem hr_step {C:Combs} (k t:Nat):HR C (k + 1) t ↔ (∃ s,HR C k s/\st1 C s t)/\∃ n,rch C t n 0:=by
 constructor
 ·rintro ⟨⟨u,h1,h2⟩,n,h3⟩
  have h4:rch C u 1 t:=⟨u,rfl,h2⟩
  exact ⟨⟨u,⟨h1,1 + n,zcv h4 h3⟩,h2⟩,n,h3⟩
 ·rintro ⟨⟨u,⟨h1,_⟩,h2⟩,h3⟩
  exact ⟨⟨u,h1,h2⟩,h3⟩
theorem hr_fil {C:Combs} {k:Nat}:HR C k 0 ↔ Fil C k:=⟨fun h=>h.1,fun h=>⟨h,0,rfl⟩⟩
theorem hr_turn {C:Combs} {t:Nat} (h:Fil C t) {k s:Nat} (hk:HR C k s):HR C (t + k) s:=⟨zcv h hk.1,hk.2⟩
open Classical in
theorem zfE {C:Combs} (g:GC C) {M:Nat} (nd:∀ i j,i < j->j<=M->¬ ∀ s,HR C i s ↔ HR C j s):M<=16512:=by
 refine Kn fun big => ?_
 by_cases ht:∃ t,1<=t/\t<=128/\Fil C t
 ·obtain ⟨t,t1,t2,hf⟩:=ht
  let A:Nat->List Nat:=fun j=>(Ab 128).filter fun s=>decide (HR C (j * t) s)
  have less:∀ j,j < 129->(A j).length < (A (j + 1)).length:=fun j hj=>by
   have hm:∀ s,HR C (j * t) s->HR C ((j + 1) * t) s:=fun s h=>by
    rw [P2,Mu]
    exact hr_turn hf h
   have hle:(j + 1) * t<=129 * 128:=Nat.mul_le_mul (by omega) t2
   have hne:¬ ∀ s,HR C (j * t) s ↔ HR C ((j + 1) * t) s:=nd _ _ (by rw [P2]; omega) (by omega)
   have ex:∃ s,HR C ((j + 1) * t) s/\¬ HR C (j * t) s:=De fun z=>hne fun s=>⟨hm s,fun h=>De fun y=>z ⟨s,h,y⟩⟩
   obtain ⟨s,h1,h2⟩:=ex
   have hs:s < 128:=zc1 g (by decide) h1.1
   have sub:∀ x∈s :: A j,x∈A (j + 1):=fun x hx=>by
    rcases Bf.mp hx with rfl | hx
    ·exact B9.mpr ⟨B5.mpr hs,decide_eq_true h1⟩
    ·obtain ⟨a,b⟩:=B9.mp hx
     exact B9.mpr ⟨a,decide_eq_true (hm x (of_decide_eq_true b))⟩
   have n1:(s :: A j).Nodup:=Dv.mpr ⟨fun z=>h2 (of_decide_eq_true (B9.mp z).2),Oh.sublist Di⟩
   have:=zcM n1 sub
   rw [Aw] at this
   omega
  have up:∀ j,j<=129->j<=(A j).length:=fun j=>by
   induction j with
   | zero=>exact fun _=>By _
   | succ j ih=>exact fun h=>by have:=ih (by omega); have:=less j (by omega); omega
  have h1:=up 129 (by omega)
  have h2:(A 129).length<=128:=C5 (D6 _ _) (by rw [Ax]; exact Aa _)
  omega
 ·have none:∀ k,1<=k->∀ s,¬ HR C k s:=fun k hk s ⟨h1,n,h2⟩=>by
   obtain ⟨m,a,b,c⟩:=fil_small g (k + n) (zcv h1 h2) (by omega)
   exact ht ⟨m,a,b,c⟩
  exact nd 1 2 (by omega) (by omega) fun s=>⟨fun h=>absurd h (none 1 (by omega) s),fun h=>absurd h (none 2 (by omega) s)⟩
theorem zgO {α : Type} {f g : α -> Nat} {l:List α} (h:∀ x∈l,f x=g x):(l.map f).sum=(l.map g).sum:=by
 rw [Ck h]
noncomputable def Lay (C:Combs) (l:List (Nat×Str)):Prop:=∀ x∈l,x.2∈C.map (·.1)
theorem cov_one {C:Combs} {l:List (Nat×Str)} {x:Nat×Str} (hx:x∈l) {q:Nat} (h:hit C x q=true):1<=cov C l q:=by
 induction l with
 | nil=>cases hx
 | cons y l ih =>
  unfold cov
  rw [Aq,Fp]
  rcases Bf.mp hx with rfl | hx
  ·rw [h]; show 1<=1 + _; omega
  ·have:=ih hx
   unfold cov at this
   omega
noncomputable def Cover (C:Combs) (l:List (Nat×Str)) (n:Nat):Prop:=∀ q,cov C l q=if q < n then 1 else 0
theorem Cover.below {C:Combs} (g:GC C) (nd:(C.map (·.1)).Nodup) {l:List (Nat×Str)} {n:Nat} (hl:Lay C l) (h:Cover C l n) {x:Nat×Str} (hx:x∈l) {q:Nat} (hq:hit C x q=true):q < n:=by
 have h1:=cov_one hx hq
 rw [h q] at h1
 by_cases z:q < n
 ·exact z
 ·rw [if_neg z] at h1; omega
theorem shp_zero {C:Combs} (g:GC C) {l:List (Nat×Str)} {n:Nat} (hl:l∈chs C n):(OkC C l n/\shp C l n=0) ↔ Cover C l n:=by
 constructor
 ·rintro ⟨⟨h1,h2⟩,h3⟩ q
  by_cases z:q < n
  ·rw [if_pos z]; exact h1 q z
  ·rw [if_neg z]
   have h4:=zbB g hl (q - n)
   rw [h3,Gf,show n + (q - n)=q by omega] at h4
   have h5:=of_decide_eq_false h4.symm
   by_cases y:q < n + 8
   ·have:=h2 q y; omega
   ·exact zdh g hl (by omega)
 ·intro h
  refine ⟨⟨fun q hq=>by rw [h q,if_pos hq],fun q _=>by rw [h q]; split <;> omega⟩,zdk fun d => ?_⟩
  rw [zbB g hl,h,if_neg (by omega),Gf]
  rfl
noncomputable def Wy (C:Combs):Nat->Nat->Nat
 | 0,s=>if s=0 then 1 else 0
 | k + 1,s=>((stp C s).map fun p=>Wy C k p.2.toNat).sum
noncomputable def bh (x:Str) (A B:Nat->Nat) (p:Str×Int):Nat:=if p.1=x then A p.2.toNat else B p.2.toNat
noncomputable def Ww (C:Combs) (x:Str):Nat->Nat->Nat
 | 0,_=>0
 | k + 1,s=>((stp C s).map (bh x (Wy C k) (Ww C x k))).sum
theorem zdQ {α : Type} {l:List α} {f : α -> Nat}:0 < (l.map f).sum ↔ ∃ x∈l,0 < f x:=by
 induction l with
 | nil=>simp
 | cons a l ih =>
  rw [Aq,Fp]
  constructor
  ·intro h
   by_cases z:0 < f a
   ·exact ⟨a,Ai,z⟩
   ·obtain ⟨x,hx,h'⟩:=ih.mp (by omega)
    exact ⟨x,Ac _ hx,h'⟩
  ·rintro ⟨x,hx,h⟩
   rcases Bf.mp hx with rfl | hx
   ·omega
   ·have:=ih.mpr ⟨x,hx,h⟩
    omega
structure Sel (C:Combs) (x:Str) (B:Nat->Nat->Nat):Prop where
 zero:∀ s,0 < B 0 s->s=0
 succ:∀ k s,B (k + 1) s=((stp C s).map (bh x (Wy C k) (B k))).sum
noncomputable def ro (C:Combs) (B:Nat->Nat->Nat) (fl:Bool) (k:Nat):Nat->Nat:=if fl=true then Wy C k else B k
noncomputable def sel (C:Combs) (x:Str) (B:Nat->Nat->Nat) (s:Nat) (fl:Bool) (k:Nat):Option (Str×Int):=(stp C s).find? fun p=>decide (0 < bh x (Wy C k) (ro C B fl k) p)
noncomputable def fw (C:Combs) (x:Str) (B:Nat->Nat->Nat) (n:Nat):Nat->Nat×Bool
 | 0=>(0,false)
 | i + 1=>match sel C x B (fw C x B n i).1 (fw C x B n i).2 (n - 1 - i) with
  | some p=>(p.2.toNat,(fw C x B n i).2 || decide (p.1=x))
  | none=>(0,false)
noncomputable def fnm (C:Combs) (x:Str) (B:Nat->Nat->Nat) (n i:Nat):Str:=((sel C x B (fw C x B n i).1 (fw C x B n i).2 (n - 1 - i)).map (·.1)).getD (A0 "")
theorem zhd (C:Combs) (x:Str):Sel C x (Wy C):=by
 refine ⟨fun s h => ?_,fun k s => ?_⟩
 ·have:0 < (if s=0 then 1 else 0):=h
  by_cases z:s=0
  ·exact z
  ·rw [if_neg z] at this; omega
 ·show ((stp C s).map fun p=>Wy C k p.2.toNat).sum=_
  refine zgO fun p _ => ?_
  unfold bh
  split <;> rfl
theorem zgK (C:Combs) (x:Str):Sel C x (Ww C x):=⟨fun s h=>absurd h (Dp 0),fun k s=>rfl⟩
theorem ro_succ {C:Combs} {x:Str} {B:Nat->Nat->Nat} (S:Sel C x B) (fl:Bool) (k s:Nat):ro C B fl (k + 1) s=((stp C s).map (bh x (Wy C k) (ro C B fl k))).sum:=by
 cases fl with
 | false=>exact S.succ k s
 | true=>exact (zhd C x).succ k s
theorem zfi {C:Combs} (g:GC C) {x:Str} {B:Nat->Nat->Nat} (S:Sel C x B) {s k:Nat} (hs:s < 128) {fl:Bool} (h:0 < ro C B fl (k + 1) s):∃ p,sel C x B s fl k=some p/\p∈stp C s/\0<=p.2/\p.2.toNat < 128/\0 < ro C B (fl || decide (p.1=x)) k p.2.toNat:=by
 rw [ro_succ S,zdQ] at h
 obtain ⟨p,hp,h1⟩:=h
 cases e:sel C x B s fl k with
 | none =>
  unfold sel at e
  rw [No] at e
  exact absurd (decide_eq_true h1) (e p hp)
 | some p' =>
  unfold sel at e
  have h2:=Ow e
  have h3:=Hj e
  have h4:=zds g hs h3
  refine ⟨p',rfl,h3,h4.1,h4.2,?_⟩
  have h5:=of_decide_eq_true h2
  unfold bh at h5
  by_cases z:p'.1=x
  ·rw [if_pos z] at h5
   rw [decide_eq_true z,Mi]
   exact h5
  ·rw [if_neg z] at h5
   rw [decide_eq_false z,Lw]
   exact h5
theorem zfP {C:Combs} (g:GC C) {x:Str} {B:Nat->Nat->Nat} (S:Sel C x B) {n:Nat} (h:0 < B n 0):∀ i,i<=n->(fw C x B n i).1 < 128/\0 < ro C B (fw C x B n i).2 (n - i) (fw C x B n i).1
 | 0,_=>⟨show 0 < 128 by decide,h⟩
 | i + 1,hi=>by
  obtain ⟨h1,h2⟩:=zfP g S h i (by omega)
  rw [show n - i=n - 1 - i + 1 by omega] at h2
  obtain ⟨p,e,_,_,p3,p4⟩:=zfi g S h1 h2
  have ef:fw C x B n (i + 1)=(p.2.toNat,(fw C x B n i).2 || decide (p.1=x)):=by
   show (match sel C x B (fw C x B n i).1 (fw C x B n i).2 (n - 1 - i) with
    | some p=>(p.2.toNat,(fw C x B n i).2 || decide (p.1=x))
    | none=>(0,false))=_
   rw [e]
  rw [ef,show n - (i + 1)=n - 1 - i by omega]
  exact ⟨p3,p4⟩
theorem zd6 {C:Combs} (g:GC C) {x:Str} {B:Nat->Nat->Nat} (S:Sel C x B) {n:Nat} (h:0 < B n 0) {i:Nat} (hi:i < n):sel C x B (fw C x B n i).1 (fw C x B n i).2 (n - 1 - i)=some (fnm C x B n i,((fw C x B n (i + 1)).1:Int))/\(fw C x B n (i + 1)).2=((fw C x B n i).2 || decide (fnm C x B n i=x))/\(fnm C x B n i,((fw C x B n (i + 1)).1:Int))∈stp C (fw C x B n i).1:=by
 obtain ⟨h1,h2⟩:=zfP g S h i (by omega)
 rw [show n - i=n - 1 - i + 1 by omega] at h2
 obtain ⟨p,e,p1,p2,p3,p4⟩:=zfi g S h1 h2
 have ef:fw C x B n (i + 1)=(p.2.toNat,(fw C x B n i).2 || decide (p.1=x)):=by
  show (match sel C x B (fw C x B n i).1 (fw C x B n i).2 (n - 1 - i) with
   | some p=>(p.2.toNat,(fw C x B n i).2 || decide (p.1=x))
   | none=>(0,false))=_
  rw [e]
 have en:fnm C x B n i=p.1:=by unfold fnm; rw [e]; rfl
 have ep:(fnm C x B n i,((fw C x B n (i + 1)).1:Int))=p:=by
  rw [en,ef]
  refine Prod.ext rfl ?_
  show ((p.2.toNat:Nat):Int)=p.2
  omega
 rw [ep,e]
 exact ⟨rfl,by rw [ef,en],p1⟩
theorem fw_end {C:Combs} (g:GC C) {x:Str} {B:Nat->Nat->Nat} (S:Sel C x B) {n:Nat} (h:0 < B n 0):(fw C x B n n).1=0:=by
 have h2:=(zfP g S h n (Aa _)).2
 rw [Fn] at h2
 unfold ro at h2
 split at h2
 ·exact (zhd C x).zero _ h2
 ·exact S.zero _ h2
theorem step_lay {C:Combs} (g:GC C) (nd:(C.map (·.1)).Nodup) (ne:∀ c∈C,c.1≠A0 "") {p n:Nat} {l:List (Nat×Str)} (hl:l∈chs C p) (ol:OkC C l p) {x:Str} (h:(x,(n:Int))∈stp C (shp C l p)) :
  (if x=A0 "" then l else l ++ [(p,x)])∈chs C (p + 1)/\OkC C (if x=A0 "" then l else l ++ [(p,x)]) (p + 1)/\shp C (if x=A0 "" then l else l ++ [(p,x)]) (p + 1)=n:=by
 obtain ⟨_,hb⟩:=(stp_bits g (shp_lt _ _ _)).mp h
 rcases hb with ⟨h0,rfl,hb⟩ | ⟨h0,c,hc,rfl,hx,hb⟩
 ·rw [if_pos rfl]
  rw [zbB g hl,decide_eq_true_eq] at h0
  have hm:l∈chs C (p + 1):=Kl.mpr ⟨l,hl,Ai⟩
  refine ⟨hm,(ok_none hl g).mpr ⟨ol,h0⟩,zdk fun d => ?_⟩
  rw [zbB g hm,hb,zbB g hl,show p + 1 + d=p + (d + 1) by omega]
 ·rw [if_neg (ne c hc)]
  rw [zbB g hl,decide_eq_false_iff_not] at h0
  have hz:cov C l p=0:=by have:=ol.2 p (by omega); have h0:¬ cov C l p=1:=h0; omega
  have hm:l ++ [(p,c.1)]∈chs C (p + 1):=Kl.mpr ⟨l,hl,Ac _ (Ah.mpr ⟨c,hc,rfl⟩)⟩
  refine ⟨hm,(ok_some hl g nd hc).mpr ⟨ol,hz,fun d hd=>hx d (by rw [zbB g hl,decide_eq_true hd])⟩,zdk fun d => ?_⟩
  rw [zbB g hm,hb,zbB g hl,show p + 1 + d=p + (d + 1) by omega,zcS,zg0 nd hc]
  have hx':=hx (d + 1)
  rw [zbB g hl,decide_eq_true_eq] at hx'
  have hle:cov C l (p + (d + 1))<=1:=by
   by_cases e':d + 1 < 8
   ·exact ol.2 _ (by omega)
   ·rw [zdh g hl (by omega)]; omega
  by_cases a:cov C l (p + (d + 1))=1
  ·rw [decide_eq_false (hx' a),a]; rfl
  ·have a0:cov C l (p + (d + 1))=0:=by omega
   by_cases z:((d + 1:Nat):Int)∈c.2
   ·rw [decide_eq_true z,a0]; rfl
   ·rw [decide_eq_false z,a0]; rfl
noncomputable def laysOf (nm:Nat->Str) (n:Nat):List (Nat×Str):=(laid nm n).map fun j=>(j,nm j)
theorem laysOf_succ (nm:Nat->Str) (i:Nat):laysOf nm (i + 1)=if nm i=A0 "" then laysOf nm i else laysOf nm i ++ [(i,nm i)]:=by
 unfold laysOf laid
 rw [E6,Db]
 by_cases h:nm i=A0 ""
 ·rw [if_pos h,Cy,if_neg (by simp [h]),F6,C9]
 ·rw [if_neg h,Cy,if_pos (by simp [h]),F6,Bs]
  rfl
theorem zge {C:Combs} (g:GC C) (nd:(C.map (·.1)).Nodup) (ne:∀ c∈C,c.1≠A0 "") {f:Nat->Nat} {nm:Nat->Str} {n:Nat} (h0:f 0=0) (hs:∀ i,i < n->(nm i,(f (i + 1):Int))∈stp C (f i)):∀ i,i<=n->laysOf nm i∈chs C i/\OkC C (laysOf nm i) i/\shp C (laysOf nm i) i=f i
 | 0,_=>⟨A7.mpr rfl,⟨fun q hq=>by omega,fun q _=>By _⟩,by rw [h0]; rfl⟩
 | i + 1,hi=>by
  obtain ⟨h1,h2,h3⟩:=zge g nd ne h0 hs i (by omega)
  have:=step_lay g nd ne h1 h2 (x:=nm i) (n:=f (i + 1)) (by rw [h3]; exact hs i (by omega))
  rw [laysOf_succ]
  exact this
theorem path_cover {C:Combs} (g:GC C) (nd:(C.map (·.1)).Nodup) (ne:∀ c∈C,c.1≠A0 "") {f:Nat->Nat} {nm:Nat->Str} {n:Nat} (h0:f 0=0) (hn:f n=0) (hs:∀ i,i < n->(nm i,(f (i + 1):Int))∈stp C (f i)):laysOf nm n∈chs C n/\Cover C (laysOf nm n) n:=by
 obtain ⟨h1,h2,h3⟩:=zge g nd ne h0 hs n (Aa _)
 exact ⟨h1,(shp_zero g h1).mp ⟨h2,by rw [h3,hn]⟩⟩
theorem fw_cover {C:Combs} (g:GC C) (nd:(C.map (·.1)).Nodup) (ne:∀ c∈C,c.1≠A0 "") {x:Str} {B:Nat->Nat->Nat} (S:Sel C x B) {n:Nat} (h:0 < B n 0):laysOf (fnm C x B n) n∈chs C n/\Cover C (laysOf (fnm C x B n) n) n :=
 path_cover g nd ne (f:=fun i=>(fw C x B n i).1) rfl (fw_end g S h) fun i hi=>(zd6 g S h hi).2.2
noncomputable def LyR (H:Hp) (vs:List V) (l:List (Nat×Str)):Prop:=C7 (fun (x:Nat×Str) (u:V)=>∃ t,u = .ref t/\H t=some (.tup [.int (x.1:Int),.str x.2])) l vs
theorem lays_ly {H:Hp} {vs:List V} {nm:Nat->Str} {n:Nat} (r:LaysR H vs nm n):LyR H vs (laysOf nm n):=by
 have all:∀ {L:List Nat} {vs:List V},C7 (fun (j:Nat) (v:V)=>∃ q,v = .ref q/\H q=some (.tup [.int (j:Int),.str (nm j)])) L vs->LyR H vs (L.map fun j=>(j,nm j)):=by
  intro L vs r
  induction r with
  | nil=>exact .nil
  | cons h _ ih=>exact .cons h ih
 exact all r
theorem laysOf_up (nm:Nat->Str) (n:Nat):(laysOf nm n).Pairwise fun x y=>x.1 < y.1:=by
 unfold laysOf
 rw [Cb]
 exact laid_up nm n
theorem cov_perm {C C':Combs} (p:C.Perm C') (nd:(C.map (·.1)).Nodup) (l:List (Nat×Str)) (q:Nat):cov C l q=cov C' l q:=by
 unfold cov
 refine zgO fun x _ => ?_
 unfold hit tkOf
 rw [tk_perm p nd]
theorem cover_perm {C C':Combs} (p:C.Perm C') (nd:(C.map (·.1)).Nodup) {l:List (Nat×Str)} {n:Nat} (h:Cover C l n):Cover C' l n:=fun q=>by rw [<- cov_perm p nd]; exact h q
theorem lay_perm {C C':Combs} (p:C.Perm C') {l:List (Nat×Str)} (h:Lay C l):Lay C' l:=fun x hx=>(p.map _).mem_iff.mp (h x hx)
end L2
set_option maxHeartbeats 4000000
namespace K24
open PySem L2 PyProof.Rows
noncomputable def top (i:Nat):Cj:=PySem.Challenge.pw_combstrip_k24_filling_with.main.body.getD i (.Pass ⟨0,0,0,0⟩)
noncomputable abbrev s__wall:Cj:=top 0
noncomputable abbrev s_shape_steps:Cj:=top 26
noncomputable abbrev s_teeth_worth:Cj:=top 27
noncomputable abbrev s_step_table:Cj:=top 28
noncomputable abbrev s_first_filling_with:Cj:=top 30
noncomputable abbrev s_check_length:Cj:=top 31
noncomputable abbrev s_ways_to_close:Cj:=top 32
noncomputable abbrev s_ways_to_lay:Cj:=top 33
noncomputable abbrev s_ways_from:Cj:=top 34
noncomputable abbrev s_ways_behind:Cj:=top 35
noncomputable abbrev s_lay_first:Cj:=top 36
noncomputable abbrev s_first_open_step:Cj:=top 37
noncomputable abbrev s_is_name:Cj:=top 39
noncomputable abbrev s_is_small_letter:Cj:=top 40
noncomputable abbrev s_are_teeth:Cj:=top 41
noncomputable abbrev s_Book___init__:Cj:=inClass (top 43) 0
noncomputable abbrev s_Book_put:Cj:=inClass (top 43) 1
noncomputable abbrev s_Book_drop:Cj:=inClass (top 43) 2
noncomputable abbrev s_Book_add_tooth:Cj:=inClass (top 43) 3
noncomputable abbrev s_Book_take_off:Cj:=inClass (top 43) 4
noncomputable abbrev s_Book_undo:Cj:=inClass (top 43) 5
noncomputable abbrev s_Book_deeds:Cj:=inClass (top 43) 6
noncomputable abbrev s_Book_names:Cj:=inClass (top 43) 7
noncomputable abbrev s_Book_teeth:Cj:=inClass (top 43) 8
noncomputable abbrev s_Book_check_comb:Cj:=inClass (top 43) 9
noncomputable abbrev s_Book_set_comb:Cj:=inClass (top 43) 10
noncomputable abbrev s_Book_do_deed:Cj:=inClass (top 43) 11
noncomputable abbrev s_at:Cj:=top 45
noncomputable abbrev s_mixed:Cj:=top 46
noncomputable abbrev s_word:Cj:=top 47
noncomputable abbrev s_spare:Cj:=top 48
noncomputable abbrev s_menu:Cj:=top 49
noncomputable abbrev s_combs:Cj:=top 50
noncomputable abbrev s_book:Cj:=top 51
noncomputable abbrev s_after:Cj:=top 52
noncomputable abbrev s_goes:Cj:=top 53
noncomputable abbrev s_graph:Cj:=top 54
noncomputable abbrev s_home:Cj:=top 55
noncomputable abbrev s_fits:Cj:=top 56
noncomputable abbrev s_length:Cj:=top 57
noncomputable abbrev s_ends:Cj:=top 58
noncomputable abbrev s_endswith:Cj:=top 59
noncomputable abbrev s_whole:Cj:=top 60
noncomputable abbrev s_laying:Cj:=top 61
noncomputable abbrev s_layings:Cj:=top 62
noncomputable abbrev s_teeth:Cj:=top 63
noncomputable abbrev s_covers:Cj:=top 64
noncomputable abbrev s_kind:Cj:=top 65
noncomputable abbrev s_refused:Cj:=top 66
noncomputable abbrev s_asked:Cj:=top 67
noncomputable abbrev s_due:Cj:=top 68
noncomputable abbrev s_law:Cj:=top 69
section
variable {P:Ap} {w:Bb} {K:Am} {mg:Str->Option A2} {base:Bx}
theorem zgZ {a b:Nat}:([a] < [b]) ↔ a < b:=by
 rw [List.cons_lt_cons_iff]
 simp
theorem le_a (c:Nat):(!decide ((⟨#[c]⟩:Str).cps.toList < (A0 "a").cps.toList))=decide (97<=c):=by
 have e:(A0 "a").cps.toList = [97]:=by decide +kernel
 rw [e]
 show (!decide ([c] < [97]))=_
 rw [Bq]
 simp only [Fy,decide_eq_false_iff_not,decide_eq_true_eq,zgZ]
 omega
theorem le_z (c:Nat):(!decide ((A0 "z").cps.toList < (⟨#[c]⟩:Str).cps.toList))=decide (c<=122):=by
 have e:(A0 "z").cps.toList = [122]:=by decide +kernel
 rw [e]
 show (!decide ([122] < [c]))=_
 rw [Bq]
 simp only [Fy,decide_eq_false_iff_not,decide_eq_true_eq,zgZ]
 omega
noncomputable def sp_small:Sp:=fun vs H Q _=>∃ c:Nat,vs = [sgn c]/\Q (.bl (small c)) H
theorem zbw:FnScope ["sign"] ["sign"] (defScope s_is_small_letter):=⟨rfl,rfl,rfl,by decide +kernel,rfl,by decide +kernel,by decide +kernel⟩
theorem ok_small (D:DefAt K mg "is_small_letter" s_is_small_letter) (T:Bn mg):Callee P w K mg base "is_small_letter" 1 ["sign"] sp_small:=by
 refine D.callee zbw (fun _ _ _ _ _ _=>ln1 fun _=>rfl) (fun vs H Q E h => ?_) (fun f cdv A outer s H vs Q E hr h => ?_)
 ·obtain ⟨c,rfl,_⟩:=h
  rfl
 ·obtain ⟨c,rfl,q⟩:=h
  have S:=zbw
  refine ⟨_,zah (zam (zfu zes zes (zaw) (pv 0) (zaw))),?_⟩
  refine ⟨_,rfl,_,_,rfl,rfl,_,rfl,?_⟩
  rw [le_a]
  have q':Q (.bl (decide (97<=c) && decide (c<=122))) H:=q
  cases e:decide (97<=c) with
  | false =>
   rw [if_neg A9]
   rw [e] at q'
   exact q'
  | true =>
   rw [if_pos rfl]
   refine ⟨_,_,rfl,rfl,?_⟩
   rw [le_z]
   rw [e] at q'
   exact q'
noncomputable def sp_name:Sp:=fun vs H Q _=>∃ x:Str,vs = [.str x]/\x.length<=sizeLine/\∀ H',Same H H'->Q (.bl (isName x)) H'
theorem zdB:FnScope ["text"] ["text"] (defScope s_is_name):=⟨rfl,rfl,rfl,by decide +kernel,rfl,by decide +kernel,by decide +kernel⟩
theorem ok_name (D:DefAt K mg "is_name" s_is_name) (T:Bn mg) (V_MOST_NAME:∃ t,mg "MOST_NAME" = some (.int 6 t)) (C_is_small_letter:Callee P w K mg base "is_small_letter" 1 ["sign"] sp_small):Callee P w K mg base "is_name" 2 ["text"] sp_name:=by
 refine D.callee zdB (fun _ _ _ _ _ _=>ln1 fun _=>rfl) (fun vs H Q E h => ?_) (fun f cdv A outer s H vs Q E hr h => ?_)
 ·obtain ⟨c,rfl,_⟩:=h
  rfl
 ·obtain ⟨x,rfl,hx,q⟩:=h
  have S:=zdB
  refine ⟨_,zae (zaL (zbQ (zdW zet zet (zad) (zai call_len_str rfl T.n_len Bu (zaa (pv 0) zac)) (zb7 rfl V_MOST_NAME)))
   (zah (zam (zbH)))
   (zap))
  (zah (zam (zai (zeb rfl) rfl T.n_all Rs (zaa (za3 (own := ["sign"]) (caps := []) rfl ⟨rfl,rfl,rfl,rfl,trivial⟩ (zgT (pv 0)) (fun _ _ _ _ _ _=>zaj (i:=0) (zaP (by decide +kernel)) rfl (As rfl)) (fun _ _ _ _ _ _=>zbm) (fun _ _ _ _ _ _=>zaR C_is_small_letter (hr.mono (by decide)) rfl (zaa (pv 0) zac))) zac)))),?_⟩
  have fin:∀ H',Same H H'->(decide (1<=x.length) && decide (x.length<=6))=false->Q (.bl false) H':=fun H' s' e=>by
   have:=q H' s'
   unfold isName at this
   rw [e] at this
   exact this
  refine ⟨_,rfl,_,rfl,hx,_,_,rfl,rfl,_,rfl,?_⟩
  refine ite2 (fun h1 => ?_) (fun h1 => ?_)
  ·refine ⟨_,_,rfl,rfl,_,rfl,?_⟩
   refine ite2 (fun h2 => ?_) (fun h2 => ?_)
   ·refine fin H (Same.refl H) ?_
    have:¬ (x.length:Int)<=6:=by simpa using h2
    rw [N1]
    exact .inr (decide_eq_false (by omega))
   ·refine ⟨_,rfl,_,rfl,fun D hD => ?_⟩
    refine zbV (capv := []) (L:=x.cps.toList.map sgn) (by rfl) (zeH x) (by rw [A5,zcs]; exact hx) hD ?_ (fun _=>true) (fun v=>match v with | .str y => .bl (small (y.cps.getD 0 0)) | _ => .non) ?_ ?_ ?_
    ·exact fun _ _=>trivial
    ·exact fun v hv H' R s' h=>h H' (Same.refl _)
    ·intro v hv _ H' R s' h
     obtain ⟨c,hc,rfl⟩:=Ah.mp hv
     exact ⟨_,rfl,c,rfl,h H' (Same.refl _)⟩
    ·intro H' s' e
     refine ⟨_,x.cps.toList.map small,rfl,?_,?_⟩
     ·refine SqL.of ?_
      rw [e]
      congr 2
      rw [Cm.mpr (fun _ _=>rfl),Bp,Bp]
      rfl
     ·have:=q H' s'
      unfold isName at this
      have h3:¬ ¬ (x.length:Int)<=6:=by simpa using h2
      have h1':(1:Int)<=x.length:=by simpa using h1
      rw [decide_eq_true (show 1<=x.length by omega),decide_eq_true (show x.length<=6 by omega)] at this
      rw [Im]
      exact this
  ·refine ⟨_,rfl,?_⟩
   refine fin H (Same.refl H) ?_
   have h1':¬ (1:Int)<=x.length:=by simpa using h1
   rw [N1]
   exact .inl (decide_eq_false (by omega))
noncomputable def sp_teeth (K:Am):Sp:=fun vs H Q _=>∃ (a:A3) (ts:List Int),vs = [.ref a]/\SqL K H a (ts.map V.int)/\ts.length<=1000/\∀ H',Same H H'->Q (.bl (areTeeth ts)) H'
theorem zcG:FnScope ["teeth"] ["teeth"] (defScope s_are_teeth):=⟨rfl,rfl,rfl,by decide +kernel,rfl,by decide +kernel,by decide +kernel⟩
theorem ok_teeth (D:DefAt K mg "are_teeth" s_are_teeth) (T:Bn mg) (V_MOST_TOOTH:∃ t,mg "MOST_TOOTH" = some (.int 7 t)):Callee P w K mg base "are_teeth" 1 ["teeth"] (sp_teeth K):=by
 refine D.callee zcG (fun _ _ _ _ _ _=>ln1 fun _=>rfl) (fun vs H Q E h => ?_) (fun f cdv A outer s H vs Q E hr h => ?_)
 ·obtain ⟨a,ts,rfl,_⟩:=h
  rfl
 ·obtain ⟨a,ts,rfl,ha,hl,q⟩:=h
  have S:=zcG
  unfold areTeeth at q
  refine ⟨_,zae (zaL (zas zbS (zad) (pv 0) (by with_unfolding_all rfl))
   (zah (zam (zbH)))
   (zap))
  (zae (zaL (zas zer (zai call_lenS rfl T.n_len Bu (zaa (zbr (call_set1 rfl) rfl T.n_set boot_set (zaa (pv 0) zac)) zac)) (zai zar rfl T.n_len Bu (zaa (pv 0) zac)) (zax _))
   (zah (zam (zbH)))
   (zap))
  (zah (zam (zai (zeb rfl) rfl T.n_all Rs (zaa (za3 (own := ["tooth"]) (caps := []) rfl ⟨rfl,rfl,rfl,rfl,trivial⟩ (zaC (pv 0)) (fun _ _ _ _ _ _=>zaj (i:=0) (zaP (by decide +kernel)) rfl (As rfl)) (fun _ _ _ _ _ _=>zbm) (fun _ _ _ _ _ _=>zfu zet zet (zad) (pv 0) (zb7 rfl V_MOST_TOOTH))) zac))))),?_⟩
  refine ⟨_,rfl,_,_,rfl,.inl ha,rfl,zhh ts,_,rfl,?_⟩
  rw [if_pos rfl,in_zero]
  refine ite2 (fun hc => ?_) (fun hc => ?_)
  ·have h0:decide (0∈ts)=false:=by simpa using hc
   rw [h0] at q
   exact q H (Same.refl H)
  ·have h0:decide (0∈ts)=true:=by simpa using hc
   rw [h0,F8] at q
   refine ⟨_,rfl,_,ts,rfl,ha,?_,fun p np => ?_⟩
   ·show ts.length + 1 < 4096
    omega
   have s1:Same H (upd H p (.set (fun k=>(firstMet (fun i=>ts.getD i 0) ts.length).any (· == k)) (many ts))):=Same.new np
   refine ⟨_,_,_,rfl,zab,_,rfl,_,_,rfl,.inl (s1.seq ha),rfl,_,rfl,?_⟩
   rw [A5]
   refine ite2 (fun hm => ?_) (fun hm => ?_)
   ·have h1:¬ many ts=ts.length:=fun z=>by simp [z] at hm
    rw [decide_eq_false h1,Fj] at q
    exact q _ s1
   ·have h1:many ts=ts.length:=by
     have:(many ts:Int)=(ts.length:Int):=by simpa using hm
     omega
    rw [decide_eq_true h1,F8] at q
    refine ⟨_,rfl,_,rfl,⟨_,s1.seq ha⟩,fun D hD => ?_⟩
    refine zbV (capv := []) (L:=ts.map V.int) (by rfl) (zao K a (ts.map V.int)) (by rw [A5]; exact big hl) hD ?_ (fun _=>true) (fun v=>match v with | .int t => .bl (inR t) | _ => .non) ?_ ?_ ?_
    ·exact fun H' s'=>(s1.trans s').seq ha
    ·exact fun v hv H' R s' h=>h H' (Same.refl _)
    ·intro v hv _ H' R s' h
     obtain ⟨t,ht,rfl⟩:=Ah.mp hv
     have h:=h H' (Same.refl _)
     have h:R (.bl (decide (0<=t) && decide (t<=7))) H':=h
     refine ⟨_,rfl,_,_,rfl,rfl,_,rfl,?_⟩
     cases e:decide (0<=t) with
     | false =>
      rw [e] at h
      exact iteF h
     | true =>
      rw [e] at h
      exact iteT ⟨_,_,rfl,rfl,h⟩
    ·intro H' s' e
     refine ⟨_,ts.map inR,rfl,?_,?_⟩
     ·refine SqL.of ?_
      rw [e]
      congr 2
      rw [Cm.mpr (fun _ _=>rfl),Bp,Bp]
      rfl
     ·have:=q H' (s1.trans s')
      rw [Im]
      exact this
theorem zbI {d l:V}:([("combs",d),("past",l)]:List (Str×V)).lookup (A0 "combs")=some d:=rfl
theorem zd1 {d l:V}:([("combs",d),("past",l)]:List (Str×V)).lookup (A0 "past")=some l:=rfl
theorem putF_combs {y d l:V}:putF (A0 "combs") y [("combs",d),("past",l)] = [(A0 "combs",y),(A0 "past",l)]:=by
 unfold putF
 rw [if_pos rfl]
theorem putF_new {y:V}:putF (A0 "combs") y [] = [(A0 "combs",y)]:=rfl
theorem putF_past {y d:V}:putF (A0 "past") y [("combs",d)] = [(A0 "combs",d),(A0 "past",y)]:=by
 have h:¬ (A0 "combs" = A0 "past"):=by decide +kernel
 unfold putF
 rw [if_neg h]
 rfl
theorem two_len {a b:Str×V} : [a,b].length < 1000:=show 2 < 1000 by decide
noncomputable def sp_check (ea:Nat->A3) (C:A3):Sp:=fun vs H Q E=>∃ b l G cs past x,vs = [.ref b,.str x]/\Bk C G H b l cs past/\(if (cGet cs x).isSome=true then Q .non H else E (.ref (ea 4)) none H)
theorem zby:FnScope ["self","name"] ["self","name"] (defScope s_Book_check_comb):=⟨rfl,rfl,rfl,by decide +kernel,rfl,by decide +kernel,by decide +kernel⟩
theorem ok_check {ea:Nat->A3} {C:A3} (D:MethAt K C "Book" "check_comb" s_Book_check_comb) (T:Bn mg) (BA:BookAt K C) (O_NoComb:Err K mg "NoComb" (ea 4)):Method P w K mg base C "check_comb" (CX1 P w) 1 ["self","name"] (sp_check ea C):=by
 refine D.meth1 zby (fun _ _ _ _ _ _=>ln2 fun _ _=>rfl) (fun vs H Q E h => ?_) (fun f cdv A outer s H vs Q E hr h => ?_)
 ·obtain ⟨b,l,G,cs,past,x,rfl,_⟩:=h
  rfl
 ·obtain ⟨b,l,G,cs,past,x,rfl,B,q⟩:=h
  have S:=zby
  have hu:=zcm hr
  obtain ⟨dx,d,hb,gd,kvs,hd,kr⟩:=B.ins
  refine ⟨_,zah (zaL (zcH (zc3 hu (pv 1) (zbR (pv 0) rfl)))
   (zah (zbq O_NoComb rfl (zaa (zaw) zac)))
   (zap)),?_⟩
  refine ⟨_,rfl,_,rfl,_,_,_,_,_,rfl,hb,BA.cls,BA.nc,zbI,d,_,rfl,DGet.k (k:=Dj x) hd,_,rfl,?_⟩
  rw [kr.some]
  cases e:(cGet cs x).isSome with
  | false =>
   rw [e] at q
   exact iteT ⟨bigr rfl,q⟩
  | true =>
   rw [e] at q
   exact iteF q
noncomputable def sp_do (ea:Nat->A3) (C:A3):Sp:=fun vs H Q E=>∃ b l G cs past d D cs',vs = [.ref b,.ref d]/\Bk C G H b l cs past/\DictR D H d cs'/\Good cs'/\(∀ x,D x->x≠b/\x≠l/\H x≠none) /\
 (if 300<=past.length then E (.ref (ea 9)) none H else ∀ H',(∀ a,a≠b->a≠l->H' a=H a)->Bk C (fun a=>G a\/D a) H' b l cs' (past ++ [cs])->Q (.int ((past.length:Int) + 1)) H')
theorem zbP:FnScope ["self","combs"] ["self","combs"] (defScope s_Book_do_deed):=⟨rfl,rfl,rfl,by decide +kernel,rfl,by decide +kernel,by decide +kernel⟩
theorem ok_do {ea:Nat->A3} {C:A3} (D:MethAt K C "Book" "do_deed" s_Book_do_deed) (T:Bn mg) (BA:BookAt K C) (V_MOST_DEEDS:∃ t,mg "MOST_DEEDS" = some (.int 300 t)) (O_DeedsFull:Err K mg "DeedsFull" (ea 9)):Method P w K mg base C "do_deed" (CX1 P w) 1 ["self","combs"] (sp_do ea C):=by
 refine D.meth1 zbP (fun _ _ _ _ _ _=>ln2 fun _ _=>rfl) (fun vs H Q E h => ?_) (fun f cdv A outer s H vs Q E hr h => ?_)
 ·obtain ⟨b,l,G,cs,past,d,D,cs',rfl,_⟩:=h
  rfl
 ·obtain ⟨b,l,G,cs,past,d1,Dd,cs',rfl,B,dr,gd',nD,q⟩:=h
  have S:=zbP
  have hu:=zcm hr
  obtain ⟨dx,d,hb,dr0⟩:=B.ins
  obtain ⟨vs,hl,pr⟩:=B.lst
  have hlen:=pr.length
  have hbl:b≠l:=zhg hb hl (by intro z; cases z)
  refine ⟨_,zae (zaL (zas zhf (zai zar rfl T.n_len Bu (zaa (zbR (pv 0) rfl) zac)) (zb7 rfl V_MOST_DEEDS) (zax _))
   (zah (zbq O_DeedsFull rfl (zaa (zaw) zac)))
   (zap))
  (zae (zaW (zcj Bh Bl Bj zaH (zbR (pv 0) rfl) (zaa (zbR (pv 0) rfl) zac)))
  (zae (zf7 (pv 0) (pv 1) rfl)
  (zah (zam (zai zar rfl T.n_len Bu (zaa (zbR (pv 0) rfl) zac)))))),?_⟩
  refine ⟨_,rfl,_,_,_,_,_,rfl,hb,BA.cls,BA.np,zd1,_,_,rfl,.inl (SqL.of hl),_,_,rfl,rfl,_,rfl,?_⟩
  refine ite2 (fun hc => ?_) (fun hc => ?_)
  ·have h300:300<=past.length:=by
    have:(300:Int)<=(vs.length:Int):=by simpa using hc
    omega
   rw [if_pos h300] at q
   exact ⟨bigr rfl,q⟩
  ·have h300:¬ 300<=past.length:=by
    have:¬ (300:Int)<=(vs.length:Int):=by simpa using hc
    omega
   rw [if_neg h300] at q
   refine ⟨_,rfl,_,_,_,_,_,rfl,hb,BA.cls,BA.np,zd1,.inl ⟨rfl,_,SqL.of hl⟩,_,rfl,_,_,_,_,_,rfl,hb,BA.cls,BA.nc,zbI,_,_,_,rfl,rfl,hl,?_,?_⟩
   ·exact Ae (by omega:vs.length < 1000) zaK
   have hb1:upd H l (.lst (vs ++ [.ref d])) b=some (.ins C dx [("combs",.ref d),("past",.ref l)]):=by rw [zaf hbl]; exact hb
   refine ⟨_,rfl,_,rfl,_,_,_,_,rfl,hb1,BA.cls,BA.nc,two_len,?_⟩
   rw [putF_combs]
   have hb2:upd (upd H l (.lst (vs ++ [.ref d]))) b (.ins C dx [("combs",.ref d1),("past",.ref l)]) b=some (.ins C dx [("combs",.ref d1),("past",.ref l)]):=zab
   have hl2:upd (upd H l (.lst (vs ++ [.ref d]))) b (.ins C dx [("combs",.ref d1),("past",.ref l)]) l=some (.lst (vs ++ [.ref d])):=by rw [zaf (E7 hbl),zab]
   have off:∀ a,a≠b->a≠l->upd (upd H l (.lst (vs ++ [.ref d]))) b (.ins C dx [("combs",.ref d1),("past",.ref l)]) a=H a:=fun a n1 n2=>by rw [zaf n1,zaf n2]
   generalize upd (upd H l (.lst (vs ++ [.ref d]))) b (.ins C dx [("combs",.ref d1),("past",.ref l)])=H2 at hb2 hl2 off
   refine ⟨_,rfl,_,_,_,_,_,rfl,hb2,BA.cls,BA.np,zd1,_,_,rfl,.inl (SqL.of hl2),?_⟩
   rw [Ag,Bd,hlen]
   have sG:∀ a o,G a->H a=some o->H2 a=some o:=fun a o g e=>(off a (fun z=>B.nb (z ▸ g)) (fun z=>B.nl (z ▸ g))).trans e
   have sD:∀ a o,Dd a->H a=some o->H2 a=some o:=fun a o g e=>(off a (nD a g).1 (nD a g).2.1).trans e
   refine q H2 off ⟨?_,?_,?_,⟨dx,d1,hb2,dr.mono sD fun _ g => .inr g⟩,⟨_,hl2,?_⟩,gd',?_,?_⟩
   ·rintro x (g | g)
    ·rw [off x (fun z=>B.nb (z ▸ g)) (fun z=>B.nl (z ▸ g))]; exact B.live x g
    ·rw [off x (nD x g).1 (nD x g).2.1]; exact (nD x g).2.2
   ·rintro (g | g)
    ·exact B.nb g
    ·exact (nD b g).1 rfl
   ·rintro (g | g)
    ·exact B.nl g
    ·exact (nD l g).2.1 rfl
   ·exact Ev (Mc (fun _ _ ⟨d,e,r⟩=>⟨d,e,r.mono sG fun _ g => .inl g⟩) pr) ⟨d,rfl,dr0.mono sG fun _ g => .inl g⟩
   ·intro p hp
    rcases Al.mp hp with z | z
    ·exact B.goods p z
    ·rw [A7.mp z]; exact B.good
   ·rw [Ag,Bd]; omega
noncomputable def sp_deeds (C:A3):Sp:=fun vs H Q _=>∃ b l G cs past,vs = [.ref b]/\Bk C G H b l cs past/\Q (.int (past.length:Int)) H
theorem zch:FnScope ["self"] ["self"] (defScope s_Book_deeds):=⟨rfl,rfl,rfl,by decide +kernel,rfl,by decide +kernel,by decide +kernel⟩
theorem ok_deeds {C:A3} (D:MethAt K C "Book" "deeds" s_Book_deeds) (T:Bn mg) (BA:BookAt K C):Method P w K mg base C "deeds" CX0 1 ["self"] (sp_deeds C):=by
 refine D.meth0 zch (fun _ _ _ _ _ _=>ln1 fun _=>rfl) (fun vs H Q E h => ?_) (fun f cdv A outer s H vs Q E hr h => ?_)
 ·obtain ⟨b,l,G,cs,past,rfl,_⟩:=h
  rfl
 ·obtain ⟨b,l,G,cs,past,rfl,B,q⟩:=h
  have S:=zch
  obtain ⟨dx,d,hb,dr0⟩:=B.ins
  obtain ⟨vs,hl,pr⟩:=B.lst
  refine ⟨_,zah (zam (zai zar rfl T.n_len Bu (zaa (zbR (pv 0) rfl) zac))),?_⟩
  refine ⟨_,rfl,_,_,_,_,_,rfl,hb,BA.cls,BA.np,zd1,_,_,rfl,.inl (SqL.of hl),?_⟩
  rw [pr.length]
  exact q
noncomputable def sp_names (C:A3):Sp:=fun vs H Q _=>∃ b l G cs past,vs = [.ref b]/\Bk C G H b l cs past/\∀ p (nm:List Str),H p=none->nm.Perm (cs.map (·.1))->sortedS nm=true->Q (.ref p) (upd H p (.lst (nm.map V.str)))
theorem zcg:FnScope ["self"] ["self"] (defScope s_Book_names):=⟨rfl,rfl,rfl,by decide +kernel,rfl,by decide +kernel,by decide +kernel⟩
theorem ok_names {C:A3} (D:MethAt K C "Book" "names" s_Book_names) (T:Bn mg) (BA:BookAt K C):Method P w K mg base C "names" CX0 1 ["self"] (sp_names C):=by
 refine D.meth0 zcg (fun _ _ _ _ _ _=>ln1 fun _=>rfl) (fun vs H Q E h => ?_) (fun f cdv A outer s H vs Q E hr h => ?_)
 ·obtain ⟨b,l,G,cs,past,rfl,_⟩:=h
  rfl
 ·obtain ⟨b,l,G,cs,past,rfl,B,q⟩:=h
  have S:=zcg
  obtain ⟨dx,d,hb,gd,kvs,hd,kr⟩:=B.ins
  refine ⟨_,zah (zam (zai (call_sortedD rfl) rfl T.n_sorted Jy (zaa (zbR (pv 0) rfl) zac))),?_⟩
  refine ⟨_,rfl,_,_,_,_,_,rfl,hb,BA.cls,BA.nc,zbI,d,kvs,cs.map (·.1),rfl,.inl hd,kr.keys,?_,q⟩
  rw [A5]
  have:=B.good.len
  omega
noncomputable def sp_bteeth (ea:Nat->A3) (C:A3):Sp:=fun vs H Q E=>∃ b l G cs past x,vs = [.ref b,.str x]/\Bk C G H b l cs past/\(match cGet cs x with | some ts=>∀ p,H p=none->Q (.ref p) (upd H p (.lst (ts.map V.int))) | none=>E (.ref (ea 4)) none H)
theorem zcf:FnScope ["self","name"] ["self","name"] (defScope s_Book_teeth):=⟨rfl,rfl,rfl,by decide +kernel,rfl,by decide +kernel,by decide +kernel⟩
theorem ok_bteeth {ea:Nat->A3} {C:A3} (D:MethAt K C "Book" "teeth" s_Book_teeth) (T:Bn mg) (BA:BookAt K C) (M_check_comb:Method P w K mg base C "check_comb" (CX1 P w) 1 ["self","name"] (sp_check ea C)):Method P w K mg base C "teeth" (CX1 P w) 2 ["self","name"] (sp_bteeth ea C):=by
 refine D.meth1 zcf (fun _ _ _ _ _ _=>ln2 fun _ _=>rfl) (fun vs H Q E h => ?_) (fun f cdv A outer s H vs Q E hr h => ?_)
 ·obtain ⟨b,l,G,cs,past,x,rfl,_⟩:=h
  rfl
 ·obtain ⟨b,l,G,cs,past,x,rfl,B,q⟩:=h
  have S:=zcf
  have hu:=zcm hr
  have B_cls:=BA.cls
  obtain ⟨dx,d,hb,gd,kvs,hd,kr⟩:=id B.ins
  refine ⟨_,zae (zaW (zfM (pv 0) B_cls M_check_comb (hr.mono (by decide)) (by first | exact zdZ | exact za1 | exact zcz | exact zbh) (zaa (pv 1) zac)))
  (zah (zam (zbr zbW rfl T.n_list Nh (zaa (zb8 hu (zbR (pv 0) rfl) (pv 1) (fun _ _=>rfl)) zac)))),?_⟩
  refine ⟨_,rfl,_,_,_,rfl,hb,rfl,_,rfl,b,l,G,cs,past,x,rfl,B,?_⟩
  rcases kr.val (x:=x) with ⟨e1,e2⟩ | ⟨ts,t,e1,e2,e3,e4⟩
  ·rw [e1] at q ⊢
   exact q
  ·rw [e1] at q ⊢
   refine iteT ?_
   refine ⟨_,rfl,_,_,_,_,_,rfl,hb,BA.cls,BA.nc,zbI,_,rfl,d,_,rfl,?_,_,_,rfl,.inl (SqL.of e3),q⟩
   rw [<- e2]
   exact DGet.k (k:=Dj x) hd
noncomputable def sp_init (C:A3):Sp:=fun vs H Q _=>∃ b dx,vs = [.ref b]/\H b=some (.ins C dx [])/\∀ H' l d,Mv b b (fun _=>False) (fun a=>a=d) H H'->H l=none->H d=none->Bk C (fun a=>a=d) H' b l [] []->Q .non H'
theorem zbN:FnScope ["self"] ["self"] (defScope s_Book___init__):=⟨rfl,rfl,rfl,by decide +kernel,rfl,by decide +kernel,by decide +kernel⟩
theorem ok_init {C:A3} {f:A3} {fd:Ek} (F:Fun K "__init__" "Book.__init__" s_Book___init__ f fd) (T:Bn mg) (BA:BookAt K C):FnOk P w K mg base CX0 1 f fd ["self"] (sp_init C):=by
 refine F.ok zbN (fun vs H Q E h => ?_) (fun cdv A outer s H vs Q E hr h => ?_)
 ·obtain ⟨b,dx,rfl,_⟩:=h
  rfl
 ·obtain ⟨b,dx,rfl,hb,q⟩:=h
  have S:=zbN
  refine ⟨_,zae (zf7 (pv 0) (zfs) rfl)
  (zah (zf7 (pv 0) (zaO (zac)) rfl)),?_⟩
  refine fun d nd => ?_
  have hbd:b≠d:=zan hb nd
  have hb1:upd H d (.dK []) b=some (.ins C dx []):=by rw [zaf hbd]; exact hb
  refine ⟨_,rfl,_,_,_,_,rfl,hb1,BA.cls,BA.nc,by decide,?_⟩
  rw [putF_new]
  refine ⟨bigr rfl,fun l nl => ?_⟩
  have hbl:b≠l:=fun z=>by rw [<- z,zab] at nl; cases nl
  have nl1:upd H d (.dK []) l=none:=by rw [zaf (E7 hbl)] at nl; exact nl
  have hdl:d≠l:=fun z=>by rw [<- z,zab] at nl1; cases nl1
  have hln:H l=none:=by rw [zaf (E7 hdl)] at nl1; exact nl1
  have hb2:upd (upd (upd H d (.dK [])) b (.ins C dx [(A0 "combs",V.ref d)])) l (.lst []) b=some (.ins C dx [("combs",.ref d)]):=by rw [zaf hbl,zab]
  refine ⟨_,rfl,_,_,_,_,rfl,hb2,BA.cls,BA.np,(show 1 < 1000 by decide),?_⟩
  rw [putF_past]
  have hb3:upd (upd (upd (upd H d (.dK [])) b (.ins C dx [(A0 "combs",V.ref d)])) l (.lst [])) b (.ins C dx [(A0 "combs",V.ref d),(A0 "past",V.ref l)]) b=some (.ins C dx [("combs",.ref d),("past",.ref l)]):=zab
  have hd3:upd (upd (upd (upd H d (.dK [])) b (.ins C dx [(A0 "combs",V.ref d)])) l (.lst [])) b (.ins C dx [(A0 "combs",V.ref d),(A0 "past",V.ref l)]) d=some (.dK []):=by
   rw [zaf (E7 hbd),zaf hdl,zaf (E7 hbd),zab]
  have hl3:upd (upd (upd (upd H d (.dK [])) b (.ins C dx [(A0 "combs",V.ref d)])) l (.lst [])) b (.ins C dx [(A0 "combs",V.ref d),(A0 "past",V.ref l)]) l=some (.lst []):=by
   rw [zaf (E7 hbl),zab]
  have off:∀ a o,H a=some o->a≠b->upd (upd (upd (upd H d (.dK [])) b (.ins C dx [(A0 "combs",V.ref d)])) l (.lst [])) b (.ins C dx [(A0 "combs",V.ref d),(A0 "past",V.ref l)]) a=some o:=fun a o e n=>by
   rw [zaf n,zaf (zan e hln),zaf n,zaf (zan e nd)]; exact e
  generalize upd (upd (upd (upd H d (.dK [])) b (.ins C dx [(A0 "combs",V.ref d)])) l (.lst [])) b (.ins C dx [(A0 "combs",V.ref d),(A0 "past",V.ref l)])=H3 at hb3 hd3 hl3 off
  refine q H3 l d ⟨fun a o e n _=>off a o e n,fun a h => ?_,fun a g => .inr (by rw [g]; exact nd)⟩ hln nd ⟨fun x g => ?_,hbd,fun z=>hdl z.symm,⟨dx,d,hb3,rfl,[],hd3,.nil⟩,⟨[],hl3,.nil⟩,good_nil,by simp,by decide⟩
  ·by_cases z:a=b
   ·rw [z,hb3]; simp
   ·cases e:H a with
    | none=>exact absurd e h
    | some o=>rw [off a o e z]; simp
  ·rw [show x=d from g,hd3]; simp
noncomputable def sp_set (ea:Nat->A3) (C:A3):Sp:=fun vs H Q E=>∃ b l G cs past x a ts,vs = [.ref b,.str x,.ref a]/\Bk C G H b l cs past/\SqL K H a (ts.map V.int)/\areTeeth ts=true/\isName x=true/\(cs.length < 8\/(cGet cs x).isSome=true)/\Deed ea C G H b l cs past Q E (full past (cPut cs x (canon ts)))
theorem zbM:FnScope ["self","name","teeth","combs"] ["self","name","teeth"] (defScope s_Book_set_comb):=⟨rfl,rfl,rfl,by decide +kernel,rfl,by decide +kernel,by decide +kernel⟩
theorem ok_set {ea:Nat->A3} {C:A3} (D:MethAt K C "Book" "set_comb" s_Book_set_comb) (T:Bn mg) (BA:BookAt K C) (M_do_deed:Method P w K mg base C "do_deed" (CX1 P w) 1 ["self","combs"] (sp_do ea C)):Method P w K mg base C "set_comb" (CX1 P w) 2 ["self","name","teeth"] (sp_set (K:=K) ea C):=by
 refine D.meth1 zbM (fun _ _ _ _ _ _=>ln3 fun _ _ _=>rfl) (fun vs H Q E h => ?_) (fun f cdv A outer s H vs Q E hr h => ?_)
 ·obtain ⟨b,l,G,cs,past,x,a,ts,rfl,_⟩:=h
  rfl
 ·obtain ⟨b,l,G,cs,past,x,a,ts,rfl,B,ha,ht,hx,hn,q⟩:=h
  have S:=zbM
  have hu:=zcm hr
  have B_cls:=BA.cls
  obtain ⟨t0,tn,tr⟩:=teeth_iff.mp ht
  obtain ⟨dx,d,hb,gd,kvs,hd,kr⟩:=id B.ins
  refine ⟨_,zae (zak (i:=3) S.nd rfl (As rfl) (zbr call_dictD rfl T.n_dict boot_dict (zaa (zbR (pv 0) rfl) zac)))
  (zae (zcx hu (pv 3) (pv 1) (zai zcJ rfl T.n_sorted Jy (zaa (pv 2) zac)) rfl)
  (zah (zam (zfM (pv 0) B_cls M_do_deed (hr.mono (by decide)) (by first | exact zdZ | exact za1 | exact zcz | exact zbh) (zaa (pv 3) zac))))),?_⟩
  refine ⟨_,rfl,_,_,_,_,_,rfl,hb,BA.cls,BA.nc,zbI,d,kvs,rfl,.inl hd,fun p np => ?_⟩
  have s1:Same H (upd H p (.dK kvs)):=Same.new np
  refine ⟨_,rfl,a,ts,rfl,s1.seq ha,?_,fun r ns nr hp hs => ?_⟩
  ·have:=zcX tn tr
   omega
  have hc:=zd9 hp hs tn tr
  subst hc
  have npr:p≠r:=fun z=>by rw [<- z,zab] at nr; cases nr
  have hr0:H r=none:=s1.free nr
  have s2:Same H (upd (upd H p (.dK kvs)) r (.lst ((canon ts).map V.int))):=s1.put hr0
  have hp2:upd (upd H p (.dK kvs)) r (.lst ((canon ts).map V.int)) p=some (.dK kvs):=by rw [zaf npr,zab]
  have hkl:kvs.length < sizeLine:=by
   have:=kr.length
   have:=B.good.len
   exact Ae (by omega:kvs.length < 1000) zaK
  refine ⟨_,rfl,_,rfl,p,_,rfl,DPut.k (k:=Dj x) hp2 hkl,?_⟩
  have s3:Same H (upd (upd (upd H p (.dK kvs)) r (.lst ((canon ts).map V.int))) p (.dK (putK kvs (Dj x) (.ref r)))):=s2.put np
  have hr3:upd (upd (upd H p (.dK kvs)) r (.lst ((canon ts).map V.int))) p (.dK (putK kvs (Dj x) (.ref r))) r=some (.lst ((canon ts).map V.int)):=by rw [zaf (E7 npr),zab]
  have hp3:upd (upd (upd H p (.dK kvs)) r (.lst ((canon ts).map V.int))) p (.dK (putK kvs (Dj x) (.ref r))) p=some (.dK (putK kvs (Dj x) (.ref r))):=zab
  generalize upd (upd (upd H p (.dK kvs)) r (.lst ((canon ts).map V.int))) p (.dK (putK kvs (Dj x) (.ref r)))=H3 at s3 hr3 hp3
  have B3:=B.same s3
  obtain ⟨lb,ll⟩:=B.liveB
  refine ⟨_,rfl,b,dx,_,rfl,s3 _ _ hb,rfl,_,rfl,b,l,G,cs,past,p,fun a=>G a\/a=p\/a=r,cPut cs x (canon ts),rfl,B3,⟨.inr (.inl rfl),_,hp3,?_⟩,B.good.put hx (gt_canon t0) hn,?_,?_⟩
  ·exact (kr.mono (fun a o _ e=>s3 a o e) fun _ g => .inl g).put hr3 (.inr (.inr rfl))
  ·rintro y (g | g | g)
   ·exact ⟨fun z=>B.nb (z ▸ g),fun z=>B.nl (z ▸ g),B3.live y g⟩
   ·subst g
    exact ⟨fun z=>lb (z ▸ np),fun z=>ll (z ▸ np),by rw [hp3]; simp⟩
   ·subst g
    exact ⟨fun z=>lb (z ▸ hr0),fun z=>ll (z ▸ hr0),by rw [hr3]; simp⟩
  ·unfold full at q
   by_cases h3:300<=past.length
   ·rw [if_pos h3] at q ⊢
    exact q H3 s3
   ·rw [if_neg h3] at q ⊢
    intro H4 off B4
    refine q H4 _ ⟨fun a o e n1 n2=>(off a n1 n2).trans (s3 a o e),fun a h => ?_,fun a g => ?_⟩ B4
    ·obtain ⟨lb4,ll4⟩:=B4.liveB
     by_cases z:a=b
     ·rw [z]; exact lb4
     ·by_cases z2:a=l
      ·rw [z2]; exact ll4
      ·rw [off a z z2]; exact zex s3 a h
    ·rcases g with g | g | g | g
     ·exact .inl g
     ·exact .inl g
     ·rw [g]; exact .inr np
     ·rw [g]; exact .inr hr0
noncomputable def sp_put (ea:Nat->A3) (C:A3):Sp:=fun vs H Q E=>∃ b l G cs past x a ts,vs = [.ref b,.str x,.ref a]/\Bk C G H b l cs past/\SqL K H a (ts.map V.int)/\x.length<=sizeLine/\ts.length<=1000/\Deed ea C G H b l cs past Q E (putD cs past x ts)
theorem zc0:FnScope ["self","name","teeth"] ["self","name","teeth"] (defScope s_Book_put):=⟨rfl,rfl,rfl,by decide +kernel,rfl,by decide +kernel,by decide +kernel⟩
theorem ok_put {ea:Nat->A3} {C:A3} (D:MethAt K C "Book" "put" s_Book_put) (T:Bn mg) (BA:BookAt K C) (V_MOST_COMBS:∃ t,mg "MOST_COMBS" = some (.int 8 t)) (O_BadName:Err K mg "BadName" (ea 0)) (O_BadTeeth:Err K mg "BadTeeth" (ea 1)) (O_NameTaken:Err K mg "NameTaken" (ea 2)) (O_BookFull:Err K mg "BookFull" (ea 3))
  (C_is_name:Callee P w K mg base "is_name" 2 ["text"] sp_name) (C_are_teeth:Callee P w K mg base "are_teeth" 1 ["teeth"] (sp_teeth K)) (M_set_comb:Method P w K mg base C "set_comb" (CX1 P w) 2 ["self","name","teeth"] (sp_set (K:=K) ea C)):Method P w K mg base C "put" (CX1 P w) 3 ["self","name","teeth"] (sp_put (K:=K) ea C):=by
 refine D.meth1 zc0 (fun _ _ _ _ _ _=>ln3 fun _ _ _=>rfl) (fun vs H Q E h => ?_) (fun f cdv A outer s H vs Q E hr h => ?_)
 ·obtain ⟨b,l,G,cs,past,x,a,ts,rfl,_⟩:=h
  rfl
 ·obtain ⟨b,l,G,cs,past,x,a,ts,rfl,B,ha,hxl,htl,q⟩:=h
  have S:=zc0
  have hu:=zcm hr
  have B_cls:=BA.cls
  unfold putD at q
  refine ⟨_,zae (zaL (zbQ (zbz (zaR C_is_name (hr.mono (by decide)) rfl (zaa (pv 1) zac))))
   (zah (zbq O_BadName rfl (zaa (zaw) zac)))
   (zap))
  (zae (zaL (zbQ (zbz (zaR C_are_teeth (hr.mono (by decide)) rfl (zaa (pv 2) zac))))
   (zah (zbq O_BadTeeth rfl (zaa (zaw) zac)))
   (zap))
  (zae (zaL (zcH (zcI hu (pv 1) (zbR (pv 0) rfl)))
   (zah (zbq O_NameTaken rfl (zaa (zaw) zac)))
   (zap))
  (zae (zaL (zas zhf (zai call_lenD rfl T.n_len Bu (zaa (zbR (pv 0) rfl) zac)) (zb7 rfl V_MOST_COMBS) (zax _))
   (zah (zbq O_BookFull rfl (zaa (zaw) zac)))
   (zap))
  (zah (zam (zfM (pv 0) B_cls M_set_comb (hr.mono (by decide)) (by first | exact zdZ | exact za1 | exact zcz | exact zbh) (zaa (pv 1) (zaa (pv 2) zac)))))))),?_⟩
  refine ⟨_,rfl,x,rfl,hxl,fun H1 s1=>⟨_,rfl,?_⟩⟩
  cases e1:isName x with
  | false =>
   rw [e1,if_pos rfl] at q
   exact iteT ⟨bigr rfl,q H1 s1⟩
  | true =>
   rw [e1,if_neg (by decide)] at q
   refine iteF ?_
   refine ⟨_,rfl,a,ts,rfl,s1.seq ha,htl,fun H2 s2=>⟨_,rfl,?_⟩⟩
   have s12:=s1.trans s2
   cases e2:areTeeth ts with
   | false =>
    rw [e2,if_pos rfl] at q
    exact iteT ⟨bigr rfl,q H2 s12⟩
   | true =>
    rw [e2,if_neg (by decide)] at q
    refine iteF ?_
    have B2:=B.same s12
    obtain ⟨dx,d,hb,gd,kvs,hd,kr⟩:=id B2.ins
    refine ⟨_,rfl,_,rfl,_,_,_,_,_,rfl,hb,BA.cls,BA.nc,zbI,d,_,rfl,DGet.k (k:=Dj x) hd,_,rfl,?_⟩
    rw [kr.some]
    cases e3:(cGet cs x).isSome with
    | true =>
     rw [e3,if_pos rfl] at q
     exact iteT ⟨bigr rfl,q H2 s12⟩
    | false =>
     rw [e3,if_neg (by decide)] at q
     refine iteF ?_
     refine ⟨_,rfl,_,_,_,_,_,rfl,hb,BA.cls,BA.nc,zbI,_,_,rfl,hd,_,_,rfl,rfl,_,rfl,?_⟩
     rw [kr.length]
     refine ite2 (fun hc => ?_) (fun hc => ?_)
     ·have h8:8<=cs.length:=by
       have:(8:Int)<=(cs.length:Int):=by simpa using hc
       omega
      rw [if_pos h8] at q
      exact ⟨bigr rfl,q H2 s12⟩
     ·have h8:¬ 8<=cs.length:=by
       have:¬ (8:Int)<=(cs.length:Int):=by simpa using hc
       omega
      rw [if_neg h8] at q
      exact ⟨_,rfl,b,dx,_,rfl,hb,rfl,_,rfl,_,rfl,b,l,G,cs,past,x,a,ts,rfl,B2,s12.seq ha,e2,e1,.inl (by omega),q.from s12⟩
noncomputable def worths:List Int := [1,2,4,8,16,32,64,128]
theorem at_worths {t:Int} (h0:0<=t) (h7:t<=7):atI (worths.map V.int) t=some (.int (pw t)):=by
 have:t=0\/t=1\/t=2\/t=3\/t=4\/t=5\/t=6\/t=7:=by omega
 rcases this with h | h | h | h | h | h | h | h <;> subst h <;> rfl
noncomputable def sp_worth (K:Am):Sp:=fun vs H Q _=>∃ (a:A3) (ts:List Int),vs = [.ref a]/\SqL K H a (ts.map V.int)/\(∀ t∈ts,0<=t/\t<=7)/\ts.length<=1000/\∀ H',Same H H'->Q (.int (worth ts)) H'
theorem zb4:FnScope ["teeth"] ["teeth"] (defScope s_teeth_worth):=⟨rfl,rfl,rfl,by decide +kernel,rfl,by decide +kernel,by decide +kernel⟩
theorem ok_worth {tw:A3} (D:DefAt K mg "teeth_worth" s_teeth_worth) (T:Bn mg) (G_TOOTH_WORTH:mg "TOOTH_WORTH" = some (.ref tw)) (HTW:∀ H,SqT K H tw (worths.map V.int)):Callee P w K mg base "teeth_worth" 1 ["teeth"] (sp_worth K):=by
 refine D.callee zb4 (fun _ _ _ _ _ _=>ln1 fun _=>rfl) (fun vs H Q E h => ?_) (fun f cdv A outer s H vs Q E hr h => ?_)
 ·obtain ⟨a,ts,rfl,_⟩:=h
  rfl
 ·obtain ⟨a,ts,rfl,ha,hr7,hl,q⟩:=h
  have S:=zb4
  refine ⟨_,zah (zam (zai (zeM rfl) rfl T.n_sum boot_sum (zaa (za3 (own := ["tooth"]) (caps := []) rfl ⟨rfl,rfl,rfl,rfl,trivial⟩ (zaC (pv 0)) (fun _ _ _ _ _ _=>zaj (i:=0) (zaP (by decide +kernel)) rfl (As rfl)) (fun _ _ _ _ _ _=>zbm) (fun _ _ _ _ _ _=>zay (ix_tup' K rfl) (zbo rfl G_TOOTH_WORTH) (pv 0) (fun _ _=>rfl))) zac))),?_⟩
  refine ⟨_,rfl,_,rfl,⟨_,ha⟩,fun D hD => ?_⟩
  refine zbV (capv := []) (L:=ts.map V.int) (by rfl) (zao K a (ts.map V.int)) (by rw [A5]; exact big hl) hD ?_ (fun _=>true) (fun v=>match v with | .int t => .int (pw t) | _ => .non) ?_ ?_ ?_
  ·exact fun H' s'=>s'.seq ha
  ·exact fun v hv H' R s' h=>h H' (Same.refl _)
  ·intro v hv _ H' R s' h
   obtain ⟨t,ht,rfl⟩:=Ah.mp hv
   have h:R (.int (pw t)) H':=h H' (Same.refl _)
   obtain ⟨h0,h7⟩:=hr7 t ht
   exact ⟨_,rfl,_,_,_,_,rfl,rfl,HTW H',at_worths h0 h7,h⟩
  ·intro H' s' e
   refine ⟨_,ts.map pw,rfl,?_,q H' s'⟩
   refine SqL.of ?_
   rw [e]
   congr 2
   rw [Cm.mpr (fun _ _=>rfl),Bp,Bp]
   rfl
noncomputable def sp_steps (ea:Nat->A3) (C:A3):Sp:=fun vs H Q E=>∃ b l G cs past n,vs = [.ref b,.int n]/\Bk C G H b l cs past /\
 (if 0<=n/\n < 128 then ∀ p H' ws,Same H H'->H p=none->H' p=some (.lst ws)->(∀ nm:List Str,nm.Perm (cs.map (·.1))->sortedS nm=true->StepsR H' ws (stepsOf (byNames cs nm) n))->Q (.ref p) H' else E (.ref (ea 11)) none H)
theorem zb5:FnScope ["book","shape","steps","name","worth"] ["book","shape"] (defScope s_shape_steps):=⟨rfl,rfl,rfl,by decide +kernel,rfl,by decide +kernel,by decide +kernel⟩
theorem ok_steps {ea:Nat->A3} {C:A3} (D:DefAt K mg "shape_steps" s_shape_steps) (T:Bn mg) (BA:BookAt K C) (V_SHAPES:∃ t,mg "SHAPES" = some (.int 128 t)) (O_BadShape:Err K mg "BadShape" (ea 11)) (C_teeth_worth:Callee P w K mg base "teeth_worth" 1 ["teeth"] (sp_worth K))
  (M_names:Method P w K mg base C "names" CX0 1 ["self"] (sp_names C)) (M_teeth:Method P w K mg base C "teeth" (CX1 P w) 2 ["self","name"] (sp_bteeth ea C)):Callee1 P w K mg base "shape_steps" 3 ["book","shape"] (sp_steps ea C):=by
 refine D.callee1 zb5 (fun _ _ _ _ _ _=>ln2 fun _ _=>rfl) (fun vs H Q E h => ?_) (fun f cdv A outer s H vs Q E hr h => ?_)
 ·obtain ⟨b,l,G,cs,past,n,rfl,_⟩:=h
  rfl
 ·obtain ⟨b,l,G,cs,past,n,rfl,B,q⟩:=h
  have S:=zb5
  have hu:=zcm hr
  have B_cls:=BA.cls
  refine ⟨_,zae (zaL (zbQ (zdW zet zhk (zad) (pv 1) (zb7 rfl V_SHAPES)))
   (zah (zbq O_BadShape rfl (zaa (zaw) zac)))
   (zap))
  (zae (zaL (zas zck (zau za8 (pv 1) (zad)) (zad) (zax _))
   (zah (zam (zaO (zaa (za9 (zaa (zaw) (zaa (zau zbs (pv 1) (zad)) zac))) zac))))
   (zap))
  (zae (zak (i:=2) S.nd rfl (As rfl) (zaO (zac)))
  (zae (za2 Mb rfl (zaC (pe_mt0 (pv 0) B_cls M_names (hr.mono (by decide)) (by first | exact zdZ | exact za1 | exact zcz | exact zbh))) (zaj (i:=3) S.nd rfl (As rfl))
   (zae (zak (i:=4) S.nd rfl (As rfl) (zaR C_teeth_worth (hr.mono (by decide)) rfl (zaa (zfM (pv 0) B_cls M_teeth (hr.mono (by decide)) (by first | exact zdZ | exact za1 | exact zcz | exact zbh) (zaa (pv 3) zac)) zac)))
   (zah (zaL (zas zck (zau zgX (pv 1) (pv 4)) (zad) (zax _))
    (zah (zaW (zcj Bh Bl Bj zaH (pv 2) (zaa (za9 (zaa (pv 3) (zaa (zau zbs (zau zbF (pv 1) (pv 4)) (zad)) zac))) zac))))
    (zap)))))
  (zah (zam (pv 2)))))),?_⟩
  refine ⟨_,rfl,_,_,rfl,rfl,_,rfl,?_⟩
  refine ite2 (fun h0 => ?_) (fun h0 => ?_)
  rotate_left
  ·have h0:¬ (0:Int)<=n:=by simpa using h0
   rw [if_neg (fun z=>h0 z.1)] at q
   exact ⟨_,rfl,iteT ⟨bigr rfl,q⟩⟩
  have h0:(0:Int)<=n:=by simpa using h0
  refine ⟨_,_,rfl,rfl,_,rfl,?_⟩
  by_cases h1:n < 128
  case neg =>
   rw [if_neg (fun z=>h1 z.2)] at q
   rw [decide_eq_false h1]
   exact iteT ⟨bigr rfl,q⟩
  rw [if_pos ⟨h0,h1⟩] at q
  rw [decide_eq_true h1]
  refine iteF ?_
  have p2:(0:Int) < 2:=by decide
  refine ⟨_,rfl,_,_,rfl,rfl,p2,rfl,_,rfl,?_⟩
  refine ite2 (fun hc => ?_) (fun hc => ?_)
  ·have hc:n % 2=1:=by simpa using hc
   refine ⟨_,rfl,_,_,rfl,rfl,⟨p2,by decide⟩,bigr rfl,fun t nt=>⟨bigr rfl,fun p np => ?_⟩⟩
   have s1:Same H (upd H t (.tup [.str "",.int (n / 2)])):=Same.new nt
   refine q p _ [.ref t] (s1.trans (Same.new np)) (s1.free np) zab fun nm _ _ => ?_
   rw [zek hc]
   refine ⟨⟨t,rfl,?_⟩,trivial⟩
   rw [zaf (fun z=>by rw [<- z,zab] at np; cases np)]
   exact zab
  ·have hc:¬ n % 2=1:=by simpa using hc
   refine ⟨bigr rfl,fun pl npl => ?_⟩
   have s1:Same H (upd H pl (.lst [])):=Same.new npl
   obtain ⟨dx,d,hb,_⟩:=id (B.same s1).ins
   refine ⟨_,rfl,b,dx,_,rfl,hb,rfl,b,l,G,cs,past,rfl,B.same s1,fun pn nm npn hnp hns=>⟨_,rfl,⟨_,SqL.of zab⟩,?_⟩⟩
   have nlp:pn≠pl:=fun z=>by rw [z,zab] at npn; cases npn
   have s2:Same H (upd (upd H pl (.lst [])) pn (.lst (nm.map V.str))):=s1.trans (Same.new npn)
   have hnl:nm.length<=8:=by
    have:=hnp.length_eq
    rw [A5] at this
    have:=B.good.len
    omega
   refine zbE (zao K pn (nm.map V.str)) (fun i σ Hx=>Same H Hx/\Hx pn=some (.lst (nm.map V.str))/\∃ ws x3 x4,σ = [some (.ref b),some (.int n),some (.ref pl),x3,x4]/\Hx pl=some (.lst ws)/\ws.length<=i/\StepsR Hx ws (stepsOf (byNames cs (nm.take i)) n)) ⟨s2,zab,[],_,_,rfl,(by rw [zaf nlp.symm]; exact zab),Aa _,?_⟩ (fun i σ Hx _ h=>SqL.of h.2.1) ?_ ?_
   ·rw [P3]
    show StepsR _ [] (stepsOf [] n)
    rw [steps_nil hc]
    trivial
   ·rintro i x σ Hx hx ⟨sx,hpn,ws,x3,x4,rfl,hpl,hwl,hst⟩
    rw [Af] at hx
    cases hk:nm[i]? with
    | none=>rw [hk] at hx; cases hx
    | some y =>
     rw [hk] at hx
     cases hx
     have hi:i < nm.length:=(Ao.mp hk).1
     have hy:y∈cs.map (·.1):=hnp.mem_iff.mp (B0 hk)
     cases hts:cGet cs y with
     | none=>exact absurd hy (get_none.mp hts)
     | some ts =>
      have gts:GT ts:=(B.good.ok _ (zd5 hts)).2
      obtain ⟨dx2,d2,hb2,_⟩:=id (B.same sx).ins
      refine ⟨_,rfl,b,dx2,_,rfl,hb2,rfl,_,rfl,b,l,G,cs,past,y,rfl,B.same sx,?_⟩
      rw [hts]
      intro p3 np3
      refine ⟨p3,ts,rfl,SqL.of zab,zcK gts,by have:=zg2 gts; omega,fun H4 s4 => ?_⟩
      have s34:Same Hx H4:=(Same.new np3).trans s4
      have eN:byNames cs (nm.take (i + 1))=byNames cs (nm.take i) ++ [(y,ts)]:=by
       rw [zaG hk,byNames_snoc hts]
      refine ⟨_,rfl,_,rfl,_,_,rfl,rfl,rfl,_,rfl,?_⟩
      refine ite2 (fun hz => ?_) (fun hz => ?_)
      ·have hz:Dx n (worth ts)=0:=by simpa using hz
       refine ⟨_,rfl,.inl ⟨rfl,_,SqL.of (s34 _ _ hpl)⟩,_,rfl,_,rfl,_,rfl,_,_,rfl,rfl,_,_,rfl,rfl,⟨p2,by decide⟩,bigr rfl,fun t nt => ?_⟩
       have s5:Same Hx (upd H4 t (.tup [.str y,.int ((n + worth ts) / 2)])):=s34.trans (Same.new nt)
       have nplt:t≠pl:=fun z=>by rw [z,s34 _ _ hpl] at nt; cases nt
       refine ⟨pl,_,_,rfl,rfl,s5 _ _ hpl,Ae (by omega:ws.length < 1000) zaK,?_⟩
       refine ⟨(sx.trans s5).put npl,(by rw [zaf nlp]; exact s5 _ _ hpn),_,_,_,rfl,zab,(by rw [Ag,Bd]; omega),?_⟩
       rw [eN,zdt hc,if_pos hz]
       refine StepsR.snoc ?_ (hst.mono fun q' xs hq' => ?_)
       ·rw [zaf nplt]; exact zab
       ·have:q'≠pl:=fun z=>by rw [z,hpl] at hq'; cases hq'
        rw [zaf this]; exact s5 _ _ hq'
      ·have hz:¬ Dx n (worth ts)=0:=by simpa using hz
       refine ⟨sx.trans s34,s34 _ _ hpn,ws,_,_,rfl,s34 _ _ hpl,by omega,?_⟩
       rw [eN,zdt hc,if_neg hz,C9]
       exact hst.mono fun q' xs hq'=>s34 _ _ hq'
   ·rintro σ Hx ⟨sx,hpn,ws,x3,x4,rfl,hpl,hwl,hst⟩
    rw [A5,C8] at hst
    refine ⟨_,rfl,q pl Hx ws sx npl hpl fun nm' hp' hs' => ?_⟩
    rw [zei (hp'.trans hnp.symm) hs' hns]
    exact hst
noncomputable def TabR (H:Hp) (ts:List V) (C:Combs):Prop:=ts.length=128/\∀ s:Nat,s < 128->∃ q ws,ts[s]?=some (.ref q)/\H q=some (.lst ws)/\StepsR H ws (stp C s)
theorem TabR.same {H H':Hp} {ts:List V} {C:Combs} (t:TabR H ts C) (s:Same H H'):TabR H' ts C :=
 ⟨t.1,fun i h=>let ⟨q,ws,a,b,c⟩:=t.2 i h; ⟨q,ws,a,s _ _ b,c.mono fun _ _ e=>s _ _ e⟩⟩
noncomputable def sp_table (C:A3):Sp:=fun vs H Q _=>∃ b l G cs past,vs = [.ref b]/\Bk C G H b l cs past/\∀ p H' ts,Same H H'->H p=none->H' p=some (.lst ts)->TabR H' ts (srt cs)->Q (.ref p) H'
theorem zce:FnScope ["book"] ["book"] (defScope s_step_table):=⟨rfl,rfl,rfl,by decide +kernel,rfl,by decide +kernel,by decide +kernel⟩
theorem ok_table {ea:Nat->A3} {C:A3} (D:DefAt K mg "step_table" s_step_table) (T:Bn mg) (V_SHAPES:∃ t,mg "SHAPES" = some (.int 128 t)) (C_shape_steps:Callee1 P w K mg base "shape_steps" 3 ["book","shape"] (sp_steps ea C)):Callee1 P w K mg base "step_table" 4 ["book"] (sp_table C):=by
 refine D.callee1 zce (fun _ _ _ _ _ _=>ln1 fun _=>rfl) (fun vs H Q E h => ?_) (fun f cdv A outer s H vs Q E hr h => ?_)
 ·obtain ⟨b,l,G,cs,past,rfl,_⟩:=h
  rfl
 ·obtain ⟨b,l,G,cs,past,rfl,B,q⟩:=h
  have S:=zce
  refine ⟨_,zah (zam (za3 (own := ["shape"]) (caps := [(0,"book")]) rfl ⟨rfl,rfl,rfl,rfl,⟨⟨rfl,rfl,.inl rfl⟩,trivial⟩⟩ (za4 rfl T.n_range (zaa (zb7 rfl V_SHAPES) zac)) (fun _ _ _ _ _ _=>zaj (i:=0) (zaP (by decide +kernel)) rfl (As rfl)) (fun _ _ _ _ _ _=>zbm) (fun _ _ _ _ _ _=>zep C_shape_steps (hr.mono (by decide)) (by first | exact za1 | exact zcz | exact zbh) rfl (zaa (pv 1) (zaa (pv 0) zac))))),?_⟩
  refine ⟨_,rfl,by decide,by decide,fun D hD => ?_⟩
  refine zg8 (capv := [some (.ref b)]) (by rfl) (zaI 0 (128:Int).toNat) (by rw [zbj]; exact big (by decide)) hD (fun _ _=>trivial) (fun _=>true) (fun H i v=>∃ (q:A3) (ws:List V),v = .ref q/\H q=some (.lst ws)/\StepsR H ws (stp (srt cs) i)) ?_ ?_ (fun i x hx H R s' h=>h H (Same.refl _)) ?_ ?_
  ·rintro H H' i v s' ⟨qa,ws,e2,e3,e4⟩
   exact ⟨qa,ws,e2,s' _ _ e3,e4.mono fun _ _ e=>s' _ _ e⟩
  ·rintro H i v l' l'' hv hH ⟨qa,ws,e2,e3,e4⟩
   subst e2
   have hne:qa≠D:=fun z=>hv (by rw [z])
   refine ⟨qa,ws,rfl,(by rw [zaf hne]; exact e3),e4.mono fun q' xs e => ?_⟩
   rw [zaf (fun z=>by rw [z,hH] at e; cases e)]
   exact e
  ·intro i x hx _ H' R s' hDn h
   obtain ⟨hi,rfl⟩:=zbk hx
   rw [Dy]
   refine ⟨_,rfl,_,rfl,b,l,G,cs,past,((i:Nat):Int),rfl,B.same s',?_⟩
   rw [if_pos ⟨by omega,by have:i < 128:=hi; omega⟩]
   intro p H2 ws s2 np hp st
   exact h H2 _ s2 (fun z=>hDn (by injection z with z; rw [<- z]; exact np)) ⟨p,ws,rfl,hp,st _ (zeZ cs) (zev cs)⟩
  ·intro H' ys s' hD' pr
   rw [zbj,Cm.mpr (fun _ _=>rfl)] at pr
   refine q _ H' ys s' hD hD' ⟨by rw [<- Cz pr,Ax]; rfl,fun i hi => ?_⟩
   obtain ⟨y,ey,_,qa,ws,rfl,e3,e4⟩:=C7.at pr (Cd (show i < (128:Int).toNat from hi))
   exact ⟨qa,ws,ey,e3,e4⟩
theorem srt_gcS {C:A3} {G:A3->Prop} {H:Hp} {b l:A3} {cs:Combs} {past:List Combs} (B:Bk C G H b l cs past):GC (srt cs)/\(srt cs).length<=8:=by
 have g:=B.good
 have p:=zfg g.nd
 exact ⟨fun c hc=>(g.ok c (p.mem_iff.mp hc)).2,by rw [p.length_eq]; exact g.len⟩
noncomputable def wrow (A:Nat->Nat):List V:=(Ab 128).map fun s=>V.int ((A s:Nat):Int)
theorem zfQ (A:Nat->Nat) {s:Nat} (h:s < 128):atI (wrow A) ((s:Nat):Int)=some (.int ((A s:Nat):Int)):=by
 refine zat ?_
 unfold wrow
 rw [Af,Cd h]
 rfl
theorem wrow_len (A:Nat->Nat):(wrow A).length=128:=by unfold wrow; rw [A5,Ax]
noncomputable def sp_behindw:Sp:=fun vs H Q _=>∃ (st a b:A3) (x:Str) (p:Str×Int) (A B:Nat->Nat),vs = [.ref st,.ref a,.ref b,.str x]/\H st=some (.tup [.str p.1,.int p.2])/\0<=p.2/\p.2.toNat < 128/\H a=some (.lst (wrow A))/\H b=some (.lst (wrow B))/\Q (.int ((bh x A B p:Nat):Int)) H
theorem zb3:FnScope ["step","ways","wanted","name","row"] ["step","ways","wanted","name"] (defScope s_ways_behind):=⟨rfl,rfl,rfl,by decide +kernel,rfl,by decide +kernel,by decide +kernel⟩
theorem ok_behindw (D:DefAt K mg "ways_behind" s_ways_behind) (T:Bn mg):Callee P w K mg base "ways_behind" 1 ["step","ways","wanted","name"] sp_behindw:=by
 refine D.callee zb3 (fun _ _ _ _ _ _=>ln4 fun _ _ _ _=>rfl) (fun vs H Q E h => ?_) (fun f cdv A outer s H vs Q E hr h => ?_)
 ·obtain ⟨st,a,b,x,p,A',B',rfl,_⟩:=h
  rfl
 ·obtain ⟨st,a,b,x,⟨p1,p2⟩,A',B',rfl,hst,h0,h1,ha,hb,q⟩:=h
  have S:=zb3
  dsimp only at hst h0 h1
  refine ⟨_,zbC (zak (i:=4) S.nd rfl (As rfl) (pe_ifExp (zas zck (zay za6 (pv 0) (zad) (fun _ _=>rfl)) (pv 3) (zax _)) (pv 1) (pv 2)))
  (zah (zam (zay zaz (pv 4) (zay za6 (pv 0) (zad) (fun _ _=>rfl)) (fun _ _=>rfl)))),?_⟩
  have e2:p2=((p2.toNat:Nat):Int):=by omega
  refine ⟨fun σ Hx=>Hx=H/\∃ (r:A3),H r=some (.lst (wrow (if p1=x then A' else B'))) /\ σ = [some (.ref st),some (.ref a),some (.ref b),some (.str x),some (.ref r)],?_,?_⟩
  ·refine ⟨_,rfl,_,_,_,_,rfl,rfl,SqT.of hst,at0,_,rfl,rfl,_,rfl,?_⟩
   by_cases e:p1=x
   ·rw [decide_eq_true (by rw [e])]
    refine iteT ?_
    exact ⟨_,rfl,rfl,a,by rw [if_pos e]; exact ha,rfl⟩
   ·rw [decide_eq_false (fun z=>e (by injection z))]
    refine iteF ?_
    exact ⟨_,rfl,rfl,b,by rw [if_neg e]; exact hb,rfl⟩
  rintro σ Hx ⟨rfl,r,hr',rfl⟩
  refine ⟨_,rfl,_,rfl,_,_,_,_,rfl,rfl,SqT.of hst,at1,_,_,_,_,rfl,rfl,SqL.of hr',by rw [e2]; exact zfQ _ h1,?_⟩
  have e3:(if p1=x then A' else B') p2.toNat=bh x A' B' (p1,p2):=by
   unfold bh
   dsimp only
   split <;> rfl
  rw [e3]
  exact q
noncomputable def sp_from:Sp:=fun vs H Q _=>∃ (l a b:A3) (x:Str) (ws:List V) (ps:List (Str×Int)) (A B:Nat->Nat),vs = [.ref l,.ref a,.ref b,.str x]/\H l=some (.lst ws)/\StepsR H ws ps/\ps.length<=100/\(∀ p∈ps,0<=p.2/\p.2.toNat < 128)/\H a=some (.lst (wrow A))/\H b=some (.lst (wrow B))/\∀ H',Same H H'->Q (.int (((ps.map (bh x A B)).sum:Nat):Int)) H'
theorem sum_cast (l:List Nat):(l.map fun (n:Nat)=>(n:Int)).sum=((l.sum:Nat):Int):=by
 induction l with
 | nil=>rfl
 | cons a l ih=>rw [Aq,Fp,Fp,ih]; omega
theorem zcE:FnScope ["steps","ways","wanted","name"] ["steps","ways","wanted","name"] (defScope s_ways_from):=⟨rfl,rfl,rfl,by decide +kernel,rfl,by decide +kernel,by decide +kernel⟩
theorem zgf (D:DefAt K mg "ways_from" s_ways_from) (T:Bn mg) (C_ways_behind:Callee P w K mg base "ways_behind" 1 ["step","ways","wanted","name"] sp_behindw):Callee P w K mg base "ways_from" 2 ["steps","ways","wanted","name"] sp_from:=by
 refine D.callee zcE (fun _ _ _ _ _ _=>ln4 fun _ _ _ _=>rfl) (fun vs H Q E h => ?_) (fun f cdv A outer s H vs Q E hr h => ?_)
 ·obtain ⟨l,a,b,x,ws,ps,A',B',rfl,_⟩:=h
  rfl
 ·obtain ⟨l,a,b,x,ws,ps,A',B',rfl,hl,sr,hpl,hps,ha,hb,q⟩:=h
  have S:=zcE
  have hwl:=sr.length
  refine ⟨_,zah (zam (zai (zeM rfl) rfl T.n_sum boot_sum (zaa (za3 (own := ["step"]) (caps := [(1,"ways"),(2,"wanted"),(3,"name")]) rfl ⟨rfl,rfl,rfl,rfl,⟨⟨rfl,rfl,.inl rfl⟩,⟨rfl,rfl,.inl rfl⟩,⟨rfl,rfl,.inl rfl⟩,trivial⟩⟩ (zaC (pv 0)) (fun _ _ _ _ _ _=>zaj (i:=0) (zaP (by decide +kernel)) rfl (As rfl)) (fun _ _ _ _ _ _=>zbm) (fun _ _ _ _ _ _=>zaR C_ways_behind (hr.mono (by decide)) rfl (zaa (pv 0) (zaa (pv 1) (zaa (pv 2) (zaa (pv 3) zac)))))) zac))),?_⟩
  refine ⟨_,rfl,_,rfl,⟨_,SqL.of hl⟩,fun D hD => ?_⟩
  refine zfI (capv := [some (.ref a),some (.ref b),some (.str x)]) (by rfl) (zao K l ws) (big (by omega)) hD (fun H' s'=>SqL.of (s' _ _ hl)) (fun _=>true) (fun u=>V.int ((bh x A' B' (ps.getD u ("",0)):Nat):Int)) (fun _ _ _=>nofun) (fun u y hy H' R s' h=>h H' (Same.refl _)) ?_ ?_
  ·intro u y hy _ H' R s' h
   have hu:u < ps.length:=by rw [<- hwl]; exact (Ao.mp hy).1
   obtain ⟨qa,e4,e5⟩:=sr.get (A6 hu)
   rw [hy] at e4
   cases e4
   have hm:=hps _ (Cp hu)
   refine ⟨_,rfl,_,rfl,_,rfl,_,rfl,qa,a,b,x,ps[u],A',B',rfl,s' _ _ e5,hm.1,hm.2,s' _ _ ha,s' _ _ hb,?_⟩
   have:=h H' (Same.refl _)
   rw [Aj,A6 hu] at this
   exact this
  intro H1 s1 e1
  refine ⟨D,ps.map fun p=>((bh x A' B' p:Nat):Int),rfl,SqL.of ?_,?_⟩
  ·rw [e1,Cm.mpr (fun _ _=>rfl),hwl,Bp]
   congr 2
   refine Fd fun u => ?_
   rw [Af,Af]
   by_cases z:u < ps.length
   ·rw [Cd z,A6 z,Cf,Cf,Aj,A6 z]
    rfl
   ·rw [Cv (by rw [Ax]; omega),Cv (by omega)]
    rfl
  have e2:(ps.map fun p=>((bh x A' B' p:Nat):Int)).sum=(((ps.map (bh x A' B')).sum:Nat):Int):=by
   rw [<- sum_cast,Bp]
   rfl
  rw [e2]
  exact q H1 s1
noncomputable def WaysR (N:A3->Prop) (H:Hp) (ws:List V) (A:Nat->Nat->Nat) (n:Nat):Prop:=ws.length=n + 1/\∀ k:Nat,k<=n->∃ q,ws[k]?=some (.ref q)/\N q/\H q=some (.lst (wrow (A k)))
theorem WaysR.mono {N N':A3->Prop} {H H':Hp} {ws:List V} {A:Nat->Nat->Nat} {n:Nat} (r:WaysR N H ws A n) (hn:∀ q,N q->N' q) (m:∀ q o,N q->H q=some o->H' q=some o):WaysR N' H' ws A n:=⟨r.1,fun k hk=>let ⟨q,a,b,c⟩:=r.2 k hk; ⟨q,a,hn q b,m _ _ b c⟩⟩
theorem WaysR.snoc {N:A3->Prop} {H:Hp} {ws:List V} {A:Nat->Nat->Nat} {n:Nat} {q:A3} (r:WaysR N H ws A n) (hq:H q=some (.lst (wrow (A (n + 1))))) (hn:N q):WaysR N H (ws ++ [.ref q]) A (n + 1):=by
 refine ⟨by rw [Ag,r.1]; rfl,fun k hk => ?_⟩
 by_cases e:k=n + 1
 ·subst e
  exact ⟨q,by rw [Ca (by rw [r.1]; exact Aa _),r.1,Fn]; rfl,hn,hq⟩
 ·obtain ⟨q',a,b,c⟩:=r.2 k (by omega)
  exact ⟨q',by rw [C4 (by rw [r.1]; omega)]; exact a,b,c⟩
noncomputable def sp_close:Sp:=fun vs H Q _=>∃ (a:A3) (ts:List V) (C:Combs) (n:Nat),vs = [.ref a,.int (n:Nat)]/\H a=some (.lst ts)/\TabR H ts C/\GC C/\C.length<=8/\n<=200/\∀ (r:A3) (ws:List V) (H':Hp),Same H H'->H' r=some (.lst ws)->WaysR (fun _=>True) H' ws (Wy C) n->Q (.ref r) H'
theorem zbL:FnScope ["table","length","rows","passed"] ["table","length"] (defScope s_ways_to_close):=⟨rfl,rfl,rfl,by decide +kernel,rfl,by decide +kernel,by decide +kernel⟩
theorem ok_close (D:DefAt K mg "ways_to_close" s_ways_to_close) (T:Bn mg) (C_ways_from:Callee P w K mg base "ways_from" 2 ["steps","ways","wanted","name"] sp_from):Callee P w K mg base "ways_to_close" 3 ["table","length"] sp_close:=by
 refine D.callee zbL (fun _ _ _ _ _ _=>ln2 fun _ _=>rfl) (fun vs H Q E h => ?_) (fun f cdv A outer s H vs Q E hr h => ?_)
 ·obtain ⟨a,ts,C,n,rfl,_⟩:=h
  rfl
 ·obtain ⟨a,ts,C,n,rfl,ha,tb,gc,h8,hn,q⟩:=h
  have S:=zbL
  have htl:=tb.1
  refine ⟨_,zae (zak (i:=2) S.nd rfl (F4 rfl) (zaO (zaa (za3 (own := ["steps"]) (caps := []) rfl ⟨rfl,rfl,rfl,rfl,trivial⟩ (zaC (pv 0)) (fun _ _ _ _ _ _=>zaj (i:=0) (zaP (by decide +kernel)) rfl (As rfl)) (fun _ _ _ _ _ _=>zbm) (fun _ _ _ _ _ _=>zad)) zac)))
  (zae (zgS (zad) (zgU (zay zaz (pv 2) (zad) (fun _ _=>rfl)) (zad) zfh))
  (zae (za2 Be rfl (za4 rfl T.n_range (zaa (pv 1) zac)) (zaj (i:=3) S.nd rfl (As rfl))
   (zah (zaW (zcj Bh Bl Bj zaH (pv 2) (zaa (za3 (own := ["steps"]) (caps := [(2,"rows")]) rfl ⟨rfl,rfl,rfl,rfl,⟨⟨rfl,rfl,.inl rfl⟩,trivial⟩⟩ (zaC (pv 0)) (fun _ _ _ _ _ _=>zaj (i:=0) (zaP (by decide +kernel)) rfl (As rfl)) (fun _ _ _ _ _ _=>zbm) (fun _ _ _ _ _ _=>zaR C_ways_from (hr.mono (by decide)) rfl (zaa (pv 0) (zaa (zay (zbJ K rfl) (pv 1) (zga zeh (zad)) (fun _ _=>rfl)) (zaa (zay (zbJ K rfl) (pv 1) (zga zeh (zad)) (fun _ _=>rfl)) (zaa (zaw) zac)))))) zac)))))
  (zah (zam (pv 2))))),?_⟩
  refine ⟨_,rfl,_,rfl,⟨_,SqL.of ha⟩,fun D hD => ?_⟩
  refine zbV (capv := []) (by rfl) (zao K a ts) (big (by omega)) hD (fun H' s'=>SqL.of (s' _ _ ha)) (fun _=>true) (fun _=>V.int 0) (fun x hx H' R s' h=>h H' (Same.refl _)) (fun x hx _ H' R s' h=>h H' (Same.refl _)) ?_
  intro H1 s1 e1
  have e1':H1 D=some (.lst ((Ab 128).map fun _=>V.int 0)):=by
   rw [e1,Cm.mpr (fun _ _=>rfl)]
   congr 2
   refine Oj (by rw [A5,A5,Ax]; omega) fun i h1 h2 => ?_
   rw [Ia,Ia]
  refine ⟨bigr rfl,fun r nr => ?_⟩
  have s2:Same H1 (upd H1 r (.lst [.ref D])):=Same.new nr
  have hr2:upd H1 r (.lst [.ref D]) r=some (.lst [.ref D]):=zab
  have hD2:=s2 _ _ e1'
  have hDr:D≠r:=fun z=>by rw [<- z,e1'] at nr; cases nr
  have s12:=s1.trans s2
  have nr0:=s1.free nr
  generalize upd H1 r (.lst [.ref D])=H2 at s12 hr2 hD2 ⊢
  have hix:ixN ((Ab 128).map fun _=>V.int 0).length 0=some 0:=by rw [A5,Ax]; decide
  refine ⟨_,rfl,_,_,_,_,rfl,rfl,SqL.of hr2,(show atI [V.ref D] ((0:Nat):Int)=_ from zat rfl),D,_,_,_,rfl,rfl,hD2,hix,?_⟩
  have ew:((Ab 128).map fun _=>V.int 0).set 0 (V.int 1)=wrow (Wy C 0):=by
   unfold wrow
   rw [zgi _ _ (by decide)]
   refine Ck fun s _ => ?_
   show _=V.int (((if s=0 then 1 else 0:Nat)):Int)
   split <;> rfl
  rw [ew]
  have hDn0:H D=none:=hD
  have s3:Same H (upd H2 D (.lst (wrow (Wy C 0)))):=s12.put hDn0
  have hD3:upd H2 D (.lst (wrow (Wy C 0))) D=some (.lst (wrow (Wy C 0))):=zab
  have hr3:upd H2 D (.lst (wrow (Wy C 0))) r=some (.lst [.ref D]):=by rw [zaf hDr.symm]; exact hr2
  generalize upd H2 D (.lst (wrow (Wy C 0)))=H3 at s3 hD3 hr3 ⊢
  refine ⟨_,rfl,_,rfl,by omega,by omega,?_⟩
  refine zbE (zaI 0 ((n:Nat):Int).toNat) (fun i σ Hx=>Same H Hx/\∃ (ws:List V) (x3:Option V),σ = [some (.ref a),some (.int (n:Nat)),some (.ref r),x3]/\Hx r=some (.lst ws)/\WaysR (fun z=>z≠r) Hx ws (Wy C) i) ⟨s3,[.ref D],_,rfl,hr3,rfl,fun k hk=>by
    have:k=0:=by omega
    subst this
    exact ⟨D,rfl,hDr,hD3⟩⟩ (fun _ _ _ _ _=>trivial) ?_ ?_
  ·rintro i x σ Hx hx ⟨sx,ws,x3,rfl,hrx,wr⟩
   obtain ⟨hi,rfl⟩:=zbk hx
   have hi':i < n:=by omega
   obtain ⟨qk,eqk,_,hqk⟩:=wr.2 i (Aa _)
   have hat:atI ws (-1)=some (.ref qk):=zha wr.1 eqk
   refine ⟨_,rfl,.inl ⟨rfl,_,SqL.of hrx⟩,_,rfl,_,rfl,⟨_,SqL.of (sx _ _ ha)⟩,fun D2 hD2 => ?_⟩
   refine zfI (capv := [some (.ref r)]) (by rfl) (zao K a ts) (big (by omega)) hD2 (fun H' s'=>SqL.of (s' _ _ (sx _ _ ha))) (fun _=>true) (fun s=>V.int ((Wy C (i + 1) s:Nat):Int)) (fun _ _ _=>nofun) (fun u y hy H' R s' h=>h H' (Same.refl _)) ?_ ?_
   ·intro u y hy _ H' R s' h
    have hu:u < 128:=by rw [<- htl]; exact (Ao.mp hy).1
    obtain ⟨qs,wss,e1,e2,e3⟩:=(tb.same (sx.trans s')).2 u hu
    rw [hy] at e1
    cases e1
    refine ⟨_,rfl,_,rfl,_,rfl,_,_,_,_,rfl,rfl,SqL.of (s' _ _ hrx),hat,_,rfl,_,rfl,_,_,_,_,rfl,rfl,SqL.of (s' _ _ hrx),hat,?_⟩
    refine ⟨qs,qk,qk,A0 "",wss,stp C u,Wy C i,Wy C i,rfl,e2,e3,by have:=zdR h8 u; omega,fun p hp=>zds gc hu hp,s' _ _ hqk,s' _ _ hqk,fun H'' s'' => ?_⟩
    have e:((stp C u).map (bh (A0 "") (Wy C i) (Wy C i))).sum=Wy C (i + 1) u:=((zhd C (A0 "")).succ i u).symm
    rw [e]
    exact h H'' s''
   intro H4 s4 e4
   have hr4:=s4 _ _ hrx
   have hD2r:D2≠r:=fun z=>by rw [z,hrx] at hD2; cases hD2
   have e4':H4 D2=some (.lst (wrow (Wy C (i + 1)))):=by
    rw [e4,Cm.mpr (fun _ _=>rfl),htl]
    rfl
   refine ⟨r,_,_,rfl,rfl,hr4,Ae (by have:=wr.1; omega:ws.length < 1000) zaK,?_⟩
   refine ⟨(sx.trans s4).put nr0,_,_,rfl,zab,?_⟩
   exact (WaysR.mono wr (fun _ z=>z) fun z o hz e=>by rw [zaf hz]; exact s4 _ _ e).snoc (by rw [zaf hD2r]; exact e4') hD2r
  ·rintro σ Hx ⟨sx,ws,x3,rfl,hrx,wr⟩
   rw [zbj,show ((n:Nat):Int).toNat=n by omega] at wr
   exact ⟨_,rfl,q r ws Hx sx hrx (wr.mono (fun _ _=>trivial) fun _ _ _ e=>e)⟩
noncomputable def sp_open:Sp:=fun vs H Q _=>∃ (l a b:A3) (x:Str) (ws:List V) (ps:List (Str×Int)) (A B:Nat->Nat) (p:Str×Int),vs = [.ref l,.ref a,.ref b,.str x]/\H l=some (.lst ws)/\StepsR H ws ps/\ps.length<=100/\(∀ p∈ps,0<=p.2/\p.2.toNat < 128)/\H a=some (.lst (wrow A))/\H b=some (.lst (wrow B))/\ps.find? (fun p=>decide (0 < bh x A B p))=some p/\∀ q H',Same H H'->H' q=some (.tup [.str p.1,.int p.2])->Q (.ref q) H'
theorem find_filterO {α : Type} {ps:List α} {f : α -> Bool} {p d : α} (h:ps.find? f=some p):∃ i,((Ab ps.length).filter fun i=>f (ps.getD i d))[0]?=some i/\ps[i]?=some p:=by
 induction ps with
 | nil=>cases h
 | cons x ps ih =>
  rw [Aw,List.range_succ_eq_map,Cy]
  by_cases e:f x=true
  ·rw [List.find?_cons_of_pos e] at h
   cases h
   exact ⟨0,by rw [if_pos (by simpa using e)]; rfl,rfl⟩
  ·rw [List.find?_cons_of_neg e] at h
   obtain ⟨i,h1,h2⟩:=ih h
   refine ⟨i + 1,?_,by simpa using h2⟩
   rw [if_neg (by simpa using e),Ix,Af]
   show (((Ab ps.length).filter fun i=>f (ps.getD i d))[0]?).map _=_
   rw [h1]
   rfl
theorem zbx:FnScope ["steps","ways","wanted","name"] ["steps","ways","wanted","name"] (defScope s_first_open_step):=⟨rfl,rfl,rfl,by decide +kernel,rfl,by decide +kernel,by decide +kernel⟩
theorem ok_open (D:DefAt K mg "first_open_step" s_first_open_step) (T:Bn mg) (C_ways_behind:Callee P w K mg base "ways_behind" 1 ["step","ways","wanted","name"] sp_behindw):Callee P w K mg base "first_open_step" 2 ["steps","ways","wanted","name"] sp_open:=by
 refine D.callee zbx (fun _ _ _ _ _ _=>ln4 fun _ _ _ _=>rfl) (fun vs H Q E h => ?_) (fun f cdv A outer s H vs Q E hr h => ?_)
 ·obtain ⟨l,a,b,x,ws,ps,A',B',p,rfl,_⟩:=h
  rfl
 ·obtain ⟨l,a,b,x,ws,ps,A',B',p,rfl,hl,st,hpl,hps,ha,hb,hf,q⟩:=h
  have S:=zbx
  have hlw:=st.length
  refine ⟨_,zah (zam (zay zaz (za3 (own := ["step"]) (caps := [(1,"ways"),(2,"wanted"),(3,"name")]) rfl ⟨rfl,rfl,rfl,rfl,⟨⟨rfl,rfl,.inl rfl⟩,⟨rfl,rfl,.inl rfl⟩,⟨rfl,rfl,.inl rfl⟩,trivial⟩⟩ (zaC (pv 0)) (fun _ _ _ _ _ _=>zaj (i:=0) (zaP (by decide +kernel)) rfl (As rfl)) (fun _ _ _ _ _ _=>zcw (zas zgL (zaR C_ways_behind (hr.mono (by decide)) rfl (zaa (pv 0) (zaa (pv 1) (zaa (pv 2) (zaa (pv 3) zac))))) (zad) (zax _))) (fun _ _ _ _ _ _=>pv 0)) (zad) (fun _ _=>rfl))),?_⟩
  refine ⟨_,rfl,_,rfl,⟨_,SqL.of hl⟩,fun D hD => ?_⟩
  have hne:∀ i,i < ws.length->ws.getD i .non ≠ .ref D:=fun i hi z=>by
   obtain ⟨qa,e1,e2⟩:=st.get (A6 (show i < ps.length by omega))
   rw [Aj,e1] at z
   cases z
   rw [hD] at e2
   cases e2
  refine zfI (capv := [some (.ref a),some (.ref b),some (.str x)]) (by rfl) (zao K l ws) (big (by omega)) hD (fun H' s'=>SqL.of (s' _ _ hl)) (fun i=>decide (0 < bh x A' B' (ps.getD i ("",0)))) (fun i=>ws.getD i .non) (fun i hi _=>hne i hi) ?_ ?_ ?_
  ·intro i y hy H' R s' h
   have hi:i < ps.length:=by rw [<- hlw]; exact (Ao.mp hy).1
   obtain ⟨qa,e1,e2⟩:=st.get (A6 hi)
   rw [hy] at e1
   cases e1
   obtain ⟨h0,h1⟩:=hps ps[i] (Cp hi)
   refine ⟨_,rfl,_,rfl,_,rfl,_,rfl,qa,a,b,x,ps[i],A',B',rfl,s' _ _ e2,h0,h1,s' _ _ ha,s' _ _ hb,_,_,rfl,rfl,_,rfl,?_⟩
   have:=h H' (Same.refl _)
   have e:decide (0 < bh x A' B' (ps.getD i ("",0)))=decide ((0:Int) < ((bh x A' B' ps[i]:Nat):Int)):=by
    rw [Aj,A6 hi,decide_eq_decide]
    show 0 < bh x A' B' ps[i] ↔ _
    omega
   rw [e] at this
   exact this
  ·intro i y hy _ H' R s' h
   refine ⟨_,rfl,?_⟩
   have:=h H' (Same.refl _)
   rw [Aj,hy] at this
   exact this
  ·intro H' s' e
   obtain ⟨i,h1,h2⟩:=find_filterO (d:=(("",0):Str×Int)) hf
   rw [hlw] at e
   obtain ⟨qa,e1,e2⟩:=st.get h2
   refine ⟨_,_,_,_,rfl,rfl,SqL.of e,zat (j:=0) ?_,q qa H' s' (s' _ _ e2)⟩
   rw [Af,h1,Cf,Aj,e1]
   rfl
noncomputable def sp_layf (ea:Nat->A3):Sp:=fun vs H Q E=>∃ (a wa wb:A3) (x:Str) (ts ws ws':List V) (C:Combs) (n:Nat) (B:Nat->Nat->Nat),vs = [.ref a,.ref wa,.ref wb,.str x]/\H a=some (.lst ts)/\TabR H ts C/\GC C/\C.length<=8/\n<=200/\H wa=some (.lst ws)/\WaysR (fun _=>True) H ws (Wy C) n/\H wb=some (.lst ws')/\WaysR (fun _=>True) H ws' B n/\Sel C x B /\
 (if 0 < B n 0 then ∀ (r:A3) (wl:List V) (H':Hp),Same H H'->H r=none->H' r=some (.lst wl)->LaysR H' wl (fnm C x B n) n->Q (.ref r) H' else E (.ref (ea 14)) none H)
theorem zcF:FnScope ["table","ways","wanted","name","left","layings","shape","place","step"] ["table","ways","wanted","name"] (defScope s_lay_first):=⟨rfl,rfl,rfl,by decide +kernel,rfl,by decide +kernel,by decide +kernel⟩
theorem ok_layf {ea:Nat->A3} (D:DefAt K mg "lay_first" s_lay_first) (T:Bn mg) (O_NoFilling:Err K mg "NoFilling" (ea 14)) (C_first_open_step:Callee P w K mg base "first_open_step" 2 ["steps","ways","wanted","name"] sp_open):Callee1 P w K mg base "lay_first" 3 ["table","ways","wanted","name"] (sp_layf ea):=by
 refine D.callee1 zcF (fun _ _ _ _ _ _=>ln4 fun _ _ _ _=>rfl) (fun vs H Q E h => ?_) (fun f cdv A outer s H vs Q E hr h => ?_)
 ·obtain ⟨a,wa,wb,x,ts,ws,ws',C,n,B,rfl,_⟩:=h
  rfl
 ·obtain ⟨a,wa,wb,x,ts,ws,ws',C,n,B,rfl,ha,tb,gc,h8,hn,hwa,wr,hwb,wr',sl,q⟩:=h
  have S:=zcF
  have elen:((ws.length:Nat):Int) - 1=((n:Nat):Int):=by rw [wr.1]; omega
  refine ⟨_,zae (zak (i:=4) S.nd rfl (As rfl) (zau zc4 (zai zar rfl T.n_len Bu (zaa (pv 1) zac)) (zad)))
  (zae (zaL (zas zck (zay zaz (zay zaz (pv 2) (pv 4) (fun _ _=>rfl)) (zad) (fun _ _=>rfl)) (zad) (zax _))
   (zah (zbq O_NoFilling rfl (zaa (zaw) zac)))
   (zap))
  (zae (zak (i:=5) S.nd rfl (As rfl) (zaO (zac)))
  (zae (zak (i:=6) S.nd rfl (As rfl) (zad))
  (zae (za2 Mb rfl (za4 rfl T.n_range (zaa (pv 4) zac)) (zaj (i:=7) S.nd rfl (As rfl))
   (zae (zak (i:=4) S.nd rfl (As rfl) (zau zc4 (pv 4) (zad)))
   (zae (zak (i:=8) S.nd rfl (As rfl) (zaR C_first_open_step (hr.mono (by decide)) rfl (zaa (zay zaz (pv 0) (pv 6) (fun _ _=>rfl)) (zaa (zay zaz (pv 1) (pv 4) (fun _ _=>rfl)) (zaa (zay zaz (pv 2) (pv 4) (fun _ _=>rfl)) (zaa (pv 3) zac))))))
   (zbC (zaL (zas zer (zay za6 (pv 8) (zad) (fun _ _=>rfl)) (zaw) (zax _))
    (zah (zaW (zcj Bh Bl Bj zaH (pv 5) (zaa (za9 (zaa (pv 7) (zaa (zay za6 (pv 8) (zad) (fun _ _=>rfl)) zac))) zac))))
    (zap))
   (zbC (zaL (zas zck (zay za6 (pv 8) (zad) (fun _ _=>rfl)) (pv 3) (zax _))
    (zah (zak (i:=2) S.nd rfl (As rfl) (pv 1)))
    (zap))
   (zah (zak (i:=6) S.nd rfl (As rfl) (zay za6 (pv 8) (zad) (fun _ _=>rfl)))))))))
  (zah (zam (pv 5))))))),?_⟩
  refine ⟨_,rfl,_,_,rfl,.inl (SqL.of hwa),_,_,rfl,rfl,?_⟩
  obtain ⟨qn,eqn,_,hqn⟩:=wr'.2 n (Aa _)
  refine ⟨_,rfl,_,rfl,_,_,_,_,rfl,rfl,SqL.of hwb,by rw [elen]; exact zat eqn,_,_,_,_,rfl,rfl,SqL.of hqn,(show atI (wrow (B n)) ((0:Nat):Int)=_ from zfQ _ (by decide)),rfl,_,rfl,?_⟩
  by_cases hb:0 < B n 0
  case neg =>
   rw [if_neg hb] at q
   have:B n 0=0:=by omega
   rw [this,decide_eq_true (show V.int ((0:Nat):Int)=V.int 0 from rfl)]
   exact iteT ⟨bigr rfl,q⟩
  rw [if_pos hb] at q
  rw [decide_eq_false (show ¬ V.int ((B n 0:Nat):Int)=V.int 0 from fun z=>by injection z with z; omega)]
  refine iteF ?_
  refine ⟨bigr rfl,fun r nr => ?_⟩
  have s1:Same H (upd H r (.lst [])):=Same.new nr
  refine ⟨_,rfl,_,rfl,by rw [elen]; omega,by rw [elen]; omega,?_⟩
  have hok:=zfP gc sl hb
  let wd:Bool->A3:=fun b=>if b=true then wa else wb
  rw [elen,show ((n:Nat):Int).toNat=n by omega]
  refine zbE (zaI 0 n) (fun i σ Hx=>Same H Hx/\∃ (wl:List V) (x7 x8:Option V),σ = [some (.ref a),some (.ref wa),some (.ref (wd (fw C x B n i).2)),some (.str x),some (.int ((n - i:Nat):Int)),some (.ref r),some (.int (((fw C x B n i).1:Nat):Int)),x7,x8]/\Hx r=some (.lst wl)/\LaysR Hx wl (fnm C x B n) i) ⟨s1,[],_,_,by rw [Q8,<- elen]; rfl,zab,.nil⟩ (fun _ _ _ _ _=>trivial) ?_ ?_
  ·rintro i y σ Hx hx ⟨sx,wl,x7,x8,rfl,hrx,lr⟩
   obtain ⟨hi,rfl⟩:=zbk hx
   rw [Dy]
   obtain ⟨h1,h2⟩:=hok i (by omega)
   obtain ⟨g1,g2,g3⟩:=zd6 gc sl hb hi
   have hnx:=(hok (i + 1) (by omega)).1
   have e1:((n - i:Nat):Int) - 1=((n - 1 - i:Nat):Int):=by omega
   obtain ⟨qs,wss,t1,t2,t3⟩:=(tb.same sx).2 _ h1
   obtain ⟨qa,a1,_,a2⟩:=wr.2 (n - 1 - i) (by omega)
   have hwd:∃ wsd qb,Hx (wd (fw C x B n i).2)=some (.lst wsd)/\wsd[n - 1 - i]?=some (.ref qb)/\Hx qb=some (.lst (wrow (ro C B (fw C x B n i).2 (n - 1 - i)))):=by
    show ∃ wsd qb,Hx (if (fw C x B n i).2=true then wa else wb)=_/\_/\_
    unfold ro
    cases (fw C x B n i).2 with
    | true=>exact ⟨ws,qa,sx _ _ hwa,a1,sx _ _ a2⟩
    | false =>
     obtain ⟨qb,b1,_,b2⟩:=wr'.2 (n - 1 - i) (by omega)
     exact ⟨ws',qb,sx _ _ hwb,b1,sx _ _ b2⟩
   obtain ⟨wsd,qb,d1,d2,d3⟩:=hwd
   refine ⟨_,rfl,_,_,rfl,rfl,?_⟩
   refine ⟨_,rfl,_,rfl,_,_,_,_,rfl,rfl,SqL.of (sx _ _ ha),zat t1,_,rfl,_,rfl,_,_,_,_,rfl,rfl,SqL.of (sx _ _ hwa),by rw [e1]; exact zat a1,_,rfl,_,rfl,_,_,_,_,rfl,rfl,SqL.of d1,by rw [e1]; exact zat d2,_,rfl,?_⟩
   refine ⟨qs,qa,qb,x,wss,stp C (fw C x B n i).1,Wy C (n - 1 - i),ro C B (fw C x B n i).2 (n - 1 - i),_,rfl,t2,t3,by have:=zdR h8 (fw C x B n i).1; omega,fun p hp=>zds gc h1 hp,sx _ _ a2,d3,g1,fun qt H2 s2 hqt => ?_⟩
   dsimp only at hqt
   have lr2:LaysR H2 wl (fnm C x B n) i:=lr.mono fun _ _ e=>s2 _ _ e
   have hr2:=s2 _ _ hrx
   have sx2:=sx.trans s2
   have hwl:=lr2.len
   have nr0:H r=none:=nr
   refine ⟨fun σ Hy=>Same H Hy/\Hy qt=some (.tup [.str (fnm C x B n i),.int (((fw C x B n (i + 1)).1:Nat):Int)])/\∃ wl',Hy r=some (.lst wl')/\LaysR Hy wl' (fnm C x B n) (i + 1) /\ σ = [some (.ref a),some (.ref wa),some (.ref (wd (fw C x B n i).2)),some (.str x),some (.int (((n - i:Nat):Int) - 1)),some (.ref r),some (.int (((fw C x B n i).1:Nat):Int)),some (.int ((i:Nat):Int)),some (.ref qt)],?_,?_⟩
   ·refine ⟨_,rfl,_,_,_,_,rfl,rfl,SqT.of hqt,at0,rfl,_,rfl,?_⟩
    by_cases hz:fnm C x B n i=A0 ""
    ·rw [decide_eq_true (by rw [hz])]
     refine iteF ?_
     exact ⟨sx2,hqt,wl,hr2,lr2.skip hz,rfl⟩
    ·rw [decide_eq_false (fun z=>hz (by injection z))]
     refine iteT ?_
     refine ⟨_,rfl,.inl ⟨rfl,_,SqL.of hr2⟩,_,rfl,_,rfl,_,_,_,_,rfl,rfl,SqT.of hqt,at0,bigr rfl,fun tt ntt => ?_⟩
     have s3:Same H2 (upd H2 tt (.tup [.int ((i:Nat):Int),.str (fnm C x B n i)])):=Same.new ntt
     have htt:upd H2 tt (.tup [.int ((i:Nat):Int),.str (fnm C x B n i)]) tt=some (.tup [.int ((i:Nat):Int),.str (fnm C x B n i)]):=zab
     have hr3:=s3 _ _ hr2
     have hqt3:=s3 _ _ hqt
     have lr3:LaysR (upd H2 tt (.tup [.int ((i:Nat):Int),.str (fnm C x B n i)])) wl (fnm C x B n) i:=lr2.mono fun _ _ e=>s3 _ _ e
     generalize upd H2 tt (.tup [.int ((i:Nat):Int),.str (fnm C x B n i)])=H3 at s3 htt hr3 hqt3 lr3 ⊢
     refine ⟨r,_,_,rfl,rfl,hr3,Ae (by omega:wl.length < 1000) zaK,?_⟩
     have kt:∀ qa ys,H3 qa=some (.tup ys)->upd H3 r (.lst (wl ++ [.ref tt])) qa=some (.tup ys):=fun qa ys z=>by rw [zaf (fun z2=>by rw [z2,hr3] at z; cases z)]; exact z
     exact ⟨(sx2.trans s3).put nr0,kt _ _ hqt3,_,zab,(lr3.mono kt).snoc hz (kt _ _ htt),rfl⟩
   rintro σ Hy ⟨sy,hqy,wl',hry,lry,rfl⟩
   refine ⟨fun σ Hz=>Hz=Hy /\ σ = [some (.ref a),some (.ref wa),some (.ref (wd (fw C x B n (i + 1)).2)),some (.str x),some (.int (((n - i:Nat):Int) - 1)),some (.ref r),some (.int (((fw C x B n i).1:Nat):Int)),some (.int ((i:Nat):Int)),some (.ref qt)],?_,?_⟩
   ·refine ⟨_,rfl,_,_,_,_,rfl,rfl,SqT.of hqy,at0,_,rfl,rfl,_,rfl,?_⟩
    rw [g2]
    by_cases hz:fnm C x B n i=x
    ·rw [decide_eq_true (show V.str (fnm C x B n i)=V.str x by rw [hz]),decide_eq_true hz,Mi]
     refine iteT ?_
     exact ⟨_,rfl,rfl,rfl⟩
    ·rw [decide_eq_false (show ¬ V.str (fnm C x B n i)=V.str x from fun z=>hz (by injection z)),decide_eq_false hz,Lw]
     refine iteF ?_
     exact ⟨rfl,rfl⟩
   rintro σ Hz ⟨rfl,rfl⟩
   refine ⟨_,rfl,_,_,_,_,rfl,rfl,SqT.of hqy,at1,?_⟩
   refine ⟨sy,wl',some (.int ((i:Nat):Int)),some (.ref qt),?_,hry,lry⟩
   rw [e1,show n - (i + 1)=n - 1 - i by omega]
   rfl
  ·rintro σ Hx ⟨sx,wl,x7,x8,rfl,hrx,lr⟩
   rw [zbj] at lr
   exact ⟨_,rfl,q r wl Hx sx nr hrx lr⟩
noncomputable def sp_chk (ea:Nat->A3):Sp:=fun vs H Q E=>∃ n,vs = [.int n]/\(if 0<=n/\n<=200 then Q .non H else E (.ref (ea 13)) none H)
theorem zbO:FnScope ["length"] ["length"] (defScope s_check_length):=⟨rfl,rfl,rfl,by decide +kernel,rfl,by decide +kernel,by decide +kernel⟩
theorem ok_chk {ea:Nat->A3} (D:DefAt K mg "check_length" s_check_length) (T:Bn mg) (V_MOST_FILLED:∃ t,mg "MOST_FILLED" = some (.int 200 t)) (O_BadLength:Err K mg "BadLength" (ea 13)):Callee1 P w K mg base "check_length" 1 ["length"] (sp_chk ea):=by
 refine D.callee1 zbO (fun _ _ _ _ _ _=>ln1 fun _=>rfl) (fun vs H Q E h => ?_) (fun f cdv A outer s H vs Q E hr h => ?_)
 ·obtain ⟨n,rfl,_⟩:=h
  rfl
 ·obtain ⟨n,rfl,q⟩:=h
  have S:=zbO
  refine ⟨_,zah (zaL (zbQ (zdW zet zet (zad) (pv 0) (zb7 rfl V_MOST_FILLED)))
   (zah (zbq O_BadLength rfl (zaa (zaw) zac)))
   (zap)),?_⟩
  refine ⟨_,rfl,_,_,rfl,rfl,_,rfl,?_⟩
  refine ite2 (fun h0 => ?_) (fun h0 => ?_)
  rotate_left
  ·have h0:¬ (0:Int)<=n:=by simpa using h0
   rw [if_neg (fun z=>h0 z.1)] at q
   exact ⟨_,rfl,iteT ⟨bigr rfl,q⟩⟩
  have h0:(0:Int)<=n:=by simpa using h0
  refine ⟨_,_,rfl,rfl,_,rfl,?_⟩
  by_cases h1:n<=200
  case neg =>
   rw [if_neg (fun z=>h1 z.2)] at q
   rw [decide_eq_false h1]
   exact iteT ⟨bigr rfl,q⟩
  rw [if_pos ⟨h0,h1⟩] at q
  rw [decide_eq_true h1]
  exact iteF q
theorem cut_last {ws:List V} {n:Nat} (h:ws.length=n + 1):cutV ws none (some (-1))=ws.take n:=by
 unfold cutV
 rw [h]
 show List.take ((if (-1:Int) < 0 then ((-1:Int) + ((n + 1:Nat):Int)).toNat else min (-1:Int).toNat (n + 1)) - 0) (ws.drop 0)=_
 rw [if_pos (by decide),Lc]
 congr 1
 omega
noncomputable def sp_layw:Sp:=fun vs H Q _=>∃ (a wa:A3) (x:Str) (ts ws:List V) (C:Combs) (n:Nat),vs = [.ref a,.ref wa,.str x]/\H a=some (.lst ts)/\TabR H ts C/\GC C/\C.length<=8/\n<=200/\H wa=some (.lst ws)/\WaysR (fun _=>True) H ws (Wy C) n/\∀ (r:A3) (ws':List V) (H':Hp),Same H H'->H' r=some (.lst ws')->WaysR (fun _=>True) H' ws' (Ww C x) n->Q (.ref r) H'
theorem zb2:FnScope ["table","ways","name","rows","row"] ["table","ways","name"] (defScope s_ways_to_lay):=⟨rfl,rfl,rfl,by decide +kernel,rfl,by decide +kernel,by decide +kernel⟩
theorem ok_layw (D:DefAt K mg "ways_to_lay" s_ways_to_lay) (T:Bn mg) (C_ways_from:Callee P w K mg base "ways_from" 2 ["steps","ways","wanted","name"] sp_from):Callee P w K mg base "ways_to_lay" 3 ["table","ways","name"] sp_layw:=by
 refine D.callee zb2 (fun _ _ _ _ _ _=>ln3 fun _ _ _=>rfl) (fun vs H Q E h => ?_) (fun f cdv A outer s H vs Q E hr h => ?_)
 ·obtain ⟨a,wa,x,ts,ws,C,n,rfl,_⟩:=h
  rfl
 ·obtain ⟨a,wa,x,ts,wsA,C,n,rfl,ha,tb,gc,h8,hn,hwa,wrA,q⟩:=h
  have S:=zb2
  have htl:=tb.1
  refine ⟨_,zae (zak (i:=3) S.nd rfl (F4 rfl) (zaO (zaa (za3 (own := ["steps"]) (caps := []) rfl ⟨rfl,rfl,rfl,rfl,trivial⟩ (zaC (pv 0)) (fun _ _ _ _ _ _=>zaj (i:=0) (zaP (by decide +kernel)) rfl (As rfl)) (fun _ _ _ _ _ _=>zbm) (fun _ _ _ _ _ _=>zad)) zac)))
  (zae (za2 Be rfl (zaC (pe_slice sl_list (pv 1) (po_none) (po_some (zga zeh (zad))))) (zaj (i:=4) S.nd rfl (F4 rfl))
   (zah (zaW (zcj Bh Bl Bj zaH (pv 3) (zaa (za3 (own := ["steps"]) (caps := [(4,"row"),(3,"rows"),(2,"name")]) rfl ⟨rfl,rfl,rfl,rfl,⟨⟨rfl,rfl,.inl rfl⟩,⟨rfl,rfl,.inl rfl⟩,⟨rfl,rfl,.inl rfl⟩,trivial⟩⟩ (zaC (pv 0)) (fun _ _ _ _ _ _=>zaj (i:=0) (zaP (by decide +kernel)) rfl (As rfl)) (fun _ _ _ _ _ _=>zbm) (fun _ _ _ _ _ _=>zaR C_ways_from (hr.mono (by decide)) rfl (zaa (pv 0) (zaa (pv 1) (zaa (zay (zbJ K rfl) (pv 2) (zga zeh (zad)) (fun _ _=>rfl)) (zaa (pv 3) zac)))))) zac)))))
  (zah (zam (pv 3)))),?_⟩
  refine ⟨_,rfl,_,rfl,⟨_,SqL.of ha⟩,fun D hD => ?_⟩
  refine zbV (capv := []) (by rfl) (zao K a ts) (big (by omega)) hD (fun H' s'=>SqL.of (s' _ _ ha)) (fun _=>true) (fun _=>V.int 0) (fun x hx H' R s' h=>h H' (Same.refl _)) (fun x hx _ H' R s' h=>h H' (Same.refl _)) ?_
  intro H1 s1 e1
  have e1':H1 D=some (.lst (wrow (Ww C x 0))):=by
   rw [e1,Cm.mpr (fun _ _=>rfl)]
   unfold wrow
   congr 2
   refine Oj (by rw [A5,A5,Ax]; omega) fun i h1 h2 => ?_
   rw [Ia,Ia]
   rfl
  refine ⟨bigr rfl,fun r nr => ?_⟩
  have s2:Same H1 (upd H1 r (.lst [.ref D])):=Same.new nr
  have hr2:upd H1 r (.lst [.ref D]) r=some (.lst [.ref D]):=zab
  have hD2:=s2 _ _ e1'
  have hDr:D≠r:=fun z=>by rw [<- z,e1'] at nr; cases nr
  have s12:=s1.trans s2
  have nr0:=s1.free nr
  generalize upd H1 r (.lst [.ref D])=H2 at s12 hr2 hD2 ⊢
  refine ⟨_,rfl,_,rfl,_,rfl,_,_,rfl,SqL.of (s12 _ _ hwa),fun sl nsl => ?_⟩
  rw [cut_last wrA.1]
  have s3:Same H2 (upd H2 sl (.lst (wsA.take n))):=Same.new nsl
  have hsl:upd H2 sl (.lst (wsA.take n)) sl=some (.lst (wsA.take n)):=zab
  have hslr:sl≠r:=fun z=>by rw [z,hr2] at nsl; cases nsl
  have hr3:=s3 _ _ hr2
  have hD3:=s3 _ _ hD2
  have s13:=s12.trans s3
  generalize upd H2 sl (.lst (wsA.take n))=H3 at s13 hsl hr3 hD3 ⊢
  have hlen:(wsA.take n).length=n:=by rw [Cw,wrA.1]; omega
  refine ⟨_,rfl,⟨_,SqL.of hsl⟩,?_⟩
  refine zbE (zao K sl (wsA.take n)) (fun i σ Hx=>Same H Hx/\Hx sl=some (.lst (wsA.take n))/\∃ (ws:List V) (x4:Option V),σ = [some (.ref a),some (.ref wa),some (.str x),some (.ref r),x4]/\Hx r=some (.lst ws)/\WaysR (fun z=>z≠r) Hx ws (Ww C x) i) ⟨s13,hsl,[.ref D],_,rfl,hr3,rfl,fun k hk=>by
    have:k=0:=by omega
    subst this
    exact ⟨D,rfl,hDr,hD3⟩⟩ (fun u σ Hz _ h=>SqL.of h.2.1) ?_ ?_
  ·rintro i y σ Hx hy ⟨sx,hslx,ws,x4,rfl,hrx,wr⟩
   have hi':i < n:=by rw [<- hlen]; exact (Ao.mp hy).1
   obtain ⟨qa,eqa,_,hqa⟩:=wrA.2 i (by omega)
   rw [List.getElem?_take,if_pos hi',eqa] at hy
   cases hy
   obtain ⟨qk,eqk,_,hqk⟩:=wr.2 i (Aa _)
   have hat:atI ws (-1)=some (.ref qk):=zha wr.1 eqk
   refine ⟨_,rfl,.inl ⟨rfl,_,SqL.of hrx⟩,_,rfl,_,rfl,⟨_,SqL.of (sx _ _ ha)⟩,fun D2 hD2 => ?_⟩
   refine zfI (capv := [some (.ref qa),some (.ref r),some (.str x)]) (by rfl) (zao K a ts) (big (by omega)) hD2 (fun H' s'=>SqL.of (s' _ _ (sx _ _ ha))) (fun _=>true) (fun s=>V.int ((Ww C x (i + 1) s:Nat):Int)) (fun _ _ _=>nofun) (fun u y hy H' R s' h=>h H' (Same.refl _)) ?_ ?_
   ·intro u y hy _ H' R s' h
    have hu:u < 128:=by rw [<- htl]; exact (Ao.mp hy).1
    obtain ⟨qs,wss,e1,e2,e3⟩:=(tb.same (sx.trans s')).2 u hu
    rw [hy] at e1
    cases e1
    refine ⟨_,rfl,_,rfl,_,rfl,_,rfl,_,_,_,_,rfl,rfl,SqL.of (s' _ _ hrx),hat,_,rfl,?_⟩
    refine ⟨qs,qa,qk,x,wss,stp C u,Wy C i,Ww C x i,rfl,e2,e3,by have:=zdR h8 u; omega,fun p hp=>zds gc hu hp,s' _ _ (sx _ _ hqa),s' _ _ hqk,fun H'' s'' => ?_⟩
    exact h H'' s''
   intro H4 s4 e4
   have hr4:=s4 _ _ hrx
   have hD2r:D2≠r:=fun z=>by rw [z,hrx] at hD2; cases hD2
   have e4':H4 D2=some (.lst (wrow (Ww C x (i + 1)))):=by
    rw [e4,Cm.mpr (fun _ _=>rfl),htl]
    rfl
   refine ⟨r,_,_,rfl,rfl,hr4,Ae (by have:=wr.1; omega:ws.length < 1000) zaK,?_⟩
   refine ⟨(sx.trans s4).put nr0,by rw [zaf hslr]; exact s4 _ _ hslx,_,_,rfl,zab,?_⟩
   exact (WaysR.mono wr (fun _ z=>z) fun z o hz e=>by rw [zaf hz]; exact s4 _ _ e).snoc (by rw [zaf hD2r]; exact e4') hD2r
  ·rintro σ Hx ⟨sx,hslx,ws,x4,rfl,hrx,wr⟩
   rw [hlen] at wr
   exact ⟨_,rfl,q r ws Hx sx hrx (wr.mono (fun _ _=>trivial) fun _ _ _ e=>e)⟩
noncomputable def sp_ffillw (ea:Nat->A3) (C:A3):Sp:=fun vs H Q E=>∃ b l G cs past x n,vs = [.ref b,.str x,.int n]/\Bk C G H b l cs past /\
 (if (cGet cs x).isSome=true then (if 0<=n/\n<=200 then (if 0 < Ww (srt cs) x n.toNat 0 then ∀ (r:A3) (wl:List V) (H':Hp),Same H H'->H r=none->H' r=some (.lst wl)->LaysR H' wl (fnm (srt cs) x (Ww (srt cs) x) n.toNat) n.toNat->Q (.ref r) H' else ∀ H',Same H H'->E (.ref (ea 14)) none H') else E (.ref (ea 13)) none H) else E (.ref (ea 4)) none H)
theorem zbi:FnScope ["book","name","length","table","ways"] ["book","name","length"] (defScope s_first_filling_with):=⟨rfl,rfl,rfl,by decide +kernel,rfl,by decide +kernel,by decide +kernel⟩
theorem ok_ffillw {ea:Nat->A3} {C:A3} (D:DefAt K mg "first_filling_with" s_first_filling_with) (T:Bn mg) (BA:BookAt K C) (M_check_comb:Method P w K mg base C "check_comb" (CX1 P w) 1 ["self","name"] (sp_check ea C)) (C_check_length:Callee1 P w K mg base "check_length" 1 ["length"] (sp_chk ea)) (C_step_table:Callee1 P w K mg base "step_table" 4 ["book"] (sp_table C)) (C_ways_to_close:Callee P w K mg base "ways_to_close" 3 ["table","length"] sp_close) (C_ways_to_lay:Callee P w K mg base "ways_to_lay" 3 ["table","ways","name"] sp_layw) (C_lay_first:Callee1 P w K mg base "lay_first" 3 ["table","ways","wanted","name"] (sp_layf ea)):Callee1 P w K mg base "first_filling_with" 5 ["book","name","length"] (sp_ffillw ea C):=by
 refine D.callee1 zbi (fun _ _ _ _ _ _=>ln3 fun _ _ _=>rfl) (fun vs H Q E h => ?_) (fun f cdv A outer s H vs Q E hr h => ?_)
 ·obtain ⟨b,l,G,cs,past,x,n,rfl,_⟩:=h
  rfl
 ·obtain ⟨b,l,G,cs,past,x,n,rfl,B,q⟩:=h
  have S:=zbi
  have B_cls:=BA.cls
  obtain ⟨gc,h8⟩:=srt_gcS B
  obtain ⟨dx,d,hb,_⟩:=id B.ins
  refine ⟨_,zae (zaW (zfM (pv 0) B_cls M_check_comb (hr.mono (by decide)) (by first | exact zdZ | exact za1 | exact zcz | exact zbh) (zaa (pv 1) zac)))
  (zae (zaW (zep C_check_length (hr.mono (by decide)) (by first | exact za1 | exact zcz | exact zbh) rfl (zaa (pv 2) zac)))
  (zae (zak (i:=3) S.nd rfl (As rfl) (zep C_step_table (hr.mono (by decide)) (by first | exact za1 | exact zcz | exact zbh) rfl (zaa (pv 0) zac)))
  (zae (zak (i:=4) S.nd rfl (As rfl) (zaR C_ways_to_close (hr.mono (by decide)) rfl (zaa (pv 3) (zaa (pv 2) zac))))
  (zah (zam (zep C_lay_first (hr.mono (by decide)) (by first | exact za1 | exact zcz | exact zbh) rfl (zaa (pv 3) (zaa (pv 4) (zaa (zaR C_ways_to_lay (hr.mono (by decide)) rfl (zaa (pv 3) (zaa (pv 4) (zaa (pv 1) zac)))) (zaa (pv 1) zac)))))))))),?_⟩
  refine ⟨_,rfl,_,_,_,rfl,hb,rfl,_,rfl,b,l,G,cs,past,x,rfl,B,?_⟩
  by_cases hx:(cGet cs x).isSome=true
  case neg =>
   rw [if_neg hx] at q ⊢
   exact q
  rw [if_pos hx] at q ⊢
  refine ⟨_,rfl,n,rfl,?_⟩
  by_cases hn:0<=n/\n<=200
  case neg =>
   rw [if_neg hn] at q ⊢
   exact q
  rw [if_pos hn] at q ⊢
  obtain ⟨k,rfl⟩:=Mg hn.1
  rw [show ((k:Nat):Int).toNat=k by omega] at q
  refine ⟨_,rfl,b,l,G,cs,past,rfl,B,fun a H1 ts s1 na ha tb => ?_⟩
  refine ⟨_,rfl,_,rfl,a,ts,srt cs,k,rfl,ha,tb,gc,h8,by omega,fun r ws H2 s2 hr2 wr => ?_⟩
  have s12:=s1.trans s2
  refine ⟨_,rfl,_,rfl,_,rfl,_,rfl,_,rfl,a,r,x,ts,ws,srt cs,k,rfl,s2 _ _ ha,tb.same s2,gc,h8,by omega,hr2,wr,fun r' ws' H3 s3 hr3 wr' => ?_⟩
  have s13:=s12.trans s3
  have wr3:WaysR (fun _=>True) H3 ws (Wy (srt cs)) k:=wr.mono (fun _ z=>z) fun _ _ _ e=>s3 _ _ e
  refine ⟨_,rfl,a,r,r',x,ts,ws,ws',srt cs,k,Ww (srt cs) x,rfl,s3 _ _ (s2 _ _ ha),tb.same (s2.trans s3),gc,h8,by omega,s3 _ _ hr2,wr3,hr3,wr',zgK _ _,?_⟩
  by_cases hw:0 < Ww (srt cs) x k 0
  ·rw [if_pos hw] at q ⊢
   intro p wl H4 s4 np hp lr
   exact q p wl H4 (s13.trans s4) (s13.free np) hp lr
  ·rw [if_neg hw] at q ⊢
   exact q H3 s13
noncomputable def sp_lteeth:Sp:=fun vs H Q _=>∃ (k:A3) (x:Str) (ws:List V) (ks:Combs) (ts:List Int) (G:A3->Prop),vs = [.ref k,.str x]/\H k=some (.lst ws)/\Drawn G H ws ks/\cGet ks x=some ts/\∀ t,G t->H t=some (.lst (ts.map V.int))->Q (.ref t) H
theorem zfk:FnScope ["_law_kinds","_law_word_here","_law_name","_law_teeth_here"] ["_law_kinds","_law_word_here"] (defScope s_teeth):=⟨rfl,rfl,rfl,by decide +kernel,rfl,by decide +kernel,by decide +kernel⟩
theorem ok_lteeth (D:DefAt K mg "_law_teeth" s_teeth) (T:Bn mg):Callee P w K mg base "_law_teeth" 1 ["_law_kinds","_law_word_here"] sp_lteeth:=by
 refine D.callee zfk (fun _ _ _ _ _ _=>ln2 fun _ _=>rfl) (fun vs H Q E h => ?_) (fun f cdv A outer s H vs Q E hr h => ?_)
 ·obtain ⟨k,x,ws,ks,ts,G,rfl,_⟩:=h
  rfl
 ·obtain ⟨k,x,ws,ks,ts,G,rfl,hk,dr,hg,q⟩:=h
  have S:=zfk
  have hlen:=dr.rows.length
  refine ⟨_,zae (za2 Be rfl (zaC (pv 0)) (zf9 rfl (zaB (zaj (i:=2) S.nd rfl (As rfl)) (zaB (zaj (i:=3) S.nd rfl (As rfl)) (zbD))))
   (zah (zaL (zas zck (pv 2) (pv 1) (zax _))
    (zah (zam (pv 3)))
    (zap))))
  (zah (zam (zaO (zac)))),?_⟩
  refine ⟨_,rfl,_,rfl,⟨_,SqL.of hk⟩,?_⟩
  refine zbE (zao K k ws) (fun i σ Hx=>Hx=H/\(∀ c∈ks.take i,c.1≠x)/\∃ x2 x3,σ = [some (.ref k),some (.str x),x2,x3]) ⟨rfl,by simp,_,_,rfl⟩ (fun i σ Hx _ h=>by rw [h.1]; exact SqL.of hk) ?_ ?_
  ·rintro i y σ Hx hx ⟨rfl,hno,x2,x3,rfl⟩
   obtain ⟨c,qa,t,hc,rfl,hq,ht,hgt⟩:=dr.rows.getG hx
   refine ⟨qa,_,rfl,SqL.of hq,rfl,_,_,rfl,_,_,rfl,rfl,?_⟩
   refine ⟨_,rfl,_,rfl,rfl,_,rfl,?_⟩
   by_cases e:c.1=x
   ·rw [decide_eq_true (by rw [e])]
    refine iteT ?_
    have:=zc7 dr.nd (B0 hc)
    rw [e,hg] at this
    refine ⟨_,rfl,q t hgt ?_⟩
    rw [ht,C6 this]
   ·rw [decide_eq_false (fun z=>e (by injection z))]
    refine iteF ?_
    refine ⟨rfl,fun c' hc' => ?_,_,_,rfl⟩
    rw [zaG hc] at hc'
    rcases Al.mp hc' with z | z
    ·exact hno c' z
    ·rw [A7.mp z]; exact e
  ·rintro σ Hx ⟨rfl,hno,x2,x3,rfl⟩
   rw [Il (by omega)] at hno
   exact absurd rfl (hno _ (zd5 hg))
noncomputable def sp_length:Sp:=fun vs H Q _=>∃ (c:Int) (fl:A3) (m:Nat) (F:Nat->Bool),vs = [.int c,.ref fl]/\H fl=some (.lst ((Ab m).map fun k=>V.bl (F k)))/\1<=m/\m<=20000/\F 0=true/\∀ (n:Nat) (H':Hp),Same H H'->n<=200->Q (.int (n:Nat)) H'
theorem zel:FnScope ["_law_cell","_law_fits_here","_law_good"] ["_law_cell","_law_fits_here"] (defScope s_length):=⟨rfl,rfl,rfl,by decide +kernel,rfl,by decide +kernel,by decide +kernel⟩
theorem ok_length (D:DefAt K mg "_law_length" s_length) (T:Bn mg):Callee P w K mg base "_law_length" 1 ["_law_cell","_law_fits_here"] sp_length:=by
 refine D.callee zel (fun _ _ _ _ _ _=>ln2 fun _ _=>rfl) (fun vs H Q E h => ?_) (fun f cdv A outer s H vs Q E hr h => ?_)
 ·obtain ⟨c,fl,m,F,rfl,_⟩:=h
  rfl
 ·obtain ⟨c,fl,m,F,rfl,hfl,h1,hm,hF,q⟩:=h
  have S:=zel
  have p4:(0:Int) < 4:=by decide
  have p3:(0:Int) < 3:=by decide
  have p41:(0:Int) < 41:=by decide
  have p201:(0:Int) < 201:=by decide
  have res:∀ (x:Int) (H':Hp),Same H H'->0<=x->x<=200->Q (.int x) H':=fun x H' s' h0 h2=>by
   have:=q x.toNat H' s' (by omega)
   rwa [show ((x.toNat:Nat):Int)=x by omega] at this
  have elen:(((Ab m).map fun k=>V.bl (F k)).length:Int)=((m:Nat):Int):=by rw [A5,Ax]
  refine ⟨_,zae (ps_setC (i:=2) S.nd rfl (As rfl) (own := ["_law_k"]) (caps := [(1,"_law_fits_here")]) rfl ⟨rfl,rfl,rfl,rfl,⟨⟨rfl,rfl,.inl rfl⟩,trivial⟩⟩ (za4 rfl T.n_range (zaa (zai (call_min2 rfl) rfl T.n_min boot_min (zaa (zad) (zaa (zai zar rfl T.n_len Bu (zaa (pv 1) zac)) zac))) zac)) (fun _ _ _ _ _ _=>zaj (i:=0) (zaP (by decide +kernel)) rfl (As rfl)) (fun _ _ _ _ _ _=>zcw (zbz (zay (zbJ K rfl) (pv 1) (pv 0) (fun _ _=>rfl)))) (fun _ _ _ _ _ _=>pv 0))
  (zae (zaL (zas zck (zau za8 (pv 0) (zad)) (zad) (zax _))
   (zah (zam (zau za8 (zau zbs (pv 0) (zad)) (zad))))
   (zap))
  (zae (zaL (zas zgL (zau za8 (pv 0) (zad)) (zad) (zax _))
   (zah (zam (zau za8 (zau zdG (zay zaz (pv 2) (zau za8 (zau zbs (pv 0) (zad)) (zai zar rfl T.n_len Bu (zaa (pv 2) zac))) (fun _ _=>rfl)) (zau zbF (zad) (zau za8 (zau zbs (pv 0) (zad)) (zad)))) (zad))))
   (zap))
  (zah (zam (zau za8 (zau zbs (pv 0) (zad)) (zad)))))),?_⟩
  refine ⟨_,rfl,_,_,rfl,.inl (SqL.of hfl),_,_,rfl,_,rfl,?_,?_,fun D hD => ?_⟩
  ·rw [elen]; split <;> omega
  ·rw [elen]; split <;> omega
  obtain ⟨k,hk1,hk2,hk3,hk⟩:∃ k,1<=k/\k<=201/\k<=m/\(if (((Ab m).map fun k=>V.bl (F k)).length:Int) < 201 then (((Ab m).map fun k=>V.bl (F k)).length:Int) else 201).toNat=k:=⟨_,by rw [elen]; split <;> omega,by rw [elen]; split <;> omega,by rw [elen]; split <;> omega,rfl⟩
  rw [hk]
  refine zbV (capv := [some (.ref fl)]) (by rfl) (zaI 0 k) (by rw [zbj]; exact big (by omega)) hD (fun _ _=>trivial) (fun v=>match v with | .int x=>F x.toNat | _=>false) id ?_ ?_ ?_
  ·intro x hx H' R s' h
   obtain ⟨n,hn,rfl⟩:=Ah.mp hx
   have hn:=B5.mp hn
   rw [Dy] at h ⊢
   refine ⟨_,rfl,_,rfl,_,_,_,_,rfl,rfl,SqL.of (s' _ _ hfl),zat (v:=V.bl (F n)) (by rw [Af,Cd (by omega)]; rfl),_,rfl,?_⟩
   exact h H' (Same.refl _)
  ·intro x hx _ H' R s' h
   exact ⟨_,rfl,h H' (Same.refl _)⟩
  intro H1 s1 e1
  have e1':H1 D=some (.lst ((((Ab k).filter F).map fun (n:Nat)=>(n:Int)).map V.int)):=by
   have ez:(fun i:Nat=>V.int (0 + ((i:Nat):Int)))=fun i=>V.int (i:Nat):=by funext i; rw [Dy]
   rw [e1,J8,ez,Ix,Bp]
   rfl
  have hpos:0 < ((Ab k).filter F).length:=Me (B9.mpr ⟨B5.mpr (show 0 < k by omega),hF⟩)
  refine ⟨_,rfl,_,_,rfl,rfl,p4,rfl,_,rfl,?_⟩
  refine ite2 (fun _ => ?_) (fun _ => ?_)
  ·refine ⟨_,rfl,_,_,rfl,rfl,⟨p4,by decide⟩,_,_,rfl,rfl,p201,?_⟩
   have:=E8 (c / 4) (show (201:Int)≠0 by decide)
   have:=Dq (c / 4) p201
   exact res _ _ s1 (by omega) (by omega)
  refine ⟨_,rfl,_,_,rfl,rfl,p4,_,_,rfl,rfl,_,rfl,?_⟩
  refine ite2 (fun _ => ?_) (fun _ => ?_)
  ·have eg:(((((Ab k).filter F).map fun (n:Nat)=>(n:Int)).map V.int).length:Int)=((((Ab k).filter F).length:Nat):Int):=by rw [A5,A5]
   have hp:(0:Int) < (((((Ab k).filter F).map fun (n:Nat)=>(n:Int)).map V.int).length:Int):=by rw [eg]; omega
   have i0:=E8 (c / 4) (show (((((Ab k).filter F).map fun (n:Nat)=>(n:Int)).map V.int).length:Int)≠0 by omega)
   have i1:=Dq (c / 4) hp
   have j0:=E8 (c / 4) (show (3:Int)≠0 by decide)
   have j1:=Dq (c / 4) p3
   have hlen:c / 4 % (((((List.range k).filter F).map fun (n:Nat)=>(n:Int)).map V.int).length:Int) < (((((List.range k).filter F).map fun (n:Nat)=>(n:Int)).length:Nat):Int):=by simp only [List.length_map] at i1 ⊢; exact i1
   refine ⟨_,rfl,_,rfl,_,_,rfl,rfl,⟨p4,by decide⟩,_,rfl,_,_,rfl,.inl (SqL.of e1'),_,_,rfl,rfl,hp,_,_,_,_,rfl,rfl,SqL.of e1',zgF i0 hlen,_,rfl,_,_,rfl,rfl,⟨p4,by decide⟩,_,_,rfl,rfl,p3,_,_,rfl,rfl,_,_,rfl,rfl,?_,_,_,rfl,rfl,p201,?_⟩
   ·exact .inr ⟨by omega,by omega⟩
   ·generalize ((((List.range k).filter F).map fun (n:Nat)=>(n:Int)).getD _ 0) * (1 + c / 4 % 3)=z
    have:=E8 z (show (201:Int)≠0 by decide)
    have:=Dq z p201
    exact res _ _ s1 (by omega) (by omega)
  ·refine ⟨_,rfl,_,_,rfl,rfl,⟨p4,by decide⟩,_,_,rfl,rfl,p41,?_⟩
   have:=E8 (c / 4) (show (41:Int)≠0 by decide)
   have:=Dq (c / 4) p41
   exact res _ _ s1 (by omega) (by omega)
noncomputable def ovV (ks:Combs) (l:List (Nat×Str)) (m:Nat):List V:=(Ab m).map fun q=>V.int ((cov ks l q:Nat):Int)
noncomputable def sp_covers:Sp:=fun vs H Q _=>∃ (k l:A3) (n:Nat) (ws wl:List V) (ks:Combs) (ly:List (Nat×Str)),vs = [.ref k,.ref l,.int (n:Nat)]/\H k=some (.lst ws)/\Drawn (fun _=>True) H ws ks/\H l=some (.lst wl)/\LyR H wl ly/\n<=1000/\Lay ks ly/\Cover ks ly n/\ly.Pairwise (fun x y=>x.1 < y.1)/\∀ H',Same H H'->Q (.bl true) H'
theorem eqv_nilC {d:Gm} {ds:List Gm}:D0 (.list (d :: ds)) (.list [])=false:=by simp [D0,Eb]
theorem shaped_intsC (a:List Int):Do (.list (a.map Ed))=true:=by
 have h1:Ba (a.map Ed)=true:=by
  induction a with
  | nil=>rfl
  | cons x a ih=>rw [Aq,Ba,ih]; rfl
 have h2:∀ a:List Int,C0 (a.map Ed)=0:=by
  intro a
  induction a with
  | nil=>rfl
  | cons x a ih=>rw [Aq,C0,ih]; rfl
 simp [Do,D4,Dm,h1,h2]
theorem rep_oneC (m:Nat) (v:V):(Br m [v]).flatten=Br m v:=by
 induction m with
 | zero=>rfl
 | succ m ih=>rw [E9,Fv,ih,E9]; rfl
theorem zen:FnScope ["_law_kinds","_law_layings_here","_law_length_here","_law_over","_law_last","_law_place","_law_word_here","_law_teeth_here","_law_t"] ["_law_kinds","_law_layings_here","_law_length_here"] (defScope s_covers):=⟨rfl,rfl,rfl,by decide +kernel,rfl,by decide +kernel,by decide +kernel⟩
theorem ok_covers (D:DefAt K mg "_law_covers" s_covers) (T:Bn mg) (C_teeth:Callee P w K mg base "_law_teeth" 1 ["_law_kinds","_law_word_here"] sp_lteeth):Callee P w K mg base "_law_covers" 2 ["_law_kinds","_law_layings_here","_law_length_here"] sp_covers:=by
 refine D.callee zen (fun _ _ _ _ _ _=>ln3 fun _ _ _=>rfl) (fun vs H Q E h => ?_) (fun f cdv A outer s H vs Q E hr h => ?_)
 ·obtain ⟨k,l,n,ws,wl,ks,ly,rfl,_⟩:=h
  rfl
 ·obtain ⟨k,l,n,ws,wl,ks,ly,rfl,hk,dr,hl,lr,hn,hlay,hcov,hup,q⟩:=h
  have S:=zen
  have gc:GC ks:=fun c hc=>(dr.good c hc).2
  have hll:=Cz lr
  refine ⟨_,zae (zak (i:=3) S.nd rfl (As rfl) (zau op_rep (zaO (zaa (zad) zac)) (pv 2)))
  (zae (zak (i:=4) S.nd rfl (As rfl) (zga zeh (zad)))
  (zae (za2 Be rfl (zaC (pv 1)) (zdF rfl (zaB (zaj (i:=5) S.nd rfl (As rfl)) (zaB (zaj (i:=6) S.nd rfl (As rfl)) (zbD))))
   (zae (zak (i:=7) S.nd rfl (As rfl) (zaR C_teeth (hr.mono (by decide)) rfl (zaa (pv 0) (zaa (pv 6) zac))))
   (zae (zaL (PW.pt (zeW (zas zet (pv 5) (pv 4) (zax _)) (zdD (zas (zfv hr.units) (pv 7) (zaO (zac)) (zax _)))))
    (zah (zam (zbH)))
    (zap))
   (zae (zak (i:=4) S.nd rfl (As rfl) (pv 5))
   (zah (za2 Be rfl (zaC (pv 7)) (zaj (i:=8) S.nd rfl (As rfl))
    (zae (zaL (zas zhf (zau zbF (pv 5) (pv 8)) (pv 2) (zax _))
     (zah (zam (zbH)))
     (zap))
    (zah (zgS (zau zbF (zay zaz (pv 3) (zau zbF (pv 5) (pv 8)) (fun _ _=>rfl)) (zad)) (zgU (pv 3) (zau zbF (pv 5) (pv 8)) zfh))))))))))
  (zah (zam (zai (zeb rfl) rfl T.n_all Rs (zaa (za3 (own := ["_law_many"]) (caps := []) rfl ⟨rfl,rfl,rfl,rfl,trivial⟩ (zaC (pv 3)) (fun _ _ _ _ _ _=>zaj (i:=0) (zaP (by decide +kernel)) rfl (As rfl)) (fun _ _ _ _ _ _=>zbm) (fun _ _ _ _ _ _=>zc2 zck (pv 0) (zad) (zax _))) zac)))))),?_⟩
  refine ⟨bigr rfl,fun z nz=>⟨_,rfl,_,_,_,rfl,rfl,zab,by omega,by omega,?_,fun po npo => ?_⟩⟩
  ·rw [Bd]; exact C5 (by omega:_<=1000) zaK
  have s1:Same H (upd (upd H z (.lst [.int 0])) po (.lst (Br ((n:Nat):Int).toNat [V.int 0]).flatten)):=(Same.new nz).trans (Same.new npo)
  have hpo:upd (upd H z (.lst [.int 0])) po (.lst (Br ((n:Nat):Int).toNat [V.int 0]).flatten) po=some (.lst (ovV ks (ly.take 0) n)):=by
   rw [zab,rep_oneC,show ((n:Nat):Int).toNat=n by omega]
   congr 2
   refine (List.eq_replicate_iff.mpr ⟨by unfold ovV; rw [A5,Ax],fun b hb => ?_⟩).symm
   obtain ⟨p,_,rfl⟩:=Ah.mp hb
   rfl
  have npo0:H po=none:=(Same.new nz).free npo
  generalize upd (upd H z (.lst [.int 0])) po (.lst (Br ((n:Nat):Int).toNat [V.int 0]).flatten)=H1 at s1 hpo ⊢
  refine ⟨_,rfl,?_⟩
  refine ⟨_,rfl,_,rfl,⟨_,SqL.of (s1 _ _ hl)⟩,?_⟩
  refine zbE (zao K l wl) (fun i σ Hx=>Same H Hx/\∃ (last:Int) (x5 x6 x7 x8:Option V),σ = [some (.ref k),some (.ref l),some (.int (n:Nat)),some (.ref po),some (.int last),x5,x6,x7,x8]/\Hx po=some (.lst (ovV ks (ly.take i) n))/\∀ j x,i<=j->ly[j]?=some x->last < ((x.1:Nat):Int)) ⟨s1,-1,_,_,_,_,rfl,hpo,fun j x _ _=>by omega⟩ (fun i σ Hx _ h=>SqL.of (h.1 _ _ hl)) ?_ ?_
  ·rintro i x σ Hx hx ⟨sx,last,x5,x6,x7,x8,rfl,hpx,hlast⟩
   obtain ⟨⟨j,nmj⟩,ej,qa,rfl,hqa⟩:=C7.rev lr hx
   have hmem:=B0 ej
   have hjn:=hlay _ hmem
   have hlt:=hlast i _ (Aa _) ej
   dsimp only at hjn hqa hlt
   obtain ⟨⟨nm',ts⟩,hc,rfl⟩:=Ah.mp hjn
   have hts:=zc7 dr.nd hc
   dsimp only at hts hqa ej hmem
   have gts:GT ts:=gc _ hc
   refine ⟨qa,_,rfl,SqT.of (sx _ _ hqa),rfl,_,_,rfl,_,_,rfl,rfl,?_⟩
   refine ⟨_,rfl,_,rfl,k,_,ws,ks,ts,_,rfl,sx _ _ hk,dr.live.same sx,hts,fun t ht0 ht => ?_⟩
   refine ⟨_,rfl,_,rfl,_,_,rfl,rfl,_,rfl,?_⟩
   rw [decide_eq_false (show ¬ ((j:Nat):Int)<=last by omega)]
   refine iteF ?_
   refine ⟨_,rfl,bigr rfl,fun pn npn => ?_⟩
   have s7:Same Hx (upd Hx pn (.lst [])):=Same.new npn
   refine ⟨.list (ts.map Ed),.list [],.lst (SqL.of (s7 _ _ ht)) (VDs.map fun u _ => .int u),.lst (SqL.of zab) .nil,shaped_intsC ts,by decide,_,rfl,?_⟩
   have hz:D0 (.list (ts.map Ed)) (.list [])=false:=by
    cases ts with
    | nil=>exact absurd (ze2 gts) (by simp)
    | cons u us=>exact eqv_nilC
   rw [if_neg A9,hz]
   refine iteF ?_
   refine ⟨_,rfl,?_⟩
   refine ⟨_,rfl,_,rfl,⟨_,SqL.of (s7 _ _ ht)⟩,?_⟩
   have hpx7:=s7 _ _ hpx
   have ht7:=s7 _ _ ht
   have sx7:=sx.trans s7
   have htp:t≠po:=fun e=>ht0 (by rw [e]; exact npo0)
   generalize upd Hx pn (.lst [])=H7 at hpx7 ht7 sx7
   have hin:∀ u∈ts,j + u.toNat < n:=fun u hu=>by
    have h0:=(zcK gts u hu).1
    refine hcov.below gc dr.nd hlay hmem (q:=j + u.toNat) ?_
    unfold hit tkOf
    dsimp only
    rw [hts,decide_eq_true (Ot _ _),E5,decide_eq_true (show ((u.toNat:Nat):Int)∈(some ts).getD [] by rw [show ((u.toNat:Nat):Int)=u by omega]; exact hu)]
    rfl
   refine zbE (zao K t (ts.map V.int)) (fun i' σ Hy=>Same H Hy/\Hy t=some (.lst (ts.map V.int))/\∃ x8,σ = [some (.ref k),some (.ref l),some (.int (n:Nat)),some (.ref po),some (.int (j:Nat)),some (.int (j:Nat)),some (.str nm'),some (.ref t),x8]/\Hy po=some (.lst ((Ab n).map fun p=>V.int (((cov ks (ly.take i) p + ((ts.take i').map fun t=>j + t.toNat).count p:Nat)):Int)))) ⟨sx7,ht7,_,rfl,?_⟩ (fun i' σ Hy _ h=>SqL.of h.2.1) ?_ ?_
   ·rw [hpx7]
    congr 2
   ·rintro i' y σ Hy hy ⟨sy,hty,x8,rfl,hpy⟩
    rw [Af] at hy
    cases hu:ts[i']? with
    | none=>rw [hu] at hy; cases hy
    | some u =>
     rw [hu] at hy
     cases hy
     have hub:=zcK gts u (B0 hu)
     have hjn:=hin u (B0 hu)
     refine ⟨_,rfl,_,rfl,_,_,rfl,rfl,_,rfl,_,_,rfl,rfl,_,rfl,?_⟩
     rw [decide_eq_false (show ¬ ((n:Nat):Int)<=((j:Nat):Int) + u by omega)]
     refine iteF ?_
     have hix:ixN ((Ab n).map fun p=>V.int (((cov ks (ly.take i) p + ((ts.take i').map fun t=>j + t.toNat).count p:Nat)):Int)).length (((j:Nat):Int) + u)=some (j + u.toNat):=by
      unfold ixN
      rw [A5,Ax,if_pos (by omega),if_pos (by omega)]
      congr 1
      omega
     refine ⟨_,rfl,_,rfl,_,rfl,_,_,rfl,rfl,_,_,_,_,rfl,rfl,SqL.of hpy,atI_int (by omega) (v:=V.int (((cov ks (ly.take i) (j + u.toNat) + ((ts.take i').map fun t=>j + t.toNat).count (j + u.toNat):Nat)):Int)) ?_,_,_,rfl,rfl,?_⟩
     ·rw [show (((j:Nat):Int) + u).toNat=j + u.toNat by omega,Af,Cd hjn]
      rfl
     refine ⟨_,rfl,_,rfl,_,rfl,_,_,rfl,rfl,po,_,_,_,rfl,rfl,hpy,hix,?_⟩
     refine ⟨sy.put npo0,(by rw [zaf htp]; exact hty),_,rfl,?_⟩
     rw [zab,zgi _ _ hjn]
     congr 2
     refine Ck fun p _ => ?_
     rw [zaG hu,Bs,List.count_append]
     by_cases e:p=j + u.toNat
     ·subst e
      rw [if_pos rfl]
      simp
      omega
     ·rw [if_neg e]
      simp [E7 e]
   ·rintro σ Hy ⟨sy,hty,x8,rfl,hpy⟩
    rw [A5,C8] at hpy
    refine ⟨sy,_,_,_,_,_,rfl,?_,fun j' x' hj' ej' => ?_⟩
    ·rw [hpy]
     congr 2
     unfold ovV
     refine Ck fun p _ => ?_
     rw [zaG ej,zcS,count_teeth (zba (zfN gts)) (fun t ht=>(zcK gts t ht).1)]
     unfold hit tkOf
     dsimp only
     rw [hts]
     by_cases hjp:j<=p
     ·rw [if_pos hjp,decide_eq_true hjp,F8]; rfl
     ·rw [if_neg hjp,decide_eq_false hjp,Fj]; rfl
    ·rw [D1] at hup
     obtain ⟨h2a,h2b⟩:=Ao.mp ej
     obtain ⟨h3a,h3b⟩:=Ao.mp ej'
     have:=hup i j' h2a h3a (by omega)
     rw [h2b,h3b] at this
     dsimp only at this
     omega
  ·rintro σ Hx ⟨sx,last,x5,x6,x7,x8,rfl,hpx,_⟩
   rw [<- hll,C8] at hpx
   refine ⟨_,rfl,_,rfl,⟨_,SqL.of hpx⟩,fun D hD => ?_⟩
   refine zbV (capv := []) (by rfl) (zao K po _) (by unfold ovV; rw [A5,Ax]; exact big (by omega)) hD (fun H' s'=>SqL.of (s' _ _ hpx)) (fun _=>true) (fun _ => .bl true) ?_ ?_ ?_
   ·intro x hx H' R s' h
    exact h H' (Same.refl _)
   ·intro x hx _ H' R s' h
    obtain ⟨p,hp,rfl⟩:=Ah.mp hx
    refine ⟨_,rfl,rfl,?_⟩
    have e:cov ks ly p=1:=by rw [hcov p,if_pos (B5.mp hp)]
    rw [e]
    exact h H' (Same.refl _)
   intro H3 s3 e3
   refine ⟨D,(ovV ks ly n).map fun _=>true,rfl,SqL.of ?_,?_⟩
   ·rw [e3,Cm.mpr (fun _ _=>rfl),Bp]
    rfl
   rw [Cg.mpr (fun b hb=>by obtain ⟨_,_,rfl⟩:=Ah.mp hb; rfl)]
   exact q _ (sx.trans s3)
noncomputable def sp_at (K:Am):Sp:=fun vs H Q _=>∃ (a:A3) (ns:List Int) (k:Int),vs = [.ref a,.int k]/\SqL K H a (ns.map V.int)/\0<=k/\Q (.int (ns.getD k.toNat 0)) H
theorem zhi:FnScope ["_law_script","_law_k"] ["_law_script","_law_k"] (defScope s_at):=⟨rfl,rfl,rfl,by decide +kernel,rfl,by decide +kernel,by decide +kernel⟩
theorem ok_at (D:DefAt K mg "_law_at" s_at) (T:Bn mg):Callee P w K mg base "_law_at" 1 ["_law_script","_law_k"] (sp_at K):=by
 refine D.callee zhi (fun _ _ _ _ _ _=>ln2 fun _ _=>rfl) (fun vs H Q E h => ?_) (fun f cdv A outer s H vs Q E hr h => ?_)
 ·obtain ⟨a,ns,k,rfl,_⟩:=h
  rfl
 ·obtain ⟨a,ns,k,rfl,hS,h0,q⟩:=h
  have S:=zhi
  refine ⟨_,zae (zaL (zas zhk (pv 1) (zai zar rfl T.n_len Bu (zaa (pv 0) zac)) (zax _))
   (zah (zam (zay zaz (pv 0) (pv 1) (fun _ _=>rfl))))
   (zap))
  (zah (zam (zad))),?_⟩
  refine ⟨_,rfl,_,rfl,_,_,rfl,.inl hS,_,_,rfl,rfl,_,rfl,?_⟩
  refine ite2 (fun hc => ?_) (fun hc => ?_)
  ·have hc:=of_decide_eq_true hc
   rw [A5] at hc
   exact ⟨_,rfl,_,rfl,_,_,_,_,rfl,rfl,hS,zgF h0 hc,q⟩
  ·have hc:¬ k < (ns.length:Int):=fun z=>hc (decide_eq_true (by rw [A5]; exact z))
   rw [getD_big hc] at q
   exact q
noncomputable def mixed (c k:Int):Int:=((c + 7919 * k + 1) * 48271 % 2147483647 + 104729 * k + 3) * 69621 % 2147483647
noncomputable def sp_mixed:Sp:=fun vs H Q _=>∃ (c k:Int),vs = [.int c,.int k]/\Q (.int (mixed c k)) H
theorem zfm:FnScope ["_law_cell","_law_k","_law_once"] ["_law_cell","_law_k"] (defScope s_mixed):=⟨rfl,rfl,rfl,by decide +kernel,rfl,by decide +kernel,by decide +kernel⟩
theorem ok_mixed (D:DefAt K mg "_law_mixed" s_mixed) (T:Bn mg):Callee P w K mg base "_law_mixed" 1 ["_law_cell","_law_k"] sp_mixed:=by
 refine D.callee zfm (fun _ _ _ _ _ _=>ln2 fun _ _=>rfl) (fun vs H Q E h => ?_) (fun f cdv A outer s H vs Q E hr h => ?_)
 ·obtain ⟨c,k,rfl,_⟩:=h
  rfl
 ·obtain ⟨c,k,rfl,q⟩:=h
  have S:=zfm
  refine ⟨_,zae (zak (i:=2) S.nd rfl (As rfl) (zau za8 (zau zdG (zau zbF (zau zbF (pv 0) (zau zdG (zad) (pv 1))) (zad)) (zad)) (zad)))
  (zah (zam (zau za8 (zau zdG (zau zbF (zau zbF (pv 2) (zau zdG (zad) (pv 1))) (zad)) (zad)) (zad)))),?_⟩
  refine ⟨_,rfl,_,rfl,_,_,rfl,rfl,.inl ⟨by decide,by decide⟩,_,_,rfl,rfl,_,_,rfl,rfl,_,_,rfl,rfl,.inr ⟨by decide,by decide⟩,_,_,rfl,rfl,by show (0:Int) < 2147483647; decide,?_⟩
  exact ⟨_,rfl,_,rfl,_,_,rfl,rfl,.inl ⟨by decide,by decide⟩,_,_,rfl,rfl,_,_,rfl,rfl,_,_,rfl,rfl,.inr ⟨by decide,by decide⟩,_,_,rfl,rfl,by show (0:Int) < 2147483647; decide,q⟩
noncomputable def sp_whole:Sp:=fun vs H Q _=>∃ (i:Int),vs = [.int i]/\Q (.bl true) H
theorem zfj:FnScope ["_law_found"] ["_law_found"] (defScope s_whole):=⟨rfl,rfl,rfl,by decide +kernel,rfl,by decide +kernel,by decide +kernel⟩
theorem ok_whole (D:DefAt K mg "_law_whole" s_whole) (T:Bn mg):Callee P w K mg base "_law_whole" 1 ["_law_found"] sp_whole:=by
 refine D.callee zfj (fun _ _ _ _ _ _=>ln1 fun _=>rfl) (fun vs H Q E h => ?_) (fun f cdv A outer s H vs Q E hr h => ?_)
 ·obtain ⟨i,rfl,_⟩:=h
  rfl
 ·obtain ⟨i,rfl,q⟩:=h
  have S:=zfj
  refine ⟨_,zah (zam (zgW (zai (zbZ "int") rfl T.n_isinstance Bt (zaa (pv 0) (zaa (zcy (v := .ty "int") rfl T.n_int boot_int rfl) zac))) (zgb (pe_not (zai (zbZ "bool") rfl T.n_isinstance Bt (zaa (pv 0) (zaa (zcy (v := .ty "bool") rfl T.n_bool boot_bool rfl) zac))))))),?_⟩
  refine ⟨_,rfl,_,_,true,rfl,.int i,rfl,_,rfl,?_⟩
  refine iteT ?_
  exact ⟨_,rfl,_,_,false,rfl,.int i,rfl,_,rfl,q⟩
noncomputable def sp_word:Sp:=fun vs H Q _=>∃ (c b:Int),vs = [.int c,.int b]/\(b=26\/b=2)/\∀ x:Str,isName x=true->Q (.str x) H
theorem zfV:FnScope ["_law_cell","_law_base","_law_word_here","_law_rest","_law_k"] ["_law_cell","_law_base"] (defScope s_word):=⟨rfl,rfl,rfl,by decide +kernel,rfl,by decide +kernel,by decide +kernel⟩
theorem ok_word (D:DefAt K mg "_law_word" s_word) (T:Bn mg):Callee P w K mg base "_law_word" 1 ["_law_cell","_law_base"] sp_word:=by
 refine D.callee zfV (fun _ _ _ _ _ _=>ln2 fun _ _=>rfl) (fun vs H Q E h => ?_) (fun f cdv A outer s H vs Q E hr h => ?_)
 ·obtain ⟨c,b,rfl,_⟩:=h
  rfl
 ·obtain ⟨c,b,rfl,hb,q⟩:=h
  have S:=zfV
  have b0:0 < b:=by omega
  have b1:b<=26:=by omega
  have m0:=E8 c (show (6:Int)≠0 by decide)
  have m1:=Dq c p6
  refine ⟨_,zae (zak (i:=2) S.nd rfl (As rfl) (zaw))
  (zae (zak (i:=3) S.nd rfl (As rfl) (zau zbs (pv 0) (zad)))
  (zae (za2 Be rfl (za4 rfl T.n_range (zaa (zau zbF (zad) (zau za8 (pv 0) (zad))) zac)) (zaj (i:=4) S.nd rfl (As rfl))
   (zae (zak (i:=2) S.nd rfl (As rfl) (zau op_add_str (pv 2) (zay ix_str (zaw) (zau za8 (pv 3) (pv 1)) (fun _ _=>rfl))))
   (zah (zak (i:=3) S.nd rfl (As rfl) (zau zbs (pv 3) (pv 1))))))
  (zah (zam (pv 2))))),?_⟩
  refine ⟨_,rfl,_,_,rfl,rfl,⟨p6,by decide⟩,?_⟩
  refine ⟨_,rfl,_,_,rfl,rfl,p6,_,_,rfl,rfl,_,rfl,?_,?_,?_⟩
  ·show -(2 ^ 62)<=1 + c % 6
   omega
  ·show 1 + c % 6 < 2 ^ 62
   omega
  refine zbE (zaI 0 (1 + c % 6).toNat) (fun i σ H'=>H'=H/\∃ (x:Str) (r:Int) (x4:Option V),σ = [some (.int c),some (.int b),some (.str x),some (.int r),x4]/\x.length=i/\x.cps.toList.all small=true) ⟨rfl,Str.ofString "",_,_,rfl,by decide,by decide⟩ (fun _ _ _ _ _=>trivial) ?_ ?_
  ·rintro i x σ H2 hx ⟨rfl,y,r,x4,rfl,hl,ha⟩
   obtain ⟨hi,rfl⟩:=zbk hx
   obtain ⟨ch,hch,hs⟩:=abc_at (k:=r % b) (Int.emod_nonneg _ (by omega)) (by have:=Int.emod_lt_of_pos r b0; omega)
   refine ⟨_,rfl,_,rfl,_,rfl,_,_,rfl,rfl,b0,_,_,_,rfl,rfl,?_,hch,_,_,rfl,rfl,?_,?_⟩
   ·show abc.length<=sizeLine
    rw [ze9]; decide
   ·rw [zd3]
    exact big (by omega)
   refine ⟨_,rfl,_,rfl,_,_,rfl,rfl,⟨b0,by omega⟩,?_⟩
   refine ⟨rfl,_,_,_,rfl,by rw [len_app,hl,zd3],?_⟩
   rw [app_list,List.all_append,ha]
   show (true && [ch].all small)=true
   simp [hs]
  ·rintro σ H2 ⟨rfl,y,r,x4,rfl,hl,ha⟩
   rw [A5,Ax] at hl
   exact ⟨_,rfl,q y (zgh (by omega) (by omega) ha)⟩
noncomputable def sp_spare (K:Am):Sp:=fun vs H Q _=>∃ (x:Str) (u:A3) (us:List Str),vs = [.str x,.ref u]/\isName x=true/\SqL K H u (us.map V.str)/\us.length<=25/\∀ y H',Same H H'->isName y=true->y ∉ us->Q (.str y) H'
noncomputable def notUsed (us:List Str) (v:V):Bool:=match v with
 | .str y => !decide (y∈us)
 | _=>false
theorem zfl:FnScope ["_law_word_here","_law_used"] ["_law_word_here","_law_used"] (defScope s_spare):=⟨rfl,rfl,rfl,by decide +kernel,rfl,by decide +kernel,by decide +kernel⟩
theorem ok_spare (D:DefAt K mg "_law_spare" s_spare) (T:Bn mg):Callee P w K mg base "_law_spare" 1 ["_law_word_here","_law_used"] (sp_spare K):=by
 refine D.callee zfl (fun _ _ _ _ _ _=>ln2 fun _ _=>rfl) (fun vs H Q E h => ?_) (fun f cdv A outer s H vs Q E hr h => ?_)
 ·obtain ⟨x,u,us,rfl,_⟩:=h
  rfl
 ·obtain ⟨x,u,us,rfl,hx,hS,hl,q⟩:=h
  have S:=zfl
  refine ⟨_,zae (zaL (zas zbS (pv 0) (pv 1) (by with_unfolding_all rfl))
   (zah (zam (pv 0)))
   (zap))
  (zah (zam (zay zaz (za3 (own := ["_law_one"]) (caps := [(1,"_law_used")]) rfl ⟨rfl,rfl,rfl,rfl,⟨⟨rfl,rfl,.inl rfl⟩,trivial⟩⟩ (zgT (zaw)) (fun _ _ _ _ _ _=>zaj (i:=0) (zaP (by decide +kernel)) rfl (As rfl)) (fun _ _ _ _ _ _=>zcw (zas (op_notIn_seq' K rfl) (pv 0) (pv 1) (by with_unfolding_all rfl))) (fun _ _ _ _ _ _=>pv 0)) (zad) (fun _ _=>rfl)))),?_⟩
  refine ⟨_,rfl,_,rfl,_,_,rfl,.inl hS,rfl,zeK us,_,rfl,?_⟩
  rw [if_pos rfl,zgp]
  refine ite2 (fun hc => ?_) (fun hc => ?_)
  ·have h0:x ∉ us:=by simpa using hc
   exact ⟨_,rfl,q x H (Same.refl H) hx h0⟩
  ·refine ⟨_,rfl,fun D hD => ?_⟩
   refine zbV (capv := [some (.ref u)]) (L:=abc.cps.toList.map sgn) (by rfl) (zeH abc) (by rw [A5,zcs,ze9]; decide) hD ?_ (notUsed us) (fun v=>v) ?_ ?_ ?_
   ·exact fun _ _=>trivial
   ·intro v hv H' R s' h
    obtain ⟨c,hc,rfl⟩:=Ah.mp hv
    refine ⟨_,rfl,_,rfl,_,_,rfl,.inl (s'.seq hS),rfl,zeK us,_,rfl,?_⟩
    rw [if_pos rfl]
    show R (!inV (V.str ⟨#[c]⟩) (us.map V.str)) H'
    rw [zgp]
    exact h H' (Same.refl _)
   ·intro v hv hp H' R s' h
    exact ⟨_,rfl,h H' (Same.refl _)⟩
   ·intro H' s' e
    obtain ⟨c,hc,hn⟩:=spare_some us hl
    have hm:sgn c∈((abc.cps.toList.map sgn).filter (notUsed us)).map fun v=>v:=by
     rw [Md]
     exact B9.mpr ⟨Ah.mpr ⟨c,hc,rfl⟩,by show (!decide ((⟨#[c]⟩:Str)∈us))=true; simp [hn]⟩
    have hall:∀ v∈((abc.cps.toList.map sgn).filter (notUsed us)).map fun v=>v,∃ d,v=sgn d/\small d=true/\(⟨#[d]⟩:Str) ∉ us:=fun v hv=>by
     rw [Md] at hv
     obtain ⟨h1,h2⟩:=B9.mp hv
     obtain ⟨d,hd,rfl⟩:=Ah.mp h1
     have h2:(!decide ((⟨#[d]⟩:Str)∈us))=true:=h2
     exact ⟨d,rfl,abc_small hd,by simpa using h2⟩
    generalize (((abc.cps.toList.map sgn).filter (notUsed us)).map fun v=>v)=l at e hm hall
    cases l with
    | nil=>cases hm
    | cons v l =>
     obtain ⟨d,rfl,hs,hd⟩:=hall v Ai
     exact ⟨_,_,_,_,rfl,rfl,SqL.of e,(show atI (sgn d :: l) ((0:Nat):Int)=some (sgn d) from zat rfl),q _ H' s' (name_one hs) hd⟩
noncomputable def Rows (H:Hp):List V->List (List Int)->Prop
 | [],[]=>True
 | v :: vs,r :: rs=>(∃ p,v = .ref p/\H p=some (.tup (r.map V.int)))/\Rows H vs rs
 | _,_=>False
theorem Rows.same {H H':Hp} (s:Same H H'):∀ {vs:List V} {rs:List (List Int)},Rows H vs rs->Rows H' vs rs
 | [],[],_=>trivial
 | _ :: _,_ :: _,⟨⟨p,e,h⟩,r⟩=>⟨⟨p,e,s _ _ h⟩,Rows.same s r⟩
 | [],_ :: _,h=>h.elim
 | _ :: _,[],h=>h.elim
theorem Rows.snoc {H:Hp} {p:A3} {r:List Int} (h:H p=some (.tup (r.map V.int))):∀ {vs:List V} {rs:List (List Int)},Rows H vs rs->Rows H (vs ++ [.ref p]) (rs ++ [r])
 | [],[],_=>⟨⟨p,rfl,h⟩,trivial⟩
 | _ :: _,_ :: _,⟨a,b⟩=>⟨a,Rows.snoc h b⟩
 | [],_ :: _,x=>x.elim
 | _ :: _,[],x=>x.elim
theorem Rows.get {H:Hp}:∀ {vs:List V} {rs:List (List Int)} {i:Nat} {r:List Int},Rows H vs rs->rs[i]?=some r->∃ p,vs[i]?=some (.ref p)/\H p=some (.tup (r.map V.int))
 | [],[],_,_,_,e=>by simp at e
 | _ :: _,_ :: _,0,_,⟨⟨p,e,h⟩,_⟩,z=>by
  simp at z
  subst z
  exact ⟨p,by rw [e]; rfl,h⟩
 | _ :: _,_ :: _,i + 1,_,⟨_,b⟩,z=>Rows.get (i:=i) b (by simpa using z)
 | [],_ :: _,_,_,x,_=>x.elim
 | _ :: _,[],_,_,x,_=>x.elim
structure Mr (H0 H:Hp) (vs:List V) (rs:List (List Int)):Prop where
 same:Same H0 H
 rows:Rows H vs rs
theorem Mr.add {H0 H:Hp} {vs:List V} {rs:List (List Int)} (m:Mr H0 H vs rs) (r:List Int) {p:A3} (n:H p=none):Mr H0 (upd H p (.tup (r.map V.int))) (vs ++ [.ref p]) (rs ++ [r]) :=
 ⟨m.same.put (m.same.free n),Rows.snoc zab (m.rows.same (Same.new n))⟩
theorem Mr.lstE {H0 H:Hp} {vs:List V} {rs:List (List Int)} (m:Mr H0 H vs rs) {o:HO} {p:A3} (n:H p=none):Mr H0 (upd H p o) vs rs/\upd H p o p=some o:=⟨⟨m.same.put (m.same.free n),m.rows.same (Same.new n)⟩,zab⟩
theorem Mr.lst {H0 H:Hp} {vs:List V} {rs:List (List Int)} (m:Mr H0 H vs rs) {o:HO} {p:A3} (n:H p=none):Mr H0 (upd H p o) vs rs:=⟨m.same.put (m.same.free n),m.rows.same (Same.new n)⟩
noncomputable def menuRows:List (List Int) := [[45],[131,133],[193,65],[71,161,99],[77,131,133],[13,49],[153,111,131],[197,131,173,53],[83,125,137,173,243],[185,193,215,87,243],[5],[175,209,67,129,21,229,49,83],[203,243,129,167,153,223,207,243],[197,147,131],[197,131,177],[31,255],[3,3],[119,225,131,109]]
noncomputable def MenuRow (xs:List Int):Prop:=(1<=xs.length/\xs.length<=8)/\∀ x∈xs,x % 2=1/\0<=x/\x < 256
theorem menu_ok {i:Nat} {r:List Int} (h:menuRows[i]?=some r):MenuRow r:=by
 have all:∀ r∈menuRows,(1<=r.length/\r.length<=8)/\∀ x∈r,x % 2=1/\0<=x/\x < 256:=by decide
 exact all r (B0 h)
noncomputable def sp_menu:Sp:=fun vs H Q _=>∃ (k:Int),vs = [.int k]/\∀ p xs H',Same H H'->H' p=some (.tup (xs.map V.int))->MenuRow xs->Q (.ref p) H'
theorem zfW:FnScope ["_law_k","_law_rows"] ["_law_k"] (defScope s_menu):=⟨rfl,rfl,rfl,by decide +kernel,rfl,by decide +kernel,by decide +kernel⟩
theorem ok_menu (D:DefAt K mg "_law_menu" s_menu) (T:Bn mg):Callee P w K mg base "_law_menu" 1 ["_law_k"] sp_menu:=by
 refine D.calleeQ zfW (fun _ _ _ _ _ _=>ln1 fun _=>rfl) (fun vs H Q E h => ?_) (fun f cdv A outer s H vs Q E hr h => ?_)
 ·obtain ⟨k,rfl,_⟩:=h
  rfl
 ·obtain ⟨k,rfl,q⟩:=h
  have S:=zfW
  refine ⟨_,zaD (zbd (i:=1) S.nd rfl (As rfl) (zbn (zag (zbe (zag (qe (zad)) (zaA))) (zag (zbe (zag (qe (zad)) (zag (qe (zad)) (zaA)))) (zag (zbe (zag (qe (zad)) (zag (qe (zad)) (zaA)))) (zag (zbe (zag (qe (zad)) (zag (qe (zad)) (zag (qe (zad)) (zaA))))) (zag (zbe (zag (qe (zad)) (zag (qe (zad)) (zag (qe (zad)) (zaA))))) (zag (zbe (zag (qe (zad)) (zag (qe (zad)) (zaA)))) (zag (zbe (zag (qe (zad)) (zag (qe (zad)) (zag (qe (zad)) (zaA))))) (zaA))))))))))
  (zaD (zbd (i:=1) S.nd rfl (As rfl) (zdo zbT (qe (pv 1)) (zbn (zag (zbe (zag (qe (zad)) (zag (qe (zad)) (zag (qe (zad)) (zag (qe (zad)) (zaA)))))) (zag (zbe (zag (qe (zad)) (zag (qe (zad)) (zag (qe (zad)) (zag (qe (zad)) (zag (qe (zad)) (zaA))))))) (zag (zbe (zag (qe (zad)) (zag (qe (zad)) (zag (qe (zad)) (zag (qe (zad)) (zag (qe (zad)) (zaA))))))) (zag (zbe (zag (qe (zad)) (zaA))) (zaA))))))))
  (zaD (zbd (i:=1) S.nd rfl (As rfl) (zdo zbT (qe (pv 1)) (zbn (zag (zbe (zag (qe (zad)) (zag (qe (zad)) (zag (qe (zad)) (zag (qe (zad)) (zag (qe (zad)) (zag (qe (zad)) (zag (qe (zad)) (zag (qe (zad)) (zaA)))))))))) (zag (zbe (zag (qe (zad)) (zag (qe (zad)) (zag (qe (zad)) (zag (qe (zad)) (zag (qe (zad)) (zag (qe (zad)) (zag (qe (zad)) (zag (qe (zad)) (zaA)))))))))) (zaA))))))
  (zaD (zbd (i:=1) S.nd rfl (As rfl) (zdo zbT (qe (pv 1)) (zbn (zag (zbe (zag (qe (zad)) (zag (qe (zad)) (zag (qe (zad)) (zaA))))) (zag (zbe (zag (qe (zad)) (zag (qe (zad)) (zag (qe (zad)) (zaA))))) (zag (zbe (zag (qe (zad)) (zag (qe (zad)) (zaA)))) (zag (zbe (zag (qe (zad)) (zag (qe (zad)) (zaA)))) (zag (zbe (zag (qe (zad)) (zag (qe (zad)) (zag (qe (zad)) (zag (qe (zad)) (zaA)))))) (zaA)))))))))
  (zeV (zf5 (qe (zay zaz (pv 1) (zau za8 (pv 0) (zai zar rfl T.n_len Bu (zaa (pv 1) zac))) (fun _ _=>rfl)))))))),?_⟩
  have M:Mr H H [] []:=⟨Same.refl H,trivial⟩
  refine ⟨bigr rfl,fun a1 na => ?_⟩
  replace M:=M.add [45] na
  clear na
  refine ⟨bigr rfl,fun a2 na => ?_⟩
  replace M:=M.add [131,133] na
  clear na
  refine ⟨bigr rfl,fun a3 na => ?_⟩
  replace M:=M.add [193,65] na
  clear na
  refine ⟨bigr rfl,fun a4 na => ?_⟩
  replace M:=M.add [71,161,99] na
  clear na
  refine ⟨bigr rfl,fun a5 na => ?_⟩
  replace M:=M.add [77,131,133] na
  clear na
  refine ⟨bigr rfl,fun a6 na => ?_⟩
  replace M:=M.add [13,49] na
  clear na
  refine ⟨bigr rfl,fun a7 na => ?_⟩
  replace M:=M.add [153,111,131] na
  clear na
  refine ⟨bigr rfl,fun b0 nb => ?_⟩
  obtain ⟨M,e⟩:=M.lstE (o := .lst [V.ref a1,V.ref a2,V.ref a3,V.ref a4,V.ref a5,V.ref a6,V.ref a7]) nb
  clear nb
  refine ⟨_,rfl,?_⟩
  refine ⟨bigr rfl,fun a8 na => ?_⟩
  replace M:=M.add [197,131,173,53] na
  replace e:=zbl (o := .tup (([197,131,173,53]:List Int).map V.int)) e na
  clear na
  refine ⟨bigr rfl,fun a9 na => ?_⟩
  replace M:=M.add [83,125,137,173,243] na
  replace e:=zbl (o := .tup (([83,125,137,173,243]:List Int).map V.int)) e na
  clear na
  refine ⟨bigr rfl,fun a10 na => ?_⟩
  replace M:=M.add [185,193,215,87,243] na
  replace e:=zbl (o := .tup (([185,193,215,87,243]:List Int).map V.int)) e na
  clear na
  refine ⟨bigr rfl,fun a11 na => ?_⟩
  replace M:=M.add [5] na
  replace e:=zbl (o := .tup (([5]:List Int).map V.int)) e na
  clear na
  refine ⟨bigr rfl,fun b1 nb => ?_⟩
  obtain ⟨M,e2⟩:=M.lstE (o := .lst [V.ref a8,V.ref a9,V.ref a10,V.ref a11]) nb
  replace e:=zbl (o := .lst [V.ref a8,V.ref a9,V.ref a10,V.ref a11]) e nb
  clear nb
  refine ⟨_,_,_,_,rfl,rfl,e,e2,bigr rfl,fun c1 nc => ?_⟩
  obtain ⟨M,e⟩:=M.lstE (o := .lst [V.ref a1,V.ref a2,V.ref a3,V.ref a4,V.ref a5,V.ref a6,V.ref a7,V.ref a8,V.ref a9,V.ref a10,V.ref a11]) nc
  clear nc e2
  refine ⟨_,rfl,?_⟩
  refine ⟨bigr rfl,fun a12 na => ?_⟩
  replace M:=M.add [175,209,67,129,21,229,49,83] na
  replace e:=zbl (o := .tup (([175,209,67,129,21,229,49,83]:List Int).map V.int)) e na
  clear na
  refine ⟨bigr rfl,fun a13 na => ?_⟩
  replace M:=M.add [203,243,129,167,153,223,207,243] na
  replace e:=zbl (o := .tup (([203,243,129,167,153,223,207,243]:List Int).map V.int)) e na
  clear na
  refine ⟨bigr rfl,fun b2 nb => ?_⟩
  obtain ⟨M,e2⟩:=M.lstE (o := .lst [V.ref a12,V.ref a13]) nb
  replace e:=zbl (o := .lst [V.ref a12,V.ref a13]) e nb
  clear nb
  refine ⟨_,_,_,_,rfl,rfl,e,e2,bigr rfl,fun c2 nc => ?_⟩
  obtain ⟨M,e⟩:=M.lstE (o := .lst [V.ref a1,V.ref a2,V.ref a3,V.ref a4,V.ref a5,V.ref a6,V.ref a7,V.ref a8,V.ref a9,V.ref a10,V.ref a11,V.ref a12,V.ref a13]) nc
  clear nc e2
  refine ⟨_,rfl,?_⟩
  refine ⟨bigr rfl,fun a14 na => ?_⟩
  replace M:=M.add [197,147,131] na
  replace e:=zbl (o := .tup (([197,147,131]:List Int).map V.int)) e na
  clear na
  refine ⟨bigr rfl,fun a15 na => ?_⟩
  replace M:=M.add [197,131,177] na
  replace e:=zbl (o := .tup (([197,131,177]:List Int).map V.int)) e na
  clear na
  refine ⟨bigr rfl,fun a16 na => ?_⟩
  replace M:=M.add [31,255] na
  replace e:=zbl (o := .tup (([31,255]:List Int).map V.int)) e na
  clear na
  refine ⟨bigr rfl,fun a17 na => ?_⟩
  replace M:=M.add [3,3] na
  replace e:=zbl (o := .tup (([3,3]:List Int).map V.int)) e na
  clear na
  refine ⟨bigr rfl,fun a18 na => ?_⟩
  replace M:=M.add [119,225,131,109] na
  replace e:=zbl (o := .tup (([119,225,131,109]:List Int).map V.int)) e na
  clear na
  refine ⟨bigr rfl,fun b3 nb => ?_⟩
  obtain ⟨M,e2⟩:=M.lstE (o := .lst [V.ref a14,V.ref a15,V.ref a16,V.ref a17,V.ref a18]) nb
  replace e:=zbl (o := .lst [V.ref a14,V.ref a15,V.ref a16,V.ref a17,V.ref a18]) e nb
  clear nb
  refine ⟨_,_,_,_,rfl,rfl,e,e2,bigr rfl,fun c3 nc => ?_⟩
  obtain ⟨M,e⟩:=M.lstE (o := .lst [V.ref a1,V.ref a2,V.ref a3,V.ref a4,V.ref a5,V.ref a6,V.ref a7,V.ref a8,V.ref a9,V.ref a10,V.ref a11,V.ref a12,V.ref a13,V.ref a14,V.ref a15,V.ref a16,V.ref a17,V.ref a18]) nc
  clear nc e2
  have p18:(0:Int) < 18:=by decide
  have k0:=E8 k (show (18:Int)≠0 by decide)
  have k1:=Dq k p18
  have hi:(k % 18).toNat < menuRows.length:=by
   show (k % 18).toNat < 18
   omega
  obtain ⟨p,hp,ht⟩:=Rows.get (rs:=menuRows) M.rows (A6 hi)
  have ek:(((k % 18).toNat:Nat):Int)=k % 18:=by omega
  refine ⟨_,rfl,_,rfl,_,rfl,_,_,rfl,.inl (SqL.of e),_,_,rfl,rfl,p18,_,_,_,_,rfl,rfl,SqL.of e,?_,q p _ _ M.same ht (menu_ok (A6 hi))⟩
  show atI _ (k % 18)=_
  rw [<- ek]
  exact zat hp
theorem p3:(0:Int) < 3:=by decide
theorem p14:(0:Int) < 14:=by decide
theorem p42:(0:Int) < 42:=by decide
theorem zhe:(0:Int) < 128:=by decide
noncomputable def manyL:List Int := [2,3,1,2,4,3,1,5,2,0,8,7,6,1]
theorem manyL_at {k:Int} (h0:0<=k) (h1:k < 14):∃ m:Int,atI (manyL.map V.int) k=some (V.int m)/\0<=m/\m<=8:=by
 refine ⟨_,zgF h0 (by show k < 14; exact h1),?_⟩
 have all:∀ x∈manyL,0<=x/\x<=8:=by decide
 refine all _ ?_
 have hk:k.toNat < manyL.length:=by show k.toNat < 14; omega
 rw [Aj,A6 hk]
 exact Cp hk
theorem base_at {k:Int} (h0:0<=k) (h1:k < 2):∃ b:Int,atI [V.int 26,V.int 2] k=some (V.int b)/\(b=26\/b=2):=by
 rcases (by omega:k=0\/k=1) with h | h <;> subst h
 ·exact ⟨26,rfl,.inl rfl⟩
 ·exact ⟨2,rfl,.inr rfl⟩
noncomputable def bitOf (b:Int) (v:V):Bool:=match v with
 | .int t=>decide (Dx (b / 2 ^ t.toNat) 1=1)
 | _=>false
noncomputable def sp_combs (K:Am):Sp:=fun vs H Q _=>∃ (a:A3) (ns:List Int),vs = [.ref a]/\SqL K H a (ns.map V.int)/\∀ p ks vs H',Same H H'->H p=none->H' p=some (.lst vs)->Drawn (fun _=>True) H' vs ks->ks.length<=8->Q (.ref p) H'
theorem zfo:FnScope ["_law_script","_law_head","_law_menu_here","_law_many","_law_found","_law_used","_law_k","_law_cell","_law_bits","_law_word_here"] ["_law_script"] (defScope s_combs):=⟨rfl,rfl,rfl,by decide +kernel,rfl,by decide +kernel,by decide +kernel⟩
theorem ok_combs (D:DefAt K mg "_law_combs" s_combs) (T:Bn mg) (C_at:Callee P w K mg base "_law_at" 1 ["_law_script","_law_k"] (sp_at K)) (C_mixed:Callee P w K mg base "_law_mixed" 1 ["_law_cell","_law_k"] sp_mixed) (C_word:Callee P w K mg base "_law_word" 1 ["_law_cell","_law_base"] sp_word)
  (C_spare:Callee P w K mg base "_law_spare" 1 ["_law_word_here","_law_used"] (sp_spare K)) (C_menu:Callee P w K mg base "_law_menu" 1 ["_law_k"] sp_menu):Callee P w K mg base "_law_combs" 2 ["_law_script"] (sp_combs K):=by
 refine D.calleeQ zfo (fun _ _ _ _ _ _=>ln1 fun _=>rfl) (fun vs H Q E h => ?_) (fun f cdv A outer s H vs Q E hr h => ?_)
 ·obtain ⟨a,ns,rfl,_⟩:=h
  rfl
 ·obtain ⟨a,ns,rfl,hS,q⟩:=h
  have S:=zfo
  refine ⟨_,zaD (zbd (i:=1) S.nd rfl (As rfl) (qe (zaR C_at (hr.mono (by decide)) rfl (zaa (pv 0) (zaa (zad) zac)))))
  (zaD (zbd (i:=2) S.nd rfl (As rfl) (qe (zaR C_menu (hr.mono (by decide)) rfl (zaa (zaR C_at (hr.mono (by decide)) rfl (zaa (pv 0) (zaa (zad) zac))) zac))))
  (zaD (zbd (i:=3) S.nd rfl (As rfl) (qe_ix zaz (zbn (zag (qe (zad)) (zag (qe (zad)) (zag (qe (zad)) (zag (qe (zad)) (zag (qe (zad)) (zag (qe (zad)) (zag (qe (zad)) (zag (qe (zad)) (zag (qe (zad)) (zag (qe (zad)) (zag (qe (zad)) (zag (qe (zad)) (zag (qe (zad)) (zag (qe (zad)) (zaA)))))))))))))))) (qe (zau za8 (zau zbs (pv 1) (zad)) (zad))) (fun _ _=>rfl)))
  (qss_cut (qs (zaL (zas zck (zau za8 (pv 1) (zad)) (zad) (zax _))
   (zah (zak (i:=3) S.nd rfl (As rfl) (zai zar rfl T.n_len Bu (zaa (pv 2) zac))))
   (zap)))
  (zaD (zbd (i:=4) S.nd rfl (As rfl) (zbn (zaA)))
  (zaD (zbd (i:=5) S.nd rfl (As rfl) (zbn (zaA)))
  (zaD (qs (za2 Be rfl (za4 rfl T.n_range (zaa (pv 3) zac)) (zaj (i:=6) S.nd rfl (As rfl))
   (zae (zak (i:=7) S.nd rfl (As rfl) (zaR C_at (hr.mono (by decide)) rfl (zaa (pv 0) (zaa (zau zbF (zad) (pv 6)) zac))))
   (zbC (zaL (zas zgL (zau za8 (pv 1) (zad)) (zad) (zax _))
    (zah (zak (i:=7) S.nd rfl (As rfl) (zaR C_mixed (hr.mono (by decide)) rfl (zaa (pv 7) (zaa (pv 6) zac)))))
    (zap))
   (zae (zak (i:=8) S.nd rfl (F4 rfl) (zau zbF (zau zdG (zau za8 (pv 7) (zad)) (zad)) (zad)))
   (zbC (zaL (zas zck (zau za8 (pv 1) (zad)) (zad) (zax _))
    (zah (zak (i:=8) S.nd rfl (F4 rfl) (zay za6 (pv 2) (pv 6) (fun _ _=>rfl))))
    (zap))
   (zae (zak (i:=9) S.nd rfl (As rfl) (zaR C_spare (hr.mono (by decide)) rfl (zaa (zaR C_word (hr.mono (by decide)) rfl (zaa (zau zbs (pv 7) (zad)) (zaa (zay zaz (zaO (zaa (zad) (zaa (zad) zac))) (zau za8 (zau zbs (pv 1) (zad)) (zad)) (fun _ _=>rfl)) zac))) (zaa (pv 5) zac))))
   (zae (zaW (zcj Bh Bl Bj zaH (pv 5) (zaa (pv 9) zac)))
   (zah (zaW (zcj Bh Bl Bj zaH (pv 4) (zaa (zaO (zaa (pv 9) (zaa (za3 (own := ["_law_t"]) (caps := [(8,"_law_bits")]) rfl ⟨rfl,rfl,rfl,rfl,⟨⟨rfl,rfl,.inl rfl⟩,trivial⟩⟩ (za4 rfl T.n_range (zaa (zad) zac)) (fun _ _ _ _ _ _=>zaj (i:=0) (zaP (by decide +kernel)) rfl (As rfl)) (fun _ _ _ _ _ _=>zcw (zas zck (zau zgX (zau op_shr (pv 1) (pv 0)) (zad)) (zad) (zax _))) (fun _ _ _ _ _ _=>pv 0)) zac))) zac))))))))))))
  (zeV (zf5 (qe (pv 4)))))))))),?_⟩
  refine ⟨_,rfl,a,ns,0,rfl,hS,by decide,?_⟩
  generalize ns.getD (Int.toNat 0) 0=head
  refine ⟨_,rfl,a,ns,1,rfl,hS,by decide,_,rfl,fun pm xs H1 s1 em hm => ?_⟩
  obtain ⟨m,hma,hm0,hm8⟩:=manyL_at (k:=head / 3 % 14) (Int.emod_nonneg _ (by decide)) (Int.emod_lt_of_pos _ p14)
  refine ⟨bigr rfl,fun b nb=>⟨_,rfl,_,_,rfl,rfl,⟨p3,by decide⟩,_,_,rfl,rfl,p14,_,_,_,_,rfl,rfl,SqL.of zab,hma,?_⟩⟩
  have s2:Same H (upd H1 b (.lst (manyL.map V.int))):=s1.put (s1.free nb)
  have em2:upd H1 b (.lst (manyL.map V.int)) pm=some (.tup (xs.map V.int)):=by rw [zaf (zan em nb)]; exact em
  refine ⟨fun σ H'=>Same H H'/\H' pm=some (.tup (xs.map V.int))/\∃ m:Int,σ = [some (.ref a),some (.int head),some (.ref pm),some (.int m),none,none,none,none,none,none]/\0<=m/\m<=8/\(head % 3=2->m=xs.length),?_,?_⟩
  ·refine ⟨_,rfl,_,_,rfl,rfl,p3,rfl,_,rfl,?_⟩
   refine ite2 (fun hc => ?_) (fun hc => ?_)
   ·refine ⟨_,rfl,_,_,rfl,.inr (SqT.of em2),?_⟩
    rw [A5]
    exact ⟨s2,em2,_,rfl,by omega,by have:=hm.1.2; omega,fun _=>rfl⟩
   ·have hc:¬ head % 3=2:=by simpa using hc
    exact ⟨s2,em2,_,rfl,hm0,hm8,fun z=>absurd z hc⟩
  clear s2 em2 hma hm0 hm8 nb b m s1 em H1
  rintro σ H1 ⟨s1,em,m,rfl,hm0,hm8,hm2⟩
  refine ⟨bigr rfl,fun pf nf => ?_⟩
  refine ⟨bigr rfl,fun pu nu => ?_⟩
  have nfu:pf≠pu:=fun z=>by rw [<- z,zab] at nu; cases nu
  have fH:H pf=none:=s1.free nf
  have s2:=(s1.put (o := .lst []) fH)
  have uH:H pu=none:=s2.free nu
  have s3:=s2.put (o := .lst []) uH
  have em3:upd (upd H1 pf (.lst [])) pu (.lst []) pm=some (.tup (xs.map V.int)):=by
   rw [zaf (zan (by rw [zaf (zan em nf)]; exact em) nu),zaf (zan em nf)]; exact em
  refine ⟨_,rfl,_,rfl,by omega,by omega,?_⟩
  refine zbE (zaI 0 m.toNat) (fun i σ H'=>Same H H'/\H' pm=some (.tup (xs.map V.int))/\∃ (vs:List V) (ks:List (Str×List Int)) (x6 x7 x8 x9:Option V),σ = [some (.ref a),some (.int head),some (.ref pm),some (.int m),some (.ref pf),some (.ref pu),x6,x7,x8,x9] /\
   H' pf=some (.lst vs)/\H' pu=some (.lst ((ks.map (·.1)).map V.str))/\Drawn (fun x=>x≠pf/\x≠pu) H' vs ks/\ks.length=i) ⟨s3,em3,[],[],_,_,_,_,rfl,by rw [zaf nfu,zab],by rw [zab]; rfl,⟨trivial,Du,by simp⟩,rfl⟩ (fun _ _ _ _ _=>trivial) ?_ ?_
  ·rintro i x σ H2 hx ⟨s2,em2,vs,ks,x6,x7,x8,x9,rfl,ef,eu,dr,hl⟩
   obtain ⟨hi,rfl⟩:=zbk hx
   have hi8:i < 8:=by omega
   have hS2:=s2.seq hS
   refine ⟨_,rfl,_,rfl,_,_,rfl,rfl,a,ns,_,rfl,hS2,?_,?_⟩
   ·show (0:Int)<=1 + (0 + ((i:Nat):Int))
    omega
   generalize ns.getD (1 + (0 + ((i:Nat):Int))).toNat 0=cell0
   refine ⟨fun σ H'=>H'=H2/\∃ (c:Int),σ = [some (.ref a),some (.int head),some (.ref pm),some (.int m),some (.ref pf),some (.ref pu),some (.int (0 + ((i:Nat):Int))),some (.int c),x8,x9],?_,?_⟩
   ·refine ⟨_,rfl,_,_,rfl,rfl,p3,_,_,rfl,rfl,_,rfl,?_⟩
    refine ite2 (fun _ => ?_) (fun _ => ?_)
    ·exact ⟨_,rfl,_,rfl,_,_,rfl,rfl,_,rfl⟩
    ·exact ⟨rfl,_,rfl⟩
   rintro σ H3 ⟨rfl,c,rfl⟩
   have c0:=E8 c (show (128:Int)≠0 by decide)
   have c1:=Dq c zhe
   refine ⟨_,rfl,_,_,rfl,rfl,zhe,_,_,rfl,rfl,.inr ⟨by decide,by decide⟩,_,_,rfl,rfl,?_⟩
   refine ⟨fun σ H'=>H'=H3/\∃ (bt:Int),σ = [some (.ref a),some (.int head),some (.ref pm),some (.int m),some (.ref pf),some (.ref pu),some (.int (0 + ((i:Nat):Int))),some (.int c),some (.int bt),x9]/\bt % 2=1/\0<=bt,?_,?_⟩
   ·refine ⟨_,rfl,_,_,rfl,rfl,p3,rfl,_,rfl,?_⟩
    refine ite2 (fun hc => ?_) (fun hc => ?_)
    ·have hc:head % 3=2:=by simpa using hc
     have hix:i < xs.length:=by have:=hm2 hc; omega
     have hat:atI (xs.map V.int) (0 + ((i:Nat):Int))=some (V.int xs[i]):=by
      rw [Dy]
      refine zat ?_
      rw [Af,A6 hix]
      rfl
     have:=hm.2 xs[i] (Cp hix)
     exact ⟨_,rfl,_,rfl,_,_,_,_,rfl,rfl,SqT.of em2,hat,rfl,_,rfl,this.1,this.2.1⟩
    ·exact ⟨rfl,_,rfl,by omega,by omega⟩
   rintro σ H4 ⟨rfl,bt,rfl,hb1,hb0⟩
   obtain ⟨bs,hbs,hb2⟩:=base_at (k:=head / 42 % 2) (Int.emod_nonneg _ (by decide)) (Int.emod_lt_of_pos _ p2)
   refine ⟨_,rfl,_,_,rfl,rfl,⟨zhe,by decide⟩,bigr rfl,fun b nb=>⟨_,rfl,_,_,rfl,rfl,⟨p42,by decide⟩,_,_,rfl,rfl,p2,_,_,_,_,rfl,rfl,SqL.of zab,hbs,_,_,rfl,hb2,fun y hy => ?_⟩⟩
   have s4:=s2.put (o := .lst [V.int 26,V.int 2]) (s2.free nb)
   have t4:Same H4 (upd H4 b (.lst [V.int 26,V.int 2])):=Same.new nb
   have eu4:=t4 _ _ eu
   refine ⟨_,rfl,y,pu,ks.map (·.1),rfl,hy,SqL.of eu4,by rw [A5]; omega,fun z H5 s5 hz hzn => ?_⟩
   have s5H:=s4.trans s5
   have t5:=t4.trans s5
   have eu5:=t5 _ _ eu
   have ef5:=t5 _ _ ef
   have em5:=t5 _ _ em2
   have dr5:=dr.same t5
   refine ⟨_,rfl,.inl ⟨rfl,_,SqL.of eu5⟩,_,rfl,_,_,_,rfl,rfl,eu5,?_,?_⟩
   ·rw [A5,A5]
    exact Ae (by omega:ks.length < 1000) zaK
   have s6:=s5H.put (o := .lst ((ks.map (·.1)).map V.str ++ [V.str z])) uH
   have dr6:Drawn (fun x=>x≠pf/\x≠pu) (upd H5 pu (.lst ((ks.map (·.1)).map V.str ++ [V.str z]))) vs ks:=dr5.upd fun z=>z.2 rfl
   have em6:upd H5 pu (.lst ((ks.map (·.1)).map V.str ++ [V.str z])) pm=some (.tup (xs.map V.int)):=by
    rw [zaf (fun w=>by rw [w,eu5] at em5; cases em5)]; exact em5
   have ef6:upd H5 pu (.lst ((ks.map (·.1)).map V.str ++ [V.str z])) pf=some (.lst vs):=by rw [zaf nfu]; exact ef5
   have eu6:upd H5 pu (.lst ((ks.map (·.1)).map V.str ++ [V.str z])) pu=some (.lst ((ks.map (·.1)).map V.str ++ [V.str z])):=zab
   generalize upd H5 pu (.lst ((ks.map (·.1)).map V.str ++ [V.str z]))=H6 at s6 dr6 em6 ef6 eu6
   refine ⟨_,rfl,.inl ⟨rfl,_,SqL.of ef6⟩,_,rfl,_,rfl,by decide,by decide,fun Dc hD => ?_⟩
   refine zbV (capv := [some (.int bt)]) (by rfl) (zaI 0 (8:Int).toNat) (bigr rfl) hD ?_ (bitOf bt) (fun v=>v) ?_ ?_ ?_
   ·exact fun _ _=>trivial
   ·intro v hv H' R s' h
    obtain ⟨t,ht,rfl⟩:=Ah.mp hv
    refine ⟨_,rfl,_,rfl,_,_,rfl,rfl,?_,_,_,rfl,rfl,rfl,_,rfl,?_⟩
    ·show (0:Int)<=0 + ((t:Nat):Int)
     omega
    rw [dec_ii]
    exact h H' (Same.refl _)
   ·intro v hv hp H' R s' h
    exact ⟨_,rfl,h H' (Same.refl _)⟩
   intro H7 s7 e7
   have ets:(((((Ab (8:Int).toNat).map fun i=>V.int (0 + ((i:Nat):Int))).filter (bitOf bt)).map fun v=>v))=(((Ab 8).filter fun i=>bitOf bt (.int (0 + ((i:Nat):Int)))).map fun i=>((i:Nat):Int)).map V.int:=by
    rw [Md,Ix,Bp]
    show K0 _ (List.filter _ (Ab 8))=_
    congr 1
    funext i
    show V.int (0 + ((i:Nat):Int))=V.int ((i:Nat):Int)
    rw [Dy]
   have gt:GT (((Ab 8).filter fun i=>bitOf bt (.int (0 + ((i:Nat):Int)))).map fun i=>((i:Nat):Int)):=by
    refine ⟨_,rfl,?_⟩
    show decide (Dx (bt / 2 ^ (0 + ((0:Nat):Int)).toNat) 1=1)=true
    rw [bitAnd_m1]
    apply decide_eq_true
    show bt / 1 % 2=1
    rw [Int.ediv_one]
    exact hb1
   rw [ets] at e7
   generalize (((Ab 8).filter fun i=>bitOf bt (.int (0 + ((i:Nat):Int)))).map fun i=>((i:Nat):Int))=ts at e7 gt
   refine ⟨bigr rfl,fun q' nq => ?_⟩
   have t7:Same H6 H7:=s7
   have n7:∀ {x o},H6 x=some o->x≠Dc:=fun e z=>by rw [z,hD] at e; cases e
   have n8:∀ {x o},H7 x=some o->x≠q':=fun e z=>by rw [z,nq] at e; cases e
   have ef8:upd H7 q' (.lst [V.str z,V.ref Dc]) pf=some (.lst vs):=by rw [zaf (n8 (t7 _ _ ef6))]; exact t7 _ _ ef6
   refine ⟨_,_,_,rfl,rfl,ef8,?_,?_⟩
   ·rw [dr6.rows.length]
    exact Ae (by omega:ks.length < 1000) zaK
   have s8:=((s6.trans s7).put (o := .lst [V.str z,V.ref Dc]) ((s6.trans s7).free nq)).put (o := .lst (vs ++ [V.ref q'])) fH
   have fq:q'≠pf:=(n8 (t7 _ _ ef6)).symm
   have uq:q'≠pu:=(n8 (t7 _ _ eu6)).symm
   refine ⟨s8,?_,vs ++ [.ref q'],ks ++ [(z,ts)],_,_,_,_,rfl,zab,?_,?_,by rw [Ag,hl]; rfl⟩
   ·have fm:pm≠pf:=fun w=>by rw [w,ef6] at em6; cases em6
    rw [zaf fm,zaf (n8 (t7 _ _ em6))]
    exact t7 _ _ em6
   ·rw [zaf nfu.symm,zaf (n8 (t7 _ _ eu6)),t7 _ _ eu6,Bs,Bs]
    rfl
   ·refine Drawn.snoc (q:=q') (t:=Dc) (((dr6.same t7).same (Same.new nq)).upd fun w=>w.1 rfl) ?_ ?_ ⟨fq,uq⟩ ⟨(n7 ef6).symm,(n7 eu6).symm⟩ hzn ⟨hz,gt⟩
    ·rw [zaf fq,zab]
    ·rw [zaf (n7 ef6).symm,zaf (n8 e7)]
     exact e7
  ·rintro σ H2 ⟨s2,em2,vs,ks,x6,x7,x8,x9,rfl,ef,eu,dr,hl⟩
   rw [A5,Ax] at hl
   exact ⟨_,rfl,q pf ks vs H2 s2 fH ef dr.any (by omega)⟩
noncomputable def posV (v:V):Bool:=match v with
 | .int t=>decide (0 < t)
 | _=>false
noncomputable def decV (v:V):V:=match v with
 | .int t => .int (t - 1)
 | _ => .non
noncomputable def sp_after (K:Am):Sp:=fun vs H Q _=>∃ (a t:A3) (ah ts:List Int),vs = [.ref a,.ref t]/\SqT K H a (ah.map V.int)/\H t=some (.lst (ts.map V.int))/\ah.Nodup/\(∀ d∈ah,0<=d/\d<=6)/\ts.Nodup/\(∀ d∈ts,0<=d/\d<=7) /\
 (if meets ah ts=true then Q .non H else ∀ p H',Same H H'->H p=none->H' p=some (.tup ((afterOf ah ts).map V.int))->Q (.ref p) H')
theorem zfq:FnScope ["_law_ahead","_law_teeth_here","_law_t"] ["_law_ahead","_law_teeth_here"] (defScope s_after):=⟨rfl,rfl,rfl,by decide +kernel,rfl,by decide +kernel,by decide +kernel⟩
theorem ok_after (D:DefAt K mg "_law_after" s_after) (T:Bn mg):Callee P w K mg base "_law_after" 1 ["_law_ahead","_law_teeth_here"] (sp_after K):=by
 refine D.callee zfq (fun _ _ _ _ _ _=>ln2 fun _ _=>rfl) (fun vs H Q E h => ?_) (fun f cdv A outer s H vs Q E hr h => ?_)
 ·obtain ⟨a,t,ah,ts,rfl,_⟩:=h
  rfl
 ·obtain ⟨a,t,ah,ts,rfl,ha,ht,an,ar,tn,tr,q⟩:=h
  have S:=zfq
  have hal:ah.length<=8:=zcX an fun d hd=>by have:=ar d hd; omega
  have htl:ts.length<=8:=zcX tn tr
  refine ⟨_,zae (za2 Be rfl (zaC (pv 1)) (zaj (i:=2) S.nd rfl (As rfl))
   (zah (zaL (zas zeu (pv 2) (pv 0) (by with_unfolding_all rfl))
    (zah (zam (zgV)))
    (zap))))
  (zah (zam (zbr zco rfl T.n_tuple Mo (zaa (za3 (own := ["_law_d"]) (caps := []) rfl ⟨rfl,rfl,rfl,rfl,trivial⟩ (zaC (zai zcJ rfl T.n_sorted Jy (zaa (zau zbT (zbr zbW rfl T.n_list Nh (zaa (pv 0) zac)) (pv 1)) zac))) (fun _ _ _ _ _ _=>zaj (i:=0) (zaP (by decide +kernel)) rfl (As rfl)) (fun _ _ _ _ _ _=>zcw (zas zgL (pv 0) (zad) (zax _))) (fun _ _ _ _ _ _=>zau zc4 (pv 0) (zad))) zac)))),?_⟩
  refine ⟨_,rfl,_,rfl,⟨_,SqL.of ht⟩,?_⟩
  refine zbE (zao K t (ts.map V.int)) (fun i σ Hx=>Hx=H/\meets ah (ts.take i)=false/\∃ x2,σ = [some (.ref a),some (.ref t),x2]) ⟨rfl,rfl,_,rfl⟩ (fun i σ Hx _ h=>by rw [h.1]; exact SqL.of ht) ?_ ?_
  ·rintro i x σ Hx hx ⟨rfl,hm,x2,rfl⟩
   rw [Af] at hx
   cases hk:ts[i]? with
   | none=>rw [hk] at hx; cases hx
   | some y =>
    rw [hk] at hx
    cases hx
    refine ⟨_,rfl,_,rfl,_,_,rfl,.inr ha,rfl,zhh ah,_,rfl,?_⟩
    rw [if_neg (by decide),zgq]
    refine ite2 (fun hc => ?_) (fun hc => ?_)
    ·have hc:y∈ah:=by simpa using hc
     have:meets ah ts=true:=by
      unfold meets
      exact Bv.mpr ⟨y,B0 hk,decide_eq_true hc⟩
     rw [if_pos this] at q
     exact q
    ·have hc:y ∉ ah:=by simpa using hc
     refine ⟨rfl,?_,_,rfl⟩
     rw [zaG hk]
     rw [meets_false] at hm ⊢
     intro z hz
     rcases Al.mp hz with h | h
     ·exact hm z h
     ·rw [A7.mp h]; exact hc
  ·rintro σ Hx ⟨rfl,hm,x2,rfl⟩
   rw [A5,C8] at hm
   rw [if_neg (by rw [hm]; decide)] at q
   refine ⟨_,rfl,a,_,rfl,.inr ha,fun p np=>⟨_,rfl,p,t,_,ts.map V.int,rfl,rfl,zab,?_,?_,fun p2 np2 => ?_⟩⟩
   ·rw [zaf (zan ht np)]; exact ht
   ·rw [A5,A5]
    exact G5 (Ae (by omega:ah.length + ts.length < 1000) zaK)
   refine ⟨p2,ah ++ ts,rfl,SqL.of (by rw [Bs]; exact zab),by rw [Ag]; omega,fun p3 ns np3 hp hs => ?_⟩
   have hc:=after_canon an ar tn tr hm hp hs
   have s1:Same Hx (upd Hx p (.lst (ah.map V.int))):=Same.new np
   have s2:=s1.trans (Same.new (o := .lst (ah.map V.int ++ ts.map V.int)) np2)
   have s3:=s2.trans (Same.new (o := .lst (ns.map V.int)) np3)
   refine ⟨_,rfl,⟨_,SqL.of zab⟩,fun Dc hD => ?_⟩
   have hnl:ns.length<=1000:=by
    have:=hp.length_eq
    rw [Ag] at this
    omega
   refine zbV (capv := []) (L:=ns.map V.int) (by rfl) (zao K p3 (ns.map V.int)) (by rw [A5]; exact big hnl) hD (fun H' s'=>SqL.of (s' _ _ zab)) posV decV ?_ ?_ ?_
   ·intro v hv H' R s' h
    obtain ⟨d,hd,rfl⟩:=Ah.mp hv
    exact ⟨_,rfl,_,_,rfl,rfl,_,rfl,h H' (Same.refl _)⟩
   ·intro v hv _ H' R s' h
    obtain ⟨d,hd,rfl⟩:=Ah.mp hv
    exact ⟨_,rfl,_,_,rfl,rfl,h H' (Same.refl _)⟩
   ·intro H7 s7 e7
    have ets:(((ns.map V.int).filter posV).map decV)=(afterOf ah ts).map V.int:=by
     unfold afterOf
     rw [<- hc,Ix,Bp,Bp]
     rfl
    rw [ets] at e7
    have s07:=s3.trans s7
    exact ⟨_,_,rfl,.inl ⟨SqL.of e7,fun l nl=>q l _ (s07.put (s07.free nl)) (s07.free nl) zab⟩⟩
noncomputable def sp_goes (K:Am):Sp:=fun vs H Q _=>∃ (k a:A3) (ws:List V) (ks:Combs) (ah:List Int),vs = [.ref k,.ref a]/\H k=some (.lst ws)/\KindsL (fun _=>True) H ws ks/\ks.length<=100/\(∀ c∈ks,GT c.2)/\SqT K H a (ah.map V.int)/\ah.Nodup/\(∀ d∈ah,0<=d/\d<=6) /\
 ∀ p H' vs',Same H H'->H p=none->H' p=some (.lst vs')->GoesR H' vs' (goesOf ks ah)->Q (.ref p) H'
theorem zfZ:FnScope ["_law_kinds","_law_ahead","_law_found","_law_word_here","_law_teeth_here","_law_further"] ["_law_kinds","_law_ahead"] (defScope s_goes):=⟨rfl,rfl,rfl,by decide +kernel,rfl,by decide +kernel,by decide +kernel⟩
theorem ok_goes (D:DefAt K mg "_law_goes" s_goes) (T:Bn mg) (C_after:Callee P w K mg base "_law_after" 1 ["_law_ahead","_law_teeth_here"] (sp_after K)):Callee P w K mg base "_law_goes" 2 ["_law_kinds","_law_ahead"] (sp_goes K):=by
 refine D.callee zfZ (fun _ _ _ _ _ _=>ln2 fun _ _=>rfl) (fun vs H Q E h => ?_) (fun f cdv A outer s H vs Q E hr h => ?_)
 ·obtain ⟨k,a,ws,ks,ah,rfl,_⟩:=h
  rfl
 ·obtain ⟨k,a,ws,ks,ah,rfl,hk,kr,hkl,hg,ha,an,ar,q⟩:=h
  have S:=zfZ
  have hlen:=kr.length
  refine ⟨_,zae (zaL (zas zeu (zad) (pv 1) (by with_unfolding_all rfl))
   (zah (zam (zaO (zaa (za9 (zaa (zaw) (zaa (zaR C_after (hr.mono (by decide)) rfl (zaa (pv 1) (zaa (zaO (zac)) zac))) zac))) zac))))
   (zap))
  (zae (zak (i:=2) S.nd rfl (As rfl) (zaO (zac)))
  (zae (za2 Be rfl (zaC (pv 0)) (zf9 rfl (zaB (zaj (i:=3) S.nd rfl (As rfl)) (zaB (zaj (i:=4) S.nd rfl (As rfl)) (zbD))))
   (zae (zak (i:=5) S.nd rfl (As rfl) (zaR C_after (hr.mono (by decide)) rfl (zaa (pv 1) (zaa (pv 4) zac))))
   (zah (zaL (zas op_notN (pv 5) (zgV) (zax _))
    (zah (zaW (zcj Bh Bl Bj zaH (pv 2) (zaa (za9 (zaa (pv 3) (zaa (pv 5) zac))) zac))))
    (zap)))))
  (zah (zam (pv 2))))),?_⟩
  refine ⟨_,rfl,_,_,rfl,.inr ha,rfl,zhh ah,_,rfl,?_⟩
  rw [if_neg (by decide),zgq]
  refine ite2 (fun hc => ?_) (fun hc => ?_)
  ·have hc:(0:Int)∈ah:=by simpa using hc
   refine ⟨_,rfl,bigr rfl,fun p0 np0=>⟨a,p0,ah,[],rfl,(Same.new np0).tup ha,zab,an,ar,Du,by simp,?_⟩⟩
   rw [if_neg (show ¬ meets ah []=true from A9)]
   intro p1 H1 s1 n1 e1
   refine ⟨bigr rfl,fun p2 np2=>⟨bigr rfl,fun p3 np3 => ?_⟩⟩
   have s01:Same H H1:=(Same.new np0).trans s1
   have s2:=s01.trans (Same.new (o := .tup [.str "",.ref p1]) np2)
   refine q p3 _ [.ref p2] (s2.trans (Same.new np3)) (s2.free np3) zab ?_
   rw [goes_in hc]
   have e2:upd H1 p2 (.tup [.str "",.ref p1]) p2=some (.tup [.str "",.ref p1]):=zab
   have e1':upd H1 p2 (.tup [.str "",.ref p1]) p1=some (.tup ((afterOf ah []).map V.int)):=by rw [zaf (zan e1 np2)]; exact e1
   refine ⟨⟨p2,p1,rfl,?_,?_⟩,trivial⟩
   ·rw [zaf (zan e2 np3)]; exact e2
   ·rw [zaf (zan e1' np3)]; exact e1'
  ·have hc:(0:Int) ∉ ah:=by simpa using hc
   refine ⟨bigr rfl,fun pf npf => ?_⟩
   have s1:Same H (upd H pf (.lst [])):=Same.new npf
   refine ⟨_,rfl,_,rfl,⟨_,SqL.of (s1 _ _ hk)⟩,?_⟩
   refine zbE (zao K k ws) (fun i σ Hx=>Same H Hx/\∃ vs x3 x4 x5,σ = [some (.ref k),some (.ref a),some (.ref pf),x3,x4,x5]/\Hx pf=some (.lst vs)/\vs.length<=i/\GoesR Hx vs (goesOf (ks.take i) ah)) ⟨s1,[],_,_,_,rfl,zab,Aa _,?_⟩ (fun i σ Hx _ h=>SqL.of (h.1 _ _ hk)) ?_ ?_
   ·rw [P3,goes_nil hc]
    trivial
   ·rintro i x σ Hx hx ⟨sx,vs,x3,x4,x5,rfl,hpf,hvl,hgr⟩
    obtain ⟨c,qa,t,hkc,rfl,hq,ht⟩:=(kr.same sx).get hx
    have hi:i < ks.length:=(Ao.mp hkc).1
    have gc:=hg c (B0 hkc)
    refine ⟨qa,_,rfl,SqL.of hq,rfl,_,_,rfl,_,_,rfl,rfl,?_⟩
    refine ⟨_,rfl,_,rfl,a,t,ah,c.2,rfl,sx.tup ha,ht,an,ar,zba (zfN gc),zcK gc,?_⟩
    by_cases hm:meets ah c.2=true
    ·rw [if_pos hm]
     refine ⟨_,rfl,rfl,_,rfl,iteF ?_⟩
     refine ⟨sx,vs,_,_,_,rfl,hpf,by omega,?_⟩
     rw [zaG hkc,zeF hc,if_pos hm,C9]
     exact hgr
    ·rw [if_neg hm]
     intro p1 H1 s1' n1 e1
     refine ⟨_,rfl,rfl,_,rfl,iteT ?_⟩
     have sx1:=s1'
     refine ⟨_,rfl,.inl ⟨rfl,_,SqL.of (s1' _ _ hpf)⟩,_,rfl,_,rfl,bigr rfl,fun p2 np2 => ?_⟩
     have s2:Same Hx (upd H1 p2 (.tup [.str c.1,.ref p1])):=s1'.trans (Same.new np2)
     have e2:upd H1 p2 (.tup [.str c.1,.ref p1]) p2=some (.tup [.str c.1,.ref p1]):=zab
     have e1':upd H1 p2 (.tup [.str c.1,.ref p1]) p1=some (.tup ((afterOf ah c.2).map V.int)):=by rw [zaf (zan e1 np2)]; exact e1
     have hpf2:=s2 _ _ hpf
     refine ⟨pf,_,_,rfl,rfl,hpf2,Ae (by omega:vs.length < 1000) zaK,?_⟩
     have tn:∀ q' xs,upd H1 p2 (.tup [.str c.1,.ref p1]) q'=some (.tup xs)->upd (upd H1 p2 (.tup [.str c.1,.ref p1])) pf (.lst (vs ++ [.ref p2])) q'=some (.tup xs):=fun q' xs h=>by
      have:q'≠pf:=fun z=>by rw [z,hpf2] at h; cases h
      rw [zaf this]; exact h
     refine ⟨(sx.trans s2).put npf,_,_,_,_,rfl,zab,(by rw [Ag,Bd]; omega),?_⟩
     rw [zaG hkc,zeF hc,if_neg hm]
     exact GoesR.snoc (s:=(c.1,afterOf ah c.2)) (tn _ _ e2) (tn _ _ e1') (hgr.mono fun q' xs h=>tn _ _ (s2 _ _ h))
   ·rintro σ Hx ⟨sx,vs,x3,x4,x5,rfl,hpf,hvl,hgr⟩
    rw [hlen,C8] at hgr
    exact ⟨_,rfl,q pf Hx vs sx npf hpf hgr⟩
theorem zcn {ks:Combs} (h8:ks.length<=8) (s:Nat) (hs:s < 128) (g:GC ks):(goesOf ks (aheadOf (s:Int))).length<=8:=by
 rw [<- A5 (f:=fun p:Str×List Int=>(p.1,worth p.2)),zaV hs g]
 exact zdR h8 s
noncomputable def LeftR (H:Hp) (ws:List V) (ls:List Nat):Prop:=C7 (fun (s:Nat) (v:V)=>s < 128/\∃ q,v = .ref q/\H q=some (.tup ((aheadOf (s:Int)).map V.int))) ls ws
theorem LeftR.mono {H H':Hp} {ws:List V} {ls:List Nat} (r:LeftR H ws ls) (m:∀ q xs,H q=some (.tup xs)->H' q=some (.tup xs)):LeftR H' ws ls:=C7.mapP r fun _ _ ⟨a,q,b,c⟩=>⟨a,q,b,m _ _ c⟩
noncomputable def intTup (ns:List Int):Gm := .tuple (ns.map Ed)
theorem LeftR.vd {K:Am} {H:Hp} {ws:List V} {ls:List Nat} (r:LeftR H ws ls):VDs K H ws (ls.map fun (s:Nat)=>intTup (aheadOf (s:Int))):=by
 induction r with
 | nil=>exact .nil
 | cons h _ ih =>
  obtain ⟨_,q,rfl,e⟩:=h
  exact .cons (.tup (SqT.of e) (VDs.map fun u _ => .int u)) ih
theorem shaped_tups (ls:List (List Int)):Do (.list (ls.map intTup))=true:=by
 have h0:∀ a:List Int,Ba (a.map Ed)=true/\C0 (a.map Ed)=0:=by
  intro a
  induction a with
  | nil=>exact ⟨rfl,rfl⟩
  | cons x a ih=>rw [Aq,Ba,C0,ih.1,ih.2]; exact ⟨rfl,rfl⟩
 have h1:∀ ls:List (List Int),Ba (ls.map intTup)=true/\C0 (ls.map intTup)<=1:=by
  intro ls
  induction ls with
  | nil=>exact ⟨rfl,By _⟩
  | cons x ls ih =>
   rw [Aq,Ba,C0]
   unfold intTup
   refine ⟨?_,?_⟩
   ·rw [show Ba (K0 (fun ns:List Int=>PyData.tuple (ns.map Ed)) ls)=true from ih.1]
    simp [D4,(h0 x).1]
   ·have:=ih.2
    unfold intTup at this
    simp only [Dm,(h0 x).2]
    omega
 have:=h1 ls
 have h2:Dm (.list (ls.map intTup))<=64:=by
  rw [Dm]
  omega
 have h3:D4 (.list (ls.map intTup))=true:=by
  simp [D4,this.1]
 unfold Do
 rw [h3,decide_eq_true h2]
 rfl
noncomputable def sp_graph:Sp:=fun vs H Q _=>∃ (k b:A3) (ws:List V) (ks:Combs) (s0:Nat),vs = [.ref k,.ref b]/\H k=some (.lst ws)/\KindsL (fun _=>True) H ws ks/\ks.length<=8/\GC ks/\s0 < 128/\H b=some (.tup ((aheadOf (s0:Int)).map V.int))/\∀ p kvs L H',Same H H'->H p=none->H' p=some (.dT kvs)->GrL H' kvs ks L->L.Nodup->ClsS ks L->s0∈L->Q (.ref p) H'
theorem zfn:FnScope ["_law_kinds","_law_begin","_law_graph_here","_law_left","_law_ahead","_law_word_here","_law_further"] ["_law_kinds","_law_begin"] (defScope s_graph):=⟨rfl,rfl,rfl,by decide +kernel,rfl,by decide +kernel,by decide +kernel⟩
theorem ok_graph (D:DefAt K mg "_law_graph" s_graph) (T:Bn mg) (C_goes:Callee P w K mg base "_law_goes" 2 ["_law_kinds","_law_ahead"] (sp_goes K)):Callee P w K mg base "_law_graph" 3 ["_law_kinds","_law_begin"] sp_graph:=by
 refine D.callee zfn (fun _ _ _ _ _ _=>ln2 fun _ _=>rfl) (fun vs H Q E h => ?_) (fun f cdv A outer s H vs Q E hr h => ?_)
 ·obtain ⟨k,b,ws,ks,s0,rfl,_⟩:=h
  rfl
 ·obtain ⟨k,b,ws,ks,s0,rfl,hk,kr,h8,gc,hs0,hb,q⟩:=h
  have S:=zfn
  have hu:=zcm hr
  refine ⟨_,zae (zak (i:=2) S.nd rfl (As rfl) (zci))
  (zae (zak (i:=3) S.nd rfl (As rfl) (zaO (zaa (pv 1) zac)))
  (zae (zdX Be (zas (op_neD hr.units) (pv 3) (zaO (zac)) (zax _))
   (zae (zak (i:=4) S.nd rfl (As rfl) (pe_bm0 Bh PySem.F.slot_list_pop PySem.F.type_list_pop mt_pop (pv 3)))
   (zah (zaL (zcH (zc3 hu (pv 4) (pv 2)))
    (zae (zcx hu (pv 2) (pv 4) (zaR C_goes (hr.mono (by decide)) rfl (zaa (pv 0) (zaa (pv 4) zac))) rfl)
    (zah (za2 Be rfl (zaC (zb8 hu (pv 2) (pv 4) (fun _ _=>rfl))) (zdF rfl (zaB (zaj (i:=5) S.nd rfl (As rfl)) (zaB (zaj (i:=6) S.nd rfl (As rfl)) (zbD))))
     (zah (zaW (zcj Bh Bl Bj zaH (pv 3) (zaa (pv 6) zac)))))))
    (zap)))))
  (zah (zam (pv 2))))),?_⟩
  refine fun g ng=>⟨_,rfl,bigr rfl,fun l nl => ?_⟩
  have s1:Same H (upd H g (.dT [])):=Same.new ng
  have nl0:H l=none:=s1.free nl
  have hgl:g≠l:=fun z=>by rw [<- z,zab] at nl; cases nl
  have s2:Same H (upd (upd H g (.dT [])) l (.lst [.ref b])):=s1.trans (Same.new nl)
  refine ⟨fun m σ Hx=>∃ kvs L wl ls x4 x5 x6,σ = [some (.ref k),some (.ref b),some (.ref g),some (.ref l),x4,x5,x6]/\Same H Hx/\Hx g=some (.dT kvs)/\Hx l=some (.lst wl)/\LeftR Hx wl ls/\GrL Hx kvs ks L/\(∀ kv∈kvs,kv.2 ≠ .ref l)/\L.Nodup/\(∀ s∈L,s < 128)/\(∀ s∈L,∀ p∈stp ks s,p.2.toNat∈L\/p.2.toNat∈ls)/\(s0∈L\/s0∈ls)/\ls.length<=2000 - 9 * (128 - L.length)/\m=9 * (128 - L.length) + ls.length,⟨_,[],[],[.ref b],[s0],_,_,_,rfl,s2,(by rw [zaf hgl]; exact zab),zab,.cons ⟨hs0,b,rfl,s2 _ _ hb⟩ .nil,.nil,nofun,Du,nofun,nofun,.inr (by simp),(show 1<=2000 - 9 * (128 - 0) by decide),rfl⟩,?_⟩
  rintro m σ Hx ⟨kvs,L,wl,ls,x4,x5,x6,rfl,sx,hg,hl,lr,gr,hkl,nd,lt,cl,h0,hlb,rfl⟩
  have hL128:L.length<=128:=zav 128 L nd lt
  refine ⟨_,rfl,bigr rfl,fun e ne => ?_⟩
  have se:Same Hx (upd Hx e (.lst [])):=Same.new ne
  refine ⟨_,_,.lst (SqL.of (se _ _ hl)) (lr.mono fun _ _ z=>se _ _ z).vd,.lst (SqL.of zab) .nil,?_,by decide,_,rfl,?_⟩
  ·have:=shaped_tups (ls.map fun (s:Nat)=>aheadOf (s:Int))
   rwa [Bp] at this
  have hll:=Cz lr
  cases hls:ls with
  | nil =>
   subst hls
   rw [if_pos rfl,show D0 (.list (K0 (fun s:Nat=>intTup (aheadOf (s:Int))) [])) (.list [])=true by decide]
   refine iteF ?_
   refine ⟨_,rfl,q g kvs L _ (sx.trans se) ng (se _ _ hg) (gr.same se) nd ⟨lt,fun s hs p hp=>(cl s hs p hp).resolve_right (by simp)⟩ (h0.resolve_right (by simp))⟩
  | cons t0 ts0 =>
   have hlpos:0 < ls.length:=by rw [hls]; simp
   rw [<- hls]
   rw [if_pos rfl,show D0 (.list (ls.map fun s:Nat=>intTup (aheadOf (s:Int)))) (.list [])=false by rw [hls]; simp [D0,Eb]]
   refine iteT ?_
   have hg:=se _ _ hg
   have hl:=se _ _ hl
   have lr:LeftR (upd Hx e (.lst [])) wl ls:=lr.mono fun _ _ z=>se _ _ z
   have gr:=gr.same se
   have sx:=sx.trans se
   generalize upd Hx e (.lst [])=Hy at hg hl lr gr sx
   clear se ne
   refine ⟨fun σ' H'=>∃ m',m' < 9 * (128 - L.length) + ls.length/\∃ kvs L wl ls x4 x5 x6,σ' = [some (.ref k),some (.ref b),some (.ref g),some (.ref l),x4,x5,x6]/\Same H H'/\H' g=some (.dT kvs)/\H' l=some (.lst wl)/\LeftR H' wl ls/\GrL H' kvs ks L/\(∀ kv∈kvs,kv.2 ≠ .ref l)/\L.Nodup/\(∀ s∈L,s < 128)/\(∀ s∈L,∀ p∈stp ks s,p.2.toNat∈L\/p.2.toNat∈ls)/\(s0∈L\/s0∈ls)/\ls.length<=2000 - 9 * (128 - L.length)/\m'=9 * (128 - L.length) + ls.length,fun _ _ h=>h,?_⟩
   obtain ⟨v,ev,t128,qt,rfl,hqt⟩:=C7.at lr (A6 (show ls.length - 1 < ls.length by omega))
   have els:ls=ls.dropLast ++ [ls[ls.length - 1]'(by omega)]:=by
    have hne:ls ≠ []:=fun z=>by rw [z] at hlpos; simp at hlpos
    have:=(Ky hne).symm
    rwa [M4] at this
   generalize ls[ls.length - 1]'(by omega)=t at ev t128 hqt els
   refine ⟨_,rfl,.inl ⟨rfl,_,SqL.of hl⟩,l,wl,.ref qt,rfl,rfl,hl,(by rw [<- hll]; exact ev),?_⟩
   have ldl:ls.dropLast.length=ls.length - 1:=N8
   have lr1:LeftR (upd Hy l (.lst wl.dropLast)) wl.dropLast ls.dropLast:=by
    have h1:LeftR Hy wl.dropLast ls.dropLast:=by
     have:∀ {a:List Nat} {c:List V},LeftR Hy c a->LeftR Hy c.dropLast a.dropLast:=by
      intro a c r
      induction r with
      | nil=>exact .nil
      | cons h r' ih =>
       cases r' with
       | nil=>exact .nil
       | cons h2 r2=>exact .cons h ih
     exact this lr
    exact h1.mono fun qa xs z=>by rw [zaf (fun z2=>by rw [z2,hl] at z; cases z)]; exact z
   have gr1:GrL (upd Hy l (.lst wl.dropLast)) kvs ks L:=gr.mono (fun kv hkv qa vs z z2=>by rw [zaf (fun z3=>hkl kv hkv (by rw [z,z3]))]; exact z2) fun qa xs z=>by rw [zaf (fun z2=>by rw [z2,hl] at z; cases z)]; exact z
   have hg1:upd Hy l (.lst wl.dropLast) g=some (.dT kvs):=by rw [zaf hgl]; exact hg
   have hl1:upd Hy l (.lst wl.dropLast) l=some (.lst wl.dropLast):=zab
   have hqt1:upd Hy l (.lst wl.dropLast) qt=some (.tup ((akey t).map kV)):=by
    rw [zaf (fun z2=>by rw [z2,hl] at hqt; cases hqt)]
    unfold akey
    rw [kI_V]
    exact hqt
   have sx1:Same H (upd Hy l (.lst wl.dropLast)):=sx.put nl0
   generalize upd Hy l (.lst wl.dropLast)=H1 at lr1 gr1 hg1 hl1 hqt1 sx1
   clear lr gr hg hl hqt sx
   refine ⟨_,rfl,_,rfl,g,_,rfl,DGet.t hg1 hqt1,_,rfl,?_⟩
   have hh:=gr1.has lt t128
   by_cases hin:t∈L
   ·have hh2:(valV kvs (akey t)).isSome=true:=by rw [hh]; exact decide_eq_true hin
    obtain ⟨vv,hvv⟩:=D5.mp hh2
    rw [hvv]
    refine iteF ?_
    refine ⟨_,?_,kvs,L,wl.dropLast,ls.dropLast,_,_,_,rfl,sx1,hg1,hl1,lr1,gr1,hkl,nd,lt,fun s hs p hp => ?_,?_,by omega,rfl⟩
    ·omega
    ·rcases cl s hs p hp with z | z
     ·exact .inl z
     ·rw [els] at z
      rcases Al.mp z with z | z
      ·exact .inr z
      ·rw [A7.mp z]; exact .inl hin
    ·rcases h0 with z | z
     ·exact .inl z
     ·rw [els] at z
      rcases Al.mp z with z | z
      ·exact .inr z
      ·rw [A7.mp z]; exact .inl hin
   ·have hno:valV kvs (akey t)=none:=by
     cases ez:valV kvs (akey t) with
     | none=>rfl
     | some v=>rw [ez] at hh; exact absurd (of_decide_eq_true hh.symm) hin
    rw [hno]
    refine iteT ?_
    have hqi:H1 qt=some (.tup ((aheadOf (t:Int)).map V.int)):=by
     have:=hqt1
     unfold akey at this
     rwa [kI_V] at this
    refine ⟨_,rfl,_,rfl,k,qt,ws,ks,aheadOf (t:Int),rfl,sx1 _ _ hk,kr.same sx1,by omega,gc,SqT.of hqi,zcc _,zbA,fun pv H2 vs' s2 npv hpv gv => ?_⟩
    have nd1:(L ++ [t]).Nodup:=E3.mpr ⟨nd,by simp,fun u hu v hv e=>by rw [A7.mp hv] at e; exact hin (e ▸ hu)⟩
    have lt1:∀ s∈L ++ [t],s < 128:=fun s hs=>(Al.mp hs).elim (lt s) fun z=>by rw [A7.mp z]; exact t128
    have hL1:(L ++ [t]).length<=128:=zav 128 _ nd1 lt1
    rw [Ag,Bd] at hL1
    have hkl2:=gr1.len
    refine ⟨_,rfl,_,rfl,g,_,rfl,DPut.t (k:=akey t) (s2 _ _ hg1) (s2 _ _ hqt1) (Ae (by omega:kvs.length < 1000) zaK),?_⟩
    rw [zfr _ hno]
    have hg2:=s2 _ _ hg1
    have keep:∀ qa o,(∃ xs,o=HO.lst xs)\/(∃ xs,o=HO.tup xs)->H2 qa=some o->upd H2 g (.dT (kvs ++ [(akey t,.ref pv)])) qa=some o:=fun qa o ho ea=>by
     rw [zaf (fun z=>by rw [z,hg2] at ea; cases ea; rcases ho with ⟨_,h⟩ | ⟨_,h⟩ <;> cases h)]
     exact ea
    have hpl:pv≠l:=fun z=>by rw [z,hl1] at npv; cases npv
    have gr3:GrL (upd H2 g (.dT (kvs ++ [(akey t,.ref pv)]))) (kvs ++ [(akey t,.ref pv)]) ks (L ++ [t]) :=
     ((gr1.same s2).mono (fun _ _ qa vs _ e=>keep _ _ (.inl ⟨_,rfl⟩) e) fun qa xs e=>keep _ _ (.inr ⟨_,rfl⟩) e).snoc (keep _ _ (.inl ⟨_,rfl⟩) hpv) (gv.mono fun qa xs e=>keep _ _ (.inr ⟨_,rfl⟩) e)
    have gv3:GoesR (upd H2 g (.dT (kvs ++ [(akey t,.ref pv)]))) vs' (goesOf ks (aheadOf (t:Int))):=gv.mono fun qa xs e=>keep _ _ (.inr ⟨_,rfl⟩) e
    have lr3:=(lr1.mono fun _ _ z=>s2 _ _ z).mono fun qa xs e=>keep _ _ (.inr ⟨_,rfl⟩) e
    have hl3:=keep _ _ (.inl ⟨_,rfl⟩) (s2 _ _ hl1)
    have hpv3:=keep _ _ (.inl ⟨_,rfl⟩) hpv
    have hqt3:=keep _ _ (.inr ⟨_,rfl⟩) (s2 _ _ hqt1)
    have hg3:upd H2 g (.dT (kvs ++ [(akey t,.ref pv)])) g=some (.dT (kvs ++ [(akey t,.ref pv)])):=zab
    have sx3:Same H (upd H2 g (.dT (kvs ++ [(akey t,.ref pv)]))):=(sx1.trans s2).put ng
    generalize upd H2 g (.dT (kvs ++ [(akey t,.ref pv)]))=H3 at gr3 gv3 lr3 hl3 hpv3 hqt3 hg3 sx3
    have hkl3:∀ kv∈kvs ++ [(akey t,V.ref pv)],kv.2 ≠ .ref l:=fun kv hkv=>by
     rcases Al.mp hkv with z | z
     ·exact hkl kv z
     ·rw [A7.mp z]
      exact fun z=>hpl (by injection z)
    have dg:DGet H3 g (.ref qt) (some (.ref pv)):=by
     have:valV (kvs ++ [(akey t,V.ref pv)]) (akey t)=some (.ref pv):=by
      rw [<- zfr _ hno,valV_put,if_pos rfl]
     rw [<- this]
     exact DGet.t hg3 hqt3
    refine ⟨_,rfl,_,rfl,_,_,rfl,dg,_,rfl,⟨_,SqL.of hpv3⟩,?_⟩
    have hgl8:=zcn h8 t t128 gc
    have hvl:=gv3.length
    refine zbE (zao K pv vs') (fun i σ Hz=>Same H Hz/\∃ wl' x5 x6,σ = [some (.ref k),some (.ref b),some (.ref g),some (.ref l),some (.ref qt),x5,x6]/\Hz g=some (.dT (kvs ++ [(akey t,.ref pv)]))/\Hz l=some (.lst wl')/\Hz pv=some (.lst vs')/\LeftR Hz wl' (ls.dropLast ++ ((goesOf ks (aheadOf (t:Int))).take i).map fun p=>(worth p.2).toNat)/\GrL Hz (kvs ++ [(akey t,.ref pv)]) ks (L ++ [t])/\GoesR Hz vs' (goesOf ks (aheadOf (t:Int)))) ⟨sx3,wl.dropLast,_,_,rfl,hg3,hl3,hpv3,(by simpa using lr3),gr3,gv3⟩ (fun i σ Hz _ h=>by obtain ⟨_,_,_,_,_,_,_,h,_⟩:=h; exact SqL.of h) ?_ ?_
    ·rintro i x σ Hz hx ⟨sz,wl',x5,x6,rfl,hgz,hlz,hpz,lz,grz,gvz⟩
     obtain ⟨q1,t1,rfl,e2,e3,hlt⟩:=gvz.nth hx
     have hmem:(goesOf ks (aheadOf (t:Int)))[i]∈goesOf ks (aheadOf (t:Int)):=Cp hlt
     have egd:(goesOf ks (aheadOf (t:Int))).getD i ("",[])=(goesOf ks (aheadOf (t:Int)))[i]:=by rw [Aj,A6 hlt]; rfl
     rw [egd] at e2 e3
     obtain ⟨k1,k2,k3,k4⟩:=zbb t128 gc hmem
     have hwl':=Cz lz
     rw [Ag,A5,Cw,ldl] at hwl'
     refine ⟨q1,_,rfl,SqT.of e2,rfl,_,_,rfl,_,_,rfl,rfl,?_⟩
     refine ⟨_,rfl,.inl ⟨rfl,_,SqL.of hlz⟩,_,rfl,l,wl',_,rfl,rfl,hlz,Ae (by omega:wl'.length < 3000) (by decide),?_⟩
     have kt:∀ qa xs,Hz qa=some (.tup xs)->upd Hz l (.lst (wl' ++ [.ref t1])) qa=some (.tup xs):=fun qa xs z=>by rw [zaf (fun z2=>by rw [z2,hlz] at z; cases z)]; exact z
     refine ⟨sz.put nl0,_,_,_,rfl,(by rw [zaf hgl]; exact hgz),zab,(by rw [zaf hpl]; exact hpz),?_,grz.mono (fun kv hkv qa vs z z2=>by rw [zaf (fun z3=>hkl3 kv hkv (by rw [z,z3]))]; exact z2) kt,gvz.mono kt⟩
     rw [Cs hlt,Bs,<- Au]
     refine Ev (lz.mono kt) ⟨k1,t1,rfl,kt _ _ ?_⟩
     have e4:aheadOf (((worth (goesOf ks (aheadOf (t:Int)))[i].2).toNat:Nat):Int)=(goesOf ks (aheadOf (t:Int)))[i].2:=zdJ (by rw [k3]; rfl)
     rw [e4]
     exact e3
    ·rintro σ Hz ⟨sz,wl',x5,x6,rfl,hgz,hlz,hpz,lz,grz,gvz⟩
     rw [hvl,C8] at lz
     have est:(goesOf ks (aheadOf (t:Int))).map (fun p=>(worth p.2).toNat)=(stp ks t).map fun p=>p.2.toNat:=by
      rw [<- zaV t128 gc,Bp]
      rfl
     refine ⟨_,?_,_,L ++ [t],wl',_,_,_,_,rfl,sz,hgz,hlz,lz,grz,hkl3,nd1,lt1,fun s hs p hp => ?_,?_,?_,rfl⟩
     ·rw [Ag,Ag,Bd,A5,ldl]
      omega
     ·rw [est]
      rcases Al.mp hs with z | z
      ·rcases cl s z p hp with z | z
       ·exact .inl (Bg _ z)
       ·rw [els] at z
        rcases Al.mp z with z | z
        ·exact .inr (Bg _ z)
        ·rw [A7.mp z]; exact .inl (Bo _ (A7.mpr rfl))
      ·rw [A7.mp z] at hp
       exact .inr (Bo _ (Ah.mpr ⟨p,hp,rfl⟩))
     ·rcases h0 with z | z
      ·exact .inl (Bg _ z)
      ·rw [els] at z
       rcases Al.mp z with z | z
       ·exact .inr (Bg _ z)
       ·rw [A7.mp z]; exact .inl (Bo _ (A7.mpr rfl))
     ·rw [Ag,Ag,Bd,A5,ldl]
      omega
theorem LeftR.in128 {H:Hp} {ws:List V} {ls:List Nat} (r:LeftR H ws ls):∀ s∈ls,s < 128:=by
 induction r with
 | nil=>simp
 | cons h _ ih =>
  intro s hs
  rcases Bf.mp hs with rfl | hs
  ·exact h.1
  ·exact ih s hs
theorem zgk {H:Hp}:∀ {ls:List Nat} {ws:List V},TupsR H (ls.map fun (s:Nat)=>aheadOf (s:Int)) ws->(∀ s∈ls,s < 128)->LeftR H ws ls
 | [],_,.nil,_ => .nil
 | s :: ls,_,.cons h r,lt => .cons ⟨lt s Ai,h⟩ (zgk r fun t ht=>lt t (Ac _ ht))
theorem ze1 {rs:List Nat} (lt:∀ s∈rs,s < 128) {t:Nat} (ht:t < 128):akey t∈rs.map akey ↔ t∈rs:=by
 rw [Ah]
 exact ⟨fun ⟨s,hs,e⟩=>zcT (lt s hs) ht e ▸ hs,fun h=>⟨t,h,rfl⟩⟩
noncomputable def addN (rs:List Nat) (t:Nat):List Nat:=if t∈rs then rs else rs ++ [t]
theorem addN_mem {rs:List Nat} {t s:Nat}:s∈addN rs t ↔ s∈rs\/s=t:=by
 unfold addN
 split
 ·rename_i h
  exact ⟨.inl,fun z=>z.elim id fun e=>e ▸ h⟩
 ·rw [Al,A7]
theorem ze8 {rs:List Nat} {t:Nat} (nd:rs.Nodup):(addN rs t).Nodup:=by
 unfold addN
 split
 ·exact nd
 ·rename_i z
  refine E3.mpr ⟨nd,by simp,fun u hu v hv e => ?_⟩
  rw [A7.mp hv] at e
  exact z (e ▸ hu)
theorem zcq {kvs:List (List Key×V)} {rs:List Nat} {t:Nat} {v:V} (lt:∀ s∈rs,s < 128) (ht:t < 128) (hk:kvs.map (·.1)=rs.map akey):(putK kvs (akey t) v).map (·.1)=(addN rs t).map akey:=by
 rw [putK_keys,hk]
 unfold addN
 by_cases z:t∈rs
 ·rw [if_pos ((ze1 lt ht).mpr z),if_pos z]
 ·rw [if_neg (fun h=>z ((ze1 lt ht).mp h)),if_neg z,Bs]
  rfl
theorem keys_perm {nss:List (List Int)} {rs:List Nat} (p:nss.Perm (rs.map fun (s:Nat)=>aheadOf (s:Int))) (lt:∀ s∈rs,s < 128):∃ rs':List Nat,rs'.Perm rs/\nss=rs'.map fun (s:Nat)=>aheadOf (s:Int):=by
 refine ⟨nss.map fun ns=>(worth ns).toNat,?_,?_⟩
 ·have:=p.map fun ns=>(worth ns).toNat
  rw [Bp] at this
  have e:rs.map ((fun ns=>(worth ns).toNat) ∘ fun (s:Nat)=>aheadOf (s:Int))=rs:=by
   conv=>rhs; rw [<- J8 rs]
   refine Ck fun s hs => ?_
   show (worth (aheadOf (s:Int))).toNat=s
   rw [zbg (by omega) (by have:=lt s hs; omega)]
   simp
  rwa [e] at this
 ·rw [Bp]
  conv=>lhs; rw [<- J8 nss]
  refine Ck fun ns hns => ?_
  obtain ⟨s,hs,rfl⟩:=Ah.mp (p.mem_iff.mp hns)
  show aheadOf (s:Int)=aheadOf (((worth (aheadOf (s:Int))).toNat:Nat):Int)
  rw [zbg (by omega) (by have:=lt s hs; omega)]
  simp
theorem zbU {hvs:List (List Key×V)} {hs:List Nat} (hk:hvs.map (·.1)=hs.map akey) (lt:∀ s∈hs,s < 128) {t:Nat} (ht:t < 128):(valV hvs (akey t)).isSome=decide (t∈hs):=by
 rw [Bq,valV_mem,hk,decide_eq_true_eq]
 exact ze1 lt ht
theorem zdO {α : Type} (l:List α) (p : α -> Bool) (d : α):((Ab l.length).map fun i=>p (l.getD i d)).any (fun b=>b)=l.any p:=by
 have e:((Ab l.length).map fun i=>p (l.getD i d))=l.map p:=by
  refine Fd fun i => ?_
  rw [Af,Af]
  by_cases h:i < l.length
  ·rw [Cd h,A6 h,Cf,Cf,Aj,A6 h]
   rfl
  ·rw [Cv (by rw [Ax]; omega),Cv (by omega)]
   rfl
 rw [e,K8]
 rfl
noncomputable def sp_home:Sp:=fun vs H Q _=>∃ (g:A3) (kvs:List (List Key×V)) (ks:Combs) (L:List Nat),vs = [.ref g]/\H g=some (.dT kvs)/\GrL H kvs ks L/\L.Nodup/\ClsS ks L/\0∈L/\GC ks/\ks.length<=8/\∀ (p:A3) (hvs:List (List Key×V)) (hs:List Nat) (H':Hp),Same H H'->H' p=some (.dT hvs)->hvs.map (·.1)=hs.map akey->(∀ s∈hs,s∈L)->(∀ s∈L,s∈hs ↔ ∃ n,rch ks s n 0)->Q (.ref p) H'
theorem zfY:FnScope ["_law_graph_here","_law_home_here","_law_known","_law_ahead"] ["_law_graph_here"] (defScope s_home):=⟨rfl,rfl,rfl,by decide +kernel,rfl,by decide +kernel,by decide +kernel⟩
theorem ok_home (D:DefAt K mg "_law_home" s_home) (T:Bn mg):Callee P w K mg base "_law_home" 1 ["_law_graph_here"] sp_home:=by
 refine D.callee zfY (fun _ _ _ _ _ _=>ln1 fun _=>rfl) (fun vs H Q E h => ?_) (fun f cdv A outer s H vs Q E hr h => ?_)
 ·obtain ⟨g,kvs,ks,L,rfl,_⟩:=h
  rfl
 ·obtain ⟨g,kvs,ks,L,rfl,hg,gr,ndL,cl,h0L,gc,h8,q⟩:=h
  have ltL:=cl.1
  have S:=zfY
  have hu:=zcm hr
  have hL128:=zav 128 L ndL ltL
  refine ⟨_,zae (zak (i:=1) S.nd rfl (F4 rfl) (zeq hu (za9 (zac)) (zbH)))
  (zae (zak (i:=2) S.nd rfl (As rfl) (zad))
  (zae (zdX Be (zas zer (pv 2) (zai zeN rfl T.n_len Bu (zaa (pv 1) zac)) (zax _))
   (zae (zak (i:=2) S.nd rfl (As rfl) (zai zeN rfl T.n_len Bu (zaa (pv 1) zac)))
   (zah (zeY Be rfl (pv 0) (zaj (i:=3) S.nd rfl (As rfl))
    (zah (zaL (zbz (zai (zfK rfl) rfl T.n_any boot_any (zaa (za3 (own := ["_law_word_here","_law_further"]) (caps := [(1,"_law_home_here")]) rfl ⟨rfl,rfl,rfl,rfl,⟨⟨rfl,rfl,.inl rfl⟩,trivial⟩⟩ (zaC (zb8 hu (pv 0) (pv 3) (fun _ _=>rfl))) (fun _ _ _ _ _ _=>zf8 K rfl (n:=2) rfl (zaB (zaj (i:=0) (zaP (by decide +kernel)) rfl (As rfl)) (zaB (zaj (i:=1) (zaP (by decide +kernel)) rfl (As rfl)) (zbD)))) (fun _ _ _ _ _ _=>zbm) (fun _ _ _ _ _ _=>zft (zcI hu (pv 1) (pv 2)))) zac)))
     (zah (zcx hu (pv 1) (pv 3) (zbH) rfl))
     (zap)))))))
  (zah (zam (pv 1))))),?_⟩
  refine fun p np=>⟨bigr rfl,fun e ne => ?_⟩
  have s1:Same H (upd H p (.dT [])):=Same.new np
  have hp1:upd H p (.dT []) p=some (.dT []):=zab
  generalize upd H p (.dT [])=H1 at s1 hp1 ne ⊢
  have s2:Same H1 (upd H1 e (.tup [])):=Same.new ne
  have he2:upd H1 e (.tup []) e=some (.tup ((akey 0).map kV)):=by
   rw [zab]
   unfold akey
   rw [kI_V,show aheadOf ((0:Nat):Int) = [] by decide]
   rfl
  generalize upd H1 e (.tup [])=H2 at s2 he2 ⊢
  refine ⟨akey 0,e,s2 _ _ hp1,rfl,he2,?_⟩
  have s12:=s1.trans s2
  have s3:Same H (upd H2 p (.dT [(akey 0,.bl true)])):=s12.put np
  have hp3:upd H2 p (.dT [(akey 0,.bl true)]) p=some (.dT [(akey 0,.bl true)]):=zab
  generalize upd H2 p (.dT [(akey 0,.bl true)])=H3 at s3 hp3 ⊢
  let Sound:List Nat->Prop:=fun hs=>hs.Nodup/\(∀ s∈hs,s∈L)/\0∈hs/\∀ s∈hs,∃ n,rch ks s n 0
  refine ⟨fun m σ Hx=>Same H Hx/\∃ (k:Nat) (hvs:List (List Key×V)) (hs:List Nat) (x3:Option V),σ = [some (.ref g),some (.ref p),some (.int (k:Nat)),x3]/\Hx p=some (.dT hvs)/\hvs.map (·.1)=hs.map akey/\Sound hs/\k<=hs.length/\m=200 - k/\(k=hs.length->∀ s∈L,(∃ t∈hs,st1 ks s t)->s∈hs),⟨_,s3,0,_,[0],_,rfl,hp3,rfl,⟨by simp,fun s hs=>by rw [A7.mp hs]; exact h0L,A7.mpr rfl,fun s hs=>⟨0,(A7.mp hs).symm⟩⟩,By _,rfl,fun z=>by cases z⟩,?_⟩
  rintro m σ Hx ⟨sx,k,hvs,hs,x3,rfl,hpx,hkx,⟨nd,sub,h0,snd⟩,hkl,rfl,clo⟩
  have hvl:hvs.length=hs.length:=by have:=congrArg Ey hkx; rwa [A5,A5] at this
  have hs128:=zav 128 hs nd fun s hs=>ltL s (sub s hs)
  refine ⟨_,rfl,_,rfl,_,_,rfl,hpx,rfl,_,rfl,?_⟩
  by_cases heq:k=hvs.length
  ·rw [heq,decide_eq_true (rfl:V.int ((hvs.length:Nat):Int)=_)]
   refine iteF ?_
   refine ⟨_,rfl,q p hvs hs Hx sx hpx hkx sub fun s hsL=>⟨snd s,?_⟩⟩
   rintro ⟨n,hn⟩
   have all:∀ n s,s∈L->rch ks s n 0->s∈hs:=by
    intro n
    induction n with
    | zero=>intro s _ h; rw [show s=0 from h.symm]; exact h0
    | succ n ih =>
     intro s hsL h
     rw [Mu] at h
     obtain ⟨u,⟨v,e1,hu1⟩,h2⟩:=zeo h
     rw [show v=s from e1] at hu1
     obtain ⟨pp,hpp,rfl⟩:=hu1
     exact clo (by omega) s hsL ⟨_,ih _ (cl.2 s hsL pp hpp) h2,pp,hpp,rfl⟩
   exact all n s hsL hn
  ·rw [decide_eq_false (fun z=>heq (by injection z with z; omega))]
   refine iteT ?_
   have hless:200 - hs.length < 200 - k:=by omega
   refine ⟨fun σ' H'=>∃ m',m' < 200 - k/\Same H H'/\∃ (k:Nat) (hvs:List (List Key×V)) (hs:List Nat) (x3:Option V),σ' = [some (.ref g),some (.ref p),some (.int (k:Nat)),x3]/\H' p=some (.dT hvs)/\hvs.map (·.1)=hs.map akey/\Sound hs/\k<=hs.length/\m'=200 - k/\(k=hs.length->∀ s∈L,(∃ t∈hs,st1 ks s t)->s∈hs),fun _ _ h=>h,?_⟩
   refine ⟨_,rfl,_,_,rfl,hpx,?_⟩
   have hgp:g≠p:=fun z=>by rw [z,np] at hg; cases hg
   refine ⟨g,kvs,rfl,sx _ _ hg,fun o => ?_⟩
   have grf:∀ {Hy:Hp},Same H (upd Hy g (.dT kvs))->GrL Hy kvs ks L:=fun {Hy} sy=>(gr.same sy).mono (fun kv _ q vs _ e=>by
     by_cases z:q=g
     ·rw [z,zab] at e; cases e
     ·rw [zaf z] at e; exact e) fun q xs e=>by
     by_cases z:q=g
     ·rw [z,zab] at e; cases e
     ·rw [zaf z] at e; exact e
   refine zgs (fun i σ Hy=>Same H (upd Hy g (.dT kvs))/\Hy g=some (.frz o (.dT kvs))/\∃ (hvs':List (List Key×V)) (ext:List Nat) (x3:Option V),σ = [some (.ref g),some (.ref p),some (.int ((hvs.length:Nat):Int)),x3]/\Hy p=some (.dT hvs')/\hvs'.map (·.1)=(hs ++ ext).map akey/\Sound (hs ++ ext)/\∀ s∈L.take i,(∃ t∈hs,st1 ks s t)->s∈hs ++ ext) ⟨?_,zab,hvs,[],_,rfl,by rw [zaf hgp.symm]; exact hpx,by rw [C9]; exact hkx,by rw [C9]; exact ⟨nd,sub,h0,snd⟩,fun s hs'=>by cases hs'⟩ (fun i σ Hy h=>h.2.1) ?_ ?_
   ·intro b u eb
    by_cases z:b=g
    ·rw [z,zab]; rw [z,hg] at eb; exact eb
    ·rw [zaf z,zaf z]; exact sx _ _ eb
   ·rintro i kk y b σ Hy hk hb ⟨sy,hgy,hvs',ext,x3',rfl,hpy,hky,⟨nd',sub',h0',snd'⟩,cov'⟩
    have hki:(kvs.map (·.1))[i]?=some kk:=by rw [Af,hk]; rfl
    rw [gr.keys,Af] at hki
    cases hsi:L[i]? with
    | none=>rw [hsi] at hki; cases hki
    | some s0 =>
     rw [hsi] at hki
     cases hki
     have hsm:=B0 hsi
     have hs1:=ltL s0 hsm
     obtain ⟨qv,vv,ev,hqv,gv⟩:=(grf sy).val ndL ltL hsm
     have lt':∀ s∈hs ++ ext,s < 128:=fun s hs=>ltL s (sub' s hs)
     have dg:DGet Hy g (.ref b) (some (.ref qv)):=by rw [<- ev]; exact .inr ⟨kvs,akey s0,b,.inr ⟨o,hgy⟩,rfl,hb,rfl⟩
     refine ⟨_,rfl,_,rfl,_,_,rfl,dg,_,rfl,⟨_,SqL.of hqv⟩,fun D hD => ?_⟩
     have hgl:=gv.length
     have hg8:=zcn h8 s0 hs1 gc
     refine zgC (capv := [some (.ref p)]) (by rfl) (zao K qv vv) (big (by omega)) hD (fun H' s'=>SqL.of (s' _ _ hqv)) (fun i => .str ((goesOf ks (aheadOf (s0:Int))).getD i ("",[])).1) (tupY Hy vv) (fun i x hx=>by
      obtain ⟨q1,t1,rfl,e2,e3,_⟩:=gv.nth hx
      exact ⟨q1,rfl,by rw [zdP hx e2]; exact e2⟩) (fun _=>true) (fun i => .bl (decide ((worth ((goesOf ks (aheadOf (s0:Int))).getD i ("",[])).2).toNat∈hs ++ ext))) (fun _ _ _=>nofun) (fun i hi H R s' h=>h H (Same.refl _)) ?_ ?_
     ·intro i' hi' _ H' R s' h
      obtain ⟨q1,t1,e1,e2,e3,hlt⟩:=gv.nth (A6 hi')
      have hm:(goesOf ks (aheadOf (s0:Int))).getD i' ("",[])∈goesOf ks (aheadOf (s0:Int)):=by rw [Aj,A6 hlt]; exact Cp hlt
      obtain ⟨k1,k2,k3,k4⟩:=zbb hs1 gc hm
      have ey:tupY Hy vv i' = .ref t1:=zdP (by rw [A6 hi',e1]) e2
      rw [ey]
      refine ⟨_,rfl,_,rfl,p,_,rfl,.inr ⟨hvs',akey (worth ((goesOf ks (aheadOf (s0:Int))).getD i' ("",[])).2).toNat,t1,.inl (s' _ _ hpy),rfl,(by rw [<- k3,kI_V]; exact s' _ _ e3),rfl⟩,?_⟩
      rw [zbU hky lt' k1]
      exact h H' (Same.refl _)
     intro H' s' e
     refine ⟨_,(Ab vv.length).map fun i=>decide ((worth ((goesOf ks (aheadOf (s0:Int))).getD i ("",[])).2).toNat∈hs ++ ext),rfl,SqL.of ?_,_,rfl,?_⟩
     ·rw [e,Cm.mpr (fun _ _=>rfl),Bp]
      rfl
     have hany:(Na ((Ab vv.length).map fun i=>decide ((worth ((goesOf ks (aheadOf (s0:Int))).getD i ("",[])).2).toNat∈hs ++ ext)) id=true) ↔ ∃ t∈hs ++ ext,st1 ks s0 t:=by
      have e1:=zdO (goesOf ks (aheadOf (s0:Int))) (fun p=>decide ((worth p.2).toNat∈hs ++ ext)) ("",[])
      rw [hgl]
      show Na ((Ab (goesOf ks (aheadOf (s0:Int))).length).map fun i=>decide ((worth ((goesOf ks (aheadOf (s0:Int))).getD i ("",[])).2).toNat∈hs ++ ext)) (fun b=>b)=true ↔ _
      rw [e1,Bv]
      constructor
      ·rintro ⟨pp,hpp,hd⟩
       exact ⟨_,of_decide_eq_true hd,_,(zbb hs1 gc hpp).2.2.2,rfl⟩
      ·rintro ⟨t,ht,pp,hpp,rfl⟩
       rw [<- zaV hs1 gc] at hpp
       obtain ⟨gp,hgp',rfl⟩:=Ah.mp hpp
       exact ⟨gp,hgp',decide_eq_true ht⟩
     have etk:L.take (i + 1)=L.take i ++ [s0]:=zaG hsi
     have sy':Same H (upd H' g (.dT kvs)):=fun b u eb=>by
      by_cases z:b=g
      ·rw [z,zab]; rw [z,hg] at eb; exact eb
      ·have:=sy _ _ eb
       rw [zaf z] at this ⊢
       exact s' _ _ this
     refine ite2 (fun hz => ?_) (fun hz => ?_)
     ·have hz:=hany.mp hz
      refine ⟨_,rfl,_,rfl,p,_,rfl,DPut.t (k:=akey s0) (s' _ _ hpy) (s' _ _ hb) (Ae (?_:hvs'.length < 1000) zaK),?_⟩
      ·have:=congrArg Ey hky
       rw [A5,A5] at this
       have:=zav 128 _ nd' lt'
       omega
      have hpg:p≠g:=hgp.symm
      refine ⟨fun b u eb => ?_,by rw [zaf hgp]; exact s' _ _ hgy,_,if s0∈hs ++ ext then ext else ext ++ [s0],_,rfl,zab,?_,?_,?_⟩
      ·have hbp:b≠p:=fun z=>by rw [z,np] at eb; cases eb
       have:=sy' _ _ eb
       by_cases z:b=g
       ·rw [z,zab] at this ⊢; exact this
       ·rw [zaf z] at this ⊢
        rw [zaf hbp]; exact this
      ·rw [zcq lt' hs1 hky]
       unfold addN
       split
       ·rfl
       ·rw [Au]
      ·split
       ·exact ⟨nd',sub',h0',snd'⟩
       ·rename_i z
        rw [<- Au]
        refine ⟨E3.mpr ⟨nd',by simp,fun u hu' v hv e=>z (by rw [<- A7.mp hv,<- e]; exact hu')⟩,fun s hs' => ?_,Bg _ h0',fun s hs' => ?_⟩
        ·rcases Al.mp hs' with y | y
         ·exact sub' s y
         ·rw [A7.mp y]; exact hsm
        ·rcases Al.mp hs' with y | y
         ·exact snd' s y
         ·rw [A7.mp y]
          obtain ⟨t,ht,h1⟩:=hz
          obtain ⟨n,hn⟩:=snd' t ht
          exact ⟨1 + n,zcv (show rch ks s0 1 t from ⟨s0,rfl,h1⟩) hn⟩
      ·intro s hs' hst
       rw [etk] at hs'
       rcases Al.mp hs' with y | y
       ·have:=cov' s y hst
        split
        ·exact this
        ·rw [<- Au]; exact Bg _ this
       ·rw [A7.mp y]
        split
        ·rename_i z; exact z
        ·rw [<- Au]; exact Bo _ (A7.mpr rfl)
     ·have hz:¬ ∃ t∈hs ++ ext,st1 ks s0 t:=fun y=>hz (hany.mpr y)
      refine ⟨sy',s' _ _ hgy,hvs',ext,_,rfl,s' _ _ hpy,hky,⟨nd',sub',h0',snd'⟩,fun s hs' hst => ?_⟩
      rw [etk] at hs'
      rcases Al.mp hs' with y | y
      ·exact cov' s y hst
      ·rw [A7.mp y] at hst
       obtain ⟨t,ht,h1⟩:=hst
       exact absurd ⟨t,Bg _ ht,h1⟩ hz
   ·rintro σ Hy ⟨sy,hgy,hvs',ext,x3',rfl,hpy,hky,snd',cov'⟩
    rw [gr.len,C8] at cov'
    refine ⟨hgy,_,hless,sy,hs.length,hvs',hs ++ ext,_,by rw [hvl],by rw [zaf hgp.symm]; exact hpy,hky,snd',by rw [Ag]; omega,rfl,fun z s hsL hst => ?_⟩
    rw [Ag] at z
    have:ext = []:=List.eq_nil_of_length_eq_zero (by omega)
    subst this
    rw [C9] at hst
    exact cov' s hsL hst
noncomputable def filB (C:Combs) (k:Nat):Bool:=decide (0∈rowN C k)
theorem filB_iff {C:Combs} (g:GC C) {k:Nat}:filB C k=true ↔ Fil C k:=by
 unfold filB Fil
 rw [decide_eq_true_eq,zdV g]
noncomputable def RowOk (C:Combs) (j:Nat) (l:List Nat):Prop:=l.Nodup/\(∀ s,s∈l ↔ HR C j s)/\l.Pairwise fun (s t:Nat)=>lexR 8 (aheadOf (s:Int))<=lexR 8 (aheadOf (t:Int))
theorem zcu {C:Combs} (g:GC C) {i j:Nat} {l m:List Nat} (hl:RowOk C i l) (hm:RowOk C j m) (h:∀ s,HR C i s ↔ HR C j s):l=m:=by
 have p:l.Perm m:=(Eh hl.1 hm.1).mpr fun s=>by rw [hl.2.1,hm.2.1]; exact h s
 refine p.eq_of_pairwise (fun x y hx hy h1 h2 => ?_) hl.2.2 hm.2.2
 have x1:=zc1 g (by decide) ((hl.2.1 x).mp hx).1
 have y1:=zc1 g (by decide) ((hm.2.1 y).mp hy).1
 have a:=zcY x
 have b:=zcY y
 exact zdm x1 y1 ((zd2 8 _ _ a.1 b.1 a.2 b.2).2 (by omega))
theorem left_nest {H:Hp} {r:A3} {ws:List V} {R:List Nat} (hr:H r=some (.tup ws)) (lr:LeftR H ws R):NestAt H r (R.map akey):=by
 refine ⟨ws,hr,?_⟩
 clear hr
 induction lr with
 | nil=>exact .nil
 | cons h _ ih =>
  obtain ⟨_,q,e1,e2⟩:=h
  refine .cons ⟨q,e1,?_⟩ ih
  unfold akey
  rw [kI_V]
  exact e2
theorem zeU:∀ {l m:List Nat},(∀ s∈l,s < 128)->(∀ s∈m,s < 128)->l.map akey=m.map akey->l=m
 | [],[],_,_,_=>rfl
 | a :: l,b :: m,h1,h2,e=>by
  rw [Aq,Aq] at e
  injection e with e1 e2
  rw [zcT (h1 a Ai) (h2 b Ai) e1,zeU (fun s hs=>h1 s (Ac _ hs)) (fun s hs=>h2 s (Ac _ hs)) e2]
 | [],_ :: _,_,_,e=>by cases e
 | _ :: _,[],_,_,e=>by cases e
theorem eqv_tup0 (s:Nat) (hs:s < 128):D0 (intTup (aheadOf (s:Int))) (.tuple [])=decide (0=s):=by
 by_cases e:0=s
 ·subst e; decide
 ·rw [decide_eq_false e]
  cases h:aheadOf (s:Int) with
  | nil=>exact absurd (zdm (show 0 < 128 by decide) hs (by rw [h]; decide)) e
  | cons a l=>simp [intTup,D0,Eb]
theorem zero_in {R:List Nat} (h:∀ s∈R,s < 128):((R.map fun (s:Nat)=>intTup (aheadOf (s:Int))).any fun e=>D0 e (.tuple []))=decide (0∈R):=by
 induction R with
 | nil=>rfl
 | cons a R ih =>
  rw [Aq,Gg,ih fun s hs=>h s (Ac _ hs),eqv_tup0 a (h a Ai),Bq,Kz,decide_eq_true_eq,decide_eq_true_eq,decide_eq_true_eq,Bf]
theorem lay_shapes (R:List Nat):Ba (R.map fun (s:Nat)=>intTup (aheadOf (s:Int)))=true:=by
 have one:∀ ns:List Int,Ba (ns.map Ed)=true:=by
  intro ns
  induction ns with
  | nil=>rfl
  | cons a ns ih=>rw [Aq,Ba,ih]; rfl
 induction R with
 | nil=>rfl
 | cons a R ih=>rw [Aq,Ba,ih]; simp [intTup,D4,one]
noncomputable def sp_fits:Sp:=fun vs H Q _=>∃ (g:A3) (kvs:List (List Key×V)) (ks:Combs) (L:List Nat),vs = [.ref g]/\H g=some (.dT kvs)/\GrL H kvs ks L/\L.Nodup/\ClsS ks L/\0∈L/\GC ks/\ks.length<=8/\∀ (t fl:A3) (m i:Nat) (H':Hp),Same H H'->i < m->m<=16513->(∀ s,HR ks i s ↔ HR ks m s)->H' t=some (.tup [.ref fl,.int (i:Nat)])->H' fl=some (.lst ((Ab m).map fun k=>V.bl (filB ks k)))->Q (.ref t) H'
theorem zf0:FnScope ["_law_graph_here","_law_home_here","_law_fits_here","_law_met","_law_row","_law_more","_law_ahead","_law_word_here","_law_further"] ["_law_graph_here"] (defScope s_fits):=⟨rfl,rfl,rfl,by decide +kernel,rfl,by decide +kernel,by decide +kernel⟩
theorem ok_fits (D:DefAt K mg "_law_fits" s_fits) (T:Bn mg) (C_home:Callee P w K mg base "_law_home" 1 ["_law_graph_here"] sp_home):Callee P w K mg base "_law_fits" 2 ["_law_graph_here"] sp_fits:=by
 refine D.callee zf0 (fun _ _ _ _ _ _=>ln1 fun _=>rfl) (fun vs H Q E h => ?_) (fun f cdv A outer s H vs Q E hr h => ?_)
 ·obtain ⟨g,kvs,ks,L,rfl,_⟩:=h
  rfl
 ·obtain ⟨g,kvs,ks,L,rfl,hg,gr,ndL,cl,h0L,gc,h8,q⟩:=h
  have ltL:=cl.1
  have S:=zf0
  have hu:=zcm hr
  have hszL:(20000:Nat)<=sizeLine:=by decide
  have inL:∀ k s,rch ks 0 k s->s∈L:=by
   intro k
   induction k with
   | zero=>intro s h; rw [show s=0 from h]; exact h0L
   | succ k ih =>
    rintro s ⟨u,h1,p,hp,rfl⟩
    exact cl.2 u (ih u h1) p hp
  refine ⟨_,zae (zak (i:=1) S.nd rfl (As rfl) (zaR C_home (hr.mono (by decide)) rfl (zaa (pv 0) zac)))
  (zae (zak (i:=2) S.nd rfl (As rfl) (zaO (zac)))
  (zae (zak (i:=3) S.nd rfl (As rfl) (zfs))
  (zae (zak (i:=4) S.nd rfl (As rfl) (za9 (zaa (za9 (zac)) zac)))
  (zae (zdX Be (zcH (pc_nnotin' P w rfl rfl hr.units (pv 4) (pv 3)))
   (zae (ps_nput' P w rfl rfl hr.units (pv 3) (pv 4) (zai zar rfl T.n_len Bu (zaa (pv 2) zac)) rfl)
   (zae (zaW (zcj Bh Bl Bj zaH (pv 2) (zaa (zc2 (op_inT hr.units) (za9 (zac)) (pv 4) (by with_unfolding_all rfl)) zac)))
   (zae (zak (i:=5) S.nd rfl (As rfl) (zci))
   (zae (za2 Be rfl (pi_tup (pv 4)) (zaj (i:=6) S.nd rfl (As rfl))
    (zah (za2 Be rfl (zaC (zb8 hu (pv 0) (pv 6) (fun _ _=>rfl))) (zdF rfl (zaB (zaj (i:=7) S.nd rfl (As rfl)) (zaB (zaj (i:=8) S.nd rfl (As rfl)) (zbD))))
     (zah (zaL (zcH (zcI hu (pv 8) (pv 1)))
      (zah (zcx hu (pv 5) (pv 8) (zbH) rfl))
      (zap))))))
   (zah (zak (i:=4) S.nd rfl (As rfl) (zbr zco rfl T.n_tuple Mo (zaa (zai (call_sortedDT rfl hr.units) rfl T.n_sorted Jy (zaa (pv 5) zac)) zac)))))))))
  (zah (zam (za9 (zaa (pv 2) (zaa (pe_nget' P w rfl rfl hr.units (pv 3) (pv 4) (fun _ _=>rfl)) zac))))))))),?_⟩
  refine ⟨_,rfl,g,kvs,ks,L,rfl,hg,gr,ndL,cl,h0L,gc,h8,fun ho hvs hs H0 s0 hho hhk hsub hhome => ?_⟩
  have hlt:∀ s∈hs,s < 128:=fun s h=>ltL s (hsub s h)
  refine ⟨bigr rfl,fun fl nfl => ?_⟩
  have s1:Same H0 (upd H0 fl (.lst [])):=Same.new nfl
  have hfl1:upd H0 fl (.lst []) fl=some (.lst []):=zab
  generalize upd H0 fl (.lst [])=H1 at s1 hfl1 ⊢
  refine fun d nd => ?_
  have nd0:=s1.free nd
  have s2:Same H1 (upd H1 d (.dK [])):=Same.new nd
  have hd2:upd H1 d (.dK []) d=some (.dK []):=zab
  generalize upd H1 d (.dK [])=H2 at s2 hd2 ⊢
  refine ⟨bigr rfl,fun e0 ne0 => ?_⟩
  have s3:Same H2 (upd H2 e0 (.tup [])):=Same.new ne0
  have he3:upd H2 e0 (.tup []) e0=some (.tup ((aheadOf ((0:Nat):Int)).map V.int)):=by
   rw [zab,show aheadOf ((0:Nat):Int) = [] by decide]; rfl
  generalize upd H2 e0 (.tup [])=H3 at s3 he3 ⊢
  refine ⟨bigr rfl,fun r0 nr0 => ?_⟩
  have s4:Same H3 (upd H3 r0 (.tup [.ref e0])):=Same.new nr0
  have hr4:upd H3 r0 (.tup [.ref e0]) r0=some (.tup [.ref e0]):=zab
  have he4:=s4 _ _ he3
  have s24:=(s2.trans s3).trans s4
  have hd4:=s4 _ _ (s3 _ _ hd2)
  have hfl4:=s24 _ _ hfl1
  have s04:=s1.trans s24
  generalize upd H3 r0 (.tup [.ref e0])=H4 at s04 hr4 he4 hd4 hfl4 ⊢
  have hdf:d≠fl:=fun z=>by rw [z,hfl1] at nd; cases nd
  refine ⟨fun m σ Hx=>Same H0 Hx/\∃ (k:Nat) (R:Nat->List Nat) (xs:List NX) (r:A3) (wr:List V) (x5 x6 x7 x8:Option V),m=16600 - k /\ σ = [some (.ref g),some (.ref ho),some (.ref fl),some (.ref d),some (.ref r),x5,x6,x7,x8]/\Hx fl=some (.lst ((Ab k).map fun j=>V.bl (filB ks j)))/\NDict P w Hx d xs/\Hx r=some (.tup wr)/\LeftR Hx wr (R k)/\(∀ j,j<=k->RowOk ks j (R j))/\nks xs=((Ab k).map fun j=>(R j).map akey)/\(∀ j,j < k->∃ c,((R j).map akey,c,V.int (j:Nat))∈xs)/\∀ i j,i < j->j < k->R i≠R j,
   ⟨_,s04,0,fun _ => [0],[],r0,[.ref e0],_,_,_,_,rfl,rfl,hfl4,⟨.inl ⟨rfl,hd4⟩,fun x hx=>by cases hx⟩,hr4,.cons ⟨by decide,e0,rfl,he4⟩ .nil,fun j hj => ?_,rfl,fun j hj=>by omega,fun i j h1 h2=>by omega⟩,?_⟩
  ·have:j=0:=by omega
   subst this
   exact ⟨by simp,fun s=>by rw [hr_zero,A7],M3 _ _⟩
  rintro m σ Hx ⟨sx,k,R,xs,r,wr,x5,x6,x7,x8,rfl,rfl,hfl,nd',hrx,lr,rok,hkeys,hval,dis⟩
  have hxl:xs.length=k:=by
   have:=congrArg Ey hkeys
   unfold nks at this
   rw [A5,A5,Ax] at this
   exact this
  have lt128:∀ j,j<=k->∀ s∈R j,s < 128:=fun j hj s hs=>zc1 gc (by decide) (((rok j hj).2.1 s).mp hs).1
  have nest:=left_nest hrx lr
  refine ⟨_,rfl,_,rfl,d,r,xs,(R k).map akey,rfl,rfl,nd',nest,_,rfl,?_⟩
  by_cases hin:(R k).map akey∈nks xs
  ·rw [hasN_iff.mpr hin]
   refine iteF ?_
   rw [hkeys] at hin
   obtain ⟨i,hi,ei⟩:=Ah.mp hin
   have hi:=B5.mp hi
   have er:R i=R k:=zeU (lt128 i (by omega)) (lt128 k (Aa _)) ei
   obtain ⟨c,hc⟩:=hval i hi
   refine ⟨_,rfl,_,rfl,_,rfl,d,r,c,xs,(R k).map akey,.int (i:Nat),rfl,rfl,nd',nest,by rw [<- er]; exact hc,bigr rfl,fun t nt => ?_⟩
   have st:Same Hx (upd Hx t (.tup [.ref fl,.int (i:Nat)])):=Same.new nt
   refine q t fl k i _ ((s0.trans sx).trans st) hi ?_ (fun s => ?_) zab (st _ _ hfl)
   ·have:=zfE gc (M:=k - 1) fun a b hab hb heq=>dis a b hab (by omega) (zcu gc (rok a (by omega)) (rok b (by omega)) heq)
    omega
   ·rw [<- (rok i (by omega)).2.1,<- (rok k (Aa _)).2.1,er]
  ·rw [zfF hin]
   refine iteT ?_
   have hnew:∀ j,j < k->R j≠R k:=fun j hj e=>hin (by rw [hkeys,<- e]; exact Ah.mpr ⟨j,B5.mpr hj,rfl⟩)
   have hk:k<=16512:=zfE gc (M:=k) fun a b hab hb heq=>by
    by_cases z:b=k
    ·subst z; exact hnew a hab (zcu gc (rok a (by omega)) (rok b (by omega)) heq)
    ·exact dis a b hab (by omega) (zcu gc (rok a (by omega)) (rok b (by omega)) heq)
   have hlR:(R k).length<=128:=zav 128 _ (rok k (Aa _)).1 (lt128 k (Aa _))
   have hwr:=Cz lr
   refine ⟨fun σ' H'=>∃ m',m' < 16600 - k/\Same H0 H'/\∃ (k:Nat) (R:Nat->List Nat) (xs:List NX) (r:A3) (wr:List V) (x5 x6 x7 x8:Option V),m'=16600 - k /\ σ' = [some (.ref g),some (.ref ho),some (.ref fl),some (.ref d),some (.ref r),x5,x6,x7,x8]/\H' fl=some (.lst ((Ab k).map fun j=>V.bl (filB ks j)))/\NDict P w H' d xs/\H' r=some (.tup wr)/\LeftR H' wr (R k)/\(∀ j,j<=k->RowOk ks j (R j))/\nks xs=((Ab k).map fun j=>(R j).map akey)/\(∀ j,j < k->∃ c,((R j).map akey,c,V.int (j:Nat))∈xs)/\∀ i j,i < j->j < k->R i≠R j,fun _ _ h=>h,?_⟩
   refine ⟨_,rfl,_,_,rfl,.inl (SqL.of hfl),_,rfl,_,rfl,d,r,xs,(R k).map akey,rfl,rfl,nd',nest,hin,by omega,?_⟩
   rw [A5,Ax]
   have hmu:∀ q u,q≠d->Hx q=some u->upd Hx d (DN P w d (xs ++ [((R k).map akey,r,V.int (k:Nat))])) q=some u:=fun q u z e=>by rw [zaf z]; exact e
   have htd:∀ q ys,Hx q=some (.tup ys)->q≠d:=fun q ys e z=>by
    rw [z] at e
    rcases nd'.1 with ⟨_,e'⟩ | e' <;> rw [e] at e' <;> cases e'
   have hkn:KeysN (upd Hx d (DN P w d (xs ++ [((R k).map akey,r,V.int (k:Nat))]))) (xs ++ [((R k).map akey,r,V.int (k:Nat))]):=fun x hx=>by
    refine NestAt.same (H:=Hx) ?_ fun q ys e=>hmu _ _ (htd q ys e) e
    rcases Al.mp hx with z | z
    ·exact nd'.2 x z
    ·rw [A7.mp z]; exact nest
   have nd5:NDict P w (upd Hx d (DN P w d (xs ++ [((R k).map akey,r,V.int (k:Nat))]))) d (xs ++ [((R k).map akey,r,V.int (k:Nat))]):=⟨.inr zab,hkn⟩
   have s5:Same H0 (upd Hx d (DN P w d (xs ++ [((R k).map akey,r,V.int (k:Nat))]))):=sx.put nd0
   have hfl5:=hmu _ _ hdf.symm hfl
   have hrd:r≠d:=htd _ _ hrx
   have hr5:=hmu _ _ hrd hrx
   have lr5:LeftR (upd Hx d (DN P w d (xs ++ [((R k).map akey,r,V.int (k:Nat))]))) wr (R k):=lr.mono fun q ys e=>hmu _ _ (htd q ys e) e
   generalize upd Hx d (DN P w d (xs ++ [((R k).map akey,r,V.int (k:Nat))]))=H5 at nd5 s5 hfl5 hr5 lr5 ⊢
   refine ⟨_,rfl,.inl ⟨rfl,_,SqL.of hfl5⟩,bigr rfl,fun et net => ?_⟩
   have s6:Same H5 (upd H5 et (.tup [])):=Same.new net
   have het:upd H5 et (.tup []) et=some (.tup []):=zab
   have hfl6:=s6 _ _ hfl5
   have hr6:=s6 _ _ hr5
   have lr6:=lr5.mono fun q ys e=>s6 _ _ e
   have nd6:=nd5.same s6
   have s06:=s5.trans s6
   generalize upd H5 et (.tup [])=H6 at het hfl6 hr6 lr6 nd6 s06 ⊢
   refine ⟨_,rfl,.tuple [],(R k).map fun (s:Nat)=>intTup (aheadOf (s:Int)),.tup (SqT.of het) .nil,.tup (SqT.of hr6) lr6.vd,rfl,lay_shapes _,by decide,?_⟩
   rw [zero_in (lt128 k (Aa _))]
   have ez:decide (0∈R k)=filB ks k:=by
    unfold filB
    rw [decide_eq_decide,(rok k (Aa _)).2.1,hr_fil,zdV gc]
    rfl
   rw [ez]
   refine ⟨fl,_,_,rfl,rfl,hfl6,by rw [A5,Ax]; omega,?_⟩
   have efl:((Ab k).map fun j=>V.bl (filB ks j)) ++ [V.bl (filB ks k)]=(Ab (k + 1)).map fun j=>V.bl (filB ks j):=by
    rw [E6,Bs]; rfl
   rw [efl]
   have nfl0:H0 fl=none:=nfl
   have hf7:∀ q u,q≠fl->H6 q=some u->upd H6 fl (.lst ((Ab (k + 1)).map fun j=>V.bl (filB ks j))) q=some u:=fun q u z e=>by rw [zaf z]; exact e
   have s07:Same H0 (upd H6 fl (.lst ((Ab (k + 1)).map fun j=>V.bl (filB ks j)))):=s06.put nfl0
   have htf:∀ q ys,H6 q=some (.tup ys)->q≠fl:=fun q ys e z=>by rw [z,hfl6] at e; cases e
   have nd7:NDict P w (upd H6 fl (.lst ((Ab (k + 1)).map fun j=>V.bl (filB ks j)))) d (xs ++ [((R k).map akey,r,V.int (k:Nat))]):=⟨nd6.1.imp (fun z=>⟨z.1,hf7 _ _ hdf z.2⟩) fun z=>hf7 _ _ hdf z,nd6.2.same fun q ys e=>hf7 _ _ (htf q ys e) e⟩
   have hr7:=hf7 _ _ (htf _ _ hr6) hr6
   have lr7:LeftR (upd H6 fl (.lst ((Ab (k + 1)).map fun j=>V.bl (filB ks j)))) wr (R k):=lr6.mono fun q ys e=>hf7 _ _ (htf q ys e) e
   have hfl7:upd H6 fl (.lst ((Ab (k + 1)).map fun j=>V.bl (filB ks j))) fl=some (.lst ((Ab (k + 1)).map fun j=>V.bl (filB ks j))):=zab
   generalize upd H6 fl (.lst ((Ab (k + 1)).map fun j=>V.bl (filB ks j)))=H7 at s07 nd7 hr7 lr7 hfl7 ⊢
   clear hmu htd hkn hf7 htf nd5 nd6 hfl5 hfl6 hr5 hr6 lr5 lr6 s5 s6 s06
   refine fun mo nmo => ?_
   have s8:Same H7 (upd H7 mo (.dT [])):=Same.new nmo
   have hmo:upd H7 mo (.dT []) mo=some (.dT []):=zab
   refine ⟨_,rfl,_,rfl,⟨_,SqT.of (s8 _ _ hr7)⟩,?_⟩
   refine zbE (gives_tup K r wr) (fun i σ Hy=>Same H7 Hy/\∃ (mvs:List (List Key×V)) (rs:List Nat) (x6 x7 x8:Option V),σ = [some (.ref g),some (.ref ho),some (.ref fl),some (.ref d),some (.ref r),some (.ref mo),x6,x7,x8]/\Hy mo=some (.dT mvs)/\mvs.map (·.1)=rs.map akey/\rs.Nodup/\(∀ s∈rs,s < 128)/\∀ n,n∈rs ↔ (∃ t∈(R k).take i,st1 ks t n)/\n∈hs) ⟨s8,[],[],_,_,_,rfl,hmo,rfl,Du,nofun,fun n=>by simp⟩ (fun i σ Hy _ h=>SqT.of (h.1 _ _ hr7)) ?_ ?_
   ·rintro i x σ Hy hx ⟨sy,mvs,rs,x6',x7',x8',rfl,hmy,hk',rn,rlt,hm⟩
    obtain ⟨t,et,t128,qt,rfl,hqt⟩:=C7.rev lr7 hx
    have s0y:=s07.trans sy
    have htL:=inL k t (((rok k (Aa _)).2.1 t).mp (B0 et)).1
    obtain ⟨qv,vv,ev,hqv,gv⟩:=(gr.same (s0.trans s0y)).val ndL ltL htL
    have hqk:Hy qt=some (.tup ((akey t).map kV)):=by
     unfold akey
     rw [kI_V]
     exact sy _ _ hqt
    have dg:DGet Hy g (.ref qt) (some (.ref qv)):=by rw [<- ev]; exact DGet.t (s0y _ _ (s0 _ _ hg)) hqk
    refine ⟨_,rfl,_,rfl,_,_,rfl,dg,_,rfl,⟨_,SqL.of hqv⟩,?_⟩
    have hvl:=gv.length
    have hqm:qv≠mo:=fun z=>by rw [z,hmy] at hqv; cases hqv
    refine zbE (zao K qv vv) (fun j σ Hz=>Same H7 Hz/\Hz qv=some (.lst vv)/\GoesR Hz vv (goesOf ks (aheadOf (t:Int)))/\∃ (mvs':List (List Key×V)) (rs':List Nat) (x7 x8:Option V),σ = [some (.ref g),some (.ref ho),some (.ref fl),some (.ref d),some (.ref r),some (.ref mo),some (.ref qt),x7,x8]/\Hz mo=some (.dT mvs')/\mvs'.map (·.1)=rs'.map akey/\rs'.Nodup/\(∀ s∈rs',s < 128)/\∀ n,n∈rs' ↔ n∈rs\/(n∈((goesOf ks (aheadOf (t:Int))).take j).map (fun p=>(worth p.2).toNat)/\n∈hs)) ⟨sy,hqv,gv,mvs,rs,_,_,rfl,hmy,hk',rn,rlt,fun n=>by simp⟩ (fun j σ Hz _ h=>SqL.of h.2.1) ?_ ?_
    ·rintro j y σ Hz hy ⟨sz,hqz,gz,mvs',rs',x7'',x8'',rfl,hmz,hkz,rnz,rltz,hmz'⟩
     obtain ⟨q1,t1,rfl,e2,e3,hltj⟩:=gz.nth hy
     have egd:(goesOf ks (aheadOf (t:Int))).getD j ("",[])=(goesOf ks (aheadOf (t:Int)))[j]:=by rw [Aj,A6 hltj]; rfl
     rw [egd] at e2 e3
     obtain ⟨k1,k2,k3,k4⟩:=zbb t128 gc (Cp hltj)
     have e3':Hz t1=some (.tup ((akey (worth (goesOf ks (aheadOf (t:Int)))[j].2).toNat).map kV)):=by rw [<- k3,kI_V]; exact e3
     refine ⟨q1,_,rfl,SqT.of e2,rfl,_,_,rfl,_,_,rfl,rfl,?_⟩
     refine ⟨_,rfl,_,rfl,ho,_,rfl,DGet.t ((s07.trans sz) _ _ hho) e3',_,rfl,?_⟩
     rw [zbU hhk hlt k1]
     have etk:((goesOf ks (aheadOf (t:Int))).take (j + 1)).map (fun p=>(worth p.2).toNat)=((goesOf ks (aheadOf (t:Int))).take j).map (fun p=>(worth p.2).toNat) ++ [(worth (goesOf ks (aheadOf (t:Int)))[j].2).toNat]:=by
      rw [Cs hltj,Bs]; rfl
     by_cases hin':(worth (goesOf ks (aheadOf (t:Int)))[j].2).toNat∈hs
     ·rw [decide_eq_true hin']
      refine iteT ?_
      have hb:=zav 128 rs' rnz rltz
      have hl':mvs'.length=rs'.length:=by have:=congrArg Ey hkz; rwa [A5,A5] at this
      refine ⟨_,rfl,_,rfl,mo,_,rfl,DPut.t hmz e3' (Ae (by omega:mvs'.length < 1000) zaK),?_⟩
      have kt:∀ qa ys,Hz qa=some (.tup ys)->upd Hz mo (.dT (putK mvs' (akey (worth (goesOf ks (aheadOf (t:Int)))[j].2).toNat) (.bl true))) qa=some (.tup ys):=fun qa ys z=>by rw [zaf (fun z2=>by rw [z2,hmz] at z; cases z)]; exact z
      refine ⟨sz.put nmo,(by rw [zaf hqm]; exact hqz),gz.mono kt,_,addN rs' (worth (goesOf ks (aheadOf (t:Int)))[j].2).toNat,_,_,rfl,zab,zcq rltz k1 hkz,ze8 rnz,fun s hs' => ?_,fun n => ?_⟩
      ·rcases addN_mem.mp hs' with z | z
       ·exact rltz s z
       ·rw [z]; exact k1
      ·rw [addN_mem,hmz',etk,Al,A7]
       constructor
       ·rintro ((z | ⟨z1,z2⟩) | z)
        ·exact .inl z
        ·exact .inr ⟨.inl z1,z2⟩
        ·exact .inr ⟨.inr z,by rw [z]; exact hin'⟩
       ·rintro (z | ⟨z1 | z1,z2⟩)
        ·exact .inl (.inl z)
        ·exact .inl (.inr ⟨z1,z2⟩)
        ·exact .inr z1
     ·rw [decide_eq_false hin']
      refine iteF ?_
      refine ⟨sz,hqz,gz,mvs',rs',_,_,rfl,hmz,hkz,rnz,rltz,fun n => ?_⟩
      rw [hmz',etk,Al,A7]
      constructor
      ·rintro (z | ⟨z1,z2⟩)
       ·exact .inl z
       ·exact .inr ⟨.inl z1,z2⟩
      ·rintro (z | ⟨z1 | z1,z2⟩)
       ·exact .inl z
       ·exact .inr ⟨z1,z2⟩
       ·rw [z1] at z2; exact absurd z2 hin'
    ·rintro σ Hz ⟨sz,hqz,gz,mvs',rs',x7'',x8'',rfl,hmz,hkz,rnz,rltz,hmz'⟩
     rw [hvl,C8] at hmz'
     refine ⟨sz,mvs',rs',_,_,_,rfl,hmz,hkz,rnz,rltz,fun n => ?_⟩
     have est:n∈(goesOf ks (aheadOf (t:Int))).map (fun p=>(worth p.2).toNat) ↔ st1 ks t n:=by
      unfold st1
      rw [<- zaV t128 gc,Ah]
      constructor
      ·rintro ⟨p,hp,e⟩
       exact ⟨_,Ah.mpr ⟨p,hp,rfl⟩,e⟩
      ·rintro ⟨p,hp,e⟩
       obtain ⟨p',hp',rfl⟩:=Ah.mp hp
       exact ⟨p',hp',e⟩
     rw [hmz',hm,est,zaG et]
     constructor
     ·rintro (⟨⟨t',ht',h1⟩,h2⟩ | ⟨h1,h2⟩)
      ·exact ⟨⟨t',Bg _ ht',h1⟩,h2⟩
      ·exact ⟨⟨t,Bo _ (A7.mpr rfl),h1⟩,h2⟩
     ·rintro ⟨⟨t',ht',h1⟩,h2⟩
      rcases Al.mp ht' with z | z
      ·exact .inl ⟨⟨t',z,h1⟩,h2⟩
      ·rw [A7.mp z] at h1
       exact .inr ⟨h1,h2⟩
   ·rintro σ Hy ⟨sy,mvs,rs,x6',x7',x8',rfl,hmy,hk',rn,rlt,hm⟩
    rw [<- hwr,C8] at hm
    have hb:=zav 128 rs rn rlt
    rw [akeysL_kI] at hk'
    refine ⟨_,rfl,mo,mvs,_,rfl,.inl hmy,hk',fun ns hns => ?_,by rw [A5]; omega,fun p nss' ws' np pp pw tr' => ?_⟩
    ·obtain ⟨s',_,rfl⟩:=Ah.mp hns
     exact zcY s'
    obtain ⟨rs',pr,rfl⟩:=keys_perm pp rlt
    have s9:Same Hy (upd Hy p (.lst ws')):=Same.new np
    have hp9:upd Hy p (.lst ws') p=some (.lst ws'):=zab
    have lr9:=(zgk tr' fun s' hs'=>rlt s' (pr.mem_iff.mp hs')).mono fun _ _ z=>s9 _ _ z
    have s79:=sy.trans s9
    generalize upd Hy p (.lst ws')=H9 at s79 hp9 lr9 ⊢
    refine ⟨p,ws',rfl,.inl ⟨SqL.of hp9,fun rt nrt => ?_⟩⟩
    have sA:Same H9 (upd H9 rt (.tup ws')):=Same.new nrt
    have s7A:=s79.trans sA
    obtain ⟨R',hR1,hR2⟩:∃ R':Nat->List Nat,R' (k + 1)=rs'/\∀ j,j≠k + 1->R' j=R j:=⟨fun j=>if j=k + 1 then rs' else R j,if_pos rfl,fun j h=>if_neg h⟩
    refine ⟨16600 - (k + 1),by omega,s07.trans s7A,k + 1,R',xs ++ [((R k).map akey,r,V.int (k:Nat))],rt,ws',_,_,_,_,rfl,rfl,s7A _ _ hfl7,nd7.same s7A,zab,?_,fun j hj => ?_,?_,fun j hj => ?_,fun i j h1 h2 => ?_⟩
    ·rw [hR1]
     exact lr9.mono fun q ys e=>sA _ _ e
    ·by_cases z:j=k + 1
     ·subst z
      rw [hR1]
      refine ⟨pr.nodup_iff.mpr rn,fun s => ?_,?_⟩
      ·rw [pr.mem_iff,hm,hr_step]
       constructor
       ·rintro ⟨⟨t,ht,h1⟩,h2⟩
        exact ⟨⟨t,((rok k (Aa _)).2.1 t).mp ht,h1⟩,(hhome s (hsub s h2)).mp h2⟩
       ·rintro ⟨⟨t,ht,h1⟩,h2⟩
        exact ⟨⟨t,((rok k (Aa _)).2.1 t).mpr ht,h1⟩,(hhome s (inL (k + 1) s ⟨t,ht.1,h1⟩)).mpr h2⟩
      ·rw [Cb] at pw
       exact pw
     ·rw [hR2 j z]
      exact rok j (by omega)
    ·unfold nks at hkeys ⊢
     rw [Bs,hkeys,E6,Bs]
     congr 1
     ·refine Ck fun j hj => ?_
      rw [hR2 j (by have:=B5.mp hj; omega)]
     ·rw [Nl,Nl,hR2 k (by omega)]
    ·rw [hR2 j (by omega)]
     by_cases z:j=k
     ·subst z
      exact ⟨r,Bo _ (A7.mpr rfl)⟩
     ·obtain ⟨c,hc⟩:=hval j (by omega)
      exact ⟨c,Bg _ hc⟩
    ·rw [hR2 i (by omega),hR2 j (by omega)]
     by_cases z:j=k
     ·subst z; exact hnew i h1
     ·exact dis i j h1 (by omega)
structure Ea (mg:Str->Option A2) (ea:Nat->A3):Prop where
 n0:mg "BadName" = some (.ref (ea 0))
 n1:mg "BadTeeth" = some (.ref (ea 1))
 n2:mg "NameTaken" = some (.ref (ea 2))
 n3:mg "BookFull" = some (.ref (ea 3))
 n4:mg "NoComb" = some (.ref (ea 4))
 n5:mg "BadTooth" = some (.ref (ea 5))
 n6:mg "ToothThere" = some (.ref (ea 6))
 n7:mg "FirstTooth" = some (.ref (ea 7))
 n8:mg "ToothMissing" = some (.ref (ea 8))
 n9:mg "DeedsFull" = some (.ref (ea 9))
 n10:mg "NothingDone" = some (.ref (ea 10))
 n11:mg "BadShape" = some (.ref (ea 11))
 n12:mg "BadPlace" = some (.ref (ea 12))
 n13:mg "BadLength" = some (.ref (ea 13))
 n14:mg "NoFilling" = some (.ref (ea 14))
noncomputable def spKind (K:Am) (ea:Nat->A3):A3->A2->Sp:=fun e c vs H Q _=>vs = [.ref e]/\∃ D j,c = .ref D/\KindF K ea D j/\∀ p H',Same H H'->H p=none->H' p=some (.lst [.str (errName j)])->Q (.ref p) H'
noncomputable def kb (j i:Nat):V := .bl (decide (i=j))
noncomputable def kBools (j:Nat):List V:=(Ab 15).map (kb j)
theorem kBools_eq (j:Nat):kBools j = [kb j 0,kb j 1,kb j 2,kb j 3,kb j 4,kb j 5,kb j 6,kb j 7,kb j 8,kb j 9,kb j 10,kb j 11,kb j 12,kb j 13,kb j 14]:=rfl
noncomputable def isJ (j:Nat) (v:V):Bool:=match v with
 | .int t=>decide (t.toNat=j)
 | _=>false
noncomputable def wordJ (v:V):V:=match v with
 | .int t => .str (errName t.toNat)
 | _ => .non
theorem kind_res {j:Nat} (h:j < 15):(((Ab (15:Int).toNat).map fun i=>V.int (0 + ((i:Nat):Int))).filter (isJ j)).map wordJ = [.str (errName j)]:=by
 have all:∀ j∈Ab 15,(((Ab (15:Int).toNat).map fun i=>V.int (0 + ((i:Nat):Int))).filter (isJ j)).map wordJ = [.str (errName j)]:=by decide +kernel
 exact all j (B5.mpr h)
theorem zfX:FnScope ["_law_e","_law_is_one","_law_words"] ["_law_e"] (defScope s_kind):=⟨rfl,rfl,rfl,by decide +kernel,rfl,by decide +kernel,by decide +kernel⟩
theorem ok_kind (D:DefAt K mg "_law_kind" s_kind) (T:Bn mg) {ea:Nat->A3} (EA:Ea mg ea):HCallee P w K mg base "_law_kind" 1 ["_law_e"] (spKind K ea):=by
 have V_BadName:=EA.n0
 have V_BadTeeth:=EA.n1
 have V_NameTaken:=EA.n2
 have V_BookFull:=EA.n3
 have V_NoComb:=EA.n4
 have V_BadTooth:=EA.n5
 have V_ToothThere:=EA.n6
 have V_FirstTooth:=EA.n7
 have V_ToothMissing:=EA.n8
 have V_DeedsFull:=EA.n9
 have V_NothingDone:=EA.n10
 have V_BadShape:=EA.n11
 have V_BadPlace:=EA.n12
 have V_BadLength:=EA.n13
 have V_NoFilling:=EA.n14
 refine D.hcalleeQ zfX (fun _ _ _ _ _ _=>ln1 fun _=>rfl) (fun e c vs H Q E h => ?_) (fun f cdv A outer s H vs Q e oe c ws hc hd hq h => ?_)
 ·obtain ⟨rfl,_⟩:=h
  rfl
 ·obtain ⟨rfl,D,j,rfl,F,q⟩:=h
  have S:=zfX
  have pin:(e,oe)∈(cxH P w K mg base ["_law_e","_law_is_one","_law_words"] "_law_kind" (defScope s_kind) f cdv A outer s H e oe).pn/\(oe.cls = .ref D/\oe.dict=none)/\∃ vs,oe.data = .fields vs:=⟨A7.mpr rfl,hc,ws,hd⟩
  refine ⟨_,zaD (zbd (i:=1) S.nd rfl (F4 rfl) (zbn (zag (qe (zai zaT rfl T.n_isinstance Bt (zaa (pv 0) (zaa (zbo rfl V_BadName) zac)))) (zag (qe (zai zaT rfl T.n_isinstance Bt (zaa (pv 0) (zaa (zbo rfl V_BadTeeth) zac)))) (zag (qe (zai zaT rfl T.n_isinstance Bt (zaa (pv 0) (zaa (zbo rfl V_NameTaken) zac)))) (zaA))))))
  (zaD (zbd (i:=1) S.nd rfl (F4 rfl) (zdo zbT (qe (pv 1)) (zbn (zag (qe (zai zaT rfl T.n_isinstance Bt (zaa (pv 0) (zaa (zbo rfl V_BookFull) zac)))) (zag (qe (zai zaT rfl T.n_isinstance Bt (zaa (pv 0) (zaa (zbo rfl V_NoComb) zac)))) (zag (qe (zai zaT rfl T.n_isinstance Bt (zaa (pv 0) (zaa (zbo rfl V_BadTooth) zac)))) (zaA)))))))
  (zaD (zbd (i:=1) S.nd rfl (F4 rfl) (zdo zbT (qe (pv 1)) (zbn (zag (qe (zai zaT rfl T.n_isinstance Bt (zaa (pv 0) (zaa (zbo rfl V_ToothThere) zac)))) (zag (qe (zai zaT rfl T.n_isinstance Bt (zaa (pv 0) (zaa (zbo rfl V_FirstTooth) zac)))) (zaA))))))
  (zaD (zbd (i:=1) S.nd rfl (F4 rfl) (zdo zbT (qe (pv 1)) (zbn (zag (qe (zai zaT rfl T.n_isinstance Bt (zaa (pv 0) (zaa (zbo rfl V_ToothMissing) zac)))) (zag (qe (zai zaT rfl T.n_isinstance Bt (zaa (pv 0) (zaa (zbo rfl V_DeedsFull) zac)))) (zaA))))))
  (zaD (zbd (i:=1) S.nd rfl (F4 rfl) (zdo zbT (qe (pv 1)) (zbn (zag (qe (zai zaT rfl T.n_isinstance Bt (zaa (pv 0) (zaa (zbo rfl V_NothingDone) zac)))) (zag (qe (zai zaT rfl T.n_isinstance Bt (zaa (pv 0) (zaa (zbo rfl V_BadShape) zac)))) (zaA))))))
  (zaD (zbd (i:=1) S.nd rfl (F4 rfl) (zdo zbT (qe (pv 1)) (zbn (zag (qe (zai zaT rfl T.n_isinstance Bt (zaa (pv 0) (zaa (zbo rfl V_BadPlace) zac)))) (zag (qe (zai zaT rfl T.n_isinstance Bt (zaa (pv 0) (zaa (zbo rfl V_BadLength) zac)))) (zag (qe (zai zaT rfl T.n_isinstance Bt (zaa (pv 0) (zaa (zbo rfl V_NoFilling) zac)))) (zaA)))))))
  (zaD (zbd (i:=2) S.nd rfl (F4 rfl) (zbn (zag (qe (zaw)) (zag (qe (zaw)) (zag (qe (zaw)) (zag (qe (zaw)) (zag (qe (zaw)) (zag (qe (zaw)) (zag (qe (zaw)) (zaA))))))))))
  (zaD (zbd (i:=2) S.nd rfl (F4 rfl) (zdo zbT (qe (pv 2)) (zbn (zag (qe (zaw)) (zag (qe (zaw)) (zag (qe (zaw)) (zag (qe (zaw)) (zag (qe (zaw)) (zaA)))))))))
  (zaD (zbd (i:=2) S.nd rfl (F4 rfl) (zdo zbT (qe (pv 2)) (zbn (zag (qe (zaw)) (zag (qe (zaw)) (zag (qe (zaw)) (zaA)))))))
  (zeV (zf5 (qe (pe_compq (own := ["_law_k"]) (caps := [(1,"_law_is_one"),(2,"_law_words")]) (QH e oe) (fun _ _ _ _ _ _=>hq.comp) ⟨rfl,rfl,rfl,rfl,⟨⟨rfl,rfl,.inl rfl⟩,⟨rfl,rfl,.inl rfl⟩,trivial⟩⟩ (pi_range1q rfl T.n_range (zaa (zad) zac)) (fun _ _ _ _ _ _=>zaj (i:=0) (zaP (by decide +kernel)) rfl (As rfl)) (fun _ _ _ _ _ _=>zcw (zbz (zay (zbJ K rfl) (pv 1) (pv 0) (fun _ _=>rfl)))) (fun _ _ _ _ _ _=>zay (zbJ K rfl) (pv 2) (pv 0) (fun _ _=>rfl)))))))))))))),?_⟩
  have M:Same H H:=Same.refl H
  refine ⟨_,rfl,_,_,D,oe,_,rfl,pin,F.cls,F.kit 0 (by decide),_,rfl,_,_,D,oe,_,rfl,pin,F.cls,F.kit 1 (by decide),_,rfl,_,_,D,oe,_,rfl,pin,F.cls,F.kit 2 (by decide),bigr rfl,fun a0 na => ?_⟩
  obtain ⟨M,e1⟩:=M.lstE (o := .lst [kb j 0,kb j 1,kb j 2]) na
  clear na
  refine ⟨_,rfl,_,rfl,_,_,D,oe,_,rfl,pin,F.cls,F.kit 3 (by decide),_,rfl,_,_,D,oe,_,rfl,pin,F.cls,F.kit 4 (by decide),_,rfl,_,_,D,oe,_,rfl,pin,F.cls,F.kit 5 (by decide),bigr rfl,fun a1 na => ?_⟩
  obtain ⟨M,e2⟩:=M.lstE (o := .lst [kb j 3,kb j 4,kb j 5]) na
  replace e1:=zbl (o := .lst [kb j 3,kb j 4,kb j 5]) e1 na
  clear na
  refine ⟨_,_,_,_,rfl,rfl,e1,e2,bigr rfl,fun c1 nc => ?_⟩
  obtain ⟨M,e1⟩:=M.lstE (o := .lst [kb j 0,kb j 1,kb j 2,kb j 3,kb j 4,kb j 5]) nc
  clear nc e2
  refine ⟨_,rfl,_,rfl,_,_,D,oe,_,rfl,pin,F.cls,F.kit 6 (by decide),_,rfl,_,_,D,oe,_,rfl,pin,F.cls,F.kit 7 (by decide),bigr rfl,fun a2 na => ?_⟩
  obtain ⟨M,e2⟩:=M.lstE (o := .lst [kb j 6,kb j 7]) na
  replace e1:=zbl (o := .lst [kb j 6,kb j 7]) e1 na
  clear na
  refine ⟨_,_,_,_,rfl,rfl,e1,e2,bigr rfl,fun c2 nc => ?_⟩
  obtain ⟨M,e1⟩:=M.lstE (o := .lst [kb j 0,kb j 1,kb j 2,kb j 3,kb j 4,kb j 5,kb j 6,kb j 7]) nc
  clear nc e2
  refine ⟨_,rfl,_,rfl,_,_,D,oe,_,rfl,pin,F.cls,F.kit 8 (by decide),_,rfl,_,_,D,oe,_,rfl,pin,F.cls,F.kit 9 (by decide),bigr rfl,fun a3 na => ?_⟩
  obtain ⟨M,e2⟩:=M.lstE (o := .lst [kb j 8,kb j 9]) na
  replace e1:=zbl (o := .lst [kb j 8,kb j 9]) e1 na
  clear na
  refine ⟨_,_,_,_,rfl,rfl,e1,e2,bigr rfl,fun c3 nc => ?_⟩
  obtain ⟨M,e1⟩:=M.lstE (o := .lst [kb j 0,kb j 1,kb j 2,kb j 3,kb j 4,kb j 5,kb j 6,kb j 7,kb j 8,kb j 9]) nc
  clear nc e2
  refine ⟨_,rfl,_,rfl,_,_,D,oe,_,rfl,pin,F.cls,F.kit 10 (by decide),_,rfl,_,_,D,oe,_,rfl,pin,F.cls,F.kit 11 (by decide),bigr rfl,fun a4 na => ?_⟩
  obtain ⟨M,e2⟩:=M.lstE (o := .lst [kb j 10,kb j 11]) na
  replace e1:=zbl (o := .lst [kb j 10,kb j 11]) e1 na
  clear na
  refine ⟨_,_,_,_,rfl,rfl,e1,e2,bigr rfl,fun c4 nc => ?_⟩
  obtain ⟨M,e1⟩:=M.lstE (o := .lst [kb j 0,kb j 1,kb j 2,kb j 3,kb j 4,kb j 5,kb j 6,kb j 7,kb j 8,kb j 9,kb j 10,kb j 11]) nc
  clear nc e2
  refine ⟨_,rfl,_,rfl,_,_,D,oe,_,rfl,pin,F.cls,F.kit 12 (by decide),_,rfl,_,_,D,oe,_,rfl,pin,F.cls,F.kit 13 (by decide),_,rfl,_,_,D,oe,_,rfl,pin,F.cls,F.kit 14 (by decide),bigr rfl,fun a5 na => ?_⟩
  obtain ⟨M,e2⟩:=M.lstE (o := .lst [kb j 12,kb j 13,kb j 14]) na
  replace e1:=zbl (o := .lst [kb j 12,kb j 13,kb j 14]) e1 na
  clear na
  refine ⟨_,_,_,_,rfl,rfl,e1,e2,bigr rfl,fun c5 nc => ?_⟩
  obtain ⟨M,e1⟩:=M.lstE (o := .lst [kb j 0,kb j 1,kb j 2,kb j 3,kb j 4,kb j 5,kb j 6,kb j 7,kb j 8,kb j 9,kb j 10,kb j 11,kb j 12,kb j 13,kb j 14]) nc
  clear nc e2
  refine ⟨bigr rfl,fun w0 nw => ?_⟩
  obtain ⟨M,f1⟩:=M.lstE (o := .lst [V.str (A0 "BadName"),V.str (A0 "BadTeeth"),V.str (A0 "NameTaken"),V.str (A0 "BookFull"),V.str (A0 "NoComb"),V.str (A0 "BadTooth"),V.str (A0 "ToothThere")]) nw
  replace e1:=zbl (o := .lst [V.str (A0 "BadName"),V.str (A0 "BadTeeth"),V.str (A0 "NameTaken"),V.str (A0 "BookFull"),V.str (A0 "NoComb"),V.str (A0 "BadTooth"),V.str (A0 "ToothThere")]) e1 nw
  clear nw
  refine ⟨_,rfl,bigr rfl,fun w1 nw => ?_⟩
  obtain ⟨M,f2⟩:=M.lstE (o := .lst [V.str (A0 "FirstTooth"),V.str (A0 "ToothMissing"),V.str (A0 "DeedsFull"),V.str (A0 "NothingDone"),V.str (A0 "BadShape")]) nw
  replace e1:=zbl (o := .lst [V.str (A0 "FirstTooth"),V.str (A0 "ToothMissing"),V.str (A0 "DeedsFull"),V.str (A0 "NothingDone"),V.str (A0 "BadShape")]) e1 nw
  replace f1:=zbl (o := .lst [V.str (A0 "FirstTooth"),V.str (A0 "ToothMissing"),V.str (A0 "DeedsFull"),V.str (A0 "NothingDone"),V.str (A0 "BadShape")]) f1 nw
  clear nw
  refine ⟨_,_,_,_,rfl,rfl,f1,f2,bigr rfl,fun x1 nx => ?_⟩
  obtain ⟨M,f1⟩:=M.lstE (o := .lst [V.str (A0 "BadName"),V.str (A0 "BadTeeth"),V.str (A0 "NameTaken"),V.str (A0 "BookFull"),V.str (A0 "NoComb"),V.str (A0 "BadTooth"),V.str (A0 "ToothThere"),V.str (A0 "FirstTooth"),V.str (A0 "ToothMissing"),V.str (A0 "DeedsFull"),V.str (A0 "NothingDone"),V.str (A0 "BadShape")]) nx
  replace e1:=zbl (o := .lst [V.str (A0 "BadName"),V.str (A0 "BadTeeth"),V.str (A0 "NameTaken"),V.str (A0 "BookFull"),V.str (A0 "NoComb"),V.str (A0 "BadTooth"),V.str (A0 "ToothThere"),V.str (A0 "FirstTooth"),V.str (A0 "ToothMissing"),V.str (A0 "DeedsFull"),V.str (A0 "NothingDone"),V.str (A0 "BadShape")]) e1 nx
  clear nx f2
  refine ⟨_,rfl,bigr rfl,fun w2 nw => ?_⟩
  obtain ⟨M,f2⟩:=M.lstE (o := .lst [V.str (A0 "BadPlace"),V.str (A0 "BadLength"),V.str (A0 "NoFilling")]) nw
  replace e1:=zbl (o := .lst [V.str (A0 "BadPlace"),V.str (A0 "BadLength"),V.str (A0 "NoFilling")]) e1 nw
  replace f1:=zbl (o := .lst [V.str (A0 "BadPlace"),V.str (A0 "BadLength"),V.str (A0 "NoFilling")]) f1 nw
  clear nw
  refine ⟨_,_,_,_,rfl,rfl,f1,f2,bigr rfl,fun x2 nx => ?_⟩
  obtain ⟨M,f1⟩:=M.lstE (o := .lst [V.str (A0 "BadName"),V.str (A0 "BadTeeth"),V.str (A0 "NameTaken"),V.str (A0 "BookFull"),V.str (A0 "NoComb"),V.str (A0 "BadTooth"),V.str (A0 "ToothThere"),V.str (A0 "FirstTooth"),V.str (A0 "ToothMissing"),V.str (A0 "DeedsFull"),V.str (A0 "NothingDone"),V.str (A0 "BadShape"),V.str (A0 "BadPlace"),V.str (A0 "BadLength"),V.str (A0 "NoFilling")]) nx
  replace e1:=zbl (o := .lst [V.str (A0 "BadName"),V.str (A0 "BadTeeth"),V.str (A0 "NameTaken"),V.str (A0 "BookFull"),V.str (A0 "NoComb"),V.str (A0 "BadTooth"),V.str (A0 "ToothThere"),V.str (A0 "FirstTooth"),V.str (A0 "ToothMissing"),V.str (A0 "DeedsFull"),V.str (A0 "NothingDone"),V.str (A0 "BadShape"),V.str (A0 "BadPlace"),V.str (A0 "BadLength"),V.str (A0 "NoFilling")]) e1 nx
  clear nx f2
  refine ⟨_,rfl,by decide,by decide,fun Dc hD => ?_⟩
  refine zbV (capv := [some (.ref c5),some (.ref x2)]) (by rfl) (zaI 0 (15:Int).toNat) (bigr rfl) hD ?_ (isJ j) wordJ ?_ ?_ ?_
  ·exact fun _ _=>trivial
  ·intro v hv H' R s' h
   obtain ⟨t,ht,rfl⟩:=Ah.mp hv
   have ht15:t < 15:=B5.mp ht
   refine ⟨_,rfl,_,rfl,_,_,_,_,rfl,rfl,SqL.of (s' _ _ e1),(?_:atI (kBools j) (0 + ((t:Nat):Int))=some (kb j t)),_,rfl,?_⟩
   ·rw [Dy]
    refine zat ?_
    unfold kBools
    rw [Af,Cd ht15]
    rfl
   ·have e:isJ j (.int (0 + ((t:Nat):Int)))=decide (t=j):=by
     show decide ((0 + ((t:Nat):Int)).toNat=j)=_
     rw [Dy,Dk]
    have h:=h H' (Same.refl _)
    rw [e] at h
    exact h
  ·intro v hv hp H' R s' h
   obtain ⟨t,ht,rfl⟩:=Ah.mp hv
   have ht15:t < 15:=B5.mp ht
   refine ⟨_,rfl,_,rfl,_,_,_,_,rfl,rfl,SqL.of (s' _ _ f1),(?_:atI (errNames.map V.str) (0 + ((t:Nat):Int))=some (wordJ (.int (0 + ((t:Nat):Int))))),h H' (Same.refl _)⟩
   rw [Dy]
   refine zat ?_
   have hl:t < errNames.length:=ht15
   show (errNames.map V.str)[t]?=some (.str (errName ((t:Nat):Int).toNat))
   rw [Af,A6 hl,Dk]
   unfold errName
   rw [Aj,A6 hl]
   rfl
  ·intro H' s' e
   rw [kind_res F.lt] at e
   exact q _ H' (M.trans s') (M.free hD) e
theorem at0 {x y:V}:atI [x,y] 0=some x:=show atI [x,y] ((0:Nat):Int)=_ from zat rfl
theorem at1 {x y:V}:atI [x,y] 1=some y:=show atI [x,y] ((1:Nat):Int)=_ from zat rfl
noncomputable def sp_refused (K:Am):Sp:=fun vs H Q _=>∃ (a l:A3) (x:Str),vs = [.ref a,.str x]/\Df x=true/\H a=some (.tup [.str (A0 "refused"),.ref l])/\H l=some (.lst [.str x])/\∀ H',Same H H'->Q (.bl true) H'
theorem zdy {x:Str} (h:Df x=true):Do (.list [.str x])=true:=by simp [h,Do,D4,Ba,Dm,C0]
theorem eqv_one (x:Str):D0 (.list [.str x]) (.list [.str x])=true:=by simp [D0,Eb]
theorem zdz:FnScope ["_law_found","_law_due_here"] ["_law_found","_law_due_here"] (defScope s_refused):=⟨rfl,rfl,rfl,by decide +kernel,rfl,by decide +kernel,by decide +kernel⟩
theorem ok_refused (D:DefAt K mg "_law_refused" s_refused) (T:Bn mg):Callee P w K mg base "_law_refused" 2 ["_law_found","_law_due_here"] (sp_refused K):=by
 refine D.callee zdz (fun _ _ _ _ _ _=>ln2 fun _ _=>rfl) (fun vs H Q E h => ?_) (fun f cdv A outer s H vs Q E hr h => ?_)
 ·obtain ⟨a,l,x,rfl,_⟩:=h
  rfl
 ·obtain ⟨a,l,x,rfl,hok,ha,hl,q⟩:=h
  have S:=zdz
  have a0:atI [V.str (A0 "refused"),V.ref l] 0=some (V.str (A0 "refused")):=at0
  have a1:atI [V.str (A0 "refused"),V.ref l] 1=some (V.ref l):=at1
  refine ⟨_,zae (zaL (PW.pt (zeW (zbQ (zbz (zai (zbZ "tuple") rfl T.n_isinstance Bt (zaa (pv 0) (zaa (zcy (v := .ty "tuple") rfl T.n_tuple Mo rfl) zac))))) (zeW (zas zer (zai zar rfl T.n_len Bu (zaa (pv 0) zac)) (zad) (zax _)) (zdD (zas zer (zay za6 (pv 0) (zad) (fun _ _=>rfl)) (zaw) (zax _))))))
   (zah (zam (zbH)))
   (zap))
  (zah (zam (zc2 (zfv hr.units) (zay za6 (pv 0) (zad) (fun _ _=>rfl)) (zaO (zaa (pv 1) zac)) (zax _)))),?_⟩
  refine ⟨_,rfl,_,_,true,rfl,.tup ha,rfl,_,rfl,?_⟩
  refine iteF ?_
  refine ⟨_,rfl,_,_,rfl,.inr (SqT.of ha),rfl,_,rfl,?_⟩
  refine iteF ?_
  refine ⟨_,rfl,_,_,_,_,rfl,rfl,SqT.of ha,a0,rfl,_,rfl,?_⟩
  refine iteF ?_
  refine ⟨_,rfl,_,_,_,_,rfl,rfl,SqT.of ha,a1,_,rfl,bigr rfl,fun p np => ?_⟩
  have s1:Same H (upd H p (.lst [.str x])):=Same.new np
  refine ⟨_,_,.lst (SqL.of (s1 _ _ hl)) (.cons (.str x) .nil),.lst (SqL.of zab) (.cons (.str x) .nil),zdy hok,zdy hok,?_⟩
  rw [if_neg A9,eqv_one]
  exact q _ s1
theorem zg1 {ks:List (Str×List Int)} (nd:(ks.map (·.1)).Nodup) {i:Nat} {k:Str×List Int} (h:ks[i]?=some k):cGet (ks.take i) k.1=none:=by
 rw [get_none]
 intro hm
 obtain ⟨c,hc,e⟩:=Ah.mp hm
 obtain ⟨j,hj,ej⟩:=Es hc
 have hi:=(Ao.mp h).1
 have hj':j < i:=by
  have:=hj
  rw [Cw] at this
  omega
 have e1:(ks.map (·.1))[j]?=some k.1:=by
  rw [Af,A6 (by omega)]
  rw [K1] at ej
  rw [ej]
  exact congrArg some e
 have e2:(ks.map (·.1))[i]?=some k.1:=by rw [Af,h]; rfl
 have:=(K7 (by rw [A5]; omega) nd).mp (e1.trans e2.symm)
 omega
noncomputable def sp_mkbook (C:A3):Sp:=fun vs H Q _=>∃ (a:A3) (ws:List V) (ks:List (Str×List Int)),vs = [.ref a]/\H a=some (.lst ws)/\Drawn (fun _=>True) H ws ks/\ks.length<=8 /\
 ∀ b l G past H',Same H H'->H b=none->H l=none->(∀ x,G x->H x=none)->Bk C G H' b l ks past->past.length=ks.length->Q (.ref b) H'
theorem zf2:FnScope ["_law_kinds","_law_book_here","_law_word_here","_law_teeth_here"] ["_law_kinds"] (defScope s_book):=⟨rfl,rfl,rfl,by decide +kernel,rfl,by decide +kernel,by decide +kernel⟩
theorem ok_mkbook {ea:Nat->A3} {C:A3} (D:DefAt K mg "_law_book" s_book) (T:Bn mg) (BA:BookAt K C) (C_Book:Maker P w K mg base "Book" C CX0 1 ["self"] (sp_init C)) (M_put:Method P w K mg base C "put" (CX1 P w) 3 ["self","name","teeth"] (sp_put (K:=K) ea C)):Callee P w K mg base "_law_book" 4 ["_law_kinds"] (sp_mkbook C):=by
 refine D.callee zf2 (fun _ _ _ _ _ _=>ln1 fun _=>rfl) (fun vs H Q E h => ?_) (fun f cdv A outer s H vs Q E hr h => ?_)
 ·obtain ⟨a,ws,ks,rfl,_⟩:=h
  rfl
 ·obtain ⟨a,ws,ks,rfl,ha,dr,hk8,q⟩:=h
  have S:=zf2
  have hu:=zcm hr
  have B_cls:=BA.cls
  have hlen:=dr.rows.length
  refine ⟨_,zae (zak (i:=1) S.nd rfl (As rfl) (pe_mk0 C_Book (hr.mono (by decide)) (by first | exact zdZ | exact za1 | exact zcz | exact zbh) rfl))
  (zae (za2 Be rfl (zaC (pv 0)) (zf9 rfl (zaB (zaj (i:=2) S.nd rfl (As rfl)) (zaB (zaj (i:=3) S.nd rfl (As rfl)) (zbD))))
   (zah (zaW (zfM (pv 1) B_cls M_put (hr.mono (by decide)) (by first | exact zdZ | exact za1 | exact zcz | exact zbh) (zaa (pv 2) (zaa (zbr zbW rfl T.n_list Nh (zaa (pv 3) zac)) zac))))))
  (zah (zam (pv 1)))),?_⟩
  refine fun b dx nb ndx ndb=>⟨b,dx,rfl,zab,fun H1 l d m nl nd B=>⟨rfl,?_⟩⟩
  have hlb:l≠b:=fun z=>by rw [z,zab] at nl; cases nl
  have nl0:H l=none:=by
   rw [zaf hlb] at nl
   by_cases z:l=dx
   ·rw [z]; exact ndx
   ·rw [zaf z] at nl; exact nl
  have hdb:d≠b:=fun z=>by rw [z,zab] at nd; cases nd
  have nd0:H d=none:=by
   rw [zaf hdb] at nd
   by_cases z:d=dx
   ·rw [z]; exact ndx
   ·rw [zaf z] at nd; exact nd
  have s1:Same H H1:=fun x o e=>m.keep x o (by rw [zaf (zan e nb),zaf (zan e ndx)]; exact e) (zan e nb) (zan e nb)
  refine ⟨_,rfl,_,rfl,⟨_,SqL.of (s1 _ _ ha)⟩,?_⟩
  refine zbE (zao K a ws) (fun i σ H2=>Same H H2/\∃ G past x2 x3,σ = [some (.ref a),some (.ref b),x2,x3]/\Bk C G H2 b l (ks.take i) past/\past.length=i/\∀ x,G x->H x=none) ⟨s1,_,[],_,_,rfl,B,rfl,fun x g=>by rw [show x=d from g]; exact nd0⟩ (fun i σ H2 _ h=>SqL.of (h.1 _ _ ha)) ?_ ?_
  ·rintro i x σ H2 hx ⟨s2,G,past,x2,x3,rfl,B2,hp,hG⟩
   obtain ⟨k,qa,t,hk,rfl,hq,ht⟩:=(dr.same s2).rows.get hx
   have hi:i < ks.length:=(Ao.mp hk).1
   obtain ⟨hkn,hkg⟩:=dr.good k (B0 hk)
   obtain ⟨dx2,d2,hb2,_⟩:=id B2.ins
   refine ⟨qa,_,rfl,SqL.of hq,rfl,_,_,rfl,_,_,rfl,rfl,?_⟩
   refine ⟨_,rfl,b,dx2,_,rfl,hb2,rfl,_,rfl,_,rfl,t,_,rfl,.inl (SqL.of ht),fun p np => ?_⟩
   have s3:Same H2 (upd H2 p (.lst (k.2.map V.int))):=Same.new np
   refine ⟨b,l,G,_,past,k.1,p,k.2,rfl,B2.same s3,SqL.of zab,?_,?_,?_⟩
   ·exact big (by have:=name_len hkn; omega)
   ·have:=zg2 hkg; omega
   have hlt:(ks.take i).length=i:=by rw [Cw]; omega
   have e:putD (ks.take i) past k.1 k.2 = .ok (ks.take (i + 1)):=by
    unfold putD full
    rw [if_neg (by rw [hkn]; decide),if_neg (by rw [gt_teeth hkg]; decide),zg1 dr.nd hk,if_neg (by simp),if_neg (by omega),if_neg (by omega),zf6 (zg1 dr.nd hk),gt_eq hkg,zaG hk]
   rw [e]
   intro H4 G4 m4 B4
   refine ⟨fun x o e'=>m4.keep x o (s3 _ _ (s2 _ _ e')) (zan e' nb) (zan e' nl0),G4,_,_,_,rfl,B4,by rw [Ag,Bd,hp],fun x g => ?_⟩
   rcases m4.new x g with g | g
   ·exact hG x g
   ·exact (s2.trans s3).free g
  ·rintro σ H2 ⟨s2,G,past,x2,x3,rfl,B2,hp,hG⟩
   rw [Il (by omega)] at B2
   exact ⟨_,rfl,q b l G past H2 s2 nb nl0 hG B2 (by omega)⟩
noncomputable def tellT (Q:VK):VK:=fun v H1=>(2:Nat)<=sizeLine/\∀ p,H1 p=none->Q (.ref p) (upd H1 p (.tup [.str (A0 "told"),v]))
noncomputable def refuT (K:Am) (ea:Nat->A3) (ce:A2) (Q:VK):XK:=fun c _ H1=>∃ D j,c = .ref D/\KindF K ea D j/\Is K (.ref D) ce=some true/\∀ p l H2,Same H1 H2->H1 l=none->H2 l=some (.lst [.str (errName j)])->H2 p=none->Q (.ref p) (upd H2 p (.tup [.str (A0 "refused"),.ref l]))
noncomputable def spTry1 (K:Am) (ea:Nat->A3) (ce:A2) (C:A3) (m:Str) (sp:Sp):Sp:=fun vs H Q _=>∃ b x dx fs,vs = [.ref b,x]/\H b=some (.ins C dx fs)/\fs.lookup m=none/\sp [.ref b,x] H (tellT Q) (refuT K ea ce Q)
noncomputable def spTry2 (K:Am) (ea:Nat->A3) (ce:A2) (C:A3) (m:Str) (sp:Sp):Sp:=fun vs H Q _=>∃ b x y dx fs,vs = [.ref b,x,y]/\H b=some (.ins C dx fs)/\fs.lookup m=none/\sp [.ref b,x,y] H (tellT Q) (refuT K ea ce Q)
noncomputable def spTry0 (K:Am) (ea:Nat->A3) (ce:A2) (C:A3) (m:Str) (sp:Sp):Sp:=fun vs H Q _=>∃ b dx fs,vs = [.ref b]/\H b=some (.ins C dx fs)/\fs.lookup m=none/\sp [.ref b] H (tellT Q) (refuT K ea ce Q)
noncomputable def spTryF3 (K:Am) (ea:Nat->A3) (ce:A2) (sp:Sp):Sp:=fun vs H Q _=>∃ x y z,vs = [x,y,z]/\sp [x,y,z] H (tellT Q) (refuT K ea ce Q)
theorem zfp:FnScope ["_law_book_here","_law_word_here","_law_length_here","_law_e"] ["_law_book_here","_law_word_here","_law_length_here"] (defScope s_asked):=⟨rfl,rfl,rfl,by decide +kernel,rfl,by decide +kernel,by decide +kernel⟩
theorem ok_tasked (D:DefAt K mg "_law_asked" s_asked) (T:Bn mg) {ea:Nat->A3} {ce:A2} {sp:Sp} (V_CombError:mg "CombError" = some ce) (C_kind:HCallee P w K mg base "_law_kind" 1 ["_law_e"] (spKind K ea))
  (C_first_filling_with:Callee1 P w K mg base "first_filling_with" 5 ["book","name","length"] sp):Callee P w K mg base "_law_asked" 6 ["_law_book_here","_law_word_here","_law_length_here"] (spTryF3 K ea ce sp):=by
 refine D.callee zfp (fun _ _ _ _ _ _=>ln3 fun _ _ _=>rfl) (fun vs H Q E h => ?_) (fun f cdv A outer s H vs Q E hr h => ?_)
 ·obtain ⟨x,y,z,rfl,_⟩:=h
  rfl
 ·obtain ⟨x,y,z,rfl,h⟩:=h
  have S:=zfp
  refine ⟨_,zah (ps_try (i:=3) rfl rfl S.nd rfl rfl rfl V_CombError (fun E pn=>zah (zam (za9 (zaa (zaw) (zaa (zep C_first_filling_with (hr.mono (by decide)) (by first | exact za1 | exact zcz | exact zbh) rfl (zaa (pv 0) (zaa (pv 1) (zaa (pv 2) zac)))) zac)))))
   (fun x c ox pn vs hc hd h2 hx=>zah (zam (za9 (zaa (zaw) (zaa (pe_hand C_kind hr hx hc hd h2 (by decide) rfl (zaa (pv 3) zac)) zac)))))),?_⟩
  refine ⟨refuT K ea ce Q,⟨_,rfl,_,rfl,_,rfl,h⟩,fun c H' x' hE hx' => ?_⟩
  obtain ⟨Dd,j,rfl,kf,he,q⟩:=hE
  refine ⟨he,_,rfl,rfl,Dd,j,rfl,kf,fun p H2 s2 n2 e2=>⟨bigr rfl,fun p' np' => ?_⟩⟩
  exact q p' p H2 s2 n2 e2 np'
theorem ej_re {K:Am} {ea:Nat->A3} {ce:A2} {j:Nat} (e:EJ K ea ce j) {Q:VK} {H:Hp} (q:∀ p l H2,Same H H2->H l=none->H2 l=some (.lst [.str (errName j)])->H2 p=none->Q (.ref p) (upd H2 p (.tup [.str (A0 "refused"),.ref l]))):refuT K ea ce Q (.ref (ea j)) none H:=⟨ea j,j,rfl,e.kf,e.ex,q⟩
noncomputable def Ans (H:Hp) (fd:A3):Except Nat Int->Prop
 | .ok n=>H fd=some (.tup [.str (A0 "told"),.int n])
 | .error j=>∃ le,H fd=some (.tup [.str (A0 "refused"),.ref le])/\H le=some (.lst [.str (errName j)])
theorem Ans.same {H H':Hp} {fd:A3} {r:Except Nat Int} (a:Ans H fd r) (s:Same H H'):Ans H' fd r:=by
 cases r with
 | ok n=>exact s _ _ a
 | error j=>obtain ⟨le,h1,h2⟩:=a; exact ⟨le,s _ _ h1,s _ _ h2⟩
theorem zg4 {K:Am} {ea:Nat->A3} {ce:A2} {j:Nat} (e:EJ K ea ce j) {Q:VK} {H:Hp} (q:∀ fd H2,Same H H2->Ans H2 fd (.error j)->Q (.ref fd) H2):refuT K ea ce Q (.ref (ea j)) none H :=
 ej_re e fun p le H2 s nle hle np=>q p _ (s.put (s.free np)) ⟨le,zab,by rw [zaf (zan hle np)]; exact hle⟩
noncomputable def csOf (r:Except Nat Combs) (cs:Combs):Combs:=match r with
 | .ok c=>c
 | .error _=>cs
noncomputable def pastOf (r:Except Nat Combs) (cs:Combs) (past:List Combs):List Combs:=match r with
 | .ok _=>past ++ [cs]
 | .error _=>past
noncomputable def ansOf (r:Except Nat Combs) (past:List Combs):Except Nat Int:=match r with
 | .ok _ => .ok ((past.length:Int) + 1)
 | .error j => .error j
theorem deed_try {K:Am} {ea:Nat->A3} {ce:A2} {C b l:A3} {G:A3->Prop} {H:Hp} {cs:Combs} {past:List Combs} {Q:VK} {r:Except Nat Combs} (B:Bk C G H b l cs past) (ej:∀ j,r = .error j->EJ K ea ce j)
  (q:∀ Hx fd Gx,Mv b l G Gx H Hx->Bk C Gx Hx b l (csOf r cs) (pastOf r cs past)->Ans Hx fd (ansOf r past)->Q (.ref fd) Hx):Deed ea C G H b l cs past (tellT Q) (refuT K ea ce Q) r:=by
 cases r with
 | error j =>
  intro H' s
  exact zg4 (ej j rfl) fun fd H2 s2 a=>q H2 fd G (Mv.ofSame (s.trans s2)) (B.same (s.trans s2)) a
 | ok cs' =>
  intro H' G' m B'
  refine ⟨bigr rfl,fun p np => ?_⟩
  have s2:Same H' (upd H' p (.tup [.str (A0 "told"),.int ((past.length:Int) + 1)])):=Same.new np
  exact q _ p G' (m.trans (Mv.ofSame s2)) (B'.same s2) zab
noncomputable def spLaw (K:Am):Sp:=fun vs H Q _=>∃ (a:A3) (ns:List Int),vs = [.ref a]/\SqL K H a (ns.map V.int)/\ns.length<=63/\∀ H',Q (.bl true) H'
noncomputable def sp_laying:Sp:=fun vs H Q _=>∃ (q:A3) (a:Int) (x:Str),vs = [.ref q]/\H q=some (.tup [.int a,.str x])/\Q (.bl true) H
theorem zem:FnScope ["_law_one"] ["_law_one"] (defScope s_laying):=⟨rfl,rfl,rfl,by decide +kernel,rfl,by decide +kernel,by decide +kernel⟩
theorem ok_laying (D:DefAt K mg "_law_laying" s_laying) (T:Bn mg) (C_whole:Callee P w K mg base "_law_whole" 1 ["_law_found"] sp_whole):Callee P w K mg base "_law_laying" 2 ["_law_one"] sp_laying:=by
 refine D.callee zem (fun _ _ _ _ _ _=>ln1 fun _=>rfl) (fun vs H Q E h => ?_) (fun f cdv A outer s H vs Q E hr h => ?_)
 ·obtain ⟨qa,a,x,rfl,_⟩:=h
  rfl
 ·obtain ⟨qa,a,x,rfl,hq,q⟩:=h
  have S:=zem
  refine ⟨_,zae (zaL (PW.pt (zeW (zbQ (zbz (zai (zbZ "tuple") rfl T.n_isinstance Bt (zaa (pv 0) (zaa (zcy (v := .ty "tuple") rfl T.n_tuple Mo rfl) zac))))) (zdD (zas zer (zai zar rfl T.n_len Bu (zaa (pv 0) zac)) (zad) (zax _)))))
   (zah (zam (zbH)))
   (zap))
  (zah (zam (zgW (zaR C_whole (hr.mono (by decide)) rfl (zaa (zay za6 (pv 0) (zad) (fun _ _=>rfl)) zac)) (zgb (zai (zbZ "str") rfl T.n_isinstance Bt (zaa (zay za6 (pv 0) (zad) (fun _ _=>rfl)) (zaa (zcy (v := .ty "str") rfl T.n_str boot_str rfl) zac))))))),?_⟩
  refine ⟨_,rfl,_,_,true,rfl,.tup hq,rfl,_,rfl,?_⟩
  refine iteF ?_
  refine ⟨_,rfl,_,_,rfl,.inr (SqT.of hq),rfl,_,rfl,?_⟩
  refine iteF ?_
  refine ⟨_,rfl,_,_,_,_,rfl,rfl,SqT.of hq,at0,a,rfl,_,rfl,?_⟩
  refine iteT ?_
  exact ⟨_,rfl,_,_,_,_,rfl,rfl,SqT.of hq,at1,_,_,true,rfl,.str x,rfl,q⟩
noncomputable def sp_layings:Sp:=fun vs H Q _=>∃ (p:A3) (ws:List V),vs = [.ref p]/\H p=some (.lst ws)/\(∀ (i:Nat) x,ws[i]?=some x->∃ q a s,x = .ref q/\H q=some (.tup [.int a,.str s]))/\Q (.bl true) H
theorem zdA:FnScope ["_law_found","_law_one"] ["_law_found"] (defScope s_layings):=⟨rfl,rfl,rfl,by decide +kernel,rfl,by decide +kernel,by decide +kernel⟩
theorem ok_layings (D:DefAt K mg "_law_layings" s_layings) (T:Bn mg) (C_laying:Callee P w K mg base "_law_laying" 2 ["_law_one"] sp_laying):Callee P w K mg base "_law_layings" 3 ["_law_found"] sp_layings:=by
 refine D.callee zdA (fun _ _ _ _ _ _=>ln1 fun _=>rfl) (fun vs H Q E h => ?_) (fun f cdv A outer s H vs Q E hr h => ?_)
 ·obtain ⟨p,ws,rfl,_⟩:=h
  rfl
 ·obtain ⟨p,ws,rfl,hp,hw,q⟩:=h
  have S:=zdA
  refine ⟨_,zae (zaL (zbQ (zbz (zai (zbZ "list") rfl T.n_isinstance Bt (zaa (pv 0) (zaa (zcy (v := .ty "list") rfl T.n_list Nh rfl) zac)))))
   (zah (zam (zbH)))
   (zap))
  (zae (za2 Be rfl (zaC (pv 0)) (zaj (i:=1) S.nd rfl (As rfl))
   (zah (zaL (zbQ (zbz (zaR C_laying (hr.mono (by decide)) rfl (zaa (pv 1) zac))))
    (zah (zam (zbH)))
    (zap))))
  (zah (zam (zbH)))),?_⟩
  refine ⟨_,rfl,_,_,true,rfl,.lst hp,rfl,_,rfl,?_⟩
  refine iteF ?_
  refine ⟨_,rfl,_,rfl,⟨_,SqL.of hp⟩,?_⟩
  refine zbE (zao K p ws) (fun i σ Hx=>Hx=H/\∃ x1,σ = [some (.ref p),x1]) ⟨rfl,_,rfl⟩ (fun i σ Hx _ h=>by rw [h.1]; exact SqL.of hp) ?_ ?_
  ·rintro i x σ Hx hx ⟨rfl,x1,rfl⟩
   obtain ⟨qa,a,x',rfl,e⟩:=hw i x hx
   refine ⟨_,rfl,qa,a,x',rfl,e,_,rfl,?_⟩
   refine iteF ?_
   exact ⟨rfl,_,rfl⟩
  ·rintro σ Hx ⟨rfl,x1,rfl⟩
   exact q
theorem at4 {x y z u:V}:atI [x,y,z,u] 0=some x/\atI [x,y,z,u] 1=some y/\atI [x,y,z,u] 2=some z/\atI [x,y,z,u] 3=some u:=⟨show atI _ ((0:Nat):Int)=_ from zat rfl,show atI _ ((1:Nat):Int)=_ from zat rfl,show atI _ ((2:Nat):Int)=_ from zat rfl,show atI _ ((3:Nat):Int)=_ from zat rfl⟩
theorem lays_each {H:Hp} {ws:List V} {nm:Nat->Str} {n:Nat} (r:LaysR H ws nm n):∀ (i:Nat) x,ws[i]?=some x->∃ q a s,x = .ref q/\H q=some (.tup [.int a,.str s]):=fun i x h=>by
 obtain ⟨j,_,q,e1,e2⟩:=C7.rev r h
 exact ⟨q,_,_,e1,e2⟩
theorem name_ok {x:Str} (h:isName x=true):Df x=true:=by
 unfold isName at h
 rw [Bz] at h
 unfold Df
 rw [Array.all_eq_true_iff_forall_mem]
 intro c hc
 have:=Cg.mp h.2 c (by simpa using hc)
 unfold small at this
 simp at this ⊢
 omega
noncomputable def layD (nm:Nat->Str) (j:Nat):Gm := .tuple [.int (j:Nat),.str (nm j)]
theorem zgl {K:Am} {H:Hp} {ws:List V} {nm:Nat->Str} {n:Nat} (r:LaysR H ws nm n):VDs K H ws ((laid nm n).map (layD nm)):=by
 have:∀ {l:List Nat} {ws:List V},C7 (fun (j:Nat) (v:V)=>∃ q,v = .ref q/\H q=some (.tup [.int (j:Int),.str (nm j)])) l ws->VDs K H ws (l.map (layD nm)):=by
  intro l ws z
  induction z with
  | nil=>exact .nil
  | cons h _ ih =>
   obtain ⟨q,rfl,e⟩:=h
   exact .cons (.tup (SqT.of e) (.cons (.int _) (.cons (.str _) .nil))) ih
 exact this r
theorem zfy {nm:Nat->Str}:∀ {l:List Nat},(∀ j∈l,Df (nm j)=true)->Ba (l.map (layD nm))=true
 | [],_=>rfl
 | j :: l,h=>by
  have i:=zfy fun k hk=>h k (Ac _ hk)
  have:=h j Ai
  rw [Aq,Ba,i]
  simp [layD,D4,Ba,this]
theorem lay_one (a:Int) {x:Str} (h:Df x=true):D4 (.tuple [.int a,.str x])=true/\Dm (.tuple [.int a,.str x])<=50:=by
 simp [h,D4,Ba,Dm,C0]
theorem lays_any {nm:Nat->Str} {n:Nat} {x:Int} (h0:0<=x) (h1:x.toNat < n) (h2:nm x.toNat≠A0 ""):((laid nm n).map (layD nm)).any (fun e=>D0 e (.tuple [.int x,.str (nm x.toNat)]))=true:=by
 rw [Bv]
 refine ⟨layD nm x.toNat,Ah.mpr ⟨_,B9.mpr ⟨B5.mpr h1,decide_eq_true h2⟩,rfl⟩,?_⟩
 unfold layD
 rw [show ((x.toNat:Nat):Int)=x by omega]
 simp [D0,Eb]
noncomputable def EndAt (H:Hp) (W:Nat->Nat->Nat) (L:List Nat) (q:A3) (k:Nat):Prop:=∃ (evs:List (List Key×V)) (es:List Nat),H q=some (.dT evs)/\evs.map (·.1)=es.map akey/\(∀ s∈es,s∈L)/\∀ s∈L,s∈es ↔ 0 < W k s
noncomputable def EndsR (H:Hp) (W:Nat->Nat->Nat) (L:List Nat) (ws:List V) (n:Nat):Prop:=ws.length=n/\∀ k,k < n->∃ q,ws[k]?=some (.ref q)/\EndAt H W L q k
theorem EndAt.same {H H':Hp} {W:Nat->Nat->Nat} {L:List Nat} {q:A3} {k:Nat} (e:EndAt H W L q k) (s:∀ u,H q=some u->H' q=some u):EndAt H' W L q k:=by
 obtain ⟨evs,es,h1,h2⟩:=e
 exact ⟨evs,es,s _ h1,h2⟩
noncomputable def sp_ends:Sp:=fun vs H Q _=>∃ (g:A3) (kvs:List (List Key×V)) (ks:Combs) (L:List Nat) (n:Nat),vs = [.ref g,.int (n:Nat)]/\H g=some (.dT kvs)/\GrL H kvs ks L/\L.Nodup/\ClsS ks L/\0∈L/\GC ks/\ks.length<=8/\n<=900/\∀ (p:A3) (ws:List V) (H':Hp),Same H H'->H' p=some (.lst ws)->EndsR H' (Wy ks) L ws (n + 1)->(∀ (k:Nat) (q:A3),ws[k]?=some (.ref q)->H q=none)->Q (.ref p) H'
theorem zf1:FnScope ["_law_graph_here","_law_length_here","_law_table","_law_left","_law_ends_here","_law_ahead"] ["_law_graph_here","_law_length_here"] (defScope s_ends):=⟨rfl,rfl,rfl,by decide +kernel,rfl,by decide +kernel,by decide +kernel⟩
theorem ok_ends (D:DefAt K mg "_law_ends" s_ends) (T:Bn mg):Callee P w K mg base "_law_ends" 1 ["_law_graph_here","_law_length_here"] sp_ends:=by
 refine D.callee zf1 (fun _ _ _ _ _ _=>ln2 fun _ _=>rfl) (fun vs H Q E h => ?_) (fun f cdv A outer s H vs Q E hr h => ?_)
 ·obtain ⟨g,kvs,ks,L,n,rfl,_⟩:=h
  rfl
 ·obtain ⟨g,kvs,ks,L,n,rfl,hg,gr,ndL,cl,h0L,gc,h8,hn,q⟩:=h
  have ltL:=cl.1
  have S:=zf1
  have hu:=zcm hr
  have hL128:=zav 128 L ndL ltL
  refine ⟨_,zae (zak (i:=2) S.nd rfl (F4 rfl) (zaO (zaa (zeq hu (za9 (zac)) (zbH)) zac)))
  (zae (za2 Be rfl (za4 rfl T.n_range (zaa (pv 1) zac)) (zaj (i:=3) S.nd rfl (F4 rfl))
   (zae (zak (i:=4) S.nd rfl (As rfl) (zci))
   (zae (zeY Be rfl (pv 0) (zaj (i:=5) S.nd rfl (As rfl))
    (zah (zaL (zbz (zai (zfK rfl) rfl T.n_any boot_any (zaa (za3 (own := ["_law_word_here","_law_further"]) (caps := [(2,"_law_table"),(3,"_law_left")]) rfl ⟨rfl,rfl,rfl,rfl,⟨⟨rfl,rfl,.inl rfl⟩,⟨rfl,rfl,.inl rfl⟩,trivial⟩⟩ (zaC (zb8 hu (pv 0) (pv 5) (fun _ _=>rfl))) (fun _ _ _ _ _ _=>zf8 K rfl (n:=2) rfl (zaB (zaj (i:=0) (zaP (by decide +kernel)) rfl (As rfl)) (zaB (zaj (i:=1) (zaP (by decide +kernel)) rfl (As rfl)) (zbD)))) (fun _ _ _ _ _ _=>zbm) (fun _ _ _ _ _ _=>zft (zcI hu (pv 1) (zay (zbJ K rfl) (pv 2) (pv 3) (fun _ _=>rfl))))) zac)))
     (zah (zcx hu (pv 4) (pv 5) (zbH) rfl))
     (zap))))
   (zah (zaW (zcj Bh Bl Bj zaH (pv 2) (zaa (pv 4) zac)))))))
  (zah (zam (pv 2)))),?_⟩
  refine fun e0 ne0=>⟨bigr rfl,fun te nte => ?_⟩
  have s1:Same H (upd H e0 (.dT [])):=Same.new ne0
  have hp1:upd H e0 (.dT []) e0=some (.dT []):=zab
  generalize upd H e0 (.dT [])=H1 at s1 hp1 nte ⊢
  have s2:Same H1 (upd H1 te (.tup [])):=Same.new nte
  have he2:upd H1 te (.tup []) te=some (.tup ((akey 0).map kV)):=by
   rw [zab]
   unfold akey
   rw [kI_V,show aheadOf ((0:Nat):Int) = [] by decide]
   rfl
  generalize upd H1 te (.tup [])=H2 at s2 he2 ⊢
  refine ⟨akey 0,te,s2 _ _ hp1,rfl,he2,?_⟩
  have s12:=s1.trans s2
  have s3:Same H (upd H2 e0 (.dT [(akey 0,.bl true)])):=s12.put ne0
  have hp3:upd H2 e0 (.dT [(akey 0,.bl true)]) e0=some (.dT [(akey 0,.bl true)]):=zab
  generalize upd H2 e0 (.dT [(akey 0,.bl true)])=H3 at s3 hp3 ⊢
  refine ⟨bigr rfl,fun tb ntb => ?_⟩
  have s4:Same H3 (upd H3 tb (.lst [.ref e0])):=Same.new ntb
  have hp4:=s4 _ _ hp3
  have htb4:upd H3 tb (.lst [.ref e0]) tb=some (.lst [.ref e0]):=zab
  have ntb0:=s3.free ntb
  have s34:=s3.trans s4
  generalize upd H3 tb (.lst [.ref e0])=H4 at s34 hp4 htb4 ⊢
  have r0:EndsR H4 (Wy ks) L [.ref e0] 1:=by
   refine ⟨rfl,fun k hk => ?_⟩
   have:k=0:=by omega
   subst this
   refine ⟨e0,rfl,_,[0],hp4,rfl,fun s hs=>by rw [A7.mp hs]; exact h0L,fun s _ => ?_⟩
   rw [A7]
   show s=0 ↔ 0 < (if s=0 then 1 else 0)
   by_cases z:s=0
   ·rw [if_pos z]; exact ⟨fun _=>by omega,fun _=>z⟩
   ·rw [if_neg z]; exact ⟨fun y=>absurd y z,fun y=>by omega⟩
  refine ⟨_,rfl,_,rfl,by omega,by omega,?_⟩
  refine zbE (zaI 0 ((n:Nat):Int).toNat) (fun i σ Hx=>Same H Hx/\∃ (ws:List V) (x3 x4 x5:Option V),σ = [some (.ref g),some (.int (n:Nat)),some (.ref tb),x3,x4,x5]/\Hx tb=some (.lst ws)/\EndsR Hx (Wy ks) L ws (i + 1)/\∀ (k:Nat) (q:A3),ws[k]?=some (.ref q)->H q=none) ⟨s34,_,_,_,_,rfl,htb4,r0,fun k q h => ?_⟩ (fun _ _ _ _ _=>trivial) ?_ ?_
  ·have:=B0 h
   rw [A7] at this
   injection this with this
   rw [this]; exact ne0
  ·rintro i x σ Hx hx ⟨sx,ws,x3,x4,x5,rfl,htb,er,hnone⟩
   obtain ⟨hi,rfl⟩:=zbk hx
   have hi:i < n:=by simpa using hi
   rw [Dy]
   refine fun eh neh => ?_
   have neh0:=sx.free neh
   have hgt:g≠tb:=fun z=>by rw [z,ntb0] at hg; cases hg
   have hge:g≠eh:=fun z=>by rw [z,neh0] at hg; cases hg
   have hte:tb≠eh:=fun z=>by rw [<- z,htb] at neh; cases neh
   have hq:∀ (k:Nat) (q:A3),ws[k]?=some (.ref q)->q≠g/\q≠eh/\q≠tb:=fun k q e=>by
    have hk:k < i + 1:=by rw [<- er.1]; exact (Ao.mp e).1
    obtain ⟨q',e1,evs,es,e2,_⟩:=er.2 k hk
    rw [e] at e1
    cases e1
    refine ⟨fun z => ?_,fun z => ?_,fun z => ?_⟩
    ·have:=hnone k q e
     rw [z,hg] at this; cases this
    ·rw [z,neh] at e2; cases e2
    ·rw [z,htb] at e2; cases e2
   refine ⟨g,kvs,rfl,by rw [zaf hge]; exact sx _ _ hg,fun o => ?_⟩
   have grf:∀ {Hy:Hp},Same H (upd Hy g (.dT kvs))->GrL Hy kvs ks L:=fun {Hy} sy=>(gr.same sy).mono (fun kv _ q vs _ e=>by
     by_cases z:q=g
     ·rw [z,zab] at e; cases e
     ·rw [zaf z] at e; exact e) fun q xs e=>by
     by_cases z:q=g
     ·rw [z,zab] at e; cases e
     ·rw [zaf z] at e; exact e
   have wst:∀ s,s < 128->(0 < Wy ks (i + 1) s ↔ ∃ t,st1 ks s t/\0 < Wy ks i t):=fun s hs=>by
    show 0 < ((stp ks s).map fun p=>Wy ks i p.2.toNat).sum ↔ _
    rw [zdQ]
    constructor
    ·rintro ⟨pp,h1,h2⟩; exact ⟨_,⟨pp,h1,rfl⟩,h2⟩
    ·rintro ⟨t,⟨pp,h1,rfl⟩,h2⟩; exact ⟨pp,h1,h2⟩
   refine zgs (fun j σ Hy=>Same H (upd Hy g (.dT kvs))/\Hy g=some (.frz o (.dT kvs))/\Hy tb=some (.lst ws)/\EndsR Hy (Wy ks) L ws (i + 1)/\∃ (evs:List (List Key×V)) (es:List Nat) (x5:Option V),σ = [some (.ref g),some (.int (n:Nat)),some (.ref tb),some (.int (i:Nat)),some (.ref eh),x5]/\Hy eh=some (.dT evs)/\evs.map (·.1)=es.map akey/\es.Nodup/\(∀ s∈es,s∈L)/\(∀ s∈es,0 < Wy ks (i + 1) s)/\∀ s∈L.take j,0 < Wy ks (i + 1) s->s∈es) ⟨?_,zab,by rw [zaf hgt.symm,zaf hte]; exact htb,⟨er.1,fun k hk => ?_⟩,[],[],_,rfl,by rw [zaf hge.symm]; exact zab,rfl,Du,nofun,nofun,fun s hs'=>by cases hs'⟩ (fun i σ Hy h=>h.2.1) ?_ ?_
   ·intro b u eb
    have hbe:b≠eh:=fun z=>by rw [z,neh0] at eb; cases eb
    by_cases z:b=g
    ·rw [z,zab]; rw [z,hg] at eb; exact eb
    ·rw [zaf z,zaf z,zaf hbe]; exact sx _ _ eb
   ·obtain ⟨q1,e1,e2⟩:=er.2 k hk
    obtain ⟨y1,y2,_⟩:=hq k q1 e1
    exact ⟨q1,e1,e2.same fun u hu=>by rw [zaf y1,zaf y2]; exact hu⟩
   ·rintro j kk y b σ Hy hk hb ⟨sy,hgy,htby,ery,evs,es,x5',rfl,heh,hky,nd',sub',snd',cov'⟩
    have hki:(kvs.map (·.1))[j]?=some kk:=by rw [Af,hk]; rfl
    rw [gr.keys,Af] at hki
    cases hsi:L[j]? with
    | none=>rw [hsi] at hki; cases hki
    | some s0 =>
     rw [hsi] at hki
     cases hki
     have hsm:=B0 hsi
     have hs1:=ltL s0 hsm
     obtain ⟨qv,vv,ev,hqv,gv⟩:=(grf sy).val ndL ltL hsm
     have lt':∀ s∈es,s < 128:=fun s hs=>ltL s (sub' s hs)
     obtain ⟨qt,et,dvs,ds,hqt,hdk,hdL,hdW⟩:=ery.2 i (by omega)
     have ltd:∀ s∈ds,s < 128:=fun s hs=>ltL s (hdL s hs)
     have dg:DGet Hy g (.ref b) (some (.ref qv)):=by rw [<- ev]; exact .inr ⟨kvs,akey s0,b,.inr ⟨o,hgy⟩,rfl,hb,rfl⟩
     refine ⟨_,rfl,_,rfl,_,_,rfl,dg,_,rfl,⟨_,SqL.of hqv⟩,fun D hD => ?_⟩
     have hgl:=gv.length
     have hg8:=zcn h8 s0 hs1 gc
     refine zgC (capv := [some (.ref tb),some (.int (i:Nat))]) (by rfl) (zao K qv vv) (big (by omega)) hD (fun H' s'=>SqL.of (s' _ _ hqv)) (fun i => .str ((goesOf ks (aheadOf (s0:Int))).getD i ("",[])).1) (tupY Hy vv) (fun i x hx=>by
      obtain ⟨q1,t1,rfl,e2,e3,_⟩:=gv.nth hx
      exact ⟨q1,rfl,by rw [zdP hx e2]; exact e2⟩) (fun _=>true) (fun i => .bl (decide ((worth ((goesOf ks (aheadOf (s0:Int))).getD i ("",[])).2).toNat∈ds))) (fun _ _ _=>nofun) (fun i hi H R s' h=>h H (Same.refl _)) ?_ ?_
     ·intro i' hi' _ H' R s' h
      obtain ⟨q1,t1,e1,e2,e3,hlt⟩:=gv.nth (A6 hi')
      have hm:(goesOf ks (aheadOf (s0:Int))).getD i' ("",[])∈goesOf ks (aheadOf (s0:Int)):=by rw [Aj,A6 hlt]; exact Cp hlt
      obtain ⟨k1,k2,k3,k4⟩:=zbb hs1 gc hm
      have ey:tupY Hy vv i' = .ref t1:=zdP (by rw [A6 hi',e1]) e2
      rw [ey]
      refine ⟨_,rfl,_,rfl,_,rfl,_,_,_,_,rfl,rfl,SqL.of (s' _ _ htby),zat et,qt,_,rfl,.inr ⟨dvs,akey (worth ((goesOf ks (aheadOf (s0:Int))).getD i' ("",[])).2).toNat,t1,.inl (s' _ _ hqt),rfl,(by rw [<- k3,kI_V]; exact s' _ _ e3),rfl⟩,?_⟩
      rw [zbU hdk ltd k1]
      exact h H' (Same.refl _)
     intro H' s' e
     refine ⟨_,(Ab vv.length).map fun i=>decide ((worth ((goesOf ks (aheadOf (s0:Int))).getD i ("",[])).2).toNat∈ds),rfl,SqL.of ?_,_,rfl,?_⟩
     ·rw [e,Cm.mpr (fun _ _=>rfl),Bp]
      rfl
     have hany:(Na ((Ab vv.length).map fun i=>decide ((worth ((goesOf ks (aheadOf (s0:Int))).getD i ("",[])).2).toNat∈ds)) id=true) ↔ 0 < Wy ks (i + 1) s0:=by
      have e1:=zdO (goesOf ks (aheadOf (s0:Int))) (fun p=>decide ((worth p.2).toNat∈ds)) ("",[])
      rw [hgl]
      show Na ((Ab (goesOf ks (aheadOf (s0:Int))).length).map fun i=>decide ((worth ((goesOf ks (aheadOf (s0:Int))).getD i ("",[])).2).toNat∈ds)) (fun b=>b)=true ↔ _
      rw [e1,Bv,wst s0 hs1]
      constructor
      ·rintro ⟨pp,hpp,hd⟩
       have hd:=of_decide_eq_true hd
       exact ⟨_,⟨_,(zbb hs1 gc hpp).2.2.2,rfl⟩,(hdW _ (hdL _ hd)).mp hd⟩
      ·rintro ⟨t,⟨pp,hpp,rfl⟩,ht⟩
       have hL:=cl.2 s0 hsm pp hpp
       rw [<- zaV hs1 gc] at hpp
       obtain ⟨gp,hgp',rfl⟩:=Ah.mp hpp
       exact ⟨gp,hgp',decide_eq_true ((hdW _ hL).mpr ht)⟩
     have etk:L.take (j + 1)=L.take j ++ [s0]:=zaG hsi
     have sy':Same H (upd H' g (.dT kvs)):=fun b u eb=>by
      by_cases z:b=g
      ·rw [z,zab]; rw [z,hg] at eb; exact eb
      ·have:=sy _ _ eb
       rw [zaf z] at this ⊢
       exact s' _ _ this
     have er':EndsR H' (Wy ks) L ws (i + 1):=⟨ery.1,fun k hk=>by
      obtain ⟨q1,e1,e2⟩:=ery.2 k hk
      exact ⟨q1,e1,e2.same fun u hu=>s' _ _ hu⟩⟩
     refine ite2 (fun hz => ?_) (fun hz => ?_)
     ·have hz:=hany.mp hz
      refine ⟨_,rfl,_,rfl,eh,_,rfl,DPut.t (k:=akey s0) (s' _ _ heh) (s' _ _ hb) (Ae (?_:evs.length < 1000) zaK),?_⟩
      ·have:=congrArg Ey hky
       rw [A5,A5] at this
       have:=zav 128 _ nd' lt'
       omega
      refine ⟨fun b u eb => ?_,by rw [zaf hge]; exact s' _ _ hgy,by rw [zaf hte]; exact s' _ _ htby,⟨er'.1,fun k hk => ?_⟩,_,addN es s0,_,rfl,zab,zcq lt' hs1 hky,ze8 nd',fun s hs => ?_,fun s hs => ?_,fun s hs hw => ?_⟩
      ·have hbp:b≠eh:=fun z=>by rw [z,neh0] at eb; cases eb
       have:=sy' _ _ eb
       by_cases z:b=g
       ·rw [z,zab] at this ⊢; exact this
       ·rw [zaf z] at this ⊢
        rw [zaf hbp]; exact this
      ·obtain ⟨q1,e1,e2⟩:=er'.2 k hk
       exact ⟨q1,e1,e2.same fun u hu=>by rw [zaf (hq k q1 e1).2.1]; exact hu⟩
      ·rcases addN_mem.mp hs with z | z
       ·exact sub' s z
       ·rw [z]; exact hsm
      ·rcases addN_mem.mp hs with z | z
       ·exact snd' s z
       ·rw [z]; exact hz
      ·rw [etk] at hs
       rcases Al.mp hs with z | z
       ·exact addN_mem.mpr (.inl (cov' s z hw))
       ·exact addN_mem.mpr (.inr (A7.mp z))
     ·refine ⟨sy',s' _ _ hgy,s' _ _ htby,er',evs,es,_,rfl,s' _ _ heh,hky,nd',sub',snd',fun s hs hw => ?_⟩
      rw [etk] at hs
      rcases Al.mp hs with z | z
      ·exact cov' s z hw
      ·rw [A7.mp z] at hw
       exact absurd (hany.mpr hw) hz
   ·rintro σ Hy ⟨sy,hgy,htby,ery,evs,es,x5',rfl,heh,hky,nd',sub',snd',cov'⟩
    rw [gr.len,C8] at cov'
    refine ⟨hgy,?_⟩
    have htz:upd Hy g (.dT kvs) tb=some (.lst ws):=by rw [zaf hgt.symm]; exact htby
    have hez:upd Hy g (.dT kvs) eh=some (.dT evs):=by rw [zaf hge.symm]; exact heh
    have erz:EndsR (upd Hy g (.dT kvs)) (Wy ks) L ws (i + 1):=⟨ery.1,fun k hk=>by
     obtain ⟨q1,e1,e2⟩:=ery.2 k hk
     exact ⟨q1,e1,e2.same fun u hu=>by rw [zaf (hq k q1 e1).1]; exact hu⟩⟩
    generalize upd Hy g (.dT kvs)=Hz at sy htz hez erz ⊢
    refine ⟨_,rfl,.inl ⟨rfl,_,SqL.of htz⟩,_,rfl,tb,_,_,rfl,rfl,htz,Ae (by have:=erz.1; omega:ws.length < 1000) zaK,?_⟩
    refine ⟨sy.put ntb0,_,_,_,_,rfl,zab,⟨by rw [Ag,erz.1]; rfl,fun k hk => ?_⟩,fun k q1 e1 => ?_⟩
    ·by_cases z:k < i + 1
     ·obtain ⟨q1,e1,e2⟩:=erz.2 k z
      exact ⟨q1,by rw [C4 (by rw [erz.1]; exact z)]; exact e1,e2.same fun u hu=>by rw [zaf (hq k q1 e1).2.2]; exact hu⟩
     ·have:k=i + 1:=by omega
      subst this
      refine ⟨eh,by rw [Ca (by rw [erz.1]; omega),erz.1,Fn]; rfl,evs,es,by rw [zaf hte.symm]; exact hez,hky,sub',fun s hs=>⟨snd' s,cov' s hs⟩⟩
    ·by_cases z:k < i + 1
     ·rw [C4 (by rw [erz.1]; exact z)] at e1
      exact hnone k q1 e1
     ·have hlt:=(Ao.mp e1).1
      rw [Ag,Bd,erz.1] at hlt
      have:k=i + 1:=by omega
      subst this
      rw [Ca (by rw [erz.1]; omega),erz.1,Fn] at e1
      cases e1
      exact neh0
  ·rintro σ Hx ⟨sx,ws,x3,x4,x5,rfl,htb,er,hno⟩
   rw [zbj,show ((n:Nat):Int).toNat=n by omega] at er
   exact ⟨_,rfl,q tb ws Hx sx htb er hno⟩
theorem zhp (C:Combs) (x:Str):∀ k s,Ww C x k s<=Wy C k s
 | 0,s=>By _
 | k + 1,s=>by
  show ((stp C s).map (bh x (Wy C k) (Ww C x k))).sum<=((stp C s).map fun p=>Wy C k p.2.toNat).sum
  have:∀ l:List (Str×Int),(l.map (bh x (Wy C k) (Ww C x k))).sum<=(l.map fun p=>Wy C k p.2.toNat).sum:=by
   intro l
   induction l with
   | nil=>exact Aa _
   | cons p l ih =>
    rw [Aq,Aq,Fp,Fp]
    have h1:=zhp C x k p.2.toNat
    have h2:bh x (Wy C k) (Ww C x k) p<=Wy C k p.2.toNat:=by
     unfold bh
     split
     ·exact Aa _
     ·exact h1
    omega
  exact this _
noncomputable def sp_endw:Sp:=fun vs H Q _=>∃ (g ta:A3) (x:Str) (kvs:List (List Key×V)) (ks:Combs) (L:List Nat) (n:Nat) (wa:List V),vs = [.ref g,.ref ta,.str x]/\H g=some (.dT kvs)/\GrL H kvs ks L/\L.Nodup/\ClsS ks L/\0∈L/\GC ks/\ks.length<=8/\n<=900/\H ta=some (.lst wa)/\EndsR H (Wy ks) L wa (n + 1)/\(∀ (k:Nat) (q:A3),wa[k]?=some (.ref q)->q≠g)/\∀ (p:A3) (ws:List V) (H':Hp),Same H H'->H' p=some (.lst ws)->EndsR H' (Ww ks x) L ws (n + 1)->Q (.ref p) H'
theorem zcZ:FnScope ["_law_graph_here","_law_table","_law_wanted","_law_found","_law_left","_law_ends_here","_law_ahead","_law_word_here","_law_further"] ["_law_graph_here","_law_table","_law_wanted"] (defScope s_endswith):=⟨rfl,rfl,rfl,by decide +kernel,rfl,by decide +kernel,by decide +kernel⟩
theorem ok_endw (D:DefAt K mg "_law_endswith" s_endswith) (T:Bn mg):Callee P w K mg base "_law_endswith" 1 ["_law_graph_here","_law_table","_law_wanted"] sp_endw:=by
 refine D.callee zcZ (fun _ _ _ _ _ _=>ln3 fun _ _ _=>rfl) (fun vs H Q E h => ?_) (fun f cdv A outer s H vs Q E hr h => ?_)
 ·obtain ⟨g,ta,x,kvs,ks,L,n,wa,rfl,_⟩:=h
  rfl
 ·obtain ⟨g,ta,x,kvs,ks,L,n,wa,rfl,hg,gr,ndL,cl,h0L,gc,h8,hn,hta,era,hqa,q⟩:=h
  have ltL:=cl.1
  have S:=zcZ
  have hu:=zcm hr
  have hL128:=zav 128 L ndL ltL
  have hwa:=era.1
  refine ⟨_,zae (zak (i:=3) S.nd rfl (As rfl) (zaO (zaa (zci) zac)))
  (zae (za2 Be rfl (za4 rfl T.n_range (zaa (zau zc4 (zai zar rfl T.n_len Bu (zaa (pv 1) zac)) (zad)) zac)) (zaj (i:=4) S.nd rfl (As rfl))
   (zae (zak (i:=5) S.nd rfl (As rfl) (zci))
   (zae (zeY Be rfl (pv 0) (zaj (i:=6) S.nd rfl (As rfl))
    (zah (za2 Be rfl (zaC (zb8 hu (pv 0) (pv 6) (fun _ _=>rfl))) (zdF rfl (zaB (zaj (i:=7) S.nd rfl (As rfl)) (zaB (zaj (i:=8) S.nd rfl (As rfl)) (zbD))))
     (zah (zaL (PW.pt (zeW (zcH (zcI hu (pv 8) (zay zaz (pv 3) (pv 4) (fun _ _=>rfl)))) (zdD (PW.pt (pw_and (zas zck (pv 7) (pv 2) (zax _)) (pw_and1 (zcH (zcI hu (pv 8) (zay zaz (pv 1) (pv 4) (fun _ _=>rfl))))))))))
      (zah (zcx hu (pv 5) (pv 6) (zbH) rfl))
      (zap))))))
   (zah (zaW (zcj Bh Bl Bj zaH (pv 3) (zaa (pv 5) zac)))))))
  (zah (zam (pv 3)))),?_⟩
  refine fun e0 ne0=>⟨bigr rfl,fun tb ntb => ?_⟩
  have s1:Same H (upd H e0 (.dT [])):=Same.new ne0
  have hp1:upd H e0 (.dT []) e0=some (.dT []):=zab
  generalize upd H e0 (.dT [])=H1 at s1 hp1 ntb ⊢
  have s4:Same H1 (upd H1 tb (.lst [.ref e0])):=Same.new ntb
  have hp4:=s4 _ _ hp1
  have htb4:upd H1 tb (.lst [.ref e0]) tb=some (.lst [.ref e0]):=zab
  have ntb0:=s1.free ntb
  have s14:=s1.trans s4
  generalize upd H1 tb (.lst [.ref e0])=H4 at s14 hp4 htb4 ⊢
  have r0:EndsR H4 (Ww ks x) L [.ref e0] 1:=by
   refine ⟨rfl,fun k hk => ?_⟩
   have:k=0:=by omega
   subst this
   exact ⟨e0,rfl,_,[],hp4,rfl,nofun,fun s _=>⟨nofun,fun y=>absurd y (Dp 0)⟩⟩
  refine ⟨_,rfl,_,_,rfl,.inl (SqL.of (s14 _ _ hta)),_,_,rfl,rfl,_,rfl,by rw [hwa]; omega,by rw [hwa]; omega,?_⟩
  rw [show (((wa.length:Nat):Int) - 1).toNat=n by rw [hwa]; omega]
  refine zbE (zaI 0 n) (fun i σ Hx=>Same H Hx/\∃ (ws:List V) (x4 x5 x6 x7 x8:Option V),σ = [some (.ref g),some (.ref ta),some (.str x),some (.ref tb),x4,x5,x6,x7,x8]/\Hx tb=some (.lst ws)/\EndsR Hx (Ww ks x) L ws (i + 1)/\∀ (k:Nat) (q:A3),ws[k]?=some (.ref q)->H q=none) ⟨s14,_,_,_,_,_,_,rfl,htb4,r0,fun k q h => ?_⟩ (fun _ _ _ _ _=>trivial) ?_ ?_
  ·have:=B0 h
   rw [A7] at this
   injection this with this
   rw [this]; exact ne0
  ·rintro i y σ Hx hx ⟨sx,ws,x4,x5,x6,x7,x8,rfl,htb,er,hnone⟩
   obtain ⟨hi,rfl⟩:=zbk hx
   have hi:i < n:=by simpa using hi
   rw [Dy]
   refine fun eh neh => ?_
   have neh0:=sx.free neh
   have hgt:g≠tb:=fun z=>by rw [z,ntb0] at hg; cases hg
   have hge:g≠eh:=fun z=>by rw [z,neh0] at hg; cases hg
   have hte:tb≠eh:=fun z=>by rw [<- z,htb] at neh; cases neh
   have hgta:g≠ta:=fun z=>by rw [z,hta] at hg; cases hg
   have hq:∀ (k:Nat) (q:A3),ws[k]?=some (.ref q)->q≠g/\q≠eh/\q≠tb:=fun k q e=>by
    have hk:k < i + 1:=by rw [<- er.1]; exact (Ao.mp e).1
    obtain ⟨q',e1,evs,es,e2,_⟩:=er.2 k hk
    rw [e] at e1
    cases e1
    refine ⟨fun z => ?_,fun z => ?_,fun z => ?_⟩
    ·have:=hnone k q e
     rw [z,hg] at this; cases this
    ·rw [z,neh] at e2; cases e2
    ·rw [z,htb] at e2; cases e2
   refine ⟨g,kvs,rfl,by rw [zaf hge]; exact sx _ _ hg,fun o => ?_⟩
   have grf:∀ {Hy:Hp},Same H (upd Hy g (.dT kvs))->GrL Hy kvs ks L:=fun {Hy} sy=>(gr.same sy).mono (fun kv _ q vs _ e=>by
     by_cases z:q=g
     ·rw [z,zab] at e; cases e
     ·rw [zaf z] at e; exact e) fun q xs e=>by
     by_cases z:q=g
     ·rw [z,zab] at e; cases e
     ·rw [zaf z] at e; exact e
   have sOff:∀ {Hy:Hp} {b:A3} {u:HO},Same H (upd Hy g (.dT kvs))->b≠g->H b=some u->Hy b=some u:=fun {Hy b u} sy hb e=>by
    have:=sy _ _ e
    rw [zaf hb] at this
    exact this
   obtain ⟨qa,eqa,dva,da,hqda,hdka,hdLa,hdWa⟩:=era.2 i (by omega)
   have lta:∀ s∈da,s < 128:=fun s hs=>ltL s (hdLa s hs)
   refine zgs (fun j σ Hy=>Same H (upd Hy g (.dT kvs))/\Hy g=some (.frz o (.dT kvs))/\Hy tb=some (.lst ws)/\EndsR Hy (Ww ks x) L ws (i + 1)/\∃ (evs:List (List Key×V)) (es:List Nat) (x6 x7 x8:Option V),σ = [some (.ref g),some (.ref ta),some (.str x),some (.ref tb),some (.int (i:Nat)),some (.ref eh),x6,x7,x8]/\Hy eh=some (.dT evs)/\evs.map (·.1)=es.map akey/\es.Nodup/\(∀ s∈es,s∈L)/\(∀ s∈es,0 < Ww ks x (i + 1) s)/\∀ s∈L.take j,0 < Ww ks x (i + 1) s->s∈es) ⟨?_,zab,by rw [zaf hgt.symm,zaf hte]; exact htb,⟨er.1,fun k hk => ?_⟩,[],[],_,_,_,rfl,by rw [zaf hge.symm]; exact zab,rfl,Du,nofun,nofun,fun s hs'=>by cases hs'⟩ (fun i σ Hy h=>h.2.1) ?_ ?_
   ·intro b u eb
    have hbe:b≠eh:=fun z=>by rw [z,neh0] at eb; cases eb
    by_cases z:b=g
    ·rw [z,zab]; rw [z,hg] at eb; exact eb
    ·rw [zaf z,zaf z,zaf hbe]; exact sx _ _ eb
   ·obtain ⟨q1,e1,e2⟩:=er.2 k hk
    obtain ⟨y1,y2,_⟩:=hq k q1 e1
    exact ⟨q1,e1,e2.same fun u hu=>by rw [zaf y1,zaf y2]; exact hu⟩
   ·rintro j kk y b σ Hy hk hb ⟨sy,hgy,htby,ery,evs,es,x6',x7',x8',rfl,heh,hky,nd',sub',snd',cov'⟩
    have hki:(kvs.map (·.1))[j]?=some kk:=by rw [Af,hk]; rfl
    rw [gr.keys,Af] at hki
    cases hsi:L[j]? with
    | none=>rw [hsi] at hki; cases hki
    | some s0 =>
     rw [hsi] at hki
     cases hki
     have hsm:=B0 hsi
     have hs1:=ltL s0 hsm
     obtain ⟨qv,vv,ev,hqv,gv⟩:=(grf sy).val ndL ltL hsm
     have hgl:=gv.length
     have dg:DGet Hy g (.ref b) (some (.ref qv)):=by rw [<- ev]; exact .inr ⟨kvs,akey s0,b,.inr ⟨o,hgy⟩,rfl,hb,rfl⟩
     refine ⟨_,rfl,_,rfl,_,_,rfl,dg,_,rfl,⟨_,SqL.of hqv⟩,?_⟩
     have hqe:qv≠eh:=fun z=>by rw [z,heh] at hqv; cases hqv
     let good:Str×List Int->Prop:=fun p=>0 < bh x (Wy ks i) (Ww ks x i) (p.1,worth p.2)
     let INV:Nat->L2.St->Hp->Prop:=fun u σ Hz=>Same H (upd Hz g (.dT kvs))/\Hz g=some (.frz o (.dT kvs))/\Hz tb=some (.lst ws)/\EndsR Hz (Ww ks x) L ws (i + 1)/\Hz b=some (.tup ((akey s0).map kV))/\Hz qv=some (.lst vv)/\GoesR Hz vv (goesOf ks (aheadOf (s0:Int)))/\∃ (evs':List (List Key×V)) (es':List Nat) (x7 x8:Option V),σ = [some (.ref g),some (.ref ta),some (.str x),some (.ref tb),some (.int (i:Nat)),some (.ref eh),some (.ref b),x7,x8]/\Hz eh=some (.dT evs')/\evs'.map (·.1)=es'.map akey/\es'.Nodup/\(∀ s∈es',s∈L)/\(∀ s∈es',0 < Ww ks x (i + 1) s)/\(∀ s∈es,s∈es')/\((∃ p∈(goesOf ks (aheadOf (s0:Int))).take u,good p)->s0∈es')
     refine zbE (zao K qv vv) INV ⟨sy,hgy,htby,ery,hb,hqv,gv,evs,es,_,_,rfl,heh,hky,nd',sub',snd',fun _ h=>h,fun ⟨p,hp,_⟩=>by cases hp⟩ (fun u σ Hz _ h=>SqL.of h.2.2.2.2.2.1) ?_ ?_
     ·rintro u y σ Hz hy ⟨sz,hgz,htz,erz,hbz,hqz,gz,evs',es',x7'',x8'',rfl,hez,hkz,ndz,subz,sndz,supz,covz⟩
      obtain ⟨q1,t1,rfl,e2,e3,hltj⟩:=gz.nth hy
      have egd:(goesOf ks (aheadOf (s0:Int))).getD u ("",[])=(goesOf ks (aheadOf (s0:Int)))[u]:=by rw [Aj,A6 hltj]; rfl
      rw [egd] at e2 e3
      obtain ⟨k1,k2,k3,k4⟩:=zbb hs1 gc (Cp hltj)
      have htL:=cl.2 s0 hsm _ k4
      have etk:(goesOf ks (aheadOf (s0:Int))).take (u + 1)=(goesOf ks (aheadOf (s0:Int))).take u ++ [(goesOf ks (aheadOf (s0:Int)))[u]]:=Cs hltj
      generalize hgp:(goesOf ks (aheadOf (s0:Int)))[u]=gp at e2 e3 k1 k2 k3 k4 htL etk
      dsimp only at htL
      have e3':Hz t1=some (.tup ((akey (worth gp.2).toNat).map kV)):=by rw [<- k3,kI_V]; exact e3
      have ltz:∀ s∈es',s < 128:=fun s hs=>ltL s (subz s hs)
      obtain ⟨qt,et,dvs,ds,hqt,hdk,hdL,hdW⟩:=erz.2 i (by omega)
      have ltd:∀ s∈ds,s < 128:=fun s hs=>ltL s (hdL s hs)
      have hv1:=zbU hdk ltd k1
      have hv2:=zbU hdka lta k1
      have dg1:DGet Hz qt (.ref t1) (valV dvs (akey (worth gp.2).toNat)):=DGet.t hqt e3'
      have dg2:DGet Hz qa (.ref t1) (valV dva (akey (worth gp.2).toNat)):=DGet.t (sOff sz (hqa i qa eqa) hqda) e3'
      have htaz:=sOff sz hgta.symm hta
      have yes:good gp->INV (u + 1) [some (.ref g),some (.ref ta),some (.str x),some (.ref tb),some (.int (i:Nat)),some (.ref eh),some (.ref b),some (.str gp.1),some (.ref t1)] (upd Hz eh (.dT (putK evs' (akey s0) (.bl true)))):=fun hgo=>by
       refine ⟨fun b' u' eb => ?_,by rw [zaf hge]; exact hgz,by rw [zaf hte]; exact htz,⟨erz.1,fun k hk => ?_⟩,?_,by rw [zaf hqe]; exact hqz,?_,_,addN es' s0,_,_,rfl,zab,zcq ltz hs1 hkz,ze8 ndz,fun s hs => ?_,fun s hs => ?_,fun s hs=>addN_mem.mpr (.inl (supz s hs)),fun _=>addN_mem.mpr (.inr rfl)⟩
       ·have hbp:b'≠eh:=fun z=>by rw [z,neh0] at eb; cases eb
        have:=sz _ _ eb
        by_cases z:b'=g
        ·rw [z,zab] at this ⊢; exact this
        ·rw [zaf z] at this ⊢
         rw [zaf hbp]; exact this
       ·obtain ⟨q1,e1,e2⟩:=erz.2 k hk
        exact ⟨q1,e1,e2.same fun u hu=>by rw [zaf (hq k q1 e1).2.1]; exact hu⟩
       ·rw [zaf (fun z=>by rw [z,hez] at hbz; cases hbz)]; exact hbz
       ·exact gz.mono fun qa ys z=>by rw [zaf (fun z2=>by rw [z2,hez] at z; cases z)]; exact z
       ·rcases addN_mem.mp hs with z | z
        ·exact subz s z
        ·rw [z]; exact hsm
       ·rcases addN_mem.mp hs with z | z
        ·exact sndz s z
        ·rw [z]
         show 0 < ((stp ks s0).map (bh x (Wy ks i) (Ww ks x i))).sum
         rw [zdQ]
         exact ⟨_,k4,hgo⟩
      have no:¬ good gp->INV (u + 1) [some (.ref g),some (.ref ta),some (.str x),some (.ref tb),some (.int (i:Nat)),some (.ref eh),some (.ref b),some (.str gp.1),some (.ref t1)] Hz:=fun hgo=>by
       refine ⟨sz,hgz,htz,erz,hbz,hqz,gz,evs',es',_,_,rfl,hez,hkz,ndz,subz,sndz,supz,fun ⟨p,hp,hg'⟩ => ?_⟩
       rw [etk] at hp
       rcases Al.mp hp with z | z
       ·exact covz ⟨p,z,hg'⟩
       ·rw [A7.mp z] at hg'
        exact absurd hg' hgo
      have hlen:evs'.length < sizeLine:=Ae (by
       have:=congrArg Ey hkz
       rw [A5,A5] at this
       have:=zav 128 _ ndz ltz
       omega:evs'.length < 1000) zaK
      refine ⟨q1,_,rfl,SqT.of e2,rfl,_,_,rfl,_,_,rfl,rfl,?_⟩
      refine ⟨_,rfl,_,rfl,_,rfl,_,_,_,_,rfl,rfl,SqL.of htz,zat et,qt,_,rfl,dg1,_,rfl,?_⟩
      rw [hv1]
      by_cases hA:(worth gp.2).toNat∈ds
      ·rw [decide_eq_true hA]
       refine iteT ?_
       have hgo:good gp:=by
        show 0 < bh x (Wy ks i) (Ww ks x i) (gp.1,worth gp.2)
        have h1:=(hdW _ htL).mp hA
        have h2:=zhp ks x i (worth gp.2).toNat
        unfold bh
        dsimp only
        split <;> omega
       exact ⟨_,rfl,_,rfl,eh,_,rfl,DPut.t (k:=akey s0) hez hbz hlen,yes hgo⟩
      ·rw [decide_eq_false hA]
       refine iteF ?_
       refine ⟨_,rfl,_,rfl,rfl,_,rfl,?_⟩
       by_cases hX:gp.1=x
       ·rw [decide_eq_true (congrArg V.str hX)]
        refine iteT ?_
        refine ⟨_,rfl,_,rfl,_,rfl,_,_,_,_,rfl,rfl,SqL.of htaz,zat eqa,qa,_,rfl,dg2,_,rfl,?_⟩
        rw [hv2]
        have eb:bh x (Wy ks i) (Ww ks x i) (gp.1,worth gp.2)=Wy ks i (worth gp.2).toNat:=if_pos hX
        by_cases hB:(worth gp.2).toNat∈da
        ·rw [decide_eq_true hB]
         refine iteT ?_
         have hgo:good gp:=by
          show 0 < bh x (Wy ks i) (Ww ks x i) (gp.1,worth gp.2)
          rw [eb]
          exact (hdWa _ htL).mp hB
         exact ⟨_,rfl,_,rfl,eh,_,rfl,DPut.t (k:=akey s0) hez hbz hlen,yes hgo⟩
        ·rw [decide_eq_false hB]
         refine iteF ?_
         refine no fun hgo=>hB ?_
         have hgo:0 < bh x (Wy ks i) (Ww ks x i) (gp.1,worth gp.2):=hgo
         rw [eb] at hgo
         exact (hdWa _ htL).mpr hgo
       ·rw [decide_eq_false (fun z=>hX (by injection z))]
        refine iteF ?_
        refine no fun hgo=>hA ?_
        have hgo:0 < bh x (Wy ks i) (Ww ks x i) (gp.1,worth gp.2):=hgo
        rw [show bh x (Wy ks i) (Ww ks x i) (gp.1,worth gp.2)=Ww ks x i (worth gp.2).toNat from if_neg hX] at hgo
        exact (hdW _ htL).mpr hgo
     ·rintro σ Hz ⟨sz,hgz,htz,erz,hbz,hqz,gz,evs',es',x7'',x8'',rfl,hez,hkz,ndz,subz,sndz,supz,covz⟩
      rw [hgl,C8] at covz
      refine ⟨sz,hgz,htz,erz,evs',es',_,_,_,rfl,hez,hkz,ndz,subz,sndz,fun s hs hw => ?_⟩
      rw [zaG hsi] at hs
      rcases Al.mp hs with z | z
      ·exact supz s (cov' s z hw)
      ·rw [A7.mp z] at hw ⊢
       refine covz ?_
       have hw:0 < ((stp ks s0).map (bh x (Wy ks i) (Ww ks x i))).sum:=hw
       rw [zdQ,<- zaV hs1 gc] at hw
       obtain ⟨pp,hpp,h0⟩:=hw
       obtain ⟨gp,hgp',rfl⟩:=Ah.mp hpp
       exact ⟨gp,hgp',h0⟩
   ·rintro σ Hy ⟨sy,hgy,htby,ery,evs,es,x6',x7',x8',rfl,heh,hky,nd',sub',snd',cov'⟩
    rw [gr.len,C8] at cov'
    refine ⟨hgy,?_⟩
    have htz:upd Hy g (.dT kvs) tb=some (.lst ws):=by rw [zaf hgt.symm]; exact htby
    have hez:upd Hy g (.dT kvs) eh=some (.dT evs):=by rw [zaf hge.symm]; exact heh
    have erz:EndsR (upd Hy g (.dT kvs)) (Ww ks x) L ws (i + 1):=⟨ery.1,fun k hk=>by
     obtain ⟨q1,e1,e2⟩:=ery.2 k hk
     exact ⟨q1,e1,e2.same fun u hu=>by rw [zaf (hq k q1 e1).1]; exact hu⟩⟩
    generalize upd Hy g (.dT kvs)=Hz at sy htz hez erz ⊢
    refine ⟨_,rfl,.inl ⟨rfl,_,SqL.of htz⟩,_,rfl,tb,_,_,rfl,rfl,htz,Ae (by have:=erz.1; omega:ws.length < 1000) zaK,?_⟩
    refine ⟨sy.put ntb0,_,_,_,_,_,_,rfl,zab,⟨by rw [Ag,erz.1]; rfl,fun k hk => ?_⟩,fun k q1 e1 => ?_⟩
    ·by_cases z:k < i + 1
     ·obtain ⟨q1,e1,e2⟩:=erz.2 k z
      exact ⟨q1,by rw [C4 (by rw [erz.1]; exact z)]; exact e1,e2.same fun u hu=>by rw [zaf (hq k q1 e1).2.2]; exact hu⟩
     ·have:k=i + 1:=by omega
      subst this
      refine ⟨eh,by rw [Ca (by rw [erz.1]; omega),erz.1,Fn]; rfl,evs,es,by rw [zaf hte.symm]; exact hez,hky,sub',fun s hs=>⟨snd' s,cov' s hs⟩⟩
    ·by_cases z:k < i + 1
     ·rw [C4 (by rw [erz.1]; exact z)] at e1
      exact hnone k q1 e1
     ·have hlt:=(Ao.mp e1).1
      rw [Ag,Bd,erz.1] at hlt
      have:k=i + 1:=by omega
      subst this
      rw [Ca (by rw [erz.1]; omega),erz.1,Fn] at e1
      cases e1
      exact neh0
  ·rintro σ Hx ⟨sx,ws,x4,x5,x6,x7,x8,rfl,htb,er,_⟩
   rw [zbj] at er
   exact ⟨_,rfl,q tb ws Hx sx htb er⟩
noncomputable def FirstR (H:Hp) (gl:List V):Option (Str×List Int)->Prop
 | none=>gl = []
 | some p=>∃ q t,gl[0]?=some (.ref q)/\H q=some (.tup [.str p.1,.ref t])/\H t=some (.tup (p.2.map V.int))
theorem goes_find {C:Combs} (g:GC C) {s t:Nat} (hs:s < 128) {x:Str} {f:Str×Int->Bool} (h:(stp C s).find? f=some (x,((t:Nat):Int))):(goesOf C (aheadOf (s:Int))).find? (fun p=>f (p.1,worth p.2))=some (x,aheadOf ((t:Nat):Int)):=by
 rw [<- zaV hs g,List.find?_map] at h
 cases hf:(goesOf C (aheadOf (s:Int))).find? (f ∘ fun p=>(p.1,worth p.2)) with
 | none=>rw [hf] at h; cases h
 | some p0 =>
  rw [hf] at h
  injection h with h
  injection h with h1 h2
  have hm:=Hj hf
  obtain ⟨k1,k2,k3,k4⟩:=zbb hs g hm
  have h3:p0.2=aheadOf ((t:Nat):Int):=by
   have:kI p0.2=kI (aheadOf (((worth p0.2).toNat:Nat):Int)):=k3
   rw [zdJ this]
   congr 1
   rw [h2]
   rfl
  show (goesOf C (aheadOf (s:Int))).find? (f ∘ fun p=>(p.1,worth p.2))=_
  rw [hf,<- h1,<- h3]
noncomputable def sp_due24:Sp:=fun vs H Q _=>∃ (g ta tb:A3) (x:Str) (kvs:List (List Key×V)) (ks:Combs) (L:List Nat) (n:Nat) (wa wb:List V),vs = [.ref g,.ref ta,.ref tb,.str x]/\H g=some (.dT kvs)/\GrL H kvs ks L/\L.Nodup/\ClsS ks L/\0∈L/\GC ks/\ks.length<=8/\H ta=some (.lst wa)/\EndsR H (Wy ks) L wa (n + 1)/\H tb=some (.lst wb)/\EndsR H (Ww ks x) L wb (n + 1)/\n<=200/\0 < Ww ks x n 0/\∀ (r:A3) (wl:List V) (H':Hp),Same H H'->H' r=some (.lst wl)->LaysR H' wl (fnm ks x (Ww ks x) n) n->Q (.ref r) H'
theorem zgR:FnScope ["_law_graph_here","_law_table","_law_strict","_law_wanted","_law_found","_law_ahead","_law_laid","_law_place","_law_left","_law_good","_law_word_here","_law_further","_law_fine"] ["_law_graph_here","_law_table","_law_strict","_law_wanted"] (defScope s_due):=⟨rfl,rfl,rfl,by decide +kernel,rfl,by decide +kernel,by decide +kernel⟩
theorem ok_due24 (D:DefAt K mg "_law_due" s_due) (T:Bn mg):Callee P w K mg base "_law_due" 1 ["_law_graph_here","_law_table","_law_strict","_law_wanted"] sp_due24:=by
 refine D.callee zgR (fun _ _ _ _ _ _=>ln4 fun _ _ _ _=>rfl) (fun vs H Q E h => ?_) (fun f cdv A outer s H vs Q E hr h => ?_)
 ·obtain ⟨g,ta,tb,x,kvs,ks,L,n,wa,wb,rfl,_⟩:=h
  rfl
 ·obtain ⟨g,ta,tb,x,kvs,ks,L,n,wa,wb,rfl,hg,gr,ndL,cl,h0L,gc,h8,hta,era,htb,erb,hn,hw,q⟩:=h
  have ltL:=cl.1
  have S:=zgR
  have hu:=zcm hr
  have sl:=zgK ks x
  have hok:=zfP gc sl hw
  have hstep:∀ {i:Nat},i < n->_:=fun {i} hi=>zd6 gc sl hw (i:=i) hi
  have hin:∀ i,i<=n->(fw ks x (Ww ks x) n i).1∈L:=by
   intro i
   induction i with
   | zero=>exact fun _=>h0L
   | succ i ih =>
    intro hi
    have:=cl.2 _ (ih (by omega)) _ (hstep (show i < n by omega)).2.2
    simpa using this
  have hws:=era.1
  generalize hnm:fnm ks x (Ww ks x) n=nm at hstep q
  generalize hfw:(fun i=>(fw ks x (Ww ks x) n i).1)=fs
  generalize hfb:(fun i=>(fw ks x (Ww ks x) n i).2)=fb
  have efw:∀ i,(fw ks x (Ww ks x) n i).1=fs i:=fun i=>by rw [<- hfw]
  have efb:∀ i,(fw ks x (Ww ks x) n i).2=fb i:=fun i=>by rw [<- hfb]
  have gst:∀ i,i < n->(stp ks (fs i)).find? (fun p=>decide (0 < bh x (Wy ks (n - 1 - i)) (ro ks (Ww ks x) (fb i) (n - 1 - i)) p))=some (nm i,((fs (i + 1):Nat):Int)):=fun i hi=>by
   have:=(hstep hi).1
   unfold sel at this
   rw [efw,efw,efb] at this
   exact this
  have gsb:∀ i,i < n->fb (i + 1)=(fb i || decide (nm i=x)):=fun i hi=>by
   have:=(hstep hi).2.1
   rw [efb,efb] at this
   exact this
  have hfL:∀ i,i<=n->fs i∈L:=fun i hi=>by rw [<- efw]; exact hin i hi
  have f0:fs 0=0:=by rw [<- efw]; rfl
  have b0:fb 0=false:=by rw [<- efb]; rfl
  clear hstep hin hok efw efb hfw hfb hnm
  refine ⟨_,zae (zak (i:=4) S.nd rfl (As rfl) (zaO (zac)))
  (zae (zak (i:=5) S.nd rfl (As rfl) (za9 (zac)))
  (zae (zak (i:=6) S.nd rfl (As rfl) (zbH))
  (zae (za2 Be rfl (za4 rfl T.n_range (zaa (zau zc4 (zai zar rfl T.n_len Bu (zaa (pv 1) zac)) (zad)) zac)) (zaj (i:=7) S.nd rfl (As rfl))
   (zae (zak (i:=8) S.nd rfl (As rfl) (zau zc4 (zau zc4 (zai zar rfl T.n_len Bu (zaa (pv 1) zac)) (zad)) (pv 7)))
   (zae (zak (i:=9) S.nd rfl (As rfl) (zaO (zac)))
   (zae (za2 Be rfl (zaC (zb8 hu (pv 0) (pv 5) (fun _ _=>rfl))) (zdF rfl (zaB (zaj (i:=10) S.nd rfl (As rfl)) (zaB (zaj (i:=11) S.nd rfl (As rfl)) (zbD))))
    (zbC (zaL (PW.pt (zeW (zbz (pv 6)) (zdD (zas zck (pv 10) (pv 3) (zax _)))))
     (zah (zak (i:=12) S.nd rfl (As rfl) (zft (zcI hu (pv 11) (zay zaz (pv 1) (pv 8) (fun _ _=>rfl))))))
     (zah (zak (i:=12) S.nd rfl (As rfl) (zft (zcI hu (pv 11) (zay zaz (pv 2) (pv 8) (fun _ _=>rfl)))))))
    (zah (zaL (zbz (pv 12))
     (zah (zaW (zcj Bh Bl Bj zaH (pv 9) (zaa (za9 (zaa (pv 10) (zaa (pv 11) zac))) zac))))
     (zap)))))
   (zbC (zaL (zas zer (zay za6 (zay zaz (pv 9) (zad) (fun _ _=>rfl)) (zad) (fun _ _=>rfl)) (zaw) (zax _))
    (zah (zaW (zcj Bh Bl Bj zaH (pv 4) (zaa (za9 (zaa (pv 7) (zaa (zay za6 (zay zaz (pv 9) (zad) (fun _ _=>rfl)) (zad) (fun _ _=>rfl)) zac))) zac))))
    (zap))
   (zbC (zak (i:=6) S.nd rfl (As rfl) (pe_or (pv 6) (zgb (zc2 zck (zay za6 (zay zaz (pv 9) (zad) (fun _ _=>rfl)) (zad) (fun _ _=>rfl)) (pv 3) (zax _)))))
   (zah (zak (i:=5) S.nd rfl (As rfl) (zay za6 (zay zaz (pv 9) (zad) (fun _ _=>rfl)) (zad) (fun _ _=>rfl))))))))))
  (zah (zam (pv 4)))))),?_⟩
  refine ⟨bigr rfl,fun r nr => ?_⟩
  have s1:Same H (upd H r (.lst [])):=Same.new nr
  have hr1:upd H r (.lst []) r=some (.lst []):=zab
  generalize upd H r (.lst [])=H1 at s1 hr1 ⊢
  refine ⟨bigr rfl,fun a0 na0 => ?_⟩
  have s2:Same H1 (upd H1 a0 (.tup [])):=Same.new na0
  have ha2:upd H1 a0 (.tup []) a0=some (.tup ((aheadOf ((fs 0:Nat):Int)).map V.int)):=by
   rw [zab,f0,show aheadOf ((0:Nat):Int) = [] by decide]; rfl
  have hr2:=s2 _ _ hr1
  have s12:=s1.trans s2
  generalize upd H1 a0 (.tup [])=H2 at s12 ha2 hr2 ⊢
  refine ⟨_,rfl,_,_,rfl,.inl (SqL.of (s12 _ _ hta)),_,_,rfl,rfl,_,rfl,by rw [hws]; omega,by rw [hws]; omega,?_⟩
  rw [show (((wa.length:Nat):Int) - 1).toNat=n by rw [hws]; omega]
  refine zbE (zaI 0 n) (fun i σ Hx=>Same H Hx/\∃ (wl:List V) (qa:A3) (x7 x8 x9 x10 x11 x12:Option V),σ = [some (.ref g),some (.ref ta),some (.ref tb),some (.str x),some (.ref r),some (.ref qa),some (.bl (fb i)),x7,x8,x9,x10,x11,x12]/\Hx r=some (.lst wl)/\LaysR Hx wl nm i/\Hx qa=some (.tup ((aheadOf ((fs i:Nat):Int)).map V.int))) ⟨s12,[],a0,_,_,_,_,_,_,by rw [b0]; rfl,hr2,.nil,ha2⟩ (fun _ _ _ _ _=>trivial) ?_ ?_
  ·rintro i y σ Hx hx ⟨sx,wl,qa,x7,x8,x9,x10,x11,x12,rfl,hrx,lr,hqa⟩
   obtain ⟨hi,rfl⟩:=zbk hx
   have hi:i < n:=by simpa using hi
   rw [Dy]
   have hwl:=lr.len
   have hs1:=ltL _ (hfL i (by omega))
   obtain ⟨qta,eta,dva,da,hqda,hdka,hdLa,hdWa⟩:=era.2 (n - 1 - i) (by omega)
   obtain ⟨qtb,etb,dvb,db,hqdb,hdkb,hdLb,hdWb⟩:=erb.2 (n - 1 - i) (by omega)
   have lta:∀ s∈da,s < 128:=fun s hs=>ltL s (hdLa s hs)
   have ltb:∀ s∈db,s < 128:=fun s hs=>ltL s (hdLb s hs)
   have eix:((wa.length:Nat):Int) - 2 - ((i:Nat):Int)=((n - 1 - i:Nat):Int):=by rw [hws]; omega
   refine ⟨_,rfl,_,_,rfl,.inl (SqL.of (sx _ _ hta)),_,_,rfl,rfl,_,rfl,_,_,rfl,rfl,?_⟩
   refine ⟨bigr rfl,fun gd ngd => ?_⟩
   have sg:Same Hx (upd Hx gd (.lst [])):=Same.new ngd
   have hgd:upd Hx gd (.lst []) gd=some (.lst []):=zab
   have ngd0:=sx.free ngd
   have hgr:r≠gd:=fun z=>by rw [z,ngd] at hrx; cases hrx
   have hrg:=sg _ _ hrx
   have lrg:LaysR (upd Hx gd (.lst [])) wl nm i:=lr.mono fun _ _ e=>sg _ _ e
   have hqg:=sg _ _ hqa
   have sxg:=sx.trans sg
   generalize upd Hx gd (.lst [])=Hg at sxg hgd hrg lrg hqg ⊢
   obtain ⟨qv,vv,ev,hqv,gv⟩:=(gr.same sxg).val ndL ltL (hfL i (by omega))
   have hqk:Hg qa=some (.tup ((akey (fs i)).map kV)):=by
    unfold akey
    rw [kI_V]
    exact hqg
   have dg:DGet Hg g (.ref qa) (some (.ref qv)):=by rw [<- ev]; exact DGet.t (sxg _ _ hg) hqk
   have hgl:=gv.length
   have hg8:=zcn h8 _ hs1 gc
   have hqvg:qv≠gd:=fun z=>by
    have:=ev
    obtain ⟨qv',vv',ev',hqv',_⟩:=(gr.same sx).val ndL ltL (hfL i (by omega))
    rw [ev] at ev'
    injection ev' with ev'
    injection ev' with ev'
    rw [<- ev',z,ngd] at hqv'
    cases hqv'
   refine ⟨_,rfl,_,rfl,_,_,rfl,dg,_,rfl,⟨_,SqL.of hqv⟩,?_⟩
   let P:Str×List Int->Bool:=fun p=>decide (0 < bh x (Wy ks (n - 1 - i)) (ro ks (Ww ks x) (fb i) (n - 1 - i)) (p.1,worth p.2))
   let INV:Nat->L2.St->Hp->Prop:=fun u σ Hz=>Same H Hz/\Hz r=some (.lst wl)/\LaysR Hz wl nm i/\Hz qv=some (.lst vv)/\GoesR Hz vv (goesOf ks (aheadOf ((fs i:Nat):Int)))/\∃ (gl:List V) (x10 x11 x12:Option V),σ = [some (.ref g),some (.ref ta),some (.ref tb),some (.str x),some (.ref r),some (.ref qa),some (.bl (fb i)),some (.int (i:Nat)),some (.int (((wa.length:Nat):Int) - 2 - ((i:Nat):Int))),some (.ref gd),x10,x11,x12]/\Hz gd=some (.lst gl)/\gl.length<=u/\FirstR Hz gl (((goesOf ks (aheadOf ((fs i:Nat):Int))).take u).find? P)
   refine zbE (zao K qv vv) INV ⟨sxg,hrg,lrg,hqv,gv,[],_,_,_,rfl,hgd,By _,rfl⟩ (fun u σ Hz _ h=>SqL.of h.2.2.2.1) ?_ ?_
   ·rintro u y σ Hz hy ⟨sz,hrz,lrz,hqz,gz,gl,x10',x11',x12',rfl,hgz,hlz,frz⟩
    obtain ⟨q1,t1,rfl,e2,e3,hltj⟩:=gz.nth hy
    have egd:(goesOf ks (aheadOf ((fs i:Nat):Int))).getD u ("",[])=(goesOf ks (aheadOf ((fs i:Nat):Int)))[u]:=by rw [Aj,A6 hltj]; rfl
    rw [egd] at e2 e3
    obtain ⟨k1,k2,k3,k4⟩:=zbb hs1 gc (Cp hltj)
    have htL:=cl.2 _ (hfL i (by omega)) _ k4
    have etk:(goesOf ks (aheadOf ((fs i:Nat):Int))).take (u + 1)=(goesOf ks (aheadOf ((fs i:Nat):Int))).take u ++ [(goesOf ks (aheadOf ((fs i:Nat):Int)))[u]]:=Cs hltj
    generalize hgp:(goesOf ks (aheadOf ((fs i:Nat):Int)))[u]=gp at e2 e3 k1 k2 k3 k4 htL etk
    dsimp only at htL
    have e3':Hz t1=some (.tup ((akey (worth gp.2).toNat).map kV)):=by rw [<- k3,kI_V]; exact e3
    have hva:=zbU hdka lta k1
    have hvb:=zbU hdkb ltb k1
    rw [decide_eq_decide.mpr (hdWa _ htL)] at hva
    rw [decide_eq_decide.mpr (hdWb _ htL)] at hvb
    have dga:DGet Hz qta (.ref t1) (valV dva (akey (worth gp.2).toNat)):=DGet.t (sz _ _ hqda) e3'
    have dgb:DGet Hz qtb (.ref t1) (valV dvb (akey (worth gp.2).toNat)):=DGet.t (sz _ _ hqdb) e3'
    refine ⟨q1,_,rfl,SqT.of e2,rfl,_,_,rfl,_,_,rfl,rfl,?_⟩
    refine ⟨fun σ' H'=>H'=Hz /\ σ' = [some (.ref g),some (.ref ta),some (.ref tb),some (.str x),some (.ref r),some (.ref qa),some (.bl (fb i)),some (.int (i:Nat)),some (.int (((wa.length:Nat):Int) - 2 - ((i:Nat):Int))),some (.ref gd),some (.str gp.1),some (.ref t1),some (.bl (P gp))],?_,?_⟩
    ·have pa:(fb i=true\/gp.1=x)->P gp=decide (0 < Wy ks (n - 1 - i) (worth gp.2).toNat):=fun h=>by
      show decide (0 < bh x (Wy ks (n - 1 - i)) (ro ks (Ww ks x) (fb i) (n - 1 - i)) (gp.1,worth gp.2))=_
      unfold bh ro
      rcases h with h | h
      ·rw [if_pos h,ite_self]
      ·rw [if_pos h]
     have pb:fb i=false->gp.1≠x->P gp=decide (0 < Ww ks x (n - 1 - i) (worth gp.2).toNat):=fun h h'=>by
      show decide (0 < bh x (Wy ks (n - 1 - i)) (ro ks (Ww ks x) (fb i) (n - 1 - i)) (gp.1,worth gp.2))=_
      unfold bh ro
      rw [if_neg h',if_neg (by rw [h]; exact A9)]
     refine ⟨_,rfl,_,rfl,?_⟩
     cases hf:fb i with
     | true =>
      refine iteT ?_
      refine ⟨_,rfl,_,rfl,_,rfl,_,_,_,_,rfl,rfl,SqL.of (sz _ _ hta),by rw [eix]; exact zat eta,qta,_,rfl,dga,rfl,?_⟩
      rw [pa (.inl hf),hva]
      rfl
     | false =>
      refine iteF ?_
      refine ⟨_,rfl,_,rfl,rfl,_,rfl,?_⟩
      by_cases hX:gp.1=x
      ·rw [decide_eq_true (congrArg V.str hX)]
       refine iteT ?_
       refine ⟨_,rfl,_,rfl,_,rfl,_,_,_,_,rfl,rfl,SqL.of (sz _ _ hta),by rw [eix]; exact zat eta,qta,_,rfl,dga,rfl,?_⟩
       rw [pa (.inr hX),hva]
       rfl
      ·rw [decide_eq_false (fun z=>hX (by injection z))]
       refine iteF ?_
       refine ⟨_,rfl,_,rfl,_,rfl,_,_,_,_,rfl,rfl,SqL.of (sz _ _ htb),by rw [eix]; exact zat etb,qtb,_,rfl,dgb,rfl,?_⟩
       rw [pb hf hX,hvb]
       rfl
    rintro σ' H' ⟨rfl,rfl⟩
    have efind:((goesOf ks (aheadOf ((fs i:Nat):Int))).take (u + 1)).find? P=(((goesOf ks (aheadOf ((fs i:Nat):Int))).take u).find? P).or (if P gp=true then some gp else none):=by
     rw [etk,List.find?_append]
     congr 1
     cases h:P gp <;> simp [List.find?,h]
    refine ⟨_,rfl,_,rfl,?_⟩
    cases hP:P gp with
    | false =>
     rw [hP,if_neg A9,Option.or_none] at efind
     refine iteF ?_
     exact ⟨sz,hrz,lrz,hqz,gz,gl,_,_,_,rfl,hgz,by omega,by rw [efind]; exact frz⟩
    | true =>
     rw [hP,if_pos rfl] at efind
     refine iteT ?_
     refine ⟨_,rfl,.inl ⟨rfl,_,SqL.of hgz⟩,_,rfl,_,rfl,bigr rfl,fun tt ntt => ?_⟩
     have s3:Same H' (upd H' tt (.tup [.str gp.1,.ref t1])):=Same.new ntt
     have htt:upd H' tt (.tup [.str gp.1,.ref t1]) tt=some (.tup [.str gp.1,.ref t1]):=zab
     have hg3:=s3 _ _ hgz
     have hr3:=s3 _ _ hrz
     have hq3:=s3 _ _ hqz
     have e33:=s3 _ _ e3
     have lr3:LaysR (upd H' tt (.tup [.str gp.1,.ref t1])) wl nm i:=lrz.mono fun _ _ e=>s3 _ _ e
     have gz3:=gz.mono fun _ _ z=>s3 _ _ z
     have fr3:FirstR (upd H' tt (.tup [.str gp.1,.ref t1])) gl (((goesOf ks (aheadOf ((fs i:Nat):Int))).take u).find? P):=by
      cases ho:((goesOf ks (aheadOf ((fs i:Nat):Int))).take u).find? P with
      | none=>rw [ho] at frz; exact frz
      | some p =>
       rw [ho] at frz
       obtain ⟨q2,t2,a1,a2,a3⟩:=frz
       exact ⟨q2,t2,a1,s3 _ _ a2,s3 _ _ a3⟩
     have sz3:=sz.trans s3
     generalize upd H' tt (.tup [.str gp.1,.ref t1])=H3 at sz3 htt hg3 hr3 hq3 e33 lr3 gz3 fr3 ⊢
     refine ⟨gd,_,_,rfl,rfl,hg3,Ae (by omega:gl.length < 1000) zaK,?_⟩
     have kt:∀ qa ys,H3 qa=some (.tup ys)->upd H3 gd (.lst (gl ++ [.ref tt])) qa=some (.tup ys):=fun qa ys z=>by rw [zaf (fun z2=>by rw [z2,hg3] at z; cases z)]; exact z
     refine ⟨sz3.put ngd0,by rw [zaf hgr]; exact hr3,lr3.mono kt,by rw [zaf hqvg]; exact hq3,gz3.mono kt,_,_,_,_,rfl,zab,by rw [Ag,Bd]; omega,?_⟩
     rw [efind]
     cases ho:((goesOf ks (aheadOf ((fs i:Nat):Int))).take u).find? P with
     | none =>
      rw [ho] at fr3
      have:gl = []:=fr3
      exact ⟨tt,t1,by rw [this]; rfl,kt _ _ htt,kt _ _ e33⟩
     | some p =>
      rw [ho] at fr3
      obtain ⟨q2,t2,a1,a2,a3⟩:=fr3
      exact ⟨q2,t2,by rw [C4 (Ao.mp a1).1]; exact a1,kt _ _ a2,kt _ _ a3⟩
   ·rintro σ H2 ⟨sz,hr2,lr2,hqz,gz,gl,x10',x11',x12',rfl,e2,hlz,frz⟩
    have hfind:(goesOf ks (aheadOf ((fs i:Nat):Int))).find? P=some (nm i,aheadOf ((fs (i + 1):Nat):Int)):=goes_find gc hs1 (gst i hi)
    rw [hgl,C8,hfind] at frz
    obtain ⟨q1,t1,a1,e5,e6⟩:=frz
    have at_0:atI gl 0=some (.ref q1):=zat (j:=0) a1
    dsimp only at e5 e6
    refine ⟨fun σ' H'=>Same H H'/\H' gd=some (.lst gl)/\H' q1=some (.tup [.str (nm i),.ref t1])/\H' t1=some (.tup ((aheadOf ((fs (i + 1):Nat):Int)).map V.int))/\∃ wl',H' r=some (.lst wl')/\LaysR H' wl' nm (i + 1) /\ σ' = [some (.ref g),some (.ref ta),some (.ref tb),some (.str x),some (.ref r),some (.ref qa),some (.bl (fb i)),some (.int (i:Nat)),some (.int (((wa.length:Nat):Int) - 2 - ((i:Nat):Int))),some (.ref gd),x10',x11',x12'],?_,?_⟩
    ·refine ⟨_,rfl,_,_,_,_,rfl,rfl,SqL.of e2,at_0,_,_,_,_,rfl,rfl,SqT.of e5,at0,rfl,_,rfl,?_⟩
     by_cases hz:nm i=A0 ""
     ·rw [decide_eq_true (by rw [hz])]
      refine iteF ?_
      exact ⟨sz,e2,e5,e6,wl,hr2,lr2.skip hz,rfl⟩
     ·rw [decide_eq_false (fun z=>hz (by injection z))]
      refine iteT ?_
      refine ⟨_,rfl,.inl ⟨rfl,_,SqL.of hr2⟩,_,rfl,_,rfl,_,_,_,_,rfl,rfl,SqL.of e2,at_0,_,_,_,_,rfl,rfl,SqT.of e5,at0,bigr rfl,fun tt ntt => ?_⟩
      have s3:Same H2 (upd H2 tt (.tup [.int ((i:Nat):Int),.str (nm i)])):=Same.new ntt
      have htt:upd H2 tt (.tup [.int ((i:Nat):Int),.str (nm i)]) tt=some (.tup [.int ((i:Nat):Int),.str (nm i)]):=zab
      have hr3:=s3 _ _ hr2
      have e23:=s3 _ _ e2
      have e53:=s3 _ _ e5
      have e63:=s3 _ _ e6
      have lr3:LaysR (upd H2 tt (.tup [.int ((i:Nat):Int),.str (nm i)])) wl nm i:=lr2.mono fun _ _ e=>s3 _ _ e
      generalize upd H2 tt (.tup [.int ((i:Nat):Int),.str (nm i)])=H3 at s3 htt hr3 e23 e53 e63 lr3 ⊢
      refine ⟨r,_,_,rfl,rfl,hr3,Ae (by omega:wl.length < 1000) zaK,?_⟩
      have kt:∀ qa ys,H3 qa=some (.tup ys)->upd H3 r (.lst (wl ++ [.ref tt])) qa=some (.tup ys):=fun qa ys z=>by rw [zaf (fun z2=>by rw [z2,hr3] at z; cases z)]; exact z
      exact ⟨(sz.trans s3).put nr,by rw [zaf hgr.symm]; exact e23,kt _ _ e53,kt _ _ e63,_,zab,(lr3.mono kt).snoc hz (kt _ _ htt),rfl⟩
    rintro σ' H5 ⟨s5,d5,q5,t5,wl',hr5,lr5,rfl⟩
    refine ⟨fun σ' H'=>H'=H5 /\ σ' = [some (.ref g),some (.ref ta),some (.ref tb),some (.str x),some (.ref r),some (.ref qa),some (.bl (fb (i + 1))),some (.int (i:Nat)),some (.int (((wa.length:Nat):Int) - 2 - ((i:Nat):Int))),some (.ref gd),x10',x11',x12'],?_,?_⟩
    ·refine ⟨_,rfl,_,rfl,?_⟩
     cases hf:fb i with
     | true =>
      refine iteT ?_
      refine ⟨rfl,?_⟩
      rw [gsb i hi,hf]
      rfl
     | false =>
      refine iteF ?_
      refine ⟨_,rfl,_,_,_,_,rfl,rfl,SqL.of d5,at_0,_,_,_,_,rfl,rfl,SqT.of q5,at0,_,rfl,rfl,rfl,?_⟩
      rw [gsb i hi,hf,Pi]
      have:decide (V.str (nm i)=V.str x)=decide (nm i=x):=decide_eq_decide.mpr ⟨fun z=>by injection z,fun z=>by rw [z]⟩
      rw [<- this]
      rfl
    rintro σ' H' ⟨rfl,rfl⟩
    refine ⟨_,rfl,_,_,_,_,rfl,rfl,SqL.of d5,at_0,_,_,_,_,rfl,rfl,SqT.of q5,at1,?_⟩
    exact ⟨s5,wl',t1,_,_,_,_,_,_,rfl,hr5,lr5,t5⟩
  ·rintro σ Hx ⟨sx,wl,qa,x7,x8,x9,x10,x11,x12,rfl,hrx,lr,hqa⟩
   rw [zbj] at lr
   exact ⟨_,rfl,q r wl Hx sx hrx lr⟩
theorem errs_ok:∀ j,j < 15->Df (errName j)=true/\errName j≠A0 "" := by decide +kernel
theorem srt_of {ks kz:Combs} (nd:(ks.map (·.1)).Nodup) (pp:kz.Perm ks) (so:sortedS (kz.map (·.1))=true):srt ks=kz:=by
 have e:nmSort ks=kz.map (·.1):=zei ((zeZ ks).trans (pp.map (·.1)).symm) (zev ks) so
 unfold srt
 rw [e,zgE nd pp]
theorem lays_each2 {H:Hp} {ws:List V} {nm:Nat->Str} {n:Nat} (r:LaysR H ws nm n):∀ (i:Nat) x,ws[i]?=some x->∃ q a s,x = .ref q/\H q=some (.tup [.int a,.str s]):=fun i x h=>by
 obtain ⟨j,_,q,e1,e2⟩:=C7.rev r h
 exact ⟨q,_,_,e1,e2⟩
theorem goes_name {C:Combs} (hC:∀ c∈C,Df c.1=true) {a:List Int} {p:Str×List Int} (hp:p∈goesOf C a):Df p.1=true:=by
 unfold goesOf at hp
 split at hp
 ·rw [A7.mp hp]
  show Df (A0 "")=true
  decide +kernel
 ·obtain ⟨c,hc,rfl⟩:=Ah.mp hp
  exact hC c (B9.mp hc).1
theorem zfz (nm:Nat->Str):∀ l:List Nat,Eb (l.map (layD nm)) (l.map (layD nm))=true
 | []=>rfl
 | j :: l=>by
  have:=zfz nm l
  rw [Aq,Eb,this]
  simp [layD,D0,Eb]
theorem zdI (nm:Nat->Str):∀ l:List Nat,C0 (l.map (layD nm))<=1
 | []=>By _
 | j :: l=>by
  have:=zdI nm l
  rw [Aq,C0]
  have:Dm (layD nm j)=1:=by simp [layD,Dm,C0]
  omega
theorem zdc {nm:Nat->Str} {l:List Nat} (h:∀ j∈l,Df (nm j)=true):Do (.list (l.map (layD nm)))=true:=by
 have h1:=zfy h
 have h2:=zdI nm l
 have h3:Dm (.list (l.map (layD nm)))<=64:=by rw [Dm]; omega
 have h4:D4 (.list (l.map (layD nm)))=true:=by simp [D4,h1]
 unfold Do
 rw [h4,decide_eq_true h3]
 rfl
theorem one_kind {H0 He:Hp} {t q p:A3} (s:Same H0 He) (nt:He t=none) (nq:upd He t (.lst [.int 0]) q=none) (np:upd (upd He t (.lst [.int 0])) q (.lst [.str (A0 "a"),.ref t]) p=none) :
  Same H0 (upd (upd (upd He t (.lst [.int 0])) q (.lst [.str (A0 "a"),.ref t])) p (.lst [.ref q]))/\Drawn (fun _=>True) (upd (upd (upd He t (.lst [.int 0])) q (.lst [.str (A0 "a"),.ref t])) p (.lst [.ref q])) [.ref q] [(A0 "a",[0])]:=by
 have s2:=Same.new (o := .lst [.str (A0 "a"),.ref t]) nq
 have s3:=Same.new (o := .lst [.ref q]) np
 refine ⟨s.trans ((Same.new nt).trans (s2.trans s3)),⟨⟨q,t,rfl,s3 _ _ zab,s3 _ _ (s2 _ _ zab),trivial,trivial⟩,trivial⟩,by simp,fun k hk => ?_⟩
 rw [A7.mp hk]
 exact ⟨by decide +kernel,fun i=>i == 0,by decide,rfl⟩
theorem zeL {H H':Hp} {W:Nat->Nat->Nat} {L:List Nat} {ws:List V} {n:Nat} (e:EndsR H W L ws n) (s:Same H H'):EndsR H' W L ws n:=⟨e.1,fun k hk=>by
 obtain ⟨q1,e1,e2⟩:=e.2 k hk
 exact ⟨q1,e1,e2.same fun u hu=>s _ _ hu⟩⟩
theorem lays_eqvL (nm:Nat->Str) (l:List Nat):D0 (.list (l.map (layD nm))) (.list (l.map (layD nm)))=true:=by simp [D0,zfz]
theorem zgQ:FnScope ["_law_script","_law_kinds","_law_graph_here","_law_length_here","_law_word_here","_law_table","_law_strict","_law_found"] ["_law_script"] (defScope s_law):=⟨rfl,rfl,rfl,by decide +kernel,rfl,by decide +kernel,by decide +kernel⟩
theorem ok_law {ea:Nat->A3} {ce:A2} {C:A3} (D:DefAt K mg "law" s_law) (T:Bn mg) (E14:EJ K ea ce 14) (C_at:Callee P w K mg base "_law_at" 1 ["_law_script","_law_k"] (sp_at K)) (C_combs:Callee P w K mg base "_law_combs" 2 ["_law_script"] (sp_combs K)) (C_book:Callee P w K mg base "_law_book" 4 ["_law_kinds"] (sp_mkbook C))
  (C_asked:Callee P w K mg base "_law_asked" 6 ["_law_book_here","_law_word_here","_law_length_here"] (spTryF3 K ea ce (sp_ffillw ea C))) (C_graph:Callee P w K mg base "_law_graph" 3 ["_law_kinds","_law_begin"] sp_graph) (C_fits:Callee P w K mg base "_law_fits" 2 ["_law_graph_here"] sp_fits) (C_length:Callee P w K mg base "_law_length" 1 ["_law_cell","_law_fits_here"] sp_length) (C_ends:Callee P w K mg base "_law_ends" 1 ["_law_graph_here","_law_length_here"] sp_ends) (C_endswith:Callee P w K mg base "_law_endswith" 1 ["_law_graph_here","_law_table","_law_wanted"] sp_endw) (C_layings:Callee P w K mg base "_law_layings" 3 ["_law_found"] sp_layings) (C_covers:Callee P w K mg base "_law_covers" 2 ["_law_kinds","_law_layings_here","_law_length_here"] sp_covers) (C_due:Callee P w K mg base "_law_due" 1 ["_law_graph_here","_law_table","_law_strict","_law_wanted"] sp_due24) (C_refused:Callee P w K mg base "_law_refused" 2 ["_law_found","_law_due_here"] (sp_refused K)):Callee P w K mg base "law" 7 ["_law_script"] (spLaw K):=by
 refine D.callee zgQ (fun _ _ _ _ _ _=>ln1 fun _=>rfl) (fun vs H Q E h => ?_) (fun f cdv A outer s H vs Q E hr h => ?_)
 ·obtain ⟨a,ns,rfl,_⟩:=h
  rfl
 ·obtain ⟨a,ns,rfl,hS,hl,q⟩:=h
  have S:=zgQ
  have hu:=zcm hr
  refine ⟨_,zae (zak (i:=1) S.nd rfl (As rfl) (zaR C_combs (hr.mono (by decide)) rfl (zaa (pv 0) zac)))
  (zbC (zaL (zas (zfv hr.units) (pv 1) (zaO (zac)) (zax _))
   (zah (zak (i:=1) S.nd rfl (As rfl) (zaO (zaa (zaO (zaa (zaw) (zaa (zaO (zaa (zad) zac)) zac))) zac))))
   (zap))
  (zae (zak (i:=2) S.nd rfl (As rfl) (zaR C_graph (hr.mono (by decide)) rfl (zaa (zai (call_sortedK hr.units) rfl T.n_sorted Jy (zaa (pv 1) zac)) (zaa (za9 (zac)) zac))))
  (zae (zak (i:=3) S.nd rfl (As rfl) (zaR C_length (hr.mono (by decide)) rfl (zaa (zaR C_at (hr.mono (by decide)) rfl (zaa (pv 0) (zaa (zad) zac))) (zaa (zay za6 (zaR C_fits (hr.mono (by decide)) rfl (zaa (pv 2) zac)) (zad) (fun _ _=>rfl)) zac))))
  (zae (zak (i:=4) S.nd rfl (As rfl) (zay zaz (zay zaz (pv 1) (zau za8 (zaR C_at (hr.mono (by decide)) rfl (zaa (pv 0) (zaa (zad) zac))) (zai zar rfl T.n_len Bu (zaa (pv 1) zac))) (fun _ _=>rfl)) (zad) (fun _ _=>rfl)))
  (zae (zak (i:=5) S.nd rfl (As rfl) (zaR C_ends (hr.mono (by decide)) rfl (zaa (pv 2) (zaa (pv 3) zac))))
  (zae (zak (i:=6) S.nd rfl (As rfl) (zaR C_endswith (hr.mono (by decide)) rfl (zaa (pv 2) (zaa (pv 5) (zaa (pv 4) zac)))))
  (zae (zak (i:=7) S.nd rfl (As rfl) (zaR C_asked (hr.mono (by decide)) rfl (zaa (zaR C_book (hr.mono (by decide)) rfl (zaa (pv 1) zac)) (zaa (pv 4) (zaa (pv 3) zac)))))
  (zae (zaL (zcH (zc3 hu (za9 (zac)) (zay zaz (pv 6) (pv 3) (fun _ _=>rfl))))
   (zah (zam (zaR C_refused (hr.mono (by decide)) rfl (zaa (pv 7) (zaa (zaw) zac)))))
   (zap))
  (zae (zaL (PW.pt (zeW (zas zer (zay za6 (pv 7) (zad) (fun _ _=>rfl)) (zaw) (zax _)) (zdD (zbQ (zbz (zaR C_layings (hr.mono (by decide)) rfl (zaa (zay za6 (pv 7) (zad) (fun _ _=>rfl)) zac)))))))
   (zah (zam (zbH)))
   (zap))
  (zae (zaL (zbQ (zbz (zaR C_covers (hr.mono (by decide)) rfl (zaa (pv 1) (zaa (zay za6 (pv 7) (zad) (fun _ _=>rfl)) (zaa (pv 3) zac))))))
   (zah (zam (zbH)))
   (zap))
  (zah (zam (zc2 (zfv hr.units) (zay za6 (pv 7) (zad) (fun _ _=>rfl)) (zaR C_due (hr.mono (by decide)) rfl (zaa (pv 2) (zaa (pv 5) (zaa (pv 6) (zaa (pv 4) zac))))) (zax _)))))))))))))),?_⟩
  refine ⟨_,rfl,a,ns,rfl,hS,fun pk0 ks0 ws0 H0 s0 npk0 hpk0 dr0 hk80 => ?_⟩
  refine ⟨fun σ Hx=>Same H0 Hx/\∃ pk ws ks,σ = [some (.ref a),some (.ref pk),none,none,none,none,none,none]/\Hx pk=some (.lst ws)/\Drawn (fun _=>True) Hx ws ks/\ks.length<=8/\0 < ks.length,?_,?_⟩
  ·refine ⟨_,rfl,bigr rfl,fun le nle => ?_⟩
   have se:Same H0 (upd H0 le (.lst [])):=Same.new nle
   refine ⟨kindsD ks0,.list [],.lst (SqL.of (se _ _ hpk0)) (zeA (dr0.same se).rows),.lst (SqL.of zab) .nil,kinds_shaped (fun k hk=>(dr0.good k hk).1),nil_shaped,_,rfl,?_⟩
   rw [if_neg A9,kinds_nil]
   refine ite2 (fun hz => ?_) (fun hz => ?_)
   ·refine ⟨bigr rfl,fun t1 nt1=>⟨bigr rfl,fun q1 nq1=>⟨bigr rfl,fun p1 np1 => ?_⟩⟩⟩
    have o1:=one_kind se nt1 nq1 np1
    exact ⟨o1.1,_,_,_,rfl,zab,o1.2,by decide,by decide⟩
   ·refine ⟨se,_,_,_,rfl,se _ _ hpk0,dr0.same se,hk80,?_⟩
    cases ks0 with
    | nil=>exact absurd rfl hz
    | cons k l=>exact Nat.succ_pos _
  rintro σ H1 ⟨s01,pk,ws,ks,rfl,hpk,dr,hk8,hk0⟩
  have s1:=s0.trans s01
  have gc:GC ks:=fun c hc=>(dr.good c hc).2
  have pm:=zfg dr.nd
  have gcs:GC (srt ks):=fun c hc=>gc c (pm.mem_iff.mp hc)
  have hs8:(srt ks).length<=8:=by rw [pm.length_eq]; exact hk8
  have nok:∀ c∈srt ks,Df c.1=true:=fun c hc=>name_ok (dr.good c (pm.mem_iff.mp hc)).1
  have ne:∀ c∈srt ks,c.1≠A0 "" := fun c hc z=>by
   have:=(dr.good c (pm.mem_iff.mp hc)).1
   rw [z] at this
   exact absurd this (by decide +kernel)
  have nds:((srt ks).map (·.1)).Nodup:=(pm.map _).nodup_iff.mpr dr.nd
  refine ⟨_,rfl,pk,ws,ks,_,rfl,hpk,dr.rows,dr.nd,by omega,fun pz wz kz npz kk pp so => ?_⟩
  have ekz:=srt_of dr.nd pp so
  subst ekz
  have s5:Same H1 (upd H1 pz (.lst wz)):=Same.new npz
  have hpz:upd H1 pz (.lst wz) pz=some (.lst wz):=zab
  generalize upd H1 pz (.lst wz)=H5 at s5 hpz ⊢
  refine ⟨bigr rfl,fun te nte => ?_⟩
  have s6:Same H5 (upd H5 te (.tup [])):=Same.new nte
  refine ⟨pz,te,wz,srt ks,0,rfl,s6 _ _ hpz,kk.same (s5.trans s6),hs8,gcs,by decide,?_,fun g kvs L H7 s7 ng hg gr ndL cl h0L => ?_⟩
  ·rw [zab,show aheadOf ((0:Nat):Int) = [] by decide]; rfl
  have s17:=(s5.trans s6).trans s7
  have s07:=s1.trans s17
  refine ⟨_,rfl,a,ns,10,rfl,s07.seq hS,by decide,_,rfl,g,kvs,srt ks,L,rfl,hg,gr,ndL,cl,h0L,gcs,hs8,fun tf fl m i H9 s9 him hm hper htf hfl => ?_⟩
  refine ⟨_,_,_,_,rfl,rfl,SqT.of htf,at0,?_⟩
  refine ⟨_,fl,m,filB (srt ks),rfl,hfl,by omega,by omega,(filB_iff gcs).mpr (fil_zero _),fun n H10 s10 hn => ?_⟩
  have s710:=s9.trans s10
  have s110:=s17.trans s710
  have hwl:ws.length=ks.length:=dr.rows.length
  generalize hc:ns.getD (9:Int).toNat 0=c
  obtain ⟨iw,hiw,eiw⟩:∃ iw:Nat,iw < ws.length/\c % ((ws.length:Nat):Int)=(iw:Nat):=by
   have h1:=E8 c (show ((ws.length:Nat):Int)≠0 by omega)
   have h2:=Dq c (show (0:Int) < ((ws.length:Nat):Int) by omega)
   exact ⟨(c % ((ws.length:Nat):Int)).toNat,by omega,by omega⟩
  obtain ⟨kx,qx,tx,ekx,evx,hqx,htx,_⟩:=KindsL.getG (dr.same s110).rows (A6 hiw)
  have hkx:=B0 ekx
  have hsome:(cGet ks kx.1).isSome=true:=by
   rw [<- zec,Bv]
   exact ⟨kx,hkx,decide_eq_true rfl⟩
  refine ⟨_,rfl,_,rfl,a,ns,9,rfl,(s1.trans s110).seq hS,by decide,_,rfl,_,_,rfl,.inl (SqL.of (s110 _ _ hpk)),?_⟩
  rw [hc]
  refine ⟨_,_,rfl,rfl,by omega,_,_,_,_,rfl,rfl,SqL.of (s110 _ _ hpk),?_,_,_,_,_,rfl,rfl,SqL.of hqx,at0,?_⟩
  ·rw [eiw]
   refine zat (j:=iw) ?_
   rw [A6 hiw,evx]
  generalize kx.1=x at hsome ⊢
  refine ⟨_,rfl,_,rfl,g,kvs,srt ks,L,n,rfl,s710 _ _ hg,gr.same s710,ndL,cl,h0L,gcs,hs8,by omega,fun ta wa H11 s11 hta era hno => ?_⟩
  have s711:=s710.trans s11
  refine ⟨_,rfl,_,rfl,_,rfl,g,ta,x,kvs,srt ks,L,n,wa,rfl,s711 _ _ hg,gr.same s711,ndL,cl,h0L,gcs,hs8,by omega,hta,era,fun k q1 e z => ?_,fun tb wb H12 s12 htb erb => ?_⟩
  ·have:=hno k q1 e
   rw [z,s710 _ _ hg] at this
   cases this
  have s712:=s711.trans s12
  have s112:=s17.trans s712
  refine ⟨_,rfl,pk,ws,ks,rfl,s112 _ _ hpk,dr.same s112,hk8,fun b l G past H2 s2 nb nl nG B hpl => ?_⟩
  have h0:0<=((n:Nat):Int)/\((n:Nat):Int)<=200:=⟨by omega,by omega⟩
  have ek:((n:Nat):Int).toNat=n:=by omega
  obtain ⟨qt,et,dvs,ds,hqt,hdk,hdL,hdW⟩:=erb.2 n (by omega)
  have ltd:∀ s∈ds,s < 128:=fun s hs=>cl.1 s (hdL s hs)
  have hk0:=zbU hdk ltd (show 0 < 128 by decide)
  have hkt:∀ {Hx:Hp} {te:A3},upd Hx te (.tup []) te=some (.tup ((akey 0).map kV)):=fun {Hx te}=>by
   rw [zab]
   unfold akey
   rw [kI_V,show aheadOf ((0:Nat):Int) = [] by decide]
   rfl
  refine ⟨_,rfl,_,rfl,.ref b,.str x,.int ((n:Nat):Int),rfl,b,l,G,ks,past,x,_,rfl,B,?_⟩
  rw [if_pos hsome,if_pos h0,ek]
  by_cases hw:0 < Ww (srt ks) x n 0
  case neg =>
   rw [if_neg hw]
   intro H' s'
   refine zg4 E14 fun fd H3 s3 an => ?_
   obtain ⟨le,hfd,hle⟩:=an
   have s23:=(s2.trans s').trans s3
   refine ⟨bigr rfl,fun te nte => ?_⟩
   have s4:Same H3 (upd H3 te (.tup [])):=Same.new nte
   have s24:=s23.trans s4
   refine ⟨_,rfl,_,rfl,_,_,_,_,rfl,rfl,SqL.of (s24 _ _ htb),zat et,qt,_,rfl,DGet.t (s24 _ _ hqt) hkt,_,rfl,?_⟩
   have hno:valV dvs (akey 0)=none:=by
    cases e:valV dvs (akey 0) with
    | none=>rfl
    | some v =>
     rw [e] at hk0
     exact absurd ((hdW 0 h0L).mp (of_decide_eq_true hk0.symm)) hw
   rw [hno]
   exact iteT ⟨_,rfl,fd,le,errName 14,rfl,(errs_ok 14 (by decide)).1,s4 _ _ hfd,s4 _ _ hle,fun H4 _=>q H4⟩
  rw [if_pos hw]
  intro r1 wl1 H3 s3 nr1 hr1 lr1
  refine ⟨bigr rfl,fun fd nfd => ?_⟩
  have s4:Same H3 (upd H3 fd (.tup [.str (A0 "told"),.ref r1])):=Same.new nfd
  have hfd:upd H3 fd (.tup [.str (A0 "told"),.ref r1]) fd=some (.tup [.str (A0 "told"),.ref r1]):=zab
  generalize upd H3 fd (.tup [.str (A0 "told"),.ref r1])=H4 at s4 hfd ⊢
  refine ⟨bigr rfl,fun te nte => ?_⟩
  have sb:Same H4 (upd H4 te (.tup [])):=Same.new nte
  have hte:=hkt (Hx:=H4) (te:=te)
  generalize upd H4 te (.tup [])=Hb at sb hte ⊢
  have s3b:=s4.trans sb
  have s2b:=(s2.trans s3).trans s3b
  have hfdb:=sb _ _ hfd
  have hr1b:=s3b _ _ hr1
  have lr1b:LaysR Hb wl1 _ n:=lr1.mono fun _ _ e=>s3b _ _ e
  refine ⟨_,rfl,_,rfl,_,_,_,_,rfl,rfl,SqL.of (s2b _ _ htb),zat et,qt,_,rfl,DGet.t (s2b _ _ hqt) hte,_,rfl,?_⟩
  obtain ⟨vv,hvv⟩:∃ vv,valV dvs (akey 0)=some vv:=D5.mp (by rw [hk0]; exact decide_eq_true ((hdW 0 h0L).mpr hw))
  rw [hvv]
  refine iteF ?_
  refine ⟨_,rfl,_,_,_,_,rfl,rfl,SqT.of hfdb,at0,rfl,_,rfl,?_⟩
  refine iteF ?_
  refine ⟨_,rfl,_,_,_,_,rfl,rfl,SqT.of hfdb,at1,r1,wl1,rfl,hr1b,lays_each2 lr1b,_,rfl,?_⟩
  refine iteF ?_
  obtain ⟨c1,c2⟩:=fw_cover gcs nds ne (zgK (srt ks) x) hw
  have s1b:=s112.trans s2b
  refine ⟨_,rfl,_,rfl,_,_,_,_,rfl,rfl,SqT.of hfdb,at1,_,rfl,pk,r1,n,ws,wl1,ks,laysOf (fnm (srt ks) x (Ww (srt ks) x) n) n,rfl,s1b _ _ hpk,(dr.same s1b).any,hr1b,lays_ly lr1b,by omega,lay_perm pm (fun x hx=>(zd8 c1 x hx).2),cover_perm pm nds c2,laysOf_up _ _,fun Hd sd => ?_⟩
  refine ⟨_,rfl,?_⟩
  refine iteF ?_
  have s12d:=s2b.trans sd
  have s7d:=s712.trans s12d
  refine ⟨_,rfl,_,_,_,_,rfl,rfl,SqT.of (sd _ _ hfdb),at1,_,rfl,_,rfl,_,rfl,_,rfl,g,ta,tb,x,kvs,srt ks,L,n,wa,wb,rfl,s7d _ _ hg,gr.same s7d,ndL,cl,h0L,gcs,hs8,(s12.trans s12d) _ _ hta,zeL era (s12.trans s12d),s12d _ _ htb,zeL erb s12d,hn,hw,fun r2 wl2 Hc sc hr2 lr2 => ?_⟩
  have lr1c:LaysR Hc wl1 _ n:=lr1b.mono fun _ _ e=>(sd.trans sc) _ _ e
  have hnm:∀ j∈laid (fnm (srt ks) x (Ww (srt ks) x) n) n,Df (fnm (srt ks) x (Ww (srt ks) x) n j)=true:=fun j hj=>by
   have hj:=B5.mp (B9.mp hj).1
   have sl:=zgK (srt ks) x
   have h1:=(zfP gcs sl hw j (by omega)).1
   have h2:=(zd6 gcs sl hw hj).2.2
   rw [<- zaV h1 gcs] at h2
   obtain ⟨p,hp,e⟩:=Ah.mp h2
   have:=goes_name nok hp
   injection e with e1 e2
   rwa [e1] at this
  refine ⟨_,_,.lst (SqL.of ((sd.trans sc) _ _ hr1b)) (zgl lr1c),.lst (SqL.of hr2) (zgl lr2),zdc hnm,zdc hnm,?_⟩
  rw [if_neg A9,lays_eqvL]
  exact q _
end
theorem walk {l:Kg} {q:Ap} {loose:List Str} {XP:(Str->Option A2)->Bx->Prop} {YP:Bb->Bx->Prop} {d:DefRec} {K:Rv->Am} (hn:l.most=some 63) (hdf:d.params.defaults = [])
  (hY:∀ (w:Bb) (h:Bx),YP w h->(K w.params).In h)
  (F:∀ (w:Bb) (mg:Str->Option A2) (fa:A3) (h:Bx),(K w.params).In h->h.Ns mainGlobals mg->mg d.name=some (.ref fa) ->
   ∃ fd:Ek,(∀ (s:A4) (u:A2),Ka s fd ⟨[u],[]⟩ [("_law_script",u)])/\∀ base:Bx,(K w.params).In base->base.Ns mainGlobals mg->FnOk l.prog w (K w.params) mg base CX0 7 fa fd ["_law_script"] (spLaw (K w.params))) :
  Of q loose XP YP l.row.toRowW d [] (fun f vs=>Nc f vs) :=
 L2.walk_of (n:=63) (k:=7) (x := "_law_script") (CX:=fun _=>CX0) (sp:=fun w=>spLaw (K w.params)) hn (by decide) hdf ⟨rfl,by decide,by decide⟩ hY F (fun _ _ a ns hl _ hS=>⟨a,ns,rfl,hS,hl,fun _=>rfl⟩) fun _ _ _ _ _ z=>z
theorem all {l:Kg} {w:Bb} {K:Am} {h:Bx} {mg:Str->Option A2} {fa:A3} (X:K.In h) (G:h.Ns mainGlobals mg) (hfa:mg "law" = some (.ref fa)) (T:Bn mg)
  (V_MOST_COMBS:∃ t,mg "MOST_COMBS" = some (.int 8 t))
  (V_MOST_NAME:∃ t,mg "MOST_NAME" = some (.int 6 t))
  (V_MOST_TOOTH:∃ t,mg "MOST_TOOTH" = some (.int 7 t))
  (V_MOST_DEEDS:∃ t,mg "MOST_DEEDS" = some (.int 300 t))
  (V_SHAPES:∃ t,mg "SHAPES" = some (.int 128 t))
  (V_MOST_FILLED:∃ t,mg "MOST_FILLED" = some (.int 200 t))
  {t_TOOTH_WORTH:A3} (G_TOOTH_WORTH:mg "TOOTH_WORTH" = some (.ref t_TOOTH_WORTH)) (TC_TOOTH_WORTH:tupChk K t_TOOTH_WORTH [1,2,4,8,16,32,64,128]=true)
  {C ce a0 a1 a2 a3 a4 a5 a6 a7 a8 a9 a10 a11 a12 a13 a14:A3}
  (R0:mg "BadName" = some (.ref a0))
  (R1:mg "BadTeeth" = some (.ref a1))
  (R2:mg "NameTaken" = some (.ref a2))
  (R3:mg "BookFull" = some (.ref a3))
  (R4:mg "NoComb" = some (.ref a4))
  (R5:mg "BadTooth" = some (.ref a5))
  (R6:mg "ToothThere" = some (.ref a6))
  (R7:mg "FirstTooth" = some (.ref a7))
  (R8:mg "ToothMissing" = some (.ref a8))
  (R9:mg "DeedsFull" = some (.ref a9))
  (R10:mg "NothingDone" = some (.ref a10))
  (R11:mg "BadShape" = some (.ref a11))
  (R12:mg "BadPlace" = some (.ref a12))
  (R13:mg "BadLength" = some (.ref a13))
  (R14:mg "NoFilling" = some (.ref a14))
  (RCE:mg "CombError" = some (.ref ce)) (HCHK:errChk K [a0,a1,a2,a3,a4,a5,a6,a7,a8,a9,a10,a11,a12,a13,a14] ce [0,1,2,3,4,9,11,13,14]=true)
  (INIT:InitAt K mg C "Book" "Book.__init__" s_Book___init__) (BCHK:bookChk K C=true)
  (N_put:MethAt K C "Book" "put" s_Book_put)
  (N_names:MethAt K C "Book" "names" s_Book_names)
  (N_teeth:MethAt K C "Book" "teeth" s_Book_teeth)
  (N_check_comb:MethAt K C "Book" "check_comb" s_Book_check_comb)
  (N_set_comb:MethAt K C "Book" "set_comb" s_Book_set_comb)
  (N_do_deed:MethAt K C "Book" "do_deed" s_Book_do_deed)
  (D_shape_steps:DefAt K mg "shape_steps" s_shape_steps)
  (D_teeth_worth:DefAt K mg "teeth_worth" s_teeth_worth)
  (D_step_table:DefAt K mg "step_table" s_step_table)
  (D_first_filling_with:DefAt K mg "first_filling_with" s_first_filling_with)
  (D_check_length:DefAt K mg "check_length" s_check_length)
  (D_ways_to_close:DefAt K mg "ways_to_close" s_ways_to_close)
  (D_ways_to_lay:DefAt K mg "ways_to_lay" s_ways_to_lay)
  (D_ways_from:DefAt K mg "ways_from" s_ways_from)
  (D_ways_behind:DefAt K mg "ways_behind" s_ways_behind)
  (D_lay_first:DefAt K mg "lay_first" s_lay_first)
  (D_first_open_step:DefAt K mg "first_open_step" s_first_open_step)
  (D_is_name:DefAt K mg "is_name" s_is_name)
  (D_is_small_letter:DefAt K mg "is_small_letter" s_is_small_letter)
  (D_are_teeth:DefAt K mg "are_teeth" s_are_teeth)
  (D_at:DefAt K mg "_law_at" s_at)
  (D_mixed:DefAt K mg "_law_mixed" s_mixed)
  (D_word:DefAt K mg "_law_word" s_word)
  (D_spare:DefAt K mg "_law_spare" s_spare)
  (D_menu:DefAt K mg "_law_menu" s_menu)
  (D_combs:DefAt K mg "_law_combs" s_combs)
  (D_book:DefAt K mg "_law_book" s_book)
  (D_after:DefAt K mg "_law_after" s_after)
  (D_goes:DefAt K mg "_law_goes" s_goes)
  (D_graph:DefAt K mg "_law_graph" s_graph)
  (D_home:DefAt K mg "_law_home" s_home)
  (D_fits:DefAt K mg "_law_fits" s_fits)
  (D_length:DefAt K mg "_law_length" s_length)
  (D_ends:DefAt K mg "_law_ends" s_ends)
  (D_endswith:DefAt K mg "_law_endswith" s_endswith)
  (D_whole:DefAt K mg "_law_whole" s_whole)
  (D_laying:DefAt K mg "_law_laying" s_laying)
  (D_layings:DefAt K mg "_law_layings" s_layings)
  (D_teeth:DefAt K mg "_law_teeth" s_teeth)
  (D_covers:DefAt K mg "_law_covers" s_covers)
  (D_kind:DefAt K mg "_law_kind" s_kind)
  (D_refused:DefAt K mg "_law_refused" s_refused)
  (D_asked:DefAt K mg "_law_asked" s_asked)
  (D_due:DefAt K mg "_law_due" s_due)
  (D_law:DefAt K mg "law" s_law) :
  ∃ fd:Ek,(∀ (s:A4) (v:A2),Ka s fd ⟨[v],[]⟩ [("_law_script",v)])/\∀ base:Bx,K.In base->base.Ns mainGlobals mg->FnOk l.prog w K mg base CX0 7 fa fd ["_law_script"] (spLaw K):=by
 have BA:=book_of BCHK
 have E (j:Nat) (hj:j ∈ [0,1,2,3,4,9,11,13,14]) (h15:j < 15):=ej_of HCHK hj h15
 have E4:=E 4 (by decide) (by decide)
 refine D_law.entry hfa (fun _ _ _ _ _ _ v=>rfl) fun base => ?_
 have c_kind:=ok_kind (P:=l.prog) (w:=w) (base:=base) D_kind T (ea:=fun i => [a0,a1,a2,a3,a4,a5,a6,a7,a8,a9,a10,a11,a12,a13,a14].getD i 0) ⟨R0,R1,R2,R3,R4,R5,R6,R7,R8,R9,R10,R11,R12,R13,R14⟩
 have m_check:=ok_check (P:=l.prog) (w:=w) (base:=base) (ea:=fun i => [a0,a1,a2,a3,a4,a5,a6,a7,a8,a9,a10,a11,a12,a13,a14].getD i 0) N_check_comb T BA (E4.err R4)
 have m_do:=ok_do (P:=l.prog) (w:=w) (base:=base) (ea:=fun i => [a0,a1,a2,a3,a4,a5,a6,a7,a8,a9,a10,a11,a12,a13,a14].getD i 0) N_do_deed T BA V_MOST_DEEDS ((E 9 (by decide) (by decide)).err R9)
 have m_set:=ok_set (ea:=fun i => [a0,a1,a2,a3,a4,a5,a6,a7,a8,a9,a10,a11,a12,a13,a14].getD i 0) N_set_comb T BA m_do
 have m_put:=ok_put (ea:=fun i => [a0,a1,a2,a3,a4,a5,a6,a7,a8,a9,a10,a11,a12,a13,a14].getD i 0) N_put T BA V_MOST_COMBS ((E 0 (by decide) (by decide)).err R0) ((E 1 (by decide) (by decide)).err R1) ((E 2 (by decide) (by decide)).err R2) ((E 3 (by decide) (by decide)).err R3) (ok_name D_is_name T V_MOST_NAME (ok_small D_is_small_letter T)) (ok_teeth D_are_teeth T V_MOST_TOOTH) m_set
 have m_names:=ok_names (P:=l.prog) (w:=w) (base:=base) N_names T BA
 have m_teeth:=ok_bteeth N_teeth T BA m_check
 have c_at:=ok_at (P:=l.prog) (w:=w) (base:=base) D_at T
 have c_word:=ok_word (P:=l.prog) (w:=w) (base:=base) D_word T
 have c_combs:=ok_combs D_combs T c_at (ok_mixed D_mixed T) c_word (ok_spare D_spare T) (ok_menu D_menu T)
 have c_book:L2.Callee l.prog w K mg base "_law_book" 4 ["_law_kinds"] (sp_mkbook C):=by
  obtain ⟨fi,fdi,mk,fu⟩:=INIT.ex
  exact ok_mkbook D_book T BA ⟨fi,fdi,mk,ok_init fu T BA,INIT.m,fu.binds (fun _ _ _ _ _ _=>ln1 fun _=>rfl)⟩ m_put
 have f_steps:=ok_steps (ea:=fun i => [a0,a1,a2,a3,a4,a5,a6,a7,a8,a9,a10,a11,a12,a13,a14].getD i 0) D_shape_steps T BA V_SHAPES ((E 11 (by decide) (by decide)).err R11) (ok_worth D_teeth_worth T G_TOOTH_WORTH (tup_chk TC_TOOTH_WORTH)) m_names m_teeth
 have f_table:=ok_table D_step_table T V_SHAPES f_steps
 have c_whole:=ok_whole (P:=l.prog) (w:=w) (base:=base) D_whole T
 have c_laying:=ok_laying (P:=l.prog) (w:=w) (base:=base) D_laying T c_whole
 have f_bw:=ok_behindw (P:=l.prog) (w:=w) (base:=base) D_ways_behind T
 have c_close:=ok_close D_ways_to_close T (zgf D_ways_from T f_bw)
 have f_ffill:=ok_ffillw D_first_filling_with T BA m_check (ok_chk (ea:=fun i => [a0,a1,a2,a3,a4,a5,a6,a7,a8,a9,a10,a11,a12,a13,a14].getD i 0) D_check_length T V_MOST_FILLED ((E 13 (by decide) (by decide)).err R13)) f_table c_close (ok_layw D_ways_to_lay T (zgf D_ways_from T f_bw)) (ok_layf (ea:=fun i => [a0,a1,a2,a3,a4,a5,a6,a7,a8,a9,a10,a11,a12,a13,a14].getD i 0) D_lay_first T ((E 14 (by decide) (by decide)).err R14) (ok_open D_first_open_step T f_bw))
 exact ok_law D_law T (E 14 (by decide) (by decide)) c_at c_combs c_book (ok_tasked D_asked T RCE c_kind f_ffill) (ok_graph D_graph T (ok_goes D_goes T (ok_after D_after T))) (ok_fits D_fits T (ok_home D_home T)) (ok_length D_length T) (ok_ends D_ends T) (ok_endw D_endswith T) (ok_layings D_layings T c_laying) (ok_covers D_covers T (ok_lteeth D_teeth T)) (ok_due24 D_due T) (ok_refused D_refused T)
end K24
open PySem PySem.W PyProof.Rows
namespace PySem.W.Fast
def tw2282004480225441601:=True
def tw13340495058577471290:=True
def tw2102963129268237296:=True
def tw6071090070820429650:=True
def tw11645896558168884420:=True
def tw13845656155259867295:=True
def tw12570140130126775707:=True
def tw17327766321759604526:=True
def tw8556945088259803112:=True
def tw10186927917133051619:=True
def tw10035995614350564818:=True
def tw415827966411665958:=True
def tw13146922257987372928:=True
def tw14016197673379900463:=True
def tw3678302474127386979:=True
def tw13613006860101923003:=True
def tw10844623218454460352:=True
def tw1985895161166328921:=True
def tw7319133916380354986:=True
def tw14591495392976104291:=True
def tw9917100742974757553:=True
def tw7630577923990083983:=True
def tw7215665629917175246:=True
def tw6250413505920946402:=True
def tw8849648492736832979:=True
def tw15461529948416372027:=True
def tw11888874397985697428:=True
def tw9192999984651219948:=True
def tw6570510273624564765:=True
def tw3383685705609050017:=True
def tw1107737496872803814:=True
def tw9449549032966929503:=True
def tw14235720504203618631:=True
def tw14574179132824491262:=True
def tw10858172384832382357:=True
def tw1398517422577337112:=True
def tw1336091571992843642:=True
def tw8145680554722686514:=True
def tw14044196453895703811:=True
def tw3913202676416004019:=True
def tw7724452380082112812:=True
def tw1548087199257792223:=True
def tw16461926332800748273:=True
def tw1462853889147926813:=True
def tw9609146379091582897:=True
def tw4762528644726239217:=True
def tw14859343947088602509:=True
def tw12945088998652442129:=True
def tw3024973471550322985:=True
def tw5470076658642703816:=True
def tw1974300674249729145:=True
def tw3275181583071019300:=True
def tw3995631742987451081:=True
def tw9615798243974514506:=True
def tw3480827782751411774:=True
def tw15027494441904394910:=True
def tw5275352671793607415:=True
def tw10983089209126131769:=True
def tw14642095337822883412:=True
def tw4982349333915552813:=True
def tw16930352319533165028:=True
def tw3247649789667985867:=True
def tw10464024897844665892:=True
def tw13185709307756433647:=True
def tw9619220904943224815:=True
def tw12002760519487928572:=True
def tw14807946183731873567:=True
def tw10148669695340371484:=True
def tw13698947198061751581:=True
def tw13392230813202260158:=True
def tw232754259429751737:=True
def tw303230762428487551:=True
def tw6310626188707543918:=True
def tw6822399858509674447:=True
def tw9985347634864270968:=True
def tw9698631772061518547:=True
def tw10108721944848609177:=True
def tw10150822083739665652:=True
def tw11026075381310212046:=True
def tw4529550166360263823:=True
def tw18434207574167169142:=True
def tw13296699357788288231:=True
def tw13194019352264714222:=True
def tw2515005188124923852:=True
def tw16938175771145506129:=True
def tw11117736643064547946:=True
def tw5764628607477123553:=True
def tw17713570906315011982:=True
def tw12090429008856361181:=True
def tw8185910245287530402:=True
def tw9902429506299521391:=True
def tw5859938337734698807:=True
def tw2421104473835648280:=True
def tw15607310295025168557:=True
def tw11868089526016388108:=True
def tw14252798366372910895:=True
def tw12093938119460504802:=True
def tw100829425786744629:=True
def tw3737809231677758082:=True
def tw17690390795924670182:=True
def tw7819953384577313567:=True
def tw8503149458142095051:=True
def tw17558351309850519444:=True
def tw16759988243086838134:=True
def tw13079484344265693780:=True
def tw6807826911740334687:=True
def tw2698341213168231948:=True
def tw11440828026836593489:=True
def tw1869125971503022483:=True
def tw16127822781814507889:=True
def tw4274039944335754444:=True
def tw2324894239222479587:=True
def tw10874523646183593686:=True
def tw11992164777132348837:=True
def tw2799279805355459620:=True
def tw8002788730026083492:=True
def tw5671822142322195809:=True
def tw11950057929251385497:=True
def tw14619299112375024643:=True
def tw5121891575946484229:=True
def tw172181886203655364:=True
def tw10885856778869437516:=True
def tw7350740710330998148:=True
def tw662576170084877441:=True
def tw14439690192727516634:=True
def tw3335433706066714273:=True
def tw3666757139771468127:=True
def tw12337555373601862333:=True
def tw18375258815766208480:=True
def tw2224922440008085847:=True
def tw13433752801612217536:=True
def tw12056042774634759907:=True
def tw5122435908744114878:=True
def tw5340815702852862869:=True
def tw13233418187902031925:=True
def tw9713117570483148900:=True
def tw15172231982077566931:=True
def tw14348990967137307215:=True
def tw7836422711069782278:=True
def tw3968860044476138056:=True
def tw2532308834692972495:=True
def tw18167914125282841436:=True
def tw2119426298278563078:=True
def tw15010024580789388732:=True
def tw4073786894600817828:=True
def tw17978641005856307081:=True
def tw12787481212208144412:=True
def tw10494706508657626928:=True
def tw2748649198672289359:=True
def tw11539620613549012172:=True
def tw16933223548249763421:=True
def tw15478386938042308160:=True
def tw9499024336232929114:=True
def tw6471163899543383151:=True
def tw2372057388522399237:=True
def tw15958562199763799222:=True
def tw10833261418053525354:=True
def tw4576690138341252195:=True
def tw15355820911571733417:=True
def tw6647300790242031949:=True
def tw17653912644311944401:=True
def tw4899720888239318070:=True
def tw17535651112017404510:=True
def tw14532392718302045344:=True
def tw7319596948913759669:=True
def tw2306256020504365002:=True
def tw1857978715834270179:=True
def tw6949886096139346732:=True
def tw5399652492756848658:=True
def tw4174636587772809527:=True
def tw2854829566790525973:=True
def tw16396980286279166673:=True
def tw12033543838595619887:=True
def tw7875631573516492411:=True
def tw11161494840684162564:=True
def tw10014547009794871982:=True
def tw1083465737992295273:=True
def tw11576112807281554184:=True
def tw11392879179136046652:=True
def tw748141052137872717:=True
def tw11599638722005136996:=True
def tw15985185294730848283:=True
def tw16695698044541360314:=True
def tw1257881626367384285:=True
def tw1736656897574657449:=True
def tw5915390517513439331:=True
def tw553290468007222398:=True
def tw3173826547511545065:=True
def tw12936836859538090317:=True
def tw11763723119646560375:=True
def tw2122474680473237791:=True
def tw7571984804457309174:=True
def tw10458626120320135919:=True
def tw15910965759535032700:=True
def tw921836696303687507:=True
def tw3312132148698237806:=True
def tw3059581803182485497:=True
def tw17978730752465449028:=True
def tw299279063520684503:=True
def tw15928658814349160206:=True
def tw18266329031938973376:=True
def tw8448774667641098208:=True
def tw7740975473510518171:=True
def tw6084560180659137637:=True
def tw13201713451911081489:=True
def tw12331958251616977951:=True
def tw10911757014851362926:=True
def tw9118113607897323969:=True
def tw7330033823559219194:=True
def tw8207930848300167848:=True
def tw17009289597146057432:=True
def tw16009285606115075997:=True
def tw17955208174897904039:=True
def tw16084279906571160807:=True
def tw15925425300560404288:=True
def tw17027630349482794673:=True
def tw3002403057571605519:=True
def tw18264907792882201255:=True
def tw11076974185518965287:=True
def tw17783125649224102935:=True
def tw3608041333265118143:=True
def tw11682790049115030285:=True
def tw14055453910083362234:=True
def tw4607618236210620114:=True
def tw16297270904764555983:=True
def tw16118203970584997771:=True
def tw8304167239128787548:=True
def tw2007901800346762536:=True
def tw9160418019010083007:=True
def tw13770195059068516596:=True
def tw11810203079687109784:=True
def tw8783359543441768918:=True
def tw14472730184135536964:=True
def tw11804110623604694700:=True
def tw6471153114819471626:=True
def tw16422193450900154578:=True
def tw1693355692725343986:=True
def tw17673084277253466246:=True
def tw8145972822579756197:=True
def tw14920277089300295595:=True
def tw15584002397855040449:=True
def tw3580391413589700800:=True
def tw8584854221481915860:=True
def tw9562233028561103607:=True
def tw8249423829578455658:=True
def tw16440518755412641372:=True
def tw13002290201807812266:=True
def tw1713034473990379162:=True
def tw11895783394294991621:=True
def tw1850449179999601978:=True
def tw12622689665889212830:=True
def tw15386572078263801018:=True
def tw4190568862618702177:=True
def tw13077881527252055683:=True
def tw8248182305351794151:=True
def tw2097239600864916098:=True
def tw6527942087136795831:=True
def tw11684295258993407188:=True
def tw14813980262602617982:=True
def tw15221721770062567387:=True
def tw3012971959388809337:=True
def tw485921686863606665:=True
def tw11851480544758011043:=True
def tw6446014016384518973:=True
def tw8349447638341298702:=True
def tw10769416617358363865:=True
def tw4209853964992789445:=True
def tw2985298856940310396:=True
def tw13229622993319669376:=True
def tw6032739152843430429:=True
def tw10173060180950462931:=True
def tw13009724346012526551:=True
def tw18241551556716459159:=True
def tw16419575317632199412:=True
def tw12284343842423343534:=True
def tw15787422080977671994:=True
def tw6267324447418540092:=True
def tw3756664644929186864:=True
def tw9446365747583246983:=True
def tw3288811799007920486:=True
def tw10246402446655002131:=True
def tw14340847626827721278:=True
def tw13382878084387397793:=True
def tw14442129158539036934:=True
def tw14266958973676434757:=True
def tw5359516165939876775:=True
def tw14587022983542185787:=True
def tw9882187856553504376:=True
def tw1614544332133440258:=True
def tw2224330712164322296:=True
def tw11216367841619703971:=True
def tw2388691629941197697:=True
def tw8076629796731539452:=True
def tw3103583978585547109:=True
def tw6184913684804779722:=True
def tw3762693629375336008:=True
def tw1034140054933025666:=True
def tw3489042166157792500:=True
def tw8785837003780245338:=True
def tw3265548381485587681:=True
def tw6856741461427070992:=True
def tw15203251777389249931:=True
def tw5893821441484934548:=True
def tw18242202546792376123:=True
def tw18230578357396637771:=True
def tw17510223648578806221:=True
def tw5455834337929089781:=True
def tw13626137051712924640:=True
def tw16351775386972331470:=True
def tw12952690021210981353:=True
def tw5896205112397183998:=True
def tw16447092398886871621:=True
def tw10426998119695103769:=True
def tw7174188097748808890:=True
def tw14037395333599284810:=True
def tw11483247390575327066:=True
def tw2172016574092732231:=True
def tw15945534034024427979:=True
def tw14206831886767301588:=True
def tw438603298129732760:=True
def tw158528914486567022:=True
def tw12416494819199944986:=True
def tw16430593390405430393:=True
def tw2316454898843146260:=True
def tw4568980414789394479:=True
def tw2851211398294515458:=True
def tw3401329737868767229:=True
def tw14069873412025031657:=True
def tw12047957693443933500:=True
def tw13597682270030722595:=True
def tw12474354073374987769:=True
def tw1135189250289653697:=True
def tw4621742644678087797:=True
def tw646169249770421174:=True
def tw5240170198820452391:=True
def tw17375474140078822993:=True
def tw12709799450646844116:=True
def tw18206034120381204908:=True
def tw6624828836060682083:=True
def tw17293786601061008705:=True
def tw17990190209118005794:=True
def tw15313159090320898690:=True
def tw10938817865621082027:=True
def tw3377386002719873943:=True
def tw5375209075167296450:=True
def tw9961800998933512140:=True
def tw15812444039478452927:=True
end PySem.W.Fast
set_option maxRecDepth 100000 in
set_option maxHeartbeats 0 in
theorem PySem.Challenge.cw_combstrip_k24_filling_with_holds : PySem.Challenge.rw_combstrip_k24_filling_with.Holds := by
 w_on; o_law; k_head; (case hw=>w_witness2)
 k_fill
 refine K24.walk (l:=PySem.Challenge.rw_combstrip_k24_filling_with) rfl rfl (fun w h Y=>PySem.W.kIn_of Y) ?F
 case F =>
  intro w mg fa h KX G hmg
  refine' K24.all KX G hmg (L2.bn_mk KX G ?n0 ?n1 ?n2 ?n3 ?n4 ?n5 ?n6 ?n7 ?n8 ?n9 ?n10 ?n11 ?n12 ?n13 ?n14 ?n15 ?n16 ?n17 ?n18 ?n19 ?n20) ?v0 ?v1 ?v2 ?v3 ?v4 ?v5 ?zgt0 ?ztc0 ?r0 ?r1 ?r2 ?r3 ?r4 ?r5 ?r6 ?r7 ?r8 ?r9 ?r10 ?r11 ?r12 ?r13 ?r14 ?zrce ?zhc ?zini ?zbc ?m0 ?m1 ?m2 ?m3 ?m4 ?m5 ?d0 ?d1 ?d2 ?d3 ?d4 ?d5 ?d6 ?d7 ?d8 ?d9 ?d10 ?d11 ?d12 ?d13 ?d14 ?d15 ?d16 ?d17 ?d18 ?d19 ?d20 ?d21 ?d22 ?d23 ?d24 ?d25 ?d26 ?d27 ?d28 ?d29 ?d30 ?d31 ?d32 ?d33 ?d34 ?d35 ?d36 ?d37 ?d38
  (case n0=>k_is)
  (case n1=>k_is)
  (case n2=>k_is)
  (case n3=>k_is)
  (case n4=>k_is)
  (case n5=>k_is)
  (case n6=>k_is)
  (case n7=>k_is)
  (case n8=>k_is)
  (case n9=>k_is)
  (case n10=>k_is)
  (case n11=>k_is)
  (case n12=>k_is)
  (case n13=>k_is)
  (case n14=>k_is)
  (case n15=>k_is)
  (case n16=>k_is)
  (case n17=>k_is)
  (case n18=>k_is)
  (case n19=>k_is)
  (case n20=>k_is)
  (case v0=>refine' L2.int_mk KX G ?a; (case a=>k_is))
  (case v1=>refine' L2.int_mk KX G ?a; (case a=>k_is))
  (case v2=>refine' L2.int_mk KX G ?a; (case a=>k_is))
  (case v3=>refine' L2.int_mk KX G ?a; (case a=>k_is))
  (case v4=>refine' L2.int_mk KX G ?a; (case a=>k_is))
  (case v5=>refine' L2.int_mk KX G ?a; (case a=>k_is))
  (case zgt0=>refine' L2.ref_mk KX G ?a; (case a=>k_is))
  (case ztc0=>kernel_rfl)
  (case r0=>refine' L2.ref_mk KX G ?a; (case a=>k_is))
  (case r1=>refine' L2.ref_mk KX G ?a; (case a=>k_is))
  (case r2=>refine' L2.ref_mk KX G ?a; (case a=>k_is))
  (case r3=>refine' L2.ref_mk KX G ?a; (case a=>k_is))
  (case r4=>refine' L2.ref_mk KX G ?a; (case a=>k_is))
  (case r5=>refine' L2.ref_mk KX G ?a; (case a=>k_is))
  (case r6=>refine' L2.ref_mk KX G ?a; (case a=>k_is))
  (case r7=>refine' L2.ref_mk KX G ?a; (case a=>k_is))
  (case r8=>refine' L2.ref_mk KX G ?a; (case a=>k_is))
  (case r9=>refine' L2.ref_mk KX G ?a; (case a=>k_is))
  (case r10=>refine' L2.ref_mk KX G ?a; (case a=>k_is))
  (case r11=>refine' L2.ref_mk KX G ?a; (case a=>k_is))
  (case r12=>refine' L2.ref_mk KX G ?a; (case a=>k_is))
  (case r13=>refine' L2.ref_mk KX G ?a; (case a=>k_is))
  (case r14=>refine' L2.ref_mk KX G ?a; (case a=>k_is))
  (case zrce=>refine' L2.ref_mk KX G ?a; (case a=>k_is))
  (case zhc=>kernel_rfl)
  (case zini=>refine' L2.init_mk (L2.ref_mk KX G ?z) ?a ?l ?c ?k ?i ?k2 ?mk; (case z=>k_is); (case a=>k_is); (case l=>k_is); (case c=>k_is); (case k=>k_is); (case i=>k_is); (case k2=>k_is); (case mk=>k_is))
  (case zbc=>kernel_rfl)
  (case m0=>refine' L2.meth_mk ?a ?l ?c ?k ?i; (case a=>k_is); (case l=>k_is); (case c=>k_is); (case k=>k_is); (case i=>k_is))
  (case m1=>refine' L2.meth_mk ?a ?l ?c ?k ?i; (case a=>k_is); (case l=>k_is); (case c=>k_is); (case k=>k_is); (case i=>k_is))
  (case m2=>refine' L2.meth_mk ?a ?l ?c ?k ?i; (case a=>k_is); (case l=>k_is); (case c=>k_is); (case k=>k_is); (case i=>k_is))
  (case m3=>refine' L2.meth_mk ?a ?l ?c ?k ?i; (case a=>k_is); (case l=>k_is); (case c=>k_is); (case k=>k_is); (case i=>k_is))
  (case m4=>refine' L2.meth_mk ?a ?l ?c ?k ?i; (case a=>k_is); (case l=>k_is); (case c=>k_is); (case k=>k_is); (case i=>k_is))
  (case m5=>refine' L2.meth_mk ?a ?l ?c ?k ?i; (case a=>k_is); (case l=>k_is); (case c=>k_is); (case k=>k_is); (case i=>k_is))
  (case d0=>refine' L2.def_mk KX G ?a ?l ?c ?k; (case a=>k_is); (case l=>k_is); (case c=>k_is); (case k=>k_is))
  (case d1=>refine' L2.def_mk KX G ?a ?l ?c ?k; (case a=>k_is); (case l=>k_is); (case c=>k_is); (case k=>k_is))
  (case d2=>refine' L2.def_mk KX G ?a ?l ?c ?k; (case a=>k_is); (case l=>k_is); (case c=>k_is); (case k=>k_is))
  (case d3=>refine' L2.def_mk KX G ?a ?l ?c ?k; (case a=>k_is); (case l=>k_is); (case c=>k_is); (case k=>k_is))
  (case d4=>refine' L2.def_mk KX G ?a ?l ?c ?k; (case a=>k_is); (case l=>k_is); (case c=>k_is); (case k=>k_is))
  (case d5=>refine' L2.def_mk KX G ?a ?l ?c ?k; (case a=>k_is); (case l=>k_is); (case c=>k_is); (case k=>k_is))
  (case d6=>refine' L2.def_mk KX G ?a ?l ?c ?k; (case a=>k_is); (case l=>k_is); (case c=>k_is); (case k=>k_is))
  (case d7=>refine' L2.def_mk KX G ?a ?l ?c ?k; (case a=>k_is); (case l=>k_is); (case c=>k_is); (case k=>k_is))
  (case d8=>refine' L2.def_mk KX G ?a ?l ?c ?k; (case a=>k_is); (case l=>k_is); (case c=>k_is); (case k=>k_is))
  (case d9=>refine' L2.def_mk KX G ?a ?l ?c ?k; (case a=>k_is); (case l=>k_is); (case c=>k_is); (case k=>k_is))
  (case d10=>refine' L2.def_mk KX G ?a ?l ?c ?k; (case a=>k_is); (case l=>k_is); (case c=>k_is); (case k=>k_is))
  (case d11=>refine' L2.def_mk KX G ?a ?l ?c ?k; (case a=>k_is); (case l=>k_is); (case c=>k_is); (case k=>k_is))
  (case d12=>refine' L2.def_mk KX G ?a ?l ?c ?k; (case a=>k_is); (case l=>k_is); (case c=>k_is); (case k=>k_is))
  (case d13=>refine' L2.def_mk KX G ?a ?l ?c ?k; (case a=>k_is); (case l=>k_is); (case c=>k_is); (case k=>k_is))
  (case d14=>refine' L2.def_mk KX G ?a ?l ?c ?k; (case a=>k_is); (case l=>k_is); (case c=>k_is); (case k=>k_is))
  (case d15=>refine' L2.def_mk KX G ?a ?l ?c ?k; (case a=>k_is); (case l=>k_is); (case c=>k_is); (case k=>k_is))
  (case d16=>refine' L2.def_mk KX G ?a ?l ?c ?k; (case a=>k_is); (case l=>k_is); (case c=>k_is); (case k=>k_is))
  (case d17=>refine' L2.def_mk KX G ?a ?l ?c ?k; (case a=>k_is); (case l=>k_is); (case c=>k_is); (case k=>k_is))
  (case d18=>refine' L2.def_mk KX G ?a ?l ?c ?k; (case a=>k_is); (case l=>k_is); (case c=>k_is); (case k=>k_is))
  (case d19=>refine' L2.def_mk KX G ?a ?l ?c ?k; (case a=>k_is); (case l=>k_is); (case c=>k_is); (case k=>k_is))
  (case d20=>refine' L2.def_mk KX G ?a ?l ?c ?k; (case a=>k_is); (case l=>k_is); (case c=>k_is); (case k=>k_is))
  (case d21=>refine' L2.def_mk KX G ?a ?l ?c ?k; (case a=>k_is); (case l=>k_is); (case c=>k_is); (case k=>k_is))
  (case d22=>refine' L2.def_mk KX G ?a ?l ?c ?k; (case a=>k_is); (case l=>k_is); (case c=>k_is); (case k=>k_is))
  (case d23=>refine' L2.def_mk KX G ?a ?l ?c ?k; (case a=>k_is); (case l=>k_is); (case c=>k_is); (case k=>k_is))
  (case d24=>refine' L2.def_mk KX G ?a ?l ?c ?k; (case a=>k_is); (case l=>k_is); (case c=>k_is); (case k=>k_is))
  (case d25=>refine' L2.def_mk KX G ?a ?l ?c ?k; (case a=>k_is); (case l=>k_is); (case c=>k_is); (case k=>k_is))
  (case d26=>refine' L2.def_mk KX G ?a ?l ?c ?k; (case a=>k_is); (case l=>k_is); (case c=>k_is); (case k=>k_is))
  (case d27=>refine' L2.def_mk KX G ?a ?l ?c ?k; (case a=>k_is); (case l=>k_is); (case c=>k_is); (case k=>k_is))
  (case d28=>refine' L2.def_mk KX G ?a ?l ?c ?k; (case a=>k_is); (case l=>k_is); (case c=>k_is); (case k=>k_is))
  (case d29=>refine' L2.def_mk KX G ?a ?l ?c ?k; (case a=>k_is); (case l=>k_is); (case c=>k_is); (case k=>k_is))
  (case d30=>refine' L2.def_mk KX G ?a ?l ?c ?k; (case a=>k_is); (case l=>k_is); (case c=>k_is); (case k=>k_is))
  (case d31=>refine' L2.def_mk KX G ?a ?l ?c ?k; (case a=>k_is); (case l=>k_is); (case c=>k_is); (case k=>k_is))
  (case d32=>refine' L2.def_mk KX G ?a ?l ?c ?k; (case a=>k_is); (case l=>k_is); (case c=>k_is); (case k=>k_is))
  (case d33=>refine' L2.def_mk KX G ?a ?l ?c ?k; (case a=>k_is); (case l=>k_is); (case c=>k_is); (case k=>k_is))
  (case d34=>refine' L2.def_mk KX G ?a ?l ?c ?k; (case a=>k_is); (case l=>k_is); (case c=>k_is); (case k=>k_is))
  (case d35=>refine' L2.def_mk KX G ?a ?l ?c ?k; (case a=>k_is); (case l=>k_is); (case c=>k_is); (case k=>k_is))
  (case d36=>refine' L2.def_mk KX G ?a ?l ?c ?k; (case a=>k_is); (case l=>k_is); (case c=>k_is); (case k=>k_is))
  (case d37=>refine' L2.def_mk KX G ?a ?l ?c ?k; (case a=>k_is); (case l=>k_is); (case c=>k_is); (case k=>k_is))
  (case d38=>refine' L2.def_mk KX G ?a ?l ?c ?k; (case a=>k_is); (case l=>k_is); (case c=>k_is); (case k=>k_is))
