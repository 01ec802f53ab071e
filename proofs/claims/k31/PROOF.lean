import PyProof.Rows.All
import Wide.All
import OpenK.AllK
import Wide.FinOn
import Lean
import PyProof.EqAt
import PyProof.EqKinds
import PyProof.TupleCall
import PySem.Challenge.RW_combstrip_k31_whole_lengths
set_option Elab.async false
set_option linter.all false
set_option maxRecDepth 100000
set_option maxHeartbeats 40000000
open Array renaming length_toList->As,toList_append->B6,toList_push->Ce,getElem?_toList->Cf,toList_reverse->Cn,getElem_extract->Ge,perm_iff_toList_perm->Hb,getElem?_eq_some_iff->Hc,getElem?_eq_getElem->Hj,size_map->Jf,forIn_toList->Jy,append_assoc->Jz,toList_setIfInBounds->Le,toList->Mb,toArray_toList->N3,size_extract->Nl,toList_inj->Of
open Array.Perm renaming refl->Gf
open Bool renaming false_ne_true->Aa,eq_iff_iff->Ay,false_eq_true->Bo,and_eq_true->Bu,not_true->Ei,false_and->Eo,true_and->F6,not_eq_true'->G5,or_eq_true->L7,or_false->M1,or_true->Mi,and_eq_false_iff->N2,eq_false_iff->Oe,and_false->P7
open Classical renaming byContradiction->Dk,not_not->Sw
open Decidable renaming byContradiction->E7
open False renaming elim->Ci
open ForInStep renaming yield->Du,done->Su
open Iff renaming rfl->Oo
open Int renaming toNat_natCast->De,le_refl->Dg,zero_add->Ex,emod_lt_of_pos->Ey,emod_nonneg->Fq,eq_ofNat_of_zero_le->Fv,fdiv_eq_ediv_of_nonneg->Lp,le_trans->N0,mul_one->Nk
open List renaming length_map->A4,mem_singleton->A6,mem_map->A7,getElem?_eq_getElem->A9,mem_cons_of_mem->Ac,getElem?_map->Ad,range->Af,length_append->Ag,getD_eq_getElem?_getD->Ai,mem_cons_self->Aj,mem_append->Al,getElem?_eq_some_iff->Ar,map_cons->At,append_assoc->Au,length_cons->Av,length_range->Ax,mem_of_getElem?->B0,map_append->B7,mem_append_left->B9,mem_cons->Ba,map_map->Bb,mem_filter->Bc,mem_range->Be,size_toArray->Bg,mem_append_right->Bi,pairwise_map->Bl,any_eq_true->Bp,length_singleton->Bq,replicate->Br,take_length->By,pairwise_append->C0,append_nil->C1,getElem?_eq_none->C4,getElem?_range->C6,filter_cons->C8,take_append_drop->C9,map_congr_left->Cg,filter_eq_self->Ch,length_filter_le->Cp,length_take->Cq,getElem_mem->Cu,all_eq_true->Cv,filter_sublist->Cw,take_succ_eq_append_getElem->Cy,nodup_append->Cz,perm_ext_iff_of_nodup->D5,filter_append->D6,pairwise_lt_range->D7,pairwise_iff_getElem->D8,nodup_nil->Df,getElem?_append_right->Dj,nodup_cons->Dn,getElem?_append_left->Do,perm_append_comm->Dp,mem_flatMap->Dq,range_succ->Dy,replicate_succ->E1,lookup_cons->E5,nodup_iff_pairwise_ne->E9,sum_cons->Eh,getElem_of_mem->Em,length->Ev,mem_filterMap->Ew,find?_cons->Ez,filter_nil->F0,ext_getElem?->Fc,lookup->Fi,take_sublist->Fy,flatten_cons->Fz,drop_sublist->G0,mem_iff_getElem?->Gg,any_cons->Gj,map_id->Gk,filter_map->Gn,take_succ_cons->Gs,map_nil->Gw,zip_cons_cons->He,drop_eq_getElem_cons->Hl,getElem_take->Hn,length_drop->Ic,getElem?_replicate->Ie,take_of_length_le->Im,length_pos_of_mem->Io,any_map->Ip,all_map->Iq,Nodup->Ir,of_mem_zip->J6,length_nil->J7,foldl_cons->J8,mem_of_mem_take->Jg,mem_iff_getElem->Jh,filterMap_cons->Jr,pairwise_cons->K0,mapM_toArray->K9,map->Ka,getElem_drop->Kb,filter_congr->Kc,any_eq_false->Kd,cons_append->Kp,eq_nil_of_length_eq_zero->Kv,sum_append->L4,forIn_cons->L5,dropLast_concat_getLast->L6,foldl->Lg,drop_drop->Lh,mem_take_iff_getElem->Ln,mem_of_find?_eq_some->Lo,length_erase_of_mem->Lz,getElem?_take_of_lt->M0,getLast_eq_getElem->M8,map_id'->Mf,getElem?_set_self->Mg,singleton_append->Mx,length_replicate->My,length_dropLast->N8,getElem?_set_ne->N9,map_singleton->Nr,getElem_range->Nt,find?_eq_none->Nu,reverse_perm->O9,reverse_cons->Oa,getElem?_inj->Ob,mem_reverse->Ol,getElem_map->Om,drop_length->On,length_set->Ow,find?_some->Ox,take_zero->P4,drop_zero->P5,take_add->Pe,le_trans->Pf,all_cons->Pg,any->Sj
open List.Nodup renaming mem_erase_iff->Sk
open List.Pairwise renaming sublist->Bj,imp->En,imp_of_mem->Fd,nil->Gm
open List.Perm renaming append_left->D9,append_right->Ho,refl->Kn
open Nat renaming le_refl->Ab,lt_of_lt_of_le->Ah,ne_of_lt->B8,zero_le->Bs,le_trans->Bt,lt_irrefl->Dt,add_sub_cancel_left->Dx,lt_succ_of_lt->Eg,lt_succ_self->Et,div_add_mod->F5,add_assoc->F9,mul_le_mul_right->Fk,le_of_lt->G9,zero_testBit->Gi,add_one_mul->Gr,lt_trans->Gz,add_comm->Ha,gcd->Hr,testBit_lt_two_pow->Iz,sub_self->J4,mul_comm->J5,pow_le_pow_right->Jo,eq_of_testBit_eq->Jp,add_sub_cancel->K7,ne_of_gt->Kl,add_zero->Km,mul_mod->Kz,add_mod->L3,dvd_trans->M7,zero_add->Mu,mod_eq_zero_of_dvd->Mw,le_of_ble_eq_true->N7,pow_pos->Ni,le_succ->Nj,mul_le_mul_left->Nq,sub_add_cancel->O8,le_of_not_lt->Ou,le_add_right->Ov,zero_lt_one->P1,testBit_and->P2,strongRecOn->P3,zero_mul->Q3,sub_zero->Q4,pow_succ->Q5,le_of_eq->Q6,gcd_comm->Q7,dvd_refl->Q8,one_mul->Re,mul_pos->Rf,gcd_rec->Rg,add_mul->Rh,mod_lt->Rw
open Ne renaming symm->Dz
open Option renaming map_some->Cj,isSome_iff_exists->Db,isSome_map->Hi,getD_some->Hq,map_eq_some_iff->Ly,none->Pd,map->Pm
open Option.some renaming inj->Bw
open Or renaming inl->Ao,inr->Ek
open Prod renaming ext->P0
open PyProof.Rows renaming wpS_bind->Ak,wpS_pure->Aq,Keyed->Az,boot_isinstance->Bm,SortSt->Bz,wpS_forRange->D3,IntsAre->Ds,wpS_mono->E6,callWith_type1->Ep,SortKind->Fg,pairsOf_size->Fo,listUpdate_at->Gv,AllBare->Gy,wpS_get->Hm,step_dedup->Hu,seqEpoch_at->Ik,boot_sorted->Il,wpS_lift->J9,IsTup->Js,boot_list->K8,wpS_modify->Kq,boot_tuple->Ku,lt_int->La,units_in1->Lk,wpS_reverse->Lr,entry_list_sort->M4,sortedHeap_old->Mm,slot_list_sort->Mo,boot_range->Mp,args_list_sort->Mq,sortedHeap_at->Na,subscriptTail_builtinR->Ny,plain_sorted->O0,listItems_at->O1,entry_sorted->O2,args_sorted1->O3,kind_sorted->Ot,getElem?_mirror_all->Oy,wpAny_notIn_heap->Pp,list_sort_plain->Qh,getElem?_bubble->Qi,get?_update_seq->Qj,mirror->Qz,callWith_builtin1->Ra,bubble->Rb,assign_Tuple->Rc,keyLt'_oneType->Rp,boot_max->Rr,boot_all->Rs,StrsAre->Sq
open PyProof.Rows.SortSt renaming mk'->Kx
open PySem renaming wpAny_bind->A1,Value->A2,Addr->A3,Shared->A5,wpAny_pure->Ae,Program->Ap,Around->B5,World->Bd,Heap->Bx,boot_len->C3,Paired->C5,Stmt->Ca,Expr->Cb,wpAny_holding->Cs,wpAny_mono->Ct,wpAny_truthy_bool->D4,wpAny_call_entry->Di,FuncData->Ef,wpAny_newObj_type->El,wpAny_typeNameOfWhole_keyiter->F7,wpAny_passesOwn->Ff,Scope->Fh,mem_of_lookup->Fn,Builtin->Fp,wpAny_typeNameOf_keyiter->Fw,wpAny_attempt->Fx,wpAny_rule->G6,wpAny_Call_Name_kw->G7,wpAny_field->Ga,wpAny_callSpecial?_slot->Gb,IsRangeIter->Gd,wpAny_isInstance->Gp,wpAny_forIn_list->Gq,DictEntry->Gu,wpAny_specialOf->Hf,wpAny_execs_nil->Hg,Model->Hk,wpAny_setField->Hs,tupleKind_room_in1->Ht,wpAny_dictEntries->Ij,wpAny_newList->Iu,PyData->Iy,NameKind->Jd,codeAny_mono->Jj,wpAny_isOneOf_keyiter->Jt,isSubtype_tuple_tuple->Ju,wpAny_pyIter_keyiter->K1,wpAny_fieldsOf->K2,BindsTo->Kf,wpAny_standAt->Ko,wpAny_tupleItemsOf->Kr,wpAny_call->Ks,call_meets->Kt,wpAny_execs_cons->Lj,wpAny_dictEpoch->M3,Within->M6,wpAny_newFunctionEnv_cells->Ml,IsTupleKey->Mz,rangeSize_one->Nb,intBits_le_64->Nc,call->Nf,PassesOwn->Np,CmpOp->Nv,wpAny_pyIter_rangeiter->Nw,wpAny_Assign_Subscript->Nx,seqIndex_neg->Nz,Fin->O7,wpAny_isTrue_Compare1->Og,codeAny_call_function->Oh,wpAny_of_eq->Op,sizeLine_eq->Oq,seqIndex_of->Os,wpAny_setItem_heap->P8,wpAny_pyIter_range->P9,wpAny_getItem_heap->Pa,wpAny_Name->Pb,typeIs_int->Pc,wpAny_pyIter_list->Pi,wpAny_assign_Name->Pj,wpAny_Dict_empty->Pq,small_one->Pr,Arguments->Qe,wpAny_ret_mkInt->Qf,wpAny_loadPart'->Qg,wpAny_seqItems->Rk,wpAny_newTuple->Rm,wpAny_loadPart->Rn,wpAny_Compare1->Ro,isSubtype_stop->Rq,Result->Ru,Params->Rv,wpAny_handled->Rz,eval_ListComp->S0,call_list_seq->S1,codeAny_func->Sl,call_range_2->Sm,call_range_1->So,Keyword->Ss
open PySem.Around renaming under->M2,frames_deeper->Mj
open PySem.AutoListH renaming list___mul___list_int_3->Sx
open PySem.Builtin renaming bitAnd->Dr
open PySem.Builtin.Dict renaming showsAll->Kw,pendingCount->Ri,dictSlotNone->Rj
open PySem.Builtin.Dict_items renaming ownsTuple->Is
open PySem.Builtin.List renaming listTooLong->Go
open PySem.Builtin.ObjectAttr renaming bindTo->Je
open PySem.Builtin.Range renaming rangeSize->Ke
open PySem.Builtin.Tuple renaming tupleHashOf->F4,tupleItemsOf->Qc,tupleCompareSizes->Qd
open PySem.Calls renaming call_function_entry->Fm,Name_function_global->Ld,callWith_builtin->Ma,evalArgs_plain->N1
open PySem.Code renaming isFrame->Mh,frames->Qb
open PySem.Data renaming fields->Qa,cell->Ry
open PySem.DictEntry renaming refKey->Sv
open PySem.EntryCells renaming newEntry->Lq
open PySem.EqMixed renaming ne_str_int->Pu,ne_str_bool->Pw,ne_int_str->Px,ne_bool_str->Py,eq_str_int->Pz,eq_str_bool->Q0,eq_int_str->Q1,eq_bool_str->Q2
open PySem.EqNone renaming ne_str_none->Ql,ne_none_str->Qm,ne_none_none->Qn,ne_none_int->Qo,ne_none_bool->Qp,ne_int_none->Qq,ne_bool_none->Qr,eq_str_none->Qs,eq_none_str->Qt,eq_none_none->Qu,eq_none_int->Qv,eq_none_bool->Qw,eq_int_none->Qx,eq_bool_none->Qy
open PySem.F renaming plainAttrs_list->C7,type_list_append->Cc,slot_list_append->Cd,slot_dict_keyiterator_next->E2,slot_tuple_hash->Ig,slot_tuple_lt->Ii,slot_tuple_eq->Ji,slot_dict_getitem->Ky,args_dict_keyiterator_next_1->Lc,args_tuple_lt_2->Lf,entry_dict_keyiterator_next->Li,entry_tuple_lt->Lm,slot_range_iterator_next->M9,excBase_ValueError->Oc,excAttr_ValueError->Od,slot_dict_iter->Ph,slot_int_rmul->Pn,slot_dict_len->Po
open PySem.Heap renaming get?_push_of_some->A8,lt_size->An,get?_push_size->Aw,size_push->Eb,SameBut->Fl,get?_update_other->G3,get?_update_self->Gh,ExtBut->Q9
open PySem.Heap.DictOf renaming new->Rx
open PySem.Heap.SameBut renaming update->Lb
open PySem.IsL renaming update->Sr
open PySem.IsRange renaming new->P6
open PySem.NameKind renaming free->Co,cell->Jc
open PySem.Obj renaming mapSeq->Ej,mapFields->F8,data_mapFields->Ft,isFreed_of_fields->N6,cls_mapFields->Oj
open PySem.Paired renaming length->Cr,snoc->Es,mono->Me
open PySem.PassesOwn renaming never->Bf,leaving->Jn
open PySem.PyData renaming canLayAll0->Cm,eqv->E3,depthAll->Ed,int->Fe,canLay0->Fu,depth->Ib,eqvAll->Jm,strOk->Lx
open PySem.SeqAt renaming shaped->Fj,EqAt->Nd
open PySem.SeqAt.EqAt renaming str_int->Ls,int_str->Lu,int_int->Lv,str_str->S4,str_none->S5,str_bool->S6,same->S7,none_str->S8,none_int->S9,none_bool->Sc,int_none->Sd,int_bool->Se,bool_str->Sf,bool_none->Sg,bool_int->Sh,bool_bool->Si
open PySem.Str renaming ofString->A0,length->Rt,empty->S3
open PySem.Value renaming ref->B1,none->Dw,type->Eu,int->Hv,bool->Ih,builtin->Jq,str->Kg,float->Ms,isStrOf->Oz,isInt->Pk,bytes->Pl
open PySem.Value.ref renaming inj->Nm
open PySem.W renaming Frag->Am,mg_none_of->Bh,findIn->Bv,nsIn->C2,fnOf->Ck,keepIn->D0,kia_one->D1,emptyDict->Dh,hideAll->Dv,instObj->Ec,mroIn->Ee,codeIn->Fa,InstAt->Fb,kitOne->Fs,plainGet->G8,clsIn->Gc,hasDictIn->Hd,excIn->Hh,isFn->Hw,cellsFrom_some->Ia,looks_findIn->Iv,lookIn->Iw,exmOne->Ix,plainGet_of->Ja,kdu_collect->Jb,of_hideAll->Jk,callWith_K->Jl,specialIn->Jv,plainOver->Jw,methodObj->Jx,takesIn->Kh,takerIn->Ki,makesIn->Kj,OpenLaw->Kk,mg_of->L8,Looks->L9,methodCall_KW->Lw,hideAll_get->Mc,callWith_K0->Md,codeRec_of->Mt,kitx_list->N4,kitx_dict->N5,kdl_dict->Ng,handedIn->Nh,findObj->No,typeIn->O5,kitCls->O6,WalkO->Oi
open PySem.W.KT renaming app_list->Ll
open PySem.W.Looks renaming ld->Ps,here->Pt
open PySem.Within renaming cons->Qk
open StateT renaming run_pure->O4
open Sum renaming inr->Da,inl->Dm
open Sum.inr renaming inj->M5
open True renaming intro->E8
local macro_rules | `(tactic| omega) => `(tactic| first | lia | omega +splitDisjunctions)
namespace L2
open PySem PySem.Spec PyProof.Rows
noncomputable abbrev Key:=Sum Int Str
noncomputable def keyIs:Key->A2->Bool
 | .inl k,v=>Pk k v
 | .inr x,v=>Oz x v
noncomputable def keyH(w:Bd):Key->Int
 | .inl k=>hashInt k
 | .inr x=>hashStr w x
theorem zaD:∀{k:Key}{v:A2},keyIs k v=true->(∃i t,k=Dm i/\v=Hv i t)\/(∃x t,k=Da x/\v=Kg x t)
 | .inl i,v,h=>by
  obtain⟨t,e⟩:=Value.isInt_shape (k:=i) (v:=v) h;exact .inl ⟨i,t,rfl,e⟩
 | .inr x,v,h=>by
  obtain⟨t,e⟩:=Value.isStrOf_shape (x:=x) (v:=v) h;exact .inr ⟨x,t,rfl,e⟩
theorem keyIs_int(i:Int)(t:Tok):keyIs (.inl i) (.int i t)=true:=by simp[keyIs,Pk]
theorem keyIs_str(x:Str)(t:Tok):keyIs (.inr x) (.str x t)=true:=by simp[keyIs,Oz]
theorem key_ll(a b:Int):decide ((Dm a:Key)=Dm b)=(a==b):=by
 by_cases e:a=b
 ·subst e;simp
 ·have h:¬(Dm a:Key)=Dm b:=fun q=>e (Sum.inl.inj q);rw[decide_eq_false h];exact(beq_eq_false_iff_ne.mpr e).symm
theorem key_rr(a b:Str):decide ((Da a:Key)=Da b)=decide (a=b):=by
 by_cases e:a=b
 ·subst e;simp
 ·have h:¬(Da a:Key)=Da b:=fun q=>e (M5 q);rw[decide_eq_false h,decide_eq_false e]
theorem key_lr(a:Int)(b:Str):decide ((Dm a:Key)=Da b)=false:=decide_eq_false (fun q=>nomatch q)
theorem key_rl(a:Str)(b:Int):decide ((Da a:Key)=Dm b)=false:=decide_eq_false (fun q=>nomatch q)
noncomputable def mixKind(prog:Ap)(w:Bd):PySem.KeyKind prog w Key where
 is:=keyIs
 hash:=keyH w
 inj:=fun v a b ha hb=>by
  rcases zaD ha with⟨i,t,rfl,rfl⟩|⟨x,t,rfl,rfl⟩
  ·rcases zaD hb with⟨j,u,rfl,e⟩|⟨y,u,rfl,e⟩
   ·injection e with e1 _;rw[e1]
   ·exact nomatch e
  ·rcases zaD hb with⟨j,u,rfl,e⟩|⟨y,u,rfl,e⟩
   ·exact nomatch e
   ·injection e with e1 _;rw[e1]
 byValue:=fun k v h=>by
  rcases zaD h with⟨i,t,rfl,rfl⟩|⟨x,t,rfl,rfl⟩<;>rfl
 pyHash:=fun hv h=>by
  rcases zaD hv with⟨i,t,rfl,rfl⟩|⟨x,t,rfl,rfl⟩
  ·exact wpAny_pyHash_int h
  ·exact wpAny_pyHash_str h
 eqBool:=fun hu hv h=>by
  rcases zaD hu with⟨i,t,rfl,rfl⟩|⟨x,t,rfl,rfl⟩
  ·rcases zaD hv with⟨j,u,rfl,rfl⟩|⟨y,u,rfl,rfl⟩
   ·rw[key_ll] at h;exact wpAny_eqBool_int h
   ·rw[key_lr] at h;exact Lu i t y u _ _ _ _ h
  ·rcases zaD hv with⟨j,u,rfl,rfl⟩|⟨y,u,rfl,rfl⟩
   ·rw[key_rl] at h;exact Ls x t j u _ _ _ _ h
   ·rw[key_rr] at h;exact wpAny_eqBool_str h
 «strs»:=fun k x t v h=>by
  rcases zaD h with⟨i,u,rfl,e⟩|⟨y,u,rfl,e⟩
  ·exact nomatch e
  ·injection e with e1 _;subst e1
   cases v<;>rfl
theorem mixKind_int(prog:Ap)(w:Bd)(i:Int)(t:Tok):(mixKind prog w).is (.inl i) (.int i t)=true:=keyIs_int i t
theorem mixKind_str(prog:Ap)(w:Bd)(x:Str)(t:Tok):(mixKind prog w).is (.inr x) (.str x t)=true:=keyIs_str x t
inductive V where
 |non|bl (b:Bool)|int (i:Int)|str (x:Str)|byt (b:Array UInt8)|flt (b:UInt64)|ref (a:A3)|ty (n:String)
 deriving DecidableEq
noncomputable def RelV:V->A2->Prop
 | .non,u=>u=Dw
 | .bl b,u=>u=Ih b
 | .int i,u=>∃t,u=Hv i t
 | .str x,u=>∃t,u=Kg x t
 | .byt b,u=>∃t,u=Pl b t
 | .flt b,u=>∃t,u=Ms b t
 | .ref a,u=>u=B1 a
 | .ty n,u=>u=Eu n
noncomputable abbrev Vals:List V->List A2->Prop:=C5 RelV
theorem Vals.length{xs:List V}{us:List A2}(r:Vals xs us):xs.length=us.length:=Cr r
theorem Vals.get:∀{xs:List V}{us:List A2}{i:Nat}{x:V},Vals xs us->xs[i]?=some x->∃u,us[i]?=some u/\RelV x u
 |_,_,_,_,.nil,e=>by simp at e
 |_,_,0,_,.cons r _,e=>by simp at e;subst e;exact⟨_,rfl,r⟩
 |_,_,i+1,x,.cons _ t,e=>by
  obtain⟨u,h1,h2⟩:=Vals.get (i:=i) (x:=x) t (by simpa using e);exact⟨u,by simpa using h1,h2⟩
theorem Vals.set{x:V}{u:A2}(r:RelV x u):∀{xs:List V}{us:List A2}(i:Nat),Vals xs us->Vals (xs.set i x) (us.set i u)
 |_,_,_,.nil=>.nil
 |_,_,0,.cons _ t=>.cons r t
 |_,_,i+1,.cons q t=>.cons q (Vals.set r i t)
theorem Vals.append:∀{xs ys:List V}{us ws:List A2},Vals xs us->Vals ys ws->Vals (xs++ys) (us++ws)
 |_,_,_,_,.nil,s=>s
 |_,_,_,_,.cons r t,s=>.cons r (Vals.append t s)
noncomputable def RelO:Option V->Option A2->Prop
 |some v,some u=>RelV v u
 |none,none=>True
 |_,_=>False
noncomputable def KV{κ:Type}:List (κ×V)->List (κ×A2)->Prop:=C5 fun(p:κ×V)(q:κ×A2)=>p.1=q.1/\RelV p.2 q.2
noncomputable def kV:Key->V
 | .inl i=>.int i
 | .inr x=>.str x
inductive HO where
  |lst (xs:List V)
  |tup (xs:List V)
  |dK (kvs:List (Key×V))|dT (kvs:List (List Key×V))
  |set (S:Int->Bool) (n:Nat)
  |ins (C dx:A3) (fs:List (Str×V))
  |own (x:A3)
  |xd (fs:List (Str×V))
  |met (f x:A3)
  |rng (lo hi:Int)
  |frz (o:Obj) (u:HO)
  |tbl (ps:Array A2)
  |ext (φ:Bx->Prop)
noncomputable abbrev Hp:=A3->Option HO
noncomputable def upd(H:Hp)(a:A3)(o:HO):Hp:=fun b=>if b=a then some o else H b
theorem zab{H:Hp}{a:A3}{o:HO}:upd H a o a=some o:=by unfold upd;rw[if_pos rfl]
theorem zah{H:Hp}{a b:A3}{o:HO}(h:b≠a):upd H a o b=H b:=by unfold upd;rw[if_neg h]
theorem zgn{H:Hp}{a:A3}{o u:HO}:upd (upd H a o) a u=upd H a u:=by
 funext b;unfold upd;split<;>rfl
theorem zhR{H:Hp}{a b:A3}{o u:HO}(h:H a=some o)(h':H b=some u)(d:o≠u):a≠b:=by
 intro e;subst e;rw[h] at h';exact d (Bw h')
theorem zaq{H:Hp}{a b:A3}{o:HO}(h:H a=some o)(h':H b=none):a≠b:=by
 intro e;subst e;rw[h] at h';cases h'
section
variable(P:Ap)(w:Bd)
noncomputable def ObjOk(H:Hp)(h:Bx)(a:A3):HO->Prop
 | .lst xs=>xs.length<=sizeLine/\∃(its:List A2)(n:Nat),Vals xs its/\h.get? a=some {cls:=.type "list",data:=.seq its.toArray n}
 | .tup xs=>xs.length<=sizeLine/\∃its:List A2,Vals xs its/\Js h a its.toArray
 | .dK kvs=>kvs.length<=sizeLine/\(a==sysModules)=false/\∃vs,KV kvs vs/\h.DictOf (mixKind P w) a vs
 | .dT kvs=>kvs.length<=sizeLine/\(a==sysModules)=false/\∃xs:List (List Key×A3×A2),
   C5 (fun(p:List Key×V)(q:List Key×A3×A2)=>p.1=q.1/\H q.2.1=some (.tup (p.1.map kV))/\RelV p.2 q.2.2) kvs xs/\
   ∃o es ep,h.get? a=some o/\o.ExactDict/\o.data= .dict es ep/\es.toList=xs.map (entryOfKey (tupleKind (mixKind P w)))/\(xs.map (·.1)).Nodup
 | .set S n=>h.SetOf (intKind P w) a S n
 | .ins C dx fs=>H dx=some (.own a)/\fs.length<=1000/\dx≠a/\h.get? a=some (Ec C dx)/\
   ∃mA,h.Ns1 dx mA/\(∀f,RelO (fs.lookup f) (mA f))/\M6 mA (fs.map (·.1))
 | .own _=>∃o,h.get? a=some o
 | .xd fs=>∃mA,h.Ns1 a mA/\∀f,RelO (fs.lookup f) (mA f)
 | .rng lo hi=>∃t u v,h.get? a=some {cls:=.type "range",data:=.fields #[.int lo t,.int hi u,.int 1 v]}
 | .frz o u=>h.get? a=some o/\ObjOk H h a u
 | .tbl ps=>h.get? a=some {cls:=.none,data:=.fields ps}
 | .met f x=>h.get? a=some (Jx (.ref f) (.ref x))
 | .ext φ=>φ h/\(∃o,h.get? a=some o)/\∀h1 h2:Bx,φ h1->(∀o,h1.get? a=some o->h2.get? a=some o)->φ h2
noncomputable def HOk(H:Hp)(h:Bx):Prop:=∀a o,H a=some o->ObjOk P w H h a o
end
section
variable{P:Ap}{w:Bd}{H H':Hp}{h h':Bx}{a:A3}{o:HO}
theorem ObjOk.lt(x:ObjOk P w H h a o):a<h.objs.size:=by
 cases o with
 |lst xs=>obtain⟨_,_,_,_,e⟩:=x;exact An e
 |tup xs=>obtain⟨_,_,_,p⟩:=x;exact p.lt
 |dK kvs=>obtain⟨_,_,_,_,o,_,_,e,_⟩:=x;exact An e
 |dT kvs=>obtain⟨_,_,_,_,o,_,_,e,_⟩:=x;exact An e
 |set S n=>obtain⟨o,_,_,_,e,_⟩:=x;exact An e
 |ins C dx fs=>obtain⟨_,_,_,e,_⟩:=x;exact An e
 |own y=>obtain⟨_,e⟩:=x;exact An e
 |xd fs=>obtain⟨_,⟨_,_,_,e,_⟩,_⟩:=x;exact An e
 |rng lo hi=>obtain⟨_,_,_,e⟩:=x;exact An e
 |frz ob u=>obtain⟨e,_⟩:=x;exact An e
 |tbl ps=>exact An (show h.get? a=some _ from x)
 |met f y=>exact An (show h.get? a=some _ from x)
 |ext φ=>obtain⟨_,⟨_,e⟩,_⟩:=x;exact An e
theorem C5.mapP{α β:Type}{F G:α->β->Prop}:∀{l₁:List α}{l₂:List β},C5 F l₁ l₂->(∀a b,F a b->G a b)->C5 G l₁ l₂
 |_,_,.nil,_=>.nil
 |_,_,.cons r t,f=>.cons (f _ _ r) (C5.mapP t f)
theorem ObjOk.stay(x:ObjOk P w H h a o)(k:∀b u,(b=a\/H b=some (.own a))->h.get? b=some u->h'.get? b=some u)
  (ho:∀b,H b=some (.own a)->H' b=some (.own a)) (ht:∀b xs,H b=some (.tup xs)->H' b=some (.tup xs)):ObjOk P w H' h' a o:=by
 induction o with
 |lst xs=>obtain⟨z,its,n,r,e⟩:=x;exact⟨z,its,n,r,k _ _ (.inl rfl) e⟩
 |tup xs=>obtain⟨z,its,r,ob,e,c⟩:=x;exact⟨z,its,r,ob,k _ _ (.inl rfl) e,c⟩
 |dK kvs=>obtain⟨z,y,vs,r,ob,es,ep,e,c⟩:=x;exact⟨z,y,vs,r,ob,es,ep,k _ _ (.inl rfl) e,c⟩
 |dT kvs=>
  obtain⟨z,y,xs,r,ob,es,ep,e,c⟩:=x;exact⟨z,y,xs,C5.mapP r fun p q z=>⟨z.1,ht _ _ z.2.1,z.2.2⟩,ob,es,ep,k _ _ (.inl rfl) e,c⟩
 |set S n=>obtain⟨ob,es,ep,t,e,c⟩:=x;exact⟨ob,es,ep,t,k _ _ (.inl rfl) e,c⟩
 |ins C dx fs=>
  obtain⟨d,z,ne,e,mA,⟨od,es,ep,e2,c⟩,r⟩:=x;exact⟨ho _ d,z,ne,k _ _ (.inl rfl) e,mA,⟨od,es,ep,k _ _ (.inr d) e2,c⟩,r⟩
 |own y=>obtain⟨ob,e⟩:=x;exact⟨ob,k _ _ (.inl rfl) e⟩
 |xd fs=>obtain⟨mA,⟨od,es,ep,e,c⟩,r⟩:=x;exact⟨mA,⟨od,es,ep,k _ _ (.inl rfl) e,c⟩,r⟩
 |rng lo hi=>obtain⟨t,u,v,e⟩:=x;exact⟨t,u,v,k _ _ (.inl rfl) e⟩
 |frz ob u ih=>obtain⟨e,q⟩:=x;exact⟨k _ _ (.inl rfl) e,ih q⟩
 |tbl ps=>
  have e:h.get? a=some {cls:=.none,data:=.fields ps}:=x;show h'.get? a=some {cls:=.none,data:=.fields ps};exact k a _ (.inl rfl) e
 |met f y=>
  have e:h.get? a=some (Jx (.ref f) (.ref y)):=x;show h'.get? a=some (Jx (.ref f) (.ref y));exact k a _ (.inl rfl) e
 |ext φ=>obtain⟨p,⟨o,e⟩,st⟩:=x;exact⟨st _ _ p fun o q=>k _ _ (.inl rfl) q,⟨o,k _ _ (.inl rfl) e⟩,st⟩
theorem HOk.lt(x:HOk P w H h)(e:H a=some o):a<h.objs.size:=(x a o e).lt
theorem HOk.fresh(x:HOk P w H h)(e:h.objs.size<=a):H a=none:=by
 cases q:H a with
 |none=>rfl
 |some u=>exact absurd (Ah (x.lt q) e) (Dt _)
theorem HOk.kept(x:HOk P w H h)(k:∀b u,h.get? b=some u->h'.get? b=some u):HOk P w H h':=fun a o e=>
 (x a o e).stay (fun b u _ q=>k b u q) (fun _ q=>q) fun _ _ q=>q
theorem HOk.laid(x:HOk P w H h)(k:∀b u,h.get? b=some u->h'.get? b=some u)(hp:h.objs.size<=a)(new:ObjOk P w (upd H a o) h' a o):HOk P w (upd H a o) h':=fun b u e=>by
 have hn:=x.fresh hp;by_cases hb:b=a
 ·subst hb;rw[zab] at e;cases e;exact new
 ·rw[zah hb] at e;exact(x b u e).stay (fun c v _ q=>k c v q) (fun c q=>by rw[zah (zaq q hn)];exact q) fun c xs q=>by rw[zah (zaq q hn)];exact q
end
noncomputable def Rd(H:Hp)(a:A3)(u:HO):Prop:=H a=some u\/∃o,H a=some (.frz o u)
theorem Rd.ok{P:Ap}{w:Bd}{H:Hp}{h:Bx}{a:A3}{u:HO}(r:Rd H a u)(x:HOk P w H h):ObjOk P w H h a u:=by
 rcases r with r|⟨o,r⟩
 ·exact x a u r
 ·obtain⟨_,q⟩:=x a _ r;exact q
noncomputable def Mut:Option HO->Prop
 |some (.lst _)=>True
 |some (.dK _)=>True
 |some (.dT _)=>True
 |some (.set _ _)=>True
 |some (.ins _ _ _)=>True
 |some (.ext _)=>True
 |_=>False
section
variable{P:Ap}{w:Bd}{H:Hp}{h h':Bx}{x e:A3}{o':HO}
theorem HOk.write(ok:HOk P w H h)(mu:Mut (H x))(he:e=x\/H e=some (.own x))(k:∀b u,b≠e->h.get? b=some u->h'.get? b=some u)(heo:∃u,h'.get? e=some u)
  (new:ObjOk P w (upd H x o') h' x o'):HOk P w (upd H x o') h':=fun b u q=>by
 have nown:∀c y,H c=some (.own y)->c≠x:=fun c y r z=>by subst z;rw[r] at mu;exact mu
 have ntup:∀c xs,H c=some (.tup xs)->c≠x:=fun c xs r z=>by subst z;rw[r] at mu;exact mu
 by_cases hb:b=x
 ·subst hb;rw[zab] at q;cases q;exact new
 ·rw[zah hb] at q;by_cases hbe:b=e
  ·have q':H b=some (.own x):=by
    rcases he with z|z
    ·exact absurd (hbe.trans z) hb
    ·rw[hbe];exact z
   rw[q] at q';cases q'
   obtain⟨v,hv⟩:=heo;exact⟨v,by rw[hbe];exact hv⟩
  ·refine(ok b u q).stay (fun c v hc r=>k c v ?_ r) (fun c r=>by rw[zah (nown c b r)];exact r) fun c xs r=>by rw[zah (ntup c xs r)];exact r
   rcases hc with rfl|hc
   ·exact hbe
   ·rintro rfl;rcases he with z|z
    ·exact nown c b hc z
    ·rw[hc] at z;cases z;exact hb rfl
end
structure Un(fs ex:List A3)(H H':Hp)(h h':Bx):Prop where
 keep:∀b o,h.get? b=some o->H b=none->b∉fs->b∉ex->h'.get? b=some o
 slot:∀b o,h.get? b=some o->H b=none->b∈fs->b∉ex->∃sl,h'.get? b=some {o with slots:=sl}
 free:∀b o,h.get? b=some o->H b=none->b∉ex->H' b=none
 there:∀b o,h.get? b=some o->b∉ex->∃o',h'.get? b=some o'
 tups:∀b xs,H b=some (.tup xs)->H' b=some (.tup xs)
 frzs:∀b o u,H b=some (.frz o u)->H' b=some (.frz o u)
 tbls:∀b ps,H b=some (.tbl ps)->∃more,H' b=some (.tbl (ps++more))
section
variable{fs fs' ex ex':List A3}{H H1 H2:Hp}{h h1 h2 h':Bx}{a x e:A3}{o:HO}
theorem Un.any(u:Un fs ex H H1 h h1){b:A3}{ob:Obj}(q:h.get? b=some ob)(n:H b=none)(hx:b∉ex):∃sl,h1.get? b=some {ob with slots:=sl}:=by
 by_cases hb:b∈fs
 ·exact u.slot b ob q n hb hx
 ·exact⟨ob.slots,u.keep b ob q n hb hx⟩
theorem Un.trans(a:Un fs ex H H1 h h1)(b:Un fs ex H1 H2 h1 h2):Un fs ex H H2 h h2 where
 keep:=fun c ob q n hc hx=>b.keep c ob (a.keep c ob q n hc hx) (a.free c ob q n hx) hc hx
 slot:=fun c ob q n hc hx=>by
  obtain⟨sl,e1⟩:=a.slot c ob q n hc hx;obtain⟨sl',e2⟩:=b.slot c _ e1 (a.free c ob q n hx) hc hx;exact⟨sl',e2⟩
 free:=fun c ob q n hx=>by
  obtain⟨o',e1⟩:=a.there c ob q hx;exact b.free c o' e1 (a.free c ob q n hx) hx
 there:=fun c ob q hx=>by
  obtain⟨o',e1⟩:=a.there c ob q hx;exact b.there c o' e1 hx
 tups:=fun c xs q=>b.tups c xs (a.tups c xs q)
 frzs:=fun c ob xs q=>b.frzs c ob xs (a.frzs c ob xs q)
 tbls:=fun c ps q=>by
  obtain⟨m1,e1⟩:=a.tbls c ps q;obtain⟨m2,e2⟩:=b.tbls c _ e1;exact⟨m1++m2,by rw[e2,Jz]⟩
theorem Un.kept(k:∀b u,h.get? b=some u->h'.get? b=some u):Un fs ex H H h h':=
 ⟨fun b ob q _ _ _=>k b ob q,fun b ob q _ _ _=>⟨ob.slots,k b ob q⟩,fun _ _ _ n _=>n,fun b ob q _=>⟨ob,k b ob q⟩,fun _ _ q=>q,fun _ _ _ q=>q,fun _ ps q=>⟨#[],by rw[q];simp⟩⟩
theorem Un.refl:Un fs ex H H h h:=Un.kept fun _ _ q=>q
theorem Un.laid(k:∀b u,h.get? b=some u->h'.get? b=some u)(hp:h.objs.size<=a)(hn:H a=none):Un fs ex H (upd H a o) h h' where
 keep:=fun b u q _ _ _=>k b u q
 slot:=fun b u q _ _ _=>⟨u.slots,k b u q⟩
 free:=fun b u q n _=>by rw[zah (B8 (Ah (An q) hp))];exact n
 there:=fun b u q _=>⟨u,k b u q⟩
 tups:=fun b xs q=>by rw[zah (zaq q hn)];exact q
 frzs:=fun b u xs q=>by rw[zah (zaq q hn)];exact q
 tbls:=fun b ps q=>⟨#[],by rw[zah (zaq q hn),q];simp⟩
theorem Un.write(mu:Mut (H x))(he:e=x\/H e=some (.own x))(k:∀b u,b≠e->h.get? b=some u->h'.get? b=some u)(heo:∃u,h'.get? e=some u):Un fs ex H (upd H x o) h h':=by
 have hx:∀b,H b=none->b≠x:=fun b n z=>by subst z;rw[n] at mu;exact mu
 have hb:∀b,H b=none->b≠e:=fun b n z=>by
  subst z;rcases he with r|r
  ·exact hx b n r
  ·rw[n] at r;cases r
 have hm:∀b u,H b=some u->¬Mut (some u)->b≠x:=fun b u q nm z=>by subst z;rw[q] at mu;exact nm mu
 refine⟨fun b u q n _ _=>k b u (hb b n) q,fun b u q n _ _=>⟨u.slots,k b u (hb b n) q⟩,fun b u q n _=>by rw[zah (hx b n)];exact n,fun b u q _=>?_,
  fun b xs q=>by rw[zah (hm b _ q fun z=>z)];exact q,fun b u xs q=>by rw[zah (hm b _ q fun z=>z)];exact q,fun b ps q=>⟨#[],by rw[zah (hm b _ q fun z=>z),q];simp⟩⟩
 by_cases hbe:b=e
 ·subst hbe;exact heo
 ·exact⟨u,k b u hbe q⟩
end
noncomputable def trk(h:Bx)(H:Hp):List A3:=(Af h.objs.size).filter fun a=>(H a).isSome
noncomputable def hidT(h:Bx)(H:Hp):Bx:=Dv h (trk h H)
theorem hidT_size(h:Bx)(H:Hp):(hidT h H).objs.size=h.objs.size:=PySem.W.hideAll_size _ _
theorem hidT_get{h:Bx}{H:Hp}{b:A3}{o:Obj}(e:h.get? b=some o)(n:H b=none):(hidT h H).get? b=some o:=
 Mc _ e fun hm=>by
  have q:(H b).isSome=true:=(Bc.mp hm).2;rw[n] at q;simp at q
theorem of_hidT{h:Bx}{H:Hp}{b:A3}{o:Obj}(e:(hidT h H).get? b=some o):h.get? b=some o/\H b=none:=by
 have e':h.get? b=some o:=Jk (trk h H) e;refine⟨e',?_⟩
 cases q:H b with
 |none=>rfl
 |some x=>
  have hm:b∈trk h H:=Bc.mpr ⟨Be.mpr (An e'),by simp[q]⟩;have z:(hidT h H).get? b=none:=PySem.W.hideAll_none (trk h H) hm;rw[z] at e;cases e
noncomputable def allNews(g h:Bx)(L:A3):List (A3×Obj):=(Af h.objs.size).filterMap fun a=>if a=L\/(g.get? a).isSome=true then none else(h.get? a).map fun o=>(a,o)
noncomputable def rest(g h:Bx)(L d:A3):List (A3×Obj):=(allNews g h L).filter fun p=>decide (p.1≠d)
structure Mod(K:Am)(mg:Str->Option A2)(base:Bx):Prop where
 kin:K.In base
 glob:base.Ns mainGlobals mg
 blt:∃mb,base.Ns builtinsNs mb/\∀x:Str,x≠"__name__"->mb x=bootBuiltins x
 nolimit:base.NoLimit
structure Cx where
 prog:Ap
 w:Bd
 K:Am
 mg:Str->Option A2
 base:Bx
 A:B5
 N:List Str
 s₀:A5
 H₀:Hp
 env:Env
 outer:List Env
 stack:List Env
 ex:List A3
 fn:Str->Bool
 calm:Bool
 pn:List (A3×Obj)
 xe:A2->A5->Prop
noncomputable def frs(l:List Env):List A3:=l.filterMap (·.frame)
noncomputable abbrev Cx.fs(X:Cx):List A3:=frs X.outer
noncomputable def Vis(sc:Fh)(x:Str):Prop:=sc.names.lookup x=some .local\/sc.names.lookup x=some .cell\/sc.names.lookup x=some .free
noncomputable def Loc(sc:Fh)(x:Str):Prop:=sc.names.lookup x=some .local\/sc.names.lookup x=some .cell
noncomputable def Look(env:Env)(h:Bx)(m:Str->Option A2)(x:Str)(u:A2):Prop:=
 (env.kindOf x=some .local/\m x=some u)\/((env.kindOf x=some .cell\/env.kindOf x=some .free)/\∃c,env.cells.lookup x=some c/\h.IsCell c (some u))
structure Cx.Ok(X:Cx):Prop where
 mod:Mod X.K X.mg X.base
 kind:X.env.scope.kind= .function
 glob:X.env.globals=mainGlobals
 blt:X.env.builtins=builtinsNs
 above:X.s₀.heap.objs.size<=X.env.locals
 inj:∀x y c,X.env.cells.lookup x=some c->X.env.cells.lookup y=some c->x=y
 has:∀x,(X.env.kindOf x=some .cell\/X.env.kindOf x=some .free)->∃c,X.env.cells.lookup x=some c
 cab:∀x c,X.fn x=true->X.env.cells.lookup x=some c->X.s₀.heap.objs.size<=c
 hd:X.calm=true->X.A.handled=none
 frames:X.A.frames=some X.stack
 stk:X.stack=X.outer\/(X.stack=X.env::X.outer/\X.env.frame=some X.env.locals)
 exf:∀b∈X.ex,b≠X.env.locals/\∀x c,X.env.cells.lookup x=some c->c≠b
 bs:∀b o,X.base.get? b=some o->X.s₀.heap.get? b=some o/\X.H₀ b=none
 bsz:X.base.objs.size<=X.s₀.heap.objs.size
 noex:∀b o,X.base.get? b=some o->b∉X.ex
 exfs:∀b∈X.ex,b∉X.fs
 funs:X.s₀.heap.FunFrames X.base X.outer
 frf:∀b∈X.fs,X.H₀ b=none
structure Inv(X:Cx)(pins:List (A3×Obj))(σ:List (Option V))(H:Hp)(s:A5):Prop where
 ok:X.Ok
 os:s.os=X.s₀.os
 bare:Gy s.gens
 base:Un X.fs X.ex X.H₀ H X.s₀.heap s.heap
 loc:∃m,s.heap.Ns X.env.locals m/\∀(i:Nat)(x:Str)(v:V),X.N[i]?=some x->σ[i]?=some (some v)->Vis X.env.scope x->∃u,RelV v u/\Look X.env s.heap m x u
 cell:∀x c,X.env.cells.lookup x=some c->∃v,s.heap.IsCell c v
 free:H X.env.locals=none
 freeC:∀x c,X.env.cells.lookup x=some c->H c=none
 pin:∀p∈X.pn++pins,s.heap.get? p.1=some p.2/\H p.1=none/\p.1≠X.env.locals/\p.1∉X.fs/\∀v,p.2.data≠.cell v
 hok:HOk X.prog X.w H s.heap
 len:σ.length=X.N.length
section
variable{X:Cx}{pins:List (A3×Obj)}{σ:List (Option V)}{H H':Hp}{s:A5}{h':Bx}
theorem Cx.Ok.nofr(ok:X.Ok){b:A3}{o:Obj}(e:X.base.get? b=some o):b∉X.fs:=fun hb=>by
 have:=(ok.funs.mem hb).1;rw[e] at this;cases this
theorem Inv.bs(I:Inv X pins σ H s):∀b o,X.base.get? b=some o->s.heap.get? b=some o/\H b=none:=fun b o e=>
 ⟨I.base.keep b o (I.ok.bs b o e).1 (I.ok.bs b o e).2 (I.ok.nofr e) (I.ok.noex b o e),I.base.free b o (I.ok.bs b o e).1 (I.ok.bs b o e).2 (I.ok.noex b o e)⟩
theorem Inv.bk(I:Inv X pins σ H s):∀b o,X.base.get? b=some o->s.heap.get? b=some o:=fun b o e=>(I.bs b o e).1
theorem Inv.mod(I:Inv X pins σ H s):Mod X.K X.mg X.base:=I.ok.mod
theorem Inv.kIn(I:Inv X pins σ H s):X.K.In s.heap:=I.ok.mod.kin.keeps I.bk
theorem Inv.lt(I:Inv X pins σ H s):X.env.locals<s.heap.objs.size:=let ⟨_,hn,_⟩:=I.loc;hn.lt
theorem Inv.sz(I:Inv X pins σ H s):X.s₀.heap.objs.size<=s.heap.objs.size:=Bt I.ok.above (G9 I.lt)
theorem Inv.nofs(I:Inv X pins σ H s){a:A3}(h:s.heap.objs.size<=a):a∉X.fs:=fun hb=>by
 obtain⟨_,o,ho,_⟩:=I.ok.funs.mem hb;exact absurd (Ah (An ho) (Bt I.sz h)) (Dt _)
theorem Inv.cne(I:Inv X pins σ H s):∀x c,X.env.cells.lookup x=some c->c≠X.env.locals:=fun x c e z=>by
 obtain⟨v,o,ho,hd⟩:=I.cell x c e;obtain⟨m,⟨o',es,ep,ho',hd',_⟩,_⟩:=I.loc;rw[z,ho'] at ho;cases ho;rw[hd'] at hd;cases hd
theorem Inv.funs(I:Inv X pins σ H s):s.heap.FunFrames X.base X.outer:=by
 have all:∀(l:List Env),(∀b∈frs l,b∈X.fs)->X.s₀.heap.FunFrames X.base l->s.heap.FunFrames X.base l:=by
  intro l
  induction l with
  |nil=>intro _ _;trivial
  |cons env r ih=>
   intro hs hl;obtain⟨hk,⟨L,o,hf,hn,ho,hd⟩,hr⟩:=hl;have hL:L∈X.fs:=hs L (by unfold frs;rw[Jr,hf];exact Aj);obtain⟨sl,e⟩:=I.base.slot L o ho (I.ok.frf L hL) hL fun z=>I.ok.exfs L z hL;exact⟨hk,⟨L,_,hf,hn,e,hd⟩,ih (fun b hb=>hs b (by unfold frs;rw[Jr,hf];exact Ac _ hb)) hr⟩
 exact all X.outer (fun _ hb=>hb) I.ok.funs
theorem Inv.stack(I:Inv X pins σ H s):s.heap.FunFrames X.base X.stack:=by
 rcases I.ok.stk with e|⟨e,hf⟩
 ·rw[e];exact I.funs
 ·rw[e];obtain⟨m,hn,_⟩:=I.loc;refine .cons (by rw[I.ok.kind];decide) hf hn ?_ I.funs;exact Heap.get?_none_of_le (Bt I.ok.bsz I.ok.above)
theorem Inv.stkSub(I:Inv X pins σ H s):∀b∈frs X.stack,b∈X.env.locals::X.fs:=fun b hb=>by
 rcases I.ok.stk with e|⟨e,hf⟩
 ·rw[e] at hb;exact Ac _ hb
 ·rw[e] at hb;unfold frs at hb;rw[Jr,hf] at hb;exact hb
theorem Inv.stkFree(I:Inv X pins σ H s):∀b∈frs X.stack,H b=none:=fun b hb=>by
 rcases Ba.mp (I.stkSub b hb) with e|hb
 ·rw[e];exact I.free
 ·obtain⟨_,o,ho,_⟩:=I.ok.funs.mem hb;exact I.base.free b o ho (I.ok.frf b hb) fun z=>I.ok.exfs b z hb
theorem Inv.step{g':Array GenState}{t':Nat}{d':Drawn}{ch:List A3}(I:Inv X pins σ H s)
  (hch:∀b∈ch,(b∈X.ex\/X.s₀.heap.objs.size<=b)/\b≠X.env.locals/\(∀x c,X.env.cells.lookup x=some c->c≠b)/\∀p∈X.pn++pins,p.1≠b)
  (keep:∀b o,b≠X.env.locals->b∉X.fs->b∉ch->s.heap.get? b=some o->H b=none->h'.get? b=some o)
  (slot:∀b o,b≠X.env.locals->b∈X.fs->b∉ch->s.heap.get? b=some o->H b=none->∃sl,h'.get? b=some {o with slots:=sl}) (free:∀b o,b∉ch->s.heap.get? b=some o->H b=none->H' b=none)
  (there:∀b o,b∉ch->s.heap.get? b=some o->∃o',h'.get? b=some o')
  (tups:∀b xs,H b=some (.tup xs)->H' b=some (.tup xs)) (frzs:∀b o u,H b=some (.frz o u)->H' b=some (.frz o u)) (tbls:∀b ps,H b=some (.tbl ps)->∃more,H' b=some (.tbl (ps++more)))
  (ns:∀m,s.heap.Ns X.env.locals m->h'.Ns X.env.locals m) (hok:HOk X.prog X.w H' h') (hg:Gy g'):
  Inv X pins σ H' {s with heap:=h',gens:=g',drawn:=d',toks:=t'}:=by
 have neL:∀b o,X.s₀.heap.get? b=some o->b≠X.env.locals:=fun b o e=>B8 (Ah (An e) I.ok.above);have neC:∀b o,X.s₀.heap.get? b=some o->b∉X.ex->b∉ch:=fun b o e hx hb=>by
  rcases(hch b hb).1 with z|z
  ·exact hx z
  ·exact absurd (Ah (An e) z) (Dt _)
 have cellK:∀x c,X.env.cells.lookup x=some c->∀v,s.heap.IsCell c v->h'.IsCell c v:=fun x c e v⟨o,ho,hd⟩=>by
  have nch:c∉ch:=fun z=>(hch c z).2.2.1 x c e rfl;by_cases hc:c∈X.fs
  ·obtain⟨sl,q⟩:=slot c o (I.cne x c e) hc nch ho (I.freeC x c e);exact⟨_,q,hd⟩
  ·exact⟨o,keep c o (I.cne x c e) hc nch ho (I.freeC x c e),hd⟩
 refine⟨I.ok,I.os,hg,⟨fun b o e n hb hx=>?_,fun b o e n hb hx=>?_,fun b o e n hx=>?_,fun b o e hx=>?_,fun b xs e=>tups b xs (I.base.tups b xs e),fun b o xs e=>frzs b o xs (I.base.frzs b o xs e),fun b ps e=>?_⟩,?_,fun x c e=>?_,?_,fun x c e=>?_,fun p hp=>?_,hok,I.len⟩
 ·exact keep b o (neL b o e) hb (neC b o e hx) (I.base.keep b o e n hb hx) (I.base.free b o e n hx)
 ·obtain⟨sl,e1⟩:=I.base.slot b o e n hb hx;obtain⟨sl',e2⟩:=slot b _ (neL b o e) hb (neC b o e hx) e1 (I.base.free b o e n hx);exact⟨sl',e2⟩
 ·obtain⟨o',e1⟩:=I.base.there b o e hx;exact free b o' (neC b o e hx) e1 (I.base.free b o e n hx)
 ·obtain⟨o',e1⟩:=I.base.there b o e hx;exact there b o' (neC b o e hx) e1
 ·obtain⟨m1,e1⟩:=I.base.tbls b ps e;obtain⟨m2,e2⟩:=tbls b _ e1;exact⟨m1++m2,by rw[e2,Jz]⟩
 ·obtain⟨m,hn,hl⟩:=I.loc;refine⟨m,ns m hn,fun i x v e1 e2 e3=>?_⟩;obtain⟨u,r,l⟩:=hl i x v e1 e2 e3;refine⟨u,r,?_⟩;rcases l with l|⟨k,c,e,z⟩
  ·exact .inl l
  ·exact .inr ⟨k,c,e,cellK x c e _ z⟩
 ·obtain⟨v,z⟩:=I.cell x c e;exact⟨v,cellK x c e v z⟩
 ·obtain⟨m,⟨o,_,_,ho,_⟩,_⟩:=I.loc;exact free _ o (fun z=>(hch _ z).2.1 rfl) ho I.free
 ·obtain⟨v,o,ho,hd⟩:=I.cell x c e;exact free c o (fun z=>(hch c z).2.2.1 x c e rfl) ho (I.freeC x c e)
 ·obtain⟨e,n,ne,nf,d⟩:=I.pin p hp;have nch:p.1∉ch:=fun z=>(hch p.1 z).2.2.2 p hp rfl;exact⟨keep p.1 p.2 ne nf nch e n,free p.1 p.2 nch e n,ne,nf,d⟩
theorem Inv.un{t':Nat}(I:Inv X pins σ H s)(u:Un X.fs [] H H' s.heap h')(hok:HOk X.prog X.w H' h'):Inv X pins σ H' {s with heap:=h',toks:=t'}:=by
 obtain⟨m,⟨o,es,ep,ho,r⟩,_⟩:=id I.loc;obtain⟨sl,hL⟩:=u.any ho I.free (by simp);exact I.step (g':=s.gens) (d':=s.drawn) (ch:=[]) (fun _ z=>nomatch z) (fun b o _ hb _ e n=>u.keep b o e n hb (by simp)) (fun b o _ hb _ e n=>u.slot b o e n hb (by simp)) (fun b o _ e n=>u.free b o e n (by simp)) (fun b o _ e=>u.there b o e (by simp)) u.tups u.frzs u.tbls (fun m' hm=>by
  obtain⟨o',es',ep',ho',r'⟩:=hm;rw[ho] at ho';cases ho'
  exact⟨_,es',ep',hL,r'⟩) hok I.bare
theorem Inv.call{g':Array GenState}{t':Nat}{d':Drawn}{ch:List A3}(I:Inv X pins σ H s)(u:Un (frs X.stack) ch H H' s.heap h')(hok:HOk X.prog X.w H' h')(hg:Gy g')
  (hch:∀b∈ch,(b∈X.ex\/X.s₀.heap.objs.size<=b)/\b≠X.env.locals/\(∀x c,X.env.cells.lookup x=some c->c≠b)/\∀p∈X.pn++pins,p.1≠b):
  Inv X pins σ H' {s with heap:=h',gens:=g',drawn:=d',toks:=t'}:=by
 obtain⟨m,⟨o,es,ep,ho,r⟩,_⟩:=id I.loc;obtain⟨sl,hL⟩:=u.any ho I.free fun z=>(hch _ z).2.1 rfl;exact I.step (ch:=ch) hch (fun b o hL hb hc e n=>u.keep b o e n (fun z=>(Ba.mp (I.stkSub b z)).elim hL hb) hc) (fun b o _ _ hc e n=>u.any e n hc) (fun b o hc e n=>u.free b o e n hc) (fun b o hc e=>u.there b o e hc) u.tups u.frzs u.tbls (fun m' hm=>by
  obtain⟨o',es',ep',ho',r'⟩:=hm;rw[ho] at ho';cases ho'
  exact⟨_,es',ep',hL,r'⟩) hok hg
theorem Inv.turned{t':Nat}{it:A3}(I:Inv X pins σ H s)(k:∀b o,b≠it->s.heap.get? b=some o->h'.get? b=some o)(hn:H it=none)(hL:it≠X.env.locals)
  (h1:it∈X.ex\/X.s₀.heap.objs.size<=it) (h2:∀x c,X.env.cells.lookup x=some c->c≠it) (h3:∀p∈X.pn++pins,p.1≠it):Inv X pins σ H {s with heap:=h',toks:=t'}:=by
 have nit:∀b u,H b=some u->b≠it:=fun b u e z=>by rw[z,hn] at e;cases e
 refine I.step (g':=s.gens) (d':=s.drawn) (ch:=[it]) (fun b hb=>?_) (fun b o _ _ hc e _=>k b o (fun z=>hc (by simp[z])) e) (fun b o _ _ hc e _=>⟨o.slots,k b o (fun z=>hc (by simp[z])) e⟩) (fun _ _ _ _ n=>n)
  (fun b o hc e=>⟨o,k b o (fun z=>hc (by simp[z])) e⟩) (fun _ _ e=>e) (fun _ _ _ e=>e) (fun b ps e=>⟨#[],by rw[e];simp⟩) (fun m hm=>?_) (fun b u e=>?_) I.bare
 ·have e:b=it:=by simpa using hb
  subst e;exact⟨h1,hL,h2,h3⟩
 ·obtain⟨o,es,ep,ho,r⟩:=hm;exact⟨o,es,ep,k _ o (Dz hL) ho,r⟩
 ·refine(I.hok b u e).stay (fun c v hc q=>k c v ?_ q) (fun _ q=>q) fun _ _ q=>q;rcases hc with z|z
  ·rw[z];exact nit b u e
  ·exact nit c _ z
theorem Inv.tok(I:Inv X pins σ H s)(t:Nat):Inv X pins σ H {s with toks:=t}:=I.un (h':=s.heap) (t':=t) Un.refl I.hok
theorem Inv.kept{t':Nat}(I:Inv X pins σ H s)(k:∀b u,s.heap.get? b=some u->h'.get? b=some u):Inv X pins σ H {s with heap:=h',toks:=t'}:=I.un (Un.kept k) (I.hok.kept k)
theorem Inv.laid{a:A3}{o:HO}{t':Nat}(I:Inv X pins σ H s)(k:∀b u,s.heap.get? b=some u->h'.get? b=some u)(hp:s.heap.objs.size<=a)(new:ObjOk X.prog X.w (upd H a o) h' a o):
  Inv X pins σ (upd H a o) {s with heap:=h',toks:=t'}:=I.un (Un.laid k hp (I.hok.fresh hp)) (I.hok.laid k hp new)
theorem Inv.write{x e:A3}{o:HO}{t':Nat}(I:Inv X pins σ H s)(mu:Mut (H x))(he:e=x\/H e=some (.own x))(k:∀b u,b≠e->s.heap.get? b=some u->h'.get? b=some u)(heo:∃u,h'.get? e=some u)
  (new:ObjOk X.prog X.w (upd H x o) h' x o):Inv X pins σ (upd H x o) {s with heap:=h',toks:=t'}:=I.un (Un.write mu he k heo) (I.hok.write mu he k heo new)
theorem Inv.weak{σ':List (Option V)}(I:Inv X pins σ H s)(hl:σ'.length=σ.length)(w:∀(i:Nat)v,σ'[i]?=some (some v)->σ[i]?=some (some v)):Inv X pins σ' H s:=
 ⟨I.ok,I.os,I.bare,I.base,let ⟨m,hn,hl'⟩:=I.loc;⟨m,hn,fun i x v e1 e2 e3=>hl' i x v e1 (w i v e2) e3⟩,I.cell,I.free,I.freeC,I.pin,I.hok,hl.trans I.len⟩
theorem Inv.pins_of{pins':List (A3×Obj)}(I:Inv X pins σ H s)(h:∀p∈pins',s.heap.get? p.1=some p.2/\H p.1=none/\p.1≠X.env.locals/\p.1∉X.fs/\∀v,p.2.data≠.cell v):Inv X pins' σ H s:=
 ⟨I.ok,I.os,I.bare,I.base,I.loc,I.cell,I.free,I.freeC,fun p hp=>(Al.mp hp).elim (fun z=>I.pin p (B9 _ z)) (h p),I.hok,I.len⟩
theorem zf3{N:List Str}(hN:N.Nodup){i j:Nat}{x:Str}(a:N[i]?=some x)(b:N[j]?=some x):i=j:=by
 obtain⟨h1,e1⟩:=Ar.mp a;obtain⟨h2,e2⟩:=Ar.mp b;exact(List.getElem_inj hN).mp (e1.trans e2.symm)
theorem zeD{M:Hk}{A:B5}{E:A2->A5->Prop}{i:Nat}{x:Str}{v:V}{u:A2}{Q:Unit->A5->Prop}(I:Inv X pins σ H s)(hN:X.N.Nodup)(hi:X.N[i]?=some x)(hx:Loc X.env.scope x)(r:RelV v u)
  (h:∀s',Inv X pins (σ.set i (some v)) H s'->(∃a,Fl a s.heap s'.heap/\(a=X.env.locals\/X.env.cells.lookup x=some a))->Q () s') (hf:X.fn x=true\/X.env.scope.names.lookup x=some .local:=by first|exact .inl rfl|exact .inr rfl|assumption):wpAny M A (storeName X.env x u) Q E s:=by
 obtain⟨m,hn,hl⟩:=id I.loc;have hcls:(X.env.scope.kind==.class||(X.env.scope.kind==.module&&X.env.locals !=X.env.globals))=false:=by rw[I.ok.kind];rfl
 have hiσ:i<σ.length:=by rw[I.len];exact(Ar.mp hi).1
 have cne:=I.cne;have tracked:∀{a:A3}{h':Bx},(∃o,s.heap.get? a=some o/\H a=none)->Fl a s.heap h'->HOk X.prog X.w H h':=fun{a h'}ha hs b ob e=>by
  obtain⟨_,_,hfree⟩:=ha;refine(I.hok b ob e).stay (fun c w' hc q=>(hs.2 c ?_).trans q) (fun _ q=>q) fun _ _ q=>q;rintro rfl;rcases hc with rfl|hc
  ·rw[hfree] at e;cases e
  ·rw[hfree] at hc;cases hc
 rcases hx with hk|hk
 ·refine wpAny_storeName_local hk hn (fun h' hn' hs=>?_) hcls;obtain⟨oL,_,_,hoL,_⟩:=id hn;refine h _ ⟨I.ok,I.os,I.bare,⟨fun b o e n hb hx=>?_,fun b o e n hb hx=>?_,I.base.free,fun b o e hx=>?_,I.base.tups,I.base.frzs,I.base.tbls⟩,⟨_,hn',fun j y v' e1 e2 e3=>?_⟩,fun y c e=>?_,I.free,I.freeC,fun p hp=>?_,tracked ⟨oL,hoL,I.free⟩ hs,by simpa using I.len⟩ ⟨_,hs,.inl rfl⟩
  ·exact(hs.2 b (B8 (Ah (An e) I.ok.above))).trans (I.base.keep b o e n hb hx)
  ·obtain⟨sl,e1⟩:=I.base.slot b o e n hb hx;exact⟨sl,(hs.2 b (B8 (Ah (An e) I.ok.above))).trans e1⟩
  ·obtain⟨o',e1⟩:=I.base.there b o e hx;exact⟨o',(hs.2 b (B8 (Ah (An e) I.ok.above))).trans e1⟩
  ·by_cases hj:j=i
   ·subst hj;rw[hi] at e1;cases e1
    rw[Mg hiσ] at e2
    cases e2
    exact⟨u,r,.inl ⟨hk,by simp⟩⟩
   ·rw[N9 (Dz hj)] at e2;obtain⟨u',r',q⟩:=hl j y v' e1 e2 e3;refine⟨u',r',?_⟩;rcases q with⟨k,e⟩|⟨k,c,e,z⟩
    ·refine .inl ⟨k,?_⟩;have:y≠x:=fun e=>hj (zf3 hN e1 (e▸hi));simp[this,e]
    ·exact .inr ⟨k,c,e,z.sameBut hs (cne y c e)⟩
  ·obtain⟨w',z⟩:=I.cell y c e;exact⟨w',z.sameBut hs (cne y c e)⟩
  ·obtain⟨e,n,ne,nf,d⟩:=I.pin p hp;exact⟨(hs.2 p.1 ne).trans e,n,ne,nf,d⟩
 ·have hfn:X.fn x=true:=by
   rcases hf with z|z
   ·exact z
   ·rw[z] at hk;cases hk
  obtain⟨c,hc⟩:=I.ok.has x (.inl hk);obtain⟨w',z⟩:=I.cell x c hc;refine wpAny_storeName_cell I.ok.kind hk hc z (fun h' hc' hs=>?_);obtain⟨oc,hoc,hocd⟩:=id z;refine h {s with heap:=h'} ⟨I.ok,I.os,I.bare,⟨fun b o e n hb hx=>?_,fun b o e n hb hx=>?_,I.base.free,fun b o e hx=>?_,I.base.tups,I.base.frzs,I.base.tbls⟩,⟨m,hn.sameBut hs (Dz (cne x c hc)),fun j y v' e1 e2 e3=>?_⟩,fun y c' e=>?_,I.free,I.freeC,fun p hp=>?_,tracked ⟨oc,hoc,I.freeC x c hc⟩ hs,by simpa using I.len⟩ ⟨c,hs,.inr hc⟩
  ·exact(hs.2 b (B8 (Ah (An e) (I.ok.cab x c hfn hc)))).trans (I.base.keep b o e n hb hx)
  ·obtain⟨sl,e1⟩:=I.base.slot b o e n hb hx;exact⟨sl,(hs.2 b (B8 (Ah (An e) (I.ok.cab x c hfn hc)))).trans e1⟩
  ·obtain⟨o',e1⟩:=I.base.there b o e hx;exact⟨o',(hs.2 b (B8 (Ah (An e) (I.ok.cab x c hfn hc)))).trans e1⟩
  ·by_cases hj:j=i
   ·subst hj;rw[hi] at e1;cases e1
    rw[Mg hiσ] at e2
    cases e2
    exact⟨u,r,.inr ⟨.inl hk,c,hc,hc'⟩⟩
   ·rw[N9 (Dz hj)] at e2;obtain⟨u',r',q⟩:=hl j y v' e1 e2 e3;refine⟨u',r',?_⟩;rcases q with q|⟨k,c',e,z'⟩
    ·exact .inl q
    ·refine .inr ⟨k,c',e,z'.sameBut hs ?_⟩;rintro rfl;exact hj (zf3 hN e1 (I.ok.inj _ _ _ e hc▸hi))
  ·by_cases hcc:c'=c
   ·subst hcc;exact⟨_,hc'⟩
   ·obtain⟨w2,z2⟩:=I.cell y c' e;exact⟨w2,z2.sameBut hs hcc⟩
  ·obtain⟨e,n,ne,nf,d⟩:=I.pin p hp;refine⟨(hs.2 p.1 ?_).trans e,n,ne,nf,d⟩;intro q;rw[q,hoc] at e;have q':oc=p.2:=Bw e;exact d w' (by rw[<-q'];exact hocd)
theorem zef{M:Hk}{A:B5}{E:A2->A5->Prop}{i:Nat}{x:Str}{v:V}{u:A2}{Q:Unit->A5->Prop}(I:Inv X pins σ H s)(hN:X.N.Nodup)(hi:X.N[i]?=some x)(hx:Loc X.env.scope x)(r:RelV v u)
  (h:∀s',Inv X pins (σ.set i (some v)) H s'->Q () s') (hf:X.fn x=true\/X.env.scope.names.lookup x=some .local:=by first|exact .inl rfl|exact .inr rfl|assumption):wpAny M A (storeName X.env x u) Q E s:=
 zeD I hN hi hx r (fun s' I' _=>h s' I') hf
theorem Inv.call'{s':A5}{ch:List A3}(I:Inv X pins σ H s)(ho:s'.os=s.os)(u:Un (frs X.stack) ch H H' s.heap s'.heap)(hok:HOk X.prog X.w H' s'.heap)(hg:Gy s'.gens)
  (hch:∀b∈ch,(b∈X.ex\/X.s₀.heap.objs.size<=b)/\b≠X.env.locals/\(∀x c,X.env.cells.lookup x=some c->c≠b)/\∀p∈X.pn++pins,p.1≠b):Inv X pins σ H' s':=by
 obtain⟨h',g',d',t',o'⟩:=s';have e:o'=s.os:=ho;subst e;exact I.call (g':=g') (t':=t') (d':=d') u hok hg hch
end
noncomputable abbrev XK:=A2->Option A3->Hp->Prop
noncomputable abbrev St:=List (Option V)
noncomputable abbrev VK:=V->Hp->Prop
noncomputable abbrev TE:=St->Hp->VK->Prop
noncomputable abbrev TT:=St->Hp->(Bool->Hp->Prop)->Prop
noncomputable abbrev TA:=St->Hp->(List V->Hp->Prop)->Prop
structure Ends where
 nx:St->Hp->Prop
 rt:VK
 bk:St->Hp->Prop:=fun _ _=>False
 ct:St->Hp->Prop:=fun _ _=>False
noncomputable abbrev TS:=Ends->St->Hp->Prop
noncomputable def EP(X:Cx)(pins:List (A3×Obj))(σ:St)(Q:VK)(u:A2)(s':A5):Prop:=∃v H',Inv X pins σ H' s'/\RelV v u/\Q v H'
noncomputable def TP(X:Cx)(pins:List (A3×Obj))(σ:St)(Q:Bool->Hp->Prop)(b:Bool)(s':A5):Prop:=∃H',Inv X pins σ H' s'/\Q b H'
noncomputable def AP(X:Cx)(pins:List (A3×Obj))(σ:St)(Q:List V->Hp->Prop)(us:List A2)(s':A5):Prop:=∃vs H',Inv X pins σ H' s'/\Vals vs us/\Q vs H'
noncomputable def SP(X:Cx)(pins:List (A3×Obj))(D:Ends)(f:Flow)(s':A5):Prop:=
 match f with
 | .next=>∃σ' H',Inv X pins σ' H' s'/\D.nx σ' H'
 | .brk=>∃σ' H',Inv X pins σ' H' s'/\D.bk σ' H'
 | .cont=>∃σ' H',Inv X pins σ' H' s'/\D.ct σ' H'
 | .ret u=>∃v σ' H',Inv X pins σ' H' s'/\RelV v u/\D.rt v H'
noncomputable def PE(X:Cx)(e:Cb)(t:TE):Prop:=
 ∀(pins:List (A3×Obj))(s:A5)(σ:St)(H:Hp)(Q:VK),Inv X pins σ H s->t σ H Q->wpAny (model X.prog X.w) X.A (eval e X.env) (EP X pins σ Q) X.xe s
noncomputable def PT(X:Cx)(e:Cb)(t:TT):Prop:=
 ∀(pins:List (A3×Obj))(s:A5)(σ:St)(H:Hp)(Q:Bool->Hp->Prop),Inv X pins σ H s->t σ H Q->wpAny (model X.prog X.w) X.A (isTrue e X.env (eval e X.env)) (TP X pins σ Q) X.xe s
noncomputable def PW(X:Cx)(e:Cb)(t:TT):Prop:=
 ∀(whole:Sem A2)(pins:List (A3×Obj))(s:A5)(σ:St)(H:Hp)(Q:Bool->Hp->Prop),Inv X pins σ H s->t σ H Q->wpAny (model X.prog X.w) X.A (isTrue e X.env whole) (TP X pins σ Q) X.xe s
theorem PW.pt{X:Cx}{e:Cb}{t:TT}(h:PW X e t):PT X e t:=h _
noncomputable def PA(X:Cx)(es:List Cb)(t:TA):Prop:=
 ∀(pos:Pos)(pins:List (A3×Obj))(s:A5)(σ:St)(H:Hp)(Q:List V->Hp->Prop),Inv X pins σ H s->t σ H Q->wpAny (model X.prog X.w) X.A (spliced (backTo pos (starEach es X.env))) (AP X pins σ Q) X.xe s
noncomputable def PS(X:Cx)(st:Ca)(t:TS):Prop:=
 ∀(pins:List (A3×Obj))(s:A5)(σ:St)(H:Hp)(D:Ends),Inv X pins σ H s->t D σ H->wpAny (model X.prog X.w) X.A (exec st X.env) (SP X pins D) X.xe s
noncomputable def PSs(X:Cx)(st:List Ca)(t:TS):Prop:=
 ∀(pins:List (A3×Obj))(s:A5)(σ:St)(H:Hp)(D:Ends),Inv X pins σ H s->t D σ H->wpAny (model X.prog X.w) X.A (execs st X.env) (SP X pins D) X.xe s
theorem thn{α:Type}{t:Sem α}{Q Q':α->A5->Prop}{M:Hk}{A:B5}{E:A2->A5->Prop}{s:A5}(h:wpAny M A t Q E s)(hQ:∀a s,Q a s->Q' a s):wpAny M A t Q' E s:=Ct h hQ fun _ _ x=>x
theorem thnE{α β:Type}{Rl:β->α->Prop}{X:Cx}{pins:List (A3×Obj)}{σ:St}{R:β->Hp->Prop}{t:Sem α}{Q':α->A5->Prop}{M:Hk}{A:B5}{E:A2->A5->Prop}{s:A5}(h:wpAny M A t (fun u s'=>∃v H',Inv X pins σ H' s'/\Rl v u/\R v H') E s)(k:∀u s' v H',Inv X pins σ H' s'->Rl v u->R v H'->Q' u s'):wpAny M A t Q' E s:=Ct h (fun u s' z=>by
 obtain⟨v,H',I,r,q⟩:=z;exact k u s' v H' I r q) fun _ _ x=>x
section
variable{X:Cx}
noncomputable def tVar(i:Nat):TE:=fun σ H Q=>∃v,σ[i]?=some (some v)/\Q v H
noncomputable def tC(v:V):TE:=fun _ H Q=>Q v H
theorem pe_var{i:Nat}{x:Str}{pos:Pos}(hN:X.N[i]?=some x)(hv:Vis X.env.scope x)(hd:(x==("__debug__":Str))=false:=by decide)(hcd:(x==("__classdict__":Str))=false:=by decide):PE X (.Name x pos) (tVar i):=by
 intro pins s σ H Q I h;obtain⟨v,e,h⟩:=h;obtain⟨m,hn,hl⟩:=I.loc;obtain⟨u,r,l⟩:=hl i x v hN e hv;have fin:EP X pins σ Q u s:=⟨v,H,I,r,h⟩;rcases l with⟨hk,hm⟩|⟨hk,c,hc,hcell⟩
 ·exact Pb (wpAny_loadName_local I.ok.kind hk hn hm fin) hd
 ·rcases hk with hk|hk
  ·exact Pb (wpAny_loadName_cell I.ok.kind hk hc hcell fin) hd
  ·exact Pb (wpAny_loadName_free I.ok.kind hk hc hcell fin hcd) hd
theorem zad{i j pos}:PE X (.Constant (.int i) j pos) (tC (.int i)):=fun _ _ _ H _ I h=>wpAny_Constant_int ⟨.int i,H,I.tok _,⟨_,rfl⟩,h⟩
theorem zbn{b j pos}:PE X (.Constant (.bool b) j pos) (tC (.bl b)):=fun _ _ _ H _ I h=>Constant_bool ⟨.bl b,H,I,rfl,h⟩
theorem zhz{j pos}:PE X (.Constant .none j pos) (tC .non):=fun _ _ _ H _ I h=>Constant_none ⟨.non,H,I,rfl,h⟩
theorem zaw{x j pos}:PE X (.Constant (.str x) j pos) (tC (.str x)):=fun _ _ _ H _ I h=>Calls.Constant_str ⟨.str x,H,I.tok _,⟨_,rfl⟩,h⟩
noncomputable def Gl(X:Cx)(x:Str):Prop:=X.env.kindOf x=some .globalImplicit
theorem zcW{E:A2->A5->Prop}{pins:List (A3×Obj)}{s:A5}{σ:St}{H:Hp}{x:Str}{u:A2}{pos:Pos}{Q:A2->A5->Prop}(I:Inv X pins σ H s)(hg:Gl X x)(hm:X.mg x=some u)(h:Q u s)
  (hd:(x==("__debug__":Str))=false:=by decide):wpAny (model X.prog X.w) X.A (eval (.Name x pos) X.env) Q E s:=
 Ld I.ok.kind hg (Calls.loadGlobal_global (by rw[I.ok.glob];exact I.mod.glob.keeps I.bk) hm h) hd
theorem zd7{E:A2->A5->Prop}{pins:List (A3×Obj)}{s:A5}{σ:St}{H:Hp}{x:Str}{u:A2}{pos:Pos}{Q:A2->A5->Prop}(I:Inv X pins σ H s)(hg:Gl X x)(hm:X.mg x=none)(hv:bootBuiltins x=some u)(h:Q u s)
  (hn:x≠"__name__":=by decide) (hd:(x==("__debug__":Str))=false:=by decide):wpAny (model X.prog X.w) X.A (eval (.Name x pos) X.env) Q E s:=by
 obtain⟨mb,h1,h2⟩:=I.mod.blt;exact Ld I.ok.kind hg (Calls.loadGlobal_builtin (by rw[I.ok.glob];exact I.mod.glob.keeps I.bk) hm (by rw[I.ok.blt];exact h1.keeps I.bk) ((h2 x hn).trans hv) h) hd
theorem zgQ{x:Str}{v:V}{u:A2}{pos:Pos}(hg:Gl X x)(hm:X.mg x=some u)(r:RelV v u)(hd:(x==("__debug__":Str))=false:=by decide):PE X (.Name x pos) (tC v):=
 fun _ _ _ H _ I h=>zcW I hg hm ⟨v,H,I,r,h⟩ hd
theorem zbO{x:Str}{v:V}{u:A2}{pos:Pos}(hg:Gl X x)(hm:X.mg x=none)(hv:bootBuiltins x=some u)(r:RelV v u)(hn:x≠"__name__":=by decide)(hd:(x==("__debug__":Str))=false:=by decide):PE X (.Name x pos) (tC v):=
 fun _ _ _ H _ I h=>zd7 I hg hm hv ⟨v,H,I,r,h⟩ hn hd
variable{a b:Cb}{ta tb:TE}{pos:Pos}
noncomputable def PC(X:Cx)(op:Nv)(a b:Cb)(t:TE):Prop:=
 ∀(pins:List (A3×Obj))(s:A5)(σ:St)(H:Hp)(Q:VK),Inv X pins σ H s->t σ H Q->
  wpAny (model X.prog X.w) X.A (eval a X.env) (fun v s₁=>wpAny (model X.prog X.w) X.A (eval b X.env) (fun u s₂=>wpAny (model X.prog X.w) X.A (compareOp op v u) (EP X pins σ Q) X.xe s₂) X.xe s₁) X.xe s
noncomputable def tB(t:TE):TT:=fun σ H Q=>t σ H fun x H1=>∃c,x= .bl c/\Q c H1
theorem zhA{op:Nv}{t:TE}(h:PC X op a b t)(h1:behindInMarks op b=false:=by first|exact nobehind _ (by decide) (by decide)|rfl):PE X (.Compare a [op] [b] pos) t:=fun pins s σ H Q I hw=>Ro (h pins s σ H Q I hw) h1
theorem zd3{op:Nv}{t:TE}(h:PC X op a b t)(h1:behindInMarks op b=false:=by first|exact nobehind _ (by decide) (by decide)|rfl):PT X (.Compare a [op] [b] pos) (tB t):=by
 intro pins s σ H Q I hw;refine Og (thn (h pins s σ H _ I hw) fun v s1 h1=>thn h1 fun u s2 h2=>thn h2 fun c s3⟨x,H1,I1,r1,q1⟩=>?_) h1;obtain⟨d,rfl,q⟩:=q1
 cases r1
 exact D4 ⟨H1,I1,q⟩
theorem zbb{e:Cb}{t:TE}(h:PE X e t)(he:∀whole,isTrue e X.env whole=(do let v<-whole;standAt e.pos;holding [v] (truthy v)):=by intro _;rfl):PT X e (tB t):=by
 intro pins s σ H Q I hw;refine isTrue_plain (thnE (h pins s σ H _ I hw) fun v s1 x H1 I1 r1 q1=>?_) (he _);obtain⟨d,rfl,q⟩:=q1
 cases r1
 exact D4 ⟨H1,I1,q⟩
variable{tA tB':TT}{rest:List Cb}
noncomputable def tAnd(t u:TT):TT:=fun σ H Q=>t σ H fun c H1=>if c=true then u σ H1 Q else Q false H1
noncomputable def tOr(t u:TT):TT:=fun σ H Q=>t σ H fun c H1=>if c=true then Q true H1 else u σ H1 Q
noncomputable def tNot(t:TT):TT:=fun σ H Q=>t σ H fun c H1=>Q (!c) H1
theorem zfn(ha:PT X a tA):PW X (.BoolOp .And [a] pos) tA:=by
 intro wh pins s σ H Q I h;refine isTrue_and (thn (ha pins s σ H Q I h) fun c s1 e=>?_)
 cases c with
 |true=>exact isTrue_and_nil e
 |false=>exact e
theorem zc4(ha:PT X a tA):PW X (.BoolOp .Or [a] pos) tA:=by
 intro wh pins s σ H Q I h;refine isTrue_or (thn (ha pins s σ H Q I h) fun c s1 e=>?_)
 cases c with
 |false=>exact isTrue_or_nil e
 |true=>exact e
theorem zgJ(ha:PT X a tA)(hb:PW X (.BoolOp .And (b::rest) pos) tB'):PW X (.BoolOp .And (a::b::rest) pos) (tAnd tA tB'):=by
 intro wh pins s σ H Q I h;refine isTrue_and (thn (ha pins s σ H _ I h) fun c s1⟨H1,I1,q1⟩=>?_)
 cases c with
 |true=>exact hb wh pins s1 σ H1 Q I1 q1
 |false=>exact⟨H1,I1,q1⟩
theorem zcT(ha:PT X a tA)(hb:PW X (.BoolOp .Or (b::rest) pos) tB'):PW X (.BoolOp .Or (a::b::rest) pos) (tOr tA tB'):=by
 intro wh pins s σ H Q I h;refine isTrue_or (thn (ha pins s σ H _ I h) fun c s1⟨H1,I1,q1⟩=>?_)
 cases c with
 |true=>exact⟨H1,I1,q1⟩
 |false=>exact hb wh pins s1 σ H1 Q I1 q1
theorem za9(ha:PT X a tA):PT X (.UnaryOp .Not a pos) (tNot tA):=by
 intro pins s σ H Q I h;exact isTrue_not (ha pins s σ H (fun c H1=>Q (!c) H1) I h)
noncomputable def tAndV(ta tb:TE):TE:=fun σ H Q=>ta σ H fun x H1=>∃c,x= .bl c/\if c=true then tb σ H1 Q else Q (.bl false) H1
noncomputable def tNotV(ta:TE):TE:=fun σ H Q=>ta σ H fun x H1=>∃c,x= .bl c/\Q (.bl (!c)) H1
theorem zeM{op}{t:TE}(h:PE X a t):PE X (.BoolOp op [a] pos) t:=fun pins s σ H Q I hw=>BoolOp_one (h pins s σ H Q I hw)
theorem zd5(ha:PE X a ta)(hb:PE X (.BoolOp .And (b::rest) pos) tb):PE X (.BoolOp .And (a::b::rest) pos) (tAndV ta tb):=by
 intro pins s σ H Q I h;refine BoolOp_and (thnE (ha pins s σ H _ I h) fun v s1 x H1 I1 r1 q1=>?_);obtain⟨c,rfl,q1⟩:=q1
 cases r1
 refine D4 ?_
 cases c with
 |true=>exact hb pins s1 σ H1 Q I1 q1
 |false=>exact⟨.bl false,H1,I1,rfl,q1⟩
theorem pe_not(ha:PE X a ta):PE X (.UnaryOp .Not a pos) (tNotV ta):=by
 intro pins s σ H Q I h;refine UnaryOp_ (thnE (ha pins s σ H _ I h) fun v s1 x H1 I1 r1 q1=>?_);obtain⟨c,rfl,q1⟩:=q1
 cases r1
 exact not_of (D4 ⟨.bl (!c),H1,I1,rfl,q1⟩)
noncomputable def tIf(t:TT)(ta tb:TE):TE:=fun σ H Q=>t σ H fun c H1=>if c=true then ta σ H1 Q else tb σ H1 Q
theorem pe_ifExp{c:Cb}(hc:PT X c tA)(ha:PE X a ta)(hb:PE X b tb):PE X (.IfExp c a b pos) (tIf tA ta tb):=by
 intro pins s σ H Q I h;refine wpAny_IfExp (thn (hc pins s σ H _ I h) fun d s1⟨H1,I1,q1⟩=>?_)
 cases d with
 |true=>exact ha pins s1 σ H1 Q I1 q1
 |false=>exact hb pins s1 σ H1 Q I1 q1
end
noncomputable def SqL(K:Am)(H:Hp)(a:A3)(xs:List V):Prop:=
 Rd H a (.lst xs)\/
  ∃(o:Obj)(its:Array A2)(n:Nat),K.lookup a=some o/\o.cls= .type "list"/\o.dict=none/\o.data= .seq its n/\its.size<=sizeLine/\Vals xs its.toList
noncomputable def SqT(K:Am)(H:Hp)(a:A3)(xs:List V):Prop:=
 Rd H a (.tup xs)\/
  ∃(o:Obj)(its:Array A2)(n:Nat),K.lookup a=some o/\o.cls= .type "tuple"/\o.data= .seq its n/\its.size<=sizeLine/\Vals xs its.toList
noncomputable def absV:A2->Option V
 | .none=>some .non
 | .bool b=>some (.bl b)
 | .int i _=>some (.int i)
 | .str x _=>some (.str x)
 | .bytes b _=>some (.byt b)
 | .float b _=>some (.flt b)
 | .ref a=>some (.ref a)
 | .type n=>some (.ty n)
 |_=>none
theorem RelV.abs{x:V}{u:A2}(r:RelV x u):absV u=some x:=by
 cases x with
 |non=>cases r;rfl
 |bl _=>cases r;rfl
 |int _=>obtain⟨t,rfl⟩:=r;rfl
 |str _=>obtain⟨t,rfl⟩:=r;rfl
 |byt _=>obtain⟨t,rfl⟩:=r;rfl
 |flt _=>obtain⟨t,rfl⟩:=r;rfl
 |ref _=>cases r;rfl
 |ty _=>cases r;rfl
theorem RelV.inj{x y:V}{u:A2}(r:RelV x u)(q:RelV y u):x=y:=Bw (r.abs.symm.trans q.abs)
theorem Vals.inj:∀{xs ys:List V}{us:List A2},Vals xs us->Vals ys us->xs=ys
 |_,_,_,.nil,.nil=>rfl
 |_,_,_,.cons r t,.cons r' t'=>by rw[r.inj r',Vals.inj t t']
section
variable{X:Cx}{pins:List (A3×Obj)}{σ:St}{H:Hp}{s:A5}{a:A3}{xs ys:List V}
theorem SqL.of{K:Am}(h:H a=some (.lst xs)):SqL K H a xs:=.inl (.inl h)
theorem SqT.of{K:Am}(h:H a=some (.tup xs)):SqT K H a xs:=.inl (.inl h)
theorem Inv.list(I:Inv X pins σ H s)(h:SqL X.K H a xs):∃its:List A2,Vals xs its/\PlainL s.heap a its.toArray/\xs.length<=sizeLine:=by
 rcases h with h|⟨o,its,n,hk,hc,hd,hs,hz,r⟩
 ·obtain⟨z,its,n,r,e⟩:=h.ok I.hok;exact⟨its,r,⟨_,n,e,rfl,rfl,rfl⟩,z⟩
 ·refine⟨its.toList,r,⟨o,n,I.kIn a o hk,hc,hd,by simpa using hs⟩,?_⟩;have e:=r.length;simp only[As] at e;omega
theorem Inv.tuple(I:Inv X pins σ H s)(h:SqT X.K H a xs):∃its:List A2,Vals xs its/\Js s.heap a its.toArray/\xs.length<=sizeLine:=by
 rcases h with h|⟨o,its,n,hk,hc,hs,hz,r⟩
 ·obtain⟨z,its,r,p⟩:=h.ok I.hok;exact⟨its,r,p,z⟩
 ·refine⟨its.toList,r,⟨o,I.kIn a o hk,hc,n,by simpa using hs⟩,?_⟩;have e:=r.length;simp only[As] at e;omega
theorem Inv.list_inj(I:Inv X pins σ H s)(h:SqL X.K H a xs)(h':SqL X.K H a ys):xs=ys:=by
 obtain⟨its,r,⟨o,n,e,_,_,d⟩,_⟩:=I.list h;obtain⟨its',r',⟨o',n',e',_,_,d'⟩,_⟩:=I.list h';rw[e] at e';cases e'
 rw[d] at d';injection d' with d1 _;have:its=its':=by simpa using congrArg Mb d1
 subst this;exact r.inj r'
theorem Inv.tuple_inj(I:Inv X pins σ H s)(h:SqT X.K H a xs)(h':SqT X.K H a ys):xs=ys:=by
 obtain⟨its,r,⟨o,e,_,n,d⟩,_⟩:=I.tuple h;obtain⟨its',r',⟨o',e',_,n',d'⟩,_⟩:=I.tuple h';rw[e] at e';cases e'
 rw[d] at d';injection d' with d1 _;have:its=its':=by simpa using congrArg Mb d1
 subst this;exact r.inj r'
end
noncomputable abbrev Cx.wish(X:Cx)(E:A2->A5->Prop):Cx:={X with xe:=E}
noncomputable abbrev Cx.nox(X:Cx):Cx:=X.wish fun _ _=>False
theorem Cx.Ok.wish{X:Cx}(ok:X.Ok)(E:A2->A5->Prop):(X.wish E).Ok:=
 ⟨ok.mod,ok.kind,ok.glob,ok.blt,ok.above,ok.inj,ok.has,ok.cab,ok.hd,ok.frames,ok.stk,ok.exf,ok.bs,ok.bsz,ok.noex,ok.exfs,ok.funs,ok.frf⟩
theorem Cx.Ok.unwish{X:Cx}{E:A2->A5->Prop}(ok:(X.wish E).Ok):X.Ok:=
 ⟨ok.mod,ok.kind,ok.glob,ok.blt,ok.above,ok.inj,ok.has,ok.cab,ok.hd,ok.frames,ok.stk,ok.exf,ok.bs,ok.bsz,ok.noex,ok.exfs,ok.funs,ok.frf⟩
section
variable{X:Cx}{pins:List (A3×Obj)}{σ:St}{H:Hp}{s:A5}{E:A2->A5->Prop}
theorem Inv.wish(I:Inv X pins σ H s)(E:A2->A5->Prop):Inv (X.wish E) pins σ H s:=⟨I.ok.wish E,I.os,I.bare,I.base,I.loc,I.cell,I.free,I.freeC,I.pin,I.hok,I.len⟩
theorem Inv.unwish(I:Inv (X.wish E) pins σ H s):Inv X pins σ H s:=⟨I.ok.unwish,I.os,I.bare,I.base,I.loc,I.cell,I.free,I.freeC,I.pin,I.hok,I.len⟩
theorem SP.unwish{D:Ends}{f:Flow}{s':A5}(h:SP (X.wish E) pins D f s'):SP X pins D f s':=by
 cases f with
 |next=>obtain⟨σ',H',I,q⟩:=h;exact⟨σ',H',I.unwish,q⟩
 |brk=>obtain⟨σ',H',I,q⟩:=h;exact⟨σ',H',I.unwish,q⟩
 |cont=>obtain⟨σ',H',I,q⟩:=h;exact⟨σ',H',I.unwish,q⟩
 |ret u=>obtain⟨v,σ',H',I,r,q⟩:=h;exact⟨v,σ',H',I.unwish,r,q⟩
theorem PSs.nox{st:List Ca}{t:TS}(h:PSs X.nox st t):PSs X st t:=fun pins s σ H D I hw=>
 Ct (h pins s σ H D (I.wish _) hw) (fun _ _ q=>q.unwish) fun _ _ z=>Ci z
end
section
variable{X:Cx}{st:Ca}{rest:List Ca}{t u:TS}{e:Cb}{te:TE}{pos:Pos}
noncomputable def tNext:TS:=fun D σ H=>D.nx σ H
noncomputable def tSeq(t u:TS):TS:=fun D σ H=>t {D with nx:=u D} σ H
theorem zan:PSs X [] tNext:=fun _ _ σ H _ I h=>Hg ⟨σ,H,I,h⟩
theorem zac(h1:PS X st t)(h2:PSs X rest u):PSs X (st::rest) (tSeq t u):=by
 intro pins s σ H D I h;refine Lj (thn (h1 pins s σ H {D with nx:=u D} I h) fun f s1 q=>?_)
 cases f with
 |next=>
  obtain⟨σ',H',I',q⟩:=q;exact h2 pins s1 σ' H' D I' q
 |ret v=>exact q
 |brk=>exact q
 |cont=>exact q
theorem zaf(h1:PS X st t):PSs X [st] t:=by
 intro pins s σ H D I h;refine Lj (thn (h1 pins s σ H D I h) fun f s1 q=>?_)
 cases f with
 |next=>exact Hg q
 |ret v=>exact q
 |brk=>exact q
 |cont=>exact q
theorem Inv.quiet{pins:List (A3×Obj)}{σ:St}{H:Hp}{s:A5}(I:Inv X pins σ H s):interactive X.env=false:=by simp[interactive,I.ok.kind]
noncomputable def tDrop(te:TE):TS:=fun D σ H=>te σ H fun _ H1=>D.nx σ H1
theorem zbd(he:PE X e te)(hs:swapsWith e none pos.line X.env=pure false:=by rfl):PS X (.Expr e pos) (tDrop te):=by
 intro pins s σ H D I h;exact wpAny_Expr_any (thnE (he pins s σ H _ I h) fun v s1 x H1 I1 r1 q1=>⟨σ,H1,I1,q1⟩) I.quiet hs
noncomputable def tRet(te:TE):TS:=fun D σ H=>te σ H D.rt
theorem zaj(he:PE X e te):PS X (.Return (some e) pos) (tRet te):=by
 intro pins s σ H D I h;exact wpAny_Return_some (thnE (he pins s σ H _ I h) fun v s1 x H1 I1 r1 q1=>⟨x,σ,H1,I1,r1,q1⟩)
noncomputable def tIfS(c:TT)(t u:TS):TS:=fun D σ H=>c σ H fun b H1=>if b=true then t D σ H1 else u D σ H1
theorem zaE{c:Cb}{a b:List Ca}{tc:TT}(hc:PT X c tc)(ha:PSs X a t)(hb:PSs X b u):PS X (.If c a b pos) (tIfS tc t u):=by
 intro pins s σ H D I h;refine wpAny_If (thn (hc pins s σ H _ I h) fun d s1⟨H1,I1,q1⟩=>?_)
 cases d with
 |true=>exact ha pins s1 σ H1 D I1 q1
 |false=>exact hb pins s1 σ H1 D I1 q1
end
noncomputable abbrev TG:=V->St->Hp->(St->Hp->Prop)->Prop
noncomputable abbrev TGs:=List V->St->Hp->(St->Hp->Prop)->Prop
noncomputable def PG(X:Cx)(target:Cb)(t:TG):Prop:=
 ∀(pins:List (A3×Obj))(s:A5)(σ:St)(H:Hp)(v:V)(u:A2)(Q:St->Hp->Prop),Inv X pins σ H s->RelV v u->t v σ H Q->
  wpAny (model X.prog X.w) X.A (assign target X.env u) (fun _ s'=>∃σ' H',Inv X pins σ' H' s'/\Q σ' H') X.xe s
noncomputable def PGs(X:Cx)(ts:List Cb)(t:TGs):Prop:=
 ∀(pins:List (A3×Obj))(s:A5)(σ:St)(H:Hp)(vs:List V)(us:List A2)(Q:St->Hp->Prop),Inv X pins σ H s->Vals vs us->t vs σ H Q->
  wpAny (model X.prog X.w) X.A (assignInOrder ((assignEach ts X.env).map (·.2)) us) (fun _ s'=>∃σ' H',Inv X pins σ' H' s'/\Q σ' H') X.xe s
noncomputable abbrev TSet:=V->V->V->Hp->(Hp->Prop)->Prop
noncomputable def PSet(X:Cx)(t:TSet):Prop:=
 ∀(pins:List (A3×Obj))(s:A5)(σ:St)(H:Hp)(o i v:V)(ov iv u:A2)(Q:Hp->Prop),Inv X pins σ H s->RelV o ov->RelV i iv->RelV v u->t o i v H Q->
  wpAny (model X.prog X.w) X.A (setItem ov iv u) (fun _ s'=>∃H',Inv X pins σ H' s'/\Q H') X.xe s
section
variable{X:Cx}{pos:Pos}
noncomputable def gName(i:Nat):TG:=fun v σ H Q=>Q (σ.set i (some v)) H
theorem zal{i:Nat}{x:Str}(hN:X.N.Nodup)(hi:X.N[i]?=some x)(hx:Loc X.env.scope x)(hf:X.fn x=true\/X.env.scope.names.lookup x=some .local:=by first|exact .inl rfl|exact .inr rfl|assumption):PG X (.Name x pos) (gName i):=by
 intro pins s σ H v u Q I r h;exact Pj (zef I hN hi hx r (fun s' I'=>⟨_,H,I',h⟩) hf)
noncomputable def gNil:TGs:=fun vs σ H Q=>vs=[]/\Q σ H
noncomputable def gCons(t:TG)(u:TGs):TGs:=fun vs σ H Q=>∃v r,vs=v::r/\t v σ H fun σ' H'=>u r σ' H' Q
theorem zbM:PGs X [] gNil:=by
 intro pins s σ H vs us Q I r h;obtain⟨e,h⟩:=h;subst e
 cases r
 exact assignInOrder_nil ⟨σ,H,I,h⟩
theorem zaL{e:Cb}{es:List Cb}{t:TG}{u:TGs}(h1:PG X e t)(h2:PGs X es u)
  (hs:(assignEach (e::es) X.env).map (·.2)=assign e X.env::(assignEach es X.env).map (·.2):=by rfl):PGs X (e::es) (gCons t u):=by
 intro pins s σ H vs us Q I r h;obtain⟨v,vr,e1,h⟩:=h;subst e1
 cases r with
 |cons r rr=>
  rw[hs];refine assignInOrder_cons (thn (h1 pins s σ H _ _ _ I r h) fun _ s1⟨σ1,H1,I1,q1⟩=>?_);exact h2 pins s1 σ1 H1 _ _ Q I1 rr q1
noncomputable def gTup(K:Am)(n:Nat)(t:TGs):TG:=fun v σ H Q=>∃a xs,v= .ref a/\SqT K H a xs/\xs.length=n/\t xs σ H Q
theorem zeL{es:List Cb}{k:Nat}{t:TGs}{n:Nat}(hc:X.calm=true)(h:PGs X es t)
  (hn:(assignEach es X.env).length=n:=by rfl) (hst:(assignEach es X.env).findIdx? (·.1)=none:=by rfl):PG X (.Tuple es k pos) (gTup X.K n t):=by
 intro pins s σ H v u Q I r hw;obtain⟨a,xs,e1,hq,hl,hw⟩:=hw;subst e1
 cases r
 obtain⟨its,rv,ht,hz⟩:=I.tuple hq;refine assign_Tuple_tuple (I.ok.hd hc) ht (by simp[hn,<-hl,rv.length]) hst fun h' hx=>?_;have I1:Inv X pins σ H {s with heap:=h'}:=I.kept (t':=s.toks) fun b o e=>hx b o (B8 (An e)) e;exact h pins _ σ H xs _ Q I1 (by simpa using rv) hw
noncomputable def gSub(to ti:TE)(t:TSet):TG:=fun v σ H Q=>to σ H fun o H1=>ti σ H1 fun i H2=>t o i v H2 fun H3=>Q σ H3
theorem zhy{o i:Cb}{to ti:TE}{t:TSet}(ho:PE X o to)(hi:PE X i ti)(hs:PSet X t)
  (ha:∀v,assign (.Subscript o i pos) X.env v=(do
   let ov<-holding [v] (eval o X.env)
   let iv<-holding [v,ov] (eval i X.env)
   standAt pos
   holding [v,ov,iv] (setItem ov iv v)
   release [v,ov,iv] []):=by intro _;rfl):PG X (.Subscript o i pos) (gSub to ti t):=by
 intro pins s σ H v u Q I r h;rw[ha];refine A1 (Cs (thnE (ho pins s σ H _ I h) fun ov s1 x H1 I1 r1 q1=>?_));refine A1 (Cs (thnE (hi pins s1 σ H1 _ I1 q1) fun iv s2 y H2 I2 r2 q2=>?_));refine A1 (Ko (A1 (Cs (thn (hs pins s2 σ H2 x y v ov iv u _ I2 r1 r2 r q2) fun _ s3⟨H3,I3,q3⟩=>?_))));exact wpAny_release ⟨σ,H3,I3,q3⟩
noncomputable def tAsg(te:TE)(g:TG):TS:=fun D σ H=>te σ H fun x H1=>g x σ H1 D.nx
theorem zgN{tg e:Cb}{te:TE}{g:TG}(he:PE X e te)(hg:PG X tg g)(hs:swapsWithSole [tg] e pos.line X.env=pure false:=by rfl)(hw:swappedStores [tg] e X.env=pure none:=by rfl)
  (h1:(assignEach [tg] X.env).map (·.2)=[assign tg X.env]:=by rfl):PS X (.Assign [tg] e pos) (tAsg te g):=by
 intro pins s σ H D I h;refine wpAny_Assign_stores (thnE (he pins s σ H _ I h) fun v s1 x H1 I1 r1 q1=>?_) hs hw;rw[h1];exact thn (hg pins s1 σ H1 x v _ I1 r1 q1) fun _ s2 q=>q
theorem zak{i:Nat}{x:Str}{e:Cb}{te:TE}{pos':Pos}(hN:X.N.Nodup)(hi:X.N[i]?=some x)(hx:Loc X.env.scope x)(he:PE X e te)(hs:swapsWith e (some (.Name x pos')) pos.line X.env=pure false:=by rfl)(hf:X.fn x=true\/X.env.scope.names.lookup x=some .local:=by first|exact .inl rfl|exact .inr rfl|assumption):
  PS X (.Assign [.Name x pos'] e pos) (tAsg te (gName i)):=by
 intro pins s σ H D I h;refine wpAny_Assign_Name (thnE (he pins s σ H _ I h) fun v s1 y H1 I1 r1 q1=>?_) hs;exact zef I1 hN hi hx r1 (fun s2 I2=>⟨_,H1,I2,q1⟩) hf
end
section
variable{X:Cx}{pos:Pos}
noncomputable def tWhile(c:TT)(tb:TS):TS:=fun D σ H=>∃W:Nat->St->Hp->Prop,(∃m,W m σ H)/\∀m σ H,W m σ H->
 c σ H fun b H1=>if b=true then∃N:St->Hp->Prop,(∀σ' H',N σ' H'->∃m',m'<m/\W m' σ' H')/\tb {D with nx:=N,ct:=N,bk:=D.nx} σ H1 else D.nx σ H1
theorem zcK{c:Cb}{body:List Ca}{tc:TT}{tb:TS}(hp:Np (model X.prog X.w) X.A X.env X.xe)(hc:PT X c tc)(hb:PSs X body tb):PS X (.While c body [] pos) (tWhile tc tb):=by
 intro pins s σ H D I h;obtain⟨W,⟨m0,w0⟩,turn⟩:=h;refine wpAny_While (codeAny_whileLoop (fun n s'=>∃σ' H',Inv X pins σ' H' s'/\W n σ' H') ?_ m0 ⟨σ,H,I,w0⟩);rintro n s1⟨σ1,H1,I1,w1⟩;refine Ff hp (thn (hc pins s1 σ1 H1 _ I1 (turn n σ1 H1 w1)) fun b s2⟨H2,I2,q2⟩=>?_)
 cases b with
 |true=>
  obtain⟨N,hN,q2⟩:=q2;rw[if_pos rfl];refine Ff hp (thn (hb pins s2 σ1 H2 _ I2 q2) fun f s3 q3=>?_)
  cases f with
  |next=>
   obtain⟨σ3,H3,I3,n3⟩:=q3;obtain⟨m',hm,w3⟩:=hN σ3 H3 n3;exact⟨m',hm,σ3,H3,I3,w3⟩
  |cont=>
   obtain⟨σ3,H3,I3,n3⟩:=q3;obtain⟨m',hm,w3⟩:=hN σ3 H3 n3;exact⟨m',hm,σ3,H3,I3,w3⟩
  |brk=>exact q3
  |ret v=>exact q3
 |false=>
  rw[if_neg Aa];exact Hg ⟨σ1,H2,I2,q2⟩
end
structure It where
 go:Nat->Hp->Prop
 yld:Nat->Hp->V->Hp->Prop
 stop:Nat->Hp->Prop
noncomputable def FpOk(X:Cx)(pins:List (A3×Obj))(H:Hp)(b:A3):Prop:=
 H b=none/\b≠X.env.locals/\b∉X.fs/\(b∈X.ex\/X.s₀.heap.objs.size<=b)/\(∀x c,X.env.cells.lookup x=some c->c≠b)/\∀p∈X.pn++pins,p.1≠b
theorem Inv.fpOk{X:Cx}{pins:List (A3×Obj)}{σ:St}{H H':Hp}{s:A5}{b:A3}(I:Inv X pins σ H s)(hb:s.heap.objs.size<=b)(hn:H' b=none):FpOk X pins H' b:=by
 refine⟨hn,Kl (Ah I.lt hb),I.nofs hb,.inr (Bt I.sz hb),fun x c e z=>?_,fun p hp z=>?_⟩
 ·obtain⟨v,q⟩:=I.cell x c e;exact absurd (Ah q.lt (by rw[z];exact hb)) (Dt _)
 ·exact absurd (Ah (An (I.pin p hp).1) (by rw[z];exact hb)) (Dt _)
structure Turn(P:Ap)(w:Bd)(K:Am)(tg:Cb)(J:It)(fp:List A3)(it:A3)(tn:Nat->Bx->Prop):Prop where
 mem:it∈fp
 obj:∀i h,tn i h->∀b∈fp,∃o,h.get? b=some o/\∀v,o.data≠.cell v
 keep:∀i h h',tn i h->(∀b∈fp,∀o,h.get? b=some o->h'.get? b=some o)->tn i h'
 item:∀(X:Cx),X.prog=P->X.w=w->X.K=K->X.calm=true->∀(i:Nat)(pins:List (A3×Obj))(s:A5)(σ:St)(H:Hp)(E:A2->A5->Prop),Inv X pins σ H s->(∀b∈fp,FpOk X pins H b)->tn i s.heap->J.go i H->
  wpAny (model P w) X.A (pyNext (.ref it)) (fun r s1=>∃u,r=some u/\
   wpAny (model P w) X.A (letOwnedTupleGo tg (.ref it) u) (fun _ s2=>∃x H',Inv X pins σ H' s2/\RelV x u/\J.yld i H x H'/\tn (i+1) s2.heap/\∀b∈fp,H' b=none) E s1) E s
 done:∀(X:Cx),X.prog=P->X.w=w->X.K=K->X.calm=true->∀(i:Nat)(pins:List (A3×Obj))(s:A5)(σ:St)(H:Hp)(E:A2->A5->Prop),Inv X pins σ H s->(∀b∈fp,FpOk X pins H b)->tn i s.heap->J.stop i H->
  wpAny (model P w) X.A (pyNext (.ref it)) (fun r s1=>r=none/\Inv X pins σ H s1) E s
 self:∀(A:B5)(i:Nat)(s:A5)(Q:A2->A5->Prop)(E:A2->A5->Prop),tn i s.heap->Q (.ref it) s->wpAny (model P w) A (pyIter (.ref it)) Q E s
noncomputable abbrev TI:=St->Hp->(It->Hp->Prop)->Prop
noncomputable def PIE(X:Cx)(pins:List (A3×Obj))(σ:St)(tg:Cb)(R:It->Hp->Prop)(itv:A2)(s2:A5):Prop:=
 ∃(it:A3)(fp:List A3)(tn:Nat->Bx->Prop)(J:It)(H':Hp),itv= .ref it/\Inv X pins σ H' s2/\Turn X.prog X.w X.K tg J fp it tn/\tn 0 s2.heap/\(∀b∈fp,FpOk X pins H' b)/\R J H'
noncomputable def PI(X:Cx)(tg iter:Cb)(wi:TI):Prop:=
 ∀(pins:List (A3×Obj))(s:A5)(σ:St)(H:Hp)(R:It->Hp->Prop),Inv X pins σ H s->wi σ H R->
  wpAny (model X.prog X.w) X.A (eval iter X.env) (fun v s1=>wpAny (model X.prog X.w) X.A (pyIter v) (PIE X pins σ tg R) X.xe s1) X.xe s
theorem zfw{M:Hk}{A:B5}{E:A2->A5->Prop}{s:A5}{tg:Cb}{it:A3}{u:A2}{o:Obj}{n:String}{vs:Array A2}{Q:Unit->A5->Prop}(ho:s.heap.get? it=some o)(hc:o.cls= .type n)(hd:o.data= .fields vs)
  (hn:["enumerate","zip","dict_itemiterator","dict_reverseitemiterator","odict_iterator","itertools.zip_longest","itertools.pairwise"].contains n=false) (hQ:Q () s):wpAny M A (letOwnedTupleGo tg (.ref it) u) Q E s:=by
 unfold letOwnedTupleGo
 cases tg<;>first
  |exact Ae hQ
  | (cases u <;> first
    |exact Ae hQ
    | (refine A1 (wpAny_load ho ?_)
       rw[hc,hd];show wpAny M A (if(["enumerate","zip","dict_itemiterator","dict_reverseitemiterator","odict_iterator","itertools.zip_longest","itertools.pairwise"].contains n&&vs[0]? ==some (rawInt _))=true then _ else _) Q E s;rw[if_neg (by intro h;rw[hn,Eo] at h;cases h)];exact Ae hQ))
noncomputable def Itl(K:Am)(a:A3):It:=
 ⟨fun i H=>∃xs x,SqL K H a xs/\xs[i]?=some x,fun i H x H'=>H'=H/\∀xs,SqL K H a xs->xs[i]?=some x,fun i H=>∃xs,SqL K H a xs/\xs.length<=i⟩
noncomputable def Itt(K:Am)(a:A3):It:=
 ⟨fun i H=>∃xs x,SqT K H a xs/\xs[i]?=some x,fun i H x H'=>H'=H/\∀xs,SqT K H a xs->xs[i]?=some x,fun i H=>∃xs,SqT K H a xs/\xs.length<=i⟩
noncomputable def Itr(lo:Int)(n:Nat):It:=⟨fun i _=>i<n,fun i H x H'=>H'=H/\x= .int (lo+i),fun i _=>n<=i⟩
theorem turn_list{P:Ap}{w:Bd}{K:Am}{tg:Cb}(a it:A3):Turn P w K tg (Itl K a) [it] it (fun i h=>h.IsListIter it a i) where
 mem:=by simp
 obj:=fun i h st b hb=>by
  have e:b=it:=by simpa using hb
  subst e;obtain⟨o,e,c,d⟩:=st;exact⟨o,e,fun v z=>by rw[d] at z;cases z⟩
 keep:=fun i h h' st k=>st.at fun o e=>k it (by simp) o e
 item:=by
  intro X hP hw hK hc i pins s σ H E I hf st hg;subst hP hw hK;obtain⟨xs,x,hq,hx⟩:=hg;obtain⟨its,rv,p,hz⟩:=I.list hq;obtain⟨u,hu,ru⟩:=rv.get hx;obtain⟨f0,f1,f2,f3,f4,f5⟩:=hf it (by simp);refine wpAny_pyNext_list_item st p.isList (x:=u) (by simpa using hu) fun h' st' sb=>?_;have I1:Inv X pins σ H {s with heap:=h'}:=I.turned (t':=s.toks) (fun b o hb e=>(sb.2 b hb).trans e) f0 f1 f3 f4 f5;obtain⟨o,e,c,d⟩:=id st';exact⟨u,rfl,zfw (s:={s with heap:=h'}) e c d (by decide) ⟨x,H,I1,ru,⟨rfl,fun ys hy=>by rw[I.list_inj hy hq];exact hx⟩,st',fun b hb=>(hf b hb).1⟩⟩
 done:=by
  intro X hP hw hK hc i pins s σ H E I hf st hg;subst hP hw hK;obtain⟨xs,hq,hx⟩:=hg;obtain⟨its,rv,p,hz⟩:=I.list hq;obtain⟨f0,f1,f2,f3,f4,f5⟩:=hf it (by simp);have hl:=rv.length;exact wpAny_pyNext_list_end (I.ok.hd hc) st p.isList (by simp;omega) fun h' eb=>⟨rfl,I.turned (t':=s.toks) (fun b o hb e=>eb b o hb e) f0 f1 f3 f4 f5⟩
 self:=fun _ _ _ _ _ st h=>wpAny_pyIter_listiter st h
theorem turn_tuple{P:Ap}{w:Bd}{K:Am}{tg:Cb}(a it:A3):Turn P w K tg (Itt K a) [it] it (fun i h=>h.IsTupleIter it a i) where
 mem:=by simp
 obj:=fun i h st b hb=>by
  have e:b=it:=by simpa using hb
  subst e;obtain⟨o,e,c,d⟩:=st;exact⟨o,e,fun v z=>by rw[d] at z;cases z⟩
 keep:=fun i h h' st k=>st.at fun o e=>k it (by simp) o e
 item:=by
  intro X hP hw hK hc i pins s σ H E I hf st hg;subst hP hw hK;obtain⟨xs,x,hq,hx⟩:=hg;obtain⟨its,rv,p,hz⟩:=I.tuple hq;obtain⟨u,hu,ru⟩:=rv.get hx;obtain⟨f0,f1,f2,f3,f4,f5⟩:=hf it (by simp);refine wpAny_pyNext_tuple_item st (show s.heap.IsTuple a its.toArray from p) (x:=u) (by simpa using hu) fun h' st' sb=>?_;have I1:Inv X pins σ H {s with heap:=h'}:=I.turned (t':=s.toks) (fun b o hb e=>(sb.2 b hb).trans e) f0 f1 f3 f4 f5;obtain⟨o,e,c,d⟩:=id st';exact⟨u,rfl,zfw (s:={s with heap:=h'}) e c d (by decide) ⟨x,H,I1,ru,⟨rfl,fun ys hy=>by rw[I.tuple_inj hy hq];exact hx⟩,st',fun b hb=>(hf b hb).1⟩⟩
 done:=by
  intro X hP hw hK hc i pins s σ H E I hf st hg;subst hP hw hK;obtain⟨xs,hq,hx⟩:=hg;obtain⟨its,rv,p,hz⟩:=I.tuple hq;obtain⟨f0,f1,f2,f3,f4,f5⟩:=hf it (by simp);have hl:=rv.length;exact wpAny_pyNext_tuple_end (I.ok.hd hc) st (show s.heap.IsTuple a its.toArray from p) (by simp;omega) fun h' eb=>⟨rfl,I.turned (t':=s.toks) (fun b o hb e=>eb b o hb e) f0 f1 f3 f4 f5⟩
 self:=fun _ _ _ _ _ st h=>wpAny_pyIter_tupleiter st h
theorem turn_range{P:Ap}{w:Bd}{K:Am}{tg:Cb}(it:A3)(lo:Int)(n:Nat):Turn P w K tg (Itr lo n) [it] it (fun i h=>Gd h it (lo+(i:Nat)*1) ((n:Int)-(i:Nat)) 1) where
 mem:=by simp
 obj:=fun i h st b hb=>by
  have e:b=it:=by simpa using hb
  subst e;exact⟨_,st,fun v z=>by
   have z':Qa _=Ry v:=z
   cases z'⟩
 keep:=fun i h h' st k=>k it (by simp) _ st
 item:=by
  intro X hP hw hK hc i pins s σ H E I hf st hg;subst hP hw hK;obtain⟨f0,f1,f2,f3,f4,f5⟩:=hf it (by simp);have W:=Walks.range (prog:=X.prog) (w:=X.w) (I.ok.hd hc) it lo 1 n;refine W.item i s _ _ hg st fun v h' tk hv st' kk=>?_;obtain⟨t,rfl⟩:=hv;have I1:Inv X pins σ H {s with heap:=h',toks:=tk}:=I.turned (fun b o hb e=>kk b o (by simpa using hb) e) f0 f1 f3 f4 f5;refine⟨_,rfl,zfw (s:={s with heap:=h',toks:=tk}) (n:="range_iterator") st' rfl rfl (by decide) ⟨.int (lo+i),H,I1,⟨t,?_⟩,⟨rfl,rfl⟩,st',fun b hb=>(hf b hb).1⟩⟩;rw[Nk]
 done:=by
  intro X hP hw hK hc i pins s σ H E I hf st hg;subst hP hw hK;obtain⟨f0,f1,f2,f3,f4,f5⟩:=hf it (by simp);exact wpAny_pyNext_range_end (I.ok.hd hc) st (by have:n<=i:=hg;omega) fun h' eb=>⟨rfl,I.turned (t':=s.toks) (fun b o hb e=>eb b o hb e) f0 f1 f3 f4 f5⟩
 self:=fun _ _ _ _ _ st h=>Nw st h
section
variable{X:Cx}{tg:Cb}
noncomputable def iList(K:Am)(tl:TE):TI:=fun σ H R=>tl σ H fun x H1=>∃a,x= .ref a/\(∃xs,SqL K H1 a xs)/\R (Itl K a) H1
noncomputable def iTup(K:Am)(tl:TE):TI:=fun σ H R=>tl σ H fun x H1=>∃a,x= .ref a/\(∃xs,SqT K H1 a xs)/\R (Itt K a) H1
theorem zax{l:Cb}{tl:TE}(hl:PE X l tl):PI X tg l (iList X.K tl):=by
 intro pins s σ H R I h;refine thnE (hl pins s σ H _ I h) fun v s1 x H1 I1 r1 q1=>?_;obtain⟨a,e,⟨xs,hq⟩,q⟩:=q1;subst e
 cases r1
 obtain⟨its,rv,p,hz⟩:=I1.list hq;refine Pi p.isList ?_;refine⟨s1.heap.objs.size,[s1.heap.objs.size],_,_,H1,rfl,I1.kept (t':=s1.toks) fun b o e=>A8 _ e,turn_list a _,⟨_,Aw _ rfl,rfl,rfl⟩,fun b hb=>?_,q⟩;have e:b=s1.heap.objs.size:=by simpa using hb
 subst e;exact I1.fpOk (Ab _) (I1.hok.fresh (Ab _))
theorem pi_tup{l:Cb}{tl:TE}(hl:PE X l tl):PI X tg l (iTup X.K tl):=by
 intro pins s σ H R I h;refine thnE (hl pins s σ H _ I h) fun v s1 x H1 I1 r1 q1=>?_;obtain⟨a,e,⟨xs,hq⟩,q⟩:=q1;subst e
 cases r1
 obtain⟨its,rv,p,hz⟩:=I1.tuple hq;refine wpAny_pyIter_tuple (show s1.heap.IsTuple a its.toArray from p) ?_;refine⟨s1.heap.objs.size,[s1.heap.objs.size],_,_,H1,rfl,I1.kept (t':=s1.toks) fun b o e=>A8 _ e,turn_tuple a _,⟨_,Aw _ rfl,rfl,rfl⟩,fun b hb=>?_,q⟩;have e:b=s1.heap.objs.size:=by simpa using hb
 subst e;exact I1.fpOk (Ab _) (I1.hok.fresh (Ab _))
theorem zfZ{pins:List (A3×Obj)}{σ:St}{H:Hp}{s:A5}{R:It->Hp->Prop}{E:A2->A5->Prop}{lo hi:Int}{t u v:Tok}{tk:Nat}(I:Inv X pins σ H s)(h1: -(2 ^ 62)<=lo)(h2:lo<2 ^ 62)(h3: -(2 ^ 62)<=hi)(h4:hi<2 ^ 62)
  (q:R (Itr lo (hi-lo).toNat) H):wpAny (model X.prog X.w) X.A (pyIter (.ref s.heap.objs.size)) (PIE X pins σ tg R) E {s with heap:=s.heap.push {cls:=.type "range",data:=.fields #[.int lo t,.int hi u,.int 1 v]},toks:=tk}:=by
 refine P9 (P6 ..) (Pr h1 h2 h3 h4) ?_;have I1:Inv X pins σ H {s with heap:=s.heap.push {cls:=.type "range",data:=.fields #[.int lo t,.int hi u,.int 1 v]},toks:=tk}:=I.kept fun b o e=>A8 _ e;refine⟨(s.heap.push {cls:=.type "range",data:=.fields #[.int lo t,.int hi u,.int 1 v]}).objs.size,[(s.heap.push {cls:=.type "range",data:=.fields #[.int lo t,.int hi u,.int 1 v]}).objs.size],_,_,H,rfl,
  I1.kept (t':=tk) fun b o e=>A8 _ e,turn_range _ lo (hi-lo).toNat,?_,fun b hb=>?_,q⟩
 ·have e1:lo+((0:Nat):Int)*1=lo:=by simp
  have e2:(((hi-lo).toNat:Nat):Int)-((0:Nat):Int)=Ke lo hi 1:=by rw[Nb];split<;>omega
  show Gd _ _ (lo+((0:Nat):Int)*1) ((((hi-lo).toNat:Nat):Int)-((0:Nat):Int)) 1;rw[e1,e2];exact Aw _ rfl
 ·have e:b=(s.heap.push {cls:=.type "range",data:=.fields #[.int lo t,.int hi u,.int 1 v]}).objs.size:=by simpa using hb
  subst e;exact I1.fpOk (Ab _) (I1.hok.fresh (Ab _))
noncomputable def iRng1(ta:TA):TI:=fun σ H R=>ta σ H fun vs H1=>∃j:Int,vs=[.int j]/\ -(2 ^ 62)<=j/\j<2 ^ 62/\R (Itr 0 j.toNat) H1
noncomputable def iRng2(ta:TA):TI:=fun σ H R=>ta σ H fun vs H1=>∃i j:Int,vs=[.int i,.int j]/\(-(2 ^ 62)<=i/\i<2 ^ 62/\ -(2 ^ 62)<=j/\j<2 ^ 62)/\R (Itr i (j-i).toNat) H1
theorem zbv{a:Cb}{ta:TA}{p pos:Pos}(hg:Gl X "range")(hm:X.mg "range"=none)(ha:PA X [a] ta)(hs:starEach [a] X.env=[(false,eval a X.env)]:=by rfl):PI X tg (.Call (.Name "range" p) [a] [] pos) (iRng1 ta):=by
 intro pins s σ H R I h;refine Call_ (zd7 I hg hm Mp (Ep (thnE (ha pos pins s σ H _ I h) fun us s1 vs H1 I1 r1 q1=>?_) hs rfl));obtain⟨j,e,q1,q2,q⟩:=q1;subst e
 cases r1 with
 |cons r rr=>
  cases rr
  obtain⟨t,rfl⟩:=r;exact So (zfZ I1 (by omega) (by omega) q1 q2 (by simpa using q))
theorem pi_range2{a b:Cb}{ta:TA}{p pos:Pos}(hg:Gl X "range")(hm:X.mg "range"=none)(ha:PA X [a,b] ta)(hs:starEach [a,b] X.env=[(false,eval a X.env),(false,eval b X.env)]:=by rfl)(hs2:starEach [b] X.env=[(false,eval b X.env)]:=by rfl):
  PI X tg (.Call (.Name "range" p) [a,b] [] pos) (iRng2 ta):=by
 intro pins s σ H R I h;refine Call_ (zd7 I hg hm Mp (Ep (thnE (ha pos pins s σ H _ I h) fun us s1 vs H1 I1 r1 q1=>?_) (by rw[hs,hs2]) (by rw[hs2];rfl)));obtain⟨i,j,e,⟨q1,q2,q3,q4⟩,q⟩:=q1;subst e
 cases r1 with
 |cons r rr=>
  cases rr with
  |cons r' rr=>
   cases rr
   obtain⟨t,rfl⟩:=r;obtain⟨t',rfl⟩:=r';exact Sm (zfZ I1 q1 q2 q3 q4 q)
noncomputable def tFor(wi:TI)(g:TG)(tb:TS):TS:=fun D σ H=>wi σ H fun J H1=>∃W:Nat->Nat->St->Hp->Prop,(∃m,W 0 m σ H1)/\∀i m σ H,W i m σ H->
 (J.stop i H/\D.nx σ H)\/(J.go i H/\∃N:St->Hp->Prop,(∀σ' H',N σ' H'->∃m',m'<m/\W (i+1) m' σ' H')/\∀x H',J.yld i H x H'->g x σ H' fun σ2 H2=>tb {D with nx:=N,ct:=N,bk:=D.nx} σ2 H2)
noncomputable def pinsAt(fp:List A3)(h:Bx):List (A3×Obj):=fp.filterMap fun b=>(h.get? b).map fun o=>(b,o)
theorem zce{fp:List A3}{h:Bx}{b:A3}{o:Obj}(hb:b∈fp)(e:h.get? b=some o):(b,o)∈pinsAt fp h:=Ew.mpr ⟨b,hb,by rw[e];rfl⟩
theorem of_pinsAt{fp:List A3}{h:Bx}{p:A3×Obj}(hp:p∈pinsAt fp h):p.1∈fp/\h.get? p.1=some p.2:=by
 obtain⟨b,hb,e⟩:=Ew.mp hp
 cases q:h.get? b with
 |none=>rw[q] at e;cases e
 |some o=>
  rw[q] at e;have e':(b,o)=p:=Bw e;subst e';exact⟨hb,q⟩
theorem Inv.pinned{pins:List (A3×Obj)}{σ:St}{H:Hp}{s:A5}{fp:List A3}(I:Inv X pins σ H s)(hf:∀b∈fp,FpOk X pins H b)(ho:∀b∈fp,∃o,s.heap.get? b=some o/\∀v,o.data≠.cell v):Inv X (pins++pinsAt fp s.heap) σ H s:=
 I.pins_of fun p hp=>(Al.mp hp).elim (fun z=>I.pin p (Bi _ z)) fun z=>by
  obtain⟨hb,e⟩:=of_pinsAt z;obtain⟨f0,f1,f2,_⟩:=hf p.1 hb;obtain⟨o,e',d⟩:=ho p.1 hb;rw[e] at e';cases e'
  exact⟨e,f0,f1,f2,d⟩
theorem Inv.unpinned{pins pl:List (A3×Obj)}{σ:St}{H:Hp}{s:A5}(I:Inv X (pins++pl) σ H s):Inv X pins σ H s:=I.pins_of fun p hp=>I.pin p (Bi _ (B9 _ hp))
theorem zaY{iter:Cb}{body:List Ca}{wi:TI}{g:TG}{tb:TS}{pos:Pos}(hp:Np (model X.prog X.w) X.A X.env X.xe)(hc:X.calm=true)(hi:PI X tg iter wi)(hg:PG X tg g)(hb:PSs X body tb)
  (hs:∀x,foldedSetIterable iter X.env x=pure x:=by intro _;rfl):PS X (.For tg iter body [] pos) (tFor wi g tb):=by
 intro pins s σ H D I h;refine wpAny_For (thn (hi pins s σ H _ I h) fun v s1 h1=>thn h1 fun itv s2 h2=>?_) hs;obtain⟨it,fp,tn,J,H2,e,I2,T,st2,f2,W,⟨m0,w0⟩,turn⟩:=h2;subst e;have stat:∀{H':Hp},(∀b∈fp,H' b=none)->∀b∈fp,FpOk X pins H' b:=fun hn b hb=>⟨hn b hb,(f2 b hb).2⟩;refine codeAny_forLoop_any (fun n s'=>∃i σ' H',Inv X pins σ' H' s'/\tn i s'.heap/\(∀b∈fp,H' b=none)/\W i n σ' H') ?_ m0 ⟨0,σ,H2,I2,st2,fun b hb=>(f2 b hb).1,w0⟩;rintro n s3⟨i,σ3,H3,I3,st3,fr3,w3⟩;rcases turn i n σ3 H3 w3 with⟨stop,qn⟩|⟨go,N,hN,step⟩
 ·refine Ff hp (thn (T.done X rfl rfl rfl hc i pins s3 σ3 H3 X.xe I3 (stat fr3) st3 stop) fun r s4⟨hr,I4⟩=>?_);subst hr;exact Hg ⟨σ3,H3,I4,qn⟩
 ·refine Ff hp (thn (T.item X rfl rfl rfl hc i pins s3 σ3 H3 X.xe I3 (stat fr3) st3 go) fun r s4⟨u,hr,h4⟩=>?_);subst hr;refine Ff hp (thn h4 fun _ s5⟨x,H5,I5,r5,y5,st5,fr5⟩=>?_);have I5':=I5.pinned (stat fr5) (T.obj _ _ st5);refine Ff hp (thn (hg _ s5 σ3 H5 x u _ I5' r5 (step x H5 y5)) fun _ s6⟨σ6,H6,I6,q6⟩=>?_);refine Ff hp (thn (hb _ s6 σ6 H6 _ I6 q6) fun f s7 q7=>?_);have again:∀{σ7:St}{H7:Hp},Inv X (pins++pinsAt fp s5.heap) σ7 H7 s7->N σ7 H7->∃m,m<n/\∃i σ' H',Inv X pins σ' H' s7/\tn i s7.heap/\(∀b∈fp,H' b=none)/\W i m σ' H':=fun{σ7 H7}I7 n7=>by
   obtain⟨m',hm,w7⟩:=hN σ7 H7 n7;refine⟨m',hm,i+1,σ7,H7,I7.unpinned,T.keep _ _ _ st5 fun b hb o e=>(I7.pin (b,o) (Bi _ (Bi _ (zce hb e)))).1,fun b hb=>?_,w7⟩;obtain⟨o,e,d⟩:=T.obj _ _ st5 b hb;exact(I7.pin (b,o) (Bi _ (Bi _ (zce hb e)))).2.1
  cases f with
  |next=>obtain⟨σ7,H7,I7,n7⟩:=q7;exact again I7 n7
  |cont=>obtain⟨σ7,H7,I7,n7⟩:=q7;exact again I7 n7
  |brk=>obtain⟨σ7,H7,I7,q7⟩:=q7;exact⟨σ7,H7,I7.unpinned,q7⟩
  |ret v=>obtain⟨x7,σ7,H7,I7,r7,q7⟩:=q7;exact⟨x7,σ7,H7,I7.unpinned,r7,q7⟩
end
noncomputable abbrev R2:=V->V->Hp->VK->Prop
noncomputable def OpR(X:Cx)(f:A2->A2->Sem A2)(r:R2):Prop:=
 ∀(pins:List (A3×Obj))(s:A5)(σ:St)(H:Hp)(x y:V)(v u:A2)(Q:VK),Inv X pins σ H s->RelV x v->RelV y u->r x y H Q->
  wpAny (model X.prog X.w) X.A (f v u) (EP X pins σ Q) X.xe s
noncomputable def UnR(X:Cx)(f:A2->Sem A2)(r:V->Hp->VK->Prop):Prop:=
 ∀(pins:List (A3×Obj))(s:A5)(σ:St)(H:Hp)(x:V)(v:A2)(Q:VK),Inv X pins σ H s->RelV x v->r x H Q->
  wpAny (model X.prog X.w) X.A (f v) (EP X pins σ Q) X.xe s
noncomputable def CallR(X:Cx)(f:A2)(r:List V->Hp->VK->Prop):Prop:=
 ∀(pins:List (A3×Obj))(s:A5)(σ:St)(H:Hp)(xs:List V)(us:List A2)(Q:VK),Inv X pins σ H s->Vals xs us->r xs H Q->
  wpAny (model X.prog X.w) X.A (call f us) (EP X pins σ Q) X.xe s
noncomputable def tOp(r:R2)(ta tb:TE):TE:=fun σ H Q=>ta σ H fun x H1=>tb σ H1 fun y H2=>r x y H2 Q
noncomputable def tUn(r:V->Hp->VK->Prop)(ta:TE):TE:=fun σ H Q=>ta σ H fun x H1=>r x H1 Q
noncomputable def rI(C:Int->Int->Prop)(g:Int->Int->V):R2:=fun x y H Q=>∃i j,x= .int i/\y= .int j/\C i j/\Q (g i j) H
noncomputable def rI0(g:Int->Int->V):R2:=fun x y H Q=>∃i j,x= .int i/\y= .int j/\Q (g i j) H
noncomputable def rU(g:Int->V):V->Hp->VK->Prop:=fun x H Q=>∃i,x= .int i/\Q (g i) H
section
variable{X:Cx}{a b c:Cb}{ta tb tc:TE}{pos:Pos}
theorem binT(ha:PE X a ta)(hb:PE X b tb){pins:List (A3×Obj)}{s:A5}{σ:St}{H:Hp}{R:V->V->Hp->Prop}(I:Inv X pins σ H s)
  (h:ta σ H fun x H1=>tb σ H1 fun y H2=>R x y H2) {Q:A2->A5->Prop} {f:A2->A2->Sem A2}
  (hf:∀v u s2 x y H2,Inv X pins σ H2 s2->RelV x v->RelV y u->R x y H2->wpAny (model X.prog X.w) X.A (f v u) Q X.xe s2):
  wpAny (model X.prog X.w) X.A (eval a X.env) (fun v s₁=>wpAny (model X.prog X.w) X.A (eval b X.env) (fun u s₂=>wpAny (model X.prog X.w) X.A (f v u) Q X.xe s₂) X.xe s₁) X.xe s:=by
 refine thnE (ha pins s σ H _ I h) fun v s1 x H1 I1 r1 q1=>?_;refine thnE (hb pins s1 σ H1 _ I1 q1) fun u s2 y H2 I2 r2 q2=>?_;exact hf v u s2 x y H2 I2 r1 r2 q2
theorem zau{op:Operator}{r:R2}(ho:OpR X (binaryOp op) r)(ha:PE X a ta)(hb:PE X b tb):PE X (.BinOp a op b pos) (tOp r ta tb):=by
 intro pins s σ H Q I h;exact wpAny_BinOp (binT ha hb I h fun v u s2 x y H2 I2 rx ry q=>ho pins s2 σ H2 x y v u Q I2 rx ry q)
theorem zhO{op:UnaryOp}{r:V->Hp->VK->Prop}(ho:UnR X (unaryOp op) r)(ha:PE X a ta):PE X (.UnaryOp op a pos) (tUn r ta):=by
 intro pins s σ H Q I h;exact UnaryOp_ (thnE (ha pins s σ H _ I h) fun v s1 x H1 I1 r1 q1=>ho pins s1 σ H1 x v Q I1 r1 q1)
theorem opI{f:A2->A2->Sem A2}{C:Int->Int->Prop}{g:Int->Int->Int}
  (rule:∀(i j:Int)(t u:Tok)(s:A5)(Q:A2->A5->Prop)(E:A2->A5->Prop),C i j->Q (.int (g i j) s.toks) {s with toks:=s.toks+1}->wpAny (model X.prog X.w) X.A (f (.int i t) (.int j u)) Q E s):
  OpR X f (rI C fun i j=>.int (g i j)):=by
 intro pins s σ H x y v u Q I rx ry h;obtain⟨i,j,rfl,rfl,hc,q⟩:=h;obtain⟨t,rfl⟩:=rx;obtain⟨t',rfl⟩:=ry;exact rule i j t t' s _ _ hc ⟨.int (g i j),H,I.tok _,⟨_,rfl⟩,q⟩
theorem opI0{f:A2->A2->Sem A2}{g:Int->Int->Int}
  (rule:∀(i j:Int)(t u:Tok)(s:A5)(Q:A2->A5->Prop)(E:A2->A5->Prop),Q (.int (g i j) s.toks) {s with toks:=s.toks+1}->wpAny (model X.prog X.w) X.A (f (.int i t) (.int j u)) Q E s):
  OpR X f (rI0 fun i j=>.int (g i j)):=by
 intro pins s σ H x y v u Q I rx ry h;obtain⟨i,j,rfl,rfl,q⟩:=h;obtain⟨t,rfl⟩:=rx;obtain⟨t',rfl⟩:=ry;exact rule i j t t' s _ _ ⟨.int (g i j),H,I.tok _,⟨_,rfl⟩,q⟩
theorem opB0{f:A2->A2->Sem A2}{g:Int->Int->Bool}
  (rule:∀(i j:Int)(t u:Tok)(s:A5)(Q:A2->A5->Prop)(E:A2->A5->Prop),Q (.bool (g i j)) s->wpAny (model X.prog X.w) X.A (f (.int i t) (.int j u)) Q E s):
  OpR X f (rI0 fun i j=>.bl (g i j)):=by
 intro pins s σ H x y v u Q I rx ry h;obtain⟨i,j,rfl,rfl,q⟩:=h;obtain⟨t,rfl⟩:=rx;obtain⟨t',rfl⟩:=ry;exact rule i j t t' s _ _ ⟨.bl (g i j),H,I,rfl,q⟩
noncomputable def CDiv(i j:Int):Prop:=0<j/\j<1073741824
noncomputable def CPow(i j:Int):Prop:=0<=j/\j<=1000000/\i.natAbs<2 ^ 64
noncomputable def CMul(i j:Int):Prop:=(-(2 ^ 64)<i/\i<2 ^ 64)\/(-(2 ^ 64)<j/\j<2 ^ 64)
theorem CMul.ok{i j:Int}(h:CMul i j):IntMulOk i j:=by
 rcases h with⟨h1,h2⟩|⟨h1,h2⟩
 ·exact .of_left (Nc h1 h2)
 ·exact .of_right (Nc h1 h2)
theorem two_pow_nn(k:Nat):(0:Int)<=2 ^ k:=by
 rw[two_pow_cast];exact Int.natCast_nonneg _
theorem zbf:OpR X (binaryOp .Add) (rI0 fun i j=>.int (i+j)):=opI0 fun _ _ _ _ _ _ _ q=>add_int q
theorem zdt:OpR X (binaryOp .Sub) (rI0 fun i j=>.int (i-j)):=opI0 fun _ _ _ _ _ _ _ q=>sub_int q
theorem zeO:OpR X (binaryOp .Mult) (rI CMul fun i j=>.int (i*j)):=opI fun _ _ _ _ _ _ _ hc q=>mul_int q hc.ok
theorem zcr:OpR X (binaryOp .FloorDiv) (rI CDiv fun i j=>.int (i / j)):=opI fun i j _ _ _ _ _ hc q=>by
 have h1:(0:Int)<j:=hc.1;have h2:j<1073741824:=hc.2;exact floordiv_int (by omega) (by rw[Lp i (by omega)];exact q) (.inl (PyProof.noPylong_small (by omega)))
theorem za5:OpR X (binaryOp .Mod) (rI (fun _ j=>0<j) fun i j=>.int (i%j)):=opI fun i j _ _ _ _ _ hc q=>by
 have h1:(0:Int)<j:=hc;exact mod_int' (by omega) (by rw[Int.fmod_eq_emod_of_nonneg i (by omega)];exact q)
theorem op_pow:OpR X (binaryOp .Pow) (rI CPow fun i j=>.int (i ^ j.toNat)):=opI fun _ _ _ _ _ _ _ hc q=>pow_int_small hc.1 hc.2.1 hc.2.2 q
theorem op_shr:OpR X (binaryOp .RShift) (rI (fun _ j=>0<=j) fun i j=>.int (i / 2 ^ j.toNat)):=opI fun i j _ _ _ _ _ hc q=>
 rshift_int hc (by rw[Lp i (two_pow_nn _)];exact q)
theorem zhC:OpR X (binaryOp .BitAnd) (rI0 fun i j=>.int (Dr i j)):=opI0 fun _ _ _ _ _ _ _ q=>and_int q
theorem unI{f:A2->Sem A2}{g:Int->Int}
  (rule:∀(i:Int)(t:Tok)(s:A5)(Q:A2->A5->Prop)(E:A2->A5->Prop),Q (.int (g i) s.toks) {s with toks:=s.toks+1}->wpAny (model X.prog X.w) X.A (f (.int i t)) Q E s):
  UnR X f (rU fun i=>.int (g i)):=by
 intro pins s σ H x v Q I rx h;obtain⟨i,rfl,q⟩:=h;obtain⟨t,rfl⟩:=rx;exact rule i t s _ _ ⟨.int (g i),H,I.tok _,⟨_,rfl⟩,q⟩
theorem zgo:UnR X (unaryOp .USub) (rU fun i=>.int (-i)):=unI fun _ _ _ _ _ q=>neg_int q
end
noncomputable def scal:V->V->Bool
 | .non,.non=>true| .non,.int _=>true| .int _,.non=>true| .non,.bl _=>true| .bl _,.non=>true| .non,.str _=>true| .str _,.non=>true
 | .int _,.int _=>true| .bl _,.bl _=>true| .str _,.str _=>true| .byt _,.byt _=>true
 | .int _,.str _=>true| .str _,.int _=>true| .bl _,.str _=>true| .str _,.bl _=>true
 |_,_=>false
noncomputable def rEq:R2:=fun x y H Q=>scal x y=true/\Q (.bl (decide (x=y))) H
noncomputable def rNe:R2:=fun x y H Q=>scal x y=true/\Q (.bl (!decide (x=y))) H
theorem zhh{i j:Int}:decide (V.int i=V.int j)=(i==j):=by
 rw[Ay];simp
theorem zhK{i j:Bool}:decide (V.bl i=V.bl j)=(i==j):=by
 rw[Ay];simp
theorem zhg{i j:Str}:decide (V.str i=V.str j)=(i==j):=by
 rw[Ay];simp
theorem zhi{i j:Array UInt8}:decide (V.byt i=V.byt j)=(i.toList==j.toList):=by
 rw[Ay]
 cases i
 cases j
 simp
section
variable{X:Cx}{a b c:Cb}{ta tb tc:TE}{pos:Pos}
theorem zaI{pins:List (A3×Obj)}{σ:St}{H:Hp}{s:A5}{Q:VK}{k k':Bool}(I:Inv X pins σ H s)(q:Q (.bl k) H)(e:k=k'):EP X pins σ Q (.bool k') s:=by
 subst e;exact⟨.bl k,H,I,rfl,q⟩
theorem zcj:OpR X (compareOp .Eq) rEq:=by
 intro pins s σ H x y v u Q I rx ry h;obtain⟨hs,q⟩:=h
 cases x with
 |non=>
  cases rx
  cases y with
  |non=>cases ry;exact Qu (zaI I q (by simp))
  |bl j=>cases ry;exact Qw (zaI I q (by simp))
  |int j=>obtain⟨t',rfl⟩:=ry;exact Qv (zaI I q (by simp))
  |str j=>obtain⟨t',rfl⟩:=ry;exact Qt (zaI I q (by simp))
  |_=>exact absurd (show false=true from hs) Aa
 |bl i=>
  cases rx
  cases y with
  |non=>cases ry;exact Qy (zaI I q (by simp))
  |bl j=>cases ry;exact eq_bool (zaI I q zhK)
  |str j=>obtain⟨t',rfl⟩:=ry;exact Q2 (zaI I q (by simp))
  |_=>exact absurd (show false=true from hs) Aa
 |int i=>
  obtain⟨t,rfl⟩:=rx
  cases y with
  |non=>cases ry;exact Qx (zaI I q (by simp))
  |int j=>obtain⟨t',rfl⟩:=ry;exact eq_int (zaI I q zhh)
  |str j=>obtain⟨t',rfl⟩:=ry;exact Q1 (zaI I q (by simp))
  |_=>exact absurd (show false=true from hs) Aa
 |str i=>
  obtain⟨t,rfl⟩:=rx
  cases y with
  |non=>cases ry;exact Qs (zaI I q (by simp))
  |bl j=>cases ry;exact Q0 (zaI I q (by simp))
  |int j=>obtain⟨t',rfl⟩:=ry;exact Pz (zaI I q (by simp))
  |str j=>obtain⟨t',rfl⟩:=ry;exact eq_str (zaI I q zhg)
  |_=>exact absurd (show false=true from hs) Aa
 |byt i=>
  obtain⟨t,rfl⟩:=rx
  cases y with
  |byt j=>obtain⟨t',rfl⟩:=ry;exact PySem.W.eq_bytes (zaI I q zhi)
  |_=>exact absurd (show false=true from hs) Aa
 |_=>cases y<;>exact absurd (show false=true from hs) Aa
theorem zc6:OpR X (compareOp .NotEq) rNe:=by
 intro pins s σ H x y v u Q I rx ry h;obtain⟨hs,q⟩:=h
 cases x with
 |non=>
  cases rx
  cases y with
  |non=>cases ry;exact Qn (zaI I q (by simp))
  |bl j=>cases ry;exact Qp (zaI I q (by simp))
  |int j=>obtain⟨t',rfl⟩:=ry;exact Qo (zaI I q (by simp))
  |str j=>obtain⟨t',rfl⟩:=ry;exact Qm (zaI I q (by simp))
  |_=>exact absurd (show false=true from hs) Aa
 |bl i=>
  cases rx
  cases y with
  |non=>cases ry;exact Qr (zaI I q (by simp))
  |bl j=>cases ry;exact ne_bool (zaI I q (congrArg not zhK))
  |str j=>obtain⟨t',rfl⟩:=ry;exact Py (zaI I q (by simp))
  |_=>exact absurd (show false=true from hs) Aa
 |int i=>
  obtain⟨t,rfl⟩:=rx
  cases y with
  |non=>cases ry;exact Qq (zaI I q (by simp))
  |int j=>obtain⟨t',rfl⟩:=ry;exact ne_int (zaI I q (congrArg not zhh))
  |str j=>obtain⟨t',rfl⟩:=ry;exact Px (zaI I q (by simp))
  |_=>exact absurd (show false=true from hs) Aa
 |str i=>
  obtain⟨t,rfl⟩:=rx
  cases y with
  |non=>cases ry;exact Ql (zaI I q (by simp))
  |bl j=>cases ry;exact Pw (zaI I q (by simp))
  |int j=>obtain⟨t',rfl⟩:=ry;exact Pu (zaI I q (by simp))
  |str j=>obtain⟨t',rfl⟩:=ry;exact ne_str (zaI I q (congrArg not zhg))
  |_=>exact absurd (show false=true from hs) Aa
 |byt i=>
  obtain⟨t,rfl⟩:=rx
  cases y with
  |byt j=>obtain⟨t',rfl⟩:=ry;exact PySem.W.ne_bytes (zaI I q (congrArg not zhi))
  |_=>exact absurd (show false=true from hs) Aa
 |_=>cases y<;>exact absurd (show false=true from hs) Aa
theorem zgT:OpR X (compareOp .Lt) (rI0 fun i j=>.bl (decide (i<j))):=opB0 fun _ _ _ _ _ _ _ q=>lt_int q
theorem zcV:OpR X (compareOp .LtE) (rI0 fun i j=>.bl (decide (i<=j))):=opB0 fun _ _ _ _ _ _ _ q=>le_int q
theorem zeQ:OpR X (compareOp .Gt) (rI0 fun i j=>.bl (decide (j<i))):=opB0 fun _ _ _ _ _ _ _ q=>gt_int q
theorem zhQ:OpR X (compareOp .GtE) (rI0 fun i j=>.bl (decide (j<=i))):=opB0 fun _ _ _ _ _ _ _ q=>ge_int q
theorem op_notN:OpR X (compareOp .IsNot) (fun x y H Q=>y= .non/\Q (.bl (!decide (x= .non))) H):=by
 intro pins s σ H x y v u Q I rx ry h;obtain⟨rfl,q⟩:=h
 cases ry
 refine isnot_none_gen (zaI I q ?_)
 cases x<;>first
  | (cases rx; rfl)
  | (obtain ⟨t,rfl⟩:=rx; rfl)
theorem zas(b:Cb){op:Nv}(h:op≠.In:=by decide)(h2:op≠.NotIn:=by decide):behindInMarks op b=false:=by
 have e1:(op==CmpOp.In)=false:=by cases op<;>first|rfl|exact absurd rfl h
 have e2:(op==CmpOp.NotIn)=false:=by cases op<;>first|rfl|exact absurd rfl h2
 cases b<;>simp[behindInMarks,e1,e2]
theorem zbF{op:Nv}{r:R2}(ho:OpR X (compareOp op) r)(ha:PE X a ta)(hb:PE X b tb)(hm:behindInMarks op b=false):PE X (.Compare a [op] [b] pos) (tOp r ta tb):=by
 intro pins s σ H Q I h;exact Ro (binT ha hb I h fun v u s2 x y H2 I2 rx ry q=>ho pins s2 σ H2 x y v u Q I2 rx ry q) hm
noncomputable def tTest(t:TE):TT:=fun σ H Q=>t σ H fun x H'=>∃k,x= .bl k/\Q k H'
theorem zam{op:Nv}{r:R2}(ho:OpR X (compareOp op) r)(ha:PE X a ta)(hb:PE X b tb)(hm:behindInMarks op b=false):PT X (.Compare a [op] [b] pos) (tTest (tOp r ta tb)):=by
 intro pins s σ H Q I h;refine Og (thnE (ha pins s σ H _ I h) fun v s1 x H1 I1 r1 q1=>thnE (hb pins s1 σ H1 _ I1 q1) fun u s2 y H2 I2 r2 q2=>
  thnE (ho pins s2 σ H2 x y v u _ I2 r1 r2 q2) fun c s3 z H3 I3 r3⟨k,e,q3⟩=>?_) hm
 subst e
 cases r3
 exact D4 ⟨H3,I3,q3⟩
noncomputable def tChain(r r':R2)(ta tb tc:TE):TE:=fun σ H Q=>ta σ H fun x H1=>tb σ H1 fun y H2=>r x y H2 fun z H3=>∃k,z= .bl k/\
 (if k=true then tc σ H3 fun w' H4=>r' y w' H4 Q else Q (.bl false) H3)
theorem zf1{op op':Nv}{r r':R2}(ho:OpR X (compareOp op) r)(ho':OpR X (compareOp op') r')(ha:PE X a ta)(hb:PE X b tb)(hc:PE X c tc)
  (hm:lastMarks [op,op'] [b,c]=false:=by with_unfolding_all rfl):PE X (.Compare a [op,op'] [b,c] pos) (tChain r r' ta tb tc):=by
 intro pins s σ H Q I h;refine Compare_chain (thnE (ha pins s σ H _ I h) fun v s1 x H1 I1 r1 q1=>chain_link (thnE (hb pins s1 σ H1 _ I1 q1) fun u s2 y H2 I2 r2 q2=>
  thnE (ho pins s2 σ H2 x y v u _ I2 r1 r2 q2) fun d s3 z H3 I3 r3⟨k,e,q3⟩=>?_)) hm
 subst e
 cases r3
 refine D4 ?_
 cases k with
 |false=>exact ite_ff ⟨.bl false,H3,I3,rfl,q3⟩
 |true=>exact ite_tt (chain_last (thnE (hc pins s3 σ H3 _ I3 q3) fun w' s4 z' H4 I4 r4 q4=>ho' pins s4 σ H4 y z' u w' Q I4 r2 r4 q4))
theorem zda{op op':Nv}{r r':R2}(ho:OpR X (compareOp op) r)(ho':OpR X (compareOp op') r')(ha:PE X a ta)(hb:PE X b tb)(hc:PE X c tc)
  (hm:lastMarks [op,op'] [b,c]=false:=by with_unfolding_all rfl):PT X (.Compare a [op,op'] [b,c] pos) (tTest (tChain r r' ta tb tc)):=by
 intro pins s σ H Q I h;refine isTrue_chain (thnE (ha pins s σ H _ I h) fun v s1 x H1 I1 r1 q1=>test_link (thnE (hb pins s1 σ H1 _ I1 q1) fun u s2 y H2 I2 r2 q2=>
  thnE (ho pins s2 σ H2 x y v u _ I2 r1 r2 q2) fun d s3 z H3 I3 r3⟨k,e,q3⟩=>?_)) hm
 subst e
 cases r3
 refine D4 ?_
 cases k with
 |false=>
  obtain⟨k',e',q'⟩:=q3
  cases e'
  exact ite_ff ⟨H3,I3,q'⟩
 |true=>
  refine ite_tt (test_last (thnE (hc pins s3 σ H3 _ I3 q3) fun w' s4 z' H4 I4 r4 q4=>thnE (ho' pins s4 σ H4 y z' u w' _ I4 r2 r4 q4) fun d' s5 z2 H5 I5 r5⟨k2,e2,q5⟩=>?_));subst e2
  cases r5
  exact D4 ⟨H5,I5,q5⟩
theorem zd6:(sizeLine:Nat)<2 ^ 63:=by rw[Oq];decide
theorem op_add_str:OpR X (binaryOp .Add) (fun x y H Q=>∃i j,x= .str i/\y= .str j/\i.length+j.length<=sizeLine/\Q (.str (i++j)) H):=by
 intro pins s σ H x y v u Q I rx ry h;obtain⟨i,j,rfl,rfl,hz,q⟩:=h;obtain⟨t,rfl⟩:=rx;obtain⟨t',rfl⟩:=ry;exact add_str (fun t' tk=>⟨.str (i++j),H,I.tok _,⟨_,rfl⟩,q⟩) hz
theorem zb2{x:V}{us:List A2}(r:Vals [x] us):∃u,us=[u]/\RelV x u:=by
 cases r with
 |cons r1 r2=>cases r2;exact⟨_,rfl,r1⟩
theorem zhN{x y:V}{us:List A2}(r:Vals [x,y] us):∃u w',us=[u,w']/\RelV x u/\RelV y w':=by
 cases r with
 |cons r1 r2=>
  cases r2 with
  |cons r3 r4=>cases r4;exact⟨_,_,rfl,r1,r3⟩
theorem call_max2(hc:X.calm=true):CallR X (.builtin "max") (fun xs H Q=>∃i j,xs=[.int i,.int j]/\Q (.int (if j>i then j else i)) H):=by
 intro pins s σ H xs us Q I r h;obtain⟨i,j,rfl,q⟩:=h;obtain⟨u,w',rfl,⟨t,rfl⟩,⟨t',rfl⟩⟩:=zhN r;refine max_two_ints (I.ok.hd hc) fun h' tk k=>⟨_,H,I.kept k,?_,q⟩;by_cases hj:j>i
 ·rw[if_pos hj,if_pos hj];exact⟨_,rfl⟩
 ·rw[if_neg hj,if_neg hj];exact⟨_,rfl⟩
end
structure ObjM(h:Bx)(x dx C:A3)(mA:Str->Option A2):Prop where
 obj:h.get? x=some (Ec C dx)
 ns:h.Ns1 dx mA
 ne:dx≠x
theorem lookIn_ns{h:Bx}{dx:A3}{mA:Str->Option A2}(n:h.Ns1 dx mA):∃od,h.get? dx=some od/\∀name,Iw name od=some (mA name):=by
 obtain⟨o,es,ep,ho,hd,hk,_,hm⟩:=n;refine⟨o,ho,fun name=>?_⟩;have e:=hm name;unfold nsFind findBy at e;rw[<-Array.find?_toList] at e;unfold Iw;rw[hd];dsimp only
 split
 ·rename_i y q;rw[q] at e;exact congrArg some e
 ·rename_i q;rw[q] at e;have a:es.toList.any (·.refKey)=false:=by
   rw[Kd];intro y hy;obtain⟨z,t,hkey⟩:=hk y (Array.mem_toList_iff.mp hy);simp[Sv,hkey]
  have a':¬es.toList.any (·.refKey)=true:=by rw[a];exact Aa
  rw[if_neg a'];exact congrArg some e
theorem ObjM.look{h:Bx}{x dx C:A3}{mA:Str->Option A2}(I:ObjM h x dx C mA):∃od,Fb h x (Ec C dx) C (some od)/\∀name,Iw name od=some (mA name):=
 let ⟨od,ho,hl⟩:=lookIn_ns I.ns
 ⟨od,⟨I.obj,rfl,rfl,ho⟩,hl⟩
section
variable{prog:Ap}{w:Bd}{A:B5}{E:A2->A5->Prop}{s:A5}{K:Am}{x dx C f:A3}{mA:Str->Option A2}{name:Str}{v:A2}
theorem get_map{expr:Bool}{Q:A2->A5->Prop}(X:K.In s.heap)(I:ObjM s.heap x dx C mA)(hg:G8 K C name=true)(hh:Hd K C=true)
  (ha:Bv K (.ref C) name=some none) (hv:mA name=some v) (hv':Nh v=true) (h:Q v {s with toks:=s.toks+1}):
  wpAny (model prog w) A (getAttr (.ref x) name expr) Q E s:=by
 obtain⟨od,J,hl⟩:=I.look;exact PySem.W.get_value X J (Ja hg).1 (PySem.W.findObj_own hh ha rfl (by rw[hl,hv])) hv' h
theorem get_meth{pl:Sem Bool}{Q:A2×List A2->A5->Prop}(X:K.In s.heap)(I:ObjM s.heap x dx C mA)(hg:G8 K C name=true)
  (hf:Bv K (.ref C) name=some (some (.ref f))) (ht:Hw K (.ref f)=true) (hv:mA name=none) (h:Q (.ref f,[.ref x]) s):
  wpAny (model prog w) A (getMethod (.ref x) name pl) Q E s:=by
 obtain⟨od,J,hl⟩:=I.look;exact PySem.W.method_fn X J (Ja hg).1 (Ja hg).2 hf (beq_iff_eq.mp ht) (by show(Iw name od).map (·.isSome)=some false;rw[hl,hv];rfl) h
theorem set_map{ns:List Str}{Q:Unit->A5->Prop}(X:K.In s.heap)(I:ObjM s.heap x dx C mA)
  (hs:Bv K (.ref C) "__setattr__"=some (some (.builtin "object.__setattr__"))) (hp:Jw K C=true) (ht:Ki K C name=some none) (hh:Hd K C=true)
  (hw:M6 mA ns) (hsz:ns.length<=sizeLine)
  (h:∀h',ObjM h' x dx C (fun y=>if y=name then some v else mA y)->Fl dx s.heap h'->Q () {s with heap:=h',toks:=s.toks+2}):
  wpAny (model prog w) A (setAttr (.ref x) name v) Q E s:=by
 obtain⟨od,J,hl⟩:=I.look;refine PySem.W.set_plain X J hs (PySem.W.osa_open (s:={s with toks:=s.toks+1}) (r:=none) X J hp ht fun b=>?_);obtain⟨cd,hc,hd'⟩:=PySem.W.any_some hh;have hx:s.heap.get? x=some ⟨.ref C,some dx,.plain,#[]⟩:=I.obj;refine A1 (Ae (A1 (A1 (Rn hx (A1 (Pt (s:={s with toks:=s.toks+1}) (PySem.W.looks_clsIn X hc) ?_))))));rw[hd'];refine Ae (a:=some dx) (A1 (Ae (A1 ?_)));refine wpAny_nsSet1 (s:={s with toks:=s.toks+1}) I.ns fun h' hn2 hs2=>?_;obtain⟨oD,esD,epD,hoD,hdD,hcD⟩:=hn2.count (Qk name v hw);refine A1 (wpAny_lookBehind hoD (by rw[hdD];exact pastItsLine_dict (Bt hcD (by rw[Av];omega))) ?_);exact Ae (h _ ⟨(hs2.2 _ (Dz I.ne)).trans I.obj,hn2,I.ne⟩ hs2)
theorem make_map{R:Ru->A5->Prop}{vs:List A2}{kw:List (Str×A2)}(X:K.In s.heap)(hm:Kj K C=true)
  (hi:Bv K (.ref C) "__init__"=some (some (.ref f))) (hf:O5 K (.ref f)=some (.type "function"))
  (h:codeAny (model prog w) (A.under (.builtin "type.__call__" ⟨.ref C::vs,kw⟩)) (.call (.ref f) ⟨.ref (s.heap.objs.size+1)::vs,kw⟩) (PySem.W.InitBack (s.heap.objs.size+1) R)
   {s with heap:=(s.heap.push Dh).push (Ec C s.heap.objs.size)}):
  codeAny (model prog w) A (.call (.ref C) ⟨vs,kw⟩) R s:=by
 obtain⟨hh,g,d,t,os⟩:=s;exact PySem.W.make_core (PySem.W.makes_of X hm) (Iv X hi) (fun self=>PySem.W.bind_fn X self hf) (.inl rfl) h
end
noncomputable def putF(f:Str)(v:V):List (Str×V)->List (Str×V)
 |[]=>[(f,v)]
 | (g,x) :: r=>if g=f then (g,v) :: r else (g,x) :: putF f v r
theorem zdy(f g:Str)(v:V):∀fs:List (Str×V),(putF f v fs).lookup g=if g=f then some v else fs.lookup g
 |[]=>by
  show Fi g [(f,v)]=_;by_cases h:g=f
  ·have hb:(g==f)=true:=beq_iff_eq.mpr h;simp only[Fi,hb,if_pos h]
  ·have hb:(g==f)=false:=beq_eq_false_iff_ne.mpr h;simp only[Fi,hb,if_neg h]
 | (k,x) :: r=>by
  have ih:=zdy f g v r;rw[show putF f v ((k,x)::r)=(if k=f then(k,v)::r else(k,x)::putF f v r) from rfl];by_cases hk:k=f
  ·rw[if_pos hk];by_cases h:g=k
   ·have hb:(g==k)=true:=beq_iff_eq.mpr h;simp only[Fi,hb,if_pos (h.trans hk)]
   ·have hb:(g==k)=false:=beq_eq_false_iff_ne.mpr h;simp only[Fi,hb,if_neg (fun e:g=f=>h (e.trans hk.symm))]
  ·rw[if_neg hk];by_cases h:g=k
   ·have hb:(g==k)=true:=beq_iff_eq.mpr h;simp only[Fi,hb,if_neg (fun e:g=f=>hk (h.symm.trans e))]
   ·have hb:(g==k)=false:=beq_eq_false_iff_ne.mpr h;simp only[Fi,hb];exact ih
theorem zdB(f:Str)(v:V):∀fs:List (Str×V),f∈(putF f v fs).map (·.1)/\∀g,g∈fs.map (·.1)->g∈(putF f v fs).map (·.1)
 |[]=>⟨by simp[putF],fun g h=>by simp at h⟩
 | (k,x) :: r=>by
  obtain⟨i1,i2⟩:=zdB f v r;rw[show putF f v ((k,x)::r)=(if k=f then(k,v)::r else(k,x)::putF f v r) from rfl];by_cases hk:k=f
  ·rw[if_pos hk];subst hk;exact⟨by simp,fun g h=>by simpa using h⟩
  ·rw[if_neg hk];refine⟨?_,fun g h=>?_⟩
   ·rw[At];exact Ac _ i1
   ·rw[At] at h⊢;rcases Ba.mp h with e|e
    ·exact Ba.mpr (.inl e)
    ·exact Ac _ (i2 g e)
theorem zdA(f:Str)(v:V):∀fs:List (Str×V),(putF f v fs).length<=fs.length+1
 |[]=>by simp[putF]
 | (k,x) :: r=>by
  have ih:=zdA f v r;rw[show putF f v ((k,x)::r)=(if k=f then(k,v)::r else(k,x)::putF f v r) from rfl];by_cases hk:k=f
  ·rw[if_pos hk,Av,Av];omega
  ·rw[if_neg hk,Av,Av];omega
theorem RelO.some_of{v:V}{o:Option A2}(r:RelO (some v) o):∃u,o=some u/\RelV v u:=by
 cases o with
 |none=>exact(show False from r).elim
 |some u=>exact⟨u,rfl,r⟩
theorem RelO.none_of{o:Option A2}(r:RelO none o):o=none:=by
 cases o with
 |none=>rfl
 |some u=>exact(show False from r).elim
theorem handed_of{v:V}{u:A2}(r:RelV v u):Nh u=true:=by
 cases v with
 |non=>cases(show u=Dw from r);rfl
 |bl b=>cases(show u=Ih b from r);rfl
 |int i=>obtain⟨t,e⟩:=(show∃t,u=Hv i t from r);cases e;rfl
 |str x=>obtain⟨t,e⟩:=(show∃t,u=Kg x t from r);cases e;rfl
 |byt b=>obtain⟨t,e⟩:=(show∃t,u=Pl b t from r);cases e;rfl
 |flt b=>obtain⟨t,e⟩:=(show∃t,u=Ms b t from r);cases e;rfl
 |ref a=>cases(show u=B1 a from r);rfl
 |ty n=>cases(show u=Eu n from r);rfl
section
variable{P:Ap}{w:Bd}{H H':Hp}{h h':Bx}{a C dx:A3}{fs fs':List (Str×V)}
theorem zeq(hok:HOk P w H h)(e:H a=some (.ins C dx fs)):∃mA,ObjM h a dx C mA/\(∀f,RelO (fs.lookup f) (mA f))/\M6 mA (fs.map (·.1))/\fs.length<=1000/\H dx=some (.own a):=by
 obtain⟨d,z,ne,ob,mA,n,r,q⟩:=(show ObjOk P w H h a (.ins C dx fs) from hok a _ e);exact⟨mA,⟨ob,n,ne⟩,r,q,z,d⟩
end
structure Cls(K:Am)(C:A3):Prop where
 pg:G8 K C S3=true
 hd:Hd K C=true
 po:Jw K C=true
 sa:Bv K (.ref C) "__setattr__"=some (some (.builtin "object.__setattr__"))
theorem Cls.get{K:Am}{C:A3}(c:Cls K C)(f:Str):G8 K C f=true:=c.pg
noncomputable def NoAttr(K:Am)(C:A3)(f:Str):Prop:=Bv K (.ref C) f=some none
theorem NoAttr.taker{K:Am}{C:A3}{f:Str}(n:NoAttr K C f):Ki K C f=some none:=by
 unfold Ki;rw[show Bv K (.ref C) f=some none from n];rfl
structure Meth(K:Am)(C:A3)(m:Str)(f:A3):Prop where
 at_:Bv K (.ref C) m=some (some (.ref f))
 fn:Hw K (.ref f)=true
 kp:D0 K (.ref f)=true
section
variable{X:Cx}{pins:List (A3×Obj)}{σ:St}{H:Hp}{s:A5}{a C dx:A3}{fs:List (Str×V)}{f:Str}{v:V}{A:B5}{E:A2->A5->Prop}
theorem getattr_ok{b:Bool}{Q:A2->A5->Prop}(I:Inv X pins σ H s)(e:H a=some (.ins C dx fs))(c:Cls X.K C)(n:NoAttr X.K C f)(l:fs.lookup f=some v)
  (h:∀u s',Inv X pins σ H s'->RelV v u->Q u s'):wpAny (model X.prog X.w) A (getAttr (.ref a) f b) Q E s:=by
 obtain⟨mA,O,r,_,_,_⟩:=zeq I.hok e;obtain⟨u,hu,ru⟩:=RelO.some_of (v:=v) (o:=mA f) (by rw[<-l];exact r f);exact get_map I.kIn O (c.get f) c.hd n hu (handed_of ru) (h u _ (I.tok _) ru)
theorem zeb{m:Str}{g:A3}{pl:Sem Bool}{Q:A2×List A2->A5->Prop}(I:Inv X pins σ H s)(e:H a=some (.ins C dx fs))(c:Cls X.K C)(k:Meth X.K C m g)(l:fs.lookup m=none)
  (h:Q (.ref g,[.ref a]) s):wpAny (model X.prog X.w) A (getMethod (.ref a) m pl) Q E s:=by
 obtain⟨mA,O,r,_,_,_⟩:=zeq I.hok e;have hn:mA m=none:=RelO.none_of (by rw[<-l];exact r m);exact get_meth I.kIn O (c.get m) k.at_ k.fn hn h
theorem setattr_ok{y:V}{u:A2}{Q:Unit->A5->Prop}(I:Inv X pins σ H s)(e:H a=some (.ins C dx fs))(c:Cls X.K C)(n:NoAttr X.K C f)(hl:fs.length<1000)(ry:RelV y u)
  (h:∀s',Inv X pins σ (upd H a (.ins C dx (putF f y fs))) s'->Q () s'):wpAny (model X.prog X.w) A (setAttr (.ref a) f u) Q E s:=by
 obtain⟨mA,O,r,wi,_,ho⟩:=zeq I.hok e;have hz:(fs.map (·.1)).length<=sizeLine:=by rw[A4,Oq];omega
 refine set_map I.kIn O c.sa c.po n.taker c.hd wi hz fun h' O' sb=>h _ ?_;have hd:∃o,h'.get? dx=some o:=let ⟨o,_,_,e',_⟩:=O'.ns;⟨o,e'⟩;refine I.write (x:=a) (e:=dx) (by rw[e];exact E8) (.inr ho) (fun b q hb z=>(sb.2 b hb).trans z) hd ?_;refine⟨by rw[zah O.ne];exact ho,?_,O.ne,O'.obj,_,O'.ns,fun g=>?_,fun g hg=>?_⟩
 ·have:=zdA f y fs;omega
 ·show RelO ((putF f y fs).lookup g) (if g=f then some u else mA g);rw[zdy];by_cases q:g=f
  ·rw[if_pos q,if_pos q];exact ry
  ·rw[if_neg q,if_neg q];exact r g
 ·by_cases q:g=f
  ·rw[q];exact(zdB f y fs).1
  ·refine(zdB f y fs).2 g (wi g fun z=>hg ?_);show(if g=f then some u else mA g)=none;rw[if_neg q];exact z
theorem Inv.made(I:Inv X pins σ H s):Inv X pins σ (upd (upd H s.heap.objs.size (.own (s.heap.objs.size+1))) (s.heap.objs.size+1) (.ins C s.heap.objs.size []))
  {s with heap:=(s.heap.push Dh).push (Ec C s.heap.objs.size)}:=by
 have e1:(s.heap.push Dh).get? s.heap.objs.size=some Dh:=Aw s.heap rfl;have e2:((s.heap.push Dh).push (Ec C s.heap.objs.size)).get? (s.heap.objs.size+1)=some (Ec C s.heap.objs.size):=by
  have:=Aw (s.heap.push Dh) (o:=Ec C s.heap.objs.size) rfl;rwa[Eb] at this
 have e3:(s.heap.push Dh).Ns s.heap.objs.size (fun _=>none):=⟨Dh,#[],_,e1,rfl,(fun e he=>absurd he (by simp)),fun _=>rfl⟩;have I1:=I.laid (a:=s.heap.objs.size) (o:=.own (s.heap.objs.size+1)) (h':=s.heap.push Dh) (t':=s.toks) (fun b u q=>A8 _ q) (Ab _) ⟨_,e1⟩;refine I1.laid (a:=s.heap.objs.size+1) (o:=.ins C s.heap.objs.size []) (t':=s.toks) (fun b u q=>A8 _ q) (Q6 (Eb _ _)) ?_;have ne:s.heap.objs.size≠s.heap.objs.size+1:=B8 (Et _);refine⟨by rw[zah ne,zab],Bs _,ne,e2,fun _=>none,(Heap.Ns1.of_empty e3).at fun o q=>A8 _ q,fun _=>E8,fun y hy=>absurd rfl hy⟩
theorem attr_of{prog:Ap}{w:Bd}{env:Env}{e:Cb}{f:Str}{pos:Pos}{s:A5}{Q:A2->A5->Prop}(hb:attributeBase e f env (eval e env)=eval e env)
  (h:wpAny (model prog w) A (eval e env) (fun o s₁=>wpAny (model prog w) A (getAttr o f true) Q E s₁) E s):wpAny (model prog w) A (eval (.Attribute e f pos) env) Q E s:=
 Attribute_any_ h (by rw[arm_eval_Attribute,hb])
end
noncomputable def tFld(K:Am)(ta:TE)(f:Str):TE:=fun σ H Q=>ta σ H fun x H1=>∃a C dx fs v,x= .ref a/\H1 a=some (.ins C dx fs)/\Cls K C/\NoAttr K C f/\fs.lookup f=some v/\Q v H1
noncomputable def sFld(K:Am)(ta tv:TE)(f:Str):TS:=fun D σ H=>tv σ H fun y H1=>ta σ H1 fun x H2=>∃a C dx fs,x= .ref a/\H2 a=some (.ins C dx fs)/\Cls K C/\NoAttr K C f/\fs.length<1000/\
 D.nx σ (upd H2 a (.ins C dx (putF f y fs)))
section
variable{X:Cx}{o e value:Cb}{f:Str}{pos pos' tpos:Pos}{ta tv:TE}
theorem zb6(he:PE X e ta)(hb:attributeBase e f X.env (eval e X.env)=eval e X.env):PE X (.Attribute e f pos) (tFld X.K ta f):=by
 intro pins s σ H Q I h;refine attr_of hb (thnE (he pins s σ H _ I h) fun u s1 x H1 I1 rx⟨a,C,dx,fs,v,ex,ea,c,n,l,q⟩=>?_);subst ex;obtain rfl:u=B1 a:=rx;exact getattr_ok I1 ea c n l fun u' s2 I2 ru=>⟨v,H1,I2,ru,q⟩
theorem zgM(ha:PE X o ta)(hv:PE X value tv)(hs:swapsWith value (some (.Attribute o f pos')) pos.line X.env=pure false):PS X (.Assign [.Attribute o f pos'] value pos) (sFld X.K ta tv f):=by
 intro pins s σ H D I h;refine plainObj_wpAny_Assign_Attribute (thnE (hv pins s σ H _ I h) fun u s1 y H1 I1 ry q=>thnE (ha pins s1 σ H1 _ I1 q) fun ov s2 x H2 I2 rx⟨a,C,dx,fs,ex,ea,c,n,l,q2⟩=>?_) hs;subst ex;obtain rfl:ov=B1 a:=rx;exact setattr_ok I2 ea c n l ry fun s3 I3=>⟨σ,_,I3,q2⟩
end
section
variable{X:Cx}{pins:List (A3×Obj)}{σ:St}{H:Hp}{s:A5}{A:B5}{E:A2->A5->Prop}{Q:A2->A5->Prop}{c:A2}{b:Bool}
inductive TyOf(K:Am)(H:Hp):V->A2->Prop where
 |non:TyOf K H .non (.type "NoneType")
 |bl (x:Bool):TyOf K H (.bl x) (.type "bool")
 |int (i:Int):TyOf K H (.int i) (.type "int")
 |str (x:Str):TyOf K H (.str x) (.type "str")
 |flt (x:UInt64):TyOf K H (.flt x) (.type "float")
 |lst {a:A3} {xs:List V} (e:H a=some (.lst xs)):TyOf K H (.ref a) (.type "list")
 |frz {a:A3} {o:Obj} {xs:List V} (e:H a=some (.frz o (.lst xs))):TyOf K H (.ref a) (.type "list")
 |tup {a:A3} {xs:List V} (e:H a=some (.tup xs)):TyOf K H (.ref a) (.type "tuple")
 |dK {a:A3} {kvs:List (Key×V)} (e:H a=some (.dK kvs)):TyOf K H (.ref a) (.type "dict")
 |dT {a:A3} {kvs:List (List Key×V)} (e:H a=some (.dT kvs)):TyOf K H (.ref a) (.type "dict")
 |ins {a C dx:A3} {fs:List (Str×V)} (e:H a=some (.ins C dx fs)) (cl:Cls K C) (ha:Bv K (.ref C) "__class__"=some (some (.builtin "object.__class__")))
   (hn:Jv K (.builtin "object.__class__") "__get__"=some (some (.builtin "getset_descriptor.__get__"))) (htk:Kh K (.builtin "object.__class__")=some true)
   (hm:Ee K C (.type "object")=some true):TyOf K H (.ref a) (.ref C)
theorem isinst_ok{x:V}{u t:A2}(I:Inv X pins σ H s)(rx:RelV x u)(ty:TyOf X.K H x t)(e:Fs X.K t c=some b)(h:∀tk,Q (.bool b) {s with toks:=tk}):
  wpAny (model X.prog X.w) A (call (.builtin "isinstance") [u,c]) Q E s:=by
 cases ty with
 |non=>cases(show u=Dw from rx);exact D1 PySem.W.kitx_none I.kIn E8 e (fun z=>nomatch z) h
 |bl y=>cases(show u=Ih y from rx);exact D1 PySem.W.kitx_bool I.kIn E8 e (fun z=>nomatch z) h
 |int i=>obtain⟨t,q⟩:=(show∃t,u=Hv i t from rx);cases q;exact D1 PySem.W.kitx_int I.kIn E8 e (fun z=>nomatch z) h
 |str y=>obtain⟨t,q⟩:=(show∃t,u=Kg y t from rx);cases q;exact D1 PySem.W.kitx_str I.kIn E8 e (fun z=>nomatch z) h
 |flt y=>obtain⟨t,q⟩:=(show∃t,u=Ms y t from rx);cases q;exact D1 PySem.W.kitx_float I.kIn E8 e (fun z=>nomatch z) h
 |@lst a xs ea=>
  cases(show u=B1 a from rx)
  obtain⟨_,_,n,_,h1⟩:=(show ObjOk X.prog X.w H s.heap a (.lst xs) from I.hok a _ ea);exact D1 N4 I.kIn ⟨_,h1,rfl⟩ e (fun z=>nomatch z) h
 |@frz a ob xs ea=>
  cases(show u=B1 a from rx)
  obtain⟨_,_,_,n,_,h1⟩:=(show ObjOk X.prog X.w H s.heap a (.frz ob (.lst xs)) from I.hok a _ ea);exact D1 N4 I.kIn ⟨_,h1,rfl⟩ e (fun z=>nomatch z) h
 |@tup a xs ea=>
  cases(show u=B1 a from rx)
  obtain⟨_,_,_,p⟩:=(show ObjOk X.prog X.w H s.heap a (.tup xs) from I.hok a _ ea);obtain⟨o,h1,h2,_⟩:=p;exact D1 PySem.W.kitx_tuple I.kIn ⟨o,h1,h2⟩ e (fun z=>nomatch z) h
 |@dK a kvs ea=>
  cases(show u=B1 a from rx)
  obtain⟨_,_,vs,_,p⟩:=(show ObjOk X.prog X.w H s.heap a (.dK kvs) from I.hok a _ ea);obtain⟨o,es,ep,h1,h2,_⟩:=p;exact D1 N5 I.kIn ⟨o,h1,h2.1⟩ e (fun z=>nomatch z) h
 |@dT a kvs ea=>
  cases(show u=B1 a from rx)
  obtain⟨_,_,xs,_,o,es,ep,h1,h2,_⟩:=(show ObjOk X.prog X.w H s.heap a (.dT kvs) from I.hok a _ ea);exact D1 N5 I.kIn ⟨o,h1,h2.1⟩ e (fun z=>nomatch z) h
 |@ins a C dx fs ea cl ha hn htk hm=>
  cases(show u=B1 a from rx)
  obtain⟨mA,O,_⟩:=zeq I.hok ea;obtain⟨od,J,_⟩:=O.look;exact D1 (PySem.W.kitx_own (cl.get _) cl.hd ha hn htk hm) I.kIn J e (fun z=>nomatch z) h
end
structure Room(k:Nat)(A:B5):Prop where
 hd:A.handled=none
 dp:A.depth+3*k+5<recursionLimit
 un:A.units+16*k+200<cLine
theorem Room.mono{j k:Nat}{A:B5}(r:Room k A)(h:j<=k):Room j A:=⟨r.hd,by have:=r.dp;omega,by have:=r.un;omega⟩
theorem Room.deeper{k:Nat}{A:B5}(r:Room (k+1) A)(env:Env):Room k (A.deeper env):=
 ⟨r.hd,by have:=r.dp;show A.depth+1+3*k+5<_;omega,by have:=r.un;show A.units+3+16*k+200<_;omega⟩
theorem make_depth{A:B5}{C:A3}{us:List A2}{kw:List (Str×A2)}:(A.under (.builtin "type.__call__" ⟨.ref C::us,kw⟩)).depth=A.depth+1:=by
 first|rfl|simp[M2,Code.weight,Code.isCreation,Code.isGuard,Code.isCaller,Qb,Mh,guardIds]
theorem make_units{A:B5}{C:A3}{us:List A2}{kw:List (Str×A2)}:(A.under (.builtin "type.__call__" ⟨.ref C::us,kw⟩)).units=A.units+1:=by
 first|rfl|simp[M2,Code.cUnits,Qb,Mh]
theorem Room.make{k:Nat}{A:B5}(r:Room (k+1) A)(C:A3)(us:List A2)(kw:List (Str×A2)):Room k (A.under (.builtin "type.__call__" ⟨.ref C::us,kw⟩)):=
 ⟨r.hd,by have:=r.dp;rw[make_depth];omega,by have:=r.un;rw[make_units];omega⟩
theorem Room.depth{k:Nat}{A:B5}(r:Room k A):A.depth<recursionLimit:=by have:=r.dp;omega
theorem Room.units{k:Nat}{A:B5}(r:Room k A):A.units+64<cLine:=by have:=r.un;omega
noncomputable def tNil:TA:=fun _ H Q=>Q [] H
noncomputable def tCons(ta:TE)(tr:TA):TA:=fun σ H Q=>ta σ H fun x H1=>tr σ H1 fun xs H2=>Q (x::xs) H2
section
variable{X:Cx}{e:Cb}{es:List Cb}{te:TE}{t:TA}{pos:Pos}
theorem zae:PA X [] tNil:=fun _ _ _ _ H Q I h=>Calls.spliced_nil ⟨[],H,I,.nil,h⟩
theorem zaa(ha:PE X e te)(hr:PA X es t)(hs:starEach (e::es) X.env=(false,eval e X.env)::starEach es X.env:=by rfl):PA X (e::es) (tCons te t):=by
 intro pos pins s σ H Q I h;rw[hs];show wpAny _ _ (spliced ((false,eval e X.env)::backTo pos (starEach es X.env))) _ _ s;refine Calls.spliced_cons (thnE (ha pins s σ H _ I h) fun u s1 x H1 I1 r1 q1=>?_);exact thnE (hr pos pins s1 σ H1 _ I1 q1) fun us s2 xs H2 I2 r2 q2=>⟨x::xs,H2,I2,.cons r1 r2,q2⟩
noncomputable def tTup(t:TA):TE:=fun σ H Q=>t σ H fun xs H1=>xs.length<=sizeLine/\∀p,H1 p=none->Q (.ref p) (upd H1 p (.tup xs))
noncomputable def tLst(t:TA):TE:=fun σ H Q=>t σ H fun xs H1=>xs.length<=sizeLine/\∀p,H1 p=none->Q (.ref p) (upd H1 p (.lst xs))
theorem zbi{x1}(h:PA X es t):PE X (.Tuple es x1 pos) (tTup t):=by
 intro pins s σ H Q I hq;refine wpAny_Tuple_spliced (thnE (h pos pins s σ H _ I hq) fun us s1 xs H1 I1 r⟨z,q⟩=>⟨by rw[<-r.length];exact z,?_⟩);have hf:H1 s1.heap.objs.size=none:=I1.hok.fresh (Ab _);refine⟨.ref s1.heap.objs.size,upd H1 s1.heap.objs.size (.tup xs),I1.laid (t':=s1.toks) (fun b u e=>A8 _ e) (Ab _) ?_,rfl,q _ hf⟩;exact⟨z,us,r,⟨_,Aw _ rfl,rfl,_,rfl⟩⟩
theorem zaZ(h:PA X es t):PE X (.List es pos) (tLst t):=by
 intro pins s σ H Q I hq;refine wpAny_List_spliced (thnE (h pos pins s σ H _ I hq) fun us s1 xs H1 I1 r⟨z,q⟩=>⟨by rw[<-r.length];exact z,?_⟩);have hf:H1 s1.heap.objs.size=none:=I1.hok.fresh (Ab _);refine⟨.ref s1.heap.objs.size,upd H1 s1.heap.objs.size (.lst xs),I1.laid (t':=s1.toks) (fun b u e=>A8 _ e) (Ab _) ?_,rfl,q _ hf⟩;exact⟨z,us,0,r,Aw _ rfl⟩
end
noncomputable abbrev Sp:=List V->Hp->VK->XK->Prop
noncomputable abbrev CXT:=List Env->Hp->A5->XK->A2->A5->Prop
structure Env0(P:Ap)(w:Bd)(K:Am)(mg:Str->Option A2)(base:Bx)(A:B5)(outer:List Env)(s:A5)(H:Hp):Prop where
 frames:A.frames=some outer
 mod:Mod K mg base
 bs:∀b o,base.get? b=some o->s.heap.get? b=some o/\H b=none
 bsz:base.objs.size<=s.heap.objs.size
 funs:s.heap.FunFrames base outer
 frf:∀b∈frs outer,H b=none
 hok:HOk P w H s.heap
 bare:Gy s.gens
noncomputable def CE(outer:List Env)(P:Ap)(w:Bd)(H:Hp)(s:A5)(Q:VK)(u:A2)(s':A5):Prop:=
 ∃v H',s'.os=s.os/\Gy s'.gens/\Un (frs outer) [] H H' s.heap s'.heap/\HOk P w H' s'.heap/\RelV v u/\Q v H'
noncomputable def CR(CX:CXT)(outer:List Env)(P:Ap)(w:Bd)(H:Hp)(s:A5)(Q:VK)(E:XK)(r:Ru)(s':A5):Prop:=
 match r with
 | .ok (.ret u)=>CE outer P w H s Q u s'
 | .ok _=>False
 | .error e=>CX outer H s E e s'
structure FnOk(P:Ap)(w:Bd)(K:Am)(mg:Str->Option A2)(base:Bx)(CX:CXT)(k:Nat)(f:A3)(fd:Ef)(ps:List Str)(sp:Sp):Prop where
 len:∀vs H Q E,sp vs H Q E->vs.length=ps.length
 run:∀(A:B5)(outer:List Env)(s:A5)(H:Hp)(args:Args)(us:List A2)(vs:List V)(Q:VK)(E:XK),Room k A->Env0 P w K mg base A outer s H->Kf s fd args (ps.zip us)->Vals vs us->sp vs H Q E->
  codeAny (model P w) A (.call (.ref f) args) (CR CX outer P w H s Q E) s
theorem Env0.make{P:Ap}{w:Bd}{K:Am}{mg:Str->Option A2}{base:Bx}{A:B5}{outer:List Env}{s:A5}{H:Hp}(e:Env0 P w K mg base A outer s H)(C:A3)(us:List A2)(kw:List (Str×A2)):
  Env0 P w K mg base (A.under (.builtin "type.__call__" ⟨.ref C::us,kw⟩)) outer s H:=⟨by first|exact e.frames|(simpa[M2,Code.envs,Mh,pushEnvs] using e.frames),e.mod,e.bs,e.bsz,e.funs,e.frf,e.hok,e.bare⟩
section
variable{X:Cx}{pins:List (A3×Obj)}{σ:St}{H:Hp}{s s':A5}
theorem Inv.env0(I:Inv X pins σ H s):Env0 X.prog X.w X.K X.mg X.base X.A X.stack s H:=
 ⟨I.ok.frames,I.ok.mod,I.bs,Bt I.ok.bsz I.sz,I.stack,I.stkFree,I.hok,I.bare⟩
theorem Inv.after{Q:VK}{u:A2}(I:Inv X pins σ H s)(h:CE X.stack X.prog X.w H s Q u s'):EP X pins σ Q u s':=by
 obtain⟨v,H',os,bare,un,hok,r,q⟩:=h;obtain⟨hh,g,d,t,os'⟩:=s';obtain rfl:os'=s.os:=os;exact⟨v,H',I.call (h':=hh) (g':=g) (d':=d) (t':=t) (ch:=[]) un hok bare (fun b z=>absurd z (by simp)),r,q⟩
end
noncomputable def tCall(sp:Sp)(dvs:List V)(E:XK)(t:TA):TE:=fun σ H Q=>t σ H fun vs H1=>sp (vs++dvs) H1 Q E
noncomputable def tMeth(C:A3)(m:Str)(sp:Sp)(dvs:List V)(E:XK)(ta:TE)(t:TA):TE:=fun σ H Q=>ta σ H fun x H1=>∃a dx fs,x= .ref a/\H1 a=some (.ins C dx fs)/\fs.lookup m=none/\
 t σ H1 fun vs H2=>sp (x::(vs++dvs)) H2 Q E
noncomputable def tMake(C:A3)(sp:Sp)(dvs:List V)(E:XK)(t:TA):TE:=fun σ H Q=>t σ H fun vs H1=>∀x dx,H1 x=none->H1 dx=none->dx≠x->
 sp (.ref x::(vs++dvs)) (upd (upd H1 dx (.own x)) x (.ins C dx [])) (fun v H2=>v= .non/\Q (.ref x) H2) E
noncomputable def Binds(K:Am)(fd:Ef)(ps:List Str)(ds:List A2):Prop:=
 ∀(s:A5)(us:List A2),K.In s.heap->(us++ds).length=ps.length->Kf s fd ⟨us,[]⟩ (ps.zip (us++ds))
theorem Binds.all{K:Am}{fd:Ef}{ps:List Str}(h:∀us:List A2,us.length=ps.length->bindArgs fd ⟨us,[]⟩=pure (ps.zip us)):Binds K fd ps []:=fun s us _ hl=>by
 rw[C1] at hl⊢;exact .of_eq (h us hl)
noncomputable def Passes(CX:CXT)(X:Cx)(E:XK):Prop:=∀(pins:List (A3×Obj))(σ:St)(H:Hp)(s:A5)(e:A2)(s':A5),Inv X pins σ H s->CX X.stack H s E e s'->X.xe e s'
section
variable{X:Cx}{CX:CXT}{k:Nat}{f C:A3}{fd:Ef}{ps:List Str}{sp:Sp}{dvs:List V}{ds:List A2}{E:XK}{x m:Str}{p pos apos:Pos}{e o:Cb}{es:List Cb}{ta:TE}{t:TA}
theorem zgG{pins:List (A3×Obj)}{σ:St}{H:Hp}{s:A5}{Q:VK}{us:List A2}{vs:List V}(F:FnOk X.prog X.w X.K X.mg X.base CX k f fd ps sp)(hr:Room k X.A)(hb:Binds X.K fd ps ds)(hd:Vals dvs ds)(hx:Passes CX X E)
  (I:Inv X pins σ H s) (r:Vals vs us) (h:sp (vs++dvs) H Q E):wpAny (model X.prog X.w) X.A (call (.ref f) us) (EP X pins σ Q) X.xe s:=by
 have r2:Vals (vs++dvs) (us++ds):=r.append hd;have hl:(us++ds).length=ps.length:=by rw[<-r2.length];exact F.len _ _ _ _ h
 refine Ks (Jj (F.run X.A X.stack s H ⟨us,[]⟩ (us++ds) (vs++dvs) Q E hr I.env0 (hb s us I.kIn hl) r2 h) fun r s' hq=>?_)
 cases r with
 |error e=>exact hx pins σ H s e s' I hq
 |ok fl=>
  cases fl with
  |ret u=>exact I.after hq
  |next=>exact Ci hq
  |brk=>exact Ci hq
  |cont=>exact Ci hq
theorem zgR(F:FnOk X.prog X.w X.K X.mg X.base CX k f fd ps sp)(hr:Room k X.A)(hg:Gl X x)(hm:X.mg x=some (.ref f))(hk:D0 X.K (.ref f)=true)(hb:Binds X.K fd ps ds)(hd:Vals dvs ds)(hx:Passes CX X E)
  (ha:PA X (e::es) t) (hdb:(x==("__debug__":Str))=false:=by decide) (he:starEach (e::es) X.env=(false,eval e X.env)::starEach es X.env:=by rfl) (hpl:(backTo pos (starEach es X.env)).any (·.1)=false:=by rfl):
  PE X (.Call (.Name x p) (e::es) [] pos) (tCall sp dvs E t):=by
 intro pins s σ H Q I h;refine G7 (zcW I hg hm ?_ hdb);refine Jl (h₀:=X.base) I.ok.mod.kin hk (thnE (ha pos pins s σ H _ I h) fun us s1 vs H1 I1 r q=>⟨I1.kIn,?_⟩) he hpl;exact zgG F hr hb hd hx I1 r q
theorem pe_meth{pl:Sem Bool}(he:PE X o ta)(c:Cls X.K C)(hm:Meth X.K C m f)(F:FnOk X.prog X.w X.K X.mg X.base CX k f fd ps sp)(hr:Room k X.A)(hb:Binds X.K fd ps ds)(hd:Vals dvs ds)(hx:Passes CX X E)(ha:PA X (e::es) t)
  (hst:starEach (e::es) X.env=(false,eval e X.env)::starEach es X.env:=by rfl) (hpl:(backTo pos (starEach es X.env)).any (·.1)=false:=by rfl)
  (ht:eval (.Call (.Attribute o m apos) (e::es) [] pos) X.env=(do
   let ov<-eval o X.env
   standAt apos.atName
   let (f,first)<-holding [ov] (getMethod ov m pl)
   callWith pos f first (backTo pos (starEach (e::es) X.env)) (backToKw pos (keywordEach [] X.env))):=by rfl):
  PE X (.Call (.Attribute o m apos) (e::es) [] pos) (tMeth C m sp dvs E ta t):=by
 intro pins s σ H Q I h;refine Lw (pl:=pl) (thnE (he pins s σ H _ I h) fun u s1 x H1 I1 rx⟨a,dx,fs,ex,ea,l,q⟩=>?_) ht;subst ex;obtain rfl:u=B1 a:=rx;refine zeb I1 ea c hm l ?_;refine Jl (first:=[.ref a]) (h₀:=X.base) I.ok.mod.kin hm.kp (thnE (ha pos pins s1 σ H1 _ I1 q) fun us s2 vs H2 I2 r q2=>⟨I2.kIn,?_⟩) hst hpl;exact zgG (us:=.ref a::us) (vs:=.ref a::vs) F hr hb hd hx I2 (.cons rfl r) q2
theorem pe_meth0{pl:Sem Bool}(he:PE X o ta)(c:Cls X.K C)(hm:Meth X.K C m f)(F:FnOk X.prog X.w X.K X.mg X.base CX k f fd ps sp)(hr:Room k X.A)(hb:Binds X.K fd ps ds)(hd:Vals dvs ds)(hx:Passes CX X E)
  (ht:eval (.Call (.Attribute o m apos) [] [] pos) X.env=(do
   let ov<-eval o X.env
   standAt apos.atName
   let (f,first)<-holding [ov] (getMethod ov m pl)
   callWith pos f first (backTo pos (starEach [] X.env)) (backToKw pos (keywordEach [] X.env))):=by rfl):
  PE X (.Call (.Attribute o m apos) [] [] pos) (tMeth C m sp dvs E ta tNil):=by
 intro pins s σ H Q I h;refine Lw (pl:=pl) (thnE (he pins s σ H _ I h) fun u s1 x H1 I1 rx⟨a,dx,fs,ex,ea,l,q⟩=>?_) ht;subst ex;obtain rfl:u=B1 a:=rx;refine zeb I1 ea c hm l ?_;exact Md (first:=[.ref a]) I1.kIn hm.kp (zgG (us:=[.ref a]) (vs:=[.ref a]) F hr hb hd hx I1 (.cons rfl .nil) q)
structure Mk(K:Am)(C f:A3):Prop where
 makes:Kj K C=true
 init:Bv K (.ref C) "__init__"=some (some (.ref f))
 fn:Hw K (.ref f)=true
 kp:D0 K (.ref C)=true
theorem run_make{pins:List (A3×Obj)}{σ:St}{H:Hp}{s:A5}{Q:VK}{us:List A2}{vs:List V}(M:Mk X.K C f)(F:FnOk X.prog X.w X.K X.mg X.base CX k f fd ps sp)(hr:Room (k+1) X.A)(hb:Binds X.K fd ps ds)(hd:Vals dvs ds)
  (hx:Passes CX X E) (I:Inv X pins σ H s) (r:Vals vs us)
  (h:∀x dx,H x=none->H dx=none->dx≠x->sp (.ref x::(vs++dvs)) (upd (upd H dx (.own x)) x (.ins C dx [])) (fun v H2=>v= .non/\Q (.ref x) H2) E):
  wpAny (model X.prog X.w) X.A (call (.ref C) us) (EP X pins σ Q) X.xe s:=by
 have hq:=h (s.heap.objs.size+1) s.heap.objs.size (I.hok.fresh (Nj _)) (I.hok.fresh (Ab _)) (B8 (Et _));have I2:=Inv.made (C:=C) I;have r2:Vals (V.ref (s.heap.objs.size+1)::(vs++dvs)) (B1 (s.heap.objs.size+1)::(us++ds)):=.cons rfl (r.append hd);have hl:(B1 (s.heap.objs.size+1)::us++ds).length=ps.length:=by
  have e:=r2.length;rw[F.len _ _ _ _ hq] at e;exact e.symm
 refine Ks (make_map (f:=f) I.kIn M.makes M.init (beq_iff_eq.mp M.fn) (Jj (F.run _ X.stack _ _ ⟨B1 (s.heap.objs.size+1)::us,[]⟩ (B1 (s.heap.objs.size+1)::(us++ds)) _ _ E (hr.make C us [])
  (I2.env0.make C us []) (hb _ (B1 (s.heap.objs.size+1)::us) I2.kIn hl) r2 hq) fun r s' hq'=>?_))
 cases r with
 |error e=>exact hx pins σ _ _ e s' I2 hq'
 |ok fl=>
  cases fl with
  |ret u=>
   obtain⟨v,H',I3,rv,ev,q3⟩:=I2.after hq';subst ev;exact⟨rv,⟨V.ref (s.heap.objs.size+1),H',I3,rfl,q3⟩⟩
  |next=>exact Ci hq'
  |brk=>exact Ci hq'
  |cont=>exact Ci hq'
theorem pe_make0(M:Mk X.K C f)(F:FnOk X.prog X.w X.K X.mg X.base CX k f fd ps sp)(hr:Room (k+1) X.A)(hg:Gl X x)(hm:X.mg x=some (.ref C))(hb:Binds X.K fd ps ds)(hd:Vals dvs ds)(hx:Passes CX X E)
  (hdb:(x==("__debug__":Str))=false:=by decide):PE X (.Call (.Name x p) [] [] pos) (tMake C sp dvs E tNil):=by
 intro pins s σ H Q I h;refine G7 (zcW I hg hm ?_ hdb);exact Md I.kIn M.kp (run_make (us:=[]) M F hr hb hd hx I .nil h)
end
section
variable{X:Cx}{CX:CXT}{k:Nat}{f C:A3}{fd:Ef}{ps ks:List Str}{sp:Sp}{E:XK}{x m:Str}{p pos apos kpos:Pos}{e o:Cb}{es:List Cb}{kws:List Ss}{te ta:TE}{t tk:TA}{nm:Option Str}
variable{g:List A2->List A2->List A2}{gV:List V->List V->List V}
end
structure FnScope(N P:List Str)(sc:Fh):Prop where
 kind:sc.kind= .function
 co:sc.isCoroutine=false
 gen:sc.isGenerator=false
 nd:N.Nodup
 pre:N.take P.length=P
 par:∀x∈P,sc.names.lookup x=some .local\/sc.names.lookup x=some .cell
 nofree:∀y∈sc.names,y.2≠.free
theorem zfb{kindOf:Str->Option Jd}{x:Str}:∀{binds:List (Str×A2)}{m:Str->Option A2},(∀v,(x,v)∉binds)->bindL kindOf binds m x=m x
 |[],_,_=>rfl
 | (n,v) :: r,m,h=>by
  unfold bindL;rw[zfb fun w hw=>h w (Ac _ hw)]
  split
  ·have:x≠n:=by rintro rfl;exact h v Aj
   simp[this]
  ·rfl
theorem zfd{kindOf:Str->Option Jd}{x:Str}:∀{binds:List (Str×A2)}{m:Str->Option A2},(∀v,(x,v)∉binds)->bindC kindOf binds m x=m x
 |[],_,_=>rfl
 | (n,v) :: r,m,h=>by
  unfold bindC;rw[zfd fun w hw=>h w (Ac _ hw)]
  split
  ·rfl
  ·have:x≠n:=by rintro rfl;exact h v Aj
   simp[this]
theorem zfc{kindOf:Str->Option Jd}{x:Str}{v:A2}:∀{P:List Str}{vs:List A2}{i:Nat}{m:Str->Option A2},P.Nodup->P[i]?=some x->vs[i]?=some v->kindOf x=some .local->
  bindL kindOf (P.zip vs) m x=some v
 |[],_,_,_,_,h,_,_=>by simp at h
 |_::_,[],_,_,_,_,h,_=>by simp at h
 |p::P,w::vs,0,m,nd,h1,h2,hk=>by
  simp at h1 h2;subst h1;subst h2;show bindL kindOf ((p,w)::P.zip vs) m p=_;unfold bindL;rw[zfb fun v hv=>(Dn.mp nd).1 (J6 hv).1,if_pos hk];simp
 |p::P,w::vs,i+1,m,nd,h1,h2,hk=>by
  show bindL kindOf ((p,w)::P.zip vs) m x=_;unfold bindL;exact zfc (i:=i) (Dn.mp nd).2 (by simpa using h1) (by simpa using h2) hk
theorem zfe{kindOf:Str->Option Jd}{x:Str}{v:A2}:∀{P:List Str}{vs:List A2}{i:Nat}{m:Str->Option A2},P.Nodup->P[i]?=some x->vs[i]?=some v->kindOf x≠some .local->
  bindC kindOf (P.zip vs) m x=some v
 |[],_,_,_,_,h,_,_=>by simp at h
 |_::_,[],_,_,_,_,h,_=>by simp at h
 |p::P,w::vs,0,m,nd,h1,h2,hk=>by
  simp at h1 h2;subst h1;subst h2;show bindC kindOf ((p,w)::P.zip vs) m p=_;unfold bindC;rw[zfd fun v hv=>(Dn.mp nd).1 (J6 hv).1,if_neg hk];simp
 |p::P,w::vs,i+1,m,nd,h1,h2,hk=>by
  show bindC kindOf ((p,w)::P.zip vs) m x=_;unfold bindC;exact zfe (i:=i) (Dn.mp nd).2 (by simpa using h1) (by simpa using h2) hk
noncomputable def start(N:List Str)(vs:List V):St:=vs.map some++Br (N.length-vs.length) none
noncomputable def cxOf(CX:CXT)(P:Ap)(w:Bd)(K:Am)(mg:Str->Option A2)(base:Bx)(N:List Str)(qual:Str)(scope:Fh)(f:A3)(cd:A2)(A:B5)(outer:List Env)(s:A5)(H:Hp)(E:XK):Cx where
 prog:=P
 w:=w
 K:=K
 mg:=mg
 base:=base
 A:=A.deeper (envOfC qual scope s.heap.objs.size f cd)
 N:=N
 s₀:=s
 H₀:=H
 env:=envOfC qual scope s.heap.objs.size f cd
 outer:=outer
 stack:=envOfC qual scope s.heap.objs.size f cd::outer
 ex:=[]
 calm:=true
 fn:=fun _=>true
 pn:=[]
 xe:=fun e s'=>wpAny (model P w) (A.deeper (envOfC qual scope s.heap.objs.size f cd)) (leaving (envOfC qual scope s.heap.objs.size f cd) e) (fun _ s''=>CX outer H s E e s'') (fun e' s''=>CX outer H s E e' s'') s'
theorem zgk{sc:Fh}{n:Nat}{x:Str}(h:sc.names.lookup x=some .cell):∃c,(cellsFrom n sc.names []).lookup x=some c:=by
 have q:=Ia sc.names n [] (.inl h);exact Db.mp q
theorem zeW{CX:CXT}{P:Ap}{w:Bd}{K:Am}{mg:Str->Option A2}{base:Bx}{N ps:List Str}{qual:Str}{scope:Fh}{f:A3}{cd:A2}{A:B5}{outer:List Env}{s s1:A5}{H:Hp}{E:XK}{us:List A2}{vs:List V}
  (S:FnScope N ps scope) (hd:A.handled=none) (e0:Env0 P w K mg base A outer s H) (hl:vs.length=ps.length) (r:Vals vs us)
  (x:InCallC s s.heap.objs.size (bindL (envOfC qual scope s.heap.objs.size f cd).kindOf (ps.zip us) fun _=>none) (cellsFrom (s.heap.objs.size+1) scope.names []) (bindC (envOfC qual scope s.heap.objs.size f cd).kindOf (ps.zip us) fun _=>none) s1):
  Inv (cxOf CX P w K mg base N qual scope f cd A outer s H E) [] (start N vs) H s1:=by
 have hpl:ps.length<=N.length:=by have:=congrArg Ev S.pre;rw[Cq] at this;omega
 obtain⟨h1,tk,rfl,hk⟩:=x.done;have noA:∀b:A3,b∉(cxOf CX P w K mg base N qual scope f cd A outer s H E).ex:=fun b z=>absurd (show b∈([]:List A3) from z) (by simp);refine⟨⟨e0.mod,S.kind,rfl,rfl,Ab _,fun y z c h1 h2=>?_,fun y hy=>?_,fun y c _ h=>?_,fun _=>hd,Mj e0.frames,.inr ⟨rfl,rfl⟩,fun b z=>absurd z (noA b),e0.bs,e0.bsz,fun b _ _=>noA b,fun b z=>absurd z (noA b),e0.funs,e0.frf⟩,
  rfl,e0.bare,Un.kept hk,⟨_,x.toInCall.ns,fun i y v h1 h2 h3=>?_⟩,fun y c h=>⟨_,x.cell y c h⟩,e0.hok.fresh (Ab _),fun y c h=>?_,fun p hp=>absurd (show p∈([]:List (A3×Obj)) from hp) (by simp),e0.hok.kept hk,?_⟩
 ·exact name_of_addr x.apart (Fn h1) (Fn h2)
 ·have hy:scope.names.lookup y=some .cell\/scope.names.lookup y=some .free:=hy;rcases hy with hy|hy
  ·exact zgk hy
  ·exact absurd rfl (S.nofree _ (Fn hy))
 ·exact G9 (x.above y c (Fn h))
 ·have hi:i<vs.length:=by
   unfold start at h2;by_cases hi:i<vs.length
   ·exact hi
   ·rw[Dj (by simpa using hi)] at h2;rw[Ie] at h2
    split at h2<;>cases h2
  have ha:vs[i]?=some v:=by
   unfold start at h2;rw[Do (by simpa using hi),Ad] at h2
   cases e:vs[i]? with
   |none=>rw[e] at h2;cases h2
   |some a=>rw[e] at h2;cases h2;rfl
  obtain⟨u,hu,rv⟩:=r.get ha;have hp:ps[i]?=some y:=by
   rw[<-S.pre,M0 (by omega)];exact h1
  have ndP:ps.Nodup:=by rw[<-S.pre];exact S.nd.sublist (Fy _ _)
  refine⟨u,rv,?_⟩;rcases S.par y (B0 hp) with k|k
  ·exact .inl ⟨k,zfc ndP hp hu k⟩
  ·obtain⟨c,e⟩:=zgk (n:=s.heap.objs.size+1) k;refine .inr ⟨.inl k,c,e,?_⟩;have q:=x.cell y c e;rw[zfe ndP hp hu (by show scope.names.lookup y≠_;rw[k];decide)] at q;exact q
 ·exact e0.hok.fresh (G9 (x.above y c (Fn h)))
 ·unfold start;show _=N.length;rw[Ag,A4,My];omega
theorem zhV{CX:CXT}{P:Ap}{w:Bd}{K:Am}{mg:Str->Option A2}{base:Bx}{k:Nat}{f:A3}{name qual:Str}{params:Qe}{body:List Ca}{scope:Fh}{dV kV doc pm cdv ct oc:A2}{an od:Option A3}
  {osl:Array (Option A2)} {N ps:List Str} {sp:Sp} (lk:K.lookup f=some ⟨oc,od,.func (Ck name qual params body scope dV kV doc pm an cdv ct),osl⟩) (hcd:Fa K cdv qual=true) (S:FnScope N ps scope)
  (len:∀vs H Q E,sp vs H Q E->vs.length=ps.length)
  (hbody:∀(A:B5)(outer:List Env)(s:A5)(H:Hp)(vs:List V)(Q:VK)(E:XK),Room k (A.deeper (envOfC qual scope s.heap.objs.size f cdv))->sp vs H Q E->
   ∃t,PSs (cxOf CX P w K mg base N qual scope f cdv A outer s H E) body t/\t {nx:=fun _ H'=>Q .non H',rt:=Q} (start N vs) H):
  FnOk P w K mg base CX (k+1) f (Ck name qual params body scope dV kV doc pm an cdv ct) ps sp:=by
 refine⟨len,fun A outer s H args us vs Q E hr e0 hb r hsp=>?_⟩;have hl:=len _ _ _ _ hsp;have KX:K.In s.heap:=e0.mod.kin.keeps fun b o e=>(e0.bs b o e).1;have lim:s.heap.NoLimit:=e0.mod.nolimit.keeps fun b o e=>(e0.bs b o e).1;have hkind:∀y∈ps.zip us,scope.names.lookup y.1=some .local\/(scope.names.lookup y.1=some .cell/\((cellsFrom (s.heap.objs.size+1) scope.names []).lookup y.1).isSome=true):=fun⟨n,v⟩hy=>by
  rcases S.par n (J6 hy).1 with q|q
  ·exact .inl q
  ·exact .inr ⟨q,Ia _ _ _ (.inl q)⟩
 refine Oh hr.depth (KX _ _ lk) rfl S.co S.gen rfl (Mt KX hcd) (hb _ _ _ _ ?_);refine Ml S.kind hkind fun env he s1 x=>?_;subst he;refine⟨lim.keeps x.toInCall.keep,Sl ?_⟩;obtain⟨t,ht,hq⟩:=hbody A outer s H vs Q E (hr.deeper _) hsp;have I:Inv (cxOf CX P w K mg base N qual scope f cdv A outer s H E) [] (start N vs) H s1:=zeW S hr.hd e0 hl r x;refine Ct (ht [] s1 (start N vs) H _ I hq) (fun fl s' hs=>?_) fun e s' hs=>hs;have fin:∀{σ':St}{H':Hp}{v:V}{u:A2},Inv (cxOf CX P w K mg base N qual scope f cdv A outer s H E) [] σ' H' s'->RelV v u->Q v H'->CE outer P w H s Q u s':=
  fun{σ' H' v u}J rv q=>⟨v,H',J.os,J.bare,J.base,J.hok,rv,q⟩
 cases fl with
 |ret u=>
  obtain⟨v,σ',H',J,rv,q⟩:=hs;exact fin J rv q
 |next=>
  obtain⟨σ',H',J,q⟩:=hs;exact fin (v:=V.non) (u:=Dw) J rfl q
 |brk=>
  obtain⟨_,_,_,q⟩:=hs;exact Ci q
 |cont=>
  obtain⟨_,_,_,q⟩:=hs;exact Ci q
section
variable{X:Cx}{x:Str}{p pos:Pos}{e:Cb}{es:List Cb}{t:TA}{id T:String}{r:List V->Hp->VK->Prop}
noncomputable def tCB(r:List V->Hp->VK->Prop)(t:TA):TE:=fun σ H Q=>t σ H fun vs H1=>r vs H1 Q
theorem zai(hc:CallR X (.builtin id) r)(hg:Gl X x)(hm:X.mg x=none)(hv:bootBuiltins x=some (.builtin id))(ha:PA X (e::es) t)(hn:x≠"__name__":=by decide)(hdb:(x==("__debug__":Str))=false:=by decide)
  (he:starEach (e::es) X.env=(false,eval e X.env)::starEach es X.env:=by rfl) (hpl:(backTo pos (starEach es X.env)).any (·.1)=false:=by rfl):PE X (.Call (.Name x p) (e::es) [] pos) (tCB r t):=by
 intro pins s σ H Q I h;refine G7 (zd7 I hg hm hv ?_ hn hdb);exact Ra (thnE (ha pos pins s σ H _ I h) fun us s1 vs H1 I1 r1 q1=>hc pins s1 σ H1 vs us Q I1 r1 q1) he hpl
theorem zbe(hc:CallR X (.type T) r)(hg:Gl X x)(hm:X.mg x=none)(hv:bootBuiltins x=some (.type T))(ha:PA X (e::es) t)(hn:x≠"__name__":=by decide)(hdb:(x==("__debug__":Str))=false:=by decide)
  (he:starEach (e::es) X.env=(false,eval e X.env)::starEach es X.env:=by rfl) (hpl:(backTo pos (starEach es X.env)).any (·.1)=false:=by rfl):PE X (.Call (.Name x p) (e::es) [] pos) (tCB r t):=by
 intro pins s σ H Q I h;refine G7 (zd7 I hg hm hv ?_ hn hdb);exact Ep (thnE (ha pos pins s σ H _ I h) fun us s1 vs H1 I1 r1 q1=>hc pins s1 σ H1 vs us Q I1 r1 q1) he hpl
end
end L2
namespace HT
open PySem PyProof.Rows
noncomputable def lexLt:List Int->List Int->Bool
 |[],[]=>false
 |[],_::_=>true
 |_::_,[]=>false
 |x::xs,y::ys=>if x=y then lexLt xs ys else decide (x<y)
theorem lexLt_cons(x y:Int)(xs ys:List Int):lexLt (x::xs) (y::ys)=if x=y then lexLt xs ys else decide (x<y):=rfl
theorem lexLt_nil_nil:lexLt [] []=false:=rfl
theorem lexLt_nil_cons(y:Int)(ys:List Int):lexLt [] (y::ys)=true:=rfl
theorem lexLt_cons_nil(x:Int)(xs:List Int):lexLt (x::xs) []=false:=rfl
theorem eqAt_int(A:B5)(s:A5)(a:Int)(t:Tok)(c:Int)(u:Tok):∃e,Nd A s (.int a t) (.int c u) e/\(e=true↔a=c):=
 ⟨(a==c),Lv a t c u,by simp⟩
theorem rcLt_int(A:B5)(s:A5)(a:Int)(t:Tok)(c:Int)(u:Tok)(prog:Ap)(w:Bd)(E:A2->A5->Prop)(Q:A2->A5->Prop)(h:Q (.bool (decide (a<c))) s):
  wpAny (model prog w) A (richCompare .Lt (.int a t) (.int c u)) Q E s:=
 (La h:wpAny (model prog w) A (compareOp .Lt (.int a t) (.int c u)) Q E s)
section
open PySem.SeqAt
open PySem.AutoSeq1 (wpAny_loadPart')
open PySem.MeetsSeq PySem.MeetsSeq2 PySem.MeetsSeq3
theorem tuple_lt_ints(l b:A3)(items items2:Array A2)(n n2:Nat)(dd dd2:Option A3)(sl sl2:Array (Option A2))(ns ms:List Int)(hi:Ds items.toList ns)(hj:Ds items2.toList ms):
  Meets (Fp.«tuple.__lt__» ⟨[.ref l,.ref b],[]⟩)
   (fun _ R s=>s.heap.get? l=some {cls:=.type "tuple",dict:=dd,data:=.seq items n,slots:=sl}/\s.heap.get? b=some {cls:=.type "tuple",dict:=dd2,data:=.seq items2 n2,slots:=sl2}/\
    R (.ok (.ret (.bool (lexLt ns ms)))) s):=
 .of_wp fun prog w A R s h=>by
  obtain⟨hp,g,d,tk,os⟩:=s;obtain⟨hl,hb,h⟩:=h;have f2:=AutoSeq1.sub_tuple_tuple;have z1:items.size=ns.length:=by rw[<-hi.length];simp
  have z2:items2.size=ms.length:=by rw[<-hj.length];simp
  wp_walk using Qg hl,Qg hb,Gq _ (fun rest b s'=>b.1=none/\s'=⟨hp,g,d,tk,os⟩/\∃(vs ws:List A2)(ns' ms':List Int),rest=vs.zip ws/\
   Ds vs ns'/\Ds ws ms'/\ns'.length+items2.size=ms'.length+items.size/\R (.ok (.ret (.bool (lexLt ns' ms')))) ⟨hp,g,d,tk,os⟩) _
  case turn=>
   rintro⟨y,x⟩rest b s'⟨hb',rfl,vs,ws,ns',ms',hz,hvi,hwi,hlen,hR⟩
   cases hvi with
   |nil=>rw[List.zip_nil_left] at hz;cases hz
   |cons a t hvi'=>
    cases hwi with
    |nil=>rw[List.zip_nil_right] at hz;cases hz
    |cons c u hwi'=>
     rw[He] at hz;injection hz with hyx hrest;injection hyx with hy hx;subst hy hx;rw[lexLt_cons] at hR;simp only[Av] at hlen;obtain⟨e,he,hiff⟩:=eqAt_int A.in1 ⟨hp,g,d,tk,os⟩ a t c u;refine A1 (he prog w _ _ ?_)
     cases e with
     |true=>
      rw[if_pos (hiff.mp rfl)] at hR
      wp_walk
      exact⟨rfl,rfl,_,_,_,_,hrest,hvi',hwi',by omega,hR⟩
     |false=>
      rw[if_neg (fun q=>absurd (hiff.mpr q) Aa)] at hR;have hri:=rcLt_int A.in1 ⟨hp,g,d,tk,os⟩ a t c u prog w
      wp_walk using hri
      exact⟨_,rfl,by simpa using hR⟩
  case fin=>
   rintro⟨b1,b2⟩s'⟨hb',rfl,vs,ws,ns',ms',hz,hvi,hwi,hlen,hR⟩;simp only at hb';subst hb';have hv:lexLt ns' ms'=decide (items.size<items2.size):=by
    cases hvi with
    |nil=>
     cases hwi with
     |nil=>
      simp only[J7] at hlen;rw[lexLt_nil_nil];exact(decide_eq_false (by omega)).symm
     |cons c u hw=>
      simp only[J7,Av] at hlen;rw[lexLt_nil_cons];exact(decide_eq_true (by omega)).symm
    |cons a t hv=>
     cases hwi with
     |nil=>
      simp only[J7,Av] at hlen;rw[lexLt_cons_nil];exact(decide_eq_false (by omega)).symm
     |cons c u hw=>
      rw[He] at hz
      cases hz
   rw[hv] at hR
   wp_walk
   exact⟨_,rfl,by simpa[Qd] using hR⟩
  case h=>
   exact⟨rfl,rfl,items.toList,items2.toList,ns,ms,rfl,hi,hj,by omega,h⟩
end
section
variable{prog:Ap}{w:Bd}{A:B5}{E:A2->A5->Prop}{s:A5}
theorem lt_tupInts{l b:A3}{items items2:Array A2}{ns ms:List Int}{Q:A2->A5->Prop}(hl:Js s.heap l items)(hb:Js s.heap b items2)(hi:Ds items.toList ns)(hj:Ds items2.toList ms)
  (hu:A.units<cLine) (h:Q (.bool (lexLt ns ms)) s):wpAny (model prog w) A (compareOp .Lt (.ref l) (.ref b)) Q E s:=by
 obtain⟨⟨cls,dd,data,sl⟩,ho,hc,n,hd⟩:=id hl;obtain⟨⟨cls2,dd2,data2,sl2⟩,ho2,hc2,n2,hd2⟩:=id hb;simp only at hc hd hc2 hd2;subst hc hd hc2 hd2;exact richCompare_meets_room (op:=.Lt) ⟨_,ho,rfl⟩ ⟨_,ho2,rfl⟩ Ii Lm (Lf _ _) (tuple_lt_ints l b items items2 n n2 dd dd2 sl sl2 ns ms hi hj)
  ⟨ho,ho2,show Ih (lexLt ns ms)≠Value.notImplemented/\Q (.bool (lexLt ns ms)) s from⟨(fun x=>nomatch x),h⟩⟩ hu
end
end HT
namespace L2
open PySem PySem.Spec PyProof.Rows
noncomputable abbrev TO:=St->Hp->(Option Int->Hp->Prop)->Prop
section
variable{X:Cx}{e:Cb}{te:TE}{lo hi:Option Cb}{tl th:TO}{pos p2:Pos}
end
noncomputable def ixN(n:Nat)(i:Int):Option Nat:=if 0<=i then(if i<n then some i.toNat else none) else if-(n:Int)<=i then some (i+n).toNat else none
noncomputable def atI{α:Type}(xs:List α)(i:Int):Option α:=(ixN xs.length i).bind fun j=>xs[j]?
theorem zg1{n:Nat}{i:Int}{j:Nat}(h:ixN n i=some j):seqIndex? i n=some j/\j<n/\ -(n:Int)<=i/\i<n:=by
 unfold ixN at h;by_cases h0:0<=i
 ·rw[if_pos h0] at h;by_cases h1:i<n
  ·rw[if_pos h1] at h;have e:i.toNat=j:=Bw h;exact⟨by rw[Os h0 h1,e],by omega,by omega,h1⟩
  ·rw[if_neg h1] at h;cases h
 ·rw[if_neg h0] at h;by_cases h1: -(n:Int)<=i
  ·rw[if_pos h1] at h;have e:(i+n).toNat=j:=Bw h;exact⟨by rw[Nz (by omega) h1,e],by omega,h1,by omega⟩
  ·rw[if_neg h1] at h;cases h
theorem zfC{α:Type}{xs:List α}{i:Int}{v:α}(h:atI xs i=some v):∃j,seqIndex? i xs.length=some j/\xs[j]?=some v/\j<xs.length/\ -(xs.length:Int)<=i/\i<xs.length:=by
 unfold atI at h
 cases e:ixN xs.length i with
 |none=>rw[e] at h;cases h
 |some j=>
  rw[e] at h;obtain⟨h1,h2,h3,h4⟩:=zg1 e;exact⟨j,h1,h,h2,h3,h4⟩
theorem zay{α:Type}{xs:List α}{j:Nat}{v:α}(h:xs[j]?=some v):atI xs (j:Int)=some v:=by
 have hj:j<xs.length:=(Ar.mp h).1;have e:ixN xs.length (j:Int)=some j:=by
  unfold ixN;rw[if_pos (by omega),if_pos (by omega)];simp
 unfold atI;rw[e];exact h
noncomputable def PlainIx(b:Cb):Prop:=∀o i,subscripted b false o i=operate [o,i] (getItem o i)
noncomputable def IxR(X:Cx)(r:R2):Prop:=
 ∀(value slice:Cb)(pins:List (A3×Obj))(s:A5)(σ:St)(H:Hp)(x y:V)(v u:A2)(Q:VK),Inv X pins σ H s->RelV x v->RelV y u->r x y H Q->
  subscripted slice false v u=operate [v,u] (getItem v u)->wpAny (model X.prog X.w) X.A (subscriptTail value slice v u) (EP X pins σ Q) X.xe s
noncomputable def MtR(X:Cx)(id:String)(r:V->List V->Hp->VK->Prop):Prop:=
 ∀(pins:List (A3×Obj))(s:A5)(σ:St)(H:Hp)(x:V)(xs:List V)(v:A2)(us:List A2)(Q:VK),Inv X pins σ H s->RelV x v->Vals xs us->r x xs H Q->
  wpAny (model X.prog X.w) X.A (call (.builtin id) (v::us)) (EP X pins σ Q) X.xe s
section
variable{X:Cx}{a b:Cb}{ta tb:TE}{pos:Pos}
theorem zaB{r:R2}(hr:IxR X r)(ha:PE X a ta)(hb:PE X b tb)(hs:PlainIx b):PE X (.Subscript a b pos) (tOp r ta tb):=by
 intro pins s σ H Q I h;exact Subscript_ (binT ha hb I h fun v u s2 x y H2 I2 rx ry q=>hr a b pins s2 σ H2 x y v u Q I2 rx ry q (hs _ _))
noncomputable def rIxL(K:Am):R2:=fun x y H Q=>∃p xs i v,x= .ref p/\y= .int i/\SqL K H p xs/\atI xs i=some v/\Q v H
noncomputable def rIxT(K:Am):R2:=fun x y H Q=>∃p xs i v,x= .ref p/\y= .int i/\SqT K H p xs/\atI xs i=some v/\Q v H
noncomputable def rIxS:R2:=fun x y H Q=>∃z i c,x= .str z/\y= .int i/\z.length<=sizeLine/\atI z.cps.toList i=some c/\Q (.str ⟨#[c]⟩) H
theorem zaO:IxR X (rIxL X.K):=by
 intro value slice pins s σ H x y v u Q I rx ry h hs;obtain⟨p,xs,i,z,rfl,rfl,hq,he,q⟩:=h
 cases rx
 obtain⟨t,rfl⟩:=ry;obtain⟨its,r,pl,hz⟩:=I.list hq;obtain⟨j,h1,h2,h3,h4,h5⟩:=zfC he;obtain⟨w,ew,rw'⟩:=r.get h2;have hl:=r.length;have hn:=zd6;have fin:EP X pins σ Q w s:=⟨z,H,I,rw',q⟩;by_cases h0:0<=i
 ·have hj:i.toNat=j:=by
   rw[Os h0 h5] at h1;exact Bw h1
  exact item_listR pl.isList h0 (by omega) (by rw[hj];simpa using ew) fin hs
 ·have hj:(i+(its.toArray.size:Int)).toNat=j:=by
   rw[Nz (by omega) h4] at h1;rw[Bg,<-hl];exact Bw h1
  exact Ny (x:=w) pl.isList.typeIs slot_list_getitem.lookup
   (wpAny_getItem_list_neg (Q:=fun r s'=>r=w/\EP X pins σ Q r s') pl.isList (by omega) (by rw[Bg]<;>omega) (by omega) (by rw[hj];simpa using ew) ⟨rfl,fin⟩) hs
theorem zaN:IxR X (rIxT X.K):=by
 intro value slice pins s σ H x y v u Q I rx ry h hs;obtain⟨p,xs,i,z,rfl,rfl,hq,he,q⟩:=h
 cases rx
 obtain⟨t,rfl⟩:=ry;obtain⟨its,r,pl,hz⟩:=I.tuple hq;obtain⟨j,h1,h2,h3,h4,h5⟩:=zfC he;obtain⟨w,ew,rw'⟩:=r.get h2;have hl:=r.length;have hn:=zd6;have fin:EP X pins σ Q w s:=⟨z,H,I,rw',q⟩;exact Ny (x:=w) pl.typeIs slot_tuple_getitem.lookup
  (getItem_tuple (j:=j) (Q:=fun r s'=>r=w/\EP X pins σ Q r s') pl (by omega) (by omega) (by rw[Bg,<-hl];exact h1) (by simpa using ew) ⟨rfl,fin⟩) hs
theorem ix_str:IxR X rIxS:=by
 intro value slice pins s σ H x y v u Q I rx ry h hs;obtain⟨z,i,c,rfl,rfl,hz,he,q⟩:=h;obtain⟨t,rfl⟩:=rx;obtain⟨t',rfl⟩:=ry;obtain⟨j,h1,h2,h3,h4,h5⟩:=zfC he;have hl:z.cps.toList.length=z.length:=by simp[Rt]
 rw[hl] at h1 h4 h5;have hn:=zd6;exact tail_any (typeIs_str s z t) slot_str_getitem.lookup (getItem_str (c:=c) (by
  have e1:decide (i< -(2 ^ 63:Int))=false:=decide_eq_false (by omega);have e2:decide (i>=2 ^ 63)=false:=decide_eq_false (by omega);rw[e1,e2,M1]) (by rw[h1];simpa using h2) ⟨.str ⟨#[c]⟩,H,I.tok _,⟨_,rfl⟩,q⟩) hs
theorem mapSeq_set(its:List A2)(n j:Nat)(u:A2):Ej (·.setIfInBounds j u) {cls:=.type "list",data:=.seq its.toArray n}={cls:=.type "list",data:=.seq (its.set j u).toArray n}:=by
 simp[Ej]
theorem Inv.lst{pins:List (A3×Obj)}{σ:St}{H:Hp}{s:A5}{p:A3}{xs:List V}(I:Inv X pins σ H s)(h:H p=some (.lst xs)):
  ∃(its:List A2)(n:Nat),Vals xs its/\s.heap.get? p=some {cls:=.type "list",data:=.seq its.toArray n}/\xs.length<=sizeLine:=by
 obtain⟨z,its,n,r,e⟩:=I.hok p _ h;exact⟨its,n,r,e,z⟩
theorem Inv.lstUpd{pins:List (A3×Obj)}{σ:St}{H:Hp}{s:A5}{p:A3}{xs ys:List V}{its its':List A2}{n n':Nat}{f:Obj->Obj}(I:Inv X pins σ H s)(h:H p=some (.lst xs))
  (ho:s.heap.get? p=some {cls:=.type "list",data:=.seq its.toArray n}) (hf:f {cls:=.type "list",data:=.seq its.toArray n}={cls:=.type "list",data:=.seq its'.toArray n'}) (r:Vals ys its') (hz:ys.length<=sizeLine) (t:Nat):
  Inv X pins σ (upd H p (.lst ys)) {s with heap:=s.heap.update p f,toks:=t}:=by
 have e:(s.heap.update p f).get? p=some {cls:=.type "list",data:=.seq its'.toArray n'}:=by
  rw[Gh f ho (by rw[hf]<;>rfl),hf]
 refine I.write (x:=p) (e:=p) (by rw[h];trivial) (.inl rfl) (fun b u hb q=>(G3 _ _ (Dz hb)).trans q) ⟨_,e⟩ ?_;exact⟨hz,its',n',r,e⟩
noncomputable def rSetL:V->V->V->Hp->(Hp->Prop)->Prop:=fun o i v H Q=>∃p xs k j,o= .ref p/\i= .int k/\H p=some (.lst xs)/\ixN xs.length k=some j/\Q (upd H p (.lst (xs.set j v)))
theorem zfO:PSet X rSetL:=by
 intro pins s σ H o i v ov iv u Q I ro ri rv h;obtain⟨p,xs,k,j,rfl,rfl,hp,hj,q⟩:=h
 cases ro
 obtain⟨t,rfl⟩:=ri;obtain⟨its,n,r,ho,hz⟩:=I.lst hp;obtain⟨h1,h2,h3,h4⟩:=zg1 hj;have hl:=r.length;have hn:=zd6;have I':Inv X pins σ (upd H p (.lst (xs.set j v))) {s with heap:=s.heap.update p (Ej (·.setIfInBounds j u))}:=
  I.lstUpd hp ho (mapSeq_set its n j u) (r.set rv j) (by rw[Ow];exact hz) s.toks
 by_cases h0:0<=k
 ·have hk:k.toNat=j:=by
   rw[Os h0 h4] at h1;exact Bw h1
  exact PySem.W.ki_setAt ho h0 (by omega) (by rw[Bg,<-hl];exact h4) (by rw[hk];exact⟨_,I',q⟩)
 ·have hk:(k+(its.toArray.size:Int)).toNat=j:=by
   rw[Nz (by omega) h3] at h1;rw[Bg,<-hl];exact Bw h1
  exact PySem.W.ki_setBack ho (by omega) (by rw[Bg,<-hl];exact h3) (by omega) (by rw[hk];exact⟨_,I',q⟩)
noncomputable def flatV:V->Bool
 | .non=>true
 | .bl _=>true
 | .int _=>true
 | .str _=>true
 |_=>false
noncomputable def eqV:V->V->Bool
 | .non,.non=>true
 | .bl a,.bl b=>a==b
 | .bl a,.int b=>(if a then 1 else 0)==b
 | .int a,.bl b=>a==(if b then 1 else 0)
 | .int a,.int b=>a==b
 | .str a,.str b=>a==b
 |_,_=>false
theorem eqAt_V{A:B5}{s:A5}{y x:V}{u v:A2}(ry:RelV y u)(rx:RelV x v)(fy:flatV y=true)(fx:flatV x=true):Nd A s u v (eqV y x):=by
 cases y with
 |non=>
  cases ry
  cases x with
  |non=>cases rx;exact S7 _
  |bl b=>cases rx;exact Sc b
  |int b=>obtain⟨t,rfl⟩:=rx;exact S9 b t
  |str b=>obtain⟨t,rfl⟩:=rx;exact S8 b t
  |_=>exact absurd (show false=true from fx) Aa
 |bl a=>
  cases ry
  cases x with
  |non=>cases rx;exact Sg a
  |bl b=>cases rx;exact Si a b
  |int b=>obtain⟨t,rfl⟩:=rx;exact Sh a b t
  |str b=>obtain⟨t,rfl⟩:=rx;exact Sf a b t
  |_=>exact absurd (show false=true from fx) Aa
 |int a=>
  obtain⟨t',rfl⟩:=ry
  cases x with
  |non=>cases rx;exact Sd a t'
  |bl b=>cases rx;exact Se a t' b
  |int b=>obtain⟨t,rfl⟩:=rx;exact Lv a t' b t
  |str b=>obtain⟨t,rfl⟩:=rx;exact Lu a t' b t
  |_=>exact absurd (show false=true from fx) Aa
 |str a=>
  obtain⟨t',rfl⟩:=ry
  cases x with
  |non=>cases rx;exact S5 a t'
  |bl b=>cases rx;exact S6 a t' b
  |int b=>obtain⟨t,rfl⟩:=rx;exact Ls a t' b t
  |str b=>obtain⟨t,rfl⟩:=rx;exact S4 a t' b t
  |_=>exact absurd (show false=true from fx) Aa
 |_=>exact absurd (show false=true from fy) Aa
noncomputable def eqU(x:V)(u:A2):Bool:=match u with
 | .none=>eqV .non x
 | .bool b=>eqV (.bl b) x
 | .int i _=>eqV (.int i) x
 | .str z _=>eqV (.str z) x
 |_=>false
theorem zhG{x y:V}{u:A2}(r:RelV y u)(f:flatV y=true):eqU x u=eqV y x:=by
 cases y with
 |non=>cases r;rfl
 |bl b=>cases r;rfl
 |int i=>obtain⟨t,rfl⟩:=r;rfl
 |str z=>obtain⟨t,rfl⟩:=r;rfl
 |_=>exact absurd (show false=true from f) Aa
theorem zdL{x:V}:∀{xs:List V}{us:List A2},Vals xs us->xs.all flatV=true->us.any (eqU x)=xs.any fun y=>eqV y x
 |_,_,.nil,_=>rfl
 |y::xs,u::us,.cons r t,f=>by
  rw[Pg,Bu] at f;rw[Gj,Gj,zhG r f.1,zdL t f.2]
theorem zcM{A:B5}{s:A5}{x:V}{v:A2}(rx:RelV x v)(fx:flatV x=true):∀{xs:List V}{us:List A2},Vals xs us->xs.all flatV=true->∀u∈us,Nd A s u v (eqU x u)
 |_,_,.nil,_=>fun u hu=>by cases hu
 |y::xs,u::us,.cons r t,f=>fun u' hu=>by
  rw[Pg,Bu] at f;rcases Ba.mp hu with rfl|hu
  ·rw[zhG r f.1];exact eqAt_V r rx f.1 fx
  ·exact zcM rx fx t f.2 u' hu
noncomputable def inV(x:V)(xs:List V):Bool:=xs.any fun y=>eqV y x
noncomputable def rIn(K:Am)(neg:Bool):R2:=fun x y H Q=>∃p xs,y= .ref p/\(SqL K H p xs\/SqT K H p xs)/\flatV x=true/\xs.all flatV=true/\Q (.bl (if neg then !inV x xs else inV x xs)) H
theorem zb8:OpR X (compareOp .In) (rIn X.K false):=by
 intro pins s σ H x y v u Q I rx ry h;obtain⟨p,xs,rfl,hq,fx,fs,q⟩:=h
 cases ry
 rcases hq with hq|hq
 ·obtain⟨its,r,pl,hz⟩:=I.list hq;refine SeqAt.in_listAt (eqU x) pl.isList (fun w hw=>zcM rx fx r fs w (by simpa using hw)) ⟨.bl _,H,I,rfl,?_⟩;rw[show its.toArray.any (eqU x)=its.any (eqU x) by simp,zdL r fs];exact q
 ·obtain⟨its,r,pl,hz⟩:=I.tuple hq;refine SeqAt.in_tupleAt (eqU x) pl (fun w hw=>zcM rx fx r fs w (by simpa using hw)) ⟨.bl _,H,I,rfl,?_⟩;rw[show its.toArray.any (eqU x)=its.any (eqU x) by simp,zdL r fs];exact q
theorem zb7:OpR X (compareOp .NotIn) (rIn X.K true):=by
 intro pins s σ H x y v u Q I rx ry h;obtain⟨p,xs,rfl,hq,fx,fs,q⟩:=h
 cases ry
 rcases hq with hq|hq
 ·obtain⟨its,r,pl,hz⟩:=I.list hq;refine SeqAt.notIn_listAt (eqU x) pl.isList (fun w hw=>zcM rx fx r fs w (by simpa using hw)) ⟨.bl _,H,I,rfl,?_⟩;rw[show its.toArray.any (eqU x)=its.any (eqU x) by simp,zdL r fs];exact q
 ·obtain⟨its,r,pl,hz⟩:=I.tuple hq;refine SeqAt.notIn_tupleAt (eqU x) pl (fun w hw=>zcM rx fx r fs w (by simpa using hw)) ⟨.bl _,H,I,rfl,?_⟩;rw[show its.toArray.any (eqU x)=its.any (eqU x) by simp,zdL r fs];exact q
theorem zat:CallR X (.builtin "len") (fun xs H Q=>∃p ys,xs=[.ref p]/\(SqL X.K H p ys\/SqT X.K H p ys)/\Q (.int ys.length) H):=by
 intro pins s σ H xs us Q I r h;obtain⟨p,ys,rfl,hq,q⟩:=h;obtain⟨u,rfl,rx⟩:=zb2 r
 cases rx
 have hn:=zd6;rcases hq with hq|hq
 ·obtain⟨its,r',pl,hz⟩:=I.list hq;have hlen:=r'.length;exact Calls.call_len_list pl.isList (by simp only[Bg]<;>omega) ⟨.int ys.length,H,I.tok _,⟨s.toks+1,by rw[Bg,hlen]⟩,q⟩
 ·obtain⟨its,r',pl,hz⟩:=I.tuple hq;have hlen:=r'.length;exact len_tuple pl (by simp only[Bg]<;>omega) ⟨.int ys.length,H,I.tok _,⟨s.toks+1,by rw[Bg,hlen]⟩,q⟩
theorem call_len_str:CallR X (.builtin "len") (fun xs H Q=>∃z,xs=[.str z]/\z.length<=sizeLine/\Q (.int z.length) H):=by
 intro pins s σ H xs us Q I r h;obtain⟨z,rfl,hz,q⟩:=h;obtain⟨u,rfl,t,rfl⟩:=zb2 r;have hn:=zd6;exact len_str (by omega) ⟨.int z.length,H,I.tok _,⟨_,rfl⟩,q⟩
theorem zcc:CallR X (.type "list") (fun xs H Q=>∃p ys,xs=[.ref p]/\(SqL X.K H p ys\/SqT X.K H p ys)/\∀l,H l=none->Q (.ref l) (upd H l (.lst ys))):=by
 intro pins s σ H xs us Q I r h;obtain⟨p,ys,rfl,hq,q⟩:=h;obtain⟨u,rfl,rx⟩:=zb2 r
 cases rx
 have fin:∀(its:List A2),Vals ys its->ys.length<=sizeLine->∀(h':Bx)(c':Nat),(∀b o',s.heap.get? b=some o'->h'.get? b=some o')->
   h'.get? s.heap.objs.size=some {cls:=.type "list",dict:=none,data:=.seq its.toArray c',slots:=#[]}->EP X pins σ Q (.ref s.heap.objs.size) {s with heap:=h'}:=fun its r' hz h' c' kp e=>
  ⟨.ref s.heap.objs.size,_,I.laid (t':=s.toks) kp (Ab _) (show ObjOk X.prog X.w _ h' _ (.lst ys) from⟨hz,its,c',r',e⟩),rfl,q _ (I.hok.fresh (Ab _))⟩
 rcases hq with hq|hq
 ·obtain⟨its,r',pl,hz⟩:=I.list hq;have hlen:=r'.length;obtain⟨o,ho,hc,n,hd⟩:=pl.isList;exact S1 p (.inl rfl) ho hc hd (fun h' c' kp e=>fin its r' hz h' c' kp e) (by simp only[Bg]<;>omega)
 ·obtain⟨its,r',pl,hz⟩:=I.tuple hq;have hlen:=r'.length;obtain⟨o,ho,hc,n,hd⟩:=pl;exact S1 p (.inr rfl) ho hc hd (fun h' c' kp e=>fin its r' hz h' c' kp e) (by simp only[Bg]<;>omega)
theorem zcN:CallR X (.type "tuple") (fun xs H Q=>∃p ys,xs=[.ref p]/\((SqL X.K H p ys/\∀l,H l=none->Q (.ref l) (upd H l (.tup ys)))\/(SqT X.K H p ys/\Q (.ref p) H))):=by
 intro pins s σ H xs us Q I r h;obtain⟨p,ys,rfl,h⟩:=h;obtain⟨u,rfl,rx⟩:=zb2 r
 cases rx
 rcases h with⟨hq,q⟩|⟨hq,q⟩
 ·obtain⟨its,r',pl,hz⟩:=I.list hq;have hlen:=r'.length;refine call_tuple_list pl.isList (fun h' kp=>?_) (by simp only[Bg]<;>omega);have I1:Inv X pins σ H {s with heap:=h'}:=I.kept (t':=s.toks) kp;have I2:Inv X pins σ (upd H h'.objs.size (.tup ys)) {s with heap:=h'.push {cls:=.type "tuple",data:=.seq its.toArray}}:=
   I1.laid (t':=s.toks) (fun b o e=>A8 _ e) (Ab _) (show ObjOk X.prog X.w _ _ _ (.tup ys) from⟨hz,its,r',IsTup.new _ _⟩)
  exact⟨.ref h'.objs.size,_,I2,rfl,q _ (I1.hok.fresh (Ab _))⟩
 ·obtain⟨its,r',pl,hz⟩:=I.tuple hq;exact call_tuple_same pl ⟨.ref p,H,I,rfl,q⟩
noncomputable def tyV(K:Am)(T:String)(x:V)(H:Hp):Prop:=match x with
 | .str _=>T="str"
 | .int _=>T="int"
 | .ref p=>(T="list"/\∃xs,SqL K H p xs)\/(T="tuple"/\∃o,K.lookup p=some o/\o.cls= .type "tuple"/\o.dict=none)\/
   (T="dict"/\((∃kvs,H p=some (.dK kvs))\/∃kvs,H p=some (.dT kvs)))\/(T="set"/\∃S n,H p=some (.set S n))
 |_=>False
theorem zhs{pins:List (A3×Obj)}{σ:St}{H:Hp}{s:A5}{T:String}{x:V}{v:A2}(I:Inv X pins σ H s)(r:RelV x v)(ty:tyV X.K T x H):
  s.TypeIs v T/\∀a,v= .ref a->∃ob,s.heap.get? a=some ob/\ob.dict=none:=by
 cases x with
 |str z=>
  obtain⟨t,rfl⟩:=r
  cases(show T="str" from ty)
  exact⟨typeIs_str s z t,fun _ e=>nomatch e⟩
 |int i=>
  obtain⟨t,rfl⟩:=r
  cases(show T="int" from ty)
  exact⟨Pc s i t,fun _ e=>nomatch e⟩
 |ref p=>
  cases r
  rcases ty with⟨rfl,xs,hq⟩|⟨rfl,o,hk,hc,hd⟩|⟨rfl,hk⟩|⟨rfl,S,n,hk⟩
  ·obtain⟨its,_,pl,_⟩:=I.list hq;refine⟨pl.isList.typeIs,fun a e=>?_⟩
   cases e
   obtain⟨o,n,e,c,hd,_⟩:=pl;exact⟨o,e,hd⟩
  ·refine⟨⟨o,I.kIn p o hk,hc⟩,fun a e=>?_⟩
   cases e
   exact⟨o,I.kIn _ o hk,hd⟩
  ·have z:∃o,s.heap.get? p=some o/\o.ExactDict:=by
    rcases hk with⟨kvs,hk⟩|⟨kvs,hk⟩
    ·obtain⟨_,_,_,_,o,_,_,e,ex,_⟩:=I.hok p _ hk;exact⟨o,e,ex⟩
    ·obtain⟨_,_,_,_,o,_,_,e,ex,_⟩:=I.hok p _ hk;exact⟨o,e,ex⟩
   obtain⟨o,e,ex⟩:=z;refine⟨⟨o,e,ex.1⟩,fun a e2=>?_⟩
   cases e2
   exact⟨o,e,ex.2.1⟩
  ·obtain⟨o,_,_,_,e,ex,_⟩:=I.hok p _ hk;refine⟨⟨o,e,ex.1⟩,fun a e2=>?_⟩
   cases e2
   exact⟨o,e,ex.2.1⟩
 |_=>exact Ci ty
noncomputable def tBM0(K:Am)(T:String)(r:V->List V->Hp->VK->Prop)(to:TE):TE:=fun σ H Q=>to σ H fun x H1=>tyV K T x H1/\r x [] H1 Q
noncomputable def tBM(K:Am)(T:String)(r:V->List V->Hp->VK->Prop)(to:TE)(t:TA):TE:=fun σ H Q=>to σ H fun x H1=>tyV K T x H1/\t σ H1 fun xs H2=>r x xs H2 Q
variable{o e:Cb}{es:List Cb}{to:TE}{t:TA}{name:Str}{apos cpos:Pos}{T id:String}{r:V->List V->Hp->VK->Prop}
theorem pe_bm0(pa:PlainAttrs T)(slot:Slot T name id)(hty:typeOf (.builtin id)=pure (.type "method_descriptor"))(hm:MtR X id r)(ho:PE X o to)
  (hbase:attributeBase o name X.env (eval o X.env)=eval o X.env:=by rfl) (hline:(apos.endLine==cpos.line)=true:=by rfl):PE X (.Call (.Attribute o name apos) [] [] cpos) (tBM0 X.K T r to):=by
 intro pins s σ H Q I h;refine wpAny_Call_method0_late hbase hline (thnE (ho pins s σ H _ I h) fun v s1 x H1 I1 r1⟨ty,q1⟩=>?_);obtain⟨h1,h2⟩:=zhs I1 r1 ty;exact⟨T,id,pa,slot,hty,h1,h2,Ma rfl (PySem.evalArgs_none (hm pins s1 σ H1 x [] v [] Q I1 r1 .nil q1))⟩
theorem zdP(pa:PlainAttrs T)(slot:Slot T name id)(hty:typeOf (.builtin id)=pure (.type "method_descriptor"))(hm:MtR X id r)(ho:PE X o to)(ha:PA X (e::es) t)
  (hbase:attributeBase o name X.env (eval o X.env)=eval o X.env:=by rfl)
  (hfew:((backTo cpos (starEach (e::es) X.env)).all (fun x=> !x.1)&&(backToKw cpos (keywordEach [] X.env)).all (fun x=>x.1.isSome)
   &&decide ((e::es).length+([]:List Ss).length+(if([]:List Ss).isEmpty then 0 else 1)<30))=true:=by rfl)
  (hline:(apos.endLine==cpos.line)=true:=by rfl) (hs:starEach (e::es) X.env=(false,eval e X.env)::starEach es X.env:=by rfl) (hplain:(backTo cpos (starEach es X.env)).any (·.1)=false:=by rfl):
  PE X (.Call (.Attribute o name apos) (e::es) [] cpos) (tBM X.K T r to t):=by
 intro pins s σ H Q I h;refine wpAny_Call_method_late hbase hfew hline rfl (thnE (ho pins s σ H _ I h) fun v s1 x H1 I1 r1⟨ty,q1⟩=>?_);obtain⟨h1,h2⟩:=zhs I1 r1 ty;refine⟨T,id,pa,slot,hty,h1,h2,?_⟩;have hA:=ha cpos pins s1 σ H1 _ I1 q1;rw[hs] at hA⊢;refine Ma (by show(false||(backTo cpos (starEach es X.env)).any (·.1))=false;rw[hplain]<;>rfl) (N1 ?_);exact thn hA fun us s2⟨vs,H2,I2,r2,q2⟩=>hm pins s2 σ H2 x vs v us Q I2 r1 r2 q2
end
noncomputable def MtM(X:Cx)(id:String)(r:V->List V->Hp->VK->Prop):Prop:=
 ∀(pins:List (A3×Obj))(s:A5)(σ:St)(H:Hp)(x:V)(xs:List V)(v:A2)(us:List A2)(Q:VK),Inv X pins σ H s->RelV x v->Vals xs us->r x xs H Q->
  wpAny (model X.prog X.w) X.A (call (.builtin id) (v::us)) (EP X pins σ Q) X.xe s
theorem Vals.one:∀{x:V}{us:List A2},Vals [x] us->∃u,us=[u]/\RelV x u
 |_,_,.cons r .nil=>⟨_,rfl,r⟩
theorem Vals.zero:∀{us:List A2},Vals [] us->us=[]
 |_,.nil=>rfl
theorem Vals.dropLast{xs:List V}{us:List A2}(h:Vals xs us):Vals xs.dropLast us.dropLast:=by
 induction h with
 |nil=>exact .nil
 |cons r t ih=>
  cases t with
  |nil=>exact .nil
  |cons q t'=>exact .cons r ih
theorem Vals.rep{xs:List V}{us:List A2}(h:Vals xs us):∀k:Nat,Vals (Br k xs).flatten (Br k us).flatten
 |0=>.nil
 |k+1=>by
  rw[E1,E1,Fz,Fz];exact Vals.append h (Vals.rep h k)
theorem erase_last{α:Type}(l:List α):l.eraseIdx (l.length-1)=l.dropLast:=by
 induction l with
 |nil=>rfl
 |cons a r ih=>
  cases r with
  |nil=>rfl
  |cons b r=>
   have e:(a::b::r).length-1=((b::r).length-1)+1:=by
    have h1:(a::b::r).length=r.length+2:=rfl;have h2:(b::r).length=r.length+1:=rfl;omega
   rw[e,List.eraseIdx_cons_succ,ih]
   all_goals rfl
theorem ze2(its:List A2):∀(k:Nat)(acc:List A2),
  Lg (fun x1 x2=>x1++x2) acc.toArray (Br k its.toArray)=(acc++(Br k its).flatten).toArray
 |0,acc=>by simp
 |k+1,acc=>by
  have e:acc.toArray++its.toArray=(acc++its).toArray:=by simp
  have e2:(acc++its)++(Br k its).flatten=acc++(Br (k+1) its).flatten:=by
   rw[E1,Fz,Au]
  rw[<-e2,<-ze2 its k (acc++its),<-e,E1,J8]
section
variable{X:Cx}{pins:List (A3×Obj)}{σ:St}{H:Hp}{s:A5}{l b:A3}{xs ys zs:List V}
theorem Inv.lset{its its':List A2}{n:Nat}{f:Array A2->Array A2}{t':Nat}(I:Inv X pins σ H s)(hH:H l=some (.lst xs))
  (e:s.heap.get? l=some {cls:=.type "list",data:=.seq its.toArray n}) (hf:f its.toArray=its'.toArray) (hv:Vals ys its') (hz:ys.length<=sizeLine):
  Inv X pins σ (upd H l (.lst ys)) {s with heap:=s.heap.update l (Ej f),toks:=t'}:=by
 have q:=Sr e f;rw[hf] at q;refine I.write (x:=l) (e:=l) (by rw[hH];exact trivial) (.inl rfl) (fun b' u hb hu=>(G3 s.heap (Ej f) (Dz hb)).trans hu) ⟨_,q⟩ ?_;exact⟨hz,its',_,hv,q⟩
theorem Inv.lnew{its:List A2}{t':Nat}(I:Inv X pins σ H s)(hv:Vals ys its)(hz:ys.length<=sizeLine):
  Inv X pins σ (upd H s.heap.objs.size (.lst ys)) {s with heap:=s.heap.push {cls:=.type "list",data:=.seq its.toArray},toks:=t'}:=
 I.laid (fun _ _ q=>A8 _ q) (Ab _) ⟨hz,its,0,hv,Aw _ rfl⟩
theorem Inv.fresh(I:Inv X pins σ H s):H s.heap.objs.size=none:=I.hok.fresh (Ab _)
theorem Inv.lstM(I:Inv X pins σ H s)(hH:H l=some (.lst xs)):xs.length<=sizeLine/\∃(its:List A2)(n:Nat),Vals xs its/\xs.length=its.length/\s.heap.get? l=some {cls:=.type "list",data:=.seq its.toArray n}:=by
 obtain⟨z,its,n,r,e⟩:=I.hok l _ hH;exact⟨z,its,n,r,r.length,e⟩
theorem notLongL{n:Nat}(h:n<=sizeLine):Go n=false:=by
 unfold Go;exact decide_eq_false (by omega)
end
section
variable{X:Cx}
noncomputable def rAppend:V->List V->Hp->VK->Prop:=fun x vs H Q=>∃l xs y,x= .ref l/\vs=[y]/\H l=some (.lst xs)/\xs.length<sizeLine/\Q .non (upd H l (.lst (xs++[y])))
theorem za1:MtM X "list.append" rAppend:=by
 intro pins s σ H x vs v us Q I rx rv h;obtain⟨l,xs,y,rfl,rfl,hH,hz,q⟩:=h
 cases rx
 obtain⟨u,rfl,ru⟩:=rv.one;obtain⟨z,its,n,r,hl,e⟩:=I.lstM hH;refine Kt F.slot_list_append ⟨_,e,rfl⟩ F.entry_list_append (F.args_list_append_2 _ _) (PySem.list_append l its.toArray n u (by rw[Bg];omega)) ⟨e,?_⟩;refine⟨.non,_,I.lset (its':=its++[u]) hH e (by simp) (r.append (.cons ru .nil)) ?_,rfl,q⟩;rw[Ag,Bq];omega
noncomputable def rPop:V->List V->Hp->VK->Prop:=fun x vs H Q=>∃l xs y,x= .ref l/\vs=[]/\H l=some (.lst xs)/\xs[xs.length-1]?=some y/\Q y (upd H l (.lst xs.dropLast))
theorem mt_pop:MtM X "list.pop" rPop:=by
 intro pins s σ H x vs v us Q I rx rv h;obtain⟨l,xs,y,rfl,rfl,hH,hy,q⟩:=h
 cases rx
 have hus:=rv.zero;subst hus;obtain⟨z,its,n,r,hl,e⟩:=I.lstM hH;obtain⟨u,hu,ru⟩:=r.get hy;have hy':its.toArray[its.toArray.size-1]?=some u:=by
  show its.toArray[its.length-1]?=some u;rw[<-Cf,<-hl];exact hu
 refine Kt F.slot_list_pop ⟨_,e,rfl⟩ F.entry_list_pop (F.args_list_pop_1 _) (MeetsSeq.list_pop_last l its.toArray n u hy' (by rw[Bg];omega)) ⟨e,?_⟩;refine⟨y,_,I.lset (its':=its.dropLast) hH e ?_ r.dropLast ?_,ru,q⟩
 ·show its.toArray.eraseIdxIfInBounds (its.toArray.size-1)=its.dropLast.toArray;rw[Bg,List.eraseIdxIfInBounds_toArray,erase_last]
 ·rw[N8];omega
noncomputable def rCat:R2:=fun x y H Q=>∃l b xs zs,x= .ref l/\y= .ref b/\H l=some (.lst xs)/\H b=some (.lst zs)/\xs.length+zs.length<=sizeLine/\∀p,H p=none->Q (.ref p) (upd H p (.lst (xs++zs)))
theorem zb0:OpR X (binaryOp .Add) rCat:=by
 intro pins s σ H x y v u Q I rx ry h;obtain⟨l,b,xs,zs,rfl,rfl,hH,hB,hz,q⟩:=h
 cases rx
 cases ry
 obtain⟨z,its,n,r,hl,e⟩:=I.lstM hH;obtain⟨z2,its2,n2,r2,hl2,e2⟩:=I.lstM hB;refine PySem.P.add_list e e2 ?_ (by rw[Bg,Bg];omega);have ea:its.toArray++its2.toArray=(its++its2).toArray:=by simp
 rw[ea];exact⟨.ref _,_,I.lnew (t':=s.toks) (r.append r2) (by rw[Ag];omega),rfl,q _ I.fresh⟩
noncomputable def rRep:R2:=fun x y H Q=>∃l k xs,x= .ref l/\y= .int k/\H l=some (.lst xs)/\ -(2 ^ 63)<=k/\k<2 ^ 63/\xs.length*k.toNat<=sizeLine/\
 ∀p,H p=none->Q (.ref p) (upd H p (.lst (Br k.toNat xs).flatten))
theorem len_rep{α:Type}(xs:List α)(k:Nat):(Br k xs).flatten.length=k*xs.length:=by
 induction k with
 |zero=>simp
 |succ k ih=>rw[E1,Fz,Ag,ih,Nat.succ_mul,Ha]
theorem op_rep:OpR X (binaryOp .Mult) rRep:=by
 intro pins s σ H x y v u Q I rx ry h;obtain⟨l,k,xs,rfl,rfl,hH,h1,h2,hz,q⟩:=h
 cases rx
 obtain⟨t,rfl⟩:=ry;obtain⟨z,its,n,r,hl,e⟩:=I.lstM hH;have hlen:its.toArray.size*k.toNat<=sizeLine:=by rw[Bg,<-hl];exact hz
 have hcap:¬its.toArray.size*k.toNat>(2 ^ 63-1) / 8:=by
  have:(sizeLine:Nat)<=(2 ^ 63-1) / 8:=by decide
  omega
 have hfit:¬(!Builtin.List.listFitsIndex k)=true:=by
  rw[fitsIndex_both h1 h2];exact Aa
 have hlong:¬Go (its.toArray.size*k.toNat)=true:=by
  rw[notLongL hlen];exact Aa
 have hnew:Lg (fun x1 x2=>x1++x2) #[] (Br (if its.toArray.isEmpty=true then 0 else k.toNat) its.toArray)=(Br k.toNat its).flatten.toArray:=by
  have f0:∀m:Nat,Lg (fun x1 x2=>x1++x2) #[] (Br m its.toArray)=(Br m its).flatten.toArray:=fun m=>by
   have:=ze2 its m [];rw[List.nil_append] at this;exact this
  rw[f0]
  cases its with
  |nil=>simp
  |cons a r'=>rw[if_neg (by simp)]
 refine wpAny_binaryOp_repeat_ref (T:="list") (U:="int") (by decide) ⟨_,e,rfl⟩ (fun s'=>Pc s' k t) noFill_list_mul F.fills_int_mul Pn repeat_list F.slot_int_index.lookup
  (Kt Pn (Pc s k t) F.entry_int_rmul (F.args_int_rmul_2 _ _) (int___rmul___int_list k t l its.toArray n)
   ⟨e,rfl,⟨_,e,rfl⟩,Kt F.slot_list_mul ⟨_,e,rfl⟩ F.entry_list_mul (F.args_list_mul_2 _ _) (Sx l its.toArray n k t hfit hcap hlong) ⟨e,?_⟩⟩)
 rw[hnew];exact⟨.ref _,_,I.lnew (t':=s.toks) (r.rep k.toNat) (by rw[len_rep,J5];exact hz),rfl,q _ I.fresh⟩
end
section
variable{prog:Ap}{w:Bd}{A:B5}{E:A2->A5->Prop}{s:A5}
end
section
variable{X:Cx}
end
section
variable{κ:Type}[DecidableEq κ]
noncomputable def valV(kvs:List (κ×V))(k:κ):Option V:=(kvs.find? fun kv=>decide (kv.1=k)).map (·.2)
noncomputable def putK(kvs:List (κ×V))(k:κ)(v:V):List (κ×V):=
 if(kvs.any fun kv=>decide (kv.1=k))=true then kvs.map (fun kv=>if kv.1=k then(kv.1,v) else kv) else kvs++[(k,v)]
theorem za4{p:κ×V}{r:List (κ×V)}{k:κ}(e:p.1=k):valV (p::r) k=some p.2:=by simp[valV,Ez,e]
theorem zaX{p:κ×V}{r:List (κ×V)}{k:κ}(e:¬p.1=k):valV (p::r) k=valV r k:=by simp[valV,Ez,e]
theorem zbq(k:κ):∀kvs:List (κ×V),(kvs.any fun kv=>decide (kv.1=k))=(valV kvs k).isSome
 |[]=>rfl
 |p::r=>by
  rw[Gj];by_cases e:p.1=k
  ·simp only[za4 e,decide_eq_true e,Bool.true_or,Option.isSome_some]
  ·rw[zaX e,decide_eq_false e,Bool.false_or];exact zbq k r
theorem zfI(k j:κ)(y:V):∀kvs:List (κ×V),valV (kvs.map fun kv=>if kv.1=k then(kv.1,y) else kv) j=(valV kvs j).map fun x=>if j=k then y else x
 |[]=>rfl
 |p::r=>by
  have ih:=zfI k j y r;rw[At];by_cases h:p.1=k
  ·rw[if_pos h];by_cases e:p.1=j
   ·rw[za4 (p:=(p.1,y)) e,za4 e,Cj,if_pos (e.symm.trans h)]
   ·rw[zaX (p:=(p.1,y)) e,zaX e,ih]
  ·rw[if_neg h];by_cases e:p.1=j
   ·rw[za4 (p:=p) e,za4 e,Cj,if_neg (fun z=>h (e.trans z))]
   ·rw[zaX (p:=p) e,zaX e,ih]
theorem zeC(k j:κ)(y:V):∀kvs:List (κ×V),valV kvs k=none->valV (kvs++[(k,y)]) j=if j=k then some y else valV kvs j
 |[],_=>by
  by_cases e:k=j
  ·rw[if_pos e.symm];exact za4 (p:=(k,y)) e
  ·rw[if_neg (fun z=>e z.symm)];exact zaX (p:=(k,y)) e
 |p::r,hn=>by
  rw[Kp];have hk:¬p.1=k:=fun z=>by rw[za4 z] at hn;cases hn
  rw[zaX hk] at hn;have ih:=zeC k j y r hn;by_cases e:p.1=j
  ·rw[za4 e,za4 e,if_neg (fun z=>hk (e.trans z))]
  ·rw[zaX e,zaX e,ih]
theorem valV_put(kvs:List (κ×V))(k j:κ)(y:V):valV (putK kvs k y) j=if j=k then some y else valV kvs j:=by
 unfold putK;by_cases a:(kvs.any fun kv=>decide (kv.1=k))=true
 ·rw[if_pos a,zfI];rw[zbq] at a;by_cases e:j=k
  ·obtain⟨x,hx⟩:=Db.mp a;rw[if_pos e,e,hx,Cj,if_pos rfl]
  ·rw[if_neg e]
   cases valV kvs j with
   |none=>rfl
   |some x=>rw[Cj,if_neg e]
 ·rw[if_neg a];refine zeC k j y kvs ?_;rw[zbq] at a
  cases q:valV kvs k with
  |none=>rfl
  |some x=>rw[q] at a;exact(a rfl).elim
theorem zcu(kvs:List (κ×V))(k:κ)(v:V):(putK kvs k v).length<=kvs.length+1:=by
 unfold putK
 split
 ·rw[A4];omega
 ·rw[Ag,Av,J7];omega
theorem zc9{kvs:List (κ×V)}{k:κ}(v:V)(h:valV kvs k=none):putK kvs k v=kvs++[(k,v)]:=by
 unfold putK;rw[zbq,h];exact if_neg (by decide)
theorem RelO.isSome_eq{o:Option V}{u:Option A2}(r:RelO o u):o.isSome=u.isSome:=by
 cases o with
 |none=>cases u with
  |none=>rfl
  |some _=>exact(show False from r).elim
 |some _=>cases u with
  |none=>exact(show False from r).elim
  |some _=>rfl
theorem KV.val{kvs:List (κ×V)}{vs:List (κ×A2)}(r:KV kvs vs)(k:κ):RelO (valV kvs k) (valueAt vs k):=by
 unfold KV at r
 induction r with
 |nil=>exact E8
 |@cons p q ps qs h t ih=>
  obtain⟨h1,h2⟩:=h;by_cases e:p.1=k
  ·have e':q.1=k:=h1.symm.trans e;have b:valueAt (q::qs) k=some q.2:=by simp[valueAt,Ez,e']
   rw[za4 e,b];exact h2
  ·have e':¬q.1=k:=fun z=>e (h1.trans z);have b:valueAt (q::qs) k=valueAt qs k:=by simp[valueAt,Ez,e']
   rw[zaX e,b];exact ih
theorem KV.any{kvs:List (κ×V)}{vs:List (κ×A2)}(r:KV kvs vs)(k:κ):(kvs.any fun kv=>decide (kv.1=k))=vs.any fun kv=>decide (kv.1=k):=by
 unfold KV at r
 induction r with
 |nil=>rfl
 |cons h t ih=>rw[Gj,Gj,ih,h.1]
theorem KV.repl{kvs:List (κ×V)}{vs:List (κ×A2)}(r:KV kvs vs)(k:κ){y:V}{u:A2}(ry:RelV y u):
  KV (kvs.map fun kv=>if kv.1=k then(kv.1,y) else kv) (vs.map fun kv=>if kv.1=k then(kv.1,u) else kv):=by
 unfold KV at r⊢
 induction r with
 |nil=>exact .nil
 |@cons p q ps qs h t ih=>
  rw[At,At];refine .cons ?_ ih;obtain⟨h1,h2⟩:=h;by_cases e:p.1=k
  ·rw[if_pos e,if_pos (h1.symm.trans e)];exact⟨h1,ry⟩
  ·rw[if_neg e,if_neg (fun z=>e (h1.trans z))];exact⟨h1,h2⟩
theorem KV.put{kvs:List (κ×V)}{vs:List (κ×A2)}(r:KV kvs vs)(k:κ){y:V}{u:A2}(ry:RelV y u):KV (putK kvs k y) (stored vs k u):=by
 unfold putK stored;rw[r.any k];by_cases e:(vs.any fun kv=>decide (kv.1=k))=true
 ·rw[if_pos e,if_pos e];exact r.repl k ry
 ·rw[if_neg e,if_neg e];exact Es r ⟨rfl,ry⟩
theorem KV.length{kvs:List (κ×V)}{vs:List (κ×A2)}(r:KV kvs vs):kvs.length=vs.length:=Cr r
end
theorem zg0{P:Ap}{w:Bd}{k:Key}{u:A2}(r:RelV (kV k) u):(mixKind P w).is k u=true:=by
 cases k with
 |inl i=>obtain⟨t,e⟩:=(show∃t,u=Hv i t from r);subst e;exact mixKind_int P w i t
 |inr x=>obtain⟨t,e⟩:=(show∃t,u=Kg x t from r);subst e;exact mixKind_str P w x t
theorem zeV{P:Ap}{w:Bd}:∀{ks:List Key}{us:List A2},Vals (ks.map kV) us->ItemsAre (mixKind P w) ks us
 |[],_,r=>by rw[Gw] at r;cases r;exact .nil
 |k::ks,_,r=>by
  rw[At] at r
  cases r with
  |cons h t=>exact .cons (zg0 h) (zeV t)
noncomputable abbrev KT(H:Hp):List (List Key×V)->List (List Key×A3×A2)->Prop:=C5 fun p q=>p.1=q.1/\H q.2.1=some (.tup (p.1.map kV))/\RelV p.2 q.2.2
theorem KT.val{H:Hp}{kvs:List (List Key×V)}{xs:List (List Key×A3×A2)}(r:KT H kvs xs)(k:List Key):RelO (valV kvs k) ((atKey xs k).map (·.2)):=by
 induction r with
 |nil=>exact E8
 |@cons p q ps qs h t ih=>
  obtain⟨h1,_,h2⟩:=h;by_cases e:p.1=k
  ·have e':q.1=k:=h1.symm.trans e;have b:atKey (q::qs) k=some q.2:=by simp[atKey,Ez,e']
   rw[za4 e,b];exact h2
  ·have e':¬q.1=k:=fun z=>e (h1.trans z);have b:atKey (q::qs) k=atKey qs k:=by simp[atKey,Ez,e']
   rw[zaX e,b];exact ih
theorem KT.repl{H:Hp}{kvs:List (List Key×V)}{xs:List (List Key×A3×A2)}(r:KT H kvs xs)(k:List Key){y:V}{u:A2}(ry:RelV y u):
  KT H (kvs.map fun kv=>if kv.1=k then(kv.1,y) else kv) (xs.map (putAt k u)):=by
 induction r with
 |nil=>exact .nil
 |@cons p q ps qs h t ih=>
  rw[At,At];refine .cons ?_ ih;obtain⟨h1,h2,h3⟩:=h;unfold putAt;by_cases e:p.1=k
  ·rw[if_pos e,if_pos (h1.symm.trans e)];exact⟨h1,h2,ry⟩
  ·rw[if_neg e,if_neg (fun z=>e (h1.trans z))];exact⟨h1,h2,h3⟩
theorem KT.put{H:Hp}{kvs:List (List Key×V)}{xs:List (List Key×A3×A2)}(r:KT H kvs xs)(k:List Key){b:A3}{y:V}{u:A2}(hb:H b=some (.tup (k.map kV)))(ry:RelV y u):
  KT H (putK kvs k y) (storedH xs k b u):=by
 have e:(kvs.any fun kv=>decide (kv.1=k))=(atKey xs k).isSome:=by
  rw[zbq,(r.val k).isSome_eq,Hi]
 unfold putK storedH;rw[e];by_cases q:(atKey xs k).isSome=true
 ·rw[if_pos q,if_pos q];exact r.repl k ry
 ·rw[if_neg q,if_neg q];exact Es r ⟨rfl,hb,ry⟩
theorem KT.keeps{H H':Hp}{kvs:List (List Key×V)}{xs:List (List Key×A3×A2)}(r:KT H kvs xs)(ht:∀b ys,H b=some (.tup ys)->H' b=some (.tup ys)):KT H' kvs xs:=
 C5.mapP r fun _ _ z=>⟨z.1,ht _ _ z.2.1,z.2.2⟩
section
variable{P:Ap}{w:Bd}{H:Hp}{h:Bx}{a:A3}
theorem zhT{u:HO}(ok:HOk P w H h)(e:Rd H a u):ObjOk P w H h a u:=e.ok ok
theorem zfA{kvs:List (Key×V)}(ok:HOk P w H h)(e:Rd H a (.dK kvs)):kvs.length<=sizeLine/\(a==sysModules)=false/\∃vs,KV kvs vs/\h.DictOf (mixKind P w) a vs:=
 show ObjOk P w H h a (.dK kvs) from zhT ok e
theorem zhX{kvs:List (Key×V)}(ok:HOk P w H h)(e:H a=some (.dK kvs)):kvs.length<=sizeLine/\(a==sysModules)=false/\∃vs,KV kvs vs/\h.DictOf (mixKind P w) a vs:=zfA ok (.inl e)
theorem zdC{ks:List Key}(ok:HOk P w H h)(e:H a=some (.tup (ks.map kV))):(tupleKind (mixKind P w)).is h ks a:=by
 obtain⟨_,its,r,o,h1,h2,n,h3⟩:=(show ObjOk P w H h a (.tup (ks.map kV)) from ok a _ e);exact⟨o,its.toArray,n,h1,h2,h3,by simpa using zeV r⟩
theorem zhf{kvs:List (List Key×V)}(ok:HOk P w H h)(e:Rd H a (.dT kvs)):kvs.length<=sizeLine/\(a==sysModules)=false/\
  ∃xs,KT H kvs xs/\h.DictOfH (tupleKind (mixKind P w)) a xs:=by
 obtain⟨z,y,xs,r,o,es,ep,h1,h2,h3,h4,h5⟩:=(show ObjOk P w H h a (.dT kvs) from zhT ok e);refine⟨z,y,xs,r,o,es,ep,h1,h2,h3,h4,fun x hx=>?_,h5⟩;have all:∀{l:List (List Key×V)}{m:List (List Key×A3×A2)},KT H l m->∀x∈m,(tupleKind (mixKind P w)).is h x.1 x.2.1:=by
  intro l m q
  induction q with
  |nil=>intro x hx;exact nomatch hx
  |@cons p q ps qs hq t ih=>
   intro x hx;rcases Ba.mp hx with e|hx
   ·subst e;exact zdC ok (by rw[<-hq.1];exact hq.2.1)
   ·exact ih x hx
 exact all r x hx
theorem zhW{kvs:List (List Key×V)}(ok:HOk P w H h)(e:H a=some (.dT kvs)):kvs.length<=sizeLine/\(a==sysModules)=false/\
  ∃xs,KT H kvs xs/\h.DictOfH (tupleKind (mixKind P w)) a xs:=zhf ok (.inl e)
end
noncomputable def DGet(H:Hp)(a:A3)(y:V)(r:Option V):Prop:=
 (∃kvs k,Rd H a (.dK kvs)/\y=kV k/\r=valV kvs k)\/∃kvs k b,Rd H a (.dT kvs)/\y= .ref b/\H b=some (.tup (k.map kV))/\r=valV kvs k
noncomputable def DPut(H:Hp)(a:A3)(y v:V)(H':Hp):Prop:=
 (∃kvs k,H a=some (.dK kvs)/\y=kV k/\kvs.length<sizeLine/\H'=upd H a (.dK (putK kvs k v)))\/
 ∃kvs k b,H a=some (.dT kvs)/\y= .ref b/\H b=some (.tup (k.map kV))/\kvs.length<sizeLine/\H'=upd H a (.dT (putK kvs k v))
theorem DGet.k{H:Hp}{a:A3}{kvs:List (Key×V)}{k:Key}(e:H a=some (.dK kvs)):DGet H a (kV k) (valV kvs k):=.inl ⟨kvs,k,.inl e,rfl,rfl⟩
theorem DGet.t{H:Hp}{a b:A3}{kvs:List (List Key×V)}{k:List Key}(e:H a=some (.dT kvs))(eb:H b=some (.tup (k.map kV))):DGet H a (.ref b) (valV kvs k):=.inr ⟨kvs,k,b,.inl e,rfl,eb,rfl⟩
theorem DPut.k{H:Hp}{a:A3}{kvs:List (Key×V)}{k:Key}{v:V}(e:H a=some (.dK kvs))(hl:kvs.length<sizeLine):DPut H a (kV k) v (upd H a (.dK (putK kvs k v))):=.inl ⟨kvs,k,e,rfl,hl,rfl⟩
theorem DPut.t{H:Hp}{a b:A3}{kvs:List (List Key×V)}{k:List Key}{v:V}(e:H a=some (.dT kvs))(eb:H b=some (.tup (k.map kV)))(hl:kvs.length<sizeLine):
  DPut H a (.ref b) v (upd H a (.dT (putK kvs k v))):=.inr ⟨kvs,k,b,e,rfl,eb,hl,rfl⟩
section
variable{X:Cx}{pins:List (A3×Obj)}{σ:St}{H:Hp}{s:A5}{a:A3}{y v:V}{u r:A2}{o:Option V}{A:B5}{E:A2->A5->Prop}
theorem Inv.big(I:Inv X pins σ H s):sysModules<s.heap.objs.size:=by
 have h:mainGlobals<s.heap.objs.size:=(I.mod.glob.keeps I.bk).lt;exact Gz (by decide) h
theorem d_getItem{Q:A2->A5->Prop}(hu:A.units+1<cLine)(I:Inv X pins σ H s)(g:DGet H a y (some v))(ry:RelV y u)(h:∀w' s',Inv X pins σ H s'->RelV v w'->Q w' s'):
  wpAny (model X.prog X.w) A (getItem (.ref a) u) Q E s:=by
 rcases g with⟨kvs,k,e,ey,l⟩|⟨kvs,k,b,e,ey,eb,l⟩
 ·subst ey;obtain⟨z,hd,vs,rel,dd⟩:=zfA I.hok e;obtain⟨w',hw,rw'⟩:=RelO.some_of (v:=v) (o:=valueAt vs k) (by rw[l];exact rel.val k);exact wpAny_getItem_of (zg0 ry) dd.mapOf hw (h w' _ (I.tok _) rw')
 ·subst ey
  cases(show u=B1 b from ry)
  obtain⟨z,hd,xs,rel,dd⟩:=zhf I.hok e;obtain⟨w',hw,rw'⟩:=RelO.some_of (v:=v) (o:=(atKey xs k).map (·.2)) (by rw[l];exact rel.val k);obtain⟨p,hp,hp2⟩:=Ly.mp hw;refine Pa (Ht hu) (zdC I.hok eb) dd hp ?_;rw[hp2];exact h w' _ (I.tok _) rw'
theorem d_in{Q:A2->A5->Prop}(hu:A.units+1<cLine)(I:Inv X pins σ H s)(g:DGet H a y o)(ry:RelV y u)(h:∀s',Inv X pins σ H s'->Q (.bool o.isSome) s'):
  wpAny (model X.prog X.w) A (compareOp .In u (.ref a)) Q E s:=by
 rcases g with⟨kvs,k,e,ey,l⟩|⟨kvs,k,b,e,ey,eb,l⟩
 ·subst ey;obtain⟨z,hd,vs,rel,dd⟩:=zfA I.hok e;refine wpAny_in_of (zg0 ry) hd dd.mapOf ?_;rw[<-(rel.val k).isSome_eq,<-l];exact h _ (I.tok _)
 ·subst ey
  cases(show u=B1 b from ry)
  obtain⟨z,hd,xs,rel,dd⟩:=zhf I.hok e;refine wpAny_in_heap (Ht hu) (zdC I.hok eb) hd dd ?_;have q:=(rel.val k).isSome_eq;rw[Hi] at q;rw[<-q,<-l];exact h _ (I.tok _)
theorem d_notIn{Q:A2->A5->Prop}(hu:A.units+1<cLine)(I:Inv X pins σ H s)(g:DGet H a y o)(ry:RelV y u)(h:∀s',Inv X pins σ H s'->Q (.bool (!o.isSome)) s'):
  wpAny (model X.prog X.w) A (compareOp .NotIn u (.ref a)) Q E s:=by
 rcases g with⟨kvs,k,e,ey,l⟩|⟨kvs,k,b,e,ey,eb,l⟩
 ·subst ey;obtain⟨z,hd,vs,rel,dd⟩:=zfA I.hok e;refine wpAny_notIn_of (zg0 ry) hd dd.mapOf ?_;rw[<-(rel.val k).isSome_eq,<-l];exact h _ (I.tok _)
 ·subst ey
  cases(show u=B1 b from ry)
  obtain⟨z,hd,xs,rel,dd⟩:=zhf I.hok e;refine Pp (Ht hu) (zdC I.hok eb) hd dd ?_;have q:=(rel.val k).isSome_eq;rw[Hi] at q;rw[<-q,<-l];exact h _ (I.tok _)
theorem zew{h':Bx}{t':Nat}{ob:HO}(I:Inv X pins σ H s)(mu:Mut (H a))(hs:Fl a s.heap h')(he:∃q,h'.get? a=some q)(new:ObjOk X.prog X.w (upd H a ob) h' a ob):
  Inv X pins σ (upd H a ob) {s with heap:=h',toks:=t'}:=
 I.write (x:=a) (e:=a) mu (.inl rfl) (fun b q hb z=>(hs.2 b hb).trans z) he new
theorem zhJ{P:Ap}{w:Bd}{H':Hp}{h':Bx}{kvs:List (Key×V)}{vs:List (Key×A2)}(z:kvs.length<=sizeLine)(hd:(a==sysModules)=false)(rel:KV kvs vs)(dd:h'.DictOf (mixKind P w) a vs):
  ObjOk P w H' h' a (.dK kvs):=⟨z,hd,vs,rel,dd⟩
theorem d_setItem{H':Hp}{Q:Unit->A5->Prop}(hu:A.units+1<cLine)(I:Inv X pins σ H s)(g:DPut H a y v H')(ry:RelV y u)(rv:RelV v r)(h:∀s',Inv X pins σ H' s'->Q () s'):
  wpAny (model X.prog X.w) A (setItem (.ref a) u r) Q E s:=by
 rcases g with⟨kvs,k,e,ey,l,eH⟩|⟨kvs,k,b,e,ey,eb,l,eH⟩
 ·subst ey eH;obtain⟨z,hd,vs,rel,dd⟩:=zhX I.hok e;have hz:vs.length<=sizeLine:=by rw[<-rel.length];exact z
  have hl:(putK kvs k v).length<=sizeLine:=by have:=zcu kvs k v;omega
  refine wpAny_setItem_pairs (hsz:=hz) (zg0 ry) dd fun h' dd' hs=>h _ ?_;have he:∃q,h'.get? a=some q:=let ⟨q,_,_,hq,_⟩:=dd';⟨q,hq⟩;exact zew I (by rw[e];exact E8) hs he (zhJ hl hd (rel.put k rv) dd')
 ·subst ey eH
  cases(show u=B1 b from ry)
  obtain⟨z,hd,xs,rel,dd⟩:=zhW I.hok e;have hz:xs.length<=sizeLine:=by rw[<-Cr rel];exact z
  have hl:(putK kvs k v).length<=sizeLine:=by have:=zcu kvs k v;omega
  refine P8 (hsz:=hz) (Ht hu) (zdC I.hok eb) dd fun h' dd' hs=>h _ ?_;obtain⟨q,es,ep,hq,h2,h3,h4,_,h5⟩:=dd';refine zew I (by rw[e];exact E8) hs ⟨q,hq⟩ ⟨hl,hd,_,(rel.put k eb rv).keeps fun c ys ec=>?_,q,es,ep,hq,h2,h3,h4,h5⟩;rw[zah (zhR ec e (fun z=>nomatch z))];exact ec
end
section
variable{X:Cx}{pins:List (A3×Obj)}{σ:St}{H:Hp}{s:A5}{a:A3}{kvs:List (Key×V)}{k:Key}{u:A2}{A:B5}{E:A2->A5->Prop}
theorem d_len{Q:A2->A5->Prop}(I:Inv X pins σ H s)(e:Rd H a (.dK kvs))(h:∀t s',Inv X pins σ H s'->Q (.int kvs.length t) s'):wpAny (model X.prog X.w) A (call (.builtin "len") [.ref a]) Q E s:=by
 obtain⟨z,hd,vs,rel,dd⟩:=zfA I.hok e;refine call_len_dict hd dd (by rw[<-rel.length];rw[Oq] at z;omega) ?_;rw[<-rel.length];exact h _ _ (I.tok _)
end
noncomputable def NoSl(i:Cb):Prop:=∀ov iv,subscripted i false ov iv=operate [ov,iv] (getItem ov iv)
theorem zgt{prog:Ap}{w:Bd}{A:B5}{E:A2->A5->Prop}{s:A5}{env:Env}{value slice:Cb}{pos:Pos}{T id:String}{Q:A2->A5->Prop}
  (hl:typeLookup (.type T) "__getitem__"=pure (some (.builtin id))) (hs:NoSl slice)
  (h:wpAny (model prog w) A (eval value env) (fun o s₁=>wpAny (model prog w) A (eval slice env) (fun i s₂=>s₂.TypeIs o T/\wpAny (model prog w) A (getItem o i) Q E s₂) E s₁) E s):
  wpAny (model prog w) A (eval (.Subscript value slice pos) env) Q E s:=by
 refine Subscript_ (Ct h (fun o s₁ h₁=>Ct h₁ (fun i s₂ h₂=>?_) fun _ _ x=>x) fun _ _ x=>x);obtain⟨hT,h₂⟩:=h₂;unfold subscriptTail;refine A1 ?_;rw[getitemInPython_of_ne hT.not_modules];refine A1 (Hf hT hl ?_);have fin:wpAny (model prog w) A (subscripted slice false o i) (fun r s₃=>wpAny (model prog w) A (letTemporaryGo value o r>>=fun _=>pure r) Q E s₃) E s₂:=by
  rw[hs o i];exact wpAny_operating (Ct h₂ (fun r s₃ h₃=>A1 (wpAny_letTemporaryGo (Ae h₃))) fun _ _ x=>x)
 first
  |exact Ae (A1 fin)
  |exact A1 (Ae (A1 fin))
  |exact A1 fin
theorem dict_typeIs{X:Cx}{pins:List (A3×Obj)}{σ:St}{H:Hp}{s:A5}{a:A3}{y:V}{o:Option V}(I:Inv X pins σ H s)(g:DGet H a y o):s.TypeIs (.ref a) "dict":=by
 rcases g with⟨kvs,k,e,_,_⟩|⟨kvs,k,b,e,_,_,_⟩
 ·obtain⟨_,_,vs,_,dd⟩:=zfA I.hok e;exact dd.typeIs
 ·obtain⟨_,_,xs,_,dd⟩:=zhf I.hok e;exact dd.typeIs
noncomputable def tDGet(td ty:TE):TE:=fun σ H Q=>td σ H fun x H1=>ty σ H1 fun y H2=>∃a v,x= .ref a/\DGet H2 a y (some v)/\Q v H2
noncomputable def tDIn(ty td:TE):TE:=fun σ H Q=>ty σ H fun y H1=>td σ H1 fun x H2=>∃a o,x= .ref a/\DGet H2 a y o/\Q (.bl o.isSome) H2
noncomputable def tDNotIn(ty td:TE):TE:=fun σ H Q=>ty σ H fun y H1=>td σ H1 fun x H2=>∃a o,x= .ref a/\DGet H2 a y o/\Q (.bl (!o.isSome)) H2
noncomputable def sDPut(td ty tv:TE):TS:=fun D σ H=>tv σ H fun v H1=>td σ H1 fun x H2=>ty σ H2 fun y H3=>∃a H4,x= .ref a/\DPut H3 a y v H4/\D.nx σ H4
section
variable{X:Cx}{o i e value:Cb}{pos pos' tpos:Pos}{td ty tv:TE}
theorem zcU(hu:X.A.units+1<cLine)(ho:PE X o td)(hi:PE X i ty)(hs:NoSl i):PE X (.Subscript o i pos) (tDGet td ty):=by
 intro pins s σ H Q I h;refine zgt Ky.lookup hs (thnE (ho pins s σ H _ I h) fun u s1 x H1 I1 rx q1=>thnE (hi pins s1 σ H1 _ I1 q1) fun iv s2 y H2 I2 ry⟨a,v,ex,g,q2⟩=>?_);subst ex;obtain rfl:u=B1 a:=rx;exact⟨dict_typeIs I2 g,d_getItem hu I2 g ry fun w' s3 I3 rw'=>⟨v,H2,I3,rw',q2⟩⟩
theorem zf2(hu:X.A.units+1<cLine)(hi:PE X i ty)(ho:PE X o td):PC X .In i o (tDIn ty td):=by
 intro pins s σ H Q I h;refine thnE (hi pins s σ H _ I h) fun iv s1 y H1 I1 ry q1=>thnE (ho pins s1 σ H1 _ I1 q1) fun u s2 x H2 I2 rx⟨a,ov,ex,g,q2⟩=>?_;subst ex;obtain rfl:u=B1 a:=rx;exact d_in hu I2 g ry fun s3 I3=>⟨.bl ov.isSome,H2,I3,rfl,q2⟩
theorem zds(hu:X.A.units+1<cLine)(hi:PE X i ty)(ho:PE X o td):PC X .NotIn i o (tDNotIn ty td):=by
 intro pins s σ H Q I h;refine thnE (hi pins s σ H _ I h) fun iv s1 y H1 I1 ry q1=>thnE (ho pins s1 σ H1 _ I1 q1) fun u s2 x H2 I2 rx⟨a,ov,ex,g,q2⟩=>?_;subst ex;obtain rfl:u=B1 a:=rx;exact d_notIn hu I2 g ry fun s3 I3=>⟨.bl (!ov.isSome),H2,I3,rfl,q2⟩
theorem zcq(hu:X.A.units+1<cLine)(ho:PE X o td)(hi:PE X i ty)(hv:PE X value tv)(hs:swapsWith value (some (.Subscript o i pos')) pos.line X.env=pure false):
  PS X (.Assign [.Subscript o i pos'] value pos) (sDPut td ty tv):=by
 intro pins s σ H D I h;refine Nx (thnE (hv pins s σ H _ I h) fun r s1 v H1 I1 rv q1=>thnE (ho pins s1 σ H1 _ I1 q1) fun u s2 x H2 I2 rx q2=>thnE (hi pins s2 σ H2 _ I2 q2) fun iv s3 y H3 I3 ry⟨a,H4,ex,g,q3⟩=>?_) hs;subst ex;obtain rfl:u=B1 a:=rx;exact d_setItem hu I3 g ry rv fun s4 I4=>⟨σ,H4,I4,q3⟩
end
theorem dk_empty{P:Ap}{w:Bd}{H:Hp}(h:Bx)(hb:sysModules<h.objs.size):ObjOk P w H (h.push {cls:=.type "dict",data:=.dict #[]}) h.objs.size (.dK []):=
 ⟨Bs _,beq_eq_false_iff_ne.mpr (Dz (B8 hb)),[],.nil,Rx h⟩
theorem zgh{P:Ap}{w:Bd}{H:Hp}(h:Bx)(hb:sysModules<h.objs.size):ObjOk P w H (h.push {cls:=.type "dict",data:=.dict #[]}) h.objs.size (.dT []):=
 ⟨Bs _,beq_eq_false_iff_ne.mpr (Dz (B8 hb)),[],.nil,_,#[],0,Aw _ rfl,⟨rfl,rfl,rfl⟩,rfl,rfl,Df⟩
noncomputable def tDNewK:TE:=fun _ H Q=>∀p,H p=none->Q (.ref p) (upd H p (.dK []))
noncomputable def tDNewT:TE:=fun _ H Q=>∀p,H p=none->Q (.ref p) (upd H p (.dT []))
section
variable{X:Cx}{pos:Pos}
theorem zdb:PE X (.Dict [] [] pos) tDNewK:=fun pins s σ H Q I h=>
 Pq ⟨.ref s.heap.objs.size,_,I.laid (a:=s.heap.objs.size) (o:=.dK []) (t':=s.toks) (fun _ _ q=>A8 _ q) (Ab _) (dk_empty s.heap I.big),rfl,h _ (I.hok.fresh (Ab _))⟩
theorem zek:PE X (.Dict [] [] pos) tDNewT:=fun pins s σ H Q I h=>
 Pq ⟨.ref s.heap.objs.size,_,I.laid (a:=s.heap.objs.size) (o:=.dT []) (t':=s.toks) (fun _ _ q=>A8 _ q) (Ab _) (zgh s.heap I.big),rfl,h _ (I.hok.fresh (Ab _))⟩
end
section
variable{X:Cx}{pins:List (A3×Obj)}{σ:St}{H:Hp}{s:A5}{a:A3}{y d:V}{u r:A2}{o:Option V}{A:B5}{E:A2->A5->Prop}
end
section
variable{X:Cx}{o e f:Cb}{apos cpos:Pos}{td ty tx:TE}
end
section
variable{X:Cx}{pins:List (A3×Obj)}{σ:St}{H:Hp}{s:A5}{a:A3}{kvs:List (Key×V)}{A:B5}{E:A2->A5->Prop}
theorem d_copyOf{Q:A2->A5->Prop}(I:Inv X pins σ H s)(e:Rd H a (.dK kvs))(h:∀p s',H p=none->Inv X pins σ (upd H p (.dK kvs)) s'->Q (.ref p) s'):wpAny (model X.prog X.w) A (call (.type "dict") [.ref a]) Q E s:=by
 obtain⟨z,hd,vs,rel,dd⟩:=zfA I.hok e;refine kt_call_dict hd dd (by rw[<-rel.length];exact z) fun h' dd' hs=>?_;refine h _ _ (I.hok.fresh (Ab _)) (I.laid (a:=s.heap.objs.size) (o:=.dK kvs) (t':=s.toks) (fun b q hq=>?_) (Ab _) (zhJ z (beq_eq_false_iff_ne.mpr (Dz (B8 I.big))) rel dd'));exact(hs.2 b (B8 (An hq))).trans (A8 _ hq)
end
section
variable{X:Cx}{pins:List (A3×Obj)}{σ:St}{H:Hp}{s:A5}{a:A3}{y:V}{u:A2}{A:B5}{E:A2->A5->Prop}
end
end L2
namespace Att
open PySem PySem.W PySem.Calls PyProof.Rows
theorem ints_of_wellAll{P:Rv}{h:Bx}:∀(ns:List Int)(vs:List A2),WellAll P h vs (ns.map WData.int)->Ds vs ns:=by
 intro ns
 induction ns with
 |nil=>
  intro vs w;rw[Gw] at w
  cases w
  exact .nil
 |cons n ns ih=>
  intro vs w;rw[At] at w
  cases w with
  |cons a b=>
   cases a
   exact .cons _ _ (ih _ b)
theorem script_of{l:OpenLaw}{n:Nat}(hn:l.most=some n){P:Rv}{h:Bx}{args:List WData}{vals:List A2}
  (hpre:l.row.toRowW.claim.pre args=true) (hwl:WellAll P h vals args):
  ∃a vs ns,vals=[B1 a]/\args=[WData.list (ns.map WData.int)]/\h.get? a=some {cls:=.type "list",data:=.seq vs.toArray}/\Ds vs ns/\ns.length<=n:=by
 have hsh:WShape.hasAll [] args [.list .int]=true:=(pre_splitW hpre).1;have hc:l.pre.holds [] {args:=args}=true:=(pre_splitW hpre).2;obtain⟨d,r,rfl,h1,h2⟩:=hasAllW_cons hsh;obtain rfl:=hasAllW_nil h2;obtain⟨xs,rfl,h3⟩:=hasW_list h1;obtain⟨ns,rfl⟩:=items_int h3;have hlen:ns.length<=n:=by
  unfold OpenLaw.pre at hc;have h4:(WTm.not (.lt (.lit (.int (n:Int))) (.len (.arg 0)))).holds [] {args:=[.list (ns.map .int)]}=true:=by
   have h4:=(holds_andW hc).1;rw[hn] at h4;exact h4
  have h5:=condW_of h4 (w_not (w_lt w_lit (w_len_list (w_arg rfl))));rw[A4] at h5;refine Ou fun q=>?_;have q':(n:Int)<((ns.length:Nat):Int):=by omega
  first
   | (rw [decide_eq_true q'] at h5; exact absurd h5 (by decide))
   | (simp at h5; omega)
 cases hwl with
 |cons w1 w2=>
  cases w2
  cases w1 with
  |list ho hall=>exact⟨_,_,ns,rfl,rfl,ho,ints_of_wellAll ns _ hall,hlen⟩
theorem post_true(l:OpenLaw)(args:List WData):l.row.toRowW.claim.post args (.bool true) args=true:=
 postW_of (r:=l.row.toRowW) (X:=(true==true))
  (show WShape.has [] (.bool true) .bool=true by first|rfl|decide|simp[WShape.has,WShape.arms,WShape.armsAll])
  (show(WTm.eq .res (.lit (.bool true))).value [] {args:=args,res:=some (.bool true),after:=args}=some (.bool (true==true)) from w_eq_bool (w_res rfl) w_lit) rfl
theorem attach_call{l:OpenLaw}{n:Nat}{q:Ap}{loose:List Str}{XP:(Str->Option A2)->Bx->Prop}{YP:Bd->Bx->Prop}{d:DefRec}
  (hn:l.most=some n) (hdf:d.params.defaults=[])
  (call:∀(w:Bd)(s₀ s₁:A5)(mg mb:Str->Option A2)(fa:A3)(o:Obj)(pm cd doc:A2)(a:A3)(vs:List A2)(ns:List Int),
   Ground q loose [] XP w s₀ mg mb s₁.heap->YP w s₁.heap->
   s₁.heap.get? fa=some o->o.data= .func (docDef d.name d.params d.body d.scope pm cd doc)->s₁.heap.CodeRec cd d.name->mg d.name=some (.ref fa)->
   s₁.heap.get? a=some {cls:=.type "list",data:=.seq vs.toArray}->Ds vs ns->ns.length<=n->s₁.gens=#[]->
   codeAny (model l.prog w) callerA (.call (.ref fa) ⟨[.ref a],[]⟩) (fun r s'=>r= .ok (.ret (.bool true))/\OldK s₁.heap s'.heap/\s'.os=s₁.os/\Gy s'.gens) s₁):
  WalkO q loose XP YP l.row.toRowW d [] (fun f vs=>Nf f vs):=by
 intro w s₀ s₁ mg mb G Y fa o pm cd doc dV kV ho hd hcd hD hmg hg args vals as hpre hlay hrd hwl hlo;obtain rfl:dV= .none:=Dflts.none hD hdf;obtain rfl:kV= .none:=Dflts.noKw hD;obtain⟨a,vs,ns,rfl,rfl,hobj,hints,hlen⟩:=script_of hn hpre hwl;refine enter_call (Jj (call w s₀ s₁ mg mb fa o pm cd doc a vs ns G Y ho (fd_plain hd) hcd hmg hobj hints hlen hg) fun r s' hq=>?_);obtain⟨rfl,h2,h3,h4⟩:=hq;exact⟨.inl ⟨.bool true,.bool true,[],rfl,fun _=>rfl,.bool true,post_true l _,fun _=>⟨Gm,fun _ hm=>(nomatch hm)⟩⟩,h2,h3,h4⟩
section
variable{prog:Ap}{w:Bd}{A:B5}{E:A2->A5->Prop}{s:A5}{K:Frag}
noncomputable def ledger(h:Bx)(L d:A3):List (A3×Obj):=(Af h.objs.size).filterMap fun a=>if a=L\/a=d then none else(h.get? a).map fun o=>(a,o)
end
end Att
namespace L2
open PySem PySem.Spec PyProof.Rows
theorem zcC:∀{vs:List A2}{ns:List Int},Ds vs ns->Vals (ns.map V.int) vs
 |_,_,.nil=>.nil
 |_,_,.cons n t h=>.cons ⟨t,rfl⟩ (zcC h)
noncomputable def Only(H:Hp):Prop:=∀b,H b=none\/∃o xs,H b=some (.frz o (.lst xs))
theorem law_call{P:Ap}{w:Bd}{K:Am}{mg mb:Str->Option A2}{CX:CXT}{k:Nat}{fa a:A3}{fd:Ef}{x:Str}{sp:Sp}{s₁:A5}{vs:List A2}{ns:List Int}
  (KX:K.In s₁.heap) (hns:s₁.heap.Ns mainGlobals mg) (hb:s₁.heap.Ns builtinsNs mb) (hbb:∀x:Str,x≠"__name__"->mb x=bootBuiltins x) (hlim:s₁.heap.NoLimit) (hg:s₁.gens=#[])
  (ha:s₁.heap.get? a=some {cls:=.type "list",data:=.seq vs.toArray}) (hi:Ds vs ns) (hl:ns.length<=sizeLine) (hr:Room k callerA)
  (F:∀base:Bx,K.In base->base.Ns mainGlobals mg->FnOk P w K mg base CX k fa fd [x] sp) (hbind:∀(s:A5)(u:A2),Kf s fd ⟨[u],[]⟩ [(x,u)])
  (hsp:∀H:Hp,Only H->SqL K H a (ns.map V.int)->sp [.ref a] H (fun v _=>v= .bl true) fun _ _ _=>False)
  (hCX:∀H e s',CX [] H s₁ (fun _ _ _=>False) e s'->False):
  codeAny (model P w) callerA (.call (.ref fa) ⟨[.ref a],[]⟩) (fun r s'=>r= .ok (.ret (.bool true))/\OldK s₁.heap s'.heap/\s'.os=s₁.os/\Gy s'.gens) s₁:=by
 have rv:=zcC hi;have lenV:=hi.length;have core:∀H:Hp,Only H->SqL K H a (ns.map V.int)->HOk P w H s₁.heap->(∀b,H b≠none->b=a)->(H a≠none->K.lookup a=none)->
   codeAny (model P w) callerA (.call (.ref fa) ⟨[.ref a],[]⟩) (fun r s'=>r= .ok (.ret (.bool true))/\OldK s₁.heap s'.heap/\s'.os=s₁.os/\Gy s'.gens) s₁:=by
  intro H hO hS hok hA hK;have base_of:∀{b:A3}{o:Obj},s₁.heap.get? b=some o->H b=none->(hidT s₁.heap H).get? b=some o:=fun e n=>hidT_get e n;have noA:∀{b:A3}{o:Obj}{es:Array Gu}{ep:Nat},s₁.heap.get? b=some o->o.data= .dict es ep->H b=none:=fun{b o es ep}e d=>by
   cases q:H b with
   |none=>rfl
   |some u=>
    have e':b=a:=hA b (by rw[q];simp);subst e';rw[ha] at e;cases e
    have d':Data.seq vs.toArray _=Data.dict es ep:=d
    cases d'
  have nsK:∀{b:A3}{m:Str->Option A2},s₁.heap.Ns b m->(hidT s₁.heap H).Ns b m:=fun{b m}⟨o,es,ep,e,d,r⟩=>⟨o,es,ep,base_of e (noA e d),d,r⟩;have hKb:K.In (hidT s₁.heap H):=fun b o e=>base_of (KX b o e) (by
   cases q:H b with
   |none=>rfl
   |some u=>
    have e':b=a:=hA b (by rw[q];simp);subst e';rw[hK (by rw[q];simp)] at e;cases e)
  have hM:Mod K mg (hidT s₁.heap H):=⟨hKb,nsK hns,⟨mb,nsK hb,hbb⟩,let ⟨mc,h1,h2⟩:=hlim;⟨mc,nsK h1,h2⟩⟩;have e0:Env0 P w K mg (hidT s₁.heap H) callerA [] s₁ H:=⟨rfl,hM,fun b o e=>of_hidT e,Q6 (hidT_size _ _),trivial,fun b hb=>absurd (show b∈([]:List A3) from hb) (by simp),hok,.of_eq hg⟩;refine Jj ((F _ hKb (nsK hns)).run callerA [] s₁ H ⟨[.ref a],[]⟩ [.ref a] [.ref a] _ _ hr e0 (hbind s₁ (.ref a)) (.cons rfl .nil) (hsp H hO hS)) fun r s' h=>?_
  cases r with
  |error e=>exact(hCX H e s' h).elim
  |ok fl=>
   cases fl with
   |next=>exact Ci h
   |brk=>exact Ci h
   |cont=>exact Ci h
   |ret u=>
    obtain⟨v,H',os,bare,un,hok',r',q⟩:=h;have q':v= .bl true:=q;subst q';obtain rfl:u=Ih true:=r';refine⟨rfl,OldK.of_keep fun b o e=>?_,os,bare⟩
    cases q:H b with
    |none=>exact un.keep b o e q (by intro z;exact absurd (show b∈([]:List A3) from z) (by simp)) (by simp)
    |some u=>
     rcases hO b with z|⟨ob,xs,z⟩
     ·rw[q] at z;cases z
     ·have z2:=un.frzs b ob _ z;obtain⟨e1,_⟩:=hok b _ z;obtain⟨e2,_⟩:=hok' b _ z2;rw[e] at e1;cases e1
      exact e2
 cases hk:K.lookup a with
 |some o=>
  have e:=KX a o hk;rw[ha] at e
  cases e
  refine core (fun _=>none) (fun _=>.inl rfl) (.inr ⟨_,vs.toArray,_,hk,rfl,rfl,rfl,by rw[Bg,lenV];exact hl,by simpa using rv⟩) (fun b u z=>by have z':(none:Option HO)=some u:=z;cases z') (fun b z=>absurd rfl z) fun z=>absurd rfl z
 |none=>
  refine core (fun b=>if b=a then some (.frz {cls:=.type "list",data:=.seq vs.toArray} (.lst (ns.map V.int))) else none) (fun b=>?_) (.inl (.inr ⟨{cls:=.type "list",data:=.seq vs.toArray},if_pos rfl⟩)) (fun b u z=>?_) (fun b z=>?_) fun _=>hk
  ·by_cases hb:b=a
   ·exact .inr ⟨_,_,if_pos hb⟩
   ·exact .inl (if_neg hb)
  ·by_cases hb:b=a
   ·have z':=(if_pos hb).symm.trans z
    cases z'
    subst hb;exact⟨ha,by rw[A4];exact hl,vs,_,rv,ha⟩
   ·have z':=(if_neg hb).symm.trans z
    cases z'
  ·by_cases hb:b=a
   ·exact hb
   ·exact absurd (if_neg hb) z
theorem walk_of{l:Kk}{n k:Nat}{q:Ap}{loose:List Str}{XP:(Str->Option A2)->Bx->Prop}{YP:Bd->Bx->Prop}{d:DefRec}{K:Rv->Am}{CX:Bd->CXT}{sp:Bd->Sp}{x:Str}
  (hn:l.most=some n) (hn2:n<=sizeLine) (hdf:d.params.defaults=[]) (hr:Room k callerA)
  (hY:∀(w:Bd)(h:Bx),YP w h->(K w.params).In h)
  (F:∀(w:Bd)(mg:Str->Option A2)(fa:A3)(h:Bx),(K w.params).In h->h.Ns mainGlobals mg->mg d.name=some (.ref fa)->
   ∃fd:Ef,(∀(s:A5)(u:A2),Kf s fd ⟨[u],[]⟩ [(x,u)])/\
    ∀base:Bx,(K w.params).In base->base.Ns mainGlobals mg->FnOk l.prog w (K w.params) mg base (CX w) k fa fd [x] (sp w))
  (hsp:∀(w:Bd)(H:Hp)(a:A3)(ns:List Int),ns.length<=n->Only H->SqL (K w.params) H a (ns.map V.int)->sp w [.ref a] H (fun v _=>v= .bl true) fun _ _ _=>False)
  (hCX:∀(w:Bd)(H:Hp)(s:A5)(e:A2)(s':A5),CX w [] H s (fun _ _ _=>False) e s'->False):
  Oi q loose XP YP l.row.toRowW d [] (fun f vs=>Nf f vs):=by
 refine Att.attach_call hn hdf fun w s₀ s₁ mg mb fa o pm cd doc a vs ns G Y ho hd hcd hmg hobj hints hlen hg=>?_;have KX:=hY w _ Y;obtain⟨fd,hb,hF⟩:=F w mg fa _ KX G.T.g hmg;exact law_call KX G.T.g G.T.b G.T.builtins G.T.nolimit hg hobj hints (Bt hlen hn2) hr hF hb (fun H hO hS=>hsp w H a ns hlen hO hS) fun H e s'=>hCX w H s₁ e s'
noncomputable def inClass(s:Ca)(j:Nat):Ca:=match s with
 | .ClassDef _ _ _ body _ _ _ _ _ _ _=>body.getD j (.Pass ⟨0,0,0,0⟩)
 |_=>.Pass ⟨0,0,0,0⟩
noncomputable def defArgs(s:Ca):Qe:=match s with
 | .FunctionDef _ a _ _ _ _ _ _ _ _=>a
 |_=>{posonlyargs:=[],args:=[],vararg:=none,kwonlyargs:=[],kw_defaults:=[],kwarg:=none,defaults:=[]}
noncomputable def defBody(s:Ca):List Ca:=match s with
 | .FunctionDef _ _ b _ _ _ _ _ _ _=>b
 |_=>[]
noncomputable def defScope(s:Ca):Fh:=match s with
 | .FunctionDef _ _ _ _ _ _ sc _ _ _=>sc
 |_=>{kind:=.function,names:=[],isGenerator:=false,isCoroutine:=false}
noncomputable abbrev CX0:CXT:=fun _ _ _ _ _ _=>False
noncomputable abbrev E0:XK:=fun _ _ _=>False
theorem zeN{X:Cx}:Passes CX0 X E0:=fun _ _ _ _ _ _ _ h=>h.elim
structure Fun(K:Am)(x qual:Str)(st:Ca)(f:A3)(fd:Ef):Prop where
 ex:∃(oc:A2)(od:Option A3)(kV doc pm:A2)(an:Option A3)(cdv ct:A2)(osl:Array (Option A2)),
  fd=Ck x qual (defArgs st) (defBody st) (defScope st) .none kV doc pm an cdv ct/\K.lookup f=some ⟨oc,od,.func fd,osl⟩/\Fa K cdv qual=true
 kp:D0 K (.ref f)=true
section
variable{P:Ap}{w:Bd}{K:Am}{mg:Str->Option A2}{base:Bx}
theorem Fun.ok{x qual:Str}{st:Ca}{f:A3}{fd:Ef}{N ps:List Str}{k:Nat}{sp:Sp}(F:Fun K x qual st f fd)(S:FnScope N ps (defScope st))(len:∀vs H Q E,sp vs H Q E->vs.length=ps.length)
  (hbody:∀(cdv:A2)(A:B5)(outer:List Env)(s:A5)(H:Hp)(vs:List V)(Q:VK)(E:XK),Room k (A.deeper (envOfC qual (defScope st) s.heap.objs.size f cdv))->sp vs H Q E->
   ∃t,PSs (cxOf CX0 P w K mg base N qual (defScope st) f cdv A outer s H E).nox (defBody st) t/\t {nx:=fun _ H'=>Q .non H',rt:=Q} (start N vs) H):FnOk P w K mg base CX0 (k+1) f fd ps sp:=by
 obtain⟨oc,od,kV,doc,pm,an,cdv,ct,osl,rfl,lk,hcd⟩:=F.ex;refine zhV lk hcd S len fun A outer s H vs Q E hr hsp=>?_;obtain⟨t,h,q⟩:=hbody cdv A outer s H vs Q E hr hsp;exact⟨t,h.nox,q⟩
theorem Fun.binds{x qual:Str}{st:Ca}{f:A3}{fd:Ef}{ps:List Str}(F:Fun K x qual st f fd)
  (h:∀(kV doc pm:A2)(an:Option A3)(cdv ct:A2)(us:List A2),us.length=ps.length->bindArgs (Ck x qual (defArgs st) (defBody st) (defScope st) .none kV doc pm an cdv ct) ⟨us,[]⟩=pure (ps.zip us)):Binds K fd ps []:=by
 obtain⟨oc,od,kV,doc,pm,an,cdv,ct,osl,rfl,lk,hcd⟩:=F.ex;exact .all (h kV doc pm an cdv ct)
theorem zg8{x qual:Str}{st:Ca}{f:A3}{oc:A2}{od an:Option A3}{osl:Array (Option A2)}{kV doc pm cdv ct:A2}(l:K.lookup f=some ⟨oc,od,.func (Ck x qual (defArgs st) (defBody st) (defScope st) .none kV doc pm an cdv ct),osl⟩)
  (c:Fa K cdv qual=true) (k:D0 K (.ref f)=true):Fun K x qual st f (Ck x qual (defArgs st) (defBody st) (defScope st) .none kV doc pm an cdv ct):=⟨⟨oc,od,kV,doc,pm,an,cdv,ct,osl,rfl,l,c⟩,k⟩
end
theorem zcv{A:B5}{k:Nat}(hr:Room k A):A.units+1<cLine:=Nat.lt_of_le_of_lt (Nat.add_le_add_left (by decide:1<=64) _) hr.units
section
variable{X:Cx}
theorem pv(i:Nat){x:Str}{pos:Pos}(hN:X.N[i]?=some x:=by rfl)(hv:Vis X.env.scope x:=by first|exact Ao rfl|exact Ek (Ao rfl)|exact Ek (Ek rfl))(hd:(x==("__debug__":Str))=false:=by decide)
  (hcd:(x==("__classdict__":Str))=false:=by decide):PE X (.Name x pos) (tVar i):=pe_var hN hv hd hcd
theorem call_lenD:CallR X (.builtin "len") (fun xs H Q=>∃a kvs,xs=[V.ref a]/\H a=some (.dK kvs)/\Q (.int kvs.length) H):=by
 intro pins s σ H xs us Q I r h;obtain⟨a,kvs,rfl,ha,q⟩:=h;obtain⟨u,rfl,ru⟩:=zb2 r
 cases ru
 exact d_len I (.inl ha) fun t s' I'=>⟨.int kvs.length,H,I',⟨t,rfl⟩,q⟩
end
theorem iteF{A B:Prop}(h:B):if false=true then A else B:=by
 rw[if_neg Aa];exact h
theorem iteT{A B:Prop}(h:A):if true=true then A else B:=by
 rw[if_pos rfl];exact h
theorem ite2{c A B:Prop}[Decidable c](h1:c->A)(h2:¬c->B):if c then A else B:=by
 by_cases h:c
 ·rw[if_pos h];exact h1 h
 ·rw[if_neg h];exact h2 h
noncomputable def Same(H H':Hp):Prop:=∀b o,H b=some o->H' b=some o
theorem Same.refl(H:Hp):Same H H:=fun _ _ h=>h
theorem Same.trans{H H1 H2:Hp}(a:Same H H1)(b:Same H1 H2):Same H H2:=fun c o h=>b c o (a c o h)
theorem Same.free{H H':Hp}(e:Same H H'){l:A3}(h:H' l=Pd):H l=Pd:=by
 cases q:H l with
 |none=>rfl
 |some o=>
  rw[e l o q] at h
  cases h
theorem Same.seq{K:Am}{H H':Hp}{a:A3}{xs:List V}(e:Same H H')(h:SqL K H a xs):SqL K H' a xs:=by
 rcases h with(h|⟨o,h⟩)|h
 ·exact .inl (.inl (e _ _ h))
 ·exact .inl (.inr ⟨o,e _ _ h⟩)
 ·exact .inr h
section
variable{κ:Type}[DecidableEq κ]
theorem zgV:∀{l:List κ}{k:κ},l.Nodup->¬k∈l->(l++[k]).Nodup
 |[],k,_,_=>by simp
 |a::r,k,h,hk=>by
  obtain⟨h1,h2⟩:=Dn.mp h;show(a::(r++[k])).Nodup;refine Dn.mpr ⟨fun m=>?_,zgV h2 fun m=>hk (Ba.mpr (Ek m))⟩;rcases Al.mp m with q|q
  ·exact h1 q
  ·exact hk (Ba.mpr (Ao (A6.mp q).symm))
end
theorem zdw{κ β:Type}[BEq κ][LawfulBEq κ]{k:κ}{v:β}:∀{l:List (κ×β)},l.lookup k=some v->(k,v)∈l
 |[],h=>by simp at h
 | (a,b) :: r,h=>by
  rw[E5] at h
  cases e:k==a with
  |true=>
   rw[e] at h;simp at h;rw[eq_of_beq e,h];exact Aj
  |false=>
   rw[e] at h;exact Ac _ (zdw h)
theorem zeS{κ β:Type}[BEq κ][LawfulBEq κ]{k:κ}{v:β}:∀{l:List (κ×β)},(k,v)∈l->∃w,l.lookup k=some w
 |[],h=>by simp at h
 | (a,b) :: r,h=>by
  rw[E5]
  cases e:k==a with
  |true=>exact⟨b,rfl⟩
  |false=>
   rcases Ba.mp h with h|h
   ·injection h with h1 h2;rw[h1] at e;simp at e
   ·exact zeS h
theorem closure_ok{env:Env}{scope:Fh}(h:∀x∈scope.names,x.2= .free->∃c,env.cells.lookup x.1=some c):
  ∃cl,closureFor scope env=pure cl/\(∀x c,(x,c)∈cl->(x,Co)∈scope.names/\env.cells.lookup x=some c)/\∀x,(x,Co)∈scope.names->∃c,(x,c)∈cl:=by
 have all:∀(names:List (Str×Jd))(acc:List (Str×A3)),(∀x∈names,x.2= .free->∃c,env.cells.lookup x.1=some c)->
   ∃cl:List (Str×A3),(forIn names acc fun(x:Str×Jd)(r:List (Str×A3))=>(if(x.2==Co)=true then do let c<-cellOf env x.1;pure (Du ((x.1,c)::r)) else pure (Du r):Sem (ForInStep (List (Str×A3)))))=pure cl/\
    (∀x c,(x,c)∈cl->(x,c)∈acc\/((x,Co)∈names/\env.cells.lookup x=some c))/\(∀p∈acc,p∈cl)/\∀x,(x,Co)∈names->∃c,(x,c)∈cl:=by
  intro names
  induction names with
  |nil=>intro acc _;exact⟨acc,rfl,fun x c h=>.inl h,fun p h=>h,fun x h=>by simp at h⟩
  |cons y r ih=>
   intro acc hy;obtain⟨n,k⟩:=y;by_cases hk:k= .free
   ·subst hk;obtain⟨c,hc⟩:=hy (n,.free) Aj rfl;obtain⟨cl,e,h1,h2,h3⟩:=ih ((n,c)::acc) fun x hx=>hy x (Ac _ hx);refine⟨cl,?_,fun x d hd=>?_,fun p hp=>h2 p (Ac _ hp),fun x hx=>?_⟩
    ·rw[L5];have hcell:cellOf env n=pure c:=by unfold cellOf;rw[hc]
     simp only[beq_self_eq_true,if_true,hcell,pure_bind];exact e
    ·rcases h1 x d hd with q|⟨q1,q2⟩
     ·rcases Ba.mp q with q|q
      ·injection q with q1 q2;subst q1 q2;exact .inr ⟨Aj,hc⟩
      ·exact .inl q
     ·exact .inr ⟨Ac _ q1,q2⟩
    ·rcases Ba.mp hx with q|q
     ·injection q with q1 _;subst q1;exact⟨c,h2 _ Aj⟩
     ·exact h3 x q
   ·obtain⟨cl,e,h1,h2,h3⟩:=ih acc fun x hx=>hy x (Ac _ hx);refine⟨cl,?_,fun x d hd=>(h1 x d hd).imp id fun q=>⟨Ac _ q.1,q.2⟩,h2,fun x hx=>?_⟩
    ·rw[L5];have hb:(k==Co)=false:=by simpa using hk
     simp only[hb,Bo,if_false,pure_bind];exact e
    ·rcases Ba.mp hx with q|q
     ·injection q with _ q2;exact absurd q2.symm hk
     ·exact h3 x q
 obtain⟨cl,e,h1,_,h3⟩:=all scope.names [] h;refine⟨cl,?_,fun x c q=>(h1 x c q).resolve_left (by simp),h3⟩;show((forIn scope.names ([]:List (Str×A3)) fun(x:Str×Jd)(r:List (Str×A3))=>(if(x.2==Co)=true then do let c<-cellOf env x.1;pure (Du ((x.1,c)::r)) else pure (Du r):Sem (ForInStep (List (Str×A3)))))>>=fun r=>pure r)=pure cl;rw[e];rfl
theorem zbx{env:Env}:∀{names:List (Str×Jd)}{x:Str},names.lookup x=some .free->
  (names.map fun(n,k)=>if(k==Co&&env.scope.kind==.function&&env.kindOf n==some .cell) then(n,Jc) else(n,k)).lookup x=some .cell\/
  (names.map fun(n,k)=>if(k==Co&&env.scope.kind==.function&&env.kindOf n==some .cell) then(n,Jc) else(n,k)).lookup x=some .free
 |[],_,h=>by simp at h
 | (n,k) :: r,x,h=>by
  have ih:=@zbx env r x;show Fi x ((if(k==Co&&env.scope.kind==.function&&env.kindOf n==some .cell)=true then(n,Jc) else(n,k))::_)=_\/Fi x ((if(k==Co&&env.scope.kind==.function&&env.kindOf n==some .cell)=true then(n,Jc) else(n,k))::_)=_
  cases hx:x==n with
  |true=>
   simp only[E5,hx] at h
   cases h
   by_cases hc:(Co==Co&&env.scope.kind==.function&&env.kindOf n==some .cell)=true
   ·rw[if_pos hc];simp only[E5,hx];exact .inl trivial
   ·rw[if_neg hc];simp only[E5,hx];exact .inr trivial
  |false=>
   simp only[E5,hx] at h;by_cases hc:(k==Co&&env.scope.kind==.function&&env.kindOf n==some .cell)=true
   ·rw[if_pos hc];simp only[E5,hx];exact ih h
   ·rw[if_neg hc];simp only[E5,hx];exact ih h
noncomputable def cxComp(X:Cx)(scope:Fh)(N:List Str)(cl:List (Str×A3))(C:A3)(s:A5)(H:Hp)(fp:List A3)(pn:List (A3×Obj)):Cx:=
 {X with N:=N,s₀:=s,H₀:=H,env:=compEnvC scope cl C X.env,outer:=X.stack,stack:=X.stack,ex:=fp,fn:=fun _=>false,pn:=pn,xe:=fun _ _=>False}
noncomputable def CapsOk(X:Cx)(scope:Fh):List (Nat×Str)->Prop
 |[]=>True
 |p::r=>(X.N[p.1]?=some p.2/\scope.names.lookup p.2=some .free/\(X.env.scope.names.lookup p.2=some .cell\/X.env.scope.names.lookup p.2=some .free))/\CapsOk X scope r
theorem CapsOk.get{X:Cx}{scope:Fh}:∀{caps:List (Nat×Str)}{j:Nat}{p:Nat×Str},CapsOk X scope caps->caps[j]?=some p->
  X.N[p.1]?=some p.2/\scope.names.lookup p.2=some .free/\(X.env.scope.names.lookup p.2=some .cell\/X.env.scope.names.lookup p.2=some .free)
 |[],_,_,_,h=>by simp at h
 |q::r,0,p,h,e=>by simp at e;subst e;exact h.1
 |q::r,j+1,p,h,e=>CapsOk.get h.2 (by simpa using e)
noncomputable def capSt(own:List Str)(caps:List (Nat×Str))(σ:St):St:=own.map (fun _=>none)++caps.map fun p=>(σ[p.1]?).join
noncomputable def CompW(J:It)(D:A3)(σ0:St)(H1:Hp)(g:TG)(tf:TT)(te:TE)(Q:VK):Prop:=∃W:Nat->Nat->St->Hp->Prop,
 (∃m,W 0 m σ0 (upd H1 D (.lst [])))/\∀i m σ' H',W i m σ' H'->
  (J.stop i H'/\Q (.ref D) H')\/(J.go i H'/\∀x H2,J.yld i H' x H2->g x σ' H2 fun σ2 H3=>tf σ2 H3 fun b H4=>
   if b=true then te σ2 H4 fun v H5=>∃ys,H5 D=some (.lst ys)/\ys.length<sizeLine/\∃m',m'<m/\W (i+1) m' σ2 (upd H5 D (.lst (ys++[v])))
   else∃m',m'<m/\W (i+1) m' σ2 H4)
noncomputable def tComp(wi:TI)(own:List Str)(caps:List (Nat×Str))(g:TG)(tf:TT)(te:TE):TE:=fun σ H Q=>wi σ H fun J H1=>∀D,H1 D=none->CompW J D (capSt own caps σ) H1 g tf te Q
noncomputable def PTs(X:Cx)(ifs:List Cb)(t:TT):Prop:=
 ∀(pins:List (A3×Obj))(s:A5)(σ:St)(H:Hp)(Q:Bool->Hp->Prop),Inv X pins σ H s->t σ H Q->wpAny (model X.prog X.w) X.A (forIn ifs true fun c r=>if r=true then do let ok<-isTrue c X.env (eval c X.env);pure (Du ok) else pure (Du r)) (TP X pins σ Q) X.xe s
noncomputable def tTrue:TT:=fun _ H Q=>Q true H
theorem zbu{X:Cx}:PTs X [] tTrue:=fun _ _ _ H _ I h=>wpAny_tests_nil ⟨H,I,h⟩
theorem zco{X:Cx}{c:Cb}{t:TT}(h:PT X c t):PTs X [c] t:=fun pins s σ H Q I hw=>wpAny_tests_one (h pins s σ H Q I hw)
theorem comp_loop{prog:Ap}{w:Bd}{A:B5}{R:Ru->A5->Prop}{s:A5}{elt target iter:Cb}{ifs:List Cb}{scope:Fh}{pos:Pos}{it acc:A2}{env:Env}(I:Nat->A5->Prop)
  (turn:∀n s,I n s->wpAny (model prog w) A (pyNext it) (fun r s₁=>match r with
   |none=>R (.ok .next) s₁
   |some v=>wpAny (model prog w) A (letOwnedTupleGo target it v) (fun _ s₁'=>wpAny (model prog w) A (assign target env v) (fun _ s₂=>
     wpAny (model prog w) A (forIn ifs true fun c r=>if r=true then do let ok<-isTrue c env (eval c env);pure (Du ok) else pure (Du r)) (fun ok s₃=>
      if ok=true then wpAny (model prog w) A (eval elt env) (fun x s₄=>
       wpAny (model prog w) A (call (.builtin "list.append") [acc,x]) (fun _ s₅=>∃m,m<n/\I m s₅) (fun _ _=>False) s₄) (fun _ _=>False) s₃
      else∃m,m<n/\I m s₃) (fun _ _=>False) s₂) (fun _ _=>False) s₁') (fun _ _=>False) s₁) (fun _ _=>False) s)
  (n:Nat) (h:I n s):
  codeAny (model prog w) A (.compLoop (.ListComp elt [⟨target,iter,ifs,0⟩] scope pos) 0 it acc env) R s:=by
 refine codeAny_loop rfl I (fun n s hI=>?_) n h;show wpAny _ A ((compTurn (.ListComp elt [⟨target,iter,ifs,0⟩] scope pos) 0 it acc env).onRaise (fun x=>do noteFrame x env;theTreesLotGoes x)) _ _ s;refine wpAny_noted ?_;rw[compTurn_list];refine A1 (Ko (A1 (Ct (turn n s hI) (fun r s₁ h₁=>?_) fun _ _ h'=>h'.elim)))
 cases r with
 |none=>exact Ae h₁
 |some v=>
  refine A1 (Ct h₁ (fun _ s₁' h₁'=>?_) fun _ _ h'=>h'.elim);refine A1 (Ct h₁' (fun _ s₂ h₂=>A1 (Ct h₂ (fun ok s₃ h₃=>?_) fun _ _ h'=>h'.elim)) fun _ _ h'=>h'.elim)
  cases ok with
  |false=>exact Ae ⟨rfl,h₃⟩
  |true=>
   exact A1 (A1 (Ct h₃ (fun x s₄ h₄=>A1 (Ct h₄ (fun _ s₅ h₅=>Ae (Ae ⟨rfl,h₅⟩)) fun _ _ h'=>h'.elim)) fun _ _ h'=>h'.elim))
section
variable{X:Cx}{pins:List (A3×Obj)}{σ:St}
theorem comp_ok{H2:Hp}{s2:A5}{fp:List A3}{scope:Fh}{N:List Str}{cl:List (Str×A3)}{C:A3}(I2:Inv X pins σ H2 s2)(f2:∀b∈fp,FpOk X pins H2 b)(hC:s2.heap.objs.size<C)
  (hfs:∀b∈fp,b<s2.heap.objs.size) (hkind:scope.kind= .function) (hcl:∀x c,cl.lookup x=some c->X.env.cells.lookup x=some c)
  (hhas:∀x,((relabel scope X.env).names.lookup x=some .cell\/(relabel scope X.env).names.lookup x=some .free)->∃c,cl.lookup x=some c):
  (cxComp X scope N cl C s2 H2 fp (X.pn++pins)).Ok where
 mod:=I2.ok.mod
 kind:=hkind
 glob:=I2.ok.glob
 blt:=I2.ok.blt
 above:=G9 hC
 inj:=fun x y c h1 h2=>I2.ok.inj x y c (hcl x c h1) (hcl y c h2)
 has:=hhas
 cab:=fun _ _ h _=>by cases h
 hd:=I2.ok.hd
 frames:=I2.ok.frames
 stk:=.inl rfl
 exf:=fun b hb=>⟨B8 (Gz (hfs b hb) hC),fun x c e=>(f2 b hb).2.2.2.2.1 x c (hcl x c e)⟩
 bs:=I2.bs
 bsz:=Bt I2.ok.bsz I2.sz
 noex:=fun b o e hb=>by
  rcases(f2 b hb).2.2.2.1 with z|z
  ·exact I2.ok.noex b o e z
  ·exact absurd (Ah (An e) (Bt I2.ok.bsz z)) (Dt _)
 exfs:=fun b hb z=>(Ba.mp (I2.stkSub b z)).elim (f2 b hb).2.1 (f2 b hb).2.2.1
 funs:=I2.stack
 frf:=I2.stkFree
theorem comp_start{H2:Hp}{s2:A5}{fp:List A3}{scope:Fh}{own:List Str}{caps:List (Nat×Str)}{cl:List (Str×A3)}{D C:A3}{h1:Bx}{tk:Nat}{m:Str->Option A2}
  (I2:Inv X pins σ H2 s2) (f2:∀b∈fp,FpOk X pins H2 b) (hC:@Eq Nat C (s2.heap.objs.size+1)) (hD:@Eq Nat D s2.heap.objs.size)
  (hfs:∀b∈fp,b<s2.heap.objs.size) (hkind:scope.kind= .function) (hcl:∀x c,cl.lookup x=some c->X.env.cells.lookup x=some c)
  (hhas:∀x,((relabel scope X.env).names.lookup x=some .cell\/(relabel scope X.env).names.lookup x=some .free)->∃c,cl.lookup x=some c)
  (hcap:CapsOk X scope caps) (hns:h1.Ns C m) (old:∀b o,s2.heap.get? b=some o->h1.get? b=some o) (hlst:∃n,h1.get? D=some {cls:=.type "list",data:=.seq #[] n}):
  Inv (cxComp X scope (own++caps.map (·.2)) cl C s2 H2 fp (X.pn++pins)) [] (capSt own caps σ) (upd H2 D (.lst [])) {s2 with heap:=h1,toks:=tk}:=by
 have hCs:s2.heap.objs.size<C:=by omega
 have hDn:H2 D=none:=I2.hok.fresh (by omega);have hCn:H2 C=none:=I2.hok.fresh (by omega);have hCD:C≠D:=by show¬@Eq Nat C D;omega
 have hDs:s2.heap.objs.size<=D:=by show @LE.le Nat _ s2.heap.objs.size D;omega
 have new:ObjOk X.prog X.w (upd H2 D (.lst [])) h1 D (.lst []):=let ⟨n,e⟩:=hlst;⟨Bs _,[],n,.nil,e⟩;refine⟨comp_ok I2 f2 hCs hfs hkind hcl hhas,rfl,I2.bare,Un.laid old hDs hDn,⟨m,hns,fun i x v e1 e2 e3=>?_⟩,fun x c e=>?_,?_,fun x c e=>?_,fun p hp=>?_,I2.hok.laid old hDs new,?_⟩
 ·--a captured name
  have e2':(capSt own caps σ)[i]?=some (some v):=e2;unfold capSt at e2';by_cases hi:i<own.length
  ·rw[Do (by simpa using hi),Ad] at e2'
   cases q:own[i]? with
   |none=>rw[q] at e2';cases e2'
   |some y=>rw[q] at e2';cases e2'
  ·have hle:own.length<=i:=Ou hi;rw[Dj (by simpa using hle),Ad,A4] at e2';have e1':(own++caps.map (·.2))[i]?=some x:=e1;rw[Dj hle,Ad] at e1'
   cases q:caps[i-own.length]? with
   |none=>rw[q] at e2';cases e2'
   |some p=>
    rw[q] at e2' e1';have ex:p.2=x:=Bw e1';have ev:(σ[p.1]?).join=some v:=Bw e2';obtain⟨hN,hf,hv⟩:=hcap.get q;have hσ:σ[p.1]?=some (some v):=by
     cases r:σ[p.1]? with
     |none=>rw[r] at ev;cases ev
     |some y=>rw[r] at ev;rw[show y=some v from ev]
    obtain⟨mX,_,hl⟩:=I2.loc;obtain⟨u,ru,lk⟩:=hl p.1 p.2 v hN hσ (.inr hv);subst ex;refine⟨u,ru,.inr ⟨zbx hf,?_⟩⟩;rcases lk with⟨k,_⟩|⟨_,c,e,z⟩
    ·have k':X.env.scope.names.lookup p.2=some .local:=k;rw[k'] at hv;rcases hv with z|z<;>cases z
    ·obtain⟨c',e'⟩:=hhas p.2 (zbx hf);have e2:=hcl p.2 c' e';rw[e] at e2
     cases e2
     obtain⟨o,ho,hd⟩:=z;exact⟨c,e',o,old c o ho,hd⟩
 ·obtain⟨v,o,ho,hd⟩:=I2.cell x c (hcl x c e);exact⟨v,o,old c o ho,hd⟩
 ·show upd H2 D (.lst []) C=none;rw[zah hCD];exact hCn
 ·obtain⟨v,q⟩:=I2.cell x c (hcl x c e);rw[zah (B8 (Ah q.lt hDs))];exact I2.freeC x c (hcl x c e)
 ·have hp':p∈X.pn++pins:=by
   have hp2:p∈(X.pn++pins)++[]:=hp;rwa[C1] at hp2
  obtain⟨e,n,ne,nf,d⟩:=I2.pin p hp';have lt:=An e;refine⟨old p.1 p.2 e,by rw[zah (B8 (Ah lt hDs))];exact n,?_,fun z=>(Ba.mp (I2.stkSub p.1 z)).elim ne nf,d⟩;exact B8 (Gz lt hCs)
 ·show(capSt own caps σ).length=(own++caps.map (·.2)).length;unfold capSt;simp
theorem comp_back{H2 H':Hp}{s2 s':A5}{fp:List A3}{scope:Fh}{N:List Str}{cl:List (Str×A3)}{C:A3}{σ':St}{pn:List (A3×Obj)}(I2:Inv X pins σ H2 s2)(f2:∀b∈fp,FpOk X pins H2 b)
  (J:Inv (cxComp X scope N cl C s2 H2 fp pn) [] σ' H' s'):Inv X pins σ H' s':=
 I2.call' (s':=s') (ch:=fp) J.os J.base J.hok J.bare fun b hb=>⟨(f2 b hb).2.2.2.1,(f2 b hb).2.1,(f2 b hb).2.2.2.2.1,(f2 b hb).2.2.2.2.2⟩
theorem Inv.gone{H:Hp}{s:A5}{C:A3}{h':Bx}(I:Inv X pins σ H s)(hs:Fl C s.heap h')(hn:H C=none)(h0:X.s₀.heap.objs.size<=C)(hL:C≠X.env.locals)(h2:∀x c,X.env.cells.lookup x=some c->c≠C)(h3:∀p∈X.pn++pins,p.1≠C):
  Inv X pins σ H {s with heap:=h'}:=I.turned (t':=s.toks) (fun b o hb e=>(hs.2 b hb).trans e) hn hL (.inr h0) h2 h3
end
theorem free_of_relabel{env:Env}{scope:Fh}{x:Str}(hcell:∀y∈scope.names,y.2≠.cell)(h:(relabel scope env).names.lookup x=some .cell\/(relabel scope env).names.lookup x=some .free):(x,Co)∈scope.names:=by
 have all:∀k,(relabel scope env).names.lookup x=some k->(k= .cell\/k= .free)->(x,Co)∈scope.names:=by
  intro k e hk;have m:=zdw e;obtain⟨⟨n,j⟩,hm,q⟩:=A7.mp (show(x,k)∈scope.names.map _ from m);dsimp only at q;by_cases c:(j==Co&&env.scope.kind==.function&&env.kindOf n==some .cell)=true
  ·rw[if_pos c] at q;injection q with q1 q2;subst q1;have jf:j= .free:=by
    simp only[Bu] at c;exact eq_of_beq c.1.1
   rw[<-jf];exact hm
  ·rw[if_neg c] at q;injection q with q1 q2;subst q1 q2;rcases hk with z|z
   ·exact absurd z (hcell _ hm)
   ·rw[z] at hm;exact hm
 rcases h with h|h
 ·exact all _ h (.inl rfl)
 ·exact all _ h (.inr rfl)
structure Steps(Y:Cx)(tg:Cb)(J:It)(fp:List A3)(it:A3)(tn:Nat->Bx->Prop):Prop where
 item:∀(i:Nat)(pins:List (A3×Obj))(s:A5)(σ:St)(H:Hp)(E:A2->A5->Prop),Inv Y pins σ H s->(∀b∈fp,FpOk Y pins H b)->tn i s.heap->J.go i H->
  wpAny (model Y.prog Y.w) Y.A (pyNext (.ref it)) (fun r s1=>∃u,r=some u/\
   wpAny (model Y.prog Y.w) Y.A (letOwnedTupleGo tg (.ref it) u) (fun _ s2=>∃x H',Inv Y pins σ H' s2/\RelV x u/\J.yld i H x H'/\tn (i+1) s2.heap/\∀b∈fp,H' b=none) E s1) E s
 done:∀(i:Nat)(pins:List (A3×Obj))(s:A5)(σ:St)(H:Hp)(E:A2->A5->Prop),Inv Y pins σ H s->(∀b∈fp,FpOk Y pins H b)->tn i s.heap->J.stop i H->
  wpAny (model Y.prog Y.w) Y.A (pyNext (.ref it)) (fun r s1=>r=none/\Inv Y pins σ H s1) E s
structure Trn(P:Ap)(w:Bd)(K:Am)(Z:Cx->Prop)(tg:Cb)(J:It)(fp:List A3)(it:A3)(tn:Nat->Bx->Prop):Prop where
 obj:∀i h,tn i h->∀b∈fp,∃o,h.get? b=some o/\∀v,o.data≠.cell v
 keep:∀i h h',tn i h->(∀b∈fp,∀o,h.get? b=some o->h'.get? b=some o)->tn i h'
 steps:∀Y:Cx,Y.prog=P->Y.w=w->Y.K=K->Z Y->Steps Y tg J fp it tn
 self:∀(A:B5)(i:Nat)(s:A5)(Q:A2->A5->Prop)(E:A2->A5->Prop),tn i s.heap->Q (.ref it) s->wpAny (model P w) A (pyIter (.ref it)) Q E s
noncomputable def PIEq(Z:Cx->Prop)(X:Cx)(pins:List (A3×Obj))(σ:St)(tg:Cb)(R:It->Hp->Prop)(itv:A2)(s2:A5):Prop:=
 ∃(it:A3)(fp:List A3)(tn:Nat->Bx->Prop)(J:It)(H':Hp),itv= .ref it/\Inv X pins σ H' s2/\Trn X.prog X.w X.K Z tg J fp it tn/\tn 0 s2.heap/\(∀b∈fp,FpOk X pins H' b)/\R J H'
noncomputable def PIq(Z:Cx->Prop)(X:Cx)(tg iter:Cb)(wi:TI):Prop:=
 ∀(pins:List (A3×Obj))(s:A5)(σ:St)(H:Hp)(R:It->Hp->Prop),Inv X pins σ H s->wi σ H R->
  wpAny (model X.prog X.w) X.A (eval iter X.env) (fun v s1=>wpAny (model X.prog X.w) X.A (pyIter v) (PIEq Z X pins σ tg R) X.xe s1) X.xe s
theorem PI.q{X:Cx}{tg iter:Cb}{wi:TI}(h:PI X tg iter wi):PIq (fun Y=>Y.calm=true) X tg iter wi:=fun pins s σ H R I q=>
 thn (h pins s σ H R I q) fun v s1 h1=>thn h1 fun itv s2 h2=>by
  obtain⟨it,fp,tn,J,H',e,I',T,t0,f,r⟩:=h2;exact⟨it,fp,tn,J,H',e,I',⟨T.obj,T.keep,fun Y hP hw hK hz=>⟨fun i pins s σ H E=>hP▸hw▸T.item Y hP hw hK hz i pins s σ H E,fun i pins s σ H E=>hP▸hw▸T.done Y hP hw hK hz i pins s σ H E⟩,T.self⟩,t0,f,r⟩
section
variable{X:Cx}{elt target iter:Cb}{ifs:List Cb}{scope:Fh}{pos:Pos}{own:List Str}{caps:List (Nat×Str)}{wi:TI}{g:TG}{tf:TT}{te:TE}
structure CompScope(X:Cx)(scope:Fh)(caps:List (Nat×Str)):Prop where
 kind:scope.kind= .function
 cell:(scope.names.all fun y=> !(y.2==.cell))=true
 names:(scope.names.all fun y=> !(y.2==.local)||scope.names.lookup y.1==some .local)=true
 free:(scope.names.all fun y=> !(y.2==.free)||(X.env.scope.names.lookup y.1==some .cell||X.env.scope.names.lookup y.1==some .free))=true
 caps:CapsOk X scope caps
theorem zdI{use:Option (A2->Sem Unit)}{R:A2->A5->Prop}{pins:List (A3×Obj)}{σ:St}{s:A5}{H:Hp}{Q:VK}(Z:Cx->Prop)(hc:∀cl C s H fp pins,Z (cxComp X scope (own++caps.map (·.2)) cl C s H fp (X.pn++pins)))(S:CompScope X scope caps)(hi:PIq Z X target iter wi)
  (hg:∀cl C s H fp pn,PG (cxComp X scope (own++caps.map (·.2)) cl C s H fp pn) target g)
  (ht:∀cl C s H fp pn,PTs (cxComp X scope (own++caps.map (·.2)) cl C s H fp pn) ifs tf)
  (he:∀cl C s H fp pn,PE (cxComp X scope (own++caps.map (·.2)) cl C s H fp pn) elt te)
  (I:Inv X pins σ H s) (h:tComp wi own caps g tf te σ H Q)
  (fin:∀D C H' s' m,Inv X pins σ H' s'->s'.heap.Ns C m->H' C=none->X.s₀.heap.objs.size<=C->C≠X.env.locals->(∀x c,X.env.cells.lookup x=some c->c≠C)->(∀p∈X.pn++pins,p.1≠C)->Q (.ref D) H'->
   compPost (model X.prog X.w) X.A X.xe use R (.ref D) C (.ok .next) s')
  (hs:∀x,foldedSetIterable iter X.env x=pure x):
  wpAny (model X.prog X.w) X.A (comprehension (.ListComp elt [⟨target,iter,ifs,0⟩] scope pos) scope X.env (firstIterPos [⟨target,iter,ifs,0⟩] pos) (newList []) false (eval iter X.env) use) R X.xe s:=by
 have hcell:∀y∈scope.names,y.2≠.cell:=fun y hy z=>by
  have:=Cv.mp S.cell y hy;rw[z] at this;cases this
 have hnames:∀y∈scope.names,y.2= .local->scope.names.lookup y.1=some .local:=fun y hy z=>by
  have:=Cv.mp S.names y hy;rw[z] at this;simpa using this
 have hfree:∀y∈scope.names,y.2= .free->X.env.scope.names.lookup y.1=some .cell\/X.env.scope.names.lookup y.1=some .free:=fun y hy z=>by
  have:=Cv.mp S.free y hy;rw[z] at this;simpa using this
 obtain⟨cl,hclos,hcl0,hcl1⟩:=closure_ok (env:=X.env) (scope:=scope) fun y hy z=>I.ok.has y.1 (hfree y hy z);have hcl:∀x c,cl.lookup x=some c->X.env.cells.lookup x=some c:=fun x c e=>(hcl0 x c (zdw e)).2;have hhas:∀x,((relabel scope X.env).names.lookup x=some .cell\/(relabel scope X.env).names.lookup x=some .free)->∃c,cl.lookup x=some c:=fun x hx=>by
  obtain⟨c,hm⟩:=hcl1 x (free_of_relabel hcell hx);exact zeS hm
 refine wpAny_comprehension_free (g:=⟨target,iter,ifs,0⟩) (gs:=[]) rfl hs hclos S.kind hnames (thn (hi pins s σ H _ I h) fun v s1 h1=>thn h1 fun itv s2 h2=>?_);obtain⟨it,fp,tn,J,H2,e,I2,T,st2,f2,cont⟩:=h2;subst e;obtain⟨W,⟨m0,w0⟩,turn⟩:=cont s2.heap.objs.size (I2.hok.fresh (Ab _));refine El (wpAny_newFunctionEnv hcell (by intro y hy;simp at hy) (fun h₁ hns₁ hsb₁=>?_) S.kind);dsimp only at hns₁ hsb₁⊢;generalize hH2:s2.heap.push {cls:=.type "list",dict:=none,data:=.seq ([]:List A2).toArray}=HL at hns₁ hsb₁⊢;have hC:HL.objs.size=s2.heap.objs.size+1:=by rw[<-hH2,Eb]
 have hfs:∀b∈fp,b<s2.heap.objs.size:=fun b hb=>let ⟨_,e,_⟩:=T.obj 0 _ st2 b hb;An e;have old:∀b o,s2.heap.get? b=some o->h₁.get? b=some o:=fun b o e=>
  hsb₁.extBut b o (by rw[hC];exact B8 (Eg (An e))) (A8 _ (hH2▸A8 _ e))
 have hlst:∃n,h₁.get? s2.heap.objs.size=some {cls:=.type "list",data:=.seq #[] n}:=⟨_,hsb₁.extBut _ _ (by rw[hC];exact B8 (Et _)) (A8 _ (hH2▸Aw _ rfl))⟩;have I4:Inv (cxComp X scope (own++caps.map (·.2)) cl HL.objs.size s2 H2 fp (X.pn++pins)) [] (capSt own caps σ) (upd H2 s2.heap.objs.size (.lst [])) {s2 with heap:=h₁,toks:=s2.toks+([]:List (Str×A2)).length}:=
  comp_start I2 f2 hC rfl hfs S.kind hcl hhas S.caps hns₁ old hlst
 have st4:tn 0 h₁:=T.keep 0 _ _ st2 fun b hb o e=>old b o e;have fr4:∀b∈fp,upd H2 s2.heap.objs.size (.lst []) b=none:=fun b hb=>by
  rw[zah (B8 (hfs b hb))];exact(f2 b hb).1
 have hCs:s2.heap.objs.size<HL.objs.size:=by rw[hC];exact Et _
 have loop:codeAny (model X.prog X.w) X.A (.compLoop (.ListComp elt [⟨target,iter,ifs,0⟩] scope pos) 0 (.ref it) (.ref s2.heap.objs.size) (compEnvC scope cl HL.objs.size X.env))
   (compPost (model X.prog X.w) X.A X.xe use R (.ref s2.heap.objs.size) HL.objs.size) {s2 with heap:=h₁,toks:=s2.toks+([]:List (Str×A2)).length}:=by
  refine comp_loop (fun n s'=>∃i σ' H',Inv (cxComp X scope (own++caps.map (·.2)) cl HL.objs.size s2 H2 fp (X.pn++pins)) [] σ' H' s'/\tn i s'.heap/\(∀b∈fp,H' b=none)/\W i n σ' H') ?_ m0 ⟨0,_,_,I4,st4,fr4,w0⟩;have U:=T.steps (cxComp X scope (own++caps.map (·.2)) cl HL.objs.size s2 H2 fp (X.pn++pins)) rfl rfl rfl (hc _ _ _ _ _ _);rintro n s3⟨i,σ3,H3,I3,st3,fr3,w3⟩;have stat:∀{H':Hp},(∀b∈fp,H' b=none)->∀b∈fp,FpOk (cxComp X scope (own++caps.map (·.2)) cl HL.objs.size s2 H2 fp (X.pn++pins)) [] H' b:=fun{H'}hn b hb=>by
   refine⟨hn b hb,(I3.ok.exf b hb).1,I3.ok.exfs b hb,.inl hb,(I3.ok.exf b hb).2,fun p hp=>?_⟩;have hp':p∈X.pn++pins:=by
    have hp2:p∈(X.pn++pins)++[]:=hp;rwa[C1] at hp2
   exact(f2 b hb).2.2.2.2.2 p hp'
  rcases turn i n σ3 H3 w3 with⟨stop,qn⟩|⟨go,step⟩
  ·refine thn (U.done i [] s3 σ3 H3 _ I3 (stat fr3) st3 stop) fun r s4⟨hr,I4⟩=>?_;subst hr;obtain⟨m,hm,_⟩:=I4.loc;refine fin s2.heap.objs.size HL.objs.size H3 s4 m (comp_back I2 f2 I4) hm I4.free (Bt I2.sz (G9 hCs)) (Kl (Gz I2.lt hCs)) (fun x c e z=>?_) (fun p hp z=>?_) qn
   ·obtain⟨v,q⟩:=I2.cell x c e;exact absurd (Gz q.lt hCs) (by rw[z];exact Dt _)
   ·exact absurd (Gz (An (I2.pin p hp).1) hCs) (by rw[z];exact Dt _)
  ·refine thn (U.item i [] s3 σ3 H3 _ I3 (stat fr3) st3 go) fun r s4⟨u,hr,h4⟩=>?_;subst hr;refine thn h4 fun _ s5⟨x,H5,I5,r5,y5,st5,fr5⟩=>?_;have I5':=I5.pinned (stat fr5) (T.obj _ _ st5);refine thn (hg cl HL.objs.size s2 H2 fp (X.pn++pins) _ s5 σ3 H5 x u _ I5' r5 (step x H5 y5)) fun _ s6⟨σ6,H6,I6,q6⟩=>?_;refine thn (ht cl HL.objs.size s2 H2 fp (X.pn++pins) _ s6 σ6 H6 _ I6 q6) fun b s7⟨H7,I7,q7⟩=>?_;have again:∀{σ8:St}{H8:Hp}{s8:A5}{m':Nat},Inv (cxComp X scope (own++caps.map (·.2)) cl HL.objs.size s2 H2 fp (X.pn++pins)) ([]++pinsAt fp s5.heap) σ8 H8 s8->m'<n->W (i+1) m' σ8 H8->
     ∃m,m<n/\∃i σ' H',Inv (cxComp X scope (own++caps.map (·.2)) cl HL.objs.size s2 H2 fp (X.pn++pins)) [] σ' H' s8/\tn i s8.heap/\(∀b∈fp,H' b=none)/\W i m σ' H':=fun{σ8 H8 s8 m'}I8 hm w8=>by
    refine⟨m',hm,i+1,σ8,H8,I8.unpinned,T.keep _ _ _ st5 fun b hb o e=>(I8.pin (b,o) (Bi _ (Bi _ (zce hb e)))).1,fun b hb=>?_,w8⟩;obtain⟨o,e,d⟩:=T.obj _ _ st5 b hb;exact(I8.pin (b,o) (Bi _ (Bi _ (zce hb e)))).2.1
   cases b with
   |false=>
    rw[if_neg Aa] at q7⊢;obtain⟨m',hm,w7⟩:=q7;exact again I7 hm w7
   |true=>
    rw[if_pos rfl] at q7⊢;refine thnE (he cl HL.objs.size s2 H2 fp (X.pn++pins) _ s7 σ6 H7 _ I7 q7) fun y s8 v H8 I8 r8⟨ys,hy,hz,m',hm,w8⟩=>?_;refine thn (za1 _ s8 σ6 H8 (.ref s2.heap.objs.size) [v] (.ref s2.heap.objs.size) [y] (fun _ H9=>H9=upd H8 s2.heap.objs.size (.lst (ys++[v]))) I8 rfl (.cons r8 .nil) ⟨_,ys,v,rfl,rfl,hy,hz,rfl⟩) fun z s9⟨_,H9,I9,_,e9⟩=>?_;subst e9;exact again I9 hm w8
 exact codeAny_compStart_list loop (T.self _ 0 _ _ _ st4 loop)
theorem za8(hc:X.calm=true)(S:CompScope X scope caps)(hi:PI X target iter wi)
  (hg:∀cl C s H fp pn,PG (cxComp X scope (own++caps.map (·.2)) cl C s H fp pn) target g)
  (ht:∀cl C s H fp pn,PTs (cxComp X scope (own++caps.map (·.2)) cl C s H fp pn) ifs tf)
  (he:∀cl C s H fp pn,PE (cxComp X scope (own++caps.map (·.2)) cl C s H fp pn) elt te)
  (hs:∀x,foldedSetIterable iter X.env x=pure x:=by intro _;rfl):PE X (.ListComp elt [⟨target,iter,ifs,0⟩] scope pos) (tComp wi own caps g tf te):=by
 intro pins s σ H Q I h;rw[S0];refine zdI (Q:=Q) (fun Y=>Y.calm=true) (fun _ _ _ _ _ _=>hc) S hi.q hg ht he I h (fun D C H' s' m I' hm hn h0 hL h2 h3 q=>?_) hs;exact⟨m,hm,fun h' hs'=>⟨.ref D,H',I'.gone hs' hn h0 hL h2 h3,rfl,q⟩⟩
theorem pe_compq(Z:Cx->Prop)(hc:∀cl C s H fp pins,Z (cxComp X scope (own++caps.map (·.2)) cl C s H fp (X.pn++pins)))(S:CompScope X scope caps)(hi:PIq Z X target iter wi)
  (hg:∀cl C s H fp pn,PG (cxComp X scope (own++caps.map (·.2)) cl C s H fp pn) target g)
  (ht:∀cl C s H fp pn,PTs (cxComp X scope (own++caps.map (·.2)) cl C s H fp pn) ifs tf)
  (he:∀cl C s H fp pn,PE (cxComp X scope (own++caps.map (·.2)) cl C s H fp pn) elt te)
  (hs:∀x,foldedSetIterable iter X.env x=pure x:=by intro _;rfl):PE X (.ListComp elt [⟨target,iter,ifs,0⟩] scope pos) (tComp wi own caps g tf te):=by
 intro pins s σ H Q I h;rw[S0];refine zdI (Q:=Q) Z hc S hi hg ht he I h (fun D C H' s' m I' hm hn h0 hL h2 h3 q=>?_) hs;exact⟨m,hm,fun h' hs'=>⟨.ref D,H',I'.gone hs' hn h0 hL h2 h3,rfl,q⟩⟩
theorem zgL{i:Nat}{x:Str}{pos' spos:Pos}(hN:X.N.Nodup)(hn:X.N[i]?=some x)(hx:Loc X.env.scope x)(hc:X.calm=true)(S:CompScope X scope caps)(hi:PI X target iter wi)
  (hg:∀cl C s H fp pn,PG (cxComp X scope (own++caps.map (·.2)) cl C s H fp pn) target g)
  (ht:∀cl C s H fp pn,PTs (cxComp X scope (own++caps.map (·.2)) cl C s H fp pn) ifs tf)
  (he:∀cl C s H fp pn,PE (cxComp X scope (own++caps.map (·.2)) cl C s H fp pn) elt te)
  (hsw:swapsWith (.ListComp elt [⟨target,iter,ifs,0⟩] scope pos) (some (.Name x pos')) spos.line X.env=pure true:=by rfl)
  (hf:X.fn x=true\/X.env.scope.names.lookup x=some .local:=by first|exact .inl rfl|exact .inr rfl|assumption)
  (hs:∀x,foldedSetIterable iter X.env x=pure x:=by intro _;rfl):PS X (.Assign [.Name x pos'] (.ListComp elt [⟨target,iter,ifs,0⟩] scope pos) spos) (tAsg (tComp wi own caps g tf te) (gName i)):=by
 intro pins s σ H D I h;rw[exec_Assign_Name_used _ _ _ _ hsw];refine A1 (Ko (A1 ?_));show wpAny _ _ (do let _<-comprehension (.ListComp elt [⟨target,iter,ifs,0⟩] scope pos) scope X.env _ (newList []) false (eval iter X.env) (some (assign (.Name x pos') X.env))) _ _ s;refine A1 (Ct (zdI (use:=some (assign (.Name x pos') X.env)) (R:=fun _ s'=>SP X pins D .next s') (Q:=fun v H1=>gName i v σ H1 D.nx) (fun Y=>Y.calm=true) (fun _ _ _ _ _ _=>hc) S hi.q hg ht he I h (fun Dl C H' s' m I' hm hnC h0 hL h2 h3 q=>?_) hs)
  (fun _ s' hq=>Ae (Ae hq)) fun _ _ e=>e)
 show wpAny _ _ (assign (.Name x pos') X.env (.ref Dl)) _ _ s';refine Pj (zeD I' hN hn hx (show RelV (.ref Dl) (.ref Dl) from rfl) (fun s'' I'' sb=>?_) hf);obtain⟨a,hsb,ha⟩:=sb;have hCa:C≠a:=by
  rcases ha with z|z
  ·rw[z];exact hL
  ·exact Dz (h2 x a z)
 exact⟨m,hm.sameBut hsb hCa,fun h' hs'=>⟨_,H',I''.gone hs' hnC h0 hL h2 h3,q⟩⟩
end
noncomputable def sgn(c:Nat):V:=.str ⟨#[c]⟩
noncomputable def Its(x:Str):It:=⟨fun i _=>i<x.cps.size,fun i H v H'=>H'=H/\∃c,x.cps[i]?=some c/\v=sgn c,fun i _=>i=x.cps.size⟩
theorem zfJ{P:Ap}{w:Bd}{K:Am}{tg:Cb}(it:A3)(x:Str)(t:Tok)(ty:String)
  (hty:["enumerate","zip","dict_itemiterator","dict_reverseitemiterator","odict_iterator","itertools.zip_longest","itertools.pairwise"].contains ty=false)
  (W:∀A:B5,A.handled=none->Walks P w A it [it] [it] x.cps.size (SignAt x) (fun i h=>h.IsStrIter it ty x t i))
  (sf:∀(A:B5)(i:Nat)(s:A5)(Q:A2->A5->Prop)(E:A2->A5->Prop),s.heap.IsStrIter it ty x t i->Q (.ref it) s->wpAny (model P w) A (pyIter (.ref it)) Q E s):
  Turn P w K tg (Its x) [it] it (fun i h=>h.IsStrIter it ty x t i) where
 mem:=by simp
 obj:=fun i h st b hb=>by
  have e:b=it:=by simpa using hb
  subst e;obtain⟨o,e,c,d⟩:=st;exact⟨o,e,fun v z=>by rw[d] at z;cases z⟩
 keep:=fun i h h' st k=>by
  obtain⟨o,e,r⟩:=st;exact⟨o,k it (by simp) o e,r⟩
 item:=by
  intro X hP hw hK hc i pins s σ H E I hf st hg;subst hP hw hK;obtain⟨f0,f1,f2,f3,f4,f5⟩:=hf it (by simp);refine(W X.A (I.ok.hd hc)).item i s _ _ hg st fun v h' tk hv st' kk=>?_;obtain⟨c,u,hc',rfl⟩:=hv;have I1:Inv X pins σ H {s with heap:=h',toks:=tk}:=I.turned (fun b o hb e=>kk b o (by simpa using hb) e) f0 f1 f3 f4 f5;obtain⟨o,e,cc,d⟩:=id st';exact⟨_,rfl,zfw (s:={s with heap:=h',toks:=tk}) e cc d hty ⟨sgn c,H,I1,⟨u,rfl⟩,⟨rfl,c,hc',rfl⟩,st',fun b hb=>(hf b hb).1⟩⟩
 done:=by
  intro X hP hw hK hc i pins s σ H E I hf st hg;subst hP hw hK;obtain⟨f0,f1,f2,f3,f4,f5⟩:=hf it (by simp);have hi:i=x.cps.size:=hg;subst hi;exact(W X.A (I.ok.hd hc)).done s _ _ st fun h' tk kk=>⟨rfl,I.turned (fun b o hb e=>kk b o (by simpa using hb) e) f0 f1 f3 f4 f5⟩
 self:=fun A i s Q E st h=>sf A i s Q E st h
section
variable{X:Cx}{tg:Cb}
noncomputable def iStr(tl:TE):TI:=fun σ H R=>tl σ H fun v H1=>∃x,v= .str x/\R (Its x) H1
theorem zhw{l:Cb}{tl:TE}(hl:PE X l tl):PI X tg l (iStr tl):=by
 intro pins s σ H R I h;refine thnE (hl pins s σ H _ I h) fun v s1 y H1 I1 r1 q1=>?_;obtain⟨x,e,q⟩:=q1;subst e;obtain⟨t,rfl⟩:=r1;have hf:∀o:Obj,∀b∈[s1.heap.objs.size],FpOk X pins H1 b:=fun o b hb=>by
  have e:b=s1.heap.objs.size:=by simpa using hb
  subst e;exact I1.fpOk (Ab _) (I1.hok.fresh (Ab _))
 cases ha:x.cps.all (· <128)
 ·exact wpAny_pyIter_wide ha ⟨s1.heap.objs.size,[s1.heap.objs.size],_,_,H1,rfl,I1.kept (t':=s1.toks) fun b o e=>A8 _ e,
   zfJ _ x t "str_iterator" (by decide) (fun A hA=>Walks.strWide hA _ x t) (fun A i s Q E st h=>wpAny_pyIter_striter_wide st h),⟨_,Aw _ rfl,rfl,rfl⟩,hf default,q⟩
 ·exact wpAny_pyIter_ascii ha ⟨s1.heap.objs.size,[s1.heap.objs.size],_,_,H1,rfl,I1.kept (t':=s1.toks) fun b o e=>A8 _ e,
   zfJ _ x t "str_ascii_iterator" (by decide) (fun A hA=>Walks.strAscii hA _ x t) (fun A i s Q E st h=>wpAny_pyIter_striter_ascii st h),⟨_,Aw _ rfl,rfl,rfl⟩,hf default,q⟩
end
structure Gives(J:It)(Ok:Hp->Prop)(L:List V):Prop where
 go:∀i H,Ok H->i<L.length->J.go i H
 yld:∀i H x H',Ok H->J.yld i H x H'->i<L.length->H'=H/\L[i]?=some x
 stop:∀H,Ok H->J.stop L.length H
theorem zaT(lo:Int)(n:Nat):Gives (Itr lo n) (fun _=>True) ((Af n).map fun i=>V.int (lo+(i:Nat))) where
 go:=fun i H _ h=>by
  have:i<n:=by simpa using h
  exact this
 yld:=fun i H x H' _ y h=>by
  obtain⟨e,rfl⟩:=y;have:i<n:=by simpa using h
  exact⟨e,by simp[this]⟩
 stop:=fun H _=>by
  show n<=_;simp
theorem ze1(x:Str):Gives (Its x) (fun _=>True) (x.cps.toList.map sgn) where
 go:=fun i H _ h=>by
  have:i<x.cps.size:=by simpa using h
  exact this
 yld:=fun i H v H' _ y h=>by
  obtain⟨e,c,hc,rfl⟩:=y;refine⟨e,?_⟩;rw[Ad];simp[hc]
 stop:=fun H _=>by
  show _=x.cps.size;simp
theorem zap(K:Am)(a:A3)(xs:List V):Gives (Itl K a) (fun H=>SqL K H a xs) xs where
 go:=fun i H q h=>⟨xs,xs[i],q,by simp[h]⟩
 yld:=fun i H v H' q y h=>⟨y.1,y.2 xs q⟩
 stop:=fun H q=>⟨xs,q,Ab _⟩
theorem gives_tup(K:Am)(a:A3)(xs:List V):Gives (Itt K a) (fun H=>SqT K H a xs) xs where
 go:=fun i H q h=>⟨xs,xs[i],q,by simp[h]⟩
 yld:=fun i H v H' q y h=>⟨y.1,y.2 xs q⟩
 stop:=fun H q=>⟨xs,q,Ab _⟩
theorem zbz{J:It}{Ok:Hp->Prop}{L:List V}{g:TG}{tb:TS}{D:Ends}{σ:St}{H:Hp}(G:Gives J Ok L)(Pv:Nat->St->Hp->Prop)(h0:Pv 0 σ H)(hk:∀i σ H,i<=L.length->Pv i σ H->Ok H)
  (hs:∀i x σ H,L[i]?=some x->Pv i σ H->g x σ H fun σ2 H2=>tb {D with nx:=Pv (i+1),ct:=Pv (i+1),bk:=D.nx} σ2 H2) (hd:∀σ H,Pv L.length σ H->D.nx σ H):
  ∃W:Nat->Nat->St->Hp->Prop,(∃m,W 0 m σ H)/\∀i m σ H,W i m σ H->
   (J.stop i H/\D.nx σ H)\/(J.go i H/\∃N:St->Hp->Prop,(∀σ' H',N σ' H'->∃m',m'<m/\W (i+1) m' σ' H')/\∀x H',J.yld i H x H'->g x σ H' fun σ2 H2=>tb {D with nx:=N,ct:=N,bk:=D.nx} σ2 H2):=by
 refine⟨fun i m σ H=>m=L.length-i/\i<=L.length/\Pv i σ H,⟨L.length,by simp,Bs _,h0⟩,?_⟩;rintro i m σ H⟨rfl,hi,p⟩;have q:=hk i σ H hi p;by_cases hlt:i<L.length
 ·refine .inr ⟨G.go i H q hlt,Pv (i+1),fun σ' H' p'=>⟨L.length-(i+1),by omega,rfl,hlt,p'⟩,fun x H' y=>?_⟩;obtain⟨e,yy⟩:=G.yld i H x H' q y hlt;subst e;exact hs i x σ _ yy p
 ·have e:i=L.length:=by omega
  subst e;exact .inl ⟨G.stop H q,hd σ H p⟩
noncomputable def CNext(D:A3)(L:List V)(Pv:Nat->List V->St->Hp->Prop)(i:Nat)(σ2:St)(v:V)(H5:Hp):Prop:=
 ∃ys,H5 D=some (.lst ys)/\ys.length<sizeLine/\∃m',m'<L.length-i/\(m'=L.length-(i+1)/\i+1<=L.length/\∃xs,Pv (i+1) xs σ2 (upd H5 D (.lst (ys++[v]))))
noncomputable def CSkip(L:List V)(Pv:Nat->List V->St->Hp->Prop)(i:Nat)(σ2:St)(H4:Hp):Prop:=
 ∃m',m'<L.length-i/\(m'=L.length-(i+1)/\i+1<=L.length/\∃xs,Pv (i+1) xs σ2 H4)
theorem CNext.of{D:A3}{L:List V}{Pv:Nat->List V->St->Hp->Prop}{i:Nat}{σ2:St}{v:V}{H5:Hp}{xs:List V}(hi:i<L.length)(hL:L.length<=sizeLine)(h5:H5 D=some (.lst xs))(hx:xs.length<=i)(p:Pv (i+1) (xs++[v]) σ2 (upd H5 D (.lst (xs++[v])))):CNext D L Pv i σ2 v H5:=
 ⟨xs,h5,by omega,L.length-(i+1),by omega,rfl,hi,_,p⟩
theorem CSkip.of{L:List V}{Pv:Nat->List V->St->Hp->Prop}{i:Nat}{σ2:St}{H4:Hp}{xs:List V}(hi:i<L.length)(p:Pv (i+1) xs σ2 H4):CSkip L Pv i σ2 H4:=⟨L.length-(i+1),by omega,rfl,hi,_,p⟩
theorem zhj{J:It}{Ok:Hp->Prop}{L:List V}{g:TG}{tf:TT}{te:TE}{D:A3}{σ0:St}{H1:Hp}{Q:VK}(G:Gives J Ok L)(Pv:Nat->List V->St->Hp->Prop)(h0:Pv 0 [] σ0 (upd H1 D (.lst [])))
  (hk:∀i xs σ H,i<=L.length->Pv i xs σ H->Ok H)
  (hs:∀i x xs σ H,i<L.length->L[i]?=some x->Pv i xs σ H->g x σ H fun σ2 H3=>tf σ2 H3 fun b H4=>if b=true then te σ2 H4 fun v H5=>CNext D L Pv i σ2 v H5 else CSkip L Pv i σ2 H4)
  (hd:∀xs σ H,Pv L.length xs σ H->Q (.ref D) H):
  CompW J D σ0 H1 g tf te Q:=by
 refine⟨fun i m σ H=>m=L.length-i/\i<=L.length/\∃xs,Pv i xs σ H,⟨L.length,by simp,Bs _,[],h0⟩,?_⟩;rintro i m σ H⟨rfl,hi,xs,p⟩;have q:=hk i xs σ H hi p;by_cases hlt:i<L.length
 ·refine .inr ⟨G.go i H q hlt,fun x H' y=>?_⟩;obtain⟨e,yy⟩:=G.yld i H x H' q y hlt;subst e;exact hs i x xs σ _ hlt yy p
 ·have e:i=L.length:=by omega
  subst e;exact .inl ⟨G.stop H q,hd xs σ H p⟩
theorem Same.put{H0 H:Hp}{p:A3}{o:HO}(s:Same H0 H)(n:H0 p=none):Same H0 (upd H p o):=fun b u e=>by
 rw[zah (zaq e n)];exact s b u e
theorem Same.new{H:Hp}{p:A3}{o:HO}(n:H p=none):Same H (upd H p o):=(Same.refl H).put n
theorem Same.tup{K:Am}{H H':Hp}{a:A3}{xs:List V}(e:Same H H')(h:SqT K H a xs):SqT K H' a xs:=by
 rcases h with(h|⟨o,h⟩)|h
 ·exact .inl (.inl (e _ _ h))
 ·exact .inl (.inr ⟨o,e _ _ h⟩)
 ·exact .inr h
theorem zaz{α:Type}{l:List α}{i:Nat}{x:α}(h:l[i]?=some x):l.take (i+1)=l.take i++[x]:=by
 rw[List.take_add_one,h];rfl
theorem zb1{J:It}{Ok:Hp->Prop}{L:List V}{tf:TT}{te:TE}{D:A3}{σ0 capv:St}{H1:Hp}{Q:VK}(hσ:σ0=none::capv)(G:Gives J Ok L)(hL:L.length<=sizeLine)(hD:H1 D=none)(hOk:∀H,Same H1 H->Ok H)(p:V->Bool)(F:V->V)
  (ht:∀x∈L,∀H R,Same H1 H->(∀H',Same H H'->R (p x) H')->tf (some x::capv) H R)
  (he:∀x∈L,p x=true->∀H R,Same H1 H->(∀H',Same H H'->R (F x) H')->te (some x::capv) H R)
  (hd:∀H,Same H1 H->H D=some (.lst ((L.filter p).map F))->Q (.ref D) H):
  CompW J D σ0 H1 (gName 0) tf te Q:=by
 subst hσ;refine zhj G (fun i xs σ H=>(∃o,σ=o::capv)/\Same H1 H/\H D=some (.lst xs)/\xs=((L.take i).filter p).map F) ⟨⟨none,rfl⟩,Same.new hD,zab,by simp⟩ (fun i xs σ H _ h=>hOk H h.2.1) ?_ ?_
 ·rintro i x xs σ H hi hx⟨⟨o,rfl⟩,s,e,exs⟩;have hm:x∈L:=B0 hx;have hxl:xs.length<=i:=by
   rw[exs,A4];exact Bt (Cp _ _) (by rw[Cq];omega)
  show tf (some x::capv) H _;refine ht x hm H _ s fun H' s'=>?_
  cases hp:p x with
  |true=>
   rw[if_pos rfl];refine he x hm hp H' _ (s.trans s') fun H'' s''=>?_;have e'':H'' D=some (.lst xs):=s'' _ _ (s' _ _ e);refine CNext.of hi hL e'' hxl ⟨⟨some x,rfl⟩,((s.trans s').trans s'').put hD,zab,?_⟩;rw[zaz hx,D6,B7,exs];simp[hp]
  |false=>
   rw[if_neg Aa];refine CSkip.of hi ⟨⟨some x,rfl⟩,s.trans s',s' _ _ e,?_⟩;rw[zaz hx,D6,B7,exs];simp[hp]
 ·rintro xs σ H⟨_,s,e,exs⟩;refine hd H s ?_;rw[e,exs,By]
theorem zcB{P:Ap}{w:Bd}{A:B5}{E:A2->A5->Prop}{s:A5}{a:A3}{its:List A2}{Q:A2->A5->Prop}(hh:A.handled=none)(hl:s.heap.IsList a its.toArray)
  (h:∀(I:A3)(s2:A5),s2={s with heap:=s.heap.push {cls:=.type "list_iterator",data:=.fields #[.ref a,.int 0 0]}}->I=s.heap.objs.size->
   Walks P w A I [I,a] [I] its.length (fun i v=>its[i]?=some v) (fun i h=>h.IsListIter I a i/\h.IsList a its.toArray)->(s2.heap.IsListIter I a 0/\s2.heap.IsList a its.toArray)->(∀b∈[I,a],b<s2.heap.objs.size)->
   (∀h':Bx,(∀b o,b∉[I]->s2.heap.get? b=some o->h'.get? b=some o)->∀b o,s.heap.get? b=some o->h'.get? b=some o)->Q (.ref I) s2):
  wpAny (model P w) A (pyIter (.ref a)) Q E s:=by
 have hlt:a<s.heap.objs.size:=by obtain⟨_,e,_⟩:=hl;exact An e
 refine Pi hl (h _ _ rfl rfl ?_ ⟨⟨_,Aw _ rfl,rfl,rfl⟩,hl.push _⟩ (fun b hb=>?_) (fun h' k b o e=>k b o ?_ (A8 _ e)))
 ·have W:=Walks.list (prog:=P) (w:=w) (A:=A) hh s.heap.objs.size a (B8 hlt) its.toArray;simpa using W
 ·show b<(s.heap.push _).objs.size;rw[Eb];rcases Ba.mp hb with rfl|hb
  ·exact Et _
  ·have e:b=a:=by simpa using hb
   subst e;exact Eg hlt
 ·intro z;have e2:b=s.heap.objs.size:=by simpa using z
  subst e2;exact absurd (An e) (Dt _)
theorem zfH{xs:List V}{us:List A2}(r:Vals xs us){i:Nat}{u:A2}(h:us[i]?=some u):∃x,xs[i]?=some x/\RelV x u:=by
 have hi:i<xs.length:=by rw[r.length];exact(Ar.mp h).1
 obtain⟨u',hu,ru⟩:=r.get (x:=xs[i]) (i:=i) (by simp[hi]);rw[h] at hu
 cases hu
 exact⟨_,by simp[hi],ru⟩
theorem range_all_map(bs:List Bool):(Af bs.length).all (fun i=>bs.getD i false)=bs.all id:=by
 rw[Ay,Cv,Cv];constructor
 ·intro h x hx;obtain⟨i,hi,e⟩:=Jh.mp hx;have:=h i (Be.mpr hi);simp only[Ai,hi,getElem?_pos,Hq,e] at this;exact this
 ·intro h i hi;have hi':=Be.mp hi;simp only[Ai,hi',getElem?_pos,Hq];exact h _ (Cu hi')
theorem range_any_map(bs:List Bool):(Af bs.length).any (fun i=>bs.getD i false)=bs.any id:=by
 rw[Ay,Bp,Bp];constructor
 ·rintro⟨i,hi,h⟩;have hi':=Be.mp hi;simp only[Ai,hi',getElem?_pos,Hq] at h;exact⟨_,Cu hi',h⟩
 ·rintro⟨x,hx,h⟩;obtain⟨i,hi,e⟩:=Jh.mp hx;refine⟨i,Be.mpr hi,?_⟩;simp only[Ai,hi,getElem?_pos,Hq,e];exact h
section
variable{X:Cx}
theorem zfK{P:Ap}{w:Bd}{A:B5}{bs:List Bool}{its:List A2}(r:Vals (bs.map V.bl) its):TruthOf P w A (fun i v=>its[i]?=some v) (fun i=>bs.getD i false):=by
 intro i v s Q E hv q;obtain⟨x,hx,rx⟩:=zfH r hv;rw[Ad] at hx
 cases e:bs[i]? with
 |none=>rw[e] at hx;cases hx
 |some b=>
  rw[e] at hx
  cases hx
  cases(show v=Ih b from rx)
  refine D4 ?_;have eb:bs.getD i false=b:=by rw[Ai,e];rfl
  rw[<-eb];exact q
theorem zey(hc:X.calm=true):CallR X (.builtin "all") (fun xs H Q=>∃(a:A3)(bs:List Bool),xs=[V.ref a]/\SqL X.K H a (bs.map V.bl)/\Q (.bl (bs.all id)) H):=by
 intro pins s σ H xs us Q I r h;obtain⟨a,bs,rfl,hq,q⟩:=h;obtain⟨u,rfl,ru⟩:=zb2 r
 cases ru
 obtain⟨its,rv,p,hz⟩:=I.list hq;refine call_all_walk (zcB (A:=X.A.in1) (I.ok.hd hc) p.isList fun It s2 e2 eI W st hf old=>?_);have hl:bs.length=its.length:=by have:=rv.length;rwa[A4] at this
 refine⟨It,_,_,its.length,_,_,_,rfl,W,st,zfK rv,fun h' tk k=>?_⟩;subst e2;rw[<-hl,range_all_map];exact⟨.bl _,H,I.kept (t':=tk) (old h' k),rfl,q⟩
theorem call_any(hc:X.calm=true):CallR X (.builtin "any") (fun xs H Q=>∃(a:A3)(bs:List Bool),xs=[V.ref a]/\SqL X.K H a (bs.map V.bl)/\Q (.bl (bs.any id)) H):=by
 intro pins s σ H xs us Q I r h;obtain⟨a,bs,rfl,hq,q⟩:=h;obtain⟨u,rfl,ru⟩:=zb2 r
 cases ru
 obtain⟨its,rv,p,hz⟩:=I.list hq;refine call_any_walk (zcB (A:=X.A.in1) (I.ok.hd hc) p.isList fun It s2 e2 eI W st hf old=>?_);have hl:bs.length=its.length:=by have:=rv.length;rwa[A4] at this
 refine⟨It,_,_,its.length,_,_,_,rfl,W,st,zfK rv,fun h' tk k=>?_⟩;subst e2;rw[<-hl,range_any_map];exact⟨.bl _,H,I.kept (t':=tk) (old h' k),rfl,q⟩
theorem zdf:∀{ns:List Int}{its:List A2},Vals (ns.map V.int) its->Ds its ns
 |[],_,r=>by rw[Gw] at r;cases r;exact .nil
 |n::ns,_,r=>by
  rw[At] at r
  cases r with
  |cons h t=>
   obtain⟨tk,e⟩:=(show∃t,_=Hv n t from h);subst e;exact .cons n tk (zdf t)
theorem zep{ns:List Int}{its:List A2}(r:Vals (ns.map V.int) its){i:Nat}{v:A2}(h:its[i]?=some v):∃t,v= .int (ns.getD i 0) t:=by
 obtain⟨x,hx,rx⟩:=zfH r h;rw[Ad] at hx
 cases e:ns[i]? with
 |none=>rw[e] at hx;cases hx
 |some n=>
  rw[e] at hx
  cases hx
  have en:ns.getD i 0=n:=by rw[Ai,e];rfl
  rw[en];exact rx
theorem ze9(hc:X.calm=true):CallR X (.builtin "max") (fun xs H Q=>∃(a:A3)(ns:List Int),xs=[V.ref a]/\SqL X.K H a (ns.map V.int)/\0<ns.length/\∀M,M∈ns->(∀n∈ns,n<=M)->Q (.int M) H):=by
 intro pins s σ H xs us Q I r h;obtain⟨a,ns,rfl,hq,hne,q⟩:=h;obtain⟨u,rfl,ru⟩:=zb2 r
 cases ru
 obtain⟨its,rv,p,hz⟩:=I.list hq;have hl:ns.length=its.length:=by have:=rv.length;rwa[A4] at this
 refine call_max_walk (zcB (A:=X.A.in1) (I.ok.hd hc) p.isList fun It s2 e2 eI W st hf old=>?_);refine⟨It,_,_,its.length,_,_,_,rfl,W,st,hf,by omega,CmpOf.ints_gt (fun i=>ns.getD i 0) (fun _ _=>zep rv),fun v h' tk hv k=>?_⟩;subst e2;obtain⟨t,rfl⟩:=zep rv hv;obtain⟨h1,h2⟩:=argBest_gt (fun i=>ns.getD i 0) (its.length-1);refine⟨.int _,H,I.kept (t':=tk) (old h' k),⟨t,rfl⟩,q _ ?_ fun n hn=>?_⟩
 ·have hlt:argBest (fun i j=>decide (ns.getD i 0>ns.getD j 0)) (its.length-1)<ns.length:=by omega
  rw[Ai,A9 hlt];exact Cu hlt
 ·obtain⟨j,hj,e⟩:=Jh.mp hn;have:=h2 j (by omega);have ej:ns.getD j 0=n:=by
   rw[Ai,A9 hj,e];rfl
  rw[ej] at this;exact this
theorem zd4(ns:List Int):∀k,k<=ns.length->preSum (fun i=>ns.getD i 0) k=(ns.take k).sum
 |0,_=>rfl
 |k+1,h=>by
  have hk:k<ns.length:=by omega
  rw[preSum,zd4 ns k (by omega),zaz (x:=ns[k]) (by simp[hk]),L4];simp[Ai,hk]
theorem ze8(hc:X.calm=true):CallR X (.builtin "sum") (fun xs H Q=>∃(a:A3)(ns:List Int),xs=[V.ref a]/\SqL X.K H a (ns.map V.int)/\Q (.int ns.sum) H):=by
 intro pins s σ H xs us Q I r h;obtain⟨a,ns,rfl,hq,q⟩:=h;obtain⟨u,rfl,ru⟩:=zb2 r
 cases ru
 obtain⟨its,rv,p,hz⟩:=I.list hq;have hl:ns.length=its.length:=by have:=rv.length;rwa[A4] at this
 refine call_sum_walkG (zcB (A:=X.A.in1) (I.ok.hd hc) p.isList fun It s2 e2 eI W st hf old=>?_);refine⟨It,_,_,its.length,_,_,(fun i=>ns.getD i 0),rfl,W,st,hf,(fun _ _=>zep rv),fun h' tk t' k=>?_⟩;subst e2;refine⟨.int _,H,I.kept (t':=tk) (old h' k),⟨t',rfl⟩,?_⟩;rw[<-hl,zd4 ns _ (Ab _),By];exact q
noncomputable def many(ns:List Int):Nat:=(firstMet (fun i=>ns.getD i 0) ns.length).length
theorem call_set1(hc:X.calm=true):CallR X (.type "set") (fun xs H Q=>∃(a:A3)(ns:List Int),xs=[V.ref a]/\SqL X.K H a (ns.map V.int)/\ns.length+1<scanBound/\∀p,H p=none->Q (.ref p) (upd H p (.set (fun k=>(firstMet (fun i=>ns.getD i 0) ns.length).any (· ==k)) (many ns)))):=by
 intro pins s σ H xs us Q I r h;obtain⟨a,ns,rfl,hq,hb,q⟩:=h;obtain⟨u,rfl,ru⟩:=zb2 r
 cases ru
 obtain⟨its,rv,p,hz⟩:=I.list hq;have hl:ns.length=its.length:=by have:=rv.length;rwa[A4] at this
 have hsz:its.toArray.size=ns.length:=by rw[Bg,hl]
 refine call_set_list (items:=its.toArray) (ns:=ns) (I.ok.hd hc) p.isList (by simpa using zdf rv) (by rw[hsz];exact hb) fun h' tk hS k=>?_;rw[hsz] at hS;have I':Inv X pins σ (upd H s.heap.objs.size (.set (fun k=>(firstMet (fun i=>ns.getD i 0) ns.length).any (· ==k)) (many ns))) {s with heap:=h',toks:=tk}:=
  I.laid (fun b o e=>k b o (An e) e) (Ab _) hS
 exact⟨.ref _,_,I',rfl,q _ (I.hok.fresh (Ab _))⟩
theorem call_lenS:CallR X (.builtin "len") (fun xs H Q=>∃a S n,xs=[V.ref a]/\H a=some (.set S n)/\Q (.int n) H):=by
 intro pins s σ H xs us Q I r h;obtain⟨a,S,n,rfl,hq,q⟩:=h;obtain⟨u,rfl,ru⟩:=zb2 r
 cases ru
 obtain⟨o,es,ep,t,h1,h2,h3,h4,h5,h6,h7,h8⟩:=(show s.heap.SetOf (intKind X.prog X.w) a S n from I.hok a _ hq);have hfit:(es.size:Int)<2 ^ 63:=by
  have:(es.size:Int)<4096:=by unfold scanBound at h6;omega
  exact Int.lt_of_lt_of_le this (by decide)
 exact call_len_set h1 h2 h3 h7 hfit ⟨.int n,H,I.tok _,⟨_,by rw[h8]⟩,q⟩
theorem zeP:OpR X (compareOp .LtE) (fun x y H Q=>∃i j,x= .str i/\y= .str j/\Q (.bl (!decide (j.cps.toList<i.cps.toList))) H):=by
 intro pins s σ H x y v u Q I rx ry h;obtain⟨i,j,rfl,rfl,q⟩:=h;obtain⟨t,rfl⟩:=rx;obtain⟨t',rfl⟩:=ry;exact PySem.P.le_str (zaI I q rfl)
theorem call_isi{c:A2}{cv:V}(hcv:RelV cv c)(huniq:∀u,RelV cv u->u=c):CallR X (.builtin "isinstance") (fun xs H Q=>∃x t b,xs=[x,cv]/\TyOf X.K H x t/\Fs X.K t c=some b/\Q (.bl b) H):=by
 intro pins s σ H xs us Q I r h;obtain⟨x,t,b,rfl,ty,e,q⟩:=h;obtain⟨u,u',rfl,ru,ru'⟩:=zhN r;have:=huniq u' ru';subst this;exact isinst_ok I ru ty e fun tk=>⟨.bl b,H,I.tok _,rfl,q⟩
theorem zbr(T:String):CallR X (.builtin "isinstance") (fun xs H Q=>∃x t b,xs=[x,.ty T]/\TyOf X.K H x t/\Fs X.K t (.type T)=some b/\Q (.bl b) H):=call_isi (c:=.type T) (cv:=.ty T) rfl fun _ h=>h
end
section
variable{X:Cx}
noncomputable def tCut(t u:TS):TS:=fun D σ H=>∃M:St->Hp->Prop,t {D with nx:=M} σ H/\∀σ' H',M σ' H'->u D σ' H'
theorem zcp{st:Ca}{rest:List Ca}{t u:TS}(h1:PS X st t)(h2:PSs X rest u):PSs X (st::rest) (tCut t u):=by
 intro pins s σ H D I h;obtain⟨M,h,hM⟩:=h;refine Lj (thn (h1 pins s σ H {D with nx:=M} I h) fun f s1 q=>?_)
 cases f with
 |next=>
  obtain⟨σ',H',I',q⟩:=q;exact h2 pins s1 σ' H' D I' (hM σ' H' q)
 |ret v=>exact q
 |brk=>exact q
 |cont=>exact q
theorem zaS{scope:Fh}{N:List Str}{cl:List (Str×A3)}{C:A3}{s:A5}{H:Hp}{fp:List A3}{pn:List (A3×Obj)}(h:N.Nodup):(cxComp X scope N cl C s H fp pn).N.Nodup:=h
theorem zbN{x:Str}{i:Int}{pos:Pos}(hg:Gl X x)(hm:∃t,X.mg x=some (.int i t))(hd:(x==("__debug__":Str))=false:=by decide):PE X (.Name x pos) (tC (.int i)):=by
 obtain⟨t,hm⟩:=hm;exact zgQ hg hm ⟨t,rfl⟩ hd
end
theorem ln1{P:List A2->Prop}{p:Str}(h:∀a,P [a]):∀us:List A2,us.length=[p].length->P us
 |[a],_=>h a
theorem ln2{P:List A2->Prop}{p q:Str}(h:∀a b,P [a,b]):∀us:List A2,us.length=[p,q].length->P us
 |[a,b],_=>h a b
theorem ln3{P:List A2->Prop}{p q r:Str}(h:∀a b c,P [a,b,c]):∀us:List A2,us.length=[p,q,r].length->P us
 |[a,b,c],_=>h a b c
theorem ln4{P:List A2->Prop}{p q r s:Str}(h:∀a b c d,P [a,b,c,d]):∀us:List A2,us.length=[p,q,r,s].length->P us
 |[a,b,c,d],_=>h a b c d
structure Callee(P:Ap)(w:Bd)(K:Am)(mg:Str->Option A2)(base:Bx)(x:Str)(k:Nat)(ps:List Str)(sp:Sp):Prop where
 ex:∃f fd,FnOk P w K mg base CX0 k f fd ps sp/\mg x=some (.ref f)/\D0 K (.ref f)=true/\Binds K fd ps []/\∃o,K.lookup f=some o/\o.data= .func fd
structure DefAt(K:Am)(mg:Str->Option A2)(x:Str)(st:Ca):Prop where
 ex:∃f fd,Fun K x x st f fd/\mg x=some (.ref f)
theorem def_mk{K:Am}{mg:Str->Option A2}{h:Bx}{x:Str}{st:Ca}{f:A3}{oc:A2}{od an:Option A3}{osl:Array (Option A2)}{kV doc pm cdv ct:A2}(X:K.In h)(G:h.Ns mainGlobals mg)
  (a:C2 K mainGlobals x=some (some (.ref f)))
  (l:K.lookup f=some ⟨oc,od,.func (Ck x x (defArgs st) (defBody st) (defScope st) .none kV doc pm an cdv ct),osl⟩)
  (c:Fa K cdv x=true) (k:D0 K (.ref f)=true):DefAt K mg x st:=⟨f,_,zg8 l c k,L8 X G a⟩
theorem int_mk{K:Am}{mg:Str->Option A2}{h:Bx}{x:Str}{i:Int}{t:Tok}(X:K.In h)(G:h.Ns mainGlobals mg)(a:C2 K mainGlobals x=some (some (.int i t))):∃t,mg x=some (.int i t):=⟨t,L8 X G a⟩
section
variable{P:Ap}{w:Bd}{K:Am}{mg:Str->Option A2}{base:Bx}
theorem DefAt.callee{x:Str}{st:Ca}{N ps:List Str}{k:Nat}{sp:Sp}(D:DefAt K mg x st)(S:FnScope N ps (defScope st))
  (hb:∀(kV doc pm:A2)(an:Option A3)(cdv ct:A2)(us:List A2),us.length=ps.length->bindArgs (Ck x x (defArgs st) (defBody st) (defScope st) .none kV doc pm an cdv ct) ⟨us,[]⟩=pure (ps.zip us))
  (len:∀vs H Q E,sp vs H Q E->vs.length=ps.length)
  (hbody:∀(f:A3)(cdv:A2)(A:B5)(outer:List Env)(s:A5)(H:Hp)(vs:List V)(Q:VK)(E:XK),Room k (A.deeper (envOfC x (defScope st) s.heap.objs.size f cdv))->sp vs H Q E->
   ∃t,PSs (cxOf CX0 P w K mg base N x (defScope st) f cdv A outer s H E).nox (defBody st) t/\t {nx:=fun _ H'=>Q .non H',rt:=Q} (start N vs) H):Callee P w K mg base x (k+1) ps sp:=by
 obtain⟨f,fd,F,m⟩:=D.ex;obtain⟨oc,od,kV,doc,pm,an,cdv,ct,osl,e,lk,hcd⟩:=id F.ex;exact⟨f,fd,F.ok S len (fun cdv A outer s H vs Q E hr h=>hbody f cdv A outer s H vs Q E hr h),m,F.kp,F.binds hb,_,lk,rfl⟩
end
section
variable{X:Cx}{x:Str}{k:Nat}{ps:List Str}{sp:Sp}{p pos:Pos}{e:Cb}{es:List Cb}{t:TA}
theorem zaA(C:Callee X.prog X.w X.K X.mg X.base x k ps sp)(hr:Room k X.A)(hg:Gl X x)(ha:PA X (e::es) t)(hdb:(x==("__debug__":Str))=false:=by decide)
  (he:starEach (e::es) X.env=(false,eval e X.env)::starEach es X.env:=by rfl) (hpl:(backTo pos (starEach es X.env)).any (·.1)=false:=by rfl):PE X (.Call (.Name x p) (e::es) [] pos) (tCall sp [] E0 t):=by
 obtain⟨f,fd,F,hm,hk,hb,_⟩:=C.ex;exact zgR F hr hg hm hk hb .nil zeN ha hdb he hpl
end
structure Bn(mg:Str->Option A2):Prop where
 n_len:mg "len"=none
 n_all:mg "all"=none
 n_any:mg "any"=none
 n_max:mg "max"=none
 n_min:mg "min"=none
 n_sum:mg "sum"=none
 n_sorted:mg "sorted"=none
 n_isinstance:mg "isinstance"=none
 n_int:mg "int"=none
 n_bool:mg "bool"=none
 n_str:mg "str"=none
 n_list:mg "list"=none
 n_tuple:mg "tuple"=none
 n_dict:mg "dict"=none
 n_set:mg "set"=none
 n_range:mg "range"=none
 n_reversed:mg "reversed"=none
 n_repr:mg "repr"=none
 n_abs:mg "abs"=none
 n_enumerate:mg "enumerate"=none
 n_zip:mg "zip"=none
theorem bn_mk{K:Am}{mg:Str->Option A2}{h:Bx}(X:K.In h)(G:h.Ns mainGlobals mg)
  (a_len:C2 K mainGlobals "len"=some none)
  (a_all:C2 K mainGlobals "all"=some none)
  (a_any:C2 K mainGlobals "any"=some none)
  (a_max:C2 K mainGlobals "max"=some none)
  (a_min:C2 K mainGlobals "min"=some none)
  (a_sum:C2 K mainGlobals "sum"=some none)
  (a_sorted:C2 K mainGlobals "sorted"=some none)
  (a_isinstance:C2 K mainGlobals "isinstance"=some none)
  (a_int:C2 K mainGlobals "int"=some none)
  (a_bool:C2 K mainGlobals "bool"=some none)
  (a_str:C2 K mainGlobals "str"=some none)
  (a_list:C2 K mainGlobals "list"=some none)
  (a_tuple:C2 K mainGlobals "tuple"=some none)
  (a_dict:C2 K mainGlobals "dict"=some none)
  (a_set:C2 K mainGlobals "set"=some none)
  (a_range:C2 K mainGlobals "range"=some none)
  (a_reversed:C2 K mainGlobals "reversed"=some none)
  (a_repr:C2 K mainGlobals "repr"=some none)
  (a_abs:C2 K mainGlobals "abs"=some none)
  (a_enumerate:C2 K mainGlobals "enumerate"=some none)
  (a_zip:C2 K mainGlobals "zip"=some none)
  :Bn mg:=⟨Bh X G a_len,Bh X G a_all,Bh X G a_any,Bh X G a_max,Bh X G a_min,Bh X G a_sum,Bh X G a_sorted,Bh X G a_isinstance,Bh X G a_int,Bh X G a_bool,Bh X G a_str,Bh X G a_list,Bh X G a_tuple,Bh X G a_dict,Bh X G a_set,Bh X G a_range,Bh X G a_reversed,Bh X G a_repr,Bh X G a_abs,Bh X G a_enumerate,Bh X G a_zip⟩
theorem DefAt.entry{P:Ap}{w:Bd}{K:Am}{mg:Str->Option A2}{x p:Str}{st:Ca}{k:Nat}{sp:Sp}{fa:A3}(D:DefAt K mg x st)(hfa:mg x=some (.ref fa))
  (hb:∀(kV doc pm:A2)(an:Option A3)(cdv ct v:A2),bindArgs (Ck x x (defArgs st) (defBody st) (defScope st) .none kV doc pm an cdv ct) ⟨[v],[]⟩=pure [(p,v)])
  (C:∀base:Bx,Callee P w K mg base x k [p] sp):
  ∃fd:Ef,(∀(s:A5)(v:A2),Kf s fd ⟨[v],[]⟩ [(p,v)])/\∀base:Bx,K.In base->base.Ns mainGlobals mg->FnOk P w K mg base CX0 k fa fd [p] sp:=by
 obtain⟨f,fd,F,m⟩:=D.ex;rw[m] at hfa
 cases hfa
 obtain⟨oc,od,kV,doc,pm,an,cdv,ct,osl,rfl,lk,hcd⟩:=F.ex;refine⟨_,fun s v=>.of_eq (hb kV doc pm an cdv ct v),fun base _ _=>?_⟩;obtain⟨f',fd',G,m',_,_,o,lo,ed⟩:=(C base).ex;rw[m] at m'
 cases m'
 rw[lk] at lo
 cases lo
 cases ed
 exact G
structure Fly(B:Bx)(l:List Env)(x:A3)(c fl:A2)(h:Bx):Prop where
 stay:B.StaysIn h
 new:B.get? x=none
 frs:h.FunFrames B l
 obj:∃(oe:Obj)(vs:Array A2)(T:A3)(oT:Obj)(ts:Array A2),h.get? x=some oe/\(oe.cls=c/\oe.dict=none)/\oe.data= .fields vs/\vs[1]?=some (.ref T)/\vs[2]?=some .none/\B.get? T=none/\T≠x/\h.get? T=some oT/\oT.data= .fields ts/\ts[3]?=some fl
structure Fresh(B:Bx)(l:List Env)(x:A3)(c:A2)(h:Bx):Prop where
 stay:B.StaysIn h
 new:B.get? x=none
 frs:h.FunFrames B l
 obj:∃(oe:Obj)(vs:Array A2),h.get? x=some oe/\(oe.cls=c/\oe.dict=none)/\oe.data= .fields vs/\vs[1]?=some .none/\vs[2]?=some .none
section
variable{M:Hk}{A:B5}{E:A2->A5->Prop}{s:A5}{B:Bx}{l outer:List Env}{env:Env}{x L:A3}{c:A2}
theorem dict_mapFields(o:Obj)(f:Array A2->Array A2):(o.mapFields f).dict=o.dict:=by
 unfold F8
 split<;>rfl
theorem zaM{h:Bx}{a b:A3}{o:Obj}{vs:Array A2}{f:Array A2->Array A2}(ha:h.get? a=some o)(hd:o.data= .fields vs):
  (h.update a (F8 f)).get? a=some (o.mapFields f)/\(b≠a->(h.update a (F8 f)).get? b=h.get? b):=
 ⟨Gh _ ha (N6 (Ft hd f)),fun hb=>G3 _ _ (Dz hb)⟩
theorem ze3{oe:Obj}{vs:Array A2}{head:A2}{hadNext:Bool}{Q:Unit->A5->Prop}(hfr:A.frames=some (env::outer))(hl:s.heap.FunFrames B (env::outer))(hf:env.frame=some L)
  (st:B.StaysIn s.heap) (nx:B.get? x=none) (hx:s.heap.get? x=some oe) (hc:oe.cls=c/\oe.dict=none) (hd:oe.data= .fields vs) (h2:vs[2]?=some .none)
  (k:∀h',Fly B (env::outer) x c (rawInt L) h'->s.heap.UpToSlots h'->Q () {s with heap:=h'}):
  wpAny M A (do let a<-frameOf env;let pl<-entryPlaceOf L hadNext;let b<-Lq head a .none (rawInt L) .none pl;setField (.ref x) 1 b) Q E s:=by
 have hsz:2<vs.size:=(Hc.mp h2).1;have xnf:x∉(env::outer).filterMap (·.frame):=fun hm=>by
  obtain⟨_,o,ho,hno⟩:=hl.mem hm;rw[hx] at ho
  cases ho
  exact hno vs hd
 refine A1 (wpAny_frameOf_fun hfr hl hf fun g1 so=>A1 (wpAny_entryPlaceOf fun pl hpl=>?_));unfold Lq newFields;refine A1 (El ?_ (hpl.sizeOk5 _ _ _ _ _));have hx1:g1.get? x=some oe:=(so.2.1 x xnf).trans hx;have st1:B.StaysIn g1:=fun b o hb=>by
  refine(so.2.1 b fun hm=>?_).trans (st b o hb);have:=(hl.mem hm).1;rw[hb] at this
  cases this
 have big:x<g1.objs.size:=An hx1;generalize hnew:({cls:=.type "traceback",dict:=none,data:=.fields ([head,.ref L,.none,rawInt L,.none]++(if pl.isEmpty then Br 6 Dw else pl)).toArray}:Obj)=tb;have hx2:(g1.push tb).get? x=some oe:=A8 tb hx1;refine Hs hx2 hd (by omega) (k _ ?_ ?_)
 ·have tx:g1.objs.size≠x:=Kl big;obtain⟨e1,e2⟩:=zaM (b:=g1.objs.size) (f:=fun a=>a.setIfInBounds 1 (B1 g1.objs.size)) hx2 hd;have hT:(g1.push tb).get? g1.objs.size=some tb:=Aw g1 (by rw[<-hnew];rfl);refine⟨fun b o hb=>?_,nx,hl.of_keeps fun b o hb hno=>?_,_,_,g1.objs.size,tb,_,e1,⟨(Oj _ _).trans hc.1,(dict_mapFields _ _).trans hc.2⟩,Ft hd _,(by show(vs.setIfInBounds 1 (B1 g1.objs.size))[1]?=_;simp[show 1<vs.size by omega]),?_,st1.fresh,tx,(e2 tx).trans hT,by rw[<-hnew],?_⟩
  ·obtain⟨_,e3⟩:=zaM (b:=b) (f:=fun a=>a.setIfInBounds 1 (B1 g1.objs.size)) hx2 hd;refine(e3 fun z=>?_).trans (A8 tb (st1 b o hb));rw[z,nx] at hb
   cases hb
  ·have bx:b≠x:=fun z=>by
    rw[z,hx] at hb
    cases hb
    exact hno vs hd
   obtain⟨sl,hs⟩:=so.2.2 b o hb;obtain⟨_,e3⟩:=zaM (b:=b) (f:=fun a=>a.setIfInBounds 1 (B1 g1.objs.size)) hx2 hd;exact⟨_,(e3 bx).trans (A8 tb hs),rfl⟩
  ·rw[Array.getElem?_setIfInBounds_ne (by decide)];exact h2
  ·rcases hpl with rfl|⟨_,_,_,_,_,_,_,rfl⟩<;>rfl
 ·intro b o hb hno;have bx:b≠x:=fun z=>by
   rw[z,hx] at hb
   cases hb
   exact hno vs hd
  obtain⟨sl,hs⟩:=so.2.2 b o hb;obtain⟨_,e3⟩:=zaM (b:=b) (f:=fun a=>a.setIfInBounds 1 (B1 g1.objs.size)) hx2 hd;exact⟨sl,(e3 bx).trans (A8 tb hs)⟩
theorem zdh{fl:A2}{Q:Unit->A5->Prop}(F:Fly B l x c fl s.heap)(k:∀h',Fly B l x c .none h'->s.heap.UpToSlots h'->Q () {s with heap:=h'}):wpAny M A (setFlight (.ref x) none) Q E s:=by
 obtain⟨oe,vs,T,oT,ts,hx,hc,hd,h1,h2,nT,tx,hT,dT,h3⟩:=F.obj;have hsz:3<ts.size:=(Hc.mp h3).1;unfold setFlight;refine A1 (Ga hx hd h1 ?_);rw[if_pos (by simp)];refine Hs hT dT hsz (k _ ?_ ?_)
 ·have e:∀b,b≠T->(s.heap.update T (F8 (·.setIfInBounds 3 ((none:Option A3).elim Dw fun f=>rawInt f)))).get? b=s.heap.get? b:=fun b hb=>(zaM hT dT).2 hb;refine⟨fun b o hb=>(e b fun z=>?_).trans (F.stay b o hb),F.new,F.frs.of_keeps fun b o hb hno=>⟨o,(e b fun z=>?_).trans hb,rfl⟩,oe,vs,T,_,_,(e x (Dz tx)).trans hx,hc,hd,h1,h2,nT,tx,(zaM (b:=T) hT dT).1,Ft dT _,by simp[hsz]⟩
  ·rw[z,nT] at hb;cases hb
  ·rw[z,hT] at hb;cases hb;exact hno ts dT
 ·intro b o hb hno;refine⟨o.slots,((zaM hT dT).2 fun z=>?_).trans hb⟩;rw[z,hT] at hb;cases hb;exact hno ts dT
theorem zgg{Q:Unit->A5->Prop}(hfr:A.frames=some (env::outer))(hf:env.frame=some L)(F:Fly B (env::outer) x c .none s.heap)
  (k:∀h',Fly B (env::outer) x c (rawInt L) h'->s.heap.UpToSlots h'->Q () {s with heap:=h'}):wpAny M A (noteFrame (.ref x) env) Q E s:=by
 obtain⟨oe,vs,T,oT,ts,hx,hc,hd,h1,h2,nT,tx,hT,dT,h3⟩:=F.obj;have hsz:3<ts.size:=(Hc.mp h3).1;unfold noteFrame;simp only[hf];refine A1 (Ga hx hd h1 ?_);rw[if_pos (by simp)];refine A1 (Ga hT dT h3 ?_);rw[if_neg (by simp[rawInt])];refine A1 (Hs hT dT hsz ?_);have e:∀b,b≠T->(s.heap.update T (F8 (·.setIfInBounds 3 Dw))).get? b=s.heap.get? b:=fun b hb=>(zaM hT dT).2 hb;have nf:∀b o,s.heap.get? b=some o->(∀vs,o.data≠.fields vs)->b≠T:=fun b o hb hno z=>by
  rw[z,hT] at hb;cases hb;exact hno ts dT
 refine ze3 hfr (F.frs.of_keeps fun b o hb hno=>⟨o,(e b (nf b o hb hno)).trans hb,rfl⟩) hf (fun b o hb=>(e b fun z=>?_).trans (F.stay b o hb)) F.new ((e x (Dz tx)).trans hx) hc hd h2 fun h' F' u=>k h' F' fun b o hb hno=>?_
 ·rw[z,nT] at hb;cases hb
 ·exact u b o ((e b (nf b o hb hno)).trans hb) hno
theorem fresh_note{Q:Unit->A5->Prop}(hfr:A.frames=some (env::outer))(hf:env.frame=some L)(F:Fresh B (env::outer) x c s.heap)
  (k:∀h',Fly B (env::outer) x c (rawInt L) h'->s.heap.UpToSlots h'->Q () {s with heap:=h'}):wpAny M A (noteFrame (.ref x) env) Q E s:=by
 obtain⟨oe,vs,hx,hc,hd,h1,h2⟩:=F.obj;unfold noteFrame;simp only[hf];refine A1 (Ga hx hd h1 ?_);rw[if_neg (by decide)];exact ze3 hfr F.frs hf F.stay F.new hx hc hd h2 k
theorem Fly.tail{fl:A2}{h:Bx}(F:Fly B (env::outer) x c fl h):Fly B outer x c fl h:=⟨F.stay,F.new,F.frs.2.2,F.obj⟩
theorem fly_leave{Q:Unit->A5->Prop}(hfr:A.frames=some (env::outer))(hf:env.frame=some L)(F:Fly B (env::outer) x c .none s.heap)
  (k:∀h',Fly B outer x c .none h'->s.heap.UpToSlots h'->Q () {s with heap:=h'}):wpAny M A (leaving env (.ref x)) Q E s:=by
 unfold leaving;exact A1 (zgg hfr hf F fun h1 F1 u1=>zdh (s:={s with heap:=h1}) F1 fun h2 F2 u2=>k h2 F2.tail (u1.trans u2))
theorem fresh_leave{Q:Unit->A5->Prop}(hfr:A.frames=some (env::outer))(hf:env.frame=some L)(F:Fresh B (env::outer) x c s.heap)
  (k:∀h',Fly B outer x c .none h'->s.heap.UpToSlots h'->Q () {s with heap:=h'}):wpAny M A (leaving env (.ref x)) Q E s:=by
 unfold leaving;exact A1 (fresh_note hfr hf F fun h1 F1 u1=>zdh (s:={s with heap:=h1}) F1 fun h2 F2 u2=>k h2 F2.tail (u1.trans u2))
end
section
variable{P:Ap}{w:Bd}
theorem ObjOk.there{H:Hp}{h:Bx}{a:A3}{o:HO}(x:ObjOk P w H h a o):∃ob,h.get? a=some ob:=by
 cases o with
 |lst xs=>obtain⟨_,_,_,_,e⟩:=x;exact⟨_,e⟩
 |tup xs=>obtain⟨_,_,_,o,e,_⟩:=x;exact⟨o,e⟩
 |dK kvs=>obtain⟨_,_,_,_,o,_,_,e,_⟩:=x;exact⟨o,e⟩
 |dT kvs=>obtain⟨_,_,_,_,o,_,_,e,_⟩:=x;exact⟨o,e⟩
 |set S n=>obtain⟨o,_,_,_,e,_⟩:=x;exact⟨o,e⟩
 |ins C dx fs=>obtain⟨_,_,_,e,_⟩:=x;exact⟨_,e⟩
 |own y=>exact x
 |xd fs=>obtain⟨_,⟨o,_,_,e,_⟩,_⟩:=x;exact⟨o,e⟩
 |rng lo hi=>obtain⟨_,_,_,e⟩:=x;exact⟨_,e⟩
 |frz ob u=>obtain⟨e,_⟩:=x;exact⟨_,e⟩
 |tbl ps=>exact⟨_,(show h.get? a=some _ from x)⟩
 |met f y=>exact⟨_,(show h.get? a=some _ from x)⟩
 |ext φ=>obtain⟨_,e,_⟩:=x;exact e
noncomputable def CX1(P:Ap)(w:Bd):CXT:=fun outer H s E e s'=>∃(x:A3)(c:A2)(B:Bx)(H':Hp),e= .ref x/\Fly B outer x c .none s'.heap/\s'.os=s.os/\Gy s'.gens/\Un (frs outer) [] H H' s.heap s'.heap/\HOk P w H' s'.heap/\H' x=none/\
 (∀b o,H' b=some o->∃ob,B.get? b=some ob)/\(∀b o,s.heap.get? b=some o->b∉frs outer->∃ob,B.get? b=some ob)/\E c none H'
theorem zfz{B h h':Bx}{H:Hp}(ok:HOk P w H h)(st:B.StaysIn h)(st':B.StaysIn h')(inB:∀b o,H b=some o->∃ob,B.get? b=some ob):HOk P w H h':=fun a o e=>by
 refine(ok a o e).stay (fun b u hb q=>?_) (fun _ q=>q) fun _ _ q=>q;have⟨ob,hB⟩:∃ob,B.get? b=some ob:=by
  rcases hb with z|z
  ·rw[z];exact inB a o e
  ·exact inB b _ z
 have:=st b ob hB;rw[q] at this
 cases this
 exact st' b _ hB
theorem zha{B h0 h h':Bx}{fs:List A3}{H H':Hp}(u:Un fs [] H H' h0 h)(st:B.StaysIn h)(st':B.StaysIn h')(up:h.UpToSlots h')(inB:∀b o,h0.get? b=some o->b∉fs->∃ob,B.get? b=some ob)
  (hfs:∀b∈fs,∀o,h.get? b=some o->∀vs,o.data≠.fields vs):Un fs [] H H' h0 h' where
 keep:=fun b o e n hb hx=>by
  obtain⟨ob,hB⟩:=inB b o e hb;have q:=u.keep b o e n hb hx;have:=st b ob hB;rw[q] at this
  cases this
  exact st' b _ hB
 slot:=fun b o e n hb hx=>by
  obtain⟨sl,q⟩:=u.slot b o e n hb hx;obtain⟨sl',q'⟩:=up b _ q (hfs b hb _ q);exact⟨sl',q'⟩
 free:=u.free
 there:=fun b o e hx=>by
  by_cases hb:b∈fs
  ·obtain⟨o',q⟩:=u.there b o e hx;obtain⟨sl,q'⟩:=up b o' q (hfs b hb o' q);exact⟨_,q'⟩
  ·obtain⟨ob,hB⟩:=inB b o e hb;exact⟨ob,st' b ob hB⟩
 tups:=u.tups
 frzs:=u.frzs
 tbls:=u.tbls
theorem zdi{B h:Bx}{l:List Env}(f:h.FunFrames B l):∀b∈frs l,∀o,h.get? b=some o->∀vs,o.data≠.fields vs:=fun b hb o e vs=>by
 obtain⟨_,o',e',hno⟩:=f.mem hb;rw[e] at e'
 cases e'
 exact hno vs
theorem zdR{X:Cx}{pins:List (A3×Obj)}{σ:St}{H H':Hp}{s:A5}{h':Bx}(I:Inv X pins σ H s)(hex:X.ex=[])(u:Un (frs X.stack) [] H H' s.heap h'):Un X.fs [] X.H₀ H' X.s₀.heap h':=by
 have nl:∀b o,X.s₀.heap.get? b=some o->b≠X.env.locals:=fun b o e=>B8 (Ah (An e) I.ok.above);have nst:∀b o,X.s₀.heap.get? b=some o->b∉X.fs->b∉frs X.stack:=fun b o e hb z=>(Ba.mp (I.stkSub b z)).elim (nl b o e) hb;have B:=I.base;rw[hex] at B;refine⟨fun b o e n hb hx=>u.keep b o (B.keep b o e n hb hx) (B.free b o e n hx) (nst b o e hb) hx,fun b o e n hb hx=>?_,fun b o e n hx=>?_,fun b o e hx=>?_,fun b xs e=>u.tups b xs (B.tups b xs e),fun b o v e=>u.frzs b o v (B.frzs b o v e),fun b ps e=>?_⟩
 ·obtain⟨sl,e1⟩:=B.slot b o e n hb hx;obtain⟨sl',e2⟩:=u.any e1 (B.free b o e n hx) hx;exact⟨sl',e2⟩
 ·obtain⟨o',e1⟩:=B.there b o e hx;exact u.free b o' e1 (B.free b o e n hx) hx
 ·obtain⟨o',e1⟩:=B.there b o e hx;exact u.there b o' e1 hx
 ·obtain⟨m1,e1⟩:=B.tbls b ps e;obtain⟨m2,e2⟩:=u.tbls b _ e1;exact⟨m1++m2,by rw[e2,Jz]⟩
theorem zbP{K:Am}{mg:Str->Option A2}{base:Bx}{N:List Str}{qual:Str}{scope:Fh}{f:A3}{cd:A2}{A:B5}{outer:List Env}{s₀:A5}{H₀:Hp}{E:XK}:
  Passes (CX1 P w) (cxOf (CX1 P w) P w K mg base N qual scope f cd A outer s₀ H₀ E) E:=by
 intro pins σ H s e s' I h;obtain⟨x,c,B,H',rfl,F,ho,hg,u,ok,nx,inB,old,q⟩:=h;have hfr:(A.deeper (envOfC qual scope s₀.heap.objs.size f cd)).frames=some (envOfC qual scope s₀.heap.objs.size f cd::outer):=I.ok.frames;have ut:Un (frs outer) [] H₀ H' s₀.heap s'.heap:=zdR I rfl u;have old':∀b o,s₀.heap.get? b=some o->b∉frs outer->∃ob,B.get? b=some ob:=fun b o e hb=>by
  obtain⟨o',e1⟩:=I.base.there b o e (by show b∉([]:List A3);simp);refine old b o' e1 fun z=>?_;rcases Ba.mp (I.stkSub b z) with z|z
  ·exact absurd (Ah (An e) I.ok.above) (by rw[z];exact Dt _)
  ·exact hb z
 show wpAny (model P w) _ (leaving _ (.ref x)) _ _ s';refine fly_leave hfr rfl F fun h' F' up=>⟨x,c,B,H',rfl,F',(show s'.os=s₀.os from ho.trans I.os),hg,zha ut F.stay F'.stay up old' (zdi F.tail.frs),zfz ok F.stay F'.stay inB,nx,inB,old',q⟩
theorem pass_no{X:Cx}{E:XK}(hE:∀c d H,¬E c d H):Passes (CX1 P w) X E:=fun _ _ _ _ _ _ _ h=>by
 obtain⟨_,_,_,_,_,_,_,_,_,_,_,_,_,q⟩:=h;exact(hE _ _ _ q).elim
theorem zaQ{X:Cx}:Passes (CX1 P w) X E0:=pass_no fun _ _ _ h=>h
theorem raise_out{K:Am}{mg:Str->Option A2}{base:Bx}{N:List Str}{qual:Str}{scope:Fh}{f:A3}{cd:A2}{A:B5}{outer:List Env}{s₀:A5}{H₀:Hp}{E:XK}{pins:List (A3×Obj)}{σ:St}{H:Hp}{s s':A5}{x:A3}{c:A2}{args:List A2}
  (I:Inv (cxOf (CX1 P w) P w K mg base N qual scope f cd A outer s₀ H₀ E) pins σ H s) (hx:Heap.MadeExcOf s.heap s'.heap x c args) (ho:s'.os=s.os) (hg:Gy s'.gens) (q:E c none H):
  (cxOf (CX1 P w) P w K mg base N qual scope f cd A outer s₀ H₀ E).xe (.ref x) s':=by
 have hfr:(A.deeper (envOfC qual scope s₀.heap.objs.size f cd)).frames=some (envOfC qual scope s₀.heap.objs.size f cd::outer):=I.ok.frames;have hin:∀env∈envOfC qual scope s₀.heap.objs.size f cd::outer,∀a,env.frame=some a->a∈frs (envOfC qual scope s₀.heap.objs.size f cd::outer):=fun env he a ha=>Ew.mpr ⟨env,he,ha⟩;have st:(Dv s.heap (frs (envOfC qual scope s₀.heap.objs.size f cd::outer))).StaysIn s'.heap:=fun b o e=>hx.keeps b o (Jk _ e);have nx:(Dv s.heap (frs (envOfC qual scope s₀.heap.objs.size f cd::outer))).get? x=none:=by
  cases e:(Dv s.heap (frs (envOfC qual scope s₀.heap.objs.size f cd::outer))).get? x with
  |none=>rfl
  |some o=>
   have:=Jk _ e;rw[hx.new] at this
   cases this
 have fr0:s.heap.FunFrames (Dv s.heap (frs (envOfC qual scope s₀.heap.objs.size f cd::outer))) (envOfC qual scope s₀.heap.objs.size f cd::outer):=PySem.W.funFrames_hide I.stack hin;obtain⟨t,hobj,_,_⟩:=hx.there;have F:Fresh (Dv s.heap (frs (envOfC qual scope s₀.heap.objs.size f cd::outer))) (envOfC qual scope s₀.heap.objs.size f cd::outer) x c s'.heap:=
  ⟨st,nx,fr0.of_keeps fun b o hb _=>⟨o,hx.keeps b o hb,rfl⟩,_,_,hobj,⟨rfl,rfl⟩,rfl,rfl,rfl⟩
 have inB:∀b o,s.heap.get? b=some o->b∉frs (envOfC qual scope s₀.heap.objs.size f cd::outer)->∃ob,(Dv s.heap (frs (envOfC qual scope s₀.heap.objs.size f cd::outer))).get? b=some ob:=fun b o e hb=>⟨o,Mc _ e hb⟩;have trk:∀b o,H b=some o->∃ob,(Dv s.heap (frs (envOfC qual scope s₀.heap.objs.size f cd::outer))).get? b=some ob:=fun b o e=>by
  have lt:=I.hok.lt e
  cases e2:s.heap.get? b with
  |none=>
   exfalso;have ok:=I.hok b o e;obtain⟨ob,hob⟩:=ok.there;rw[e2] at hob
   cases hob
  |some ob=>
   refine inB b ob e2 fun z=>?_;have:=I.stkFree b z;rw[e] at this
   cases this
 have old:∀b o,s₀.heap.get? b=some o->b∉frs outer->∃ob,(Dv s.heap (frs (envOfC qual scope s₀.heap.objs.size f cd::outer))).get? b=some ob:=fun b o e hb=>by
  obtain⟨o',e1⟩:=I.base.there b o e (by show b∉([]:List A3);simp);refine inB b o' e1 fun z=>?_;rcases Ba.mp (I.stkSub b z) with z|z
  ·exact absurd (Ah (An e) I.ok.above) (by rw[z];exact Dt _)
  ·exact hb z
 have u0:Un (frs outer) [] H₀ H s₀.heap s.heap:=zdR I rfl Un.refl;have u1:Un (frs outer) [] H₀ H s₀.heap s'.heap:=u0.trans (Un.kept hx.keeps);have ok1:HOk P w H s'.heap:=I.hok.kept hx.keeps;have nxH:H x=none:=by
  cases e:H x with
  |none=>rfl
  |some o=>
   obtain⟨ob,hob⟩:=(I.hok x o e).there;rw[hx.new] at hob
   cases hob
 show wpAny (model P w) _ (leaving _ (.ref x)) _ _ s';exact fresh_leave hfr rfl F fun h' F' up=>⟨x,c,_,H,rfl,F',(show s'.os=s₀.os from ho.trans I.os),hg,zha u1 F.stay F'.stay up old (zdi F.frs.2.2),zfz ok1 F.stay F'.stay trk,nxH,trk,old,q⟩
end
theorem entry_unchain:entryFor table "proto.unchain"=some Fp.«proto.unchain»:=entryFor_of_tree (by kernel_rfl)
section
variable{prog:Ap}{w:Bd}{A:B5}{E:A2->A5->Prop}{s:A5}
theorem raiseNew_h{α:Type}{x e:A3}{ox oe:Obj}{vs xs:Array A2}{Q:α->A5->Prop}(hh:A.handled=some (.ref e))(hx:s.heap.get? x=some ox)(dx:ox.data= .fields xs)(hs:2<xs.size)(ne:e≠x)
  (he:s.heap.get? e=some oe) (de:oe.data= .fields vs) (h2:vs[2]?=some .none)
  (h:E (.ref x) {s with heap:=s.heap.update x (F8 (·.setIfInBounds 2 (.ref e)))}):wpAny (model prog w) A (raiseNew (.ref x):Sem α) Q E s:=by
 unfold raiseNew;refine A1 (Rz ?_);rw[hh];dsimp only;rw[if_pos (by simpa using ne)];refine A1 (Cs (wpAny_runValue (codeAny_builtin entry_unchain ?_)));unfold Fp.«proto.unchain»;dsimp only;refine A1 (Ga he de h2 ?_);rw[if_pos (by decide)];refine Ae ?_;dsimp only;refine A1 ?_;unfold updateField;refine A1 (wpAny_load hx ?_);rw[dx];dsimp only;rw[if_pos hs];refine wpAny_update hx ?_;exact wpAny_throw h
theorem range_end_h{it e:A3}{oe:Obj}{vs:Array A2}{x left step:Int}{Q:Option A2->A5->Prop}(hh:A.handled=some (.ref e))(he:s.heap.get? e=some oe)(de:oe.data= .fields vs)(h2:vs[2]?=some .none)
  (hit:Gd s.heap it x left step) (hleft:left<=0)
  (hQ:∀h',Q9 it s.heap h'->Q none {s with heap:=h'}):wpAny (model prog w) A (pyNext (.ref it)) Q E s:=by
 have ty:s.TypeIs (.ref it) "range_iterator":=⟨_,hit,rfl⟩;unfold pyNext;refine A1 (Fx (Gb (name:=A0 "__next__") ty M9 (Di M9 ty F.entry_range_iterator_next (?_:wpAny _ _ (field (.ref it) 0>>=_) _ _ s) (F.args_range_iterator_next_1 _))));refine A1 (Ga hit rfl (x:=rawInt x) rfl (?_:wpAny _ _ (field (.ref it) 1>>=_) _ _ s));refine A1 (Ga hit rfl (x:=rawInt left) rfl (?_:wpAny _ _ (field (.ref it) 2>>=_) _ _ s));refine A1 (Ga hit rfl (x:=rawInt step) rfl (?_:wpAny _ _ (if left<=0 then _ else _) _ _ s));rw[if_pos hleft];refine A1 (G6 (A1 (?_:wpAny _ _ (newExc (.type "StopIteration") []>>=_) _ _ _)));refine A1 (?_:wpAny _ _ (newTuple []>>=_) _ _ _);simp only[newTuple];refine A1 (El (A1 (m:=firstArgMember _ _) (Op (a:=Dw) (by first|rfl|(simp only[firstArgMember];rfl)) (El ?_ (by size_fits)))) (by size_fits));refine raiseNew_h (A:=A.in1) (e:=e) (oe:=oe) (vs:=vs) (show A.in1.handled=some (.ref e) from hh) (Aw _ rfl) rfl (by rw[Array.size_append];exact Ah (show 2<6 by decide) (Ov _ _)) ?_ (A8 _ (A8 _ he)) de h2 ?_
 ·rw[Eb];exact B8 (Eg (An he))
 ·refine A1 (Gp (T:="StopIteration") (b:=true) ⟨_,Gh _ (Aw _ rfl) rfl,rfl⟩ Rq ?_);refine Ae (hQ _ fun b o hb hbo=>?_);rw[G3 _ _ ?_]
  ·exact A8 _ (A8 _ hbo)
  ·rw[Eb];exact Kl (Eg (An hbo))
end
noncomputable def QH(e:A3)(oe:Obj)(Y:Cx):Prop:=Y.A.handled=some (.ref e)/\(e,oe)∈Y.pn/\∃vs,oe.data= .fields vs/\vs[2]?=some .none
section
variable{X:Cx}{tg:Cb}{e:A3}{oe:Obj}
theorem QH.comp{scope:Fh}{N:List Str}{cl:List (Str×A3)}{C:A3}{s:A5}{H:Hp}{fp:List A3}{pins:List (A3×Obj)}(q:QH e oe X):QH e oe (cxComp X scope N cl C s H fp (X.pn++pins)):=
 ⟨q.1,B9 _ q.2.1,q.2.2⟩
theorem range_item_q{it:A3}{lo:Int}{n i:Nat}{pins:List (A3×Obj)}{s:A5}{σ:St}{H:Hp}{E:A2->A5->Prop}(I:Inv X pins σ H s)(hf:∀b∈[it],FpOk X pins H b)
  (st:Gd s.heap it (lo+(i:Nat)*1) ((n:Int)-(i:Nat)) 1) (hg:i<n):
  wpAny (model X.prog X.w) X.A (pyNext (.ref it)) (fun r s1=>∃u,r=some u/\
   wpAny (model X.prog X.w) X.A (letOwnedTupleGo tg (.ref it) u) (fun _ s2=>∃x H',Inv X pins σ H' s2/\RelV x u/\(Itr lo n).yld i H x H'/\Gd s2.heap it (lo+((i+1:Nat):Int)*1) ((n:Int)-((i+1:Nat):Int)) 1/\∀b∈[it],H' b=none) E s1) E s:=by
 obtain⟨f0,f1,f2,f3,f4,f5⟩:=hf it (by simp);refine wpAny_pyNext_range_item st (by omega) fun h' st' sb=>?_;have I1:Inv X pins σ H {s with heap:=h',toks:=s.toks+1}:=I.turned (fun b o hb e=>(sb.2 b hb).trans e) f0 f1 f3 f4 f5;have st2:Gd h' it (lo+((i+1:Nat):Int)*1) ((n:Int)-((i+1:Nat):Int)) 1:=by
  have e1:lo+((i+1:Nat):Int)*1=lo+(i:Nat)*1+1:=by omega
  have e2:(n:Int)-((i+1:Nat):Int)=(n:Int)-(i:Nat)-1:=by omega
  rw[e1,e2];exact st'
 refine⟨_,rfl,zfw (s:={s with heap:=h',toks:=s.toks+1}) (n:="range_iterator") st2 rfl rfl (by decide) ⟨.int (lo+i),H,I1,⟨s.toks,?_⟩,⟨rfl,rfl⟩,st2,fun b hb=>(hf b hb).1⟩⟩;rw[Nk]
theorem trn_range{P:Ap}{w:Bd}{K:Am}(it:A3)(lo:Int)(n:Nat):Trn P w K (QH e oe) tg (Itr lo n) [it] it (fun i h=>Gd h it (lo+(i:Nat)*1) ((n:Int)-(i:Nat)) 1) where
 obj:=fun i h st b hb=>by
  have e:b=it:=by simpa using hb
  subst e;exact⟨_,st,fun v z=>by
   have z':Qa _=Ry v:=z
   cases z'⟩
 keep:=fun i h h' st k=>k it (by simp) _ st
 steps:=fun Y hP hw hK hz=>⟨fun i pins s σ H E I hf st hg=>range_item_q I hf st hg,fun i pins s σ H E I hf st hg=>by
  obtain⟨hh,hm,vs,de,h2⟩:=hz;obtain⟨f0,f1,f2,f3,f4,f5⟩:=hf it (by simp);exact range_end_h hh (I.pin (e,oe) (B9 _ hm)).1 de h2 st (by have:n<=i:=hg;omega) fun h' eb=>⟨rfl,I.turned (t':=s.toks) (fun b o hb e=>eb b o hb e) f0 f1 f3 f4 f5⟩⟩
 self:=fun _ _ _ _ _ st h=>Nw st h
theorem range_itq{pins:List (A3×Obj)}{σ:St}{H:Hp}{s:A5}{R:It->Hp->Prop}{E:A2->A5->Prop}{lo hi:Int}{t u v:Tok}{tk:Nat}(I:Inv X pins σ H s)(h1: -(2 ^ 62)<=lo)(h2:lo<2 ^ 62)(h3: -(2 ^ 62)<=hi)(h4:hi<2 ^ 62)
  (q:R (Itr lo (hi-lo).toNat) H):wpAny (model X.prog X.w) X.A (pyIter (.ref s.heap.objs.size)) (PIEq (QH e oe) X pins σ tg R) E {s with heap:=s.heap.push {cls:=.type "range",data:=.fields #[.int lo t,.int hi u,.int 1 v]},toks:=tk}:=by
 refine P9 (P6 ..) (Pr h1 h2 h3 h4) ?_;have I1:Inv X pins σ H {s with heap:=s.heap.push {cls:=.type "range",data:=.fields #[.int lo t,.int hi u,.int 1 v]},toks:=tk}:=I.kept fun b o e=>A8 _ e;refine⟨(s.heap.push {cls:=.type "range",data:=.fields #[.int lo t,.int hi u,.int 1 v]}).objs.size,[(s.heap.push {cls:=.type "range",data:=.fields #[.int lo t,.int hi u,.int 1 v]}).objs.size],_,_,H,rfl,
  I1.kept (t':=tk) fun b o e=>A8 _ e,trn_range _ lo (hi-lo).toNat,?_,fun b hb=>?_,q⟩
 ·have e1:lo+((0:Nat):Int)*1=lo:=by simp
  have e2:(((hi-lo).toNat:Nat):Int)-((0:Nat):Int)=Ke lo hi 1:=by rw[Nb];split<;>omega
  show Gd _ _ (lo+((0:Nat):Int)*1) ((((hi-lo).toNat:Nat):Int)-((0:Nat):Int)) 1;rw[e1,e2];exact Aw _ rfl
 ·have e:b=(s.heap.push {cls:=.type "range",data:=.fields #[.int lo t,.int hi u,.int 1 v]}).objs.size:=by simpa using hb
  subst e;exact I1.fpOk (Ab _) (I1.hok.fresh (Ab _))
theorem pi_range1q{a:Cb}{ta:TA}{p pos:Pos}(hg:Gl X "range")(hm:X.mg "range"=none)(ha:PA X [a] ta)(hs:starEach [a] X.env=[(false,eval a X.env)]:=by rfl):PIq (QH e oe) X tg (.Call (.Name "range" p) [a] [] pos) (iRng1 ta):=by
 intro pins s σ H R I h;refine Call_ (zd7 I hg hm Mp (Ep (thnE (ha pos pins s σ H _ I h) fun us s1 vs H1 I1 r1 q1=>?_) hs rfl));obtain⟨j,e,q1,q2,q⟩:=q1;subst e
 cases r1 with
 |cons r rr=>
  cases rr
  obtain⟨t,rfl⟩:=r;exact So (range_itq I1 (by omega) (by omega) q1 q2 (by simpa using q))
end
structure RoomH(k:Nat)(A:B5)(e:A3):Prop where
 hd:A.handled=some (.ref e)
 dp:A.depth+3*k+5<recursionLimit
 un:A.units+16*k+200<cLine
theorem Room.mark{k:Nat}{A:B5}{e:A3}(r:Room k A):RoomH k (A.mark (some (.ref e))) e:=⟨rfl,r.dp,r.un⟩
theorem RoomH.depth{k:Nat}{A:B5}{e:A3}(r:RoomH k A e):A.depth<recursionLimit:=by have:=r.dp;omega
structure FnOkH(P:Ap)(w:Bd)(K:Am)(mg:Str->Option A2)(base:Bx)(e:A3)(oe:Obj)(k:Nat)(f:A3)(fd:Ef)(ps:List Str)(sp:Sp):Prop where
 len:∀vs H Q E,sp vs H Q E->vs.length=ps.length
 run:∀(A:B5)(outer:List Env)(s:A5)(H:Hp)(args:Args)(us:List A2)(vs:List V)(Q:VK),RoomH k A e->Env0 P w K mg base A outer s H->s.heap.get? e=some oe->H e=none->e∉frs outer->(∀v,oe.data≠.cell v)->
  Kf s fd args (ps.zip us)->Vals vs us->sp vs H Q E0->codeAny (model P w) A (.call (.ref f) args) (CR CX0 outer P w H s Q E0) s
noncomputable def cxH(P:Ap)(w:Bd)(K:Am)(mg:Str->Option A2)(base:Bx)(N:List Str)(qual:Str)(scope:Fh)(f:A3)(cd:A2)(A:B5)(outer:List Env)(s:A5)(H:Hp)(e:A3)(oe:Obj):Cx:=
 {cxOf CX0 P w K mg base N qual scope f cd A outer s H E0 with calm:=false,pn:=[(e,oe)],xe:=fun _ _=>False}
theorem cxH_q{P:Ap}{w:Bd}{K:Am}{mg:Str->Option A2}{base:Bx}{N:List Str}{qual:Str}{scope:Fh}{f:A3}{cd:A2}{A:B5}{outer:List Env}{s:A5}{H:Hp}{e:A3}{oe:Obj}{vs:Array A2}
  (hh:A.handled=some (.ref e)) (de:oe.data= .fields vs) (h2:vs[2]?=some .none):QH e oe (cxH P w K mg base N qual scope f cd A outer s H e oe):=⟨hh,A6.mpr rfl,vs,de,h2⟩
theorem fn_ofH{P:Ap}{w:Bd}{K:Am}{mg:Str->Option A2}{base:Bx}{e:A3}{oe:Obj}{k:Nat}{f:A3}{name qual:Str}{params:Qe}{body:List Ca}{scope:Fh}{dV kV doc pm cdv ct oc:A2}{an od:Option A3}
  {osl:Array (Option A2)} {N ps:List Str} {sp:Sp} (lk:K.lookup f=some ⟨oc,od,.func (Ck name qual params body scope dV kV doc pm an cdv ct),osl⟩) (hcd:Fa K cdv qual=true) (S:FnScope N ps scope)
  (len:∀vs H Q E,sp vs H Q E->vs.length=ps.length)
  (hbody:∀(A:B5)(outer:List Env)(s:A5)(H:Hp)(vs:List V)(Q:VK),A.handled=some (.ref e)->sp vs H Q E0->
   ∃t,PSs (cxH P w K mg base N qual scope f cdv A outer s H e oe) body t/\t {nx:=fun _ H'=>Q .non H',rt:=Q} (start N vs) H):
  FnOkH P w K mg base e oe (k+1) f (Ck name qual params body scope dV kV doc pm an cdv ct) ps sp:=by
 refine⟨len,fun A outer s H args us vs Q hr e0 he hn hne hnc hb r hsp=>?_⟩;have hl:=len _ _ _ _ hsp;have KX:K.In s.heap:=e0.mod.kin.keeps fun b o e=>(e0.bs b o e).1;have lim:s.heap.NoLimit:=e0.mod.nolimit.keeps fun b o e=>(e0.bs b o e).1;have hkind:∀y∈ps.zip us,scope.names.lookup y.1=some .local\/(scope.names.lookup y.1=some .cell/\((cellsFrom (s.heap.objs.size+1) scope.names []).lookup y.1).isSome=true):=fun⟨n,v⟩hy=>by
  rcases S.par n (J6 hy).1 with q|q
  ·exact .inl q
  ·exact .inr ⟨q,Ia _ _ _ (.inl q)⟩
 refine Oh hr.depth (KX _ _ lk) rfl S.co S.gen rfl (Mt KX hcd) (hb _ _ _ _ ?_);refine Ml S.kind hkind fun env hen s1 x=>?_;subst hen;refine⟨lim.keeps x.toInCall.keep,Sl ?_⟩;obtain⟨t,ht,hq⟩:=hbody A outer s H vs Q hr.hd hsp;have I0:Inv (cxOf CX0 P w K mg base N qual scope f cdv {A with handled:=none} outer s H E0) [] (start N vs) H s1:=
  zeW S rfl ⟨e0.frames,e0.mod,e0.bs,e0.bsz,e0.funs,e0.frf,e0.hok,e0.bare⟩ hl r x
 have I:Inv (cxH P w K mg base N qual scope f cdv A outer s H e oe) [] (start N vs) H s1:=by
  refine⟨⟨I0.ok.mod,I0.ok.kind,I0.ok.glob,I0.ok.blt,I0.ok.above,I0.ok.inj,I0.ok.has,I0.ok.cab,(fun z=>absurd z Aa),Mj e0.frames,I0.ok.stk,I0.ok.exf,I0.ok.bs,I0.ok.bsz,I0.ok.noex,I0.ok.exfs,I0.ok.funs,I0.ok.frf⟩,
   I0.os,I0.bare,I0.base,I0.loc,I0.cell,I0.free,I0.freeC,fun p hp=>?_,I0.hok,I0.len⟩
  have e1:p=(e,oe):=by
   rcases Al.mp hp with z|z
   ·exact A6.mp z
   ·cases z
  subst e1;exact⟨x.toInCall.keep _ _ he,hn,B8 (An he),hne,hnc⟩
 refine Ct (ht [] s1 (start N vs) H _ I hq) (fun fl s' hs=>?_) fun e s' hs=>Ci hs;have fin:∀{σ':St}{H':Hp}{v:V}{u:A2},Inv (cxH P w K mg base N qual scope f cdv A outer s H e oe) [] σ' H' s'->RelV v u->Q v H'->CE outer P w H s Q u s':=
  fun{σ' H' v u}J rv q=>⟨v,H',J.os,J.bare,J.base,J.hok,rv,q⟩
 cases fl with
 |ret u=>
  obtain⟨v,σ',H',J,rv,q⟩:=hs;exact fin J rv q
 |next=>
  obtain⟨σ',H',J,q⟩:=hs;exact fin (v:=V.non) (u:=Dw) J rfl q
 |brk=>
  obtain⟨_,_,_,q⟩:=hs;exact Ci q
 |cont=>
  obtain⟨_,_,_,q⟩:=hs;exact Ci q
section
variable{X:Cx}{k:Nat}{f:A3}{fd:Ef}{ps:List Str}{sp:Sp}{x:Str}{p pos:Pos}{ex:Cb}{es:List Cb}{t:TA}{e:A3}{oe:Obj}
theorem pe_callH(F:FnOkH X.prog X.w X.K X.mg X.base e oe k f fd ps sp)(hr:RoomH k X.A e)(hp:(e,oe)∈X.pn)(hgd:e∉frs X.stack)(hg:Gl X x)(hm:X.mg x=some (.ref f))(hk:D0 X.K (.ref f)=true)(hb:Binds X.K fd ps [])
  (ha:PA X (ex::es) t) (hdb:(x==("__debug__":Str))=false:=by decide) (he:starEach (ex::es) X.env=(false,eval ex X.env)::starEach es X.env:=by rfl) (hpl:(backTo pos (starEach es X.env)).any (·.1)=false:=by rfl):
  PE X (.Call (.Name x p) (ex::es) [] pos) (tCall sp [] E0 t):=by
 intro pins s σ H Q I h;refine G7 (zcW I hg hm ?_ hdb);refine Jl (h₀:=X.base) I.ok.mod.kin hk (thnE (ha pos pins s σ H _ I h) fun us s1 vs H1 I1 r q=>⟨I1.kIn,?_⟩) he hpl;have q':sp vs H1 Q E0:=by simpa using q
 have hl:us.length=ps.length:=by rw[<-r.length];exact F.len _ _ _ _ q'
 obtain⟨e1,e2,e3,e4,e5⟩:=I1.pin (e,oe) (B9 _ hp);have hb':=hb s1 us I1.kIn (by simpa using hl);rw[C1] at hb';refine Ks (Jj (F.run X.A X.stack s1 H1 ⟨us,[]⟩ us vs Q hr I1.env0 e1 e2 hgd e5 hb' r q') fun r s' hq=>?_)
 cases r with
 |error e=>exact Ci hq
 |ok fl=>
  cases fl with
  |ret u=>exact I1.after hq
  |next=>exact Ci hq
  |brk=>exact Ci hq
  |cont=>exact Ci hq
end
structure Air(P:Ap)(w:Bd)(outer:List Env)(H:Hp)(s:A5)(E:XK)(B:Bx)(x:A3)(c:A2)(H':Hp)(fl:A2)(s':A5):Prop where
 fly:Fly B outer x c fl s'.heap
 os:s'.os=s.os
 bare:Gy s'.gens
 un:Un (frs outer) [] H H' s.heap s'.heap
 hok:HOk P w H' s'.heap
 nx:H' x=none
 trk:∀b o,H' b=some o->∃ob,B.get? b=some ob
 old:∀b o,s.heap.get? b=some o->b∉frs outer->∃ob,B.get? b=some ob
 e:E c none H'
theorem Air.move{P:Ap}{w:Bd}{outer:List Env}{H:Hp}{s:A5}{E:XK}{B:Bx}{x:A3}{c:A2}{H':Hp}{fl fl':A2}{s':A5}{h':Bx}(a:Air P w outer H s E B x c H' fl s')(F:Fly B outer x c fl' h')(up:s'.heap.UpToSlots h'):
  Air P w outer H s E B x c H' fl' {s' with heap:=h'}:=
 ⟨F,a.os,a.bare,zha a.un a.fly.stay F.stay up a.old (zdi a.fly.frs),zfz a.hok a.fly.stay F.stay a.trk,a.nx,a.trk,a.old,a.e⟩
noncomputable def cxTry(X:Cx)(E:XK)(pn:List (A3×Obj)):Cx:=
 {X with pn:=pn,xe:=fun e s'=>∃pins σ H s,Inv {X with pn:=pn,xe:=fun _ _=>False} pins σ H s/\CX1 X.prog X.w X.stack H s E e s'}
noncomputable def cxHand(X:Cx)(x:A3)(ox:Obj)(pn:List (A3×Obj)):Cx:=
 {X with A:=X.A.mark (some (.ref x)),calm:=false,pn:=(x,ox)::pn,xe:=fun _ _=>False}
section
variable{X:Cx}{pins:List (A3×Obj)}{σ:St}{H:Hp}{s:A5}
theorem zaG{E:XK}{pn:List (A3×Obj)}:Passes (CX1 X.prog X.w) (cxTry X E pn) E:=fun pins σ H s e s' I h=>
 ⟨pins,σ,H,s,⟨⟨I.ok.mod,I.ok.kind,I.ok.glob,I.ok.blt,I.ok.above,I.ok.inj,I.ok.has,I.ok.cab,I.ok.hd,I.ok.frames,I.ok.stk,I.ok.exf,I.ok.bs,I.ok.bsz,I.ok.noex,I.ok.exfs,I.ok.funs,I.ok.frf⟩,I.os,I.bare,I.base,I.loc,I.cell,I.free,I.freeC,I.pin,I.hok,I.len⟩,h⟩
theorem Inv.other{A:B5}{cm:Bool}{pn:List (A3×Obj)}{xe:A2->A5->Prop}{pins':List (A3×Obj)}(I:Inv X pins σ H s)(hf:A.frames=X.A.frames)(hd:cm=true->A.handled=none)
  (hp:∀p∈pn++pins',s.heap.get? p.1=some p.2/\H p.1=none/\p.1≠X.env.locals/\p.1∉X.fs/\∀v,p.2.data≠.cell v):Inv {X with A:=A,calm:=cm,pn:=pn,xe:=xe} pins' σ H s:=
 ⟨⟨I.ok.mod,I.ok.kind,I.ok.glob,I.ok.blt,I.ok.above,I.ok.inj,I.ok.has,I.ok.cab,hd,hf.trans I.ok.frames,I.ok.stk,I.ok.exf,I.ok.bs,I.ok.bsz,I.ok.noex,I.ok.exfs,I.ok.funs,I.ok.frf⟩,I.os,I.bare,I.base,I.loc,I.cell,I.free,I.freeC,hp,I.hok,I.len⟩
theorem Inv.lost{h':Bx}{m':Str->Option A2}{t':Nat}(I:Inv X pins σ H s)(hn':h'.Ns X.env.locals m')(hs:Fl X.env.locals s.heap h'):Inv X pins (Br X.N.length none) H {s with heap:=h',toks:=t'}:=by
 obtain⟨m,hn,hl⟩:=id I.loc;obtain⟨oL,_,_,hoL,_⟩:=id hn;refine⟨I.ok,I.os,I.bare,⟨fun b o e n hb hx=>?_,fun b o e n hb hx=>?_,I.base.free,fun b o e hx=>?_,I.base.tups,I.base.frzs,I.base.tbls⟩,⟨m',hn',fun j y v' e1 e2 e3=>?_⟩,fun y c e=>?_,I.free,I.freeC,fun p hp=>?_,fun b ob e=>?_,by simp⟩
 ·exact(hs.2 b (B8 (Ah (An e) I.ok.above))).trans (I.base.keep b o e n hb hx)
 ·obtain⟨sl,e1⟩:=I.base.slot b o e n hb hx;exact⟨sl,(hs.2 b (B8 (Ah (An e) I.ok.above))).trans e1⟩
 ·obtain⟨o',e1⟩:=I.base.there b o e hx;exact⟨o',(hs.2 b (B8 (Ah (An e) I.ok.above))).trans e1⟩
 ·rw[Ie] at e2
  split at e2<;>cases e2
 ·obtain⟨w',z⟩:=I.cell y c e;exact⟨w',z.sameBut hs (I.cne y c e)⟩
 ·obtain⟨e,n,ne,nf,d⟩:=I.pin p hp;exact⟨(hs.2 p.1 ne).trans e,n,ne,nf,d⟩
 ·refine(I.hok b ob e).stay (fun c w' hc q=>(hs.2 c ?_).trans q) (fun _ q=>q) fun _ _ q=>q;intro hcl;rw[hcl] at hc;rcases hc with z|z
  ·rw[<-z,I.free] at e;cases e
  ·rw[I.free] at z;cases z
noncomputable def tTry(X:Cx)(CE:A2)(i:Nat)(tb:XK->TS)(th:A3->A2->TS):TS:=fun D σ H=>∃E:XK,tb E D σ H/\
 ∀c H' x,E c none H'->H' x=none->Ix X.K c CE=some true/\th x c {nx:=fun _ _=>False,rt:=D.rt,bk:=fun _ _=>False,ct:=fun _ _=>False} ((Br X.N.length none).set i (some (.ref x))) H'
theorem ps_try{body:List Ca}{cn n:Str}{np hpos pos:Pos}{b₀:Ca}{suite:List Ca}{i:Nat}{CE:A2}{tb:XK->TS}{th:A3->A2->TS}(hst:X.stack=X.env::X.outer)(hfr:X.env.frame=some X.env.locals)(hN:X.N.Nodup)(hi:X.N[i]?=some n)
  (hl:X.env.scope.names.lookup n=some .local) (hg:Gl X cn) (hm:X.mg cn=some CE)
  (hb:∀E pn,PSs (cxTry X E pn) body (tb E))
  (hh:∀x c ox pn vs,ox.cls=c/\ox.dict=none->ox.data= .fields vs->vs[2]?=some .none->x∉frs X.stack->PSs (cxHand X x ox pn) (b₀::suite) (th x c))
  (hd:(cn==("__debug__":Str))=false:=by decide):
  PS X (.Try body [.ExceptHandler (some (.Name cn np)) (some n) (b₀::suite) hpos] [] [] pos) (tTry X CE i tb th):=by
 intro pins s σ H D I h;obtain⟨E,hbd,hex⟩:=h;have I1:Inv (cxTry X E (X.pn++pins)) [] σ H s:=I.other rfl I.ok.hd (by rw[C1];exact I.pin);have back:∀{σ' H' s'},Inv (cxTry X E (X.pn++pins)) [] σ' H' s'->Inv X pins σ' H' s':=fun{σ' H' s'}J=>
  Inv.other (X:=cxTry X E (X.pn++pins)) (A:=X.A) (cm:=X.calm) (pn:=X.pn) (xe:=X.xe) J rfl I.ok.hd fun p hp=>J.pin p (B9 _ hp)
 refine wpAny_Try_except (Ct (hb E (X.pn++pins) [] s σ H D I1 hbd) (fun f s1 q=>?_) fun e s1 q=>?_)
 ·cases f with
  |next=>obtain⟨σ',H',J,q⟩:=q;exact Hg ⟨σ',H',back J,q⟩
  |ret u=>obtain⟨v,σ',H',J,r,q⟩:=q;exact⟨v,σ',H',back J,r,q⟩
  |brk=>obtain⟨σ',H',J,q⟩:=q;exact⟨σ',H',back J,q⟩
  |cont=>obtain⟨σ',H',J,q⟩:=q;exact⟨σ',H',back J,q⟩
 ·obtain⟨pins',σ',H1,s0,J,x,c,B,H2,rfl,F,ho,hgn,u,ok,nx,inB,old,q⟩:=q;have a0:Air X.prog X.w (X.env::X.outer) H1 s0 E B x c H2 .none s1:=hst▸⟨F,ho,hgn,u,ok,nx,inB,old,q⟩;have hfrm:X.A.frames=some (X.env::X.outer):=hst▸I.ok.frames;refine zgg hfrm hfr a0.fly fun h1 F1 u1=>?_;have a1:=a0.move F1 u1;refine zdh a1.fly fun h2 F2 u2=>?_;have a2:=a1.move F2 u2;obtain⟨hE,hth⟩:=hex c H2 x q nx;have inv2:∀{fl s'},Air X.prog X.w (X.env::X.outer) H1 s0 E B x c H2 fl s'->Inv {X with pn:=X.pn++pins,xe:=fun _ _=>False} pins' σ' H2 s':=fun{fl s'}a=>
   J.call' a.os (show Un (frs X.stack) [] H1 H2 s0.heap s'.heap by rw[hst];exact a.un) a.hok a.bare fun b z=>absurd z (by simp)
  have J2:=inv2 a2;have xo:x∉frs X.stack:=fun z=>by
   rw[hst] at z;obtain⟨oe,vs,_,_,_,h1,_,h2,_⟩:=a2.fly.obj;exact zdi a2.fly.frs x z oe h1 vs h2
  have xl:x≠X.env.locals:=fun z=>xo (by rw[hst];exact Ew.mpr ⟨X.env,Aj,by rw[z];exact hfr⟩);have xf:x∉X.fs:=fun z=>xo (by
   rw[hst];obtain⟨y,hy,e⟩:=Ew.mp z;exact Ew.mpr ⟨y,Ac _ hy,e⟩)
  have J2m:Inv {X with A:=X.A.mark (some (.ref x)),calm:=false,pn:=[],xe:=fun _ _=>False} [] σ' H2 {s1 with heap:=h2}:=J2.other rfl (fun z=>absurd z Aa) fun p hp=>absurd hp (by simp);refine wpAny_handleBy_cons (codeAny_handlers_test (zcW (X:={X with A:=X.A.mark (some (.ref x)),calm:=false,pn:=[],xe:=fun _ _=>False}) J2m hg hm ?_ hd)) (by intro q;cases q);have LT:L9 (model X.prog X.w) h2 (typeOf (.ref x)) c:=by
   obtain⟨oe,vs,_,_,_,h1,hc,_⟩:=a2.fly.obj;rw[<-hc.1];exact(Ps h1).andThen .now
  refine(PySem.W.exm_one (M:=model X.prog X.w) J2.kIn LT hE).here ?_;dsimp only;rw[if_pos rfl];refine codeAny_handlers_suite_as ?_;refine zdh a2.fly fun h3 F3 u3=>?_;have a3:=a2.move F3 u3;have J3:=inv2 a3;obtain⟨ox,vs,T,oT,ts,hx,hc,hdx,h1x,h2x,nT,tx,hT,dT,h3x⟩:=a3.fly.obj;have K3:Inv (cxHand X x ox (X.pn++pins)) [] σ' H2 {s1 with heap:=h3}:=J3.other (A:=X.A.mark (some (.ref x))) (cm:=false) (pn:=(x,ox)::(X.pn++pins)) (xe:=fun _ _=>False) rfl (fun z=>absurd z Aa) fun p hp=>by
   rw[C1] at hp;rcases Ba.mp hp with z|z
   ·subst z;exact⟨hx,nx,xl,xf,fun v z=>by rw[hdx] at z;cases z⟩
   ·exact J3.pin p (B9 _ z)
  have K3w:=K3.weak (σ':=Br X.N.length none) (by rw[My];exact K3.len.symm) fun i v e=>by
   rw[Ie] at e
   split at e<;>cases e
  refine zef (X:=cxHand X x ox (X.pn++pins)) (v:=V.ref x) K3w hN hi (.inl hl) rfl (fun s4 K4=>?_) (.inr hl);refine Ct (hh x c ox (X.pn++pins) vs hc hdx h2x xo [] s4 _ H2 _ K4 hth) (fun f s5 q5=>?_) fun _ _ z=>Ci z
  cases f with
  |next=>obtain⟨_,_,_,z⟩:=q5;exact Ci z
  |brk=>obtain⟨_,_,_,z⟩:=q5;exact Ci z
  |cont=>obtain⟨_,_,_,z⟩:=q5;exact Ci z
  |ret u5=>
   obtain⟨v,σ5,H5,K5,r5,q5⟩:=q5;obtain⟨m5,hn5,_⟩:=id K5.loc;refine wpAny_nameGoes (env:=X.env) (show X.env.kindOf n=some .local from hl) hn5 (by rw[I.ok.kind];rfl) fun h6 m6 hn6 sb6=>?_;have K6:=K5.lost (t':=s5.toks+1) hn6 sb6;refine⟨v,Br X.N.length none,H5,?_,r5,q5⟩;exact Inv.other (X:=cxHand X x ox (X.pn++pins)) (A:=X.A) (cm:=X.calm) (pn:=X.pn) (xe:=X.xe) K6 rfl I.ok.hd fun p hp=>K6.pin p (B9 _ (Ac _ hp))
end
structure ErrCls(K:Am)(D:A3):Prop where
 ga:Bv K (.ref D) "__getattribute__"=some (some (.builtin "BaseException.__getattribute__"))
 gh:Bv K (.ref D) "__getattr__"=some none
 hc:(Gc K D).isSome=true
 ha:Bv K (.ref D) "__class__"=some (some (.builtin "object.__class__"))
 hn:Jv K (.builtin "object.__class__") "__get__"=some (some (.builtin "getset_descriptor.__get__"))
 ht:Kh K (.builtin "object.__class__")=some true
 hm:Ee K D (.type "object")=some true
 hb:Ee K D (.type "BaseException")=some true
theorem find_cls{K:Am}{D:A3}(E:ErrCls K D)(od:Option Obj):No K D od "__class__"=some (.bind (.builtin "getset_descriptor.__get__") (.builtin "object.__class__")):=by
 obtain⟨cd,hc⟩:=Db.mp E.hc;unfold No;rw[hc];simp[E.ha,E.hn,E.ht]
section
variable{prog:Ap}{w:Bd}{A:B5}{E:A2->A5->Prop}{s:A5}{K:Am}{x D:A3}{ox:Obj}
theorem exc_check{M:Hk}{nameV:A2}{Q:Unit->A5->Prop}(Er:ErrCls K D)(X:K.In s.heap)(I:Fb s.heap x ox D none)(hq:Q () s):
  wpAny M A (checkBuiltinCall "BaseException.__getattribute__" ⟨[.ref x,nameV],[]⟩) Q E s:=by
 have hk:builtinKind "BaseException.__getattribute__"=some .slot:=by decide+kernel
 have hsplit:splitId "BaseException.__getattribute__"=some ("BaseException","__getattribute__"):=by decide+kernel
 have ha:=F.args_bexc_ga (.ref x) nameV;have L0:=I.type (M:=M);have L1:=PySem.W.looks_mroIn (M:=M) X Er.hb;have LI:L9 M s.heap (isInstance (.ref x) (.type "BaseException")) true:=L0.andThen L1;obtain⟨h,g,d,t,os⟩:=s;simp only[checkBuiltinCall,hk,hsplit];refine A1 (LI.at ?_)
 repeat (any_goals (first|assumption|wp_step))
theorem exc_entry{tk:Tok}{Q:Fin->A5->Prop}(Er:ErrCls K D)(X:K.In s.heap)(I:Fb s.heap x ox D none)(hq:Q (.done (.ret (.ref D))) s):
  wpAny (model prog w) A (Fp.«object.__getattribute__» ⟨[.ref x,.str "__class__" tk],[]⟩) Q E s:=by
 obtain⟨h,g,d,t,os⟩:=s;have L0:=I.type (M:=model prog w);have L1:=PySem.W.looks_find (M:=model prog w) X I (find_cls Er none);unfold Fp.«object.__getattribute__»;refine A1 (Op (a:=(.ref x,[.str "__class__" tk])) (by rfl) ?_);dsimp only;refine A1 (Ae (A1 (L0.at (A1 (L1.at ?_)))));show wpAny _ _ (Je (.builtin "getset_descriptor.__get__") (.builtin "object.__class__") (.ref x) (.ref D)) _ _ _;unfold Je;dsimp only;refine A1 (Cs (Ks (PySem.W.class_get (s:=⟨h,g,d,t,os⟩) (ox:=ox) (od:=none) X I Er.hm ?_)));exact Ae hq
theorem exc_call{tk:Tok}{R:Ru->A5->Prop}(Er:ErrCls K D)(X:K.In s.heap)(I:Fb s.heap x ox D none)(hq:R (.ok (.ret (.ref D))) s):
  codeAny (model prog w) A (.call (.builtin "BaseException.__getattribute__") ⟨[.ref x,.str "__class__" tk],[]⟩) R s:=
 codeAny_call_builtin Od.ga.plain F.entry_bexc_ga (exc_check Er X I (exc_entry Er X I hq))
theorem exc_class{Q:Option A2->A5->Prop}(Er:ErrCls K D)(X:K.In s.heap)(I:Fb s.heap x ox D none)(hq:Q (some (.ref D)) {s with toks:=s.toks+1}):wpAny (model prog w) A (getAttr? (.ref x) "__class__") Q E s:=by
 obtain⟨h,g,d,t,os⟩:=s;have L0:=I.type (M:=model prog w);have L1:=Iv (M:=model prog w) X Er.ga;have L2:=Iv (M:=model prog w) X Er.gh;have f3:=Od.ga.bind (.ref x);unfold getAttr? getAttrBy? getAttrBy;refine A1 (wpAny_mkText (A1 (Fx (Cs (A1 (L0.at (A1 (L1.at ?_))))))));have hx2:(onTheHeap (B1 D)&&Jq "BaseException.__getattribute__"==Jq "object.__getattribute__")=false:=by
  have hx1:(Jq "BaseException.__getattribute__"==Jq "object.__getattribute__")=false:=by decide+kernel
  rw[hx1,P7]
 dsimp only;rw[hx2,if_neg Aa];unfold getAttrByItsOwn hookBefore;refine A1 ?_;rw[if_pos (by rfl)];refine L2.at ?_;refine A1 (Fx (Cs ?_));unfold callGetattribute;rw[if_neg (by decide)];unfold boundAndCalled;refine A1 ?_;rw[f3];refine Ae ?_;refine Ks (exc_call (s:=⟨h,g,d,t+1,os⟩) Er X I ?_);exact PySem.W.handed_on rfl (Ae hq)
end
theorem isType_cls{K:Am}{D:A3}{M:Hk}{h:Bx}(X:K.In h)(hc:(Gc K D).isSome=true):L9 M h (isType (.ref D)) true:=by
 obtain⟨cd,hc⟩:=Db.mp hc;unfold Gc at hc
 split at hc
 ·next ho=>
  intro A Q E s k q;unfold isType loadHead;exact A1 (Rn (k _ _ (X _ _ ho)) (Ae q))
 ·cases hc
theorem kitx_exc{K:Am}{x D:A3}{ox:Obj}(Er:ErrCls K D):PySem.W.KitX K (.ref x) (.ref D) (fun h=>Fb h x ox D none) where
 ty:=fun _ _ _ I=>I.type
 it:=fun _ _ X _=>isType_cls X Er.hc
 ne:=fun h tp dd its n sl X htp=>by
  obtain⟨cd,hc⟩:=Db.mp Er.hc;refine Oe.mpr fun q=>?_;have e:D=tp:=Nm (beq_iff_eq.mp q);subst e;unfold Gc at hc
  split at hc
  ·next ho=>
   have z:=(X _ _ ho).symm.trans htp
   cases z
  ·cases hc
 ca:=fun X I k=>exc_class Er X I k
section
variable{X:Cx}
theorem zaV:CallR X (.builtin "isinstance") (fun xs H Q=>∃(e C D:A3)(oe:Obj)(b:Bool),xs=[.ref e,.ref C]/\((e,oe)∈X.pn/\(oe.cls= .ref D/\oe.dict=none)/\∃vs,oe.data= .fields vs)/\ErrCls X.K D/\Fs X.K (.ref D) (.ref C)=some b/\Q (.bl b) H):=by
 intro pins s σ H xs us Q I r h;obtain⟨e,C,D,oe,b,rfl,⟨hp,⟨hc,hd⟩,vs,hv⟩,Er,hk,q⟩:=h;obtain⟨u,u',rfl,ru,ru'⟩:=zhN r
 cases(show u=B1 e from ru)
 cases(show u'=B1 C from ru')
 have ia:Fb s.heap e oe D none:=⟨(I.pin (e,oe) (B9 _ hp)).1,hc,by unfold PySem.W.notCls;rw[hv],by rw[hd];trivial⟩;exact D1 (kitx_exc (ox:=oe) Er) I.kIn ia hk (fun z=>nomatch z) fun tk=>⟨.bl b,H,I.tok _,rfl,q⟩
end
structure Err(K:Am)(mg:Str->Option A2)(x:Str)(C:A3):Prop where
 bound:mg x=some (.ref C)
 exc:Hh K C [.type "ValueError",.type "Exception",.type "BaseException",.type "object"] "ValueError.__new__"=true
theorem err_obj{K:Am}{h:Bx}{C:A3}{bmB:List A2}{newId:String}(X:K.In h)(q:Hh K C bmB newId=true):
  ∃bm N nm q bs hdct sn sub ab col dd k0 k1 k2 k3 k5 mN,h.get? C=some (excClassObj nm q C N bs bm hdct sn sub ab col dd k0 k1 k2 k3 k5 newId)/\h.Ns N mN/\mN "__init__"=none/\OwnTail h bmB bm:=by
 unfold Hh at q
 split at q
 ·next dd cd sl ho=>
  split at q
  ·next C' bm k0 k1 k2 k3 n k5 hm hs=>
   simp only[Bu,beq_iff_eq,G5] at q;obtain⟨⟨⟨⟨⟨r1,r2⟩,hdel⟩,ht⟩,hok⟩,hni⟩:=q;subst r1 r2
   cases cd with
   |mk nm bs mro ns qn hd sn sub ab col del=>
    dsimp only at hm hdel hok hni;subst hm hdel
    cases sl with
    |mk l=>
     simp only at hs;subst hs;exact⟨bm,ns,nm,qn,bs,hd,sn,sub,ab,col,dd,k0,k1,k2,k3,k5,_,X _ _ ho,.of_isNs (PySem.W.isNs_of_in X hok),PySem.W.nsMap_none_of_in X hok hni,PySem.W.tail_of_in X ht⟩
  ·cases q
 ·cases q
noncomputable def tRaise(E:XK)(C:A3)(ta:TA):TS:=fun _ σ H=>ta σ H fun vs H1=>vs.length<=sizeLine/\E (.ref C) none H1
section
variable{P:Ap}{w:Bd}{K:Am}{mg:Str->Option A2}{base:Bx}{N:List Str}{qual:Str}{scope:Fh}{f:A3}{cd:A2}{A:B5}{outer:List Env}{s₀:A5}{H₀:Hp}{E:XK}
theorem zbl{x:Str}{C:A3}{np cpos pos:Pos}{e:Cb}{es:List Cb}{t:TA}(O:Err K mg x C)(hg:Gl (cxOf (CX1 P w) P w K mg base N qual scope f cd A outer s₀ H₀ E) x)
  (ha:PA (cxOf (CX1 P w) P w K mg base N qual scope f cd A outer s₀ H₀ E) (e::es) t) (hd:(x==("__debug__":Str))=false:=by decide)
  (he:starEach (e::es) (envOfC qual scope s₀.heap.objs.size f cd)=(false,eval e (envOfC qual scope s₀.heap.objs.size f cd))::starEach es (envOfC qual scope s₀.heap.objs.size f cd):=by rfl)
  (hpl:(backTo cpos (starEach es (envOfC qual scope s₀.heap.objs.size f cd))).any (·.1)=false:=by rfl):
  PS (cxOf (CX1 P w) P w K mg base N qual scope f cd A outer s₀ H₀ E) (.Raise (some (.Call (.Name x np) (e::es) [] cpos)) none pos) (tRaise E C t):=by
 intro pins s σ H D I h;obtain⟨bm,Nn,nm,q,bs,hdct,sn,sub,ab,col,dd,k0,k1,k2,k3,k5,mN,hC,hN,hni,T⟩:=err_obj I.ok.mod.kin O.exc;refine wpAny_Raise_call_subT (C:=C) (nm:=nm) (q:=q) (N:=Nn) (bs:=bs) (bm:=bm) (hdct:=hdct) (sn:=sn) (sub:=sub) (ab:=ab) (col:=col) (dd:=dd) (k0:=k0) (k1:=k1) (k2:=k2) (k3:=k3) (k5:=k5) (env:=envOfC qual scope s₀.heap.objs.size f cd)
  Oc (mN:=mN) (T.hasType Oc.hasBase) (I.ok.hd rfl) ?_ hni (zcW I hg O.bound ⟨rfl,?_⟩ hd)
 ·rw[he];show(false||(backTo cpos (starEach es (envOfC qual scope s₀.heap.objs.size f cd))).any (·.1))=false;rw[hpl];rfl
 ·have g:=ha cpos pins s σ H _ I h;change wpAny _ _ (spliced (backTo cpos (starEach (e::es) (envOfC qual scope s₀.heap.objs.size f cd)))) _ _ s at g;rw[he] at g⊢;refine N1 (thn g fun us s2⟨vs,H1,I1,r,hl,q⟩=>?_);exact⟨rfl,by rw[<-r.length];exact hl,I1.bk _ _ hC,hN.keeps I1.bk,T.keeps I1.bk,fun h' x hx=>raise_out I1 hx rfl I1.bare q⟩
end
structure Callee1(P:Ap)(w:Bd)(K:Am)(mg:Str->Option A2)(base:Bx)(x:Str)(k:Nat)(ps:List Str)(sp:Sp):Prop where
 ex:∃f fd,FnOk P w K mg base (CX1 P w) k f fd ps sp/\mg x=some (.ref f)/\D0 K (.ref f)=true/\Binds K fd ps []
structure MethAt(K:Am)(C:A3)(cn m:Str)(st:Ca):Prop where
 ex:∃f fd,Fun K m (cn++A0 "."++m) st f fd/\Meth K C m f
structure Method(P:Ap)(w:Bd)(K:Am)(mg:Str->Option A2)(base:Bx)(C:A3)(m:Str)(CX:CXT)(k:Nat)(ps:List Str)(sp:Sp):Prop where
 ex:∃f fd,FnOk P w K mg base CX k f fd ps sp/\Meth K C m f/\Binds K fd ps []
section
variable{P:Ap}{w:Bd}{K:Am}{mg:Str->Option A2}{base:Bx}
theorem Fun.ok1{x qual:Str}{st:Ca}{f:A3}{fd:Ef}{N ps:List Str}{k:Nat}{sp:Sp}(F:Fun K x qual st f fd)(S:FnScope N ps (defScope st))(len:∀vs H Q E,sp vs H Q E->vs.length=ps.length)
  (hbody:∀(cdv:A2)(A:B5)(outer:List Env)(s:A5)(H:Hp)(vs:List V)(Q:VK)(E:XK),Room k (A.deeper (envOfC qual (defScope st) s.heap.objs.size f cdv))->sp vs H Q E->
   ∃t,PSs (cxOf (CX1 P w) P w K mg base N qual (defScope st) f cdv A outer s H E) (defBody st) t/\t {nx:=fun _ H'=>Q .non H',rt:=Q} (start N vs) H):FnOk P w K mg base (CX1 P w) (k+1) f fd ps sp:=by
 obtain⟨oc,od,kV,doc,pm,an,cdv,ct,osl,rfl,lk,hcd⟩:=F.ex;exact zhV lk hcd S len fun A outer s H vs Q E hr hsp=>hbody cdv A outer s H vs Q E hr hsp
theorem DefAt.callee1{x:Str}{st:Ca}{N ps:List Str}{k:Nat}{sp:Sp}(D:DefAt K mg x st)(S:FnScope N ps (defScope st))
  (hb:∀(kV doc pm:A2)(an:Option A3)(cdv ct:A2)(us:List A2),us.length=ps.length->bindArgs (Ck x x (defArgs st) (defBody st) (defScope st) .none kV doc pm an cdv ct) ⟨us,[]⟩=pure (ps.zip us))
  (len:∀vs H Q E,sp vs H Q E->vs.length=ps.length)
  (hbody:∀(f:A3)(cdv:A2)(A:B5)(outer:List Env)(s:A5)(H:Hp)(vs:List V)(Q:VK)(E:XK),Room k (A.deeper (envOfC x (defScope st) s.heap.objs.size f cdv))->sp vs H Q E->
   ∃t,PSs (cxOf (CX1 P w) P w K mg base N x (defScope st) f cdv A outer s H E) (defBody st) t/\t {nx:=fun _ H'=>Q .non H',rt:=Q} (start N vs) H):Callee1 P w K mg base x (k+1) ps sp:=by
 obtain⟨f,fd,F,m⟩:=D.ex;exact⟨f,fd,F.ok1 S len (fun cdv A outer s H vs Q E hr h=>hbody f cdv A outer s H vs Q E hr h),m,F.kp,F.binds hb⟩
theorem MethAt.meth1{cn m:Str}{C:A3}{st:Ca}{N ps:List Str}{k:Nat}{sp:Sp}(D:MethAt K C cn m st)(S:FnScope N ps (defScope st))
  (hb:∀(kV doc pm:A2)(an:Option A3)(cdv ct:A2)(us:List A2),us.length=ps.length->bindArgs (Ck m (cn++A0 "."++m) (defArgs st) (defBody st) (defScope st) .none kV doc pm an cdv ct) ⟨us,[]⟩=pure (ps.zip us))
  (len:∀vs H Q E,sp vs H Q E->vs.length=ps.length)
  (hbody:∀(f:A3)(cdv:A2)(A:B5)(outer:List Env)(s:A5)(H:Hp)(vs:List V)(Q:VK)(E:XK),Room k (A.deeper (envOfC (cn++A0 "."++m) (defScope st) s.heap.objs.size f cdv))->sp vs H Q E->
   ∃t,PSs (cxOf (CX1 P w) P w K mg base N (cn++A0 "."++m) (defScope st) f cdv A outer s H E) (defBody st) t/\t {nx:=fun _ H'=>Q .non H',rt:=Q} (start N vs) H):Method P w K mg base C m (CX1 P w) (k+1) ps sp:=by
 obtain⟨f,fd,F,m⟩:=D.ex;exact⟨f,fd,F.ok1 S len (fun cdv A outer s H vs Q E hr h=>hbody f cdv A outer s H vs Q E hr h),m,F.binds hb⟩
theorem MethAt.meth0{cn m:Str}{C:A3}{st:Ca}{N ps:List Str}{k:Nat}{sp:Sp}(D:MethAt K C cn m st)(S:FnScope N ps (defScope st))
  (hb:∀(kV doc pm:A2)(an:Option A3)(cdv ct:A2)(us:List A2),us.length=ps.length->bindArgs (Ck m (cn++A0 "."++m) (defArgs st) (defBody st) (defScope st) .none kV doc pm an cdv ct) ⟨us,[]⟩=pure (ps.zip us))
  (len:∀vs H Q E,sp vs H Q E->vs.length=ps.length)
  (hbody:∀(f:A3)(cdv:A2)(A:B5)(outer:List Env)(s:A5)(H:Hp)(vs:List V)(Q:VK)(E:XK),Room k (A.deeper (envOfC (cn++A0 "."++m) (defScope st) s.heap.objs.size f cdv))->sp vs H Q E->
   ∃t,PSs (cxOf CX0 P w K mg base N (cn++A0 "."++m) (defScope st) f cdv A outer s H E).nox (defBody st) t/\t {nx:=fun _ H'=>Q .non H',rt:=Q} (start N vs) H):Method P w K mg base C m CX0 (k+1) ps sp:=by
 obtain⟨f,fd,F,m⟩:=D.ex;exact⟨f,fd,F.ok S len (fun cdv A outer s H vs Q E hr h=>hbody f cdv A outer s H vs Q E hr h),m,F.binds hb⟩
end
section
variable{X:Cx}{x m:Str}{k:Nat}{ps:List Str}{sp:Sp}{p pos apos:Pos}{o e:Cb}{es:List Cb}{ta:TE}{t:TA}{E:XK}{C:A3}{CX:CXT}
theorem zbZ(F:Callee1 X.prog X.w X.K X.mg X.base x k ps sp)(hr:Room k X.A)(hx:Passes (CX1 X.prog X.w) X E)(hg:Gl X x)(ha:PA X (e::es) t)(hdb:(x==("__debug__":Str))=false:=by decide)
  (he:starEach (e::es) X.env=(false,eval e X.env)::starEach es X.env:=by rfl) (hpl:(backTo pos (starEach es X.env)).any (·.1)=false:=by rfl):PE X (.Call (.Name x p) (e::es) [] pos) (tCall sp [] E t):=by
 obtain⟨f,fd,F,hm,hk,hb⟩:=F.ex;exact zgR F hr hg hm hk hb .nil hx ha hdb he hpl
theorem zgP{pl:Sem Bool}(he:PE X o ta)(c:Cls X.K C)(F:Method X.prog X.w X.K X.mg X.base C m CX k ps sp)(hr:Room k X.A)(hx:Passes CX X E)(ha:PA X (e::es) t)
  (hst:starEach (e::es) X.env=(false,eval e X.env)::starEach es X.env:=by rfl) (hpl:(backTo pos (starEach es X.env)).any (·.1)=false:=by rfl)
  (ht:eval (.Call (.Attribute o m apos) (e::es) [] pos) X.env=(do
   let ov<-eval o X.env
   standAt apos.atName
   let (f,first)<-holding [ov] (getMethod ov m pl)
   callWith pos f first (backTo pos (starEach (e::es) X.env)) (backToKw pos (keywordEach [] X.env))):=by rfl):
  PE X (.Call (.Attribute o m apos) (e::es) [] pos) (tMeth C m sp [] E ta t):=by
 obtain⟨f,fd,F,hm,hb⟩:=F.ex;exact pe_meth he c hm F hr hb .nil hx ha hst hpl ht
theorem pe_mt0{pl:Sem Bool}(he:PE X o ta)(c:Cls X.K C)(F:Method X.prog X.w X.K X.mg X.base C m CX k ps sp)(hr:Room k X.A)(hx:Passes CX X E)
  (ht:eval (.Call (.Attribute o m apos) [] [] pos) X.env=(do
   let ov<-eval o X.env
   standAt apos.atName
   let (f,first)<-holding [ov] (getMethod ov m pl)
   callWith pos f first (backTo pos (starEach [] X.env)) (backToKw pos (keywordEach [] X.env))):=by rfl):
  PE X (.Call (.Attribute o m apos) [] [] pos) (tMeth C m sp [] E ta tNil):=by
 obtain⟨f,fd,F,hm,hb⟩:=F.ex;exact pe_meth0 he c hm F hr hb .nil hx ht
end
section
variable{X:Cx}
noncomputable def gLst(K:Am)(n:Nat)(t:TGs):TG:=fun v σ H Q=>∃a xs,v= .ref a/\SqL K H a xs/\xs.length=n/\t xs σ H Q
theorem zf0{es:List Cb}{k:Nat}{t:TGs}{n:Nat}{pos:Pos}(hc:X.calm=true)(h:PGs X es t)
  (hn:(assignEach es X.env).length=n:=by rfl) (hst:(assignEach es X.env).findIdx? (·.1)=none:=by rfl):PG X (.Tuple es k pos) (gLst X.K n t):=by
 intro pins s σ H v u Q I r hw;obtain⟨a,xs,e1,hq,hl,hw⟩:=hw;subst e1
 cases r
 obtain⟨its,rv,p,hz⟩:=I.list hq;rw[Rc];refine A1 (Ko ?_);unfold unpack;have hsz:(assignEach es X.env).length=its.toArray.size:=by simp[hn,<-hl,rv.length]
 rw[hsz,hst];refine A1 (Cs (PySem.W.kun_itemsOf (I.ok.hd hc) p.isList fun h' hx=>?_));have I1:Inv X pins σ H {s with heap:=h'}:=I.kept (t':=s.toks) fun b o e=>hx b o (B8 (An e)) e;exact h pins _ σ H xs _ Q I1 (by simpa using rv) hw
end
mutual
inductive VD(K:Am)(H:Hp):V->Iy->Prop
 |non:VD K H .non .none
 |bl (b:Bool):VD K H (.bl b) (.bool b)
 |int (i:Int):VD K H (.int i) (.int i)
 |str (x:Str):VD K H (.str x) (.str x)
 |lst {a:A3} {xs:List V} {ds:List Iy}:SqL K H a xs->VDs K H xs ds->VD K H (.ref a) (.list ds)
 |tup {a:A3} {xs:List V} {ds:List Iy}:SqT K H a xs->VDs K H xs ds->VD K H (.ref a) (.tuple ds)
inductive VDs(K:Am)(H:Hp):List V->List Iy->Prop
 |nil:VDs K H [] []
 |cons {x:V} {d:Iy} {xs:List V} {ds:List Iy}:VD K H x d->VDs K H xs ds->VDs K H (x::xs) (d::ds)
end
theorem VDs.map{K:Am}{H:Hp}{α:Type}{f:α->V}{g:α->Iy}:∀{l:List α},(∀x∈l,VD K H (f x) (g x))->VDs K H (l.map f) (l.map g)
 |[],_=>.nil
 |x::l,h=>.cons (h x Aj) (VDs.map fun y hy=>h y (Ac _ hy))
section
variable{X:Cx}{pins:List (A3×Obj)}{σ:St}{H:Hp}{s:A5}
mutual
theorem VD.reads(I:Inv X pins σ H s):∀{v:V}{d:Iy}{u:A2},VD X.K H v d->RelV v u->∃as,Reads s.heap u d as
 |_,_,_,.non,r=>by cases r;exact⟨_,.none⟩
 |_,_,_,.bl b,r=>by cases r;exact⟨_,.bool b⟩
 |_,_,_,.int i,r=>by obtain⟨t,rfl⟩:=r;exact⟨_,.int i t⟩
 |_,_,_,.str x,r=>by obtain⟨t,rfl⟩:=r;exact⟨_,.str x t⟩
 |_,_,_,.lst hq hs,r=>by
  cases r
  obtain⟨its,rv,⟨o,n,e,c,_,d⟩,_⟩:=I.list hq;obtain⟨as,ra⟩:=VDs.reads I hs rv;exact⟨_,.list e c d (by simpa using ra)⟩
 |_,_,_,.tup hq hs,r=>by
  cases r
  obtain⟨its,rv,⟨o,e,c,n,d⟩,_⟩:=I.tuple hq;obtain⟨as,ra⟩:=VDs.reads I hs rv;exact⟨_,.tuple e c d (by simpa using ra)⟩
theorem VDs.reads(I:Inv X pins σ H s):∀{vs:List V}{ds:List Iy}{us:List A2},VDs X.K H vs ds->Vals vs us->∃as,ReadsAll s.heap us ds as
 |_,_,_,.nil,r=>by cases r;exact⟨_,.nil⟩
 |_,_,_,.cons h hs,r=>by
  cases r with
  |cons r rr=>
   obtain⟨a1,r1⟩:=VD.reads I h r;obtain⟨a2,r2⟩:=VDs.reads I hs rr;exact⟨_,.cons r1 r2⟩
end
end
section
variable{X:Cx}
noncomputable def rEqD(K:Am)(neg:Bool):R2:=fun x y H Q=>∃d e,VD K H x d/\VD K H y e/\Fj d=true/\Fj e=true/\Q (.bl (if neg then !PyData.eqv d e else E3 d e)) H
theorem zhB(hu:X.A.units+64<cLine):OpR X (compareOp .Eq) (rEqD X.K false):=by
 intro pins s σ H x y v u Q I rx ry h;obtain⟨d,e,hd,he,s1,s2,q⟩:=h;obtain⟨a1,r1⟩:=hd.reads I rx;obtain⟨a2,r2⟩:=he.reads I ry;exact eq_dataH r1 r2 s1 s2 hu ⟨.bl _,H,I,rfl,q⟩
theorem op_neD(hu:X.A.units+64<cLine):OpR X (compareOp .NotEq) (rEqD X.K true):=by
 intro pins s σ H x y v u Q I rx ry h;obtain⟨d,e,hd,he,s1,s2,q⟩:=h;obtain⟨a1,r1⟩:=hd.reads I rx;obtain⟨a2,r2⟩:=he.reads I ry;exact ne_dataH r1 r2 s1 s2 hu ⟨.bl _,H,I,rfl,q⟩
theorem zeB:∀{xs:List Str}{us:List A2},Sq us xs->Vals (xs.map V.str) us
 |_,_,.nil=>.nil
 |_,_,.cons _ t r=>.cons ⟨t,rfl⟩ (zeB r)
theorem sorted_fin{pins:List (A3×Obj)}{σ:St}{H:Hp}{s:A5}{Q:VK}{vs:List A2}{out:Array A2}{ys:List V}(I:Inv X pins σ H s)(hl:ys.length<=sizeLine)(r:Vals ys out.toList)
  (q:Q (.ref (s.heap.objs.size+1)) (upd H (s.heap.objs.size+1) (.lst ys))):EP X pins σ Q (.ref (s.heap.objs.size+1)) {s with heap:=sortedAll s.heap vs out}:=by
 obtain⟨e,he⟩:=sortedAll_at s.heap vs out;exact⟨.ref (s.heap.objs.size+1),_,I.laid (t':=s.toks) (fun b o=>sortedAll_old) (Nj _) (show ObjOk X.prog X.w _ _ _ (.lst ys) from⟨hl,out.toList,e,r,by simpa using he⟩),rfl,q⟩
theorem zcb:CallR X (.builtin "sorted") (fun xs H Q=>∃(a:A3)(ns:List Int),xs=[V.ref a]/\SqL X.K H a (ns.map V.int)/\ns.length<64/\∀p(ns':List Int),H p=none->ns'.Perm ns->ns'.Pairwise (· <= ·)->Q (.ref p) (upd H p (.lst (ns'.map V.int)))):=by
 intro pins s σ H xs us Q I r h;obtain⟨a,ns,rfl,hq,hb,q⟩:=h;obtain⟨u,rfl,ru⟩:=zb2 r
 cases ru
 obtain⟨its,rv,p,hz⟩:=I.list hq;have hl:ns.length=its.length:=by have:=rv.length;rwa[A4] at this
 refine sorted_ints p.isList (zdf rv) (by omega) fun out ns' a1 a2 a3=>?_;exact sorted_fin I (by rw[A4,a2.length_eq];exact Bt (G9 hb) (by decide)) (zcC a1) (q _ ns' (I.hok.fresh (Nj _)) a2 a3)
end
theorem zdS:∀{l:List A2}{ss:List Str},l.length=ss.length->(∀(j:Nat)(v:A2)(x:Str),l[j]?=some v->ss[j]?=some x->∃t,v= .str x t)->Sq l ss
 |[],[],_,_=>.nil
 |v::l,x::ss,hl,h=>by
  obtain⟨t,rfl⟩:=h 0 v x rfl rfl;exact .cons _ _ (zdS (by simpa using hl) fun j u y e1 e2=>h (j+1) u y (by simpa using e1) (by simpa using e2))
theorem KV.get{κ:Type}:∀{a:List (κ×V)}{b:List (κ×A2)}{i:Nat}{k:κ}{x:A2},KV a b->b[i]?=some (k,x)->∃v,a[i]?=some (k,v)/\RelV v x
 |[],_,_,_,_,h,e=>by cases h;simp at e
 | (k',v') :: a,_,i,k,x,h,e=>by
  cases h with
  |cons r rr=>
   cases i with
   |zero=>
    simp at e;obtain⟨r1,r2⟩:=r;simp only at r1;rw[e] at r1 r2;exact⟨v',by rw[r1];rfl,r2⟩
   |succ i=>exact KV.get (i:=i) rr (by simpa using e)
section
variable{X:Cx}
theorem call_sortedD(hc:X.calm=true):CallR X (.builtin "sorted") (fun xs H Q=>∃(a:A3)(kvs:List (Key×V))(ss:List Str),xs=[V.ref a]/\Rd H a (.dK kvs)/\kvs.map (·.1)=ss.map Da/\ss.length<64/\
  ∀p(ss':List Str),H p=none->ss'.Perm ss->sortedS ss'=true->Q (.ref p) (upd H p (.lst (ss'.map V.str)))):=by
 intro pins s σ H xs us Q I r h;obtain⟨a,kvs,ss,rfl,hq,hk,h64,q⟩:=h;obtain⟨u,rfl,ru⟩:=zb2 r
 cases ru
 obtain⟨hz,lo,vs,kv,hD⟩:=(show ObjOk X.prog X.w H s.heap a (.dK kvs) from hq.ok I.hok);obtain⟨ep,hat⟩:=hD.dictAt;have hlen:vs.length=ss.length:=by
  have e1:=kv.length;have e2:=congrArg Ev hk;rw[A4,A4] at e2;omega
 have big64:(64:Nat)<=sizeLine:=by decide
 refine Fm Ot O0 O2 (O3 _) ?_;unfold Fp.«sorted»;refine A1 (m:=checkCount "sorted" 1 1 _) (Ae ?_);refine A1 (Jb (A:=X.A.in1) (Ng (knd:=mixKind X.prog X.w) (kvs:=vs) (ep:=ep) lo) (I.ok.hd hc) hat (by omega) fun h' tk acc hkeep hacc=>?_);have hl:acc.toList.length=vs.length:=by rw[As];exact hacc.1
 have hS:Sq acc.toList ss:=by
  refine zdS (by omega) fun j v x e1 e2=>?_;obtain⟨k,y,e3,hk2⟩:=hacc.2 j v (by rw[<-Cf];exact e1);obtain⟨v',e4,_⟩:=kv.get e3;have e5:(kvs.map (·.1))[j]?=some k:=by rw[Ad,e4];rfl
  rw[hk,Ad,e2] at e5;have e6:Da x=k:=Bw e5;subst e6;rcases zaD (show keyIs (Da x) v=true from hk2) with⟨i,t,e,_⟩|⟨y,t,e,e7⟩
  ·cases e
  ·cases e;exact⟨t,e7⟩
 refine A1 (Iu ?_ (by rw[hl];omega));have hoL:(h'.push (seqObj "list" acc.toList.toArray 0)).get? h'.objs.size=some (seqObj "list" acc.toList.toArray 0):=Aw _ rfl;refine A1 (Cs (Di Mo ⟨_,hoL,rfl⟩ M4 (list_sort_treeK strKind_oneLt hoL hS.keysOf (fun v₁ v₂ rest e=>keyKind_strs (by rw[<-e];exact hS)) (by omega) fun st' hp hs=>⟨_,rfl,?_⟩) (Mq _)));obtain⟨ss',a1,a2,a3⟩:=sorted_out_str hS hp hs;refine Ae ⟨_,rfl,?_⟩;obtain⟨e,he⟩:=Na (out:=(arrOf st').map (·.2)) hoL;have I1:Inv X pins σ H {s with heap:=h',toks:=tk}:=I.kept hkeep;have I2:=Inv.laid (o:=.lst (ss'.map V.str)) (a:=h'.objs.size) (h':=sortedHeap (h'.push (seqObj "list" acc.toList.toArray 0)) h'.objs.size acc.toList ((arrOf st').map (·.2))) (t':=tk) I1 (fun b o hb=>by
  have lt:=An hb;rw[Mm (B8 lt) (by rw[Eb];exact Eg lt)];exact A8 _ hb) (Ab _) (show ObjOk X.prog X.w _ _ _ (.lst (ss'.map V.str)) from⟨by rw[A4,a2.length_eq];omega,_,e,zeB a1,by rw[N3];exact he⟩)
 exact⟨.ref h'.objs.size,_,I2,rfl,q _ ss' (I1.hok.fresh (Ab _)) a2 a3⟩
end
section
variable{X:Cx}{pins:List (A3×Obj)}{σ:St}{H:Hp}{s:A5}{a:A3}{kvs:List (Key×V)}
theorem Inv.freeze(I:Inv X pins σ H s)(h:H a=some (.dK kvs)):∃o,s.heap.get? a=some o/\Inv X pins σ (upd H a (.frz o (.dK kvs))) s:=by
 have ok:=(show ObjOk X.prog X.w H s.heap a (.dK kvs) from I.hok a _ h);obtain⟨o,ho⟩:=ok.there;refine⟨o,ho,?_⟩;have:=Inv.write (x:=a) (e:=a) (o:=.frz o (.dK kvs)) (h':=s.heap) (t':=s.toks) I (by rw[h];trivial) (.inl rfl) (fun _ _ _ q=>q) ⟨o,ho⟩ ⟨ho,ok.stay (fun _ _ _ q=>q) (fun b q=>by rw[zah (fun z=>by rw[z,h] at q;cases q)];exact q) fun b xs q=>by rw[zah (fun z=>by rw[z,h] at q;cases q)];exact q⟩;exact this
theorem Inv.unfreeze{o:Obj}(I:Inv X pins σ H s)(h:H a=some (.frz o (.dK kvs)))(h0:∀o u,X.H₀ a≠some (.frz o u)):Inv X pins σ (upd H a (.dK kvs)) s:=by
 have nn:∀b,H b=none->b≠a:=fun b q z=>by rw[z,h] at q;cases q
 obtain⟨ho,ok⟩:=(show ObjOk X.prog X.w H s.heap a (.frz o (.dK kvs)) from I.hok a _ h);have own:∀b y,H b=some (.own y)->upd H a (.dK kvs) b=some (.own y):=fun b y q=>by rw[zah (fun z=>by rw[z,h] at q;cases q)];exact q
 have tups:∀b xs,H b=some (.tup xs)->upd H a (.dK kvs) b=some (.tup xs):=fun b y q=>by rw[zah (fun z=>by rw[z,h] at q;cases q)];exact q
 refine⟨I.ok,I.os,I.bare,⟨I.base.keep,I.base.slot,fun b u q n hx=>?_,I.base.there,fun b xs q=>tups b xs (I.base.tups b xs q),fun b u v q=>?_,fun b ps q=>?_⟩,I.loc,I.cell,?_,fun y c e=>?_,fun p hp=>?_,fun b u q=>?_,I.len⟩
 ·have:=I.base.free b u q n hx;rw[zah (nn b this)];exact this
 ·have q':=I.base.frzs b u v q;rw[zah (fun z=>h0 _ _ (z▸q))];exact q'
 ·obtain⟨m,e⟩:=I.base.tbls b ps q;exact⟨m,by rw[zah (fun z=>by rw[z,h] at e;cases e)];exact e⟩
 ·rw[zah (nn _ I.free)];exact I.free
 ·rw[zah (nn _ (I.freeC y c e))];exact I.freeC y c e
 ·obtain⟨e1,e2,e3,e4,e5⟩:=I.pin p hp;exact⟨e1,by rw[zah (nn _ e2)];exact e2,e3,e4,e5⟩
 ·by_cases hb:b=a
  ·subst hb;rw[zab] at q
   cases q
   exact ok.stay (fun _ _ _ q=>q) (fun c q=>own c _ q) tups
  ·rw[zah hb] at q;exact(I.hok b u q).stay (fun _ _ _ q=>q) (fun c q=>own c _ q) tups
end
noncomputable def Itd(a:A3)(o:Obj)(kvs:List (Key×V)):It:=⟨fun i H=>H a=some (.frz o (.dK kvs))/\i<kvs.length,fun i H v H'=>H'=H/\∃k y,kvs[i]?=some (k,y)/\v=kV k,fun i H=>H a=some (.frz o (.dK kvs))/\kvs.length<=i⟩
theorem kV_rel{k:Key}{v:A2}(h:keyIs k v=true):RelV (kV k) v:=by
 rcases zaD h with⟨i,t,rfl,rfl⟩|⟨x,t,rfl,rfl⟩
 ·exact⟨t,rfl⟩
 ·exact⟨t,rfl⟩
theorem zg9{X:Cx}{pins:List (A3×Obj)}{σ:St}{H:Hp}{s:A5}{a:A3}{o:Obj}{kvs:List (Key×V)}{es:Array Gu}{ep:Nat}(I:Inv X pins σ H s)(h:H a=some (.frz o (.dK kvs)))(hd:o.data= .dict es ep):
  (a==sysModules)=false/\∃vs,KV kvs vs/\s.heap.DictAt (mixKind X.prog X.w) a vs ep:=by
 obtain⟨ho,hz,lo,vs,kv,o',es',ep',ho',c,d,r⟩:=(show ObjOk X.prog X.w H s.heap a (.frz o (.dK kvs)) from I.hok a _ h);rw[ho] at ho'
 cases ho'
 rw[hd] at d
 cases d
 exact⟨lo,vs,kv,o,es,ho,c,hd,r⟩
theorem turn_dict{P:Ap}{w:Bd}{K:Am}{tg:Cb}(a it:A3)(o:Obj)(kvs:List (Key×V))(es:Array Gu)(ep:Nat)(hd:o.data= .dict es ep):
  Turn P w K tg (Itd a o kvs) [it] it (fun i h=>h.IsKeyIter it a i kvs.length ep) where
 mem:=by simp
 obj:=fun i h st b hb=>by
  have e:b=it:=by simpa using hb
  subst e;obtain⟨o,e,c,d⟩:=st;exact⟨o,e,fun v z=>by rw[d] at z;cases z⟩
 keep:=fun i h h' st k=>by
  obtain⟨o,e,r⟩:=st;exact⟨o,k it (by simp) o e,r⟩
 item:=by
  intro X hP hw hK hc i pins s σ H E I hf st hg;subst hP hw hK;obtain⟨hz,hi⟩:=hg;obtain⟨lo,vs,kv,hat⟩:=zg9 I hz hd;obtain⟨f0,f1,f2,f3,f4,f5⟩:=hf it (by simp);have hl:=kv.length;have hx:vs[i]?=some (vs[i]'(by omega)):=A9 _;refine wpAny_pyNext_dict_item (knd:=mixKind X.prog X.w) (k:=(vs[i]'(by omega)).1) (v:=(vs[i]'(by omega)).2) (by rw[<-hl];exact st) hat hx fun key h' hk st' sb=>?_;have I1:Inv X pins σ H {s with heap:=h'}:=I.turned (t':=s.toks) (fun b o hb e=>(sb.2 b hb).trans e) f0 f1 f3 f4 f5;obtain⟨o',e,c,d⟩:=id st';obtain⟨y,e2,_⟩:=kv.get (k:=(vs[i]'(by omega)).1) (x:=(vs[i]'(by omega)).2) hx;exact⟨key,rfl,zfw (s:={s with heap:=h'}) e c d (by decide) ⟨kV (vs[i]'(by omega)).1,H,I1,kV_rel hk,⟨rfl,_,y,e2,rfl⟩,by rw[hl];exact st',fun b hb=>(hf b hb).1⟩⟩
 done:=by
  intro X hP hw hK hc i pins s σ H E I hf st hg;subst hP hw hK;obtain⟨hz,hi⟩:=hg;obtain⟨lo,vs,kv,hat⟩:=zg9 I hz hd;obtain⟨f0,f1,f2,f3,f4,f5⟩:=hf it (by simp);have hl:=kv.length;exact wpAny_pyNext_dict_end (knd:=mixKind X.prog X.w) (I.ok.hd hc) (by rw[<-hl];exact st) hat (C4 (by omega)) fun h' eb=>⟨rfl,I.turned (t':=s.toks) (fun b o hb e=>eb b o hb e) f0 f1 f3 f4 f5⟩
 self:=fun A i s Q E st h=>by
  obtain⟨o,e,c,d⟩:=st;exact K1 ⟨o,e,c,d⟩ h
theorem gives_dict(a:A3)(o:Obj)(kvs:List (Key×V)):Gives (Itd a o kvs) (fun H=>H a=some (.frz o (.dK kvs))) (kvs.map fun p=>kV p.1) where
 go:=fun i H q h=>⟨q,by simpa using h⟩
 yld:=fun i H v H' q y h=>by
  obtain⟨e,k,w,hk,rfl⟩:=y;exact⟨e,by rw[Ad,hk];rfl⟩
 stop:=fun H q=>⟨q,by simp⟩
section
variable{X:Cx}{tg:Cb}
noncomputable def iDic(i:Nat):TI:=fun σ H R=>∃a o kvs,σ[i]?=some (some (.ref a))/\H a=some (.frz o (.dK kvs))/\R (Itd a o kvs) H
theorem zhx{i:Nat}{x:Str}{np:Pos}(hx:PE X (.Name x np) (tVar i)):PI X tg (.Name x np) (iDic i):=by
 intro pins s σ H R I h;obtain⟨a,o,kvs,hσ,ha,q⟩:=h;refine thnE (hx pins s σ H (fun v H1=>v= .ref a/\H1=H) I ⟨_,hσ,rfl,rfl⟩) fun v s1 y H1 I1 r1⟨e1,e2⟩=>?_;subst e1 e2
 cases r1
 obtain⟨ho,_,_,_,_,o',es,ep,ho',_,d,_⟩:=(show ObjOk X.prog X.w H1 s1.heap a (.frz o (.dK kvs)) from I1.hok a _ ha);rw[ho] at ho'
 cases ho'
 obtain⟨lo,vs,kv,hat⟩:=zg9 I1 ha d;refine wpAny_pyIter_dict (knd:=mixKind X.prog X.w) lo hat ?_;refine⟨s1.heap.objs.size,[s1.heap.objs.size],_,_,H1,rfl,I1.kept (t':=s1.toks) fun b o e=>A8 _ e,turn_dict a _ o kvs es ep d,?_,fun b hb=>?_,q⟩
 ·rw[kv.length];exact⟨_,Aw _ rfl,rfl,rfl⟩
 ·have e:b=s1.heap.objs.size:=by simpa using hb
  subst e;exact I1.fpOk (Ab _) (I1.hok.fresh (Ab _))
noncomputable def Dfrz(a:A3)(o:Obj)(kvs:List (Key×V))(D:Ends):Ends:={nx:=fun σ H=>H a=some (.frz o (.dK kvs))/\D.nx σ (upd H a (.dK kvs)),rt:=fun v H=>H a=some (.frz o (.dK kvs))/\D.rt v (upd H a (.dK kvs)),bk:=fun σ H=>H a=some (.frz o (.dK kvs))/\D.bk σ (upd H a (.dK kvs)),ct:=fun σ H=>H a=some (.frz o (.dK kvs))/\D.ct σ (upd H a (.dK kvs))}
noncomputable def tForD(i:Nat)(g:TG)(tb:TS):TS:=fun D σ H=>∃a kvs,σ[i]?=some (some (.ref a))/\H a=some (.dK kvs)/\∀o,∃W:Nat->Nat->St->Hp->Prop,(∃m,W 0 m σ (upd H a (.frz o (.dK kvs))))/\∀j m σ H,W j m σ H->
 ((Itd a o kvs).stop j H/\(Dfrz a o kvs D).nx σ H)\/((Itd a o kvs).go j H/\∃N:St->Hp->Prop,(∀σ' H',N σ' H'->∃m',m'<m/\W (j+1) m' σ' H')/\
  ∀x H',(Itd a o kvs).yld j H x H'->g x σ H' fun σ2 H2=>tb {Dfrz a o kvs D with nx:=N,ct:=N,bk:=(Dfrz a o kvs D).nx} σ2 H2)
theorem ps_forD{i:Nat}{x:Str}{body:List Ca}{g:TG}{tb:TS}{np pos:Pos}(hp:Np (model X.prog X.w) X.A X.env X.xe)(hc:X.calm=true)(hx:PE X (.Name x np) (tVar i))(hg:PG X tg g)(hb:PSs X body tb)
  (hs:∀y,foldedSetIterable (.Name x np) X.env y=pure y:=by intro _;rfl):PS X (.For tg (.Name x np) body [] pos) (tForD i g tb):=by
 intro pins s σ H D I h;obtain⟨a,kvs,hσ,ha,h⟩:=h;obtain⟨o,ho,I1⟩:=I.freeze ha;have h0:∀o u,X.H₀ a≠some (.frz o u):=fun o' u z=>by
  have:=I.base.frzs a o' u z;rw[ha] at this
  cases this
 refine Ct (zaY hp hc (zhx hx) hg hb hs pins s σ (upd H a (.frz o (.dK kvs))) (Dfrz a o kvs D) I1 ⟨a,o,kvs,hσ,zab,h o⟩) (fun f s' q=>?_) fun _ _ z=>z
 cases f with
 |next=>obtain⟨σ',H',J,e,q⟩:=q;exact⟨σ',_,J.unfreeze e h0,q⟩
 |brk=>obtain⟨σ',H',J,e,q⟩:=q;exact⟨σ',_,J.unfreeze e h0,q⟩
 |cont=>obtain⟨σ',H',J,e,q⟩:=q;exact⟨σ',_,J.unfreeze e h0,q⟩
 |ret u=>obtain⟨v,σ',H',J,r,e,q⟩:=q;exact⟨v,σ',_,J.unfreeze e h0,r,q⟩
end
structure HCallee(P:Ap)(w:Bd)(K:Am)(mg:Str->Option A2)(base:Bx)(x:Str)(k:Nat)(ps:List Str)(spf:A3->A2->Sp):Prop where
 ex:∃f fd,(∀(e:A3)(oe:Obj)(c:A2)(vs:Array A2),oe.cls=c/\oe.dict=none->oe.data= .fields vs->vs[2]?=some .none->FnOkH P w K mg base e oe k f fd ps (spf e c))/\
  mg x=some (.ref f)/\D0 K (.ref f)=true/\Binds K fd ps []
theorem DefAt.hcallee{P:Ap}{w:Bd}{K:Am}{mg:Str->Option A2}{base:Bx}{x:Str}{st:Ca}{N ps:List Str}{k:Nat}{spf:A3->A2->Sp}(D:DefAt K mg x st)(S:FnScope N ps (defScope st))
  (hb:∀(kV doc pm:A2)(an:Option A3)(cdv ct:A2)(us:List A2),us.length=ps.length->bindArgs (Ck x x (defArgs st) (defBody st) (defScope st) .none kV doc pm an cdv ct) ⟨us,[]⟩=pure (ps.zip us))
  (len:∀e c vs H Q E,spf e c vs H Q E->vs.length=ps.length)
  (hbody:∀(f:A3)(cdv:A2)(A:B5)(outer:List Env)(s:A5)(H:Hp)(vs:List V)(Q:VK)(e:A3)(oe:Obj)(c:A2)(ws:Array A2),oe.cls=c/\oe.dict=none->oe.data= .fields ws->QH e oe (cxH P w K mg base N x (defScope st) f cdv A outer s H e oe)->spf e c vs H Q E0->
   ∃t,PSs (cxH P w K mg base N x (defScope st) f cdv A outer s H e oe) (defBody st) t/\t {nx:=fun _ H'=>Q .non H',rt:=Q} (start N vs) H):HCallee P w K mg base x (k+1) ps spf:=by
 obtain⟨f,fd,F,m⟩:=D.ex;have hbi:=F.binds hb;obtain⟨oc,od,kV,doc,pm,an,cdv,ct,osl,rfl,lk,hcd⟩:=id F.ex;exact⟨f,_,fun e oe c ws hc hd h2=>fn_ofH lk hcd S (len e c) fun A outer s H vs Q hh h=>hbody f cdv A outer s H vs Q e oe c ws hc hd (cxH_q hh hd h2) h,m,F.kp,hbi⟩
section
variable{X:Cx}{f:Str}{k k':Nat}{ps:List Str}{spf:A3->A2->Sp}{p pos:Pos}{e:Cb}{es:List Cb}{t:TA}{x:A3}{c:A2}{ox:Obj}{pn:List (A3×Obj)}{vs:Array A2}
theorem pe_hand(C:HCallee X.prog X.w X.K X.mg X.base f k ps spf)(hr:Room k' X.A)(hx:x∉frs X.stack)(hc:ox.cls=c/\ox.dict=none)(hd:ox.data= .fields vs)(h2:vs[2]?=some .none)(hk:k<=k')(hg:Gl X f)
  (ha:PA (cxHand X x ox pn) (e::es) t) (hdb:(f==("__debug__":Str))=false:=by decide)
  (he:starEach (e::es) X.env=(false,eval e X.env)::starEach es X.env:=by rfl) (hpl:(backTo pos (starEach es X.env)).any (·.1)=false:=by rfl):PE (cxHand X x ox pn) (.Call (.Name f p) (e::es) [] pos) (tCall (spf x c) [] E0 t):=by
 obtain⟨fa,fd,F,m,kp,hb⟩:=C.ex;exact pe_callH (X:=cxHand X x ox pn) (F x ox c vs hc hd h2) (Room.mark (hr.mono hk)) Aj hx hg m kp hb ha hdb he hpl
end
structure Maker(P:Ap)(w:Bd)(K:Am)(mg:Str->Option A2)(base:Bx)(x:Str)(C:A3)(CX:CXT)(k:Nat)(ps:List Str)(sp:Sp):Prop where
 ex:∃f fd,Mk K C f/\FnOk P w K mg base CX k f fd ps sp/\mg x=some (.ref C)/\Binds K fd ps []
theorem pe_mk0{X:Cx}{x:Str}{C:A3}{CX:CXT}{k:Nat}{ps:List Str}{sp:Sp}{E:XK}{p pos:Pos}(M:Maker X.prog X.w X.K X.mg X.base x C CX k ps sp)(hr:Room (k+1) X.A)(hx:Passes CX X E)(hg:Gl X x)(hdb:(x==("__debug__":Str))=false:=by decide):
  PE X (.Call (.Name x p) [] [] pos) (tMake C sp [] E tNil):=by
 obtain⟨f,fd,M,F,m,b⟩:=M.ex;exact pe_make0 M F hr hg m b .nil hx hdb
section
variable{Y:Cx}
theorem op_notIn_seq'(K:Am)(h:Y.K=K):OpR Y (compareOp .NotIn) (rIn K true):=by subst h;exact zb7
theorem zde(K:Am)(h:Y.K=K):IxR Y (rIxL K):=by subst h;exact zaO
theorem ix_tup'(K:Am)(h:Y.K=K):IxR Y (rIxT K):=by subst h;exact zaN
end
noncomputable def isStar:Cb->Bool
 | .Starred _ _=>true
 |_=>false
theorem star_cons{e:Cb}(es:List Cb)(env:Env)(h:isStar e=false):starEach (e::es) env=(false,eval e env)::starEach es env:=by
 cases e<;>first|rfl|cases h
structure QA(X:Cx)(es:List Cb)(t:TA):Prop where h:PA X es t
structure QE(X:Cx)(e:Cb)(t:TE):Prop where h:PE X e t
section
variable{X:Cx}{e:Cb}{es:List Cb}{te:TE}{t:TA}{pos:Pos}
theorem qe(h:PE X e te):QE X e te:=⟨h⟩
theorem zaC:QA X [] tNil:=⟨zae⟩
theorem zag(ha:QE X e te)(hr:QA X es t)(h:isStar e=false:=by rfl):QA X (e::es) (tCons te t):=⟨zaa ha.h hr.h (star_cons es X.env h)⟩
theorem zbh{k}(h:QA X es t):QE X (.Tuple es k pos) (tTup t):=⟨zbi h.h⟩
theorem zbo(h:QA X es t):QE X (.List es pos) (tLst t):=⟨zaZ h.h⟩
end
structure QS(X:Cx)(st:Ca)(t:TS):Prop where h:PS X st t
structure QSs(X:Cx)(st:List Ca)(t:TS):Prop where h:PSs X st t
section
variable{X:Cx}{st:Ca}{rest:List Ca}{t u:TS}{a b e:Cb}{ta tb te:TE}{pos:Pos}
theorem qs(h:PS X st t):QS X st t:=⟨h⟩
theorem zfm(h:QS X st t):QSs X [st] t:=⟨zaf h.h⟩
theorem qe_ix{r:R2}(hr:IxR X r)(ha:QE X a ta)(hb:QE X b tb)(hs:PlainIx b):QE X (.Subscript a b pos) (tOp r ta tb):=⟨zaB hr ha.h hb.h hs⟩
theorem zdO{op:Operator}{r:R2}(ho:OpR X (binaryOp op) r)(ha:QE X a ta)(hb:QE X b tb):QE X (.BinOp a op b pos) (tOp r ta tb):=⟨zau ho ha.h hb.h⟩
theorem zaF(h:QS X st t)(hr:QSs X rest u):QSs X (st::rest) (tSeq t u):=⟨zac h.h hr.h⟩
theorem qss_cut(h:QS X st t)(hr:QSs X rest u):QSs X (st::rest) (tCut t u):=⟨zcp h.h hr.h⟩
theorem zgI(h:QE X e te):QS X (.Return (some e) pos) (tRet te):=⟨zaj h.h⟩
theorem zbg{i:Nat}{x:Str}{pos':Pos}(hN:X.N.Nodup)(hi:X.N[i]?=some x)(hx:Loc X.env.scope x)(he:QE X e te)(hs:swapsWith e (some (.Name x pos')) pos.line X.env=pure false:=by rfl)(hf:X.fn x=true\/X.env.scope.names.lookup x=some .local:=by first|exact .inl rfl|exact .inr rfl|assumption):
  QS X (.Assign [.Name x pos'] e pos) (tAsg te (gName i)):=⟨zak hN hi hx he.h hs hf⟩
end
theorem DefAt.calleeQ{P:Ap}{w:Bd}{K:Am}{mg:Str->Option A2}{base:Bx}{x:Str}{st:Ca}{N ps:List Str}{k:Nat}{sp:Sp}(D:DefAt K mg x st)(S:FnScope N ps (defScope st))
  (hb:∀(kV doc pm:A2)(an:Option A3)(cdv ct:A2)(us:List A2),us.length=ps.length->bindArgs (Ck x x (defArgs st) (defBody st) (defScope st) .none kV doc pm an cdv ct) ⟨us,[]⟩=pure (ps.zip us))
  (len:∀vs H Q E,sp vs H Q E->vs.length=ps.length)
  (hbody:∀(f:A3)(cdv:A2)(A:B5)(outer:List Env)(s:A5)(H:Hp)(vs:List V)(Q:VK)(E:XK),Room k (A.deeper (envOfC x (defScope st) s.heap.objs.size f cdv))->sp vs H Q E->
   ∃t,QSs (cxOf CX0 P w K mg base N x (defScope st) f cdv A outer s H E).nox (defBody st) t/\t {nx:=fun _ H'=>Q .non H',rt:=Q} (start N vs) H):Callee P w K mg base x (k+1) ps sp:=
 D.callee S hb len fun f cdv A outer s H vs Q E hr h=>let ⟨t,q,r⟩:=hbody f cdv A outer s H vs Q E hr h;⟨t,q.h,r⟩
theorem DefAt.hcalleeQ{P:Ap}{w:Bd}{K:Am}{mg:Str->Option A2}{base:Bx}{x:Str}{st:Ca}{N ps:List Str}{k:Nat}{spf:A3->A2->Sp}(D:DefAt K mg x st)(S:FnScope N ps (defScope st))
  (hb:∀(kV doc pm:A2)(an:Option A3)(cdv ct:A2)(us:List A2),us.length=ps.length->bindArgs (Ck x x (defArgs st) (defBody st) (defScope st) .none kV doc pm an cdv ct) ⟨us,[]⟩=pure (ps.zip us))
  (len:∀e c vs H Q E,spf e c vs H Q E->vs.length=ps.length)
  (hbody:∀(f:A3)(cdv:A2)(A:B5)(outer:List Env)(s:A5)(H:Hp)(vs:List V)(Q:VK)(e:A3)(oe:Obj)(c:A2)(ws:Array A2),oe.cls=c/\oe.dict=none->oe.data= .fields ws->QH e oe (cxH P w K mg base N x (defScope st) f cdv A outer s H e oe)->spf e c vs H Q E0->
   ∃t,QSs (cxH P w K mg base N x (defScope st) f cdv A outer s H e oe) (defBody st) t/\t {nx:=fun _ H'=>Q .non H',rt:=Q} (start N vs) H):HCallee P w K mg base x (k+1) ps spf:=
 D.hcallee S hb len fun f cdv A outer s H vs Q e oe c ws hc hd hq h=>let ⟨t,q,r⟩:=hbody f cdv A outer s H vs Q e oe c ws hc hd hq h;⟨t,q.h,r⟩
theorem zbp{X:Cx}{x:Str}{C:A3}{pos:Pos}(hg:Gl X x)(hm:X.mg x=some (.ref C))(hd:(x==("__debug__":Str))=false:=by decide):PE X (.Name x pos) (tC (.ref C)):=zgQ (v:=.ref C) hg hm rfl hd
section
variable{K:Am}{C D CE:A3}{oc:A2}{od:Option A3}{cd:ClassData}{sl:Array (Option A2)}{b:Bool}
end
theorem zbm{H:Hp}{p l:A3}{ys:List V}{o:HO}(h:H l=some (.lst ys))(n:H p=none):upd H p o l=some (.lst ys):=by rw[zah (zaq h n)];exact h
theorem Same.lstE{H0 H:Hp}(m:Same H0 H){o:HO}{p:A3}(n:H p=none):Same H0 (upd H p o)/\upd H p o p=some o:=⟨m.put (m.free n),zab⟩
theorem zhM{ns:List Int}{k:Int}(h0:0<=k)(h:k<(ns.length:Int)):atI (ns.map V.int) k=some (V.int (ns.getD k.toNat 0)):=by
 have hk:k.toNat<ns.length:=by omega
 have e:((k.toNat:Nat):Int)=k:=by omega
 rw[<-e];refine zay ?_;rw[Ad,Ai,De,A9 hk];rfl
theorem getD_big{ns:List Int}{k:Int}(h:¬k<(ns.length:Int)):ns.getD k.toNat 0=0:=by
 rw[Ai,C4 (by omega)];rfl
theorem zcQ{x:Str}:x.cps.toList.length=x.length:=by simp[Rt]
theorem za0:1000<=sizeLine:=by decide
theorem big{n:Nat}(h:n<=1000):n<=sizeLine:=Bt h za0
theorem bigr{n:Nat}(h:Nat.ble n 1000=true):n<=sizeLine:=big (N7 h)
theorem p2:(0:Int)<2:=by decide
theorem p6:(0:Int)<6:=by decide
theorem len_app(x y:Str):(x++y).length=x.length+y.length:=by
 have:=congrArg Ev (Ll x y);rw[Ag,zcQ,zcQ,zcQ] at this;exact this
theorem zeo(c:Nat):(⟨#[c]⟩:Str).length=1:=rfl
theorem zgi{a b:Int}:decide (V.int a=V.int b)=decide (a=b):=by
 rw[decide_eq_decide];exact⟨fun h=>by injection h,fun h=>by rw[h]⟩
theorem zbJ{i n:Nat}{lo:Int}{x:V}(h:((Af n).map fun i=>V.int (lo+((i:Nat):Int)))[i]?=some x):i<n/\x=V.int (lo+((i:Nat):Int)):=by
 have hi:i<n:=by
  have:=(Ar.mp h).1;simpa using this
 rw[Ad,C6 hi] at h
 cases h
 exact⟨hi,rfl⟩
noncomputable def small(c:Nat):Bool:=decide (97<=c)&&decide (c<=122)
noncomputable def isName(x:Str):Bool:=(decide (1<=x.length)&&decide (x.length<=6))&&x.cps.toList.all small
noncomputable def abc:Str:=A0 "abcdefghijklmnopqrstuvwxyz"
theorem zez:abc.cps.toList=(Af 26).map (97+ ·):=by decide+kernel
theorem zfE:abc.length=26:=by decide+kernel
theorem abc_at{k:Int}(h0:0<=k)(h:k<26):∃c,atI abc.cps.toList k=some c/\small c=true:=by
 have e:((k.toNat:Nat):Int)=k:=by omega
 refine⟨97+k.toNat,?_,?_⟩
 ·rw[<-e];refine zay ?_;rw[zez,Ad,C6 (by omega),De];rfl
 ·unfold small;rw[decide_eq_true (by omega:97<=97+k.toNat),decide_eq_true (by omega:97+k.toNat<=122)];rfl
theorem zgW{x:Str}(h1:1<=x.length)(h2:x.length<=6)(h3:x.cps.toList.all small=true):isName x=true:=by
 unfold isName;rw[decide_eq_true h1,decide_eq_true h2,h3];rfl
theorem name_one{c:Nat}(h:small c=true):isName ⟨#[c]⟩=true:=zgW (by rw[zeo];decide) (by rw[zeo];decide) (by simp[h])
theorem name_len{x:Str}(h:isName x=true):1<=x.length/\x.length<=6:=by
 unfold isName at h;simp only[Bu,decide_eq_true_eq] at h;exact h.1
theorem app_list(x y:Str):(x++y).cps.toList=x.cps.toList++y.cps.toList:=Ll x y
theorem zdc{α:Type}[DecidableEq α]:∀{l m:List α},l.Nodup->(∀x∈l,x∈m)->l.length<=m.length
 |[],_,_,_=>Bs _
 |x::l,m,hn,h=>by
  have hx:=h x Aj;have hn:=Dn.mp hn;have ih:=zdc (m:=m.erase x) hn.2 fun y hy=>(List.mem_erase_of_ne (fun z:y=x=>hn.1 (by rw[<-z];exact hy))).mpr (h y (Ac _ hy));have e:=Lz hx;have:=Io hx;rw[Av];omega
theorem zg2(x:Str)(us:List Str):inV (V.str x) (us.map V.str)=decide (x∈us):=by
 unfold inV;rw[Ip,Ay,Bp,decide_eq_true_eq];constructor
 ·rintro⟨y,hy,e⟩;have e':(y==x)=true:=e;rw[<-eq_of_beq e'];exact hy
 ·intro h;exact⟨x,h,beq_self_eq_true x⟩
theorem ze4(us:List Str):(us.map V.str).all flatV=true:=by
 rw[Iq,Cv];intro x _;rfl
theorem spare_some(us:List Str)(h:us.length<=25):∃c∈abc.cps.toList,(⟨#[c]⟩:Str)∉us:=by
 apply Dk;intro hn;have hall:∀y∈abc.cps.toList.map (fun c=>(⟨#[c]⟩:Str)),y∈us:=fun y hy=>by
  obtain⟨c,hc,rfl⟩:=A7.mp hy;exact Dk fun z=>hn ⟨c,hc,z⟩
 have nd:(abc.cps.toList.map (fun c=>(⟨#[c]⟩:Str))).Nodup:=by
  rw[zez,Bb];decide+kernel
 have:=zdc nd hall;rw[A4,zcQ,zfE] at this;omega
theorem abc_small{c:Nat}(h:c∈abc.cps.toList):small c=true:=by
 rw[zez] at h;obtain⟨i,hi,rfl⟩:=A7.mp h;have:=Be.mp hi;unfold small;rw[decide_eq_true (by omega:97<=97+i),decide_eq_true (by omega:97+i<=122)];rfl
theorem zdG:∀(ns acc:List Int),(ns.foldl Hu acc).length<=acc.length+ns.length/\(acc.Nodup->((ns.foldl Hu acc).length=acc.length+ns.length↔(acc++ns).Nodup))
 |[],acc=>⟨by simp,fun h=>by simp[h]⟩
 |n::ns,acc=>by
  rw[J8];by_cases hm:n∈acc
  ·have e:Hu acc n=acc:=by
    unfold Hu;rw[if_pos (Bp.mpr ⟨n,hm,by simp⟩)]
   rw[e];have ih:=zdG ns acc;refine⟨by have:=ih.1;rw[Av];omega,fun _=>⟨fun z=>?_,fun z=>?_⟩⟩
   ·have:=ih.1;rw[Av] at z;omega
   ·exact absurd rfl ((Cz.mp z).2.2 n hm n Aj)
  ·have e:Hu acc n=acc++[n]:=by
    unfold Hu;rw[if_neg];intro z;obtain⟨x,hx,ex⟩:=Bp.mp z;have:x=n:=by simpa using ex
    subst this;exact hm hx
   rw[e];have ih:=zdG ns (acc++[n]);rw[Ag,Bq,Au] at ih;refine⟨by have:=ih.1;rw[Av];omega,fun h=>?_⟩;have hn:(acc++[n]).Nodup:=by
    refine Cz.mpr ⟨h,by simp,fun a ha b hb=>?_⟩;have:b=n:=by simpa using hb
    subst this;intro z;subst z;exact hm ha
   have:=ih.2 hn;rw[Av];rw[show acc.length+(ns.length+1)=acc.length+1+ns.length by omega];exact this
theorem many_eq(ns:List Int):many ns=(ns.foldl Hu []).length:=by
 unfold many firstMet;congr 2;apply Fc;intro i;rw[Ad];by_cases h:i<ns.length
 ·rw[C6 h];simp[Ai,h]
 ·rw[C4 (by simpa using h),C4 (by simpa using h)];rfl
theorem many_nodup(ns:List Int):many ns=ns.length↔ns.Nodup:=by
 rw[many_eq];have:=(zdG ns []).2 Df;simpa using this
noncomputable def inR(t:Int):Bool:=decide (0<=t)&&decide (t<=7)
noncomputable def areTeeth(ts:List Int):Bool:=decide (0∈ts)&&(decide (many ts=ts.length)&&ts.all inR)
theorem in_zero(ts:List Int):inV (V.int 0) (ts.map V.int)=decide (0∈ts):=by
 unfold inV;rw[Ip,Ay,Bp,decide_eq_true_eq];constructor
 ·rintro⟨x,hx,e⟩;have:x=0:=by
   have e':(x==0)=true:=e;exact eq_of_beq e'
  rw[<-this];exact hx
 ·intro h;exact⟨0,h,rfl⟩
theorem zhr(ts:List Int):(ts.map V.int).all flatV=true:=by
 rw[Iq,Cv];intro x _;rfl
noncomputable def KindsL(G:A3->Prop)(H:Hp):List V->List (Str×List Int)->Prop
 |[],[]=>True
 |v::vs,k::ks=>(∃q t,v= .ref q/\H q=some (.lst [.str k.1,.ref t])/\H t=some (.lst (k.2.map V.int))/\G q/\G t)/\KindsL G H vs ks
 |_,_=>False
theorem KindsL.mono{G G':A3->Prop}{H H':Hp}(s:∀a o,G a->H a=some o->H' a=some o)(g:∀a,G a->G' a):∀{vs:List V}{ks:List (Str×List Int)},KindsL G H vs ks->KindsL G' H' vs ks
 |[],[],_=>trivial
 |_::_,_::_,⟨⟨q,t,e,h1,h2,g1,g2⟩,r⟩=>⟨⟨q,t,e,s _ _ g1 h1,s _ _ g2 h2,g _ g1,g _ g2⟩,KindsL.mono s g r⟩
 |[],_::_,h=>h.elim
 |_::_,[],h=>h.elim
theorem KindsL.same{G:A3->Prop}{H H':Hp}{vs:List V}{ks:List (Str×List Int)}(s:Same H H')(h:KindsL G H vs ks):KindsL G H' vs ks:=h.mono (fun a o _ e=>s a o e) fun _ g=>g
theorem KindsL.upd{G:A3->Prop}{H:Hp}{p:A3}{o:HO}{vs:List V}{ks:List (Str×List Int)}(h:KindsL G H vs ks)(n:¬G p):KindsL G (upd H p o) vs ks:=h.mono (fun a u g e=>by rw[zah (fun z:a=p=>n (by rw[<-z];exact g))];exact e) fun _ g=>g
theorem KindsL.snoc{G:A3->Prop}{H:Hp}{q t:A3}{k:Str×List Int}(h1:H q=some (.lst [.str k.1,.ref t]))(h2:H t=some (.lst (k.2.map V.int)))(g1:G q)(g2:G t):∀{vs:List V}{ks:List (Str×List Int)},KindsL G H vs ks->KindsL G H (vs++[.ref q]) (ks++[k])
 |[],[],_=>⟨⟨q,t,rfl,h1,h2,g1,g2⟩,trivial⟩
 |_::_,_::_,⟨a,b⟩=>⟨a,KindsL.snoc h1 h2 g1 g2 b⟩
 |[],_::_,x=>x.elim
 |_::_,[],x=>x.elim
theorem KindsL.length{G:A3->Prop}{H:Hp}:∀{vs:List V}{ks:List (Str×List Int)},KindsL G H vs ks->vs.length=ks.length
 |[],[],_=>rfl
 |_::_,_::_,⟨_,b⟩=>by rw[Av,Av,KindsL.length b]
 |[],_::_,x=>x.elim
 |_::_,[],x=>x.elim
theorem KindsL.get{G:A3->Prop}{H:Hp}:∀{vs:List V}{ks:List (Str×List Int)}{i:Nat}{v:V},KindsL G H vs ks->vs[i]?=some v->∃k q t,ks[i]?=some k/\v= .ref q/\H q=some (.lst [.str k.1,.ref t])/\H t=some (.lst (k.2.map V.int))
 |[],[],_,_,_,e=>by simp at e
 |_::_,k::_,0,_,⟨⟨q,t,e,h1,h2,_⟩,_⟩,z=>by
  simp at z;subst z;exact⟨k,q,t,rfl,e,h1,h2⟩
 |_::_,_::_,i+1,_,⟨_,b⟩,z=>by
  obtain⟨k,q,t,h⟩:=KindsL.get (i:=i) b (by simpa using z);exact⟨k,q,t,by simpa using h⟩
 |[],_::_,_,_,x,_=>x.elim
 |_::_,[],_,_,x,_=>x.elim
noncomputable def GT(ts:List Int):Prop:=∃f:Nat->Bool,ts=((Af 8).filter f).map (fun i=>((i:Nat):Int))/\f 0=true
structure Drawn(G:A3->Prop)(H:Hp)(vs:List V)(ks:List (Str×List Int)):Prop where
 rows:KindsL G H vs ks
 nd:(ks.map (·.1)).Nodup
 good:∀k∈ks,isName k.1=true/\GT k.2
theorem Drawn.same{G:A3->Prop}{H H':Hp}{vs:List V}{ks:List (Str×List Int)}(d:Drawn G H vs ks)(s:Same H H'):Drawn G H' vs ks:=⟨d.rows.same s,d.nd,d.good⟩
theorem Drawn.upd{G:A3->Prop}{H:Hp}{p:A3}{o:HO}{vs:List V}{ks:List (Str×List Int)}(d:Drawn G H vs ks)(n:¬G p):Drawn G (upd H p o) vs ks:=⟨d.rows.upd n,d.nd,d.good⟩
theorem Drawn.any{G:A3->Prop}{H:Hp}{vs:List V}{ks:List (Str×List Int)}(d:Drawn G H vs ks):Drawn (fun _=>True) H vs ks:=⟨d.rows.mono (fun _ _ _ e=>e) fun _ _=>trivial,d.nd,d.good⟩
theorem Drawn.snoc{G:A3->Prop}{H:Hp}{vs:List V}{ks:List (Str×List Int)}{q t:A3}{k:Str×List Int}(d:Drawn G H vs ks)(h1:H q=some (.lst [.str k.1,.ref t]))(h2:H t=some (.lst (k.2.map V.int)))(g1:G q)(g2:G t)(hn:k.1∉ks.map (·.1))(hk:isName k.1=true/\GT k.2):Drawn G H (vs++[.ref q]) (ks++[k]):=by
 refine⟨KindsL.snoc h1 h2 g1 g2 d.rows,?_,fun x hx=>?_⟩
 ·rw[B7];refine Cz.mpr ⟨d.nd,by simp,fun a ha b hb=>?_⟩;have e:b=k.1:=by simpa using hb
  rw[e];exact fun z=>hn (z▸ha)
 ·rcases Al.mp hx with z|z
  ·exact d.good x z
  ·rw[A6.mp z];exact hk
noncomputable abbrev Combs:=List (Str×List Int)
noncomputable def cGet(cs:Combs)(x:Str):Option (List Int):=(cs.find? fun c=>decide (c.1=x)).map (·.2)
noncomputable def cPut(cs:Combs)(x:Str)(ts:List Int):Combs:=if(cs.any fun c=>decide (c.1=x))=true then cs.map (fun c=>if c.1=x then(c.1,ts) else c) else cs++[(x,ts)]
noncomputable def canon(ts:List Int):List Int:=((Af 8).filter fun i=>decide (((i:Nat):Int)∈ts)).map fun i=>((i:Nat):Int)
theorem zhD(f:Nat->Bool):(((Af 8).filter f).map fun i=>((i:Nat):Int)).Pairwise (· < ·):=by
 rw[Bl];refine Bj Cw ?_;refine En ?_ (D7 (n:=8));intro a b h;omega
theorem zex(ts:List Int):(canon ts).Pairwise (· < ·):=zhD _
theorem mem_canon{ts:List Int}{t:Int}:t∈canon ts↔t∈ts/\0<=t/\t<=7:=by
 unfold canon;simp only[A7,Bc,Be,decide_eq_true_eq];constructor
 ·rintro⟨i,⟨hi,hm⟩,rfl⟩;exact⟨hm,by omega,by omega⟩
 ·rintro⟨hm,h0,h7⟩;refine⟨t.toNat,⟨by omega,?_⟩,by omega⟩;rwa[show((t.toNat:Nat):Int)=t by omega]
theorem zaR{l:List Int}(h:l.Pairwise (· < ·)):l.Nodup:=h.imp fun h=>by omega
theorem zcx(ts:List Int):(canon ts).Nodup:=zaR (zex ts)
theorem zbt{a b:List Int}(hp:a.Perm b)(ha:a.Pairwise (· <= ·))(hb:b.Pairwise (· <= ·)):a=b:=
 hp.eq_of_pairwise (fun x y _ _ h1 h2=>Int.le_antisymm h1 h2) ha hb
theorem zdj{ns ts:List Int}(hp:ns.Perm ts)(hs:ns.Pairwise (· <= ·))(hn:ts.Nodup)(hr:∀t∈ts,0<=t/\t<=7):ns=canon ts:=by
 refine zbt (hp.trans ?_) hs ((zex ts).imp fun h=>by omega);rw[D5 hn (zcx ts)];intro t;rw[mem_canon];exact⟨fun h=>⟨h,hr t h⟩,fun h=>h.1⟩
theorem zer{ts:List Int}(h:GT ts):ts.Pairwise (· < ·):=by
 obtain⟨f,rfl,_⟩:=h;exact zhD f
theorem zca{ts:List Int}(h:GT ts):∀t∈ts,0<=t/\t<=7:=by
 obtain⟨f,rfl,_⟩:=h;intro t ht;obtain⟨i,hi,rfl⟩:=A7.mp ht;have:=Be.mp (Bc.mp hi).1;omega
theorem zcY{ts:List Int}(h:GT ts):(0:Int)∈ts:=by
 obtain⟨f,rfl,h0⟩:=h;exact A7.mpr ⟨0,Bc.mpr ⟨by decide,h0⟩,rfl⟩
theorem zgf{ts:List Int}(h0:(0:Int)∈ts):GT (canon ts):=⟨_,rfl,decide_eq_true h0⟩
theorem gt_eq{ts:List Int}(h:GT ts):canon ts=ts:=by
 symm;refine zdj (Kn _) ((zer h).imp fun h=>by omega) (zaR (zer h)) (zca h)
theorem zg6{ts:List Int}(h:GT ts):ts.length<=8:=by
 obtain⟨f,rfl,_⟩:=h;rw[A4];exact Bt (Cp _ _) (by simp)
theorem canon_len(ts:List Int):(canon ts).length<=8:=by
 unfold canon;rw[A4];exact Bt (Cp _ _) (by simp)
theorem inR_iff{t:Int}:inR t=true↔0<=t/\t<=7:=by unfold inR;simp
theorem teeth_iff{ts:List Int}:areTeeth ts=true↔(0:Int)∈ts/\ts.Nodup/\∀t∈ts,0<=t/\t<=7:=by
 unfold areTeeth;simp only[Bu,decide_eq_true_eq,many_nodup,Cv,inR_iff]
theorem zdm{ts:List Int}(hn:ts.Nodup)(hr:∀t∈ts,0<=t/\t<=7):ts.length<=8:=by
 have:ts.length<=(canon ts).length:=zdc hn fun x hx=>mem_canon.mpr ⟨hx,hr x hx⟩;have:=canon_len ts;omega
theorem gt_teeth{ts:List Int}(h:GT ts):areTeeth ts=true:=teeth_iff.mpr ⟨zcY h,zaR (zer h),zca h⟩
structure Good(cs:Combs):Prop where
 len:cs.length<=8
 nd:(cs.map (·.1)).Nodup
 ok:∀c∈cs,isName c.1=true/\GT c.2
theorem good_nil:Good []:=⟨by decide,Df,by simp⟩
theorem zes{cs:Combs}{x:Str}{ts:List Int}(h:cGet cs x=some ts):(x,ts)∈cs:=by
 unfold cGet at h;obtain⟨c,hc,rfl⟩:=Ly.mp h;have h1:=Lo hc;have h2:c.1=x:=by simpa using Ox hc
 rw[<-h2];exact h1
theorem get_none{cs:Combs}{x:Str}:cGet cs x=none↔x∉cs.map (·.1):=by
 unfold cGet;rw[Option.map_eq_none_iff,Nu];simp only[decide_eq_true_eq,A7,not_exists,not_and]
theorem zfD{cs:Combs}{x:Str}:(cs.any fun c=>decide (c.1=x))=(cGet cs x).isSome:=by
 rw[Ay,Bp,Option.isSome_iff_ne_none,ne_eq,get_none,Sw,A7];simp
theorem zdg{c:Str×List Int}{cs:Combs}{x:Str}:cGet (c::cs) x=if c.1=x then some c.2 else cGet cs x:=by
 unfold cGet;rw[Ez];by_cases h:c.1=x
 ·simp[h]
 ·simp[h]
theorem zgK{cs:Combs}{x:Str}{ts:List Int}(h:cGet cs x=none):cPut cs x ts=cs++[(x,ts)]:=by
 unfold cPut;rw[zfD,h];rfl
theorem zfo{cs:Combs}{x:Str}{ts us:List Int}(h:cGet cs x=some us):cPut cs x ts=cs.map (fun c=>if c.1=x then(c.1,ts) else c):=by
 unfold cPut;rw[zfD,h];rfl
theorem put_keys{cs:Combs}{x:Str}{ts us:List Int}(h:cGet cs x=some us):(cPut cs x ts).map (·.1)=cs.map (·.1):=by
 rw[zfo h,Bb];apply Cg;intro c _;show(if c.1=x then(c.1,ts) else c).1=c.1
 split<;>rfl
theorem Good.put{cs:Combs}{x:Str}{ts:List Int}(g:Good cs)(hx:isName x=true)(ht:GT ts)(hl:cs.length<8\/(cGet cs x).isSome=true):Good (cPut cs x ts):=by
 cases e:cGet cs x with
 |none=>
  rw[zgK e];refine⟨?_,?_,?_⟩
  ·rw[e] at hl;rw[Ag,Bq];rcases hl with h|h
   ·omega
   ·cases h
  ·rw[B7];exact zgV g.nd (get_none.mp e)
  ·intro c hc;rcases Al.mp hc with h|h
   ·exact g.ok c h
   ·rw[A6.mp h];exact⟨hx,ht⟩
 |some us=>
  refine⟨?_,by rw[put_keys e];exact g.nd,?_⟩
  ·rw[zfo e,A4];exact g.len
  ·rw[zfo e];intro c hc;obtain⟨c0,h0,rfl⟩:=A7.mp hc
   split
   ·exact⟨(g.ok c0 h0).1,ht⟩
   ·exact g.ok c0 h0
noncomputable def KvR(G:A3->Prop)(H:Hp):List (Key×V)->Combs->Prop:=C5 fun kv c=>∃t,kv=(Da c.1,V.ref t)/\H t=some (.lst (c.2.map V.int))/\G t
noncomputable def DictR(G:A3->Prop)(H:Hp)(d:A3)(cs:Combs):Prop:=G d/\∃kvs,H d=some (.dK kvs)/\KvR G H kvs cs
theorem KvR.mono{G G':A3->Prop}{H H':Hp}{kvs:List (Key×V)}{cs:Combs}(s:∀a o,G a->H a=some o->H' a=some o)(g:∀a,G a->G' a)(h:KvR G H kvs cs):KvR G' H' kvs cs:=
 Me (fun _ _⟨t,e,h1,g1⟩=>⟨t,e,s _ _ g1 h1,g _ g1⟩) h
theorem DictR.mono{G G':A3->Prop}{H H':Hp}{d:A3}{cs:Combs}(s:∀a o,G a->H a=some o->H' a=some o)(g:∀a,G a->G' a)(h:DictR G H d cs):DictR G' H' d cs:=
 let ⟨g0,kvs,e,r⟩:=h
 ⟨g _ g0,kvs,s _ _ g0 e,r.mono s g⟩
theorem KvR.keys{G:A3->Prop}{H:Hp}:∀{kvs:List (Key×V)}{cs:Combs},KvR G H kvs cs->kvs.map (·.1)=(cs.map (·.1)).map Da
 |_,_,.nil=>rfl
 |_,_,.cons ⟨t,e,_⟩ r=>by
  subst e;show _::_=_::_;rw[show Ka _ _=_ from KvR.keys r]
theorem KvR.val{G:A3->Prop}{H:Hp}{x:Str}:∀{kvs:List (Key×V)}{cs:Combs},KvR G H kvs cs->
  (cGet cs x=none/\valV kvs (Da x)=none)\/∃ts t,cGet cs x=some ts/\valV kvs (Da x)=some (.ref t)/\H t=some (.lst (ts.map V.int))/\G t
 |_,_,.nil=>.inl ⟨rfl,rfl⟩
 |_,_,.cons (b:=c) ⟨t,e,h1,g1⟩ r=>by
  subst e;by_cases h:c.1=x
  ·refine .inr ⟨c.2,t,by rw[zdg,if_pos h],za4 (by rw[h]),h1,g1⟩
  ·have hn:¬((Da c.1:Key)=Da x):=fun z=>h (M5 z);rcases KvR.val (x:=x) r with⟨e1,e2⟩|⟨ts,t',e1,e2,e3⟩
   ·exact .inl ⟨by rw[zdg,if_neg h];exact e1,by rw[zaX hn];exact e2⟩
   ·exact .inr ⟨ts,t',by rw[zdg,if_neg h];exact e1,by rw[zaX hn];exact e2,e3⟩
theorem KvR.some{G:A3->Prop}{H:Hp}{kvs:List (Key×V)}{cs:Combs}{x:Str}(r:KvR G H kvs cs):(valV kvs (Da x)).isSome=(cGet cs x).isSome:=by
 rcases r.val (x:=x) with⟨e1,e2⟩|⟨ts,t',e1,e2,e3⟩
 ·rw[e1,e2];rfl
 ·rw[e1,e2];rfl
theorem KvR.map{G:A3->Prop}{H:Hp}{x:Str}{t:A3}{ts:List Int}(h1:H t= .some (.lst (ts.map V.int)))(g1:G t):∀{kvs:List (Key×V)}{cs:Combs},KvR G H kvs cs->
  KvR G H (kvs.map fun kv=>if kv.1=Da x then(kv.1,V.ref t) else kv) (cs.map fun c=>if c.1=x then(c.1,ts) else c)
 |_,_,.nil=>.nil
 |_,_,.cons (b:=c) ⟨t',e,h2,g2⟩ r=>by
  subst e;refine .cons ?_ (KvR.map h1 g1 r);dsimp only;by_cases hx:c.1=x
  ·rw[if_pos hx,if_pos (by rw[hx])];exact⟨t,rfl,h1,g1⟩
  ·rw[if_neg hx,if_neg (fun z=>hx (M5 z))];exact⟨t',rfl,h2,g2⟩
theorem KvR.put{G:A3->Prop}{H:Hp}{kvs:List (Key×V)}{cs:Combs}{x:Str}{t:A3}{ts:List Int}(r:KvR G H kvs cs)(h1:H t= .some (.lst (ts.map V.int)))(g1:G t):KvR G H (putK kvs (Da x) (.ref t)) (cPut cs x ts):=by
 unfold putK cPut;rw[zbq,zfD,r.some]
 split
 ·exact r.map h1 g1
 ·exact Es r ⟨t,rfl,h1,g1⟩
noncomputable abbrev PastR(G:A3->Prop)(H:Hp):List V->List Combs->Prop:=C5 fun v cs=>∃d,v= .ref d/\DictR G H d cs
structure Bk(C:A3)(G:A3->Prop)(H:Hp)(b l:A3)(cs:Combs)(past:List Combs):Prop where
 live:∀x,G x->H x≠none
 nb:¬G b
 nl:¬G l
 ins:∃dx d,H b=some (.ins C dx [("combs",.ref d),("past",.ref l)])/\DictR G H d cs
 lst:∃vs,H l=some (.lst vs)/\PastR G H vs past
 good:Good cs
 goods:∀p∈past,Good p
 few:past.length<=300
theorem Bk.move{C:A3}{G:A3->Prop}{H H':Hp}{b l:A3}{cs:Combs}{past:List Combs}(B:Bk C G H b l cs past)(s:∀a o,G a\/a=b\/a=l->H a=some o->H' a=some o):Bk C G H' b l cs past:=by
 have s':∀a o,G a->H a=some o->H' a=some o:=fun a o g e=>s a o (.inl g) e;obtain⟨dx,d,e1,r1⟩:=B.ins;obtain⟨vs,e2,r2⟩:=B.lst;refine⟨fun x g=>?_,B.nb,B.nl,⟨dx,d,s _ _ (.inr (.inl rfl)) e1,r1.mono s' fun _ g=>g⟩,⟨vs,s _ _ (.inr (.inr rfl)) e2,?_⟩,B.good,B.goods,B.few⟩
 ·have:=B.live x g
  cases e:H x with
  |none=>exact absurd e this
  |some o=>rw[s' x o g e];simp
 ·exact Me (fun _ _⟨d,e,r⟩=>⟨d,e,r.mono s' fun _ g=>g⟩) r2
theorem Bk.same{C:A3}{G:A3->Prop}{H H':Hp}{b l:A3}{cs:Combs}{past:List Combs}(B:Bk C G H b l cs past)(s:Same H H'):Bk C G H' b l cs past:=B.move fun a o _ e=>s a o e
theorem Bk.liveB{C:A3}{G:A3->Prop}{H:Hp}{b l:A3}{cs:Combs}{past:List Combs}(B:Bk C G H b l cs past):H b≠none/\H l≠none:=by
 obtain⟨dx,d,e1,r1⟩:=B.ins;obtain⟨vs,e2,r2⟩:=B.lst;exact⟨by rw[e1];simp,by rw[e2];simp⟩
structure Mv(b l:A3)(G G':A3->Prop)(H H':Hp):Prop where
 keep:∀a o,H a=some o->a≠b->a≠l->H' a=some o
 on:∀a,H a≠none->H' a≠none
 new:∀a,G' a->G a\/H a=none
theorem zeT{H H':Hp}(s:Same H H'):∀a,H a≠none->H' a≠none:=fun a h=>by
 cases e:H a with
 |none=>exact absurd e h
 |some o=>rw[s a o e];simp
theorem Mv.ofSame{b l:A3}{G:A3->Prop}{H H':Hp}(s:Same H H'):Mv b l G G H H':=⟨fun a o e _ _=>s a o e,zeT s,fun _ g=>.inl g⟩
theorem Mv.trans{b l:A3}{G G1 G2:A3->Prop}{H H1 H2:Hp}(m:Mv b l G G1 H H1)(m':Mv b l G1 G2 H1 H2):Mv b l G G2 H H2:=by
 refine⟨fun a o e n1 n2=>m'.keep a o (m.keep a o e n1 n2) n1 n2,fun a h=>m'.on a (m.on a h),fun a g=>?_⟩;rcases m'.new a g with g1|e
 ·exact m.new a g1
 ·refine .inr ?_
  cases q:H a with
  |none=>rfl
  |some o=>exact absurd e (m.on a (by rw[q];simp))
noncomputable def Deed(ea:Nat->A3)(C:A3)(G:A3->Prop)(H:Hp)(b l:A3)(cs:Combs)(past:List Combs)(Q:VK)(E:XK):Except Nat Combs->Prop
 | .error j=>∀H',Same H H'->E (.ref (ea j)) none H'
 | .ok cs'=>∀H' G',Mv b l G G' H H'->Bk C G' H' b l cs' (past++[cs])->Q (.int ((past.length:Int)+1)) H'
theorem Deed.from{ea:Nat->A3}{C:A3}{G:A3->Prop}{H H1:Hp}{b l:A3}{cs:Combs}{past:List Combs}{Q:VK}{E:XK}{r:Except Nat Combs}(d:Deed ea C G H b l cs past Q E r)(s:Same H H1):Deed ea C G H1 b l cs past Q E r:=by
 cases r with
 |error j=>exact fun H' s'=>d H' (s.trans s')
 |ok cs'=>exact fun H' G' m B=>d H' G' ((Mv.ofSame s).trans m) B
noncomputable def full(past:List Combs)(cs':Combs):Except Nat Combs:=if 300<=past.length then .error 9 else .ok cs'
noncomputable def putD(cs:Combs)(past:List Combs)(x:Str)(ts:List Int):Except Nat Combs:=
 if isName x=false then .error 0 else if areTeeth ts=false then .error 1 else if(cGet cs x).isSome=true then .error 2 else if 8<=cs.length then .error 3 else full past (cPut cs x (canon ts))
theorem call_dictD{X:Cx}:CallR X (.type "dict") (fun xs H Q=>∃a kvs,xs=[V.ref a]/\Rd H a (.dK kvs)/\∀p,H p=none->Q (.ref p) (upd H p (.dK kvs))):=by
 intro pins s σ H xs us Q I r h;obtain⟨a,kvs,rfl,ha,q⟩:=h;obtain⟨u,rfl,ru⟩:=zb2 r
 cases ru
 exact d_copyOf I ha fun p s' np I'=>⟨.ref p,_,I',rfl,q p np⟩
noncomputable def sle(a b:Str):Prop:=a.cps.toList<=b.cps.toList
theorem sle_iff{a b:Str}:sle a b↔ltCps b.cps.toList a.cps.toList=false:=by
 unfold sle;rw[ltCps_eq,decide_eq_false_iff_not,List.not_lt]
theorem sle_trans{a b c:Str}(h1:sle a b)(h2:sle b c):sle a c:=Pf h1 h2
theorem sle_antisymm{a b:Str}(h1:sle a b)(h2:sle b a):a=b:=by
 have:=List.le_antisymm h1 h2
 cases a;cases b
 simp only at this;rw[Str.mk.injEq,<-Of];exact this
theorem zd2:∀{l:List Str}{p:Str},risingS p l=true->(p::l).Pairwise sle
 |[],p,_=>by simp
 |x::r,p,h=>by
  simp only[risingS,Bu,G5] at h;have ih:=zd2 h.2;have hpx:sle p x:=sle_iff.mpr h.1;refine K0.mpr ⟨fun y hy=>?_,ih⟩;rcases Ba.mp hy with rfl|hm
  ·exact hpx
  ·exact sle_trans hpx ((K0.mp ih).1 y hm)
theorem zdW{l:List Str}(h:sortedS l=true):l.Pairwise sle:=by
 cases l with
 |nil=>exact Gm
 |cons x r=>exact zd2 h
theorem strs_same{a b:List Str}(hp:a.Perm b)(ha:sortedS a=true)(hb:sortedS b=true):a=b:=
 hp.eq_of_pairwise (fun _ _ _ _ h1 h2=>sle_antisymm h1 h2) (zdW ha) (zdW hb)
theorem atI_int{α:Type}{xs:List α}{k:Int}{v:α}(h0:0<=k)(h:xs[k.toNat]?=some v):atI xs k=some v:=by
 have e:((k.toNat:Nat):Int)=k:=by omega
 rw[<-e];exact zay h
noncomputable def errNames:List Str:=[A0 "BadName",A0 "BadTeeth",A0 "NameTaken",A0 "BookFull",A0 "NoComb",A0 "BadTooth",A0 "ToothThere",A0 "FirstTooth",A0 "ToothMissing",A0 "DeedsFull",A0 "NothingDone",A0 "BadShape",A0 "BadPlace",A0 "BadLength",A0 "NoFilling"]
noncomputable def errName(j:Nat):Str:=errNames.getD j (A0 "")
noncomputable def valErr:List A2:=[.type "ValueError",.type "Exception",.type "BaseException",.type "object"]
noncomputable def clsChk(K:Am)(C:A3):Bool:=(Gc K C).isSome&&O5 K (.ref C)==some (.type "type")
noncomputable def errChk1(K:Am)(l:List A3)(ce:A3)(D:A3)(j:Nat):Bool:=
 (Af 15).all (fun i=>Ee K D (.ref (l.getD i 0))==some (i==j))&&(Ee K D (.ref ce)==some true&&
 (Bv K (.ref D) "__getattribute__"==some (some (.builtin "BaseException.__getattribute__"))&&(Bv K (.ref D) "__getattr__"==some none&&
 (Bv K (.ref D) "__class__"==some (some (.builtin "object.__class__"))&&(Ee K D (.type "object")==some true&&(Ee K D (.type "BaseException")==some true&&Hh K D valErr "ValueError.__new__"))))))
noncomputable def errChk(K:Am)(l:List A3)(ce:A3)(js:List Nat):Bool:=
 (Af 15).all (fun i=>clsChk K (l.getD i 0))&&(clsChk K ce&&(Ee K ce (.type "BaseException")==some true&&
 (Jv K (.builtin "object.__class__") "__get__"==some (some (.builtin "getset_descriptor.__get__"))&&(Kh K (.builtin "object.__class__")==some true&&js.all fun j=>errChk1 K l ce (l.getD j 0) j))))
structure KindF(K:Am)(ea:Nat->A3)(D:A3)(j:Nat):Prop where
 lt:j<15
 cls:ErrCls K D
 kit:∀i,i<15->Fs K (.ref D) (.ref (ea i))=some (decide (i=j))
structure EJ(K:Am)(ea:Nat->A3)(ce:A2)(j:Nat):Prop where
 kf:KindF K ea (ea j) j
 ex:Ix K (.ref (ea j)) ce=some true
 exc:Hh K (ea j) valErr "ValueError.__new__"=true
theorem zeU{K:Am}{D C:A3}{b:Bool}(h:clsChk K C=true)(m:Ee K D (.ref C)=some b):O6 K (.ref D) (.ref C)=some b:=by
 unfold clsChk at h;simp only[Bu,beq_iff_eq] at h;unfold O6;simp only[h.1,h.2];rw[if_pos (by decide)];exact m
theorem ej_of{K:Am}{l:List A3}{ce:A3}{js:List Nat}{j:Nat}(h:errChk K l ce js=true)(hj:j∈js)(hlt:j<15):EJ K (fun i=>l.getD i 0) (.ref ce) j:=by
 unfold errChk at h;simp only[Bu,beq_iff_eq,Cv,Be] at h;obtain⟨h1,h2,h3,h4,h5,h6⟩:=h;have h7:=h6 j hj;unfold errChk1 at h7;simp only[Bu,beq_iff_eq,Cv,Be] at h7;obtain⟨g1,g2,g3,g4,g5,g6,g7,g8⟩:=h7;have hc:(Gc K (l.getD j 0)).isSome=true:=by
  have:=h1 j hlt;unfold clsChk at this;simp only[Bu] at this;exact this.1
 refine⟨⟨hlt,⟨g3,g4,hc,g5,h4,h5,g6,g7⟩,fun i hi=>?_⟩,?_,g8⟩
 ·have m:=g1 i hi;unfold Fs;by_cases e:i=j
  ·subst e;rw[if_pos (beq_self_eq_true _),decide_eq_true rfl]
  ·have ne:l.getD j 0≠l.getD i 0:=fun z=>by
    have m2:=g1 j hlt;rw[<-z] at m;rw[m] at m2;simp[e] at m2
   rw[if_neg (fun z=>ne (Nm (beq_iff_eq.mp z))),decide_eq_false e];have e2:(i==j)=false:=beq_eq_false_iff_ne.mpr e;rw[e2] at m;exact zeU (h1 i hi) m
 ·unfold Ix;rw[if_pos (by rw[show PySem.W.subIn K (.ref ce) (.type "BaseException")=some true from h3];rfl)];exact zeU h2 g2
theorem EJ.err{K:Am}{mg:Str->Option A2}{ea:Nat->A3}{ce:A2}{j:Nat}{x:Str}(e:EJ K ea ce j)(hm:mg x=some (.ref (ea j))):Err K mg x (ea j):=⟨hm,e.exc⟩
structure BookAt(K:Am)(C:A3):Prop where
 cls:Cls K C
 nc:NoAttr K C "combs"
 np:NoAttr K C "past"
noncomputable def bookChk(K:Am)(C:A3):Bool:=G8 K C S3&&(Hd K C&&(Jw K C&&(Bv K (.ref C) "__setattr__"==some (some (.builtin "object.__setattr__"))&&(Bv K (.ref C) "combs"==some none&&Bv K (.ref C) "past"==some none))))
theorem book_of{K:Am}{C:A3}(h:bookChk K C=true):BookAt K C:=by
 unfold bookChk at h;simp only[Bu,beq_iff_eq] at h;obtain⟨h1,h2,h3,h4,h5,h6⟩:=h;exact⟨⟨h1,h2,h3,h4⟩,h5,h6⟩
theorem meth_mk{K:Am}{C:A3}{cn m:Str}{st:Ca}{f:A3}{oc:A2}{od an:Option A3}{osl:Array (Option A2)}{kV doc pm cdv ct:A2}(a:Bv K (.ref C) m=some (some (.ref f)))
  (l:K.lookup f=some ⟨oc,od,.func (Ck m (cn++A0 "."++m) (defArgs st) (defBody st) (defScope st) .none kV doc pm an cdv ct),osl⟩) (c:Fa K cdv (cn++A0 "."++m)=true) (k:D0 K (.ref f)=true) (i:Hw K (.ref f)=true):MethAt K C cn m st:=
 ⟨f,_,zg8 l c k,a,i,k⟩
structure InitAt(K:Am)(mg:Str->Option A2)(C:A3)(x qual:Str)(st:Ca):Prop where
 ex:∃f fd,Mk K C f/\Fun K "__init__" qual st f fd
 m:mg x=some (.ref C)
theorem init_mk{K:Am}{mg:Str->Option A2}{C:A3}{x qual:Str}{st:Ca}{f:A3}{oc:A2}{od an:Option A3}{osl:Array (Option A2)}{kV doc pm cdv ct:A2}(hm:mg x=some (.ref C))(a:Bv K (.ref C) "__init__"=some (some (.ref f)))
  (l:K.lookup f=some ⟨oc,od,.func (Ck "__init__" qual (defArgs st) (defBody st) (defScope st) .none kV doc pm an cdv ct),osl⟩) (c:Fa K cdv qual=true) (k:D0 K (.ref f)=true) (i:Hw K (.ref f)=true) (k2:D0 K (.ref C)=true) (mk:Kj K C=true):InitAt K mg C x qual st:=
 ⟨⟨f,_,⟨mk,a,i,k2⟩,zg8 l c k⟩,hm⟩
theorem ref_mk{K:Am}{mg:Str->Option A2}{h:Bx}{x:Str}{f:A3}(X:K.In h)(G:h.Ns mainGlobals mg)(a:C2 K mainGlobals x=some (some (.ref f))):mg x=some (.ref f):=L8 X G a
theorem at_last{α:Type}(l:List α)(a:α):atI (l++[a]) (-1)=some a:=by
 unfold atI ixN;rw[if_neg (by decide),if_pos (by rw[Ag,Bq];omega)];have e:((-1:Int)+(((l++[a]).length:Nat):Int)).toNat=l.length:=by rw[Ag,Bq];omega
 rw[e];simp
section
variable{X:Cx}
end
section
variable{X:Cx}{T id:String}{name:Str}{r:V->List V->Hp->VK->Prop}{o e:Cb}{es:List Cb}{to:TE}{t:TA}{apos cpos:Pos}
end
noncomputable def pw(t:Int):Int:=2 ^ t.toNat
noncomputable def worth(ts:List Int):Int:=(ts.map pw).sum
noncomputable def aheadOf(n:Int):List Int:=((Af 7).filter fun d=>n.toNat.testBit d).map fun i=>((i:Nat):Int)
noncomputable def meets(ah ts:List Int):Bool:=ts.any fun t=>decide (t∈ah)
noncomputable def afterOf(ah ts:List Int):List Int:=((canon (ah++ts)).filter fun d=>decide (0<d)).map fun d=>d-1
theorem zeA:worth []=0:=rfl
theorem za3(t:Int)(ts:List Int):worth (t::ts)=pw t+worth ts:=rfl
theorem zcZ(a b:List Int):worth (a++b)=worth a+worth b:=by
 induction a with
 |nil=>simp[worth]
 |cons t a ih=>rw[Kp,za3,za3,ih];omega
theorem worth_perm{a b:List Int}(h:a.Perm b):worth a=worth b:=by
 induction h with
 |nil=>rfl
 |cons x _ ih=>rw[za3,za3,ih]
 |swap x y l=>simp only[za3];omega
 |trans _ _ h1 h2=>exact h1.trans h2
theorem pw_pos(t:Int):0<pw t:=by unfold pw;exact Int.pow_pos (by decide)
theorem zfG(ts:List Int):0<=worth ts:=by
 induction ts with
 |nil=>exact Dg _
 |cons t ts ih=>rw[za3];have:=pw_pos t;omega
noncomputable def bitSum(f:Nat->Bool):Nat->Nat
 |0=>0
 |k+1=>2 ^ k*(if f k then 1 else 0)+bitSum f k
theorem zcz(f:Nat->Bool)(k:Nat):bitSum f (k+1)=2 ^ k*(if f k then 1 else 0)+bitSum f k:=rfl
theorem zcO(f:Nat->Bool):∀k,bitSum f k<2 ^ k
 |0=>P1
 |k+1=>by
  have:=zcO f k;rw[zcz];rw[Q5]
  cases f k
  ·simp;omega
  ·simp;omega
theorem zbR(f:Nat->Bool)(i:Nat):∀k,(bitSum f k).testBit i=(decide (i<k)&&f i)
 |0=>by simp[bitSum]
 |k+1=>by
  rw[zcz,Nat.testBit_two_pow_mul_add _ (zcO f k),zbR f i k];by_cases h:i<k
  ·rw[if_pos h,decide_eq_true h,decide_eq_true (show i<k+1 by omega)]
  ·rw[if_neg h];by_cases e:i=k
   ·subst e;rw[J4,decide_eq_true (Et i)]
    cases f i<;>rfl
   ·rw[decide_eq_false (show¬i<k+1 by omega),Eo]
    cases f k
    ·exact Gi _
    ·show(1:Nat).testBit (i-k)=false;rw[Oe];exact fun z=>absurd (Nat.testBit_one_eq_true_iff_self_eq_zero.mp z) (by omega)
theorem zcd(f:Nat->Bool):∀k,worth (((Af k).filter f).map fun i=>((i:Nat):Int))=((bitSum f k:Nat):Int)
 |0=>rfl
 |k+1=>by
  rw[Dy,D6,B7,zcZ,zcd f k,zcz]
  cases h:f k
  ·simp[h,worth]
  ·simp only[h,C8,F0,if_true,At,Gw,za3,zeA];unfold pw;rw[De]
   push_cast
   omega
theorem zdK{f:Nat->Bool}{k:Nat}(i:Nat):(worth (((Af k).filter f).map fun i=>((i:Nat):Int))).toNat.testBit i=(decide (i<k)&&f i):=by
 rw[zcd,De,zbR]
theorem ahead_worth(f:Nat->Bool):aheadOf (worth (((Af 7).filter f).map fun i=>((i:Nat):Int)))=((Af 7).filter f).map fun i=>((i:Nat):Int):=by
 unfold aheadOf;congr 1;refine Kc fun i hi=>?_;rw[zdK,decide_eq_true (Be.mp hi),F6]
theorem zbk{n:Int}(h0:0<=n)(h1:n<128):worth (aheadOf n)=n:=by
 unfold aheadOf;rw[zcd];have:bitSum (fun d=>n.toNat.testBit d) 7=n.toNat:=by
  refine Jp fun i=>?_;rw[zbR];by_cases h:i<7
  ·rw[decide_eq_true h,F6]
  ·rw[decide_eq_false h,Eo];symm;refine Iz (Ah (show n.toNat<2 ^ 7 by omega) (Jo (by decide) (by omega)))
 rw[this];omega
theorem mem_ahead{n t:Int}:t∈aheadOf n↔0<=t/\t<=6/\n.toNat.testBit t.toNat=true:=by
 unfold aheadOf;simp only[A7,Bc,Be];constructor
 ·rintro⟨i,⟨hi,hb⟩,rfl⟩;exact⟨by omega,by omega,by simpa using hb⟩
 ·rintro⟨h0,h6,hb⟩;exact⟨t.toNat,⟨by omega,hb⟩,by omega⟩
theorem meets_false{ah ts:List Int}:meets ah ts=false↔∀t∈ts,t∉ah:=by
 unfold meets;simp[Kd]
theorem zfg{n:Int}{ts:List Int}(h0:0<=n)(h1:n<128)(g:GT ts):Dr n (worth ts)=0↔meets (aheadOf n) ts=false:=by
 have hb:Dr n (worth ts)=((n.toNat&&& (worth ts).toNat:Nat):Int):=by
  unfold Dr;rw[decide_eq_true h0,decide_eq_true (zfG ts)]
 rw[hb,meets_false];obtain⟨f,rfl,_⟩:=g;constructor
 ·intro h t ht ha;obtain⟨t0,t6,tb⟩:=mem_ahead.mp ha;obtain⟨i,hi,rfl⟩:=A7.mp ht;obtain⟨hr,hf⟩:=Bc.mp hi;have z:(n.toNat&&& (worth (((Af 8).filter f).map fun i=>((i:Nat):Int))).toNat)=0:=by omega
  have z:=congrArg (fun m=>m.testBit i) z;simp only[P2,zdK,Gi] at z;rw[De] at tb;rw[tb,hf,decide_eq_true (Be.mp hr)] at z;exact absurd z (by decide)
 ·intro h;have z:(n.toNat&&& (worth (((Af 8).filter f).map fun i=>((i:Nat):Int))).toNat)=0:=by
   refine Jp fun i=>?_;rw[P2,zdK,Gi]
   cases e:n.toNat.testBit i with
   |false=>rfl
   |true=>
    have hi:i<7:=by
     apply Dk;intro hn;have:=Iz (Ah (show n.toNat<2 ^ 7 by omega) (Jo (by decide) (show 7<=i by omega)));rw[this] at e;exact absurd e (by decide)
    cases ef:f i with
    |false=>simp
    |true=>
     exfalso;refine h (i:Int) (A7.mpr ⟨i,Bc.mpr ⟨Be.mpr (by omega),ef⟩,rfl⟩) (mem_ahead.mpr ⟨by omega,by omega,?_⟩);rwa[De]
  omega
theorem worth_half(l:List Int)(h:∀t∈l,0<=t):worth l=2*worth ((l.filter fun d=>decide (0<d)).map fun d=>d-1)+((l.count 0:Nat):Int):=by
 induction l with
 |nil=>rfl
 |cons t l ih=>
  have ih:=ih fun x hx=>h x (Ac _ hx);have t0:=h t Aj;rw[za3,C8,List.count_cons];by_cases e:t=0
  ·subst e;rw[ih];simp[pw];omega
  ·have hp:0<t:=by omega
   have:pw t=2*pw (t-1):=by
    unfold pw;rw[show t.toNat=(t-1).toNat+1 by omega,Int.pow_succ];omega
   rw[if_pos (decide_eq_true hp),At,za3,this,ih];rw[if_neg (by simpa using e)];omega
theorem zgl{ah ts:List Int}:∀d∈afterOf ah ts,0<=d/\d<=6:=by
 intro d hd;obtain⟨x,hx,rfl⟩:=A7.mp hd;obtain⟨hc,hp⟩:=Bc.mp hx;have:=(mem_canon.mp hc).2;have:=of_decide_eq_true hp;omega
theorem zdl(ah ts:List Int):(afterOf ah ts).Pairwise (· < ·):=by
 unfold afterOf;rw[Bl];exact((zex (ah++ts)).sublist Cw).imp fun h=>by omega
theorem zcA(n:Int):(aheadOf n).Nodup:=by
 refine zaR ?_;unfold aheadOf;rw[Bl];refine Bj Cw (En ?_ (D7 (n:=7)));intro a b h;omega
theorem zdN{ah ts:List Int}(ha:ah.Nodup)(hr:∀t∈ah,0<=t/\t<=6)(ht:ts.Nodup)(hr':∀t∈ts,0<=t/\t<=7)(hm:meets ah ts=false):worth (afterOf ah ts)=(worth ah+worth ts) / 2:=by
 have hn:(ah++ts).Nodup:=Cz.mpr ⟨ha,ht,fun a h1 b h2 e=>meets_false.mp hm b h2 (e▸h1)⟩;have hp:(canon (ah++ts)).Perm (ah++ts):=by
  rw[D5 (zcx _) hn];intro t;rw[mem_canon];refine⟨fun h=>h.1,fun h=>⟨h,?_⟩⟩;rcases Al.mp h with z|z
  ·have:=hr t z;omega
  ·exact hr' t z
 have hw:=worth_half (canon (ah++ts)) fun t h=>(mem_canon.mp h).2.1;rw[worth_perm hp,zcZ] at hw;have hc:=List.nodup_iff_count.mp (zcx (ah++ts)) 0;unfold afterOf;omega
theorem zbE{n:Int}:∀t∈aheadOf n,0<=t/\t<=6:=fun t h=>⟨(mem_ahead.mp h).1,(mem_ahead.mp h).2.1⟩
theorem zdQ{n:Int}(h0:0<=n):(0:Int)∈aheadOf n↔n%2=1:=by
 rw[mem_ahead];have:n.toNat.testBit 0=decide (n.toNat%2=1):=Nat.testBit_zero _;rw[show(0:Int).toNat=0 from rfl,this,decide_eq_true_eq];omega
noncomputable def stepsOf(cs:Combs)(n:Int):List (Str×Int):=if n%2=1 then[("",n / 2)] else(cs.filter fun c=>decide (Builtin.bitAnd n (worth c.2)=0)).map fun c=>(c.1,(n+worth c.2) / 2)
noncomputable def goesOf(cs:Combs)(ah:List Int):List (Str×List Int):=if(0:Int)∈ah then[("",afterOf ah [])] else(cs.filter fun c=> !meets ah c.2).map fun c=>(c.1,afterOf ah c.2)
theorem zdU{cs:Combs}{n:Int}(h0:0<=n)(h1:n<128)(g:∀c∈cs,GT c.2):(goesOf cs (aheadOf n)).map (fun p=>(p.1,worth p.2))=stepsOf cs n:=by
 unfold goesOf stepsOf;by_cases e:n%2=1
 ·rw[if_pos e,if_pos ((zdQ h0).mpr e),At,Gw,zdN (zcA n) zbE Df (by simp) (by rfl),zbk h0 h1,zeA,Int.add_zero]
 ·rw[if_neg e,if_neg fun z=>e ((zdQ h0).mp z),Bb];have hf:(cs.filter fun c=> !meets (aheadOf n) c.2)=cs.filter fun c=>decide (Dr n (worth c.2)=0):=by
   refine Kc fun c hc=>?_;rw[Ay,decide_eq_true_eq,zfg h0 h1 (g c hc),G5]
  rw[hf];refine Cg fun c hc=>?_;obtain⟨hc,hz⟩:=Bc.mp hc;have gc:=g c hc;show(c.1,worth (afterOf (aheadOf n) c.2))=_;rw[zdN (zcA n) zbE (zaR (zer gc)) (zca gc) ((zfg h0 h1 gc).mp (of_decide_eq_true hz)),zbk h0 h1]
theorem steps_lt{cs:Combs}{n:Int}(h0:0<=n)(h1:n<128)(g:∀c∈cs,GT c.2):∀p∈stepsOf cs n,0<=p.2/\p.2<128:=by
 rw[<-zdU h0 h1 g];intro p hp;obtain⟨q,hq,rfl⟩:=A7.mp hp;have:∃a b,q.2=afterOf a b:=by
  unfold goesOf at hq
  split at hq
  ·rw[A6.mp hq];exact⟨_,_,rfl⟩
  ·obtain⟨c,_,rfl⟩:=A7.mp hq;exact⟨_,_,rfl⟩
 obtain⟨a,b,e⟩:=this;show 0<=worth q.2/\worth q.2<128;rw[e];refine⟨zfG _,?_⟩;have hs:afterOf a b=((Af 7).filter fun i=>decide (((i:Nat):Int)∈afterOf a b)).map fun i=>((i:Nat):Int):=by
  refine zbt ?_ ((zdl a b).imp fun h=>by omega) ?_
  ·rw[D5 (zaR (zdl a b))]
   ·intro t;simp only[A7,Bc,Be,decide_eq_true_eq];constructor
    ·intro h;have:=zgl t h;exact⟨t.toNat,⟨by omega,by rwa[show((t.toNat:Nat):Int)=t by omega]⟩,by omega⟩
    ·rintro⟨i,⟨_,h⟩,rfl⟩;exact h
   ·refine zaR ?_;rw[Bl];refine Bj Cw (En ?_ (D7 (n:=7)));intro a b h;omega
  ·rw[Bl];refine Bj Cw (En ?_ (D7 (n:=7)));intro a b h;omega
 rw[hs,zcd];have:=zcO (fun i=>decide (((i:Nat):Int)∈afterOf a b)) 7;omega
noncomputable def StepsR(H:Hp):List V->List (Str×Int)->Prop
 |[],[]=>True
 |v::vs,s::ss=>(∃q,v= .ref q/\H q=some (.tup [.str s.1,.int s.2]))/\StepsR H vs ss
 |_,_=>False
theorem StepsR.mono{H H':Hp}(m:∀q xs,H q=some (.tup xs)->H' q=some (.tup xs)):∀{vs:List V}{ss:List (Str×Int)},StepsR H vs ss->StepsR H' vs ss
 |[],[],_=>trivial
 |_::_,_::_,⟨⟨q,e,h⟩,r⟩=>⟨⟨q,e,m q _ h⟩,r.mono m⟩
 |[],_::_,x=>x.elim
 |_::_,[],x=>x.elim
theorem StepsR.length{H:Hp}:∀{vs:List V}{ss:List (Str×Int)},StepsR H vs ss->vs.length=ss.length
 |[],[],_=>rfl
 |_::_,_::_,⟨_,r⟩=>by rw[Av,Av,r.length]
 |[],_::_,x=>x.elim
 |_::_,[],x=>x.elim
theorem StepsR.snoc{H:Hp}{q:A3}{s:Str×Int}(hq:H q=some (.tup [.str s.1,.int s.2])):∀{vs:List V}{ss:List (Str×Int)},StepsR H vs ss->StepsR H (vs++[.ref q]) (ss++[s])
 |[],[],_=>⟨⟨q,rfl,hq⟩,trivial⟩
 |_::_,_::_,⟨a,r⟩=>⟨a,r.snoc hq⟩
 |[],_::_,x=>x.elim
 |_::_,[],x=>x.elim
theorem StepsR.get{H:Hp}{i:Nat}{s:Str×Int}:∀{vs:List V}{ss:List (Str×Int)},StepsR H vs ss->ss[i]?=some s->∃q,vs[i]?=some (.ref q)/\H q=some (.tup [.str s.1,.int s.2]):=by
 induction i with
 |zero=>
  intro vs ss r e
  match vs,ss,r with
  |[],[],_=>simp at e
  |v::_,x::_,⟨⟨q,ev,h⟩,_⟩=>
   simp at e;subst e;exact⟨q,by rw[ev];rfl,h⟩
 |succ i ih=>
  intro vs ss r e
  match vs,ss,r with
  |[],[],_=>simp at e
  |v::vs,x::ss,⟨_,r⟩=>
   obtain⟨q,e1,e2⟩:=ih r (by simpa using e);exact⟨q,by simpa using e1,e2⟩
noncomputable def byNames(cs:Combs)(nm:List Str):Combs:=nm.map fun x=>(x,(cGet cs x).getD [])
theorem byNames_snoc{cs:Combs}{nm:List Str}{x:Str}{ts:List Int}(h:cGet cs x=some ts):byNames cs (nm++[x])=byNames cs nm++[(x,ts)]:=by
 unfold byNames;rw[B7,At,Gw,h];rfl
theorem zdT{cs:Combs}{c:Str×List Int}{n:Int}(h:¬n%2=1):stepsOf (cs++[c]) n=stepsOf cs n++if Builtin.bitAnd n (worth c.2)=0 then[(c.1,(n+worth c.2) / 2)] else[]:=by
 unfold stepsOf;rw[if_neg h,if_neg h,D6,B7];congr 1;by_cases e:Dr n (worth c.2)=0
 ·rw[if_pos e,C8,if_pos (decide_eq_true e)];rfl
 ·rw[if_neg e,C8,if_neg (by simpa using e)];rfl
theorem steps_nil{n:Int}(h:¬n%2=1):stepsOf [] n=[]:=by
 unfold stepsOf;rw[if_neg h];rfl
theorem zeE{cs:Combs}{n:Int}(h:n%2=1):stepsOf cs n=[((Str.ofString "":Str),n / 2)]:=by
 unfold stepsOf;exact if_pos h
theorem steps_len{cs:Combs}{n:Int}(h:¬n%2=1):(stepsOf cs n).length<=cs.length:=by
 unfold stepsOf;rw[if_neg h,A4];exact Cp _ _
theorem zfu(t:Int)(ts:List Int):inV (V.int t) (ts.map V.int)=decide (t∈ts):=by
 unfold inV;rw[Ip,Ay,Bp,decide_eq_true_eq];constructor
 ·rintro⟨x,hx,e⟩;have:x=t:=by
   have e':(x==t)=true:=e;exact eq_of_beq e'
  rw[<-this];exact hx
 ·intro h;exact⟨t,h,beq_self_eq_true t⟩
theorem after_canon{ah ts ns:List Int}(ha:ah.Nodup)(hr:∀t∈ah,0<=t/\t<=6)(ht:ts.Nodup)(hr':∀t∈ts,0<=t/\t<=7)(hm:meets ah ts=false)(hp:ns.Perm (ah++ts))(hs:ns.Pairwise (· <= ·)):ns=canon (ah++ts):=by
 refine zdj hp hs (Cz.mpr ⟨ha,ht,fun a h1 b h2 e=>meets_false.mp hm b h2 (e▸h1)⟩) fun t h=>?_;rcases Al.mp h with z|z
 ·have:=hr t z;omega
 ·exact hr' t z
noncomputable def GoesR(H:Hp):List V->List (Str×List Int)->Prop
 |[],[]=>True
 |v::vs,s::ss=>(∃q t,v= .ref q/\H q=some (.tup [.str s.1,.ref t])/\H t=some (.tup (s.2.map V.int)))/\GoesR H vs ss
 |_,_=>False
theorem GoesR.mono{H H':Hp}(m:∀q xs,H q=some (.tup xs)->H' q=some (.tup xs)):∀{vs:List V}{ss:List (Str×List Int)},GoesR H vs ss->GoesR H' vs ss
 |[],[],_=>trivial
 |_::_,_::_,⟨⟨q,t,e,h,h2⟩,r⟩=>⟨⟨q,t,e,m q _ h,m t _ h2⟩,r.mono m⟩
 |[],_::_,x=>x.elim
 |_::_,[],x=>x.elim
theorem GoesR.length{H:Hp}:∀{vs:List V}{ss:List (Str×List Int)},GoesR H vs ss->vs.length=ss.length
 |[],[],_=>rfl
 |_::_,_::_,⟨_,r⟩=>by rw[Av,Av,r.length]
 |[],_::_,x=>x.elim
 |_::_,[],x=>x.elim
theorem GoesR.snoc{H:Hp}{q t:A3}{s:Str×List Int}(hq:H q=some (.tup [.str s.1,.ref t]))(ht:H t=some (.tup (s.2.map V.int))):∀{vs:List V}{ss:List (Str×List Int)},GoesR H vs ss->GoesR H (vs++[.ref q]) (ss++[s])
 |[],[],_=>⟨⟨q,t,rfl,hq,ht⟩,trivial⟩
 |_::_,_::_,⟨a,r⟩=>⟨a,r.snoc hq ht⟩
 |[],_::_,x=>x.elim
 |_::_,[],x=>x.elim
theorem GoesR.get{H:Hp}{i:Nat}{s:Str×List Int}:∀{vs:List V}{ss:List (Str×List Int)},GoesR H vs ss->ss[i]?=some s->∃q t,vs[i]?=some (.ref q)/\H q=some (.tup [.str s.1,.ref t])/\H t=some (.tup (s.2.map V.int)):=by
 induction i with
 |zero=>
  intro vs ss r e
  match vs,ss,r with
  |[],[],_=>simp at e
  |v::_,x::_,⟨⟨q,t,ev,h,h2⟩,_⟩=>
   simp at e;subst e;exact⟨q,t,by rw[ev];rfl,h,h2⟩
 |succ i ih=>
  intro vs ss r e
  match vs,ss,r with
  |[],[],_=>simp at e
  |v::vs,x::ss,⟨_,r⟩=>
   obtain⟨q,t,e1,e2⟩:=ih r (by simpa using e);exact⟨q,t,by simpa using e1,e2⟩
theorem goes_in{cs:Combs}{ah:List Int}(h:(0:Int)∈ah):goesOf cs ah=[((A0 "":Str),afterOf ah [])]:=by
 unfold goesOf;exact if_pos h
theorem goes_nil{ah:List Int}(h:(0:Int)∉ah):goesOf [] ah=[]:=by
 unfold goesOf;rw[if_neg h];rfl
theorem zeY{cs:Combs}{c:Str×List Int}{ah:List Int}(h:(0:Int)∉ah):goesOf (cs++[c]) ah=goesOf cs ah++if meets ah c.2=true then[] else[(c.1,afterOf ah c.2)]:=by
 unfold goesOf;rw[if_neg h,if_neg h,D6,B7];congr 1;by_cases e:meets ah c.2=true
 ·rw[if_pos e,C8,if_neg (by rw[e];decide)];rfl
 ·rw[if_neg e,C8,if_pos (by simpa using e)];rfl
end L2
namespace L2
open PySem PySem.Spec PyProof.Rows PySem.W
structure LtOk(n:Nat)(lt:Nat->Nat->Bool):Prop where
 tr:∀{a b c},lt a b=true->lt b c=true->lt a c=true
 tot:∀{a b},a<n->b<n->a≠b->lt a b=false->lt b a=true
 irr:∀a,lt a a=false
noncomputable abbrev gd(p:Array Nat)(i:Nat):Nat:=p.getD i 0
section
variable{n:Nat}{lt:Nat->Nat->Bool}{cmp:Nat->Nat->(Bool->A5->Prop)->A5->Prop}{s:A5}
variable(L:LtOk n lt)(hc:∀i j C,i<n->j<n->i≠j->C (lt i j) s->cmp i j C s)
include L hc
omit hc L in
omit hc L in
omit hc L in
end
end L2
namespace L2
open PySem PySem.Spec PyProof.Rows PySem.W
open AutoSeq1 (wpAny_loadPart')
open MeetsSeq MeetsSeq2 MeetsSeq3
section
variable{prog:Ap}{w:Bd}{A:B5}{E:A2->A5->Prop}{s:A5}
end
noncomputable def kd(ks:List (Str×List Int))(i:Nat):Str×List Int:=ks.getD i (A0 "",[])
section
variable{X:Cx}
end
noncomputable def intsChk:List A2->List Int->Bool
 |[],[]=>true
 | .int i _::r,k::s=>decide (i=k)&&intsChk r s
 |_,_=>false
theorem zf9:∀{us:List A2}{ns:List Int},intsChk us ns=true->Vals (ns.map V.int) us
 |[],[],_=>.nil
 | .int i t::r,k::s,h=>by
  simp only[intsChk,Bu,decide_eq_true_eq] at h;obtain⟨rfl,h⟩:=h;exact .cons ⟨t,rfl⟩ (zf9 h)
 |[],_::_,h=>by cases h
noncomputable def tupChk(K:Am)(a:A3)(ns:List Int):Bool:=match K.lookup a with
 |some o=>(o.cls==.type "tuple")&&match o.data with
  | .seq its _=>intsChk its.toList ns&&decide (its.size<=1000)
  |_=>false
 |none=>false
theorem tup_chk{K:Am}{a:A3}{ns:List Int}(h:tupChk K a ns=true)(H:Hp):SqT K H a (ns.map V.int):=by
 unfold tupChk at h
 split at h
 ·rename_i o e;rw[Bu] at h;obtain⟨hc,h⟩:=h
  split at h
  ·rename_i its n ed;rw[Bu] at h;exact .inr ⟨o,its,n,e,eq_of_beq hc,ed,big (of_decide_eq_true h.2),zf9 h.1⟩
  ·cases h
 ·cases h
end L2
namespace L2
open PySem PySem.Spec PyProof.Rows
theorem zhL{J:It}{Ok:Hp->Prop}{L:List V}{tf:TT}{te:TE}{D:A3}{σ0 capv:St}{H1:Hp}{Q:VK}(hσ:σ0=none::capv)(G:Gives J Ok L)(hL:L.length<=sizeLine)(hD:H1 D=none)(hOk:∀H,Same H1 H->Ok H)(p:Nat->Bool)(Rel:Hp->Nat->V->Prop)
  (hm:∀H H' i v,Same H H'->Rel H i v->Rel H' i v) (hw:∀H i v l l',v≠.ref D->H D=some (.lst l)->Rel H i v->Rel (upd H D (.lst l')) i v)
  (ht:∀(i:Nat)x,L[i]?=some x->∀H R,Same H1 H->(∀H',Same H H'->R (p i) H')->tf (some x::capv) H R)
  (he:∀(i:Nat)x,L[i]?=some x->p i=true->∀H R,Same H1 H->H D≠none->(∀H' v,Same H H'->v≠.ref D->Rel H' i v->R v H')->te (some x::capv) H R)
  (hd:∀H ys,Same H1 H->H D=some (.lst ys)->C5 (fun i y=>y≠.ref D/\Rel H i y) ((Af L.length).filter p) ys->Q (.ref D) H):
  CompW J D σ0 H1 (gName 0) tf te Q:=by
 subst hσ;refine zhj G (fun i xs σ H=>(∃o,σ=o::capv)/\Same H1 H/\H D=some (.lst xs)/\C5 (fun i y=>y≠.ref D/\Rel H i y) ((Af i).filter p) xs) ⟨⟨none,rfl⟩,Same.new hD,zab,.nil⟩ (fun i xs σ H _ h=>hOk H h.2.1) ?_ ?_
 ·rintro i x xs σ H hi hx⟨⟨o,rfl⟩,s,e,hr⟩;show tf (some x::capv) H _;refine ht i x hx H _ s fun H' s'=>?_;have hxl:xs.length<=i:=by
   rw[<-Cr hr];exact Bt (Cp _ _) (by rw[Ax];omega)
  have efil:(Af (i+1)).filter p=(Af i).filter p++if p i=true then[i] else[]:=by
   rw[Dy,D6];congr 1;rw[C8,F0]
  cases hp:p i with
  |true=>
   rw[if_pos rfl];refine he i x hx hp H' _ (s.trans s') (by rw[s' _ _ e];exact nofun) fun H2 v s2 hv rv=>?_;have e2:=s2 _ _ (s' _ _ e);refine CNext.of hi hL e2 hxl ⟨⟨some x,rfl⟩,((s.trans s').trans s2).put hD,zab,?_⟩;rw[efil,if_pos hp];exact Es (C5.mapP hr fun j y z=>⟨z.1,hw _ _ _ _ _ z.1 e2 (hm _ _ _ _ (s'.trans s2) z.2)⟩) ⟨hv,hw _ _ _ _ _ hv e2 rv⟩
  |false=>
   rw[if_neg Aa];refine CSkip.of (xs:=xs) hi ⟨⟨some x,rfl⟩,s.trans s',s' _ _ e,?_⟩;rw[efil,if_neg (by rw[hp];exact Aa),C1];exact C5.mapP hr fun j y z=>⟨z.1,hm _ _ _ _ s' z.2⟩
 ·rintro xs σ H⟨_,s,e,hr⟩;exact hd H xs s e hr
theorem C5.at{α β:Type}{R:α->β->Prop}:∀{l:List α}{m:List β}{i:Nat}{x:α},C5 R l m->l[i]?=some x->∃y,m[i]?=some y/\R x y
 |_,_,i,x,.nil,h=>by simp at h
 |_,_,0,x,.cons h r,e=>by
  simp at e;subst e;exact⟨_,rfl,h⟩
 |_,_,i+1,x,.cons h r,e=>by
  obtain⟨y,e1,e2⟩:=C5.at (i:=i) r (by simpa using e);exact⟨y,by simpa using e1,e2⟩
theorem zgj{J:It}{Ok:Hp->Prop}{L:List V}{tf:TT}{te:TE}{D:A3}{σ0 capv:St}{H1:Hp}{Q:VK}(hσ:σ0=none::capv)(G:Gives J Ok L)(hL:L.length<=sizeLine)(hD:H1 D=none)(hOk:∀H,Same H1 H->Ok H)(p:Nat->Bool)(F:Nat->V)(hF:∀i,i<L.length->p i=true->F i≠.ref D)
  (ht:∀(i:Nat)x,L[i]?=some x->∀H R,Same H1 H->(∀H',Same H H'->R (p i) H')->tf (some x::capv) H R)
  (he:∀(i:Nat)x,L[i]?=some x->p i=true->∀H R,Same H1 H->(∀H',Same H H'->R (F i) H')->te (some x::capv) H R)
  (hd:∀H,Same H1 H->H D=some (.lst (((Af L.length).filter p).map F))->Q (.ref D) H):
  CompW J D σ0 H1 (gName 0) tf te Q:=by
 refine zhL hσ G hL hD hOk p (fun _ i v=>v=F i) (fun _ _ _ _ _ h=>h) (fun _ _ _ _ _ _ _ h=>h) ht (fun i x hx hp H R s _ h=>he i x hx hp H R s fun H' s'=>h H' _ s' (hF i (Ar.mp hx).1 hp) rfl) fun H ys s e pr=>hd H s ?_;rw[e];have:∀{l:List Nat}{m:List V},C5 (fun i y=>y≠.ref D/\y=F i) l m->m=l.map F:=by
  intro l m q
  induction q with
  |nil=>rfl
  |cons h _ ih=>rw[At,<-ih,h.2]
 rw[this pr]
noncomputable def nmSort(cs:Combs):List Str:=(cs.map (·.1)).mergeSort fun a b=>decide (a.cps.toList<=b.cps.toList)
theorem zgU(cs:Combs):(nmSort cs).Perm (cs.map (·.1)):=List.mergeSort_perm _ _
theorem nm_sorted(cs:Combs):sortedS (nmSort cs)=true:=by
 refine sortedS_of_pairwise _ ?_;have h:=List.pairwise_mergeSort (le:=fun a b:Str=>decide (a.cps.toList<=b.cps.toList)) (fun a b c h1 h2=>decide_eq_true (Pf (of_decide_eq_true h1) (of_decide_eq_true h2))) (fun a b=>by
  rcases List.le_total a.cps.toList b.cps.toList with h|h
  ·rw[decide_eq_true h];rfl
  ·rw[decide_eq_true h,Mi]) (cs.map (·.1))
 exact h.imp fun{a b}h=>sle_iff.mp (show a.cps.toList<=b.cps.toList from of_decide_eq_true h)
noncomputable def srt(cs:Combs):Combs:=byNames cs (nmSort cs)
theorem zcs{cs:Combs}(nd:(cs.map (·.1)).Nodup){c:Str×List Int}(h:c∈cs):cGet cs c.1=some c.2:=by
 induction cs with
 |nil=>cases h
 |cons d cs ih=>
  rw[zdg];rw[At,Dn] at nd;rcases Ba.mp h with rfl|h
  ·exact if_pos rfl
  ·rw[if_neg (fun z:d.1=c.1=>nd.1 (z▸A7.mpr ⟨c,h,rfl⟩))];exact ih nd.2 h
theorem by_same{cs ks:Combs}(nd:(cs.map (·.1)).Nodup)(p:ks.Perm cs):byNames cs (ks.map (·.1))=ks:=by
 unfold byNames;rw[Bb]
 conv=>rhs;rw[<-Gk ks]
 refine Cg fun k hk=>?_;show(k.1,(cGet cs k.1).getD [])=k;rw[zcs nd (p.mem_iff.mp hk)];rfl
theorem zeg{cs:Combs}(nd:(cs.map (·.1)).Nodup):(srt cs).Perm cs:=by
 have h:(byNames cs (nmSort cs)).Perm (byNames cs (cs.map (·.1))):=(zgU cs).map _;rw[by_same nd (Kn _)] at h;exact h
noncomputable def stp(C:Combs)(s:Nat):List (Str×Int):=stepsOf C (s:Int)
noncomputable abbrev tr(r:List Bool)(s:Nat):Bool:=r.getD s false
noncomputable def GC(C:Combs):Prop:=∀c∈C,GT c.2
theorem zc0{C:Combs}(g:GC C){s:Nat}(h:s<128){p:Str×Int}(hp:p∈stp C s):0<=p.2/\p.2.toNat<128:=by
 have:=steps_lt (n:=(s:Int)) (by omega) (by omega) g p hp;omega
theorem zbI(lo:Int)(n:Nat):((Af n).map fun i=>V.int (lo+((i:Nat):Int))).length=n:=by rw[A4,Ax]
theorem at0{x y:V}:atI [x,y] 0=some x:=show atI [x,y] ((0:Nat):Int)=_ from zay rfl
theorem at1{x y:V}:atI [x,y] 1=some y:=show atI [x,y] ((1:Nat):Int)=_ from zay rfl
theorem zee{C:Combs}(h8:C.length<=8)(s:Nat):(stp C s).length<=8:=by
 unfold stp;by_cases e:(s:Int)%2=1
 ·rw[zeE e];exact N7 rfl
 ·exact Bt (steps_len e) h8
theorem at_end{α:Type}{ws:List α}{m:Nat}{x:α}(hl:ws.length=m+1)(h:ws[m]?=some x):atI ws (-1)=some x:=by
 have hne:ws≠[]:=fun z=>by rw[z] at hl;simp at hl
 have e:ws=ws.dropLast++[ws.getLast hne]:=(L6 hne).symm;have e2:ws.getLast hne=x:=by
  rw[M8];have:ws[m]?=some (ws[ws.length-1]'(by omega)):=by rw[A9 (by omega)];congr 2;omega
  rw[h] at this;exact(Bw this).symm
 rw[e,e2];exact at_last _ _
theorem zgm:∀{xs:List V}{us:List A2},xs.length=us.length->(∀(j:Nat)x u,xs[j]?=some x->us[j]?=some u->RelV x u)->Vals xs us
 |[],[],_,_=>.nil
 |x::xs,u::us,hl,h=>.cons (h 0 x u rfl rfl) (zgm (by simpa using hl) fun j y z e1 e2=>h (j+1) y z (by simpa using e1) (by simpa using e2))
section
variable{X:Cx}
end
theorem zav:∀(n:Nat)(l:List Nat),l.Nodup->(∀x∈l,x<n)->l.length<=n
 |0,[],_,_=>Ab _
 |0,x::l,_,h=>absurd (h x Aj) (by omega)
 |n+1,l,nd,h=>by
  by_cases hn:n∈l
  ·have e:=Lz hn;have:=zav n (l.erase n) (nd.erase n) (fun x hx=>by
    have h1:=h x (List.mem_of_mem_erase hx);have h2:x≠n:=((Sk nd).mp hx).1;omega)
   omega
  ·have:=zav n l nd (fun x hx=>by
    have h1:=h x hx;have h2:x≠n:=fun z=>hn (z▸hx);omega)
   omega
noncomputable def nx(C:Combs)(row:List Bool)(s:Nat):Option (Str×Int):=(stp C s).find? fun p=>tr row p.2.toNat
noncomputable def LaysR(H:Hp)(vs:List V)(n:Nat->Str)(i:Nat):Prop:=C5 (fun(j:Nat)(v:V)=>∃q,v= .ref q/\H q=some (.tup [.int (j:Int),.str (n j)])) ((Af i).filter fun j=>decide (n j≠A0 "")) vs
theorem LaysR.mono{H H':Hp}{vs:List V}{n:Nat->Str}{i:Nat}(m:∀q xs,H q=some (.tup xs)->H' q=some (.tup xs))(r:LaysR H vs n i):LaysR H' vs n i:=C5.mapP r fun _ _⟨q,a,b⟩=>⟨q,a,m _ _ b⟩
theorem LaysR.skip{H:Hp}{vs:List V}{n:Nat->Str}{i:Nat}(r:LaysR H vs n i)(h:n i=A0 ""):LaysR H vs n (i+1):=by
 unfold LaysR;rw[Dy,D6,C8,if_neg (by simpa using h),F0,C1];exact r
theorem LaysR.snoc{H:Hp}{vs:List V}{n:Nat->Str}{i:Nat}{q:A3}(r:LaysR H vs n i)(h:n i≠A0 "")(hq:H q=some (.tup [.int (i:Int),.str (n i)])):LaysR H (vs++[.ref q]) n (i+1):=by
 unfold LaysR;rw[Dy,D6,C8,if_pos (by simpa using h),F0];exact Es r ⟨q,rfl,hq⟩
theorem LaysR.len{H:Hp}{vs:List V}{n:Nat->Str}{i:Nat}(r:LaysR H vs n i):vs.length<=i:=by
 rw[<-Cr r];exact Bt (Cp _ _) (by rw[Ax];omega)
section
variable{prog:Ap}{w:Bd}{A:B5}{E:A2->A5->Prop}{s:A5}{d it:A3}{o:Obj}{es:Array Gu}{ep i:Nat}
theorem zhb(ho:s.heap.get? d=some o)(hc:o.ExactDict):s.TypeIs (.ref d) "dict":=⟨o,ho,hc.1⟩
theorem zhe{Q:A2->A5->Prop}(hd:(d==sysModules)=false)(ho:s.heap.get? d=some o)(hc:o.ExactDict)(hdat:o.data= .dict es ep)
  (hQ:Q (.ref s.heap.objs.size) {s with heap:=s.heap.push {cls:=.type "dict_keyiterator",data:=.fields #[.ref d,.int 0 0,.int es.size 0,.int ep 0]}}):wpAny (model prog w) A (pyIter (.ref d)) Q E s:=by
 have hT:=zhb ho hc;refine wpAny_pyIter_slot hT Ph (Di Ph hT F.entry_dict_iter (show wpAny _ _ (Fp.«dict.__iter__» _) _ _ _ from ?_) (F.args_dict_iter_1 _));unfold Fp.«dict.__iter__»;refine A1 ?_;unfold Rj;refine A1 (wpAny_notOrdered_dict hT (show wpAny _ _ (pure (B1 d)) _ _ s from Ae (show wpAny _ _ (Kw d>>=_) _ _ s from ?_)));unfold Kw;rw[if_neg (by rw[hd];exact Aa)];refine A1 (Ae (A1 (Ij ho hdat (A1 (M3 ho hdat (A1 (El (Ae ⟨_,rfl,"dict_keyiterator",_,⟨_,Aw _ rfl,rfl⟩,E2.lookup,?_⟩))))))));simpa[rawInt] using hQ
theorem zhd{Q:Option A2->A5->Prop}(hit:s.heap.IsKeyIter it d i es.size ep)(hod:s.heap.get? d=some o)(hdd:o.data= .dict es ep)(hlt:i<es.size)
  (hQ:∀h',h'.IsKeyIter it d (i+1) es.size ep->Fl it s.heap h'->Q (some es[i].key) {s with heap:=h'}):wpAny (model prog w) A (pyNext (.ref it)) Q E s:=by
 obtain⟨oi,hi,hc,hd⟩:=id hit;have hown:Is "dict_keyiterator"=false:=by decide
 unfold pyNext;refine A1 (Fx (Gb (name:=A0 "__next__") hit.typeIs E2 (Di E2 hit.typeIs Li ?_ (Lc _))));refine A1 (Ae (A1 (A1 ?_)))
 first|refine A1 (F7 hit.typeIs (Ae (A1 (K2 hi hd ?_))))|refine A1 (Fw hit.typeIs (Ae (A1 (K2 hi hd ?_))))
 simp only[hown,Bo,if_false];show wpAny _ _ (if(B1 d==Dw)=true then _ else _) _ _ s;rw[if_neg (show¬((B1 d==Dw)=true) from Aa)];refine A1 (Ae (A1 (Ij hod hdd ?_)));rw[if_neg (by simp)];refine A1 (Ae (A1 (M3 hod hdd ?_)));rw[if_neg (by simp)];refine Ae ?_;simp only[show¬((i:Int)<0) from by omega,if_false,De,Hj hlt];refine A1 ?_
 first|refine A1 (F7 hit.typeIs (Ae (A1 (Jt hit.typeIs ?_))))|refine A1 (Fw hit.typeIs (Ae (A1 (Jt hit.typeIs ?_))))
 have hit':(s.heap.update it (F8 (·.setIfInBounds 1 (rawInt ((i:Int)+1))))).IsKeyIter it d (i+1) es.size ep:=⟨_,Gh _ hi (N6 (Ft hd _)),(Oj ..).trans hc,by rw[Ft hd];simp[rawInt]⟩;refine(show wpAny _ _ (setField (.ref it) 1 (rawInt ((i:Int)+1))>>=_) _ _ s from A1 (Hs hi hd (by simp) (A1 (Cs (A1 (Jt (s:={s with heap:=s.heap.update it (F8 (·.setIfInBounds 1 (rawInt ((i:Int)+1))))}) hit'.typeIs ?_))))));show wpAny _ _ (pure es[i].key) _ _ _;exact Ae (Ae ⟨_,rfl,Ae (hQ _ hit' (Lb ..))⟩)
theorem zhI{Q:Option A2->A5->Prop}(hh:A.handled=none)(hit:s.heap.IsKeyIter it d i es.size ep)(hod:s.heap.get? d=some o)(hdd:o.data= .dict es ep)(hge:es.size<=i)
  (hQ:∀h',Q9 it s.heap h'->Q none {s with heap:=h'}):wpAny (model prog w) A (pyNext (.ref it)) Q E s:=by
 obtain⟨oi,hi,hc,hd⟩:=id hit;have hown:Is "dict_keyiterator"=false:=by decide
 unfold pyNext;refine A1 (Fx (Gb (name:=A0 "__next__") hit.typeIs E2 (Di E2 hit.typeIs Li ?_ (Lc _))));refine A1 (Ae (A1 (A1 ?_)))
 first|refine A1 (F7 hit.typeIs (Ae (A1 (K2 hi hd ?_))))|refine A1 (Fw hit.typeIs (Ae (A1 (K2 hi hd ?_))))
 simp only[hown,Bo,if_false];show wpAny _ _ (if(B1 d==Dw)=true then _ else _) _ _ s;rw[if_neg (show¬((B1 d==Dw)=true) from Aa)];refine A1 (Ae (A1 (Ij hod hdd ?_)));rw[if_neg (by simp)];refine A1 (Ae (A1 (M3 hod hdd ?_)));rw[if_neg (by simp)];refine Ae ?_;simp only[show¬((i:Int)<0) from by omega,if_false,De,Array.getElem?_eq_none hge];refine A1 ?_
 first|refine A1 (F7 hit.typeIs (Ae ?_))|refine A1 (Fw hit.typeIs (Ae ?_))
 refine(show wpAny _ _ (setField (.ref it) 0 .none>>=_) _ _ s from A1 (Hs hi hd (by simp) (show wpAny _ _ (newExc (.type "StopIteration") []>>=_) _ _ _ from A1 ?_)));simp only[newExc,newTuple];refine A1 (El ?_ (by size_fits));refine A1 (m:=firstArgMember _ _) (Op (a:=Dw) (by first|rfl|(simp only[firstArgMember];rfl)) (El ?_ (by size_fits)));simp only[raiseNew];refine A1 (Rz ?_);rw[show A.in1.handled=none from hh];refine A1 (Ae (wpAny_throw ?_));refine A1 (Gp (T:="StopIteration") (b:=true) ⟨_,Aw _ rfl,rfl⟩ Rq ?_);exact Ae (hQ _ (((Lb ..).extBut.push _).push _))
end
theorem C5.rev{α β:Type}{R:α->β->Prop}:∀{l:List α}{m:List β}{i:Nat}{y:β},C5 R l m->m[i]?=some y->∃x,l[i]?=some x/\R x y
 |_,_,i,x,.nil,h=>by simp at h
 |_,_,0,x,.cons h r,e=>by
  simp at e;subst e;exact⟨_,rfl,h⟩
 |_,_,i+1,x,.cons h r,e=>by
  obtain⟨y,e1,e2⟩:=C5.rev (i:=i) r (by simpa using e);exact⟨y,by simpa using e1,e2⟩
section
variable{X:Cx}{pins:List (A3×Obj)}{σ:St}{H:Hp}{s:A5}{a:A3}{kvs:List (List Key×V)}
theorem Inv.freezeT(I:Inv X pins σ H s)(h:H a=some (.dT kvs)):∃o,s.heap.get? a=some o/\Inv X pins σ (upd H a (.frz o (.dT kvs))) s:=by
 have ok:=(show ObjOk X.prog X.w H s.heap a (.dT kvs) from I.hok a _ h);obtain⟨o,ho⟩:=ok.there;refine⟨o,ho,?_⟩;have:=Inv.write (x:=a) (e:=a) (o:=.frz o (.dT kvs)) (h':=s.heap) (t':=s.toks) I (by rw[h];trivial) (.inl rfl) (fun _ _ _ q=>q) ⟨o,ho⟩ ⟨ho,ok.stay (fun _ _ _ q=>q) (fun b q=>by rw[zah (fun z=>by rw[z,h] at q;cases q)];exact q) fun b xs q=>by rw[zah (fun z=>by rw[z,h] at q;cases q)];exact q⟩;exact this
theorem Inv.unfreezeT{o:Obj}(I:Inv X pins σ H s)(h:H a=some (.frz o (.dT kvs)))(h0:∀o u,X.H₀ a≠some (.frz o u)):Inv X pins σ (upd H a (.dT kvs)) s:=by
 have nn:∀b,H b=none->b≠a:=fun b q z=>by rw[z,h] at q;cases q
 obtain⟨ho,ok⟩:=(show ObjOk X.prog X.w H s.heap a (.frz o (.dT kvs)) from I.hok a _ h);have own:∀b y,H b=some (.own y)->upd H a (.dT kvs) b=some (.own y):=fun b y q=>by rw[zah (fun z=>by rw[z,h] at q;cases q)];exact q
 have tups:∀b xs,H b=some (.tup xs)->upd H a (.dT kvs) b=some (.tup xs):=fun b y q=>by rw[zah (fun z=>by rw[z,h] at q;cases q)];exact q
 refine⟨I.ok,I.os,I.bare,⟨I.base.keep,I.base.slot,fun b u q n hx=>?_,I.base.there,fun b xs q=>tups b xs (I.base.tups b xs q),fun b u v q=>?_,fun b ps q=>?_⟩,I.loc,I.cell,?_,fun y c e=>?_,fun p hp=>?_,fun b u q=>?_,I.len⟩
 ·have:=I.base.free b u q n hx;rw[zah (nn b this)];exact this
 ·have q':=I.base.frzs b u v q;rw[zah (fun z=>h0 _ _ (z▸q))];exact q'
 ·obtain⟨m,e⟩:=I.base.tbls b ps q;exact⟨m,by rw[zah (fun z=>by rw[z,h] at e;cases e)];exact e⟩
 ·rw[zah (nn _ I.free)];exact I.free
 ·rw[zah (nn _ (I.freeC y c e))];exact I.freeC y c e
 ·obtain⟨e1,e2,e3,e4,e5⟩:=I.pin p hp;exact⟨e1,by rw[zah (nn _ e2)];exact e2,e3,e4,e5⟩
 ·by_cases hb:b=a
  ·subst hb;rw[zab] at q
   cases q
   exact ok.stay (fun _ _ _ q=>q) (fun c q=>own c _ q) tups
  ·rw[zah hb] at q;exact(I.hok b u q).stay (fun _ _ _ q=>q) (fun c q=>own c _ q) tups
end
noncomputable def IttD(a:A3)(o:Obj)(kvs:List (List Key×V)):It:=⟨fun i H=>H a=some (.frz o (.dT kvs))/\i<kvs.length,fun i H v H'=>H'=H/\∃k y b,kvs[i]?=some (k,y)/\v= .ref b/\H b=some (.tup (k.map kV)),fun i H=>H a=some (.frz o (.dT kvs))/\kvs.length<=i⟩
theorem zfy{X:Cx}{pins:List (A3×Obj)}{σ:St}{H:Hp}{s:A5}{a:A3}{o:Obj}{kvs:List (List Key×V)}{es:Array Gu}{ep:Nat}(I:Inv X pins σ H s)(h:H a=some (.frz o (.dT kvs)))(hd:o.data= .dict es ep):
  s.heap.get? a=some o/\(a==sysModules)=false/\o.ExactDict/\es.size=kvs.length/\∀i(hi:i<es.size),∃k y b,kvs[i]?=some (k,y)/\es[i].key= .ref b/\H b=some (.tup (k.map kV)):=by
 obtain⟨ho,hz,lo,xs,kt,o',es',ep',ho',c,d,r,_⟩:=(show ObjOk X.prog X.w H s.heap a (.frz o (.dT kvs)) from I.hok a _ h);rw[ho] at ho'
 cases ho'
 rw[hd] at d
 cases d
 have hl:=Cr kt;have hl2:es.size=xs.length:=by rw[<-As,r,A4]
 refine⟨ho,lo,c,by omega,fun i hi=>?_⟩;have e1:es.toList[i]?=some es[i]:=by simp[hi]
 rw[r,Ad] at e1
 cases ex:xs[i]? with
 |none=>rw[ex] at e1;cases e1
 |some x=>
  rw[ex] at e1;obtain⟨p,ep,h1,h2,h3⟩:=C5.rev kt ex;refine⟨p.1,p.2,x.2.1,ep,?_,h2⟩;rw[<-Bw e1];rfl
theorem turn_dictT{P:Ap}{w:Bd}{K:Am}{tg:Cb}(a it:A3)(o:Obj)(kvs:List (List Key×V))(es:Array Gu)(ep:Nat)(hd:o.data= .dict es ep):
  Turn P w K tg (IttD a o kvs) [it] it (fun i h=>h.IsKeyIter it a i es.size ep) where
 mem:=by simp
 obj:=fun i h st b hb=>by
  have e:b=it:=by simpa using hb
  subst e;obtain⟨o,e,c,d⟩:=st;exact⟨o,e,fun v z=>by rw[d] at z;cases z⟩
 keep:=fun i h h' st k=>by
  obtain⟨o,e,r⟩:=st;exact⟨o,k it (by simp) o e,r⟩
 item:=by
  intro X hP hw hK hc i pins s σ H E I hf st hg;subst hP hw hK;obtain⟨hz,hi⟩:=hg;obtain⟨ho,lo,hex,hsz,hk⟩:=zfy I hz hd;obtain⟨f0,f1,f2,f3,f4,f5⟩:=hf it (by simp);obtain⟨k,y,b,e1,e2,e3⟩:=hk i (by omega);refine zhd st ho hd (by omega) fun h' st' sb=>?_;have I1:Inv X pins σ H {s with heap:=h'}:=I.turned (t':=s.toks) (fun b o hb e=>(sb.2 b hb).trans e) f0 f1 f3 f4 f5;obtain⟨o',e,c,d⟩:=id st';refine⟨_,rfl,zfw (s:={s with heap:=h'}) e c d (by decide) ⟨.ref b,H,I1,e2,⟨rfl,k,y,b,e1,rfl,e3⟩,st',fun b hb=>(hf b hb).1⟩⟩
 done:=by
  intro X hP hw hK hc i pins s σ H E I hf st hg;subst hP hw hK;obtain⟨hz,hi⟩:=hg;obtain⟨ho,lo,hex,hsz,hk⟩:=zfy I hz hd;obtain⟨f0,f1,f2,f3,f4,f5⟩:=hf it (by simp);exact zhI (I.ok.hd hc) st ho hd (by omega) fun h' eb=>⟨rfl,I.turned (t':=s.toks) (fun b o hb e=>eb b o hb e) f0 f1 f3 f4 f5⟩
 self:=fun A i s Q E st h=>by
  obtain⟨o,e,c,d⟩:=st;exact K1 ⟨o,e,c,d⟩ h
section
variable{X:Cx}{tg:Cb}
noncomputable def iDicT(i:Nat):TI:=fun σ H R=>∃a o kvs,σ[i]?=some (some (.ref a))/\H a=some (.frz o (.dT kvs))/\R (IttD a o kvs) H
theorem pi_dicT{i:Nat}{x:Str}{np:Pos}(hx:PE X (.Name x np) (tVar i)):PI X tg (.Name x np) (iDicT i):=by
 intro pins s σ H R I h;obtain⟨a,o,kvs,hσ,ha,q⟩:=h;refine thnE (hx pins s σ H (fun v H1=>v= .ref a/\H1=H) I ⟨_,hσ,rfl,rfl⟩) fun v s1 y H1 I1 r1⟨e1,e2⟩=>?_;subst e1 e2
 cases r1
 obtain⟨ho,_,_,_,_,o',es,ep,ho',_,d,_⟩:=(show ObjOk X.prog X.w H1 s1.heap a (.frz o (.dT kvs)) from I1.hok a _ ha);rw[ho] at ho'
 cases ho'
 obtain⟨_,lo,hex,hsz,_⟩:=zfy I1 ha d;refine zhe lo ho hex d ?_;refine⟨s1.heap.objs.size,[s1.heap.objs.size],_,_,H1,rfl,I1.kept (t':=s1.toks) fun b o e=>A8 _ e,turn_dictT a _ o kvs es ep d,?_,fun b hb=>?_,q⟩
 ·exact⟨_,Aw _ rfl,rfl,rfl⟩
 ·have e:b=s1.heap.objs.size:=by simpa using hb
  subst e;exact I1.fpOk (Ab _) (I1.hok.fresh (Ab _))
noncomputable def DfrzT(a:A3)(o:Obj)(kvs:List (List Key×V))(D:Ends):Ends:={nx:=fun σ H=>H a=some (.frz o (.dT kvs))/\D.nx σ (upd H a (.dT kvs)),rt:=fun v H=>H a=some (.frz o (.dT kvs))/\D.rt v (upd H a (.dT kvs)),bk:=fun σ H=>H a=some (.frz o (.dT kvs))/\D.bk σ (upd H a (.dT kvs)),ct:=fun σ H=>H a=some (.frz o (.dT kvs))/\D.ct σ (upd H a (.dT kvs))}
noncomputable def tForT(i:Nat)(g:TG)(tb:TS):TS:=fun D σ H=>∃a kvs,σ[i]?=some (some (.ref a))/\H a=some (.dT kvs)/\∀o,∃W:Nat->Nat->St->Hp->Prop,(∃m,W 0 m σ (upd H a (.frz o (.dT kvs))))/\∀j m σ H,W j m σ H->
 ((IttD a o kvs).stop j H/\(DfrzT a o kvs D).nx σ H)\/((IttD a o kvs).go j H/\∃N:St->Hp->Prop,(∀σ' H',N σ' H'->∃m',m'<m/\W (j+1) m' σ' H')/\
  ∀x H',(IttD a o kvs).yld j H x H'->g x σ H' fun σ2 H2=>tb {DfrzT a o kvs D with nx:=N,ct:=N,bk:=(DfrzT a o kvs D).nx} σ2 H2)
theorem ps_forT{i:Nat}{x:Str}{body:List Ca}{g:TG}{tb:TS}{np pos:Pos}(hp:Np (model X.prog X.w) X.A X.env X.xe)(hc:X.calm=true)(hx:PE X (.Name x np) (tVar i))(hg:PG X tg g)(hb:PSs X body tb)
  (hs:∀y,foldedSetIterable (.Name x np) X.env y=pure y:=by intro _;rfl):PS X (.For tg (.Name x np) body [] pos) (tForT i g tb):=by
 intro pins s σ H D I h;obtain⟨a,kvs,hσ,ha,h⟩:=h;obtain⟨o,ho,I1⟩:=I.freezeT ha;have h0:∀o u,X.H₀ a≠some (.frz o u):=fun o' u z=>by
  have:=I.base.frzs a o' u z;rw[ha] at this
  cases this
 refine Ct (zaY hp hc (pi_dicT hx) hg hb hs pins s σ (upd H a (.frz o (.dT kvs))) (DfrzT a o kvs D) I1 ⟨a,o,kvs,hσ,zab,h o⟩) (fun f s' q=>?_) fun _ _ z=>z
 cases f with
 |next=>obtain⟨σ',H',J,e,q⟩:=q;exact⟨σ',_,J.unfreezeT e h0,q⟩
 |brk=>obtain⟨σ',H',J,e,q⟩:=q;exact⟨σ',_,J.unfreezeT e h0,q⟩
 |cont=>obtain⟨σ',H',J,e,q⟩:=q;exact⟨σ',_,J.unfreezeT e h0,q⟩
 |ret u=>obtain⟨v,σ',H',J,r,e,q⟩:=q;exact⟨v,σ',_,J.unfreezeT e h0,r,q⟩
end
section
variable{prog:Ap}{w:Bd}{A:B5}{E:A2->A5->Prop}{s:A5}{d:A3}{o:Obj}{es:Array Gu}{ep:Nat}
theorem ed_len{Q:A2->A5->Prop}(hd:(d==sysModules)=false)(ho:s.heap.get? d=some o)(hc:o.ExactDict)(hdat:o.data= .dict es ep)(hfit:(es.size:Int)<2 ^ 63)(h:Q (.int es.size (s.toks+1)) {s with toks:=s.toks+1+1}):wpAny (model prog w) A (call (.builtin "len") [.ref d]) Q E s:=by
 have hT:=zhb ho hc;refine Fm kind_len plain_len entry_len (args_len1 _) (show wpAny _ _ (Fp.«len» _) _ _ _ from ?_);unfold Fp.«len»;refine A1 (m:=oneArg "len" _) (Ae ?_);refine A1 (m:=callSpecial? (.ref d) (A0 "__len__")) (Gb (name:=A0 "__len__") hT Po (Di Po hT F.entry_dict_len (show wpAny _ _ (dictSize d>>=_) _ _ s from ?_) (F.args_dict_len_1 _)));unfold dictSize;refine A1 (A1 (Ij ho hdat (Ae (show wpAny _ _ (Ri d>>=_) _ _ s from A1 (wpAny_pendingCount_other hd (Qf ?_))))));show wpAny _ _ _ _ _ {s with toks:=s.toks+1};refine A1 (Cs (Ae (A1 (wpAny_letGo ?_))));show wpAny _ _ (if((es.size+0:Nat):Int)<0 then _ else _) _ _ _;rw[if_neg (by omega)];show wpAny _ _ (if((es.size+0:Nat):Int)>=2 ^ 63 then _ else _) _ _ _;rw[if_neg (by omega)];exact A1 (wpAny_mkInt (Ae ⟨_,rfl,h⟩))
end
noncomputable def kI(ns:List Int):List Key:=ns.map Dm
theorem kI_V(ns:List Int):(kI ns).map kV=ns.map V.int:=by unfold kI;rw[Bb];rfl
theorem zd8:∀{a b:List Int},kI a=kI b->a=b
 |[],[],_=>rfl
 |[],_::_,h=>by cases h
 |_::_,[],h=>by cases h
 |x::a,y::b,h=>by
  unfold kI at h;rw[At,At] at h;injection h with h1 h2;injection h1 with h1;rw[h1,zd8 h2]
section
variable{X:Cx}
theorem zfa:CallR X (.builtin "len") (fun xs H Q=>∃(a:A3)(kvs:List (List Key×V)),xs=[V.ref a]/\H a=some (.dT kvs)/\Q (.int kvs.length) H):=by
 intro pins s σ H xs us Q I r h;obtain⟨a,kvs,rfl,ha,q⟩:=h;obtain⟨u,rfl,ru⟩:=zb2 r
 cases ru
 obtain⟨hz,lo,xs,kt,o,es,ep,ho,c,d,e,_⟩:=(show ObjOk X.prog X.w H s.heap a (.dT kvs) from I.hok a _ ha);have hl:=Cr kt;have hl2:es.size=xs.length:=by rw[<-As,e,A4]
 have hz2:sizeLine<2 ^ 62:=by decide
 refine ed_len lo ho c d (by omega) ⟨.int _,H,I.tok _,⟨_,rfl⟩,?_⟩;rw[show es.size=kvs.length by omega];exact q
end
theorem steps_perm{C C':Combs}(p:C.Perm C')(n:Int):(stepsOf C n).Perm (stepsOf C' n):=by
 unfold stepsOf
 split
 ·exact Kn _
 ·exact(p.filter _).map _
theorem any_perm{α:Type}{l l':List α}(p:l.Perm l')(f:α->Bool):l.any f=l'.any f:=by
 rw[Ay,Bp,Bp];exact⟨fun⟨x,h,e⟩=>⟨x,p.mem_iff.mp h,e⟩,fun⟨x,h,e⟩=>⟨x,p.mem_iff.mpr h,e⟩⟩
theorem fold_max(l:List Int)(a:Int):(∀x∈l,x<=l.foldl max a)/\a<=l.foldl max a/\(l.foldl max a=a\/l.foldl max a∈l):=by
 induction l generalizing a with
 |nil=>exact⟨by simp,Dg _,.inl rfl⟩
 |cons x l ih=>
  obtain⟨h1,h2,h3⟩:=ih (max a x);rw[J8];refine⟨fun y hy=>?_,by omega,?_⟩
  ·rcases Ba.mp hy with rfl|hy
   ·omega
   ·exact h1 y hy
  ·rcases h3 with h|h
   ·rcases Int.le_total a x with z|z
    ·exact .inr (by rw[h,Int.max_eq_right z];exact Aj)
    ·exact .inl (by rw[h,Int.max_eq_left z])
   ·exact .inr (Ac _ h)
theorem zdM{a b:Nat}(ha:a<128)(hb:b<128)(h:aheadOf (a:Int)=aheadOf (b:Int)):a=b:=by
 have h1:=zbk (n:=(a:Int)) (by omega) (by omega);have h2:=zbk (n:=(b:Int)) (by omega) (by omega);rw[h,h2] at h1;omega
noncomputable def akey(s:Nat):List Key:=kI (aheadOf (s:Int))
theorem zdk{a b:Nat}(ha:a<128)(hb:b<128)(h:akey a=akey b):a=b:=zdM ha hb (zd8 h)
theorem valV_mem{κ:Type}[DecidableEq κ]{kvs:List (κ×V)}{k:κ}:(valV kvs k).isSome=true↔k∈kvs.map (·.1):=by
 rw[<-zbq,Bp,A7];constructor
 ·rintro⟨x,hx,e⟩;exact⟨x,hx,of_decide_eq_true e⟩
 ·rintro⟨x,hx,e⟩;exact⟨x,hx,decide_eq_true e⟩
theorem zfk{κ:Type}[DecidableEq κ]:∀{kvs:List (κ×V)}{i:Nat}{k:κ}{v:V},(kvs.map (·.1)).Nodup->kvs[i]?=some (k,v)->valV kvs k=some v
 |[],_,_,_,_,h=>by simp at h
 |p::kvs,0,k,v,nd,h=>by
  simp at h;subst h;exact za4 rfl
 |p::kvs,i+1,k,v,nd,h=>by
  rw[At,Dn] at nd;have h':kvs[i]?=some (k,v):=by simpa using h
  rw[zaX (fun z=>nd.1 (z▸A7.mpr ⟨(k,v),B0 h',rfl⟩))];exact zfk nd.2 h'
theorem zbs{ks:Combs}{s:Nat}(hs:s<128)(g:GC ks):(goesOf ks (aheadOf (s:Int))).map (fun p=>(p.1,worth p.2))=stp ks s:=zdU (by omega) (by omega) g
theorem zcf{ks:Combs}{s:Nat}(hs:s<128)(g:GC ks){p:Str×List Int}(hp:p∈goesOf ks (aheadOf (s:Int))):(worth p.2).toNat<128/\0<=worth p.2/\kI p.2=akey (worth p.2).toNat/\(p.1,worth p.2)∈stp ks s:=by
 have hm:(p.1,worth p.2)∈stp ks s:=by rw[<-zbs hs g];exact A7.mpr ⟨p,hp,rfl⟩
 have hlt:=zc0 g hs hm;refine⟨hlt.2,hlt.1,?_,hm⟩;have:∃a b,p.2=afterOf a b:=by
  unfold goesOf at hp
  split at hp
  ·rw[A6.mp hp];exact⟨_,_,rfl⟩
  ·obtain⟨c,_,rfl⟩:=A7.mp hp;exact⟨_,_,rfl⟩
 obtain⟨a,b,e⟩:=this;unfold akey;rw[show(((worth p.2).toNat:Nat):Int)=worth p.2 by have:=hlt.1;show _=_;omega];congr 1;rw[e];have hs:afterOf a b=((Af 7).filter fun i=>decide (((i:Nat):Int)∈afterOf a b)).map fun i=>((i:Nat):Int):=by
  refine zbt ?_ ((zdl a b).imp fun h=>by omega) ?_
  ·rw[D5 (zaR (zdl a b))]
   ·intro t;simp only[A7,Bc,Be,decide_eq_true_eq];constructor
    ·intro h;have:=zgl t h;exact⟨t.toNat,⟨by omega,by rwa[show((t.toNat:Nat):Int)=t by omega]⟩,by omega⟩
    ·rintro⟨i,⟨_,h⟩,rfl⟩;exact h
   ·refine zaR ?_;rw[Bl];refine Bj Cw (En ?_ (D7 (n:=7)));intro a b h;omega
  ·rw[Bl];refine Bj Cw (En ?_ (D7 (n:=7)));intro a b h;omega
 rw[hs];exact(ahead_worth _).symm
theorem forT_g{a:A3}{o:Obj}{kvs:List (List Key×V)}{g:TG}{tb:TS}{D:Ends}{σ:St}{H:Hp}(Pv:Nat->St->Hp->Prop)(h0:Pv 0 σ H)(hk:∀i σ H,Pv i σ H->H a=some (.frz o (.dT kvs)))
  (hs:∀i k y b σ H,kvs[i]?=some (k,y)->H b=some (.tup (k.map kV))->Pv i σ H->g (.ref b) σ H fun σ2 H2=>tb {D with nx:=Pv (i+1),ct:=Pv (i+1),bk:=D.nx} σ2 H2) (hd:∀σ H,Pv kvs.length σ H->D.nx σ H):
  ∃W:Nat->Nat->St->Hp->Prop,(∃m,W 0 m σ H)/\∀j m σ H,W j m σ H->((IttD a o kvs).stop j H/\D.nx σ H)\/((IttD a o kvs).go j H/\∃N:St->Hp->Prop,(∀σ' H',N σ' H'->∃m',m'<m/\W (j+1) m' σ' H')/\
   ∀x H',(IttD a o kvs).yld j H x H'->g x σ H' fun σ2 H2=>tb {D with nx:=N,ct:=N,bk:=D.nx} σ2 H2):=by
 refine⟨fun j m σ H=>m=kvs.length-j/\j<=kvs.length/\Pv j σ H,⟨_,rfl,Bs _,h0⟩,?_⟩;rintro j m σ H⟨rfl,hj,p⟩;by_cases hlt:j<kvs.length
 ·refine .inr ⟨⟨hk _ _ _ p,hlt⟩,Pv (j+1),fun σ' H' p'=>⟨kvs.length-(j+1),by omega,rfl,hlt,p'⟩,?_⟩;rintro x H'⟨rfl,k,y,b,e1,rfl,e3⟩;exact hs j k y b σ _ e1 e3 p
 ·have e:j=kvs.length:=by omega
  subst e;exact .inl ⟨⟨hk _ _ _ p,Ab _⟩,hd σ H p⟩
theorem comp_x2{K:Am}{J:It}{Ok:Hp->Prop}{L:List V}{tf:TT}{te:TE}{D:A3}{σ0 capv:St}{H1:Hp}{Q:VK}(hσ:σ0=none::none::capv)(G:Gives J Ok L)(hL:L.length<=sizeLine)(hD:H1 D=none)(hOk:∀H,Same H1 H->Ok H)(X Y:Nat->V)(hXY:∀(i:Nat)x,L[i]?=some x->∃q,x= .ref q/\H1 q=some (.tup [X i,Y i]))(p:Nat->Bool)(Rel:Hp->Nat->V->Prop)
  (hm:∀H H' i v,Same H H'->Rel H i v->Rel H' i v) (hw:∀H i v l l',v≠.ref D->H D=some (.lst l)->Rel H i v->Rel (upd H D (.lst l')) i v)
  (ht:∀i,i<L.length->∀H R,Same H1 H->(∀H',Same H H'->R (p i) H')->tf (some (X i)::some (Y i)::capv) H R)
  (he:∀i,i<L.length->p i=true->∀H R,Same H1 H->H D≠none->(∀H' v,Same H H'->v≠.ref D->Rel H' i v->R v H')->te (some (X i)::some (Y i)::capv) H R)
  (hd:∀H ys,Same H1 H->H D=some (.lst ys)->C5 (fun i y=>y≠.ref D/\Rel H i y) ((Af L.length).filter p) ys->Q (.ref D) H):
  CompW J D σ0 H1 (gTup K 2 (gCons (gName 0) (gCons (gName 1) gNil))) tf te Q:=by
 subst hσ;refine zhj G (fun i xs σ H=>(∃o1 o2,σ=o1::o2::capv)/\Same H1 H/\H D=some (.lst xs)/\C5 (fun i y=>y≠.ref D/\Rel H i y) ((Af i).filter p) xs) ⟨⟨none,none,rfl⟩,Same.new hD,zab,.nil⟩ (fun i xs σ H _ h=>hOk H h.2.1) ?_ ?_
 ·rintro i x xs σ H hi hx⟨⟨o1,o2,rfl⟩,s,e,hr⟩;obtain⟨qx,rfl,hqx⟩:=hXY i x hx;refine⟨qx,[X i,Y i],rfl,SqT.of (s _ _ hqx),rfl,_,_,rfl,_,_,rfl,rfl,?_⟩;show tf (some (X i)::some (Y i)::capv) H _;refine ht i hi H _ s fun H' s'=>?_;have hxl:xs.length<=i:=by
   rw[<-Cr hr];exact Bt (Cp _ _) (by rw[Ax];omega)
  have efil:(Af (i+1)).filter p=(Af i).filter p++if p i=true then[i] else[]:=by
   rw[Dy,D6];congr 1;rw[C8,F0]
  cases hp:p i with
  |true=>
   rw[if_pos rfl];refine he i hi hp H' _ (s.trans s') (by rw[s' _ _ e];exact nofun) fun H2 v s2 hv rv=>?_;have e2:=s2 _ _ (s' _ _ e);refine CNext.of hi hL e2 hxl ⟨⟨_,_,rfl⟩,((s.trans s').trans s2).put hD,zab,?_⟩;rw[efil,if_pos hp];exact Es (C5.mapP hr fun j y z=>⟨z.1,hw _ _ _ _ _ z.1 e2 (hm _ _ _ _ (s'.trans s2) z.2)⟩) ⟨hv,hw _ _ _ _ _ hv e2 rv⟩
  |false=>
   rw[if_neg Aa];refine CSkip.of (xs:=xs) hi ⟨⟨_,_,rfl⟩,s.trans s',s' _ _ e,?_⟩;rw[efil,if_neg (by rw[hp];exact Aa),C1];exact C5.mapP hr fun j y z=>⟨z.1,hm _ _ _ _ s' z.2⟩
 ·rintro xs σ H⟨_,s,e,hr⟩;exact hd H xs s e hr
theorem comp_i2{K:Am}{J:It}{Ok:Hp->Prop}{L:List V}{tf:TT}{te:TE}{D:A3}{σ0 capv:St}{H1:Hp}{Q:VK}(hσ:σ0=none::none::capv)(G:Gives J Ok L)(hL:L.length<=sizeLine)(hD:H1 D=none)(hOk:∀H,Same H1 H->Ok H)(X Y:Nat->V)(hXY:∀(i:Nat)x,L[i]?=some x->∃q,x= .ref q/\H1 q=some (.tup [X i,Y i]))(p:Nat->Bool)(F:Nat->V)(hF:∀i,i<L.length->p i=true->F i≠.ref D)
  (ht:∀i,i<L.length->∀H R,Same H1 H->(∀H',Same H H'->R (p i) H')->tf (some (X i)::some (Y i)::capv) H R)
  (he:∀i,i<L.length->p i=true->∀H R,Same H1 H->(∀H',Same H H'->R (F i) H')->te (some (X i)::some (Y i)::capv) H R)
  (hd:∀H,Same H1 H->H D=some (.lst (((Af L.length).filter p).map F))->Q (.ref D) H):
  CompW J D σ0 H1 (gTup K 2 (gCons (gName 0) (gCons (gName 1) gNil))) tf te Q:=by
 refine comp_x2 hσ G hL hD hOk X Y hXY p (fun _ i v=>v=F i) (fun _ _ _ _ _ h=>h) (fun _ _ _ _ _ _ _ h=>h) ht (fun i hi hp H R s _ h=>he i hi hp H R s fun H' s'=>h H' _ s' (hF i hi hp) rfl) fun H ys s e pr=>hd H s ?_;rw[e];have:∀{l:List Nat}{m:List V},C5 (fun i y=>y≠.ref D/\y=F i) l m->m=l.map F:=by
  intro l m q
  induction q with
  |nil=>rfl
  |cons h _ ih=>rw[At,<-ih,h.2]
 rw[this pr]
theorem GoesR.nth{H:Hp}{vs:List V}{gs:List (Str×List Int)}(r:GoesR H vs gs){i:Nat}{x:V}(h:vs[i]?=some x):∃q t,x= .ref q/\H q=some (.tup [.str (gs.getD i ("",[])).1,.ref t])/\H t=some (.tup ((gs.getD i ("",[])).2.map V.int))/\i<gs.length:=by
 have hi:i<gs.length:=by rw[<-r.length];exact(Ar.mp h).1
 obtain⟨q,t,e1,e2,e3⟩:=r.get (A9 hi);rw[h] at e1
 cases e1
 refine⟨q,t,rfl,?_,?_,hi⟩
 ·rw[Ai,A9 hi];exact e2
 ·rw[Ai,A9 hi];exact e3
noncomputable def tupY(H:Hp)(vs:List V)(i:Nat):V:=match vs[i]? with
 |some (.ref q)=>match H q with
  |some (.tup [_,y])=>y
  |_=>.non
 |_=>.non
theorem zgp{H:Hp}{vs:List V}{i:Nat}{q:A3}{x y:V}(h1:vs[i]?=some (.ref q))(h2:H q=some (.tup [x,y])):tupY H vs i=y:=by
 unfold tupY;rw[h1];simp only[h2]
theorem pg_tup'{X:Cx}{pos:Pos}(K:Am)(hK:X.K=K){es:List Cb}{k:Nat}{t:TGs}{n:Nat}(hc:X.calm=true)(h:PGs X es t)
  (hn:(assignEach es X.env).length=n:=by rfl) (hst:(assignEach es X.env).findIdx? (·.1)=none:=by rfl):PG X (.Tuple es k pos) (gTup K n t):=by
 subst hK;exact zeL hc h hn hst
noncomputable def ind(b:Bool):Nat:=if b=true then 1 else 0
structure Tile(sp:Nat)(al ta:Nat->Nat->Bool):Prop where
 pos:1<=sp
 pa:∀k d,al (k+sp) d=al k d
 pt:∀k d,ta (k+sp) d=ta k d
 la:∀k d,7<=d->al k d=false
 lt:∀k d,8<=d->ta k d=false
 one:∀k,ind (al k 0)+ind (ta k 0)=1
 step:∀k d,ind (al (k+1) d)=ind (al k (d+1))+ind (ta k (d+1))
namespace Tile
variable{sp:Nat}{al ta:Nat->Nat->Bool}
end Tile
noncomputable def tkOf(C:Combs)(x:Str):List Int:=(cGet C x).getD []
theorem zdx{ah ts:List Int}(ha:∀t∈ah,0<=t/\t<=6)(ht:∀t∈ts,0<=t/\t<=7)(d:Nat):(d:Int)∈afterOf ah ts↔((d+1:Nat):Int)∈ah\/((d+1:Nat):Int)∈ts:=by
 unfold afterOf;rw[A7];constructor
 ·rintro⟨y,hy,e⟩;obtain⟨h1,h2⟩:=Bc.mp hy;have h3:=(mem_canon.mp h1).1;rw[show((d+1:Nat):Int)=y by omega];exact Al.mp h3
 ·intro h;refine⟨((d+1:Nat):Int),Bc.mpr ⟨mem_canon.mpr ⟨Al.mpr h,?_⟩,decide_eq_true (by omega)⟩,by omega⟩;rcases h with h|h
  ·have:=ha _ h;omega
  ·exact ht _ h
theorem tk_perm{C C':Combs}(p:C.Perm C')(nd:(C.map (·.1)).Nodup)(x:Str):cGet C x=cGet C' x:=by
 have nd':(C'.map (·.1)).Nodup:=(p.map _).nodup_iff.mp nd
 cases e:cGet C x with
 |none=>
  symm;rw[get_none] at e⊢;exact fun z=>e ((p.map _).mem_iff.mpr z)
 |some ts=>exact(zcs nd' (p.mem_iff.mp (zes e))).symm
noncomputable def laid(nm:Nat->Str)(sp:Nat):List Nat:=(Af sp).filter fun j=>decide (nm j≠A0 "")
theorem KindsL.getG{G:A3->Prop}{H:Hp}:∀{vs:List V}{ks:List (Str×List Int)}{i:Nat}{v:V},KindsL G H vs ks->vs[i]?=some v->∃k q t,ks[i]?=some k/\v= .ref q/\H q=some (.lst [.str k.1,.ref t])/\H t=some (.lst (k.2.map V.int))/\G t
 |[],[],_,_,_,e=>by simp at e
 |_::_,k::_,0,_,⟨⟨q,t,e,h1,h2,g1,g2⟩,_⟩,z=>by
  simp at z;subst z;exact⟨k,q,t,rfl,e,h1,h2,g2⟩
 |_::_,_::_,i+1,_,⟨_,b⟩,z=>by
  obtain⟨k,q,t,h⟩:=KindsL.getG (i:=i) b (by simpa using z);exact⟨k,q,t,by simpa using h⟩
 |[],_::_,_,_,x,_=>x.elim
 |_::_,[],_,_,x,_=>x.elim
theorem KindsL.live{G:A3->Prop}{H:Hp}:∀{vs:List V}{ks:List (Str×List Int)},KindsL G H vs ks->KindsL (fun x=>H x≠none) H vs ks
 |[],[],_=>trivial
 |_::_,_::_,⟨⟨q,t,e,h1,h2,_,_⟩,r⟩=>⟨⟨q,t,e,h1,h2,(show H q≠none by rw[h1];exact nofun),(show H t≠none by rw[h2];exact nofun)⟩,KindsL.live r⟩
 |[],_::_,x=>x.elim
 |_::_,[],x=>x.elim
theorem Drawn.live{G:A3->Prop}{H:Hp}{vs:List V}{ks:List (Str×List Int)}(d:Drawn G H vs ks):Drawn (fun x=>H x≠none) H vs ks:=⟨d.rows.live,d.nd,d.good⟩
noncomputable abbrev gallopS:Bool->Keyed->Array Keyed->Nat->Nat->Nat->StateT SortSt Sem (Option Nat):=sortPriv%PySem.Builtin.gallop
structure Ranks(prog:Ap)(w:Bd)(A:B5)(E:A2->A5->Prop)(s:A5)(kd:Fg)(S:Az->Prop)(rk:Az->Int):Prop where
 ask:∀{x y:Az}{st:Bz}{Q:Option Bool->Bz->Prop},S x->S y->kindOf st=kd->Q (some (decide (rk x<rk y))) st->wpS (model prog w) A E s (lt' x y) Q st
section
variable{prog:Ap}{w:Bd}{A:B5}{E:A2->A5->Prop}{s:A5}{kd:Fg}{S:Az->Prop}{rk:Az->Int}
noncomputable def kAt(rk:Az->Int)(arr:Array Az)(i:Nat):Int:=match arr[i]? with
 |some x=>rk x
 |none=>0
theorem za2{arr:Array Az}{i:Nat}(h:i<arr.size):kAt rk arr i=rk arr[i]:=by unfold kAt;rw[Hj h]
theorem zaK{arr:Array Az}{i:Nat}{Q:Az->Bz->Prop}{st:Bz}(h:i<arr.size)(q:Q arr[i] st):wpS (model prog w) A E s (elem' arr i) Q st:=by
 rw[elem'_eq,Hj h];exact Aq q
noncomputable def Up2(rk:Az->Int)(arr:Array Az)(lo hi:Nat):Prop:=∀i j,lo<=i->i<=j->j<hi->kAt rk arr i<=kAt rk arr j
theorem zbK(C:Ranks prog w A E s kd S rk){left:Bool}{key:Az}{arr:Array Az}{b n hint:Nat}{Q:Option Nat->Bz->Prop}{st:Bz}(hk:S key)(hS:∀i(h:i<arr.size),b<=i->i<b+n->S arr[i])(sz:b+n<=arr.size)(hh:hint<n)(up:Up2 rk arr b (b+n))(hst:kindOf st=kd)
  (q:∀k,k<=n->(∀i,i<k->(if left=true then kAt rk arr (b+i)<rk key else kAt rk arr (b+i)<=rk key))->(∀i,k<=i->i<n->(if left=true then rk key<=kAt rk arr (b+i) else rk key<kAt rk arr (b+i)))->Q (some k) st):
  wpS (model prog w) A E s (gallopS left key arr b n hint) Q st:=by
 obtain⟨P,hP⟩:∃P:Nat->Bool,P=fun i=>if left=true then decide (kAt rk arr (b+i)<rk key) else decide (kAt rk arr (b+i)<=rk key):=⟨_,rfl⟩
 have mono:∀i j,i<=j->j<n->P j=true->P i=true:=fun i j hij hj h=>by
  have:=up (b+i) (b+j) (by omega) (by omega) (by omega);rw[hP] at h⊢;dsimp only at h⊢
  cases left
  ·simp at h⊢;omega
  ·simp at h⊢;omega
 have q':∀k,k<=n->(∀i,i<k->P i=true)->(∀i,k<=i->i<n->P i=false)->Q (some k) st:=fun k h1 h2 h3=>by
  refine q k h1 (fun i hi=>?_) (fun i h4 h5=>?_)
  ·have:=h2 i hi;rw[hP] at this
   cases left<;>simpa using this
  ·have:=h3 i h4 h5;rw[hP] at this
   cases left<;>simpa using this
 have bey:∀i,i<n->∀(Q':Option Bool->Bz->Prop),Q' (some (P i)) st->wpS (model prog w) A E s (do
   let x<-elem' arr (b+i)
   if left=true then lt' x key else do
    let r<-lt' key x
    pure (Pm (fun x=> !x) r)) Q' st:=fun i hi Q' h=>by
  refine Ak (zaK (by omega) ?_);have hSi:=hS (b+i) (by omega) (by omega) (by omega);have e:=za2 (rk:=rk) (show b+i<arr.size by omega)
  cases hl:left with
  |true=>
   rw[if_pos rfl];refine C.ask hSi hk hst ?_;rw[hP,hl] at h;simpa[e] using h
  |false=>
   rw[if_neg Aa];refine Ak (C.ask hk hSi hst (Aq ?_));rw[hP,hl] at h;have e2:(!decide (rk key<rk arr[b+i]))=decide (kAt rk arr (b+i)<=rk key):=by
    rw[e,<-decide_not,decide_eq_decide];omega
   show Q' (some (!decide (rk key<rk arr[b+i]))) st;rw[e2];simpa using h
 have bin:∀lo hi,lo<=hi->hi<=n->(∀i,i<lo->P i=true)->(∀i,hi<=i->i<n->P i=false)->∀(F:Nat->Option (Option Nat)×Nat×Nat->StateT Bz Sem (ForInStep (Option (Option Nat)×Nat×Nat))),
   (∀x lo hi,lo<hi->hi<=n->∀R:ForInStep (Option (Option Nat)×Nat×Nat)->Bz->Prop,R (.yield (none,if P (lo+(hi-lo) / 2)=true then(lo+(hi-lo) / 2+1,hi) else(lo,lo+(hi-lo) / 2))) st->wpS (model prog w) A E s (F x (none,lo,hi)) R st)->
   (∀x lo hi,hi<=lo->∀R:ForInStep (Option (Option Nat)×Nat×Nat)->Bz->Prop,R (.done (none,lo,hi)) st->wpS (model prog w) A E s (F x (none,lo,hi)) R st)->
   wpS (model prog w) A E s (forIn [:n] (none,lo,hi) F) (fun c st'=>st'=st/\∃k,c.1=none/\c.2.2=k/\k<=n/\(∀i,i<k->P i=true)/\(∀i,k<=i->i<n->P i=false)) st:=fun lo hi h1 h2 h3 h4 F f1 f2=>by
  refine D3 (I:=fun x c st'=>st'=st/\∃lo hi,c=(none,lo,hi)/\lo<=hi/\hi<=n/\hi-lo+x<=n/\(∀i,i<lo->P i=true)/\(∀i,hi<=i->i<n->P i=false)) ?_ ?_ ⟨rfl,lo,hi,rfl,h1,h2,by omega,h3,h4⟩
  ·rintro x c st' _ hx⟨rfl,lo,hi,rfl,a1,a2,a3,a4,a5⟩;by_cases e:lo<hi
   ·refine f1 x lo hi e a2 _ ?_;dsimp only
    cases hm:P (lo+(hi-lo) / 2) with
    |true=>exact⟨rfl,lo+(hi-lo) / 2+1,hi,rfl,by omega,a2,by omega,fun i hi'=>mono i (lo+(hi-lo) / 2) (by omega) (by omega) hm,a5⟩
    |false=>
     refine⟨rfl,lo,lo+(hi-lo) / 2,rfl,by omega,by omega,by omega,a4,fun i h6 h7=>?_⟩
     cases hz:P i with
     |false=>rfl
     |true=>rw[mono _ i h6 h7 hz] at hm;cases hm
   ·exact f2 x lo hi (by omega) _ ⟨rfl,hi,rfl,rfl,a2,fun i hi'=>a4 i (by omega),a5⟩
  ·rintro c st'⟨rfl,lo,hi,rfl,a1,a2,a3,a4,a5⟩;exact⟨rfl,hi,rfl,rfl,a2,fun i hi'=>a4 i (by omega),a5⟩
 refine Ak (bey hint hh _ ?_);dsimp only
 cases hr:P hint with
 |true=>
  rw[if_pos rfl];refine Ak (E6 (D3 (I:=fun x c st'=>st'=st/\∃la off,c=(none,la,off)/\la<off/\x+1<=off/\hint+la<n/\P (hint+la)=true) (Q:=fun c st'=>st'=st/\∃la off,c=(none,la,off)/\la<off/\hint+la<n/\P (hint+la)=true/\(n-hint<=off\/(off<n-hint/\P (hint+off)=false))) ?step ?fin ⟨rfl,0,1,rfl,by omega,by omega,by omega,hr⟩) ?post)
  case fin=>
   rintro c st'⟨rfl,la,off,rfl,a1,a2,a3,a4⟩;exact⟨rfl,la,off,rfl,a1,a3,a4,.inl (by omega)⟩
  case step=>
   rintro x c st' _ hx⟨rfl,la,off,rfl,a1,a2,a3,a4⟩;dsimp only;by_cases e:off>=n-hint
   ·rw[if_pos e];exact Aq ⟨rfl,la,off,rfl,a1,a3,a4,.inl e⟩
   ·rw[if_neg e];refine Ak (bey (hint+off) (by omega) _ ?_);dsimp only
    cases hm:P (hint+off) with
    |true=>
     rw[if_neg (by decide)];exact Aq ⟨rfl,off,2*off+1,rfl,by omega,by omega,by omega,hm⟩
    |false=>
     rw[if_pos (by decide)];exact Aq ⟨rfl,la,off,rfl,a1,a3,a4,.inr ⟨by omega,hm⟩⟩
  case post=>
   rintro c st'⟨rfl,la,off,rfl,a1,a3,a4,a5⟩;dsimp only;refine Ak (E6 (bin (hint+la+1) (hint+min off (n-hint)) (by omega) (by omega) (fun i hi=>mono i (hint+la) (by omega) a3 a4) (fun i h6 h7=>?_) _ (fun x lo hi h1 h2 R hR=>?_) fun x lo hi h1 R hR=>?_) (by rintro⟨r,lo',hi'⟩st2⟨rfl,k,e1,e2,h1,h2,h3⟩;dsimp only at e1 e2⊢;subst e1 e2;exact Aq (q' _ h1 h2 h3)))
   ·rcases a5 with z|⟨z1,z2⟩
    ·omega
    ·cases hz:P i with
     |false=>rfl
     |true=>rw[mono (hint+off) i (by omega) h7 hz] at z2;cases z2
   ·dsimp only;rw[if_neg (by omega)];refine Ak (bey _ (by omega) _ ?_);dsimp only
    cases hm:P (lo+(hi-lo) / 2) with
    |true=>rw[if_pos rfl];rw[hm,if_pos rfl] at hR;exact Aq hR
    |false=>rw[if_neg Aa];rw[hm,if_neg Aa] at hR;exact Aq hR
   ·dsimp only;rw[if_pos h1];exact Aq hR
 |false=>
  rw[if_neg Aa];refine Ak (E6 (D3 (I:=fun x c st'=>st'=st/\∃la off,c=(none,la,off)/\la<off/\x+1<=off/\la<=hint/\P (hint-la)=false) (Q:=fun c st'=>st'=st/\∃la off,c=(none,la,off)/\la<off/\la<=hint/\P (hint-la)=false/\(hint+1<=off\/(off<hint+1/\P (hint-off)=true))) ?step ?fin ⟨rfl,0,1,rfl,by omega,by omega,by omega,hr⟩) ?post)
  case fin=>
   rintro c st'⟨rfl,la,off,rfl,a1,a2,a3,a4⟩;exact⟨rfl,la,off,rfl,a1,a3,a4,.inl (by omega)⟩
  case step=>
   rintro x c st' _ hx⟨rfl,la,off,rfl,a1,a2,a3,a4⟩;dsimp only;by_cases e:off>=hint+1
   ·rw[if_pos e];exact Aq ⟨rfl,la,off,rfl,a1,a3,a4,.inl e⟩
   ·rw[if_neg e];refine Ak (bey (hint-off) (by omega) _ ?_);dsimp only
    cases hm:P (hint-off) with
    |true=>
     rw[if_pos rfl];exact Aq ⟨rfl,la,off,rfl,a1,a3,a4,.inr ⟨by omega,hm⟩⟩
    |false=>
     rw[if_neg Aa];exact Aq ⟨rfl,off,2*off+1,rfl,by omega,by omega,by omega,hm⟩
  case post=>
   rintro c st'⟨rfl,la,off,rfl,a1,a3,a4,a5⟩;dsimp only;refine Ak (E6 (bin (hint+1-min off (hint+1)) (hint-la) (by omega) (by omega) (fun i hi=>?_) (fun i h6 h7=>?_) _ (fun x lo hi h1 h2 R hR=>?_) fun x lo hi h1 R hR=>?_) (by rintro⟨r,lo',hi'⟩st2⟨rfl,k,e1,e2,h1,h2,h3⟩;dsimp only at e1 e2⊢;subst e1 e2;exact Aq (q' _ h1 h2 h3)))
   ·rcases a5 with z|⟨z1,z2⟩
    ·omega
    ·exact mono i (hint-off) (by omega) (by omega) z2
   ·cases hz:P i with
    |false=>rfl
    |true=>rw[mono (hint-la) i h6 h7 hz] at a4;cases a4
   ·dsimp only;rw[if_neg (by omega)];refine Ak (bey _ (by omega) _ ?_);dsimp only
    cases hm:P (lo+(hi-lo) / 2) with
    |true=>rw[if_pos rfl];rw[hm,if_pos rfl] at hR;exact Aq hR
    |false=>rw[if_neg Aa];rw[hm,if_neg Aa] at hR;exact Aq hR
   ·dsimp only;rw[if_pos h1];exact Aq hR
end
noncomputable abbrev Srt(rk:Az->Int)(l:List Az):Prop:=l.Pairwise fun x y=>rk x<=rk y
structure MI(rk:Az->Int)(la lb out:List Az)(ia ib:Nat):Prop where
 perm:out.Perm (la.take ia++lb.take ib)
 srt:Srt rk out
 low:∀x∈out,(∀y∈la.drop ia,rk x<=rk y)/\∀y∈lb.drop ib,rk x<=rk y
noncomputable def MFin(rk:Az->Int)(la lb res:List Az):Prop:=res.Perm (la++lb)/\Srt rk res
section
variable{rk:Az->Int}{la lb out:List Az}{ia ib:Nat}
theorem za7{l:List Az}{i:Nat}(h:i<l.length):l.drop i=l[i]::l.drop (i+1):=Hl h
theorem zeh{l:List Az}(s:Srt rk l){i:Nat}(h:i<l.length):∀y∈l.drop (i+1),rk l[i]<=rk y:=by
 have:=Bj (G0 i l) s;rw[za7 h] at this;exact(K0.mp this).1
theorem MI.pushA(m:MI rk la lb out ia ib)(sa:Srt rk la)(h:ia<la.length)(hb:∀y∈lb.drop ib,rk la[ia]<=rk y):MI rk la lb (out++[la[ia]]) (ia+1) ib:=by
 have hd:=za7 h;refine⟨?_,?_,fun x hx=>?_⟩
 ·rw[Cy h];have:=m.perm.append_right [la[ia]];refine this.trans ?_;rw[Au,Au];exact D9 _ Dp
 ·refine C0.mpr ⟨m.srt,by simp,fun x hx y hy=>?_⟩;rw[A6.mp hy];exact(m.low x hx).1 _ (by rw[hd];exact Aj)
 ·rcases Al.mp hx with z|z
  ·exact⟨fun y hy=>(m.low x z).1 y (by rw[hd];exact Ac _ hy),(m.low x z).2⟩
  ·rw[A6.mp z];exact⟨zeh sa h,hb⟩
theorem MI.pushB(m:MI rk la lb out ia ib)(sb:Srt rk lb)(h:ib<lb.length)(ha:∀y∈la.drop ia,rk lb[ib]<=rk y):MI rk la lb (out++[lb[ib]]) ia (ib+1):=by
 have hd:=za7 h;refine⟨?_,?_,fun x hx=>?_⟩
 ·rw[Cy h];have:=m.perm.append_right [lb[ib]];rwa[Au] at this
 ·refine C0.mpr ⟨m.srt,by simp,fun x hx y hy=>?_⟩;rw[A6.mp hy];exact(m.low x hx).2 _ (by rw[hd];exact Aj)
 ·rcases Al.mp hx with z|z
  ·exact⟨(m.low x z).1,fun y hy=>(m.low x z).2 y (by rw[hd];exact Ac _ hy)⟩
  ·rw[A6.mp z];exact⟨ha,zeh sb h⟩
theorem MI.moreA(sa:Srt rk la):∀{k ia:Nat}{out:List Az},MI rk la lb out ia ib->ia+k<=la.length->(∀i(h:i<la.length),ia<=i->i<ia+k->∀y∈lb.drop ib,rk la[i]<=rk y)->MI rk la lb (out++(la.drop ia).take k) (ia+k) ib
 |0,ia,out,m,_,_=>by simpa using m
 |k+1,ia,out,m,h,hy=>by
  have m1:=m.pushA sa (by omega) (hy ia (by omega) (Ab _) (by omega));have m2:=MI.moreA sa (k:=k) m1 (by omega) fun i hi h1 h2=>hy i hi (by omega) (by omega);rw[za7 (show ia<la.length by omega),Gs];rw[Au,Mx,show ia+1+k=ia+(k+1) by omega] at m2;exact m2
theorem MI.moreB(sb:Srt rk lb):∀{k ib:Nat}{out:List Az},MI rk la lb out ia ib->ib+k<=lb.length->(∀i(h:i<lb.length),ib<=i->i<ib+k->∀y∈la.drop ia,rk lb[i]<=rk y)->MI rk la lb (out++(lb.drop ib).take k) ia (ib+k)
 |0,ib,out,m,_,_=>by simpa using m
 |k+1,ib,out,m,h,hy=>by
  have m1:=m.pushB sb (by omega) (hy ib (by omega) (Ab _) (by omega));have m2:=MI.moreB sb (k:=k) m1 (by omega) fun i hi h1 h2=>hy i hi (by omega) (by omega);rw[za7 (show ib<lb.length by omega),Gs];rw[Au,Mx,show ib+1+k=ib+(k+1) by omega] at m2;exact m2
theorem MI.restA(m:MI rk la lb out ia lb.length)(sa:Srt rk la):MFin rk la lb (out++la.drop ia):=by
 refine⟨?_,C0.mpr ⟨m.srt,Bj (G0 _ _) sa,fun x hx y hy=>(m.low x hx).1 y hy⟩⟩;have:=m.perm.append_right (la.drop ia);rw[By] at this;refine this.trans ?_;rw[Au];refine(D9 _ Dp).trans ?_;rw[<-Au,C9]
theorem MI.restB(m:MI rk la lb out la.length ib)(sb:Srt rk lb):MFin rk la lb (out++lb.drop ib):=by
 refine⟨?_,C0.mpr ⟨m.srt,Bj (G0 _ _) sb,fun x hx y hy=>(m.low x hx).2 y hy⟩⟩;have:=m.perm.append_right (lb.drop ib);rw[By,Au,C9] at this;exact this
theorem MI.restBA(m:MI rk la lb out ia ib)(sa:Srt rk la)(sb:Srt rk lb)(h:∀x∈lb.drop ib,∀y∈la.drop ia,rk x<=rk y):MFin rk la lb (out++lb.drop ib++la.drop ia):=by
 refine⟨?_,C0.mpr ⟨C0.mpr ⟨m.srt,Bj (G0 _ _) sb,fun x hx y hy=>(m.low x hx).2 y hy⟩,Bj (G0 _ _) sa,fun x hx y hy=>?_⟩⟩
 ·have:=m.perm.append_right (lb.drop ib++la.drop ia);rw[<-Au] at this;refine this.trans ?_;rw[Au,<-Au (lb.take ib),C9];refine(D9 _ Dp).trans ?_;rw[<-Au,C9]
 ·rcases Al.mp hx with z|z
  ·exact(m.low x z).1 y hy
  ·exact h x z y hy
end
theorem zaP(a:Array Az)(i j:Nat):(a.extract i j).toList=(a.toList.drop i).take (j-i):=by simp
theorem zaU(a:Array Az)(i:Nat):(a.extract i).toList=a.toList.drop i:=by
 rw[zaP];exact Im (by simp)
noncomputable def Like(st st':Bz):Prop:=kindOf st'=kindOf st/\arrOf st'=arrOf st/\pendingOf st'=pendingOf st/\failedOf st'=failedOf st
theorem Like.refl(st:Bz):Like st st:=⟨rfl,rfl,rfl,rfl⟩
noncomputable abbrev mergeLoS:Array Keyed->Array Keyed->StateT SortSt Sem (Array Keyed):=sortPriv%PySem.Builtin.mergeLo
theorem zho{rk:Az->Int}{arr:Array Az}(s:Srt rk arr.toList){lo hi:Nat}(h:hi<=arr.size):Up2 rk arr lo hi:=fun i j _ hij hj=>by
 rw[za2 (show i<arr.size by omega),za2 (show j<arr.size by omega)];by_cases e:i=j
 ·subst e;exact Dg _
 ·have:=D8.mp s i j (by simpa using(show i<arr.size by omega)) (by simpa using(show j<arr.size by omega)) (by omega);simpa using this
theorem zar(a:Array Az){i:Nat}(h:i<a.size):a.toList[i]'(by simpa using h)=a[i]:=by simp
theorem zct{l:List Az}{i:Nat}{y:Az}(h:y∈l.drop i):∃j,∃hj:j<l.length,i<=j/\l[j]=y:=by
 obtain⟨j,hj,e⟩:=Em h;rw[Ic] at hj;rw[Kb] at e;exact⟨i+j,by omega,by omega,e⟩
theorem zc8{rk:Az->Int}{l:List Az}(s:Srt rk l){i:Nat}(h:i<l.length):∀y∈l.drop i,rk l[i]<=rk y:=fun y hy=>by
 rw[za7 h] at hy;rcases Ba.mp hy with rfl|z
 ·exact Dg _
 ·exact zeh s h y z
theorem zao{M:Hk}{A:B5}{E:A2->A5->Prop}{s:A5}{σ α:Type}{c:Prop}[Decidable c]{x y:StateT σ Sem α}{Q:α->σ->Prop}{st:σ}(h1:c->wpS M A E s x Q st)(h2:¬c->wpS M A E s y Q st):wpS M A E s (if c then x else y) Q st:=by
 by_cases h:c
 ·rw[if_pos h];exact h1 h
 ·rw[if_neg h];exact h2 h
theorem zfF{M:Hk}{A:B5}{E:A2->A5->Prop}{s:A5}{σ α:Type}{c:Prop}[Decidable c]{x y:StateT σ Sem α}{Q:α->σ->Prop}{st:σ}(h2:¬c->wpS M A E s y Q st)(h1:c->wpS M A E s x Q st):wpS M A E s (if c then x else y) Q st:=zao h1 h2
theorem zgv{X G:Prop}(k:X->G)(h:X):G:=k h
theorem zbj{M:Hk}{A:B5}{E:A2->A5->Prop}{s:A5}{f:Bz->Bz}{Q:PUnit->Bz->Prop}{st:Bz}(hf:Like st (f st))(h:∀st',Like st st'->Q ⟨⟩ st'):wpS M A E s (modify f:StateT Bz Sem PUnit) Q st:=Kq (h _ hf)
theorem Like.trans{a b c:Bz}(h:Like a b)(k:Like b c):Like a c:=⟨k.1.trans h.1,k.2.1.trans h.2.1,k.2.2.1.trans h.2.2.1,k.2.2.2.trans h.2.2.2⟩
section
variable{prog:Ap}{w:Bd}{A:B5}{E:A2->A5->Prop}{s:A5}{kd:Fg}{S:Az->Prop}{rk:Az->Int}
theorem mergeLo_ok(C:Ranks prog w A E s kd S rk){a b:Array Az}{Q:Array Az->Bz->Prop}{st:Bz}(ha:0<a.size)(hb:0<b.size)(sa:Srt rk a.toList)(sb:Srt rk b.toList)(Sa:∀i(h:i<a.size),S a[i])(Sb:∀i(h:i<b.size),S b[i])(h0:∀y∈a.toList,rk b[0]<=rk y)(hl:∀y∈b.toList,rk y<=rk (a[a.size-1]'(by omega)))(hst:kindOf st=kd)
  (q:∀res st',Like st st'->MFin rk a.toList b.toList res.toList->Q res st'):wpS (model prog w) A E s (mergeLoS a b) Q st:=by
 have la:a.toList.length=a.size:=As;have lb:b.toList.length=b.size:=As;have m0:MI rk a.toList b.toList [b[0]] 0 1:=by
  have mm:MI rk a.toList b.toList [] 0 0:=⟨by simp,Gm,fun x hx=>by cases hx⟩;have:=mm.pushB sb (by omega) (by rw[P5,zar b hb];exact h0);rw[zar b hb] at this;exact this
 have lastA:∀ib,∀x∈b.toList.drop ib,∀ia,ia+1=a.size->∀y∈a.toList.drop ia,rk x<=rk y:=fun ib x hx ia e y hy=>by
  obtain⟨j,hj,h1,e2⟩:=zct hy;have:j=a.size-1:=by omega
  subst this;rw[<-e2,zar a (by omega)];exact hl x (List.mem_of_mem_drop hx)
 have doneA:∀{out:List Az}{ia ib:Nat},MI rk a.toList b.toList out ia ib->ib=b.size->MFin rk a.toList b.toList (out++a.toList.drop ia++b.toList.drop ib):=fun m e=>by
  subst e;rw[<-lb] at m⊢;rw[On,C1];exact m.restA sa
 have doneB:∀{out:List Az}{ia ib:Nat},MI rk a.toList b.toList out ia ib->ia=a.size->MFin rk a.toList b.toList (out++a.toList.drop ia++b.toList.drop ib):=fun m e=>by
  subst e;rw[<-la] at m⊢;rw[On,C1];exact m.restB sb
 refine Ak (J9 (G6 ⟨rfl,?_⟩));dsimp only;refine Ak (zaK hb ?_);refine zao (fun e1=>?_) (fun e1=>?_)
 ·have e1:1=b.size:=by simpa using e1
  refine Aq (q _ st (Like.refl st) ?_);have:=doneA m0 e1;simp only[B6,Ce,zaU];exact this
 refine zao (fun e2=>?_) (fun e2=>?_)
 ·have e2:0+1=a.size:=by simpa using e2
  refine Aq (q _ st (Like.refl st) ?_);have:=m0.restBA sa sb (fun x hx y hy=>lastA 1 x hx 0 e2 y hy);simp only[B6,Ce,zaU];exact this
 have e1:¬1=b.size:=by simpa using e1
 have e2:¬0+1=a.size:=by simpa using e2
 refine Ak (Hm ?_);refine Ak (E6 (D3 (I:=fun x c st'=>Like st st'/\∃(out:Array Az)(ia ib g:Nat),c=(none,out,ia,ib,g)/\MI rk a.toList b.toList out.toList ia ib/\ia+1<a.size/\ib<b.size/\x<ia+ib) (Q:=fun c st'=>Like st st'/\∃res:Array Az,c.1=some res/\MFin rk a.toList b.toList res.toList) ?step ?fin ⟨Like.refl st,_,_,_,_,rfl,m0,by omega,by omega,by omega⟩) ?post)
 case fin=>
  rintro c st'⟨_,out,ia,ib,g,rfl,_,h1,h2,h3⟩;omega
 case post=>
  rintro⟨r,out,ia,ib,g⟩st'⟨hL,res,e,hf⟩;dsimp only at e⊢;subst e;exact Aq (q res st' hL hf)
 case step=>
  rintro x c st1 _ hx⟨hL,out,ia,ib,g,rfl,m,h1,h2,h3⟩;dsimp only;have hk1:kindOf st1=kd:=hL.1.trans hst;refine Ak (E6 (D3 (I:=fun y c st'=>st'=st1/\∃(out:Array Az)(ia ib ac bc:Nat),c=(none,out,ia,ib,ac,bc)/\MI rk a.toList b.toList out.toList ia ib/\ia+1<a.size/\ib<b.size/\x<ia+ib/\(0<y->x+1<ia+ib)) (Q:=fun c st'=>st'=st1/\((∃res:Array Az,c.1=some res/\MFin rk a.toList b.toList res.toList)\/∃(out:Array Az)(ia ib ac bc:Nat),c=(none,out,ia,ib,ac,bc)/\MI rk a.toList b.toList out.toList ia ib/\ia+1<a.size/\ib<b.size/\x+1<ia+ib)) ?step ?fin ⟨rfl,_,_,_,_,_,rfl,m,h1,h2,h3,by omega⟩) ?post)
  case fin=>
   rintro c st'⟨rfl,out,ia,ib,ac,bc,rfl,m,h1,h2,h3,h4⟩;exact⟨rfl,.inr ⟨out,ia,ib,ac,bc,rfl,m,h1,h2,h4 (by omega)⟩⟩
  case step=>
   rintro y c st' _ hy⟨rfl,out,ia,ib,ac,bc,rfl,m,h1,h2,h3,h4⟩;dsimp only;refine Ak (zaK h2 (Ak (zaK (show ia<a.size by omega) (Ak (C.ask (Sb _ h2) (Sa _ (by omega)) hk1 ?_)))));dsimp only;refine zao (fun hw=>?_) (fun hw=>?_)
   ·have hw:rk b[ib]<rk a[ia]:=by simpa using hw
    have m':=m.pushB sb (by omega) (fun y hy=>by
     have:=zc8 sa (show ia<a.toList.length by omega) y hy;rw[zar a (by omega)] at this;rw[zar b h2];omega)
    rw[zar b h2] at m';refine Ak (zaK h2 ?_);refine zao (fun e=>?_) (fun e=>?_)
    ·have e:ib+1=b.size:=by simpa using e
     refine Aq ⟨rfl,.inl ⟨_,rfl,?_⟩⟩;have:=doneA m' e;simp only[B6,Ce,zaU];exact this
    have e:¬ib+1=b.size:=by simpa using e
    refine zao (fun _=>Aq ⟨rfl,.inr ⟨_,_,_,_,_,rfl,by simpa using m',h1,by omega,by omega⟩⟩) (fun _=>Aq ⟨rfl,_,_,_,_,_,rfl,by simpa using m',h1,by omega,by omega,by omega⟩)
   ·have hw:rk a[ia]<=rk b[ib]:=by simpa using hw
    have m':=m.pushA sa (by omega) (fun y hy=>by
     have:=zc8 sb (show ib<b.toList.length by omega) y hy;rw[zar b h2] at this;rw[zar a (by omega)];omega)
    rw[zar a (by omega)] at m';refine Ak (zaK (show ia<a.size by omega) ?_);refine zao (fun e=>?_) (fun e=>?_)
    ·have e:ia+1+1=a.size:=by simpa using e
     refine Aq ⟨rfl,.inl ⟨_,rfl,?_⟩⟩;have:=m'.restBA sa sb (fun x hx y hy=>lastA _ x hx _ e y hy);simp only[B6,Ce,zaU];exact this
    have e:¬ia+1+1=a.size:=by simpa using e
    refine zao (fun _=>Aq ⟨rfl,.inr ⟨_,_,_,_,_,rfl,by simpa using m',by omega,h2,by omega⟩⟩) (fun _=>Aq ⟨rfl,_,_,_,_,_,rfl,by simpa using m',by omega,h2,by omega,by omega⟩)
  case post=>
   rintro⟨r,out,ia,ib,ac,bc⟩st'⟨rfl,hres|⟨out',ia',ib',ac',bc',e,m,h1,h2,h3⟩⟩
   ·obtain⟨res,e,hf⟩:=hres;dsimp only at e⊢;subst e;exact Aq ⟨hL,res,rfl,hf⟩
   cases e
   dsimp only;refine Ak (J9 (G6 ⟨rfl,?_⟩));refine Ak (E6 (D3 (I:=fun y c st'=>Like st st'/\∃(out:Array Az)(ia ib g ac bc:Nat),c=(none,out,ia,ib,g,ac,bc)/\MI rk a.toList b.toList out.toList ia ib/\ia+1<a.size/\ib<b.size/\x+1<ia+ib) (Q:=fun c st'=>Like st st'/\((∃res:Array Az,c.1=some res/\MFin rk a.toList b.toList res.toList)\/∃(out:Array Az)(ia ib g ac bc:Nat),c=(none,out,ia,ib,g,ac,bc)/\MI rk a.toList b.toList out.toList ia ib/\ia+1<a.size/\ib<b.size/\x+1<ia+ib)) ?step ?fin ⟨hL,_,_,_,_,_,_,rfl,m,h1,h2,h3⟩) ?post)
   case fin=>
    rintro c st'⟨hL2,h⟩;exact⟨hL2,.inr h⟩
   case post=>
    rintro⟨r,out,ia,ib,g,ac,bc⟩st2⟨hL2,hres|⟨out',ia',ib',g',ac',bc',e,m,h1,h2,h3⟩⟩
    ·obtain⟨res,e,hf⟩:=hres;dsimp only at e⊢;subst e;exact Aq ⟨hL2,res,rfl,hf⟩
    cases e
    dsimp only;exact Ak (zbj ⟨rfl,rfl,rfl,rfl⟩ fun st3 hL3=>Aq ⟨hL2.trans hL3,_,_,_,_,rfl,m,h1,h2,h3⟩)
   case step=>
    rintro y c st2 _ hy⟨hL2,out,ia,ib,g,ac,bc,rfl,m,h1,h2,h3⟩;dsimp only;apply zgv
    ·intro R;refine zao (fun h0=>Ak (zbj ⟨rfl,rfl,rfl,rfl⟩ ?_)) (fun h0=>Ak (zbj ⟨rfl,rfl,rfl,rfl⟩ ?_))
     ·clear h0;generalize g-1=g';revert g';exact R
     ·exact R g
    intro g' st3 hL3;have hL4:=hL2.trans hL3;have hk3:kindOf st3=kd:=hL4.1.trans hst;refine Ak (zaK h2 ?_);refine Ak (zbK C (Sb _ h2) (fun i h _ _=>Sa i h) (by omega) (by omega) (zho sa (by omega)) hk3 fun k j1 j2 j3=>?_);dsimp only;simp only[Bo,if_false] at j2 j3;have mA:=m.moreA sa (k:=k) (by omega) (fun i hi g1 g2 y hy=>by
     have h5:=j2 (i-ia) (by omega);rw[show ia+(i-ia)=i by omega,za2 (by omega)] at h5;have h6:=zc8 sb (show ib<b.toList.length by omega) y hy;rw[zar b h2] at h6;rw[zar a (by omega)];omega)
    have gtB:∀y∈a.toList.drop (ia+k),rk b[ib]<=rk y:=fun y hy=>by
     obtain⟨j,hj,g1,e⟩:=zct hy;have h5:=j3 (j-ia) (by omega) (by omega);rw[show ia+(j-ia)=j by omega,za2 (by omega)] at h5;rw[<-e,zar a (by omega)];omega
    have ex:(a.extract ia (ia+k)).toList=(a.toList.drop ia).take k:=by rw[zaP,Dx]
    rw[<-ex,<-B6] at mA;have f12:∀(_:¬(ia+k+1==a.size)=true)(_:¬(ia+k==a.size)=true),ia+k+1<a.size:=fun e5 e6=>by
     have e5:¬ia+k+1=a.size:=by simpa using e5
     have e6:¬ia+k=a.size:=by simpa using e6
     omega
    have f32:x+1<ia+k+ib:=by omega
    apply zgv
    ·intro R;refine zfF (fun k0=>?b2) (fun k0=>zao (fun e=>?x2) (fun e5=>zao (fun e=>?y2) (fun e6=>?a2)))
     rotate_right
     have h12:=f12 e5 e6;have h32:=f32;clear e5 e6 k0;have mA':=mA;have gtB':=gtB;generalize out++a.extract ia (ia+k)=out2 at mA'⊢;generalize ia+k=ia2 at mA' gtB' h12 h32⊢;revert out2 ia2;exact R
     ·have e7:k=0:=by omega
      have gtB2:=gtB;rw[e7,Km] at gtB2;exact R out ia m gtB2 h1 h3
     ·have e:ia+k+1=a.size:=by simpa using e
      refine Aq ⟨hL4,.inl ⟨_,rfl,?_⟩⟩;have:=mA.restBA sa sb (fun x hx y hy=>lastA _ x hx _ e y hy);simp only[B6,zaU] at this⊢;exact this
     ·have e:ia+k=a.size:=by simpa using e
      refine Aq ⟨hL4,.inl ⟨_,rfl,?_⟩⟩;have:=doneB mA e;simp only[B6,zaU] at this⊢;exact this
    intro out2 ia2 mA gtB h12 h32;have mB:=mA.pushB sb (by omega) (fun y hy=>by rw[zar b h2];exact gtB y hy);rw[zar b h2] at mB;refine Ak (zaK h2 ?_);refine zao (fun e=>?_) (fun e=>?_)
    ·have e:ib+1=b.size:=by simpa using e
     refine Aq ⟨hL4,.inl ⟨_,rfl,?_⟩⟩;have:=doneA mB e;simp only[B6,Ce,zaU];exact this
    have e8:¬ib+1=b.size:=by simpa using e
    have hia2:ia2<a.size:=by omega
    have hb4:ib+1<b.size:=by omega
    have h34:x+1<ia2+(ib+1):=by omega
    rw[<-Ce] at mB;generalize out2.push b[ib]=out4 at mB⊢;generalize ib+1=ib4 at mB hb4 h34⊢;refine Ak (zaK hia2 ?_);refine Ak (zbK C (Sa _ hia2) (fun i h _ _=>Sb i h) (by omega) (by omega) (zho sb (by omega)) hk3 fun k2 j4 j5 j6=>?_);dsimp only;simp only[if_true] at j5 j6;have mC:=mB.moreB sb (k:=k2) (by omega) (fun i hi g1 g2 y hy=>by
     have h5:=j5 (i-ib4) (by omega);rw[show ib4+(i-ib4)=i by omega,za2 (by omega)] at h5;have h6:=zc8 sa (show ia2<a.toList.length by omega) y hy;rw[zar a hia2] at h6;rw[zar b (by omega)];omega)
    have leA:∀y∈b.toList.drop (ib4+k2),rk a[ia2]<=rk y:=fun y hy=>by
     obtain⟨j,hj,g1,e⟩:=zct hy;have h5:=j6 (j-ib4) (by omega) (by omega);rw[show ib4+(j-ib4)=j by omega,za2 (by omega)] at h5;rw[<-e,zar b (by omega)];omega
    have ex2:(b.extract ib4 (ib4+k2)).toList=(b.toList.drop ib4).take k2:=by rw[zaP,Dx]
    rw[<-ex2,<-B6] at mC;have f22:∀(_:¬(ib4+k2==b.size)=true),ib4+k2<b.size:=fun e5=>by
     have e5:¬ib4+k2=b.size:=by simpa using e5
     omega
    have f33:x+1<ia2+(ib4+k2):=by omega
    apply zgv
    ·intro R;refine zfF (fun k1=>?b3) (fun k1=>zao (fun e=>?x3) (fun e5=>?a3))
     rotate_right
     have h22:=f22 e5;have h33:=f33;clear e5 k1;have mC':=mC;have leA':=leA;generalize out4++b.extract ib4 (ib4+k2)=out3 at mC'⊢;generalize ib4+k2=ib2 at mC' leA' h22 h33⊢;revert out3 ib2;exact R
     ·have e7:k2=0:=by omega
      have leA2:=leA;rw[e7,Km] at leA2;exact R out4 ib4 mB leA2 hb4 h34
     ·have e:ib4+k2=b.size:=by simpa using e
      refine Aq ⟨hL4,.inl ⟨_,rfl,?_⟩⟩;have:=doneA mC e;simp only[B6,Ce,zaU] at this⊢;exact this
    intro out3 ib2 mC leA h22 h33;have mD:=mC.pushA sa (by omega) (fun y hy=>by rw[zar a hia2];exact leA y hy);rw[zar a hia2,<-Ce] at mD;refine Ak (zaK hia2 ?_);refine zao (fun e=>?_) (fun e=>?_)
    ·have e:ia2+1+1=a.size:=by simpa using e
     refine Aq ⟨hL4,.inl ⟨_,rfl,?_⟩⟩;have:=mD.restBA sa sb (fun x hx y hy=>lastA _ x hx _ e y hy);simp only[B6,Ce,zaU] at this⊢;exact this
    have e9:¬ia2+1+1=a.size:=by simpa using e
    exact zao (fun _=>Aq ⟨hL4,.inr ⟨_,_,_,_,_,_,rfl,mD,by omega,h22,by omega⟩⟩) (fun _=>Aq ⟨hL4,_,_,_,_,_,_,rfl,mD,by omega,h22,by omega⟩)
end
structure HI(rk:Az->Int)(la lb out:List Az)(na nb:Nat):Prop where
 perm:out.Perm (la.drop na++lb.drop nb)
 srt:out.Pairwise fun x y=>rk y<=rk x
 high:∀x∈out,(∀y∈la.take na,rk y<=rk x)/\∀y∈lb.take nb,rk y<=rk x
section
variable{rk:Az->Int}{la lb out:List Az}{na nb:Nat}
theorem zbw{l:List Az}{n:Nat}{y:Az}(h:y∈l.take n):∃j,∃hj:j<l.length,j<n/\l[j]=y:=by
 obtain⟨j,hj,e⟩:=Em h;rw[Cq] at hj;rw[Hn] at e;exact⟨j,by omega,by omega,e⟩
theorem zdV{l:List Az}(s:Srt rk l){n:Nat}(h0:0<n)(h:n<=l.length):∀y∈l.take n,rk y<=rk (l[n-1]'(by omega)):=fun y hy=>by
 obtain⟨j,hj,h1,rfl⟩:=zbw hy;by_cases e:j=n-1
 ·subst e;exact Dg _
 ·exact D8.mp s j (n-1) hj (by omega) (by omega)
theorem zcD{l:List Az}{m n:Nat}(h:m<=n){y:Az}(hy:y∈l.take m):y∈l.take n:=by
 have:l.take m=(l.take n).take m:=by rw[List.take_take,Nat.min_eq_left h]
 rw[this] at hy;exact Jg hy
theorem HI.pushA(m:HI rk la lb out na nb)(sa:Srt rk la)(h0:0<na)(h:na<=la.length)(hb:∀y∈lb.take nb,rk y<=rk (la[na-1]'(by omega))):HI rk la lb (out++[la[na-1]'(by omega)]) (na-1) nb:=by
 have hd:la.drop (na-1)=la[na-1]'(by omega)::la.drop na:=by
  have:=za7 (l:=la) (i:=na-1) (by omega);rwa[O8 h0] at this
 have hm:la[na-1]'(by omega)∈la.take na:=by
  rw[Ln];exact⟨na-1,by omega,rfl⟩
 refine⟨?_,C0.mpr ⟨m.srt,by simp,fun x hx y hy=>?_⟩,fun x hx=>?_⟩
 ·rw[hd,Kp];exact(m.perm.append_right _).trans Dp
 ·rw[A6.mp hy];exact(m.high x hx).1 _ hm
 ·rcases Al.mp hx with z|z
  ·exact⟨fun y hy=>(m.high x z).1 y (zcD (by omega) hy),(m.high x z).2⟩
  ·rw[A6.mp z];exact⟨fun y hy=>zdV sa h0 h y (zcD (by omega) hy),hb⟩
theorem HI.pushB(m:HI rk la lb out na nb)(sb:Srt rk lb)(h0:0<nb)(h:nb<=lb.length)(ha:∀y∈la.take na,rk y<=rk (lb[nb-1]'(by omega))):HI rk la lb (out++[lb[nb-1]'(by omega)]) na (nb-1):=by
 have hd:lb.drop (nb-1)=lb[nb-1]'(by omega)::lb.drop nb:=by
  have:=za7 (l:=lb) (i:=nb-1) (by omega);rwa[O8 h0] at this
 have hm:lb[nb-1]'(by omega)∈lb.take nb:=by
  rw[Ln];exact⟨nb-1,by omega,rfl⟩
 refine⟨?_,C0.mpr ⟨m.srt,by simp,fun x hx y hy=>?_⟩,fun x hx=>?_⟩
 ·rw[hd];refine(m.perm.append_right _).trans ?_;rw[Au];refine D9 _ ?_;exact Dp
 ·rw[A6.mp hy];exact(m.high x hx).2 _ hm
 ·rcases Al.mp hx with z|z
  ·exact⟨(m.high x z).1,fun y hy=>(m.high x z).2 y (zcD (by omega) hy)⟩
  ·rw[A6.mp z];exact⟨ha,fun y hy=>zdV sb h0 h y (zcD (by omega) hy)⟩
theorem HI.moreA(m:HI rk la lb out na nb)(sa:Srt rk la)(h:na<=la.length):∀{d p:Nat},p+d=na->(∀i(h:i<la.length),p<=i->i<na->∀y∈lb.take nb,rk y<=rk la[i])->HI rk la lb (out++((la.drop p).take d).reverse) p nb
 |0,p,e,_=>by
  have:p=na:=by omega
  subst this;simpa using m
 |d+1,p,e,hy=>by
  have m1:=HI.moreA m sa h (d:=d) (p:=p+1) (by omega) fun i hi h1 h2=>hy i hi (by omega) h2;have m2:=m1.pushA sa (by omega) (by omega) (hy (p+1-1) (by omega) (by omega) (by omega));rw[za7 (show p<la.length by omega),Gs,Oa,<-Au];simpa only[K7] using m2
theorem HI.moreB(m:HI rk la lb out na nb)(sb:Srt rk lb)(h:nb<=lb.length):∀{d p:Nat},p+d=nb->(∀i(h:i<lb.length),p<=i->i<nb->∀y∈la.take na,rk y<=rk lb[i])->HI rk la lb (out++((lb.drop p).take d).reverse) na p
 |0,p,e,_=>by
  have:p=nb:=by omega
  subst this;simpa using m
 |d+1,p,e,hy=>by
  have m1:=HI.moreB m sb h (d:=d) (p:=p+1) (by omega) fun i hi h1 h2=>hy i hi (by omega) h2;have m2:=m1.pushB sb (by omega) (by omega) (hy (p+1-1) (by omega) (by omega) (by omega));rw[za7 (show p<lb.length by omega),Gs,Oa,<-Au];simpa only[K7] using m2
theorem HI.rev(m:HI rk la lb out na nb):Srt rk out.reverse:=List.pairwise_reverse.mpr m.srt
theorem HI.restAB(m:HI rk la lb out na nb)(sa:Srt rk la)(sb:Srt rk lb)(h:∀x∈la.take na,∀y∈lb.take nb,rk x<=rk y):MFin rk la lb (la.take na++lb.take nb++out.reverse):=by
 refine⟨?_,C0.mpr ⟨C0.mpr ⟨Bj (Fy _ _) sa,Bj (Fy _ _) sb,h⟩,m.rev,fun x hx y hy=>?_⟩⟩
 ·refine(D9 _ ((O9 out).trans m.perm)).trans ?_;have e:la.take na++lb.take nb++(la.drop na++lb.drop nb)=la.take na++(lb.take nb++la.drop na)++lb.drop nb:=by simp
  rw[e];refine(Ho _ (D9 _ Dp)).trans ?_;rw[<-Au,C9,Au,C9]
 ·have:=m.high y (Ol.mp hy);rcases Al.mp hx with z|z
  ·exact this.1 x z
  ·exact this.2 x z
theorem HI.restBA(m:HI rk la lb out na nb)(sa:Srt rk la)(sb:Srt rk lb)(h:∀x∈lb.take nb,∀y∈la.take na,rk x<=rk y):MFin rk la lb (lb.take nb++la.take na++out.reverse):=by
 refine⟨?_,C0.mpr ⟨C0.mpr ⟨Bj (Fy _ _) sb,Bj (Fy _ _) sa,h⟩,m.rev,fun x hx y hy=>?_⟩⟩
 ·refine(D9 _ ((O9 out).trans m.perm)).trans ?_;have e:lb.take nb++la.take na++(la.drop na++lb.drop nb)=lb.take nb++la++lb.drop nb:=by
   have:=C9 na la;rw[Au,<-Au (la.take na),this,<-Au]
  rw[e];refine(Ho _ Dp).trans ?_;rw[Au,C9]
 ·have:=m.high y (Ol.mp hy);rcases Al.mp hx with z|z
  ·exact this.2 x z
  ·exact this.1 x z
end
theorem zaH(a:Array Az)(n:Nat):(a.extract 0 n).toList=a.toList.take n:=by
 rw[zaP,P5,Q4]
noncomputable abbrev mergeHiS:Array Keyed->Array Keyed->StateT SortSt Sem (Array Keyed):=sortPriv%PySem.Builtin.mergeHi
section
variable{prog:Ap}{w:Bd}{A:B5}{E:A2->A5->Prop}{s:A5}{kd:Fg}{S:Az->Prop}{rk:Az->Int}
theorem mergeHi_ok(C:Ranks prog w A E s kd S rk){a b:Array Az}{Q:Array Az->Bz->Prop}{st:Bz}(ha:0<a.size)(hb:0<b.size)(sa:Srt rk a.toList)(sb:Srt rk b.toList)(Sa:∀i(h:i<a.size),S a[i])(Sb:∀i(h:i<b.size),S b[i])(h0:∀y∈a.toList,rk b[0]<=rk y)(hl:∀y∈b.toList,rk y<=rk (a[a.size-1]'(by omega)))(hst:kindOf st=kd)
  (q:∀res st',Like st st'->MFin rk a.toList b.toList res.toList->Q res st'):wpS (model prog w) A E s (mergeHiS a b) Q st:=by
 have la:a.toList.length=a.size:=As;have lb:b.toList.length=b.size:=As;have m0:HI rk a.toList b.toList [a[a.size-1]'(by omega)] (a.size-1) b.size:=by
  have mm:HI rk a.toList b.toList [] a.size b.size:=⟨by rw[<-la,<-lb];simp,Gm,fun x hx=>by cases hx⟩;have:=mm.pushA sa ha (by omega) (fun y hy=>by rw[zar a (by omega)];exact hl y (Jg hy));rw[zar a (by omega)] at this;exact this
 have firstB:∀nb,nb=1->∀na,∀x∈b.toList.take nb,∀y∈a.toList.take na,rk x<=rk y:=fun nb e na x hx y hy=>by
  subst e;obtain⟨j,hj,h1,e2⟩:=zbw hx;have:j=0:=by omega
  subst this;rw[<-e2,zar b hb];exact h0 y (Jg hy)
 have doneA:∀{out:List Az}{na nb:Nat},HI rk a.toList b.toList out na nb->na=0->MFin rk a.toList b.toList (a.toList.take na++b.toList.take nb++out.reverse):=fun m e=>by
  subst e;exact m.restAB sa sb (fun x hx=>by simp at hx)
 have doneB:∀{out:List Az}{na nb:Nat},HI rk a.toList b.toList out na nb->nb=0->MFin rk a.toList b.toList (a.toList.take na++b.toList.take nb++out.reverse):=fun m e=>by
  subst e;exact m.restAB sa sb (fun x _ y hy=>by simp at hy)
 refine Ak (J9 (G6 ⟨rfl,?_⟩));dsimp only;refine Ak (zaK (by omega) ?_);refine zao (fun e1=>?_) (fun e1=>?_)
 ·have e1:a.size-1=0:=by simpa using e1
  refine Aq (q _ st (Like.refl st) ?_);have:=doneA m0 e1;simp only[B6,Cn,zaH];exact this
 refine zao (fun e2=>?_) (fun e2=>?_)
 ·have e2:b.size=1:=by simpa using e2
  refine Aq (q _ st (Like.refl st) ?_);have:=m0.restBA sa sb (fun x hx y hy=>firstB _ e2 _ x hx y hy);simp only[B6,Cn,zaH];exact this
 have e1:¬a.size-1=0:=by simpa using e1
 have e2:¬b.size=1:=by simpa using e2
 refine Ak (Hm ?_);refine Ak (E6 (D3 (I:=fun x c st'=>Like st st'/\∃(out:Array Az)(na nb g:Nat),c=(none,na,nb,out,g)/\HI rk a.toList b.toList out.toList na nb/\0<na/\na<=a.size/\1<nb/\nb<=b.size/\x+na+nb<a.size+b.size) (Q:=fun c st'=>Like st st'/\∃res:Array Az,c.1=some res/\MFin rk a.toList b.toList res.toList) ?step ?fin ⟨Like.refl st,_,_,_,_,rfl,m0,by omega,by omega,by omega,by omega,by omega⟩) ?post)
 case fin=>
  rintro c st'⟨_,out,na,nb,g,rfl,_,h1,h2,h3,h4,h5⟩;omega
 case post=>
  rintro⟨r,na,nb,out,g⟩st'⟨hL,res,e,hf⟩;dsimp only at e⊢;subst e;exact Aq (q res st' hL hf)
 case step=>
  rintro x c st1 _ hx⟨hL,out,na,nb,g,rfl,m,h1,h1',h2,h2',h3⟩;dsimp only;have hk1:kindOf st1=kd:=hL.1.trans hst;refine Ak (E6 (D3 (I:=fun y c st'=>st'=st1/\∃(out:Array Az)(na nb ac bc:Nat),c=(none,na,nb,out,ac,bc)/\HI rk a.toList b.toList out.toList na nb/\0<na/\na<=a.size/\1<nb/\nb<=b.size/\x+na+nb<a.size+b.size/\(0<y->x+1+na+nb<a.size+b.size)) (Q:=fun c st'=>st'=st1/\((∃res:Array Az,c.1=some res/\MFin rk a.toList b.toList res.toList)\/∃(out:Array Az)(na nb ac bc:Nat),c=(none,na,nb,out,ac,bc)/\HI rk a.toList b.toList out.toList na nb/\0<na/\na<=a.size/\1<nb/\nb<=b.size/\x+1+na+nb<a.size+b.size)) ?step ?fin ⟨rfl,_,_,_,_,_,rfl,m,h1,h1',h2,h2',h3,by omega⟩) ?post)
  case fin=>
   rintro c st'⟨rfl,out,na,nb,ac,bc,rfl,m,h1,h1',h2,h2',h3,h4⟩;exact⟨rfl,.inr ⟨out,na,nb,ac,bc,rfl,m,h1,h1',h2,h2',h4 (by omega)⟩⟩
  case step=>
   rintro y c st' _ hy⟨rfl,out,na,nb,ac,bc,rfl,m,h1,h1',h2,h2',h3,h4⟩;dsimp only;have ib:nb-1<b.size:=by omega
   have ia:na-1<a.size:=by omega
   refine Ak (zaK ib (Ak (zaK ia (Ak (C.ask (Sb _ ib) (Sa _ ia) hk1 ?_)))));dsimp only;refine zao (fun hw=>?_) (fun hw=>?_)
   ·have hw:rk b[nb-1]<rk a[na-1]:=by simpa using hw
    have m':=m.pushA sa h1 (by omega) (fun y hy=>by
     have:=zdV sb (show 0<nb by omega) (by omega) y hy;rw[zar b ib] at this;rw[zar a ia];omega)
    rw[zar a ia,<-Ce] at m';refine Ak (zaK ia ?_);refine zao (fun e=>?_) (fun e=>?_)
    ·have e:na-1=0:=by simpa using e
     refine Aq ⟨rfl,.inl ⟨_,rfl,?_⟩⟩;have:=doneA m' e;simp only[B6,Cn,zaH];exact this
    have e:¬na-1=0:=by simpa using e
    refine zao (fun _=>Aq ⟨rfl,.inr ⟨_,_,_,_,_,rfl,m',by omega,by omega,h2,h2',by omega⟩⟩) (fun _=>Aq ⟨rfl,_,_,_,_,_,rfl,m',by omega,by omega,h2,h2',by omega,by omega⟩)
   ·have hw:rk a[na-1]<=rk b[nb-1]:=by simpa using hw
    have m':=m.pushB sb (by omega) (by omega) (fun y hy=>by
     have:=zdV sa h1 (by omega) y hy;rw[zar a ia] at this;rw[zar b ib];omega)
    rw[zar b ib,<-Ce] at m';refine Ak (zaK ib ?_);refine zao (fun e=>?_) (fun e=>?_)
    ·have e:nb-1=1:=by simpa using e
     refine Aq ⟨rfl,.inl ⟨_,rfl,?_⟩⟩;have:=m'.restBA sa sb (fun x hx y hy=>firstB _ e _ x hx y hy);simp only[B6,Cn,zaH];exact this
    have e:¬nb-1=1:=by simpa using e
    refine zao (fun _=>Aq ⟨rfl,.inr ⟨_,_,_,_,_,rfl,m',h1,h1',by omega,by omega,by omega⟩⟩) (fun _=>Aq ⟨rfl,_,_,_,_,_,rfl,m',h1,h1',by omega,by omega,by omega,by omega⟩)
  case post=>
   rintro⟨r,na,nb,out,ac,bc⟩st'⟨rfl,hres|⟨out',na',nb',ac',bc',e,m,h1,h1',h2,h2',h3⟩⟩
   ·obtain⟨res,e,hf⟩:=hres;dsimp only at e⊢;subst e;exact Aq ⟨hL,res,rfl,hf⟩
   cases e
   dsimp only;refine Ak (J9 (G6 ⟨rfl,?_⟩));refine Ak (E6 (D3 (I:=fun y c st'=>Like st st'/\∃(out:Array Az)(na nb g ac bc:Nat),c=(none,na,nb,out,g,ac,bc)/\HI rk a.toList b.toList out.toList na nb/\0<na/\na<=a.size/\1<nb/\nb<=b.size/\x+1+na+nb<a.size+b.size) (Q:=fun c st'=>Like st st'/\((∃res:Array Az,c.1=some res/\MFin rk a.toList b.toList res.toList)\/∃(out:Array Az)(na nb g ac bc:Nat),c=(none,na,nb,out,g,ac,bc)/\HI rk a.toList b.toList out.toList na nb/\0<na/\na<=a.size/\1<nb/\nb<=b.size/\x+1+na+nb<a.size+b.size)) ?step ?fin ⟨hL,_,_,_,_,_,_,rfl,m,h1,h1',h2,h2',h3⟩) ?post)
   case fin=>
    rintro c st'⟨hL2,h⟩;exact⟨hL2,.inr h⟩
   case post=>
    rintro⟨r,na,nb,out,g,ac,bc⟩st2⟨hL2,hres|⟨out',na',nb',g',ac',bc',e,m,h1,h1',h2,h2',h3⟩⟩
    ·obtain⟨res,e,hf⟩:=hres;dsimp only at e⊢;subst e;exact Aq ⟨hL2,res,rfl,hf⟩
    cases e
    dsimp only;exact Ak (zbj ⟨rfl,rfl,rfl,rfl⟩ fun st3 hL3=>Aq ⟨hL2.trans hL3,_,_,_,_,rfl,m,h1,h1',h2,h2',by omega⟩)
   case step=>
    rintro y c st2 _ hy⟨hL2,out,na,nb,g,ac,bc,rfl,m,h1,h1',h2,h2',h3⟩;dsimp only;have ib:nb-1<b.size:=by omega
    refine zao (fun _=>Ak (zbj ⟨rfl,rfl,rfl,rfl⟩ fun st3 hL3=>?_)) (fun _=>Ak (zbj ⟨rfl,rfl,rfl,rfl⟩ fun st3 hL3=>?_))
    all_goals
     have hL4:=hL2.trans hL3;have hk3:kindOf st3=kd:=hL4.1.trans hst;refine Ak (zaK ib ?_);refine Ak (zbK C (Sb _ ib) (fun i h _ _=>Sa i h) (by omega) (by omega) (zho sa (by omega)) hk3 fun p j1 j2 j3=>?_);dsimp only;simp only[Bo,if_false,Mu] at j2 j3;have mA:=m.moreA sa (by omega) (d:=na-p) (p:=p) (by omega) (fun i hi g1 g2 y hy=>by
      have h5:=j3 i g1 g2;rw[za2 (by omega)] at h5;have h6:=zdV sb (show 0<nb by omega) (by omega) y hy;rw[zar b ib] at h6;rw[zar a (by omega)];omega)
     have leB:∀y∈a.toList.take p,rk y<=rk b[nb-1]:=fun y hy=>by
      obtain⟨j,hj,g1,e⟩:=zbw hy;have h5:=j2 j g1;rw[za2 (by omega)] at h5;rw[<-e,zar a (by omega)];exact h5
     rw[<-zaP,<-Cn,<-B6] at mA;refine zao (fun k0=>?_) (fun k0=>?_)
     rotate_left
     have mA:=m;have h12:=h1;have h12':=h1';have h32:=h3;have e7:p=na:=by omega
     rw[e7] at leB⊢;generalize out=out2 at mA⊢;generalize na=na2 at mA leB h12 h12' h32⊢
     rotate_left
     refine zao (fun e=>?_) (fun e=>?_)
     ·have e:p=0:=by simpa using e
      refine Aq ⟨hL4,.inl ⟨_,rfl,?_⟩⟩;have:=doneA mA e;simp only[B6,Cn,zaH] at this⊢;exact this
     have e5:¬p=0:=by simpa using e
     have h12:0<p:=by omega
     have h12':p<=a.size:=by omega
     have h32:x+1+p+nb<a.size+b.size:=by omega
     generalize out++(a.extract p na).reverse=out2 at mA⊢;generalize na-p=kk at k0⊢;generalize p=na2 at mA leB h12 h12' h32⊢
    all_goals
     have mB:=mA.pushB sb (by omega) (by omega) (fun y hy=>by rw[zar b ib];exact leB y hy);rw[zar b ib,<-Ce] at mB;refine Ak (zaK ib ?_);refine zao (fun e=>?_) (fun e=>?_)
     ·have e:nb-1=1:=by simpa using e
      refine Aq ⟨hL4,.inl ⟨_,rfl,?_⟩⟩;have:=mB.restBA sa sb (fun x hx y hy=>firstB _ e _ x hx y hy);simp only[B6,Cn,zaH];exact this
     have e8:¬nb-1=1:=by simpa using e
     have hia2:na2-1<a.size:=by omega
     refine Ak (zaK hia2 ?_);refine Ak (zbK C (Sa _ hia2) (fun i h _ _=>Sb i h) (by omega) (by omega) (zho sb (by omega)) hk3 fun p2 j4 j5 j6=>?_);dsimp only;simp only[if_true,Mu] at j5 j6;have mC:=mB.moreB sb (by omega) (d:=nb-1-p2) (p:=p2) (by omega) (fun i hi g1 g2 y hy=>by
      have h5:=j6 i g1 g2;rw[za2 (by omega)] at h5;have h6:=zdV sa h12 (by omega) y hy;rw[zar a hia2] at h6;rw[zar b (by omega)];omega)
     have leA:∀y∈b.toList.take p2,rk y<=rk a[na2-1]:=fun y hy=>by
      obtain⟨j,hj,g1,e⟩:=zbw hy;have h5:=j5 j g1;rw[za2 (by omega)] at h5;rw[<-e,zar b (by omega)];omega
     rw[<-zaP,<-Cn,<-B6] at mC;refine zao (fun k1=>?_) (fun k1=>?_)
     rotate_left
     have mC:=mB;have h22:1<nb-1:=by omega
     have h22':nb-1<=b.size:=by omega
     have h33:x+1+na2+(nb-1)<a.size+b.size:=by omega
     have e7:p2=nb-1:=by omega
     rw[e7] at leA⊢;generalize out2.push b[nb-1]=out3 at mC⊢;generalize nb-1=nb2 at mC leA h22 h22' h33⊢
     rotate_left
     refine zao (fun e=>?_) (fun e=>?_)
     ·have e:p2=1:=by simpa using e
      refine Aq ⟨hL4,.inl ⟨_,rfl,?_⟩⟩;have:=mC.restBA sa sb (fun x hx y hy=>firstB _ e _ x hx y hy);simp only[B6,Cn,zaH] at this⊢;exact this
     have e5:¬p2=1:=by simpa using e
     refine zao (fun e=>?_) (fun e=>?_)
     ·have e:p2=0:=by simpa using e
      refine Aq ⟨hL4,.inl ⟨_,rfl,?_⟩⟩;have:=doneB mC e;simp only[B6,Cn,zaH] at this⊢;exact this
     have e6:¬p2=0:=by simpa using e
     have h22:1<p2:=by omega
     have h22':p2<=b.size:=by omega
     have h33:x+1+na2+p2<a.size+b.size:=by omega
     generalize out2.push b[nb-1]++(b.extract p2 (nb-1)).reverse=out3 at mC⊢;generalize nb-1-p2=kk2 at k1⊢;generalize p2=nb2 at mC leA h22 h22' h33⊢
    all_goals
     have mD:=mC.pushA sa h12 (by omega) (fun y hy=>by rw[zar a hia2];exact leA y hy);rw[zar a hia2,<-Ce] at mD;refine Ak (zaK hia2 ?_);refine zao (fun e=>?_) (fun e=>?_)
     ·have e:na2-1=0:=by simpa using e
      refine Aq ⟨hL4,.inl ⟨_,rfl,?_⟩⟩;have:=doneA mD e;simp only[B6,Cn,zaH] at this⊢;exact this
     have e9:¬na2-1=0:=by simpa using e
     exact zao (fun _=>Aq ⟨hL4,.inr ⟨_,_,_,_,_,_,rfl,mD,by omega,by omega,h22,h22',by omega⟩⟩) (fun _=>Aq ⟨hL4,_,_,_,_,_,_,rfl,mD,by omega,by omega,h22,h22',by omega⟩)
end
theorem za6{rk:Az->Int}{xs ys:Array Az}{i j:Nat}(h:xs[i]?=ys[j]?):kAt rk xs i=kAt rk ys j:=by unfold kAt;rw[h]
theorem zcX{rk:Az->Int}{xs:Array Az}{i j:Nat}(hj:j<=xs.size)(k:Nat):kAt rk (mirror xs i j ((j-i) / 2)) k=if i<=k/\k<j then kAt rk xs (i+j-1-k) else kAt rk xs k:=by
 have e:=Oy (i:=i) hj k;by_cases h:i<=k/\k<j
 ·rw[if_pos h] at e⊢;exact za6 e
 ·rw[if_neg h] at e⊢;exact za6 e
theorem zby{rk:Az->Int}{xs:Array Az}{i j:Nat}(hj:j<=xs.size)(h:∀k,i<=k->k<j->kAt rk xs k=kAt rk xs (j-1))(k:Nat):kAt rk (mirror xs i j ((j-i) / 2)) k=kAt rk xs k:=by
 rw[zcX hj];by_cases e:i<=k/\k<j
 ·rw[if_pos e,h _ (by omega) (by omega),h k e.1 e.2]
 ·rw[if_neg e]
theorem zd9{rk:Az->Int}{xs:Array Az}{src d:Nat}(hs:src<xs.size)(hd:d<=src)(k:Nat):kAt rk (bubble xs src d) k=if k=src-d then kAt rk xs src else if src-d<k/\k<=src then kAt rk xs (k-1) else kAt rk xs k:=by
 have e:=Qi hs d hd k;by_cases h:k=src-d
 ·rw[if_pos h] at e⊢;exact za6 e
 ·rw[if_neg h] at e⊢;by_cases h2:src-d<k/\k<=src
  ·rw[if_pos h2] at e⊢;exact za6 e
  ·rw[if_neg h2] at e⊢;exact za6 e
structure Chg(lo hi:Nat)(st st':Bz):Prop where
 kind:kindOf st'=kindOf st
 pend:pendingOf st'=pendingOf st
 fail:failedOf st'=failedOf st
 perm:(arrOf st').Perm (arrOf st)
 out:∀i,(i<lo\/hi<=i)->(arrOf st')[i]?=(arrOf st)[i]?
theorem Chg.refl{lo hi:Nat}(st:Bz):Chg lo hi st st:=⟨rfl,rfl,rfl,Gf _,fun _ _=>rfl⟩
theorem Chg.size{lo hi:Nat}{st st':Bz}(h:Chg lo hi st st'):(arrOf st').size=(arrOf st).size:=h.perm.size_eq
theorem Chg.trans{lo hi:Nat}{a b c:Bz}(h:Chg lo hi a b)(k:Chg lo hi b c):Chg lo hi a c:=⟨k.kind.trans h.kind,k.pend.trans h.pend,k.fail.trans h.fail,k.perm.trans h.perm,fun i hi=>(k.out i hi).trans (h.out i hi)⟩
theorem Chg.wide{lo hi lo' hi':Nat}{a b:Bz}(h:Chg lo hi a b)(h1:lo'<=lo)(h2:hi<=hi'):Chg lo' hi' a b:=⟨h.kind,h.pend,h.fail,h.perm,fun i hi=>h.out i (by omega)⟩
theorem Chg.mirror{lo hi i j:Nat}{st st':Bz}(h:Chg lo hi st st')(hi':lo<=i)(hj:j<=hi)(hs:j<=(arrOf st').size):Chg lo hi st (setArr st' (mirror (arrOf st') i j ((j-i) / 2))):=
 h.trans ⟨rfl,rfl,rfl,mirror_perm _ _ _ _,fun k hk=>by
  show(Qz (arrOf st') i j ((j-i) / 2))[k]?=_;rw[Oy hs,if_neg (by omega)]⟩
theorem Chg.bubble{lo hi src d:Nat}{st st':Bz}(h:Chg lo hi st st')(h1:lo+d<=src)(h2:src<hi)(hs:src<(arrOf st').size):Chg lo hi st (setArr st' (bubble (arrOf st') src d)):=
 h.trans ⟨rfl,rfl,rfl,bubble_perm _ _ _,fun k hk=>by
  show(Rb (arrOf st') src d)[k]?=_;rw[Qi hs _ (by omega),if_neg (by omega),if_neg (by omega)]⟩
theorem zci{S:Az->Prop}{a b:Array Az}(p:b.Perm a)(h:∀x∈a.toList,S x):∀x∈b.toList,S x:=fun x hx=>h x ((Hb.mp p).mem_iff.mp hx)
theorem zhn{S:Az->Prop}{a:Array Az}(h:∀x∈a.toList,S x)(i:Nat)(hi:i<a.size):S a[i]:=h _ (by simp)
theorem Up2.more{rk:Az->Int}{arr:Array Az}{lo hi:Nat}(u:Up2 rk arr lo hi)(h:lo<hi)(e:kAt rk arr (hi-1)<=kAt rk arr hi):Up2 rk arr lo (hi+1):=fun i j h1 h2 h3=>by
 by_cases ej:j=hi
 ·by_cases ei:i=hi
  ·rw[ei,ej];exact Dg _
  ·have:=u i (hi-1) h1 (by omega) (by omega);rw[ej];omega
 ·exact u i j h1 h2 (by omega)
noncomputable def Dn2(rk:Az->Int)(arr:Array Az)(lo hi:Nat):Prop:=∀i j,lo<=i->i<=j->j<hi->kAt rk arr j<=kAt rk arr i
theorem Dn2.more{rk:Az->Int}{arr:Array Az}{lo hi:Nat}(u:Dn2 rk arr lo hi)(h:lo<hi)(e:kAt rk arr hi<=kAt rk arr (hi-1)):Dn2 rk arr lo (hi+1):=fun i j h1 h2 h3=>by
 by_cases ej:j=hi
 ·by_cases ei:i=hi
  ·rw[ei,ej];exact Dg _
  ·have:=u i (hi-1) h1 (by omega) (by omega);rw[ej];omega
 ·exact u i j h1 h2 (by omega)
theorem Dn2.like{rk:Az->Int}{arr arr':Array Az}{lo hi:Nat}(u:Dn2 rk arr lo hi)(h:∀k,kAt rk arr' k=kAt rk arr k):Dn2 rk arr' lo hi:=fun i j h1 h2 h3=>by
 rw[h,h];exact u i j h1 h2 h3
section
variable{prog:Ap}{w:Bd}{A:B5}{E:A2->A5->Prop}{s:A5}{kd:Fg}{S:Az->Prop}{rk:Az->Int}
theorem zgY(C:Ranks prog w A E s kd S rk){i j:Nat}{st:Bz}{Q:Option Bool->Bz->Prop}(hS:∀x∈(arrOf st).toList,S x)(hk:kindOf st=kd)(hi:i<(arrOf st).size)(hj:j<(arrOf st).size)(q:Q (some (decide (kAt rk (arrOf st) i<kAt rk (arrOf st) j))) st):wpS (model prog w) A E s (ltAt' i j) Q st:=by
 rw[ltAt'_eq];refine Ak (Hm (Ak (zaK hi (Ak (zaK hj (C.ask (zhn hS i hi) (zhn hS j hj) hk ?_))))));rw[za2 hi,za2 hj] at q;exact q
theorem zhm(C:Ranks prog w A E s kd S rk){st:Bz}{lo a nrem:Nat}(hS:∀x∈(arrOf st).toList,S x)(hk:kindOf st=kd)(hn:lo+nrem<=(arrOf st).size)(ha:1<=a)(han:a<=nrem)(u:Up2 rk (arrOf st) lo (lo+a)){F:Nat->Option (Option Nat)×Nat->StateT Bz Sem (ForInStep (Option (Option Nat)×Nat))}
  (f:∀x n R,lo+n<(arrOf st).size->1<=n->(if kAt rk (arrOf st) (lo+n)<kAt rk (arrOf st) (lo+n-1) then R (Su (none,n)) st else R (Du (none,n+1)) st)->wpS (model prog w) A E s (F x (none,n)) R st):
  wpS (model prog w) A E s (forIn [a:nrem] (none,a) F) (fun c st'=>st'=st/\∃n,c=(none,n)/\a<=n/\n<=nrem/\Up2 rk (arrOf st) lo (lo+n)/\(n=nrem\/kAt rk (arrOf st) (lo+n)<kAt rk (arrOf st) (lo+n-1))) st:=by
 refine D3 (I:=fun x c st'=>st'=st/\c=(none,x)/\Up2 rk (arrOf st) lo (lo+x)) ?step ?fin ⟨rfl,rfl,u⟩
 case fin=>
  rintro c st'⟨rfl,rfl,u'⟩;rw[show max a nrem=nrem by omega] at u'⊢;exact⟨rfl,nrem,rfl,han,Ab _,u',.inl rfl⟩
 case step=>
  rintro x c st' hax hxn⟨rfl,rfl,u'⟩;refine f x x _ (by omega) (by omega) ?_;by_cases hl:kAt rk (arrOf st') (lo+x)<kAt rk (arrOf st') (lo+x-1)
  ·rw[if_pos hl];exact⟨rfl,x,rfl,hax,by omega,u',.inr hl⟩
  ·rw[if_neg hl];exact⟨rfl,rfl,by have:=u'.more (by omega) (by omega);rwa[show lo+x+1=lo+(x+1) by omega] at this⟩
theorem countRun_ok(C:Ranks prog w A E s kd S rk){st:Bz}{lo nrem:Nat}{Q:Option Nat->Bz->Prop}(hS:∀x∈(arrOf st).toList,S x)(hk:kindOf st=kd)(hn:lo+nrem<=(arrOf st).size)(h1:1<=nrem)
  (q:∀m st',Chg lo (lo+nrem) st st'->1<=m->m<=nrem->Up2 rk (arrOf st') lo (lo+m)->Q (some m) st'):wpS (model prog w) A E s (countRun' lo nrem) Q st:=by
 rw[countRun'_eq];have asc1:∀{st1:Bz},Chg lo (lo+nrem) st st1->∀{i j:Nat}{R:Option Bool->Bz->Prop},i<(arrOf st).size->j<(arrOf st).size->R (some (decide (kAt rk (arrOf st1) i<kAt rk (arrOf st1) j))) st1->wpS (model prog w) A E s (ltAt' i j) R st1:=fun{st1}c i j R hi hj r=>
  zgY C (zci c.perm hS) (c.kind.trans hk) (by rw[c.size];exact hi) (by rw[c.size];exact hj) r
 refine Ak (E6 (zhm C hS hk hn (Ab 1) h1 (fun i j a b c=>by rw[show i=j by omega];exact Dg _) fun x n R b1 b2 r=>?_) ?_)
 ·refine Ak (asc1 (Chg.refl st) (by omega) (by omega) ?_);dsimp only;refine zao (fun e=>?_) (fun e=>?_)
  ·rw[if_pos (by simpa using e)] at r;exact Aq r
  ·rw[if_neg (by simpa using e)] at r;exact Aq r
 rintro⟨r,n⟩st0⟨e0,n',e,hn1,hn2,u,hor⟩
 cases e
 rw[e0];clear e0 st0;dsimp only;refine zao (fun e=>Aq (q n _ (Chg.refl _) hn1 hn2 u)) (fun e=>?_);have e:¬n=nrem:=by simpa using e
 have hlt:=hor.resolve_left e;refine zao (fun g=>?_) (fun g=>?_);refine Ak (asc1 (Chg.refl st) (by omega) (by omega) ?_);dsimp only;refine zao (fun _=>Aq (q n _ (Chg.refl _) hn1 hn2 u)) (fun ng=>?_);have ng:kAt rk (arrOf st) (lo+n-1)<=kAt rk (arrOf st) lo:=by simpa using ng
 have all:∀k,lo<=k->k<lo+n->kAt rk (arrOf st) k=kAt rk (arrOf st) (lo+n-1):=fun k a b=>by
  have a1:=u lo k (Ab _) a b;have a2:=u k (lo+n-1) a (by omega) (by omega);omega
 refine Ak (Lr ?_);have c1:=(Chg.refl (lo:=lo) (hi:=lo+nrem) st).mirror (i:=lo) (j:=lo+n) (Ab _) (by omega) (by omega);have d1:Dn2 rk (arrOf (setArr st (mirror (arrOf st) lo (lo+n) ((lo+n-lo) / 2)))) lo (lo+(n+1)):=by
  refine Dn2.like (arr:=arrOf st) ?_ (zby (by omega) all);have d0:Dn2 rk (arrOf st) lo (lo+n):=fun i j a b c=>by rw[all i a (by omega),all j (by omega) c];exact Dg _
  exact d0.more (by omega) (by omega)
 generalize setArr st (mirror (arrOf st) lo (lo+n) ((lo+n-lo) / 2))=st1 at c1 d1⊢
 rotate_left
 have c1:=Chg.refl (lo:=lo) (hi:=lo+nrem) st;have d1:Dn2 rk (arrOf st) lo (lo+(n+1)):=by
  have d0:Dn2 rk (arrOf st) lo (lo+n):=fun i j a b c=>by rw[show i=j by omega];exact Dg _
  exact d0.more (by omega) (by omega)
 obtain⟨st1,hh⟩:∃st1,st1=st:=⟨_,rfl⟩;have c1:Chg lo (lo+nrem) st st1:=by rw[hh];exact c1
 have d1:Dn2 rk (arrOf st1) lo (lo+(n+1)):=by rw[hh];exact d1
 rw[<-hh];clear hh
 all_goals
  refine Ak (J9 (G6 ⟨rfl,?_⟩));refine Ak (E6 (D3 (I:=fun x c st'=>∃neq,c=(none,x,neq)/\Chg lo (lo+nrem) st st'/\Dn2 rk (arrOf st') lo (lo+x)/\neq+1<=x/\∀i,lo+x-(neq+1)<=i->i<lo+x->kAt rk (arrOf st') i=kAt rk (arrOf st') (lo+x-1))
   (Q:=fun c st'=>∃m neq,c=(none,m,neq)/\Chg lo (lo+nrem) st st'/\n+1<=m/\m<=nrem/\Dn2 rk (arrOf st') lo (lo+m)/\neq+1<=m/\∀i,lo+m-(neq+1)<=i->i<lo+m->kAt rk (arrOf st') i=kAt rk (arrOf st') (lo+m-1)) ?step ?fin ⟨0,rfl,c1,d1,by omega,fun i a b=>by congr 1;omega⟩) ?post)
  case fin=>
   rintro c st'⟨neq,rfl,a1,a2,a3,a4⟩;rw[show max (n+1) nrem=nrem by omega] at a2 a3 a4⊢;exact⟨nrem,neq,rfl,a1,by omega,Ab _,a2,a3,a4⟩
  case step=>
   rintro x c st' hx1 hx2⟨neq,rfl,a1,a2,a3,a4⟩;dsimp only;have sz:=a1.size;refine Ak (asc1 a1 (by omega) (by omega) ?_);dsimp only;refine zao (fun e1=>?_) (fun e1=>?_)
   ·have e1:kAt rk (arrOf st') (lo+x)<kAt rk (arrOf st') (lo+x-1):=by simpa using e1
    have d2:Dn2 rk (arrOf st') lo (lo+(x+1)):=a2.more (by omega) (by omega);refine zao (fun e2=>Ak (Lr (Aq ?_))) (fun e2=>Aq ?_)
    ·exact⟨0,rfl,a1.mirror (by omega) (by omega) (by omega),d2.like (zby (by omega) a4),by omega,fun i a b=>by congr 1;omega⟩
    ·exact⟨0,rfl,a1,d2,by omega,fun i a b=>by congr 1;omega⟩
   ·have e1:kAt rk (arrOf st') (lo+x-1)<=kAt rk (arrOf st') (lo+x):=by simpa using e1
    refine Ak (asc1 a1 (by omega) (by omega) ?_);dsimp only;refine zao (fun e2=>Aq ?_) (fun e2=>Aq ?_)
    ·exact⟨x,neq,rfl,a1,hx1,by omega,a2,a3,a4⟩
    ·have e2:kAt rk (arrOf st') (lo+x)<=kAt rk (arrOf st') (lo+x-1):=by simpa using e2
     refine⟨neq+1,rfl,a1,a2.more (by omega) e2,by omega,fun i a b=>?_⟩;rw[show lo+(x+1)-1=lo+x by omega];by_cases ei:i=lo+x
     ·rw[ei]
     ·rw[a4 i (by omega) (by omega)];omega
  case post=>
   rintro⟨r,m,neq⟩st'⟨m',neq',e2,a1,am,am2,a2,a3,a4⟩
   cases e2
   dsimp only;have sz:=a1.size;refine zao (fun g2=>?_) (fun g2=>?_);refine Ak (Lr ?_);have a5:=a1.mirror (i:=lo+m-(neq+1)) (j:=lo+m) (by omega) (by omega) (by omega);have a6:Dn2 rk (arrOf (setArr st' (mirror (arrOf st') (lo+m-(neq+1)) (lo+m) ((lo+m-(lo+m-(neq+1))) / 2)))) lo (lo+m):=a2.like (zby (by omega) a4);generalize setArr st' (mirror (arrOf st') (lo+m-(neq+1)) (lo+m) ((lo+m-(lo+m-(neq+1))) / 2))=st2 at a5 a6⊢
   rotate_left
   have a5:=a1;have a6:=a2;clear a1 a2 a3 a4;generalize st'=st2 at a5 a6⊢
   all_goals
    have sz2:=a5.size;have a7:=a5.mirror (i:=lo) (j:=lo+m) (Ab _) (by omega) (by omega);have a8:Up2 rk (arrOf (setArr st2 (mirror (arrOf st2) lo (lo+m) ((lo+m-lo) / 2)))) lo (lo+m):=fun i j b1 b2 b3=>by
     show kAt rk (mirror (arrOf st2) lo (lo+m) ((lo+m-lo) / 2)) i<=kAt rk (mirror (arrOf st2) lo (lo+m) ((lo+m-lo) / 2)) j;rw[zcX (by omega),zcX (by omega),if_pos (by omega),if_pos (by omega)];exact a6 _ _ (by omega) (by omega) (by omega)
    refine Ak (Lr ?_);generalize setArr st2 (mirror (arrOf st2) lo (lo+m) ((lo+m-lo) / 2))=st3 at a7 a8⊢;have sz3:=a7.size;refine Ak (E6 (zhm C (zci a7.perm hS) (a7.kind.trans hk) (by omega) (show 1<=m by omega) (by omega) a8 fun x n R b1 b2 r=>?_) ?_)
    ·refine Ak (asc1 a7 (by omega) (by omega) ?_);dsimp only;refine zao (fun e=>?_) (fun e=>?_)
     ·rw[if_pos (by simpa using e)] at r;exact Aq r
     ·rw[if_neg (by simpa using e)] at r;exact Aq r
    rintro⟨r,k⟩st4⟨e0,k',ek,b1,b2,b3,_⟩
    cases ek
    rw[e0];exact Aq (q k _ a7 (by omega) b2 b3)
theorem binSort_ok(C:Ranks prog w A E s kd S rk){st:Bz}{lo n ok:Nat}{Q:Bool->Bz->Prop}(hS:∀x∈(arrOf st).toList,S x)(hk:kindOf st=kd)(hn:lo+n<=(arrOf st).size)(hok:ok<=n)(u:Up2 rk (arrOf st) lo (lo+ok))
  (q:∀st',Chg lo (lo+n) st st'->Up2 rk (arrOf st') lo (lo+n)->Q true st'):wpS (model prog w) A E s (binarySort' lo n ok) Q st:=by
 rw[binarySort'_eq];refine Ak (E6 (D3 (I:=fun k c st'=>c=(none,())/\Chg lo (lo+n) st st'/\Up2 rk (arrOf st') lo (lo+min k n)) (Q:=fun c st'=>c=(none,())/\Chg lo (lo+n) st st'/\Up2 rk (arrOf st') lo (lo+n)) ?step ?fin ?init) ?post)
 case post=>
  rintro c st'⟨rfl,a,b⟩;exact Aq (q st' a b)
 case init=>
  refine⟨rfl,Chg.refl _,fun i j a b c=>?_⟩;by_cases h1:ok=0
  ·rw[show i=j by omega];exact Dg _
  ·exact u i j a b (by omega)
 case fin=>
  rintro c st'⟨rfl,a,b⟩;refine⟨rfl,a,?_⟩;rwa[show min (max (max ok 1) n) n=n by omega] at b
 case step=>
  rintro k c st' hk1 hk2⟨rfl,a,b⟩;rw[show min k n=k by omega] at b;have sz:=a.size;refine Ak (E6 (D3 (I:=fun x c st''=>st''=st'/\∃l r,c=(none,l,r)/\l<=r/\r<=k/\r-l<=k-x/\(∀i,i<l->kAt rk (arrOf st') (lo+i)<=kAt rk (arrOf st') (lo+k))/\(∀i,r<=i->i<k->kAt rk (arrOf st') (lo+k)<kAt rk (arrOf st') (lo+i)))
   (Q:=fun c st''=>st''=st'/\∃l r,c=(none,l,r)/\l<=k/\(∀i,i<l->kAt rk (arrOf st') (lo+i)<=kAt rk (arrOf st') (lo+k))/\(∀i,l<=i->i<k->kAt rk (arrOf st') (lo+k)<kAt rk (arrOf st') (lo+i))) ?istep ?ifin ⟨rfl,0,k,rfl,by omega,by omega,by omega,fun i hi=>by omega,fun i h1 h2=>by omega⟩) ?ipost)
  case ifin=>
   rintro c st''⟨rfl,l,r,rfl,b1,b2,b3,b4,b5⟩;exact⟨rfl,l,r,rfl,by omega,b4,fun i h1 h2=>b5 i (by omega) h2⟩
  case istep=>
   rintro x c st'' _ hx⟨rfl,l,r,rfl,b1,b2,b3,b4,b5⟩;dsimp only;refine zao (fun e=>Aq ⟨rfl,l,r,rfl,by omega,b4,fun i h1 h2=>b5 i (by omega) h2⟩) (fun e=>?_);refine Ak (zgY C (zci a.perm hS) (a.kind.trans hk) (by omega) (by omega) ?_);dsimp only;refine zao (fun e1=>Aq ?_) (fun e1=>Aq ?_)
   ·have e1:kAt rk (arrOf st'') (lo+k)<kAt rk (arrOf st'') (lo+(l+r) / 2):=by simpa using e1
    refine⟨rfl,l,(l+r) / 2,rfl,by omega,by omega,by omega,b4,fun i h1 h2=>?_⟩;have:=b (lo+(l+r) / 2) (lo+i) (by omega) (by omega) (by omega);omega
   ·have e1:kAt rk (arrOf st'') (lo+(l+r) / 2)<=kAt rk (arrOf st'') (lo+k):=by simpa using e1
    refine⟨rfl,(l+r) / 2+1,r,rfl,by omega,by omega,by omega,fun i h1=>?_,b5⟩;have:=b (lo+i) (lo+(l+r) / 2) (by omega) (by omega) (by omega);omega
  case ipost=>
   rintro⟨r0,l,r⟩st''⟨e0,l',r',e,b2,b4,b5⟩
   cases e
   rw[e0];dsimp only;rw[moveDown'_eq];refine Ak (Kq (Aq ⟨rfl,a.bubble (by omega) (by omega) (by omega),?_⟩));rw[show min (k+1) n=k+1 by omega];intro i j h1 h2 h3;show kAt rk (bubble (arrOf st') (lo+k) (lo+k-(lo+l))) i<=kAt rk (bubble (arrOf st') (lo+k) (lo+k-(lo+l))) j;rw[zd9 (by omega) (by omega),zd9 (by omega) (by omega),show lo+k-(lo+k-(lo+l))=lo+l by omega];by_cases e1:i=lo+l
   ·rw[if_pos e1];by_cases e2:j=lo+l
    ·rw[if_pos e2];exact Dg _
    ·rw[if_neg e2,if_pos (by omega)];have:=b5 (j-1-lo) (by omega) (by omega);rw[show lo+(j-1-lo)=j-1 by omega] at this;omega
   ·rw[if_neg e1];by_cases e3:lo+l<i/\i<=lo+k
    ·rw[if_pos e3,if_neg (by omega),if_pos (by omega)];exact b _ _ (by omega) (by omega) (by omega)
    ·rw[if_neg e3];by_cases e2:j=lo+l
     ·rw[if_pos e2];have:=b4 (i-lo) (by omega);rwa[show lo+(i-lo)=i by omega] at this
     ·rw[if_neg e2];by_cases e4:lo+l<j/\j<=lo+k
      ·rw[if_pos e4];exact b _ _ (by omega) (by omega) (by omega)
      ·rw[if_neg e4];exact b _ _ (by omega) (by omega) (by omega)
end
theorem wpS_setSt{M:Hk}{A:B5}{E:A2->A5->Prop}{s:A5}{σ:Type}{x:σ}{Q:PUnit->σ->Prop}{st:σ}(h:Q ⟨⟩ x):wpS M A E s (set x:StateT σ Sem PUnit) Q st:=by
 unfold wpS;rw[StateT.run_set];exact Ae ⟨rfl,h⟩
theorem wpS_setLike{M:Hk}{A:B5}{E:A2->A5->Prop}{s:A5}{x:Bz}{Q:PUnit->Bz->Prop}{st:Bz}(h:∀st',kindOf st'=kindOf x->arrOf st'=arrOf x->pendingOf st'=pendingOf x->failedOf st'=failedOf x->Q ⟨⟩ st'):wpS M A E s (set x:StateT Bz Sem PUnit) Q st:=wpS_setSt (h x rfl rfl rfl rfl)
noncomputable abbrev seg(l:List Az)(lo n:Nat):List Az:=(l.drop lo).take n
theorem mem_seg{l:List Az}{lo n:Nat}{y:Az}(h:y∈seg l lo n):∃j,∃hj:j<l.length,lo<=j/\j<lo+n/\l[j]=y:=by
 obtain⟨j,hj,h1,e⟩:=zbw h;rw[Ic] at hj;rw[Kb] at e;exact⟨lo+j,by omega,by omega,by omega,e⟩
theorem seg_split(l:List Az)(lo m n:Nat):seg l lo (m+n)=seg l lo m++seg l (lo+m) n:=by
 unfold seg;rw[Pe,Lh]
theorem seg_whole(l:List Az)(lo n:Nat):l=l.take lo++seg l lo n++l.drop (lo+n):=by
 unfold seg
 conv=>lhs;rw[<-C9 lo l,<-C9 n (l.drop lo)]
 rw[Lh,Au]
theorem zej{rk:Az->Int}{arr:Array Az}{lo hi:Nat}(u:Up2 rk arr lo hi)(h:hi<=arr.size):Srt rk (seg arr.toList lo (hi-lo)):=by
 refine D8.mpr fun i j hi1 hj hij=>?_;have l1:(seg arr.toList lo (hi-lo)).length<=hi-lo:=List.length_take_le _ _;have:=u (lo+i) (lo+j) (by omega) (by omega) (by omega);rw[za2 (by omega),za2 (by omega)] at this;simpa[seg,Hn,Kb] using this
theorem up_seg{rk:Az->Int}{arr:Array Az}{P L R:List Az}(e:arr.toList=P++L++R)(s:Srt rk L):Up2 rk arr P.length (P.length+L.length):=by
 have hz:arr.size=P.length+L.length+R.length:=by
  rw[<-As,e,Ag,Ag]
 intro i j h1 h2 h3;have g:∀k(hk:P.length<=k)(hk2:k<P.length+L.length),kAt rk arr k=rk (L[k-P.length]'(by omega)):=fun k hk hk2=>by
  rw[za2 (by omega),<-zar arr (by omega)];congr 1;have:arr.toList[k]?=some (L[k-P.length]'(by omega)):=by
   rw[e,Do (by rw[Ag];omega),Dj hk,A9 (by omega)]
  rw[A9 (by rw[As];omega)] at this;exact Bw this
 rw[g i h1 (by omega),g j (by omega) h3];by_cases eij:i=j
 ·subst eij;exact Dg _
 ·exact D8.mp s _ _ (by omega) (by omega) (by omega)
theorem zff(base:Nat):∀(l:List Az)(n:Nat)(arr:Array Az),base+n+l.length<=arr.size->
  ((l.zipIdx n).foldl (fun(a:Array Az)(x:Az×Nat)=>a.setIfInBounds (base+x.2) x.1) arr).toList=arr.toList.take (base+n)++l++arr.toList.drop (base+n+l.length)
 |[],n,arr,h=>by simp
 |x::l,n,arr,h=>by
  rw[Av] at h;rw[List.zipIdx_cons,J8,zff base l (n+1) _ (by rw[Array.size_setIfInBounds];omega)];dsimp only;rw[Le];have hb:base+n<arr.toList.length:=by rw[As];omega
  have e1:(arr.toList.set (base+n) x).take (base+(n+1))=arr.toList.take (base+n)++[x]:=by
   rw[show base+(n+1)=base+n+1 by omega,Cy (by rw[Ow];exact hb),List.getElem_set_self,List.take_set_of_le (Ab _)]
  have e2:(arr.toList.set (base+n) x).drop (base+(n+1)+l.length)=arr.toList.drop (base+n+(x::l).length):=by
   rw[List.drop_set_of_lt (by omega),Av];congr 1;omega
  rw[e1,e2];simp
noncomputable abbrev Pend:=Array (Nat×Nat×Nat)
theorem pend_at{p:Pend}{pre post:List (Nat×Nat×Nat)}{x y:Nat×Nat×Nat}(e:p.toList=pre++x::y::post):p[pre.length]?=some x/\p[pre.length+1]?=some y:=by
 constructor
 ·rw[<-Cf,e];simp
 ·rw[<-Cf,e];simp
theorem pend_new{p:Pend}{pre post:List (Nat×Nat×Nat)}{x y z:Nat×Nat×Nat}(e:p.toList=pre++x::y::post):((p.setIfInBounds pre.length z).eraseIdxIfInBounds (pre.length+1)).toList=pre++z::post:=by
 rw[Array.toList_eraseIdxIfInBounds,Le,e];simp[List.eraseIdx_append_of_length_le]
theorem back_out{arr arr':Array Az}{b:Nat}{M:List Az}(e:arr'.toList=arr.toList.take b++M++arr.toList.drop (b+M.length))(h:b+M.length<=arr.size):∀i,(i<b\/b+M.length<=i)->arr'[i]?=arr[i]?:=fun i hi=>by
 rw[<-Cf,<-Cf,e];have lb:(arr.toList.take b).length=b:=by rw[Cq,As];omega
 rcases hi with z|z
 ·rw[Do (by rw[Ag];omega),Do (by omega),M0 z]
 ·rw[Dj (by rw[Ag];omega),List.getElem?_drop,Ag,lb];congr 1;omega
theorem zcP{M:Hk}{A:B5}{E:A2->A5->Prop}{s:A5}{f:Bz->Bz}{Q:PUnit->Bz->Prop}{st:Bz}(h:∀st',kindOf st'=kindOf (f st)->arrOf st'=arrOf (f st)->pendingOf st'=pendingOf (f st)->failedOf st'=failedOf (f st)->Q ⟨⟩ st'):wpS M A E s (modify f:StateT Bz Sem PUnit) Q st:=Kq (h _ rfl rfl rfl rfl)
section
variable{prog:Ap}{w:Bd}{A:B5}{E:A2->A5->Prop}{s:A5}{kd:Fg}{S:Az->Prop}{rk:Az->Int}
structure Mrg(rk:Az->Int)(lo hi:Nat)(st st':Bz)(p':List (Nat×Nat×Nat)):Prop where
 kind:kindOf st'=kindOf st
 fail:failedOf st'=failedOf st
 pend:(pendingOf st').toList=p'
 perm:(arrOf st').Perm (arrOf st)
 out:∀i,(i<lo\/hi<=i)->(arrOf st')[i]?=(arrOf st)[i]?
 up:Up2 rk (arrOf st') lo hi
theorem mergeAt_ok(C:Ranks prog w A E s kd S rk){st:Bz}{sa na p1 nb p2:Nat}{pre post:List (Nat×Nat×Nat)}{Q:Bool->Bz->Prop}(hS:∀x∈(arrOf st).toList,S x)(hk:kindOf st=kd)(hf:failedOf st=none)(hp:(pendingOf st).toList=pre++(sa,na,p1)::(sa+na,nb,p2)::post)(h1:0<na)(h2:0<nb)(hz:sa+na+nb<=(arrOf st).size)(ua:Up2 rk (arrOf st) sa (sa+na))(ub:Up2 rk (arrOf st) (sa+na) (sa+na+nb))
  (q:∀st',Mrg rk sa (sa+na+nb) st st' (pre++(sa,na+nb,p1)::post)->Q true st'):wpS (model prog w) A E s (mergeAt' pre.length) Q st:=by
 obtain⟨g1,g2⟩:=pend_at hp;have hn:=pend_new (z:=(sa,na+nb,p1)) hp;refine Ak (Hm ?_);dsimp only;unfold pendingOf at g1 g2;rw[g1,g2];dsimp only;refine Ak (wpS_setLike fun st1 k1 a1 q1 f1=>?_);have k1:kindOf st1=kindOf st:=k1;have a1:arrOf st1=arrOf st:=a1;have f1:failedOf st1=failedOf st:=f1;have q1:(pendingOf st1).toList=pre++(sa,na+nb,p1)::post:=by rw[q1];exact hn
 have hk1:kindOf st1=kd:=k1.trans hk;have same:Up2 rk (arrOf st) sa (sa+na+nb)->Q true st1:=fun u=>q st1 ⟨k1,f1,q1,a1▸Gf _,fun i _=>by rw[a1],by rw[a1];exact u⟩;have hA:=zhn hS;have i1:sa+na<(arrOf st).size:=by omega
 refine Ak (zaK i1 ?_);refine Ak (zbK C (arr:=arrOf st) (hA _ i1) (fun i h _ _=>hA i h) (by omega) (by omega) ua hk1 fun k j1 j2 j3=>?_);dsimp only;simp only[Bo,if_false,<-za2 (rk:=rk) i1] at j2 j3;refine zao (fun e=>Aq (same ?_)) (fun e=>?_)
 ·have e:na-k=0:=by simpa using e
  intro i j b1 b2 b3;by_cases e1:j<sa+na
  ·exact ua i j b1 b2 e1
  by_cases e2:sa+na<=i
  ·exact ub i j e2 b2 b3
  have a2:=j2 (i-sa) (by omega);rw[show sa+(i-sa)=i by omega] at a2;have a3:=ub (sa+na) j (Ab _) (by omega) b3;omega
 have e:¬na-k=0:=by simpa using e
 have hidx:sa+k+(na-k)-1=sa+na-1:=by omega
 rw[hidx];have i2:sa+na-1<(arrOf st).size:=by omega
 refine Ak (zaK i2 ?_);refine Ak (zbK C (arr:=arrOf st) (hA _ i2) (fun i h _ _=>hA i h) (by omega) (by omega) ub hk1 fun m j4 j5 j6=>?_);dsimp only;simp only[if_true,<-za2 (rk:=rk) i2] at j5 j6;refine zao (fun e0=>Aq (same ?_)) (fun e0=>?_)
 ·have e0:m=0:=by simpa using e0
  intro i j b1 b2 b3;by_cases e1:j<sa+na
  ·exact ua i j b1 b2 e1
  by_cases e2:sa+na<=i
  ·exact ub i j e2 b2 b3
  have a2:=j6 (j-(sa+na)) (by omega) (by omega);rw[show sa+na+(j-(sa+na))=j by omega] at a2;have a3:=ua i (sa+na-1) b1 (by omega) (by omega);omega
 have e0:¬m=0:=by simpa using e0
 have lL:(arrOf st).toList.length=(arrOf st).size:=As;have xl:((arrOf st).extract (sa+k) (sa+na)).toList=seg (arrOf st).toList (sa+k) (na-k):=by rw[zaP,show sa+na-(sa+k)=na-k by omega]
 have yl:((arrOf st).extract (sa+na) (sa+na+m)).toList=seg (arrOf st).toList (sa+na) m:=by rw[zaP,Dx]
 have xs:((arrOf st).extract (sa+k) (sa+na)).size=na-k:=by rw[Nl];omega
 have ys:((arrOf st).extract (sa+na) (sa+na+m)).size=m:=by rw[Nl];omega
 have srtX:Srt rk (seg (arrOf st).toList (sa+k) (na-k)):=by
  have:=zej (lo:=sa+k) (hi:=sa+na) (fun i j b1 b2 b3=>ua i j (by omega) b2 b3) (by omega);rwa[show sa+na-(sa+k)=na-k by omega] at this
 have srtY:Srt rk (seg (arrOf st).toList (sa+na) m):=by
  have:=zej (lo:=sa+na) (hi:=sa+na+m) (fun i j b1 b2 b3=>ub i j (by omega) b2 (by omega)) (by omega);rwa[Dx] at this
 have atSeg:∀{lo n:Nat}{y:Az},y∈seg (arrOf st).toList lo n->∃j,lo<=j/\j<lo+n/\j<(arrOf st).size/\rk y=kAt rk (arrOf st) j:=fun{lo n y}hy=>by
  obtain⟨j,hj,b1,b2,b3⟩:=mem_seg hy;have hj2:j<(arrOf st).size:=by omega
  refine⟨j,b1,b2,hj2,?_⟩;rw[<-b3,za2 hj2,zar _ hj2]
 have cX:∀y∈seg (arrOf st).toList (sa+k) (na-k),kAt rk (arrOf st) (sa+na)<=rk y/\rk y<=kAt rk (arrOf st) (sa+na-1):=fun y hy=>by
  obtain⟨j,b1,b2,b3,b4⟩:=atSeg hy;have a2:=j3 (j-sa) (by omega) (by omega);rw[show sa+(j-sa)=j by omega] at a2;have a3:=ua j (sa+na-1) (by omega) (by omega) (by omega);omega
 have cY:∀y∈seg (arrOf st).toList (sa+na) m,kAt rk (arrOf st) (sa+na)<=rk y/\rk y<=kAt rk (arrOf st) (sa+na-1):=fun y hy=>by
  obtain⟨j,b1,b2,b3,b4⟩:=atSeg hy;have a2:=j5 (j-(sa+na)) (by omega);rw[show sa+na+(j-(sa+na))=j by omega] at a2;have a3:=ub (sa+na) j (by omega) (by omega) (by omega);omega
 have fin:∀(res:Array Az)(st2:Bz),Like st1 st2->MFin rk ((arrOf st).extract (sa+k) (sa+na)).toList ((arrOf st).extract (sa+na) (sa+na+m)).toList res.toList->∀st3,kindOf st3=kindOf st2->arrOf st3=Lg (fun(a:Array Az)(x:Az×Nat)=>a.setIfInBounds (sa+k+x.2) x.1) (arrOf st2) res.toList.zipIdx->pendingOf st3=pendingOf st2->failedOf st3=failedOf st2->Mrg rk sa (sa+na+nb) st st3 (pre++(sa,na+nb,p1)::post):=fun res st2 hL hM st3 k3 a3 q3 f3=>by
  rw[xl,yl] at hM;have lM:res.toList.length=na-k+m:=by
   rw[hM.1.length_eq,Ag,<-xl,<-yl,As,As,xs,ys]
  rw[hL.2.1,a1] at a3;have b3:=congrArg Mb a3;rw[zff (sa+k) res.toList 0 (arrOf st) (by omega),Km] at b3;have ew:(arrOf st).toList=(arrOf st).toList.take (sa+k)++(seg (arrOf st).toList (sa+k) (na-k)++seg (arrOf st).toList (sa+na) m)++(arrOf st).toList.drop (sa+k+res.toList.length):=by
   rw[lM];have:=seg_whole (arrOf st).toList (sa+k) (na-k+m);rwa[seg_split,show sa+k+(na-k)=sa+na by omega] at this
  refine⟨k3.trans (hL.1.trans k1),f3.trans (hL.2.2.2.trans f1),by rw[q3,hL.2.2.1,q1],?_,fun i hi=>back_out b3 (by omega) i (by omega),?_⟩
  ·refine Hb.mpr ?_;rw[b3]
   conv=>rhs;rw[ew]
   exact Ho _ (D9 _ hM.1)
  ·have e1:(arrOf st).toList.take (sa+k)=(arrOf st).toList.take sa++seg (arrOf st).toList sa k:=Pe;have e2:(arrOf st).toList.drop (sa+k+res.toList.length)=seg (arrOf st).toList (sa+na+m) (nb-m)++(arrOf st).toList.drop (sa+na+nb):=by
    rw[lM,show sa+k+(na-k+m)=sa+na+m by omega];unfold seg
    conv=>lhs;rw[<-C9 (nb-m) ((arrOf st).toList.drop (sa+na+m))]
    rw[Lh,show sa+na+m+(nb-m)=sa+na+nb by omega]
   have e3:(arrOf st3).toList=(arrOf st).toList.take sa++(seg (arrOf st).toList sa k++res.toList++seg (arrOf st).toList (sa+na+m) (nb-m))++(arrOf st).toList.drop (sa+na+nb):=by
    rw[b3,e1,e2];simp
   have cM:∀y∈res.toList,kAt rk (arrOf st) (sa+na)<=rk y/\rk y<=kAt rk (arrOf st) (sa+na-1):=fun y hy=>by
    rcases Al.mp (hM.1.mem_iff.mp hy) with z|z
    ·exact cX y z
    ·exact cY y z
   have cA:∀y∈seg (arrOf st).toList sa k,rk y<=kAt rk (arrOf st) (sa+na):=fun y hy=>by
    obtain⟨j,b1,b2,b3,b4⟩:=atSeg hy;have a2:=j2 (j-sa) (by omega);rw[show sa+(j-sa)=j by omega] at a2;omega
   have cB:∀y∈seg (arrOf st).toList (sa+na+m) (nb-m),kAt rk (arrOf st) (sa+na-1)<=rk y/\kAt rk (arrOf st) (sa+na)<=rk y:=fun y hy=>by
    obtain⟨j,b1,b2,b3,b4⟩:=atSeg hy;have a2:=j6 (j-(sa+na)) (by omega) (by omega);rw[show sa+na+(j-(sa+na))=j by omega] at a2;have a3:=ub (sa+na) j (by omega) (by omega) (by omega);omega
   have sA:Srt rk (seg (arrOf st).toList sa k):=by
    have:=zej (lo:=sa) (hi:=sa+k) (fun i j b1 b2 b3=>ua i j (by omega) b2 (by omega)) (by omega);rwa[Dx] at this
   have sB:Srt rk (seg (arrOf st).toList (sa+na+m) (nb-m)):=by
    have:=zej (lo:=sa+na+m) (hi:=sa+na+nb) (fun i j b1 b2 b3=>ub i j (by omega) b2 (by omega)) (by omega);rwa[show sa+na+nb-(sa+na+m)=nb-m by omega] at this
   have sAll:Srt rk (seg (arrOf st).toList sa k++res.toList++seg (arrOf st).toList (sa+na+m) (nb-m)):=by
    refine C0.mpr ⟨C0.mpr ⟨sA,hM.2,fun x hx y hy=>N0 (cA x hx) (cM y hy).1⟩,sB,fun x hx y hy=>?_⟩;rcases Al.mp hx with z|z
    ·exact N0 (cA x z) (cB y hy).2
    ·exact N0 (cM x z).2 (cB y hy).1
   have:=up_seg e3 sAll;have l1:((arrOf st).toList.take sa).length=sa:=by rw[Cq];omega
   have l2:(seg (arrOf st).toList sa k++res.toList++seg (arrOf st).toList (sa+na+m) (nb-m)).length=na+nb:=by
    rw[Ag,Ag,lM];unfold seg;rw[Cq,Cq,Ic,Ic];omega
   rwa[l1,l2,<-F9] at this
 have x0:0<((arrOf st).extract (sa+k) (sa+na)).size:=by omega
 have y0:0<((arrOf st).extract (sa+na) (sa+na+m)).size:=by omega
 have hX:Srt rk ((arrOf st).extract (sa+k) (sa+na)).toList:=by rw[xl];exact srtX
 have hY:Srt rk ((arrOf st).extract (sa+na) (sa+na+m)).toList:=by rw[yl];exact srtY
 have SX:∀i(h:i<((arrOf st).extract (sa+k) (sa+na)).size),S ((arrOf st).extract (sa+k) (sa+na))[i]:=fun i h=>by rw[Ge];exact hA _ _
 have SY:∀i(h:i<((arrOf st).extract (sa+na) (sa+na+m)).size),S ((arrOf st).extract (sa+na) (sa+na+m))[i]:=fun i h=>by rw[Ge];exact hA _ _
 have Y0:rk (((arrOf st).extract (sa+na) (sa+na+m))[0]'y0)=kAt rk (arrOf st) (sa+na):=by
  rw[za2 i1,Ge];rfl
 have XL:rk (((arrOf st).extract (sa+k) (sa+na))[((arrOf st).extract (sa+k) (sa+na)).size-1]'(by omega))=kAt rk (arrOf st) (sa+na-1):=by
  rw[za2 i2,Ge];congr 2;rw[xs];omega
 have hh0:∀y∈((arrOf st).extract (sa+k) (sa+na)).toList,rk (((arrOf st).extract (sa+na) (sa+na+m))[0]'y0)<=rk y:=fun y hy=>by
  rw[xl] at hy;rw[Y0];exact(cX y hy).1
 have hhl:∀y∈((arrOf st).extract (sa+na) (sa+na+m)).toList,rk y<=rk (((arrOf st).extract (sa+k) (sa+na))[((arrOf st).extract (sa+k) (sa+na)).size-1]'(by omega)):=fun y hy=>by
  rw[yl] at hy;rw[XL];exact(cY y hy).2
 refine zao (fun _=>Ak (mergeLo_ok C x0 y0 hX hY SX SY hh0 hhl hk1 fun res st2 hL hM=>Ak (zcP fun st3 k3 a3 q3 f3=>?_))) (fun _=>Ak (mergeHi_ok C x0 y0 hX hY SX SY hh0 hhl hk1 fun res st2 hL hM=>Ak (zcP fun st3 k3 a3 q3 f3=>?_)))
 all_goals
  have r:=fin res st2 hL hM st3 k3 a3 q3 f3;have fl:failedOf st3=none:=r.fail.trans hf;refine Ak (Hm ?_);unfold failedOf at fl;rw[fl];exact Aq (q st3 r)
end
noncomputable def Stk(rk:Az->Int)(arr:Array Az):List (Nat×Nat×Nat)->Nat->Nat->Prop
 |[],a,e=>a=e
 |x::r,a,e=>x.1=a/\0<x.2.1/\Up2 rk arr a (a+x.2.1)/\Stk rk arr r (a+x.2.1) e
section
variable{rk:Az->Int}{arr arr':Array Az}
theorem Stk.le:∀{l:List (Nat×Nat×Nat)}{a e:Nat},Stk rk arr l a e->a+l.length<=e
 |[],a,e,h=>by have h:a=e:=h;simp;omega
 |x::r,a,e,⟨h1,h2,h3,h4⟩=>by have:=Stk.le h4;rw[Av];omega
theorem Stk.congr:∀{l:List (Nat×Nat×Nat)}{a e:Nat},(∀i,a<=i->i<e->kAt rk arr' i=kAt rk arr i)->Stk rk arr l a e->Stk rk arr' l a e
 |[],a,e,_,h=>h
 |x::r,a,e,hc,⟨h1,h2,h3,h4⟩=>by
  have:=Stk.le h4;refine⟨h1,h2,fun i j b1 b2 b3=>?_,Stk.congr (fun i b1 b2=>hc i (by omega) b2) h4⟩;rw[hc i b1 (by omega),hc j (by omega) (by omega)];exact h3 i j b1 b2 b3
theorem Stk.split:∀{l m:List (Nat×Nat×Nat)}{a e:Nat},Stk rk arr (l++m) a e->∃b,Stk rk arr l a b/\Stk rk arr m b e
 |[],m,a,e,h=>⟨a,rfl,h⟩
 |x::r,m,a,e,⟨h1,h2,h3,h4⟩=>by
  obtain⟨b,g1,g2⟩:=Stk.split h4;exact⟨b,⟨h1,h2,h3,g1⟩,g2⟩
theorem Stk.join:∀{l m:List (Nat×Nat×Nat)}{a b e:Nat},Stk rk arr l a b->Stk rk arr m b e->Stk rk arr (l++m) a e
 |[],m,a,b,e,h,k=>by have h:a=b:=h;rw[h];exact k
 |x::r,m,a,b,e,⟨h1,h2,h3,h4⟩,k=>⟨h1,h2,h3,Stk.join h4 k⟩
theorem Stk.mod{f:Nat×Nat×Nat->Nat×Nat×Nat}(hf:∀x,(f x).1=x.1/\(f x).2.1=x.2.1):∀{l:List (Nat×Nat×Nat)}{i a e:Nat},Stk rk arr l a e->Stk rk arr (l.modify i f) a e
 |[],i,a,e,h=>by cases i<;>simpa[List.modify_nil] using h
 |x::r,0,a,e,⟨h1,h2,h3,h4⟩=>by
  show Stk rk arr (f x::r) a e;refine⟨(hf x).1.trans h1,?_,?_,?_⟩
  ·rw[(hf x).2];exact h2
  ·rw[(hf x).2];exact h3
  ·rw[(hf x).2];exact h4
 |x::r,i+1,a,e,⟨h1,h2,h3,h4⟩=>⟨h1,h2,h3,Stk.mod hf h4⟩
theorem two_at{α:Type}{l:List α}{i:Nat}(h:i+1<l.length):∃pre x y post,l=pre++x::y::post/\pre.length=i:=by
 refine⟨l.take i,l[i]'(by omega),l[i+1],l.drop (i+2),?_,by rw[Cq];omega⟩
 conv=>lhs;rw[<-C9 i l]
 rw[Hl (show i<l.length by omega),Hl h]
end
section
variable{prog:Ap}{w:Bd}{A:B5}{E:A2->A5->Prop}{s:A5}{kd:Fg}{S:Az->Prop}{rk:Az->Int}
structure Stg(rk:Az->Int)(kd:Fg)(a₀:Array Az)(st:Bz)(e:Nat):Prop where
 kind:kindOf st=kd
 fail:failedOf st=none
 perm:(arrOf st).Perm a₀
 stk:Stk rk (arrOf st) (pendingOf st).toList 0 e
 le:e<=a₀.size
theorem zdv(C:Ranks prog w A E s kd S rk){a₀:Array Az}{st:Bz}{i e:Nat}{Q:Bool->Bz->Prop}(hS:∀x∈a₀.toList,S x)(g:Stg rk kd a₀ st e)(hi:i+1<(pendingOf st).size)
  (q:∀st',Stg rk kd a₀ st' e->(pendingOf st').size+1=(pendingOf st).size->(∀j,e<=j->(arrOf st')[j]?=(arrOf st)[j]?)->Q true st'):wpS (model prog w) A E s (mergeAt' i) Q st:=by
 obtain⟨pre,⟨sa,na,p1⟩,⟨sb,nb,p2⟩,post,hp,rfl⟩:=two_at (l:=(pendingOf st).toList) (i:=i) (by rw[As];exact hi);have hs:=g.stk;rw[hp] at hs;obtain⟨b,s1,e1,n1,u1,e2,n2,u2,s2⟩:=hs.split;dsimp only at e1 n1 u1 e2 n2 u2 s2;subst e1 e2;have sz:=g.perm.size_eq;have l2:=s2.le;have le:=g.le;refine mergeAt_ok C (zci g.perm hS) g.kind g.fail hp n1 n2 (by omega) u1 u2 fun st' m=>?_;refine q st' ⟨m.kind.trans g.kind,m.fail.trans g.fail,m.perm.trans g.perm,?_,g.le⟩ ?_ fun j hj=>m.out j (.inr (by omega))
 ·rw[m.pend];refine Stk.join (b:=sa) (s1.congr fun i b1 b2=>za6 (m.out i (.inl b2))) ⟨rfl,by show 0<na+nb;omega,?_,?_⟩
  ·have:=m.up;show Up2 rk _ sa (sa+(na+nb));rwa[<-F9]
  ·show Stk rk _ post (sa+(na+nb)) e;rw[<-F9];exact s2.congr fun i b1 b2=>za6 (m.out i (.inr b1))
 ·rw[<-As,<-As,m.pend,hp,Ag,Ag,Av,Av,Av];omega
theorem zdo(C:Ranks prog w A E s kd S rk){st:Bz}{Q:Unit->Bz->Prop}(hS:∀x∈(arrOf st).toList,S x)(hk:kindOf st=kd)(hf:failedOf st=none)(hp:pendingOf st=#[])(h2:2<=(arrOf st).size)
  (q:∀st',(arrOf st').Perm (arrOf st)->failedOf st'=none->Up2 rk (arrOf st') 0 (arrOf st).size->Q () st'):wpS (model prog w) A E s sortRuns' Q st:=by
 rw[sortRuns'_eq];refine Ak (Hm ?_);dsimp only;obtain⟨a₀,ha⟩:∃a,a=arrOf st:=⟨_,rfl⟩;have g0:Stg rk kd a₀ st 0:=⟨hk,hf,ha▸Gf _,by rw[hp];exact rfl,Bs _⟩;rw[<-ha] at hS h2⊢;rw[<-ha] at q;refine Ak (E6 (D3 (I:=fun x c st'=>∃lo,c=(none,lo)/\Stg rk kd a₀ st' lo/\(x<=lo\/lo=a₀.size)) (Q:=fun c st'=>∃lo,c=(none,lo)/\Stg rk kd a₀ st' lo/\lo=a₀.size) ?step ?fin ⟨0,rfl,g0,.inl (Bs _)⟩) ?post)
 case fin=>
  rintro c st'⟨lo,rfl,g,h⟩;have:=g.le;exact⟨lo,rfl,g,by omega⟩
 case step=>
  rintro x c st1 _ hx⟨lo,rfl,g,hlo⟩;dsimp only;have gle:=g.le;refine zao (fun e=>Aq ⟨lo,rfl,g,by omega⟩) (fun e=>?_);have sz:=g.perm.size_eq;refine Ak (countRun_ok C (zci g.perm hS) g.kind (by omega) (by omega) fun n st2 c2 n1 n2 u2=>?_);have keep:∀{st2:Bz},Chg lo a₀.size st1 st2->Stg rk kd a₀ st2 lo:=fun c2=>⟨c2.kind.trans g.kind,c2.fail.trans g.fail,c2.perm.trans g.perm,by rw[c2.pend];exact g.stk.congr fun i b1 b2=>za6 (c2.out i (.inl b2)),g.le⟩;have c2':Chg lo a₀.size st1 st2:=c2.wide (Ab _) (by omega);have g2:=keep c2';have sz2:=g2.perm.size_eq;dsimp only;refine zao (fun hm=>Ak (J9 (G6 ⟨rfl,Ak (binSort_ok C (zci g2.perm hS) g2.kind (by omega) (by omega) u2 fun st3 c3 u3=>?_)⟩))) (fun hm=>?_);simp only[Ei,Bo,if_false];have g3:=keep (c2'.trans (c3.wide (Ab _) (by omega)));generalize hn3:min (a₀.size-lo) (minRun' a₀.size a₀.size 0)=n3 at u3⊢;have n31:1<=n3:=by omega
  have n32:lo+n3<=a₀.size:=by omega
  rotate_left
  have g3:=g2;have u3:=u2;have n31:=n1;have n32:lo+n<=a₀.size:=by omega
  clear c2 c2' u2 g2 n2 n1 hm sz2;generalize st2=st3 at g3 u3⊢;generalize n=n3 at u3 n31 n32⊢
  all_goals
   have push:∀{st4:Bz},Stg rk kd a₀ st4 lo->Up2 rk (arrOf st4) lo (lo+n3)->Stg rk kd a₀ (setPending st4 ((pendingOf st4).push (lo,n3,0))) (lo+n3):=fun{st4}g4 u4=>⟨g4.kind,g4.fail,g4.perm,by
    show Stk rk (arrOf st4) ((pendingOf st4).push (lo,n3,0)).toList 0 (lo+n3);rw[Ce];exact g4.stk.join ⟨rfl,n31,u4,rfl⟩,n32⟩
   refine Ak (Hm ?_)
   cases hb:(pendingOf st3).back? with
   |none=>exact Ak (Kq (Aq ⟨lo+n3,rfl,push g3 u3,by omega⟩))
   |some t=>
    obtain⟨s1,n1',pp⟩:=t;dsimp only;refine Ak (E6 (D3 (I:=fun _ c st'=>c=(none,())/\Stg rk kd a₀ st' lo/\Up2 rk (arrOf st') lo (lo+n3)) (Q:=fun c st'=>c=(none,())/\Stg rk kd a₀ st' lo/\Up2 rk (arrOf st') lo (lo+n3)) ?_ (fun _ _ h=>h) ⟨rfl,g3,u3⟩) ?_)
    ·rintro y c st4 _ _⟨rfl,g4,u4⟩;refine Ak (Hm ?_);by_cases hps:(pendingOf st4).size>1
     ·rw[if_pos hps]
      cases hq:(pendingOf st4)[(pendingOf st4).size-2]? with
      |none=>exact Aq ⟨rfl,g4,u4⟩
      |some t=>
       obtain⟨t1,t2,older⟩:=t;dsimp only;refine zao (fun _=>Aq ⟨rfl,g4,u4⟩) (fun _=>Ak (zdv C hS g4 (by omega) fun st5 g5 _ o5=>?_));simp only[Ei,Bo,if_false];refine Aq ⟨rfl,g5,fun i j b1 b2 b3=>?_⟩;rw[za6 (o5 i b1),za6 (o5 j (by omega))];exact u4 i j b1 b2 b3
     ·rw[if_neg hps];exact Aq ⟨rfl,g4,u4⟩
    ·rintro c st4⟨rfl,g4,u4⟩;dsimp only;refine Ak (zcP fun st5 k5 a5 q5 f5=>Ak (Kq (Aq ⟨lo+n3,rfl,push (st4:=st5) ?_ ?_,by omega⟩)))
     ·refine⟨k5.trans g4.kind,f5.trans g4.fail,by rw[a5];exact g4.perm,?_,g4.le⟩;rw[a5,q5];show Stk rk (arrOf st4) ((pendingOf st4).modify _ _).toList 0 lo;rw[Array.toList_modify];refine Stk.mod ?_ g4.stk;exact fun x=>⟨rfl,rfl⟩
     ·rw[a5];exact u4
 case post=>
  rintro c st1⟨lo,rfl,g,rfl⟩;dsimp only;have l1:=g.stk.le;rw[As] at l1;refine Ak (E6 (D3 (I:=fun x c st'=>c=(none,())/\Stg rk kd a₀ st' a₀.size/\((pendingOf st').size<=1\/(pendingOf st').size+x<=a₀.size)) (Q:=fun c st'=>c=(none,())/\Stg rk kd a₀ st' a₀.size/\(pendingOf st').size<=1) ?_ ?_ ⟨rfl,g,.inr (by omega)⟩) ?_)
  ·rintro x c st2 _ hx⟨rfl,g2,hp2⟩;refine Ak (Hm ?_);refine zao (fun e=>Aq ⟨rfl,g2,e⟩) (fun e=>?_);refine Ak (zdv C hS g2 ?_ fun st5 g5 z5 o5=>?_)
   ·by_cases hb:Option.any (fun x=>decide (x<Option.elim (pendingOf st2)[(pendingOf st2).size-2+1]? 0 fun x=>x.2.1)) (if(pendingOf st2).size-2>0 then Pm (fun x=>x.2.1) (pendingOf st2)[(pendingOf st2).size-2-1]? else none)=true
    ·rw[if_pos hb];omega
    ·rw[if_neg hb];omega
   ·simp only[Ei,Bo,if_false];exact Aq ⟨rfl,g5,by omega⟩
  ·rintro c st2⟨rfl,g2,hp2⟩;exact⟨rfl,g2,by omega⟩
  ·rintro c st2⟨rfl,g2,hp2⟩;refine Aq (q st2 g2.perm g2.fail ?_);have hs:=g2.stk;have hl:(pendingOf st2).toList.length<=1:=by rw[As];exact hp2
   match hm:(pendingOf st2).toList,hs,hl with
   |[],hs,_=>have hs:0=a₀.size:=hs;omega
   |[x],⟨b1,b2,b3,b4⟩,_=>
    have b4:0+x.2.1=a₀.size:=b4;rwa[b4] at b3
end
end L2
namespace L2
open PySem PySem.Spec PyProof.Rows PySem.W
noncomputable def rkI:Az->Int:=fun k=>numOf k.1
section
variable{prog:Ap}{w:Bd}{A:B5}{E:A2->A5->Prop}{s:A5}
theorem ranks_int:Ranks prog w A E s oneType' (fun k=>∃n t,k.1= .int n t) rkI:=⟨fun{x y st Q}hx hy hk q=>by
 obtain⟨x1,x2⟩:=x;obtain⟨y1,y2⟩:=y;obtain⟨n,t,e⟩:=hx;obtain⟨m,u,e2⟩:=hy;dsimp only at e e2;subst e e2;rw[lt'_eq];refine Ak (Hm ?_);rw[hk,Rp];exact Ak (J9 (Fx (oneLt_int ⟨rfl,Aq q⟩)))⟩
theorem sortI{a:A3}{vs:List A2}{ns:List Int}{n:Nat}{P:O7->A5->Prop}(ho:s.heap.get? a=some (seqObj "list" vs.toArray n))(hI:Ds vs ns)(hb:vs.length<=sizeLine)
  (q:∀(out:Array A2)(ns':List Int),Ds out.toList ns'->ns'.Perm ns->ns'.Pairwise (· <= ·)->P (.done (.ret .none)) {s with heap:=sortedHeap s.heap a vs out}):
  wpAny (model prog w) A (Fp.«list.sort» ⟨[.ref a],[]⟩) P E s:=by
 have fin:∀st':Bz,(arrOf st').Perm (pairsOf vs)->Up2 rkI (arrOf st') 0 (pairsOf vs).size->P (.done (.ret .none)) {s with heap:=sortedHeap s.heap a vs ((arrOf st').map (·.2))}:=fun st' hp hs=>by
  obtain⟨ns',b1,b2,b3⟩:=sorted_out hI hp (fun i j hij hj=>hs i j (Bs _) hij hj);exact q _ ns' b1 b2 b3
 rw[Qh];have hlt:=An ho;obtain⟨e1,o1⟩:∃e,(s.heap.update a (Ej fun _=>(#[]:Array A2))).get? a=some (seqObj "list" #[] e):=⟨_,Qj ho fun _=>#[]⟩;have hz:vs.toArray.size=vs.length:=Bg;refine A1 (O1 ho rfl (A1 (Gv ho rfl (A1 (Ik o1 rfl (A1 (Rm (A1 (Iu (Cs ?_) (Bs _))) (by show vs.length<=_;omega))))) (by rw[hz];omega) (Bs _))));have o6:(((s.heap.update a (Ej fun _=>(#[]:Array A2))).push (seqObj "tuple" vs.toArray 0)).push (seqObj "list" #[] 0)).get? a=some (seqObj "list" #[] e1):=A8 _ (A8 _ o1);show wpAny (model prog w) A _ P E {s with heap:=((s.heap.update a (Ej fun _=>(#[]:Array A2))).push (seqObj "tuple" vs.toArray 0)).push (seqObj "list" #[] 0)};dsimp only;by_cases h2:vs.toArray.size<2
 ·rw[if_pos h2,if_pos h2];refine A1 (Ae ?_);rw[O4];refine A1 (Ae ?_);dsimp only;refine A1 (Ik o6 rfl (A1 (Gv o6 rfl ?_ (Bs _) (by rw[Jf];show(pairsOf vs).size<=_;rw[Fo];omega))));simp only[bne_self_eq_false,Bo,if_false];refine Ae (fin (Kx general' (vs.toArray.zip vs.toArray) #[] 7 none) (Gf _) fun i j _ hij hj=>?_);rw[Fo] at hj;rw[show i=j by omega];exact Dg _
 ·rw[if_neg h2,if_neg h2];have hkk:keyKind' vs.toArray=pure oneType':=by
   match vs,hI,h2 with
   |[],_,h2=>simp at h2
   |[_],_,h2=>simp at h2
   |v₁::v₂::r,hI,_=>exact keyKind_ints hI
  rw[hkk];refine A1 (Ae ?_);refine A1 (Ct (zdo (ranks_int (E:=E)) (st:=Kx oneType' (vs.toArray.zip vs.toArray) #[] 7 none) (Q:=fun _ st'=>(arrOf st').Perm (pairsOf vs)/\failedOf st'=none/\Up2 rkI (arrOf st') 0 (pairsOf vs).size) hI.intKeys rfl rfl rfl (by show 2<=(pairsOf vs).size;rw[Fo];omega) fun st' c1 c2 c3=>⟨c1,c2,c3⟩) ?_ fun _ _ e=>e);rintro⟨⟨⟩,st'⟩s'⟨rfl,hp,hf,hs⟩;dsimp only;refine A1 (Ik o6 rfl (A1 (Gv o6 rfl ?_ (Bs _) (by rw[Jf,hp.size_eq,Fo];omega))));rw[hf];simp only[bne_self_eq_false,Bo,if_false];exact Ae (fin st' hp hs)
end
theorem zea:∀{l:List A2}{ns:List Int},l.length=ns.length->(∀(j:Nat)(v:A2)(x:Int),l[j]?=some v->ns[j]?=some x->∃t,v= .int x t)->Ds l ns
 |[],[],_,_=>.nil
 |v::l,x::ns,hl,h=>by
  obtain⟨t,rfl⟩:=h 0 v x rfl rfl;exact .cons _ _ (zea (by simpa using hl) fun j u y e1 e2=>h (j+1) u y (by simpa using e1) (by simpa using e2))
section
variable{X:Cx}
theorem call_sortedDI(hc:X.calm=true):CallR X (.builtin "sorted") (fun xs H Q=>∃(a:A3)(kvs:List (Key×V))(ns:List Int),xs=[V.ref a]/\Rd H a (.dK kvs)/\kvs.map (·.1)=ns.map Dm/\ns.length<=4096/\
  ∀p(ns':List Int),H p=none->ns'.Perm ns->ns'.Pairwise (· <= ·)->Q (.ref p) (upd H p (.lst (ns'.map V.int)))):=by
 intro pins s σ H xs us Q I r h;obtain⟨a,kvs,ns,rfl,hq,hk,hb,q⟩:=h;obtain⟨u,rfl,ru⟩:=zb2 r
 cases ru
 obtain⟨hz,lo,vs,kv,hD⟩:=(show ObjOk X.prog X.w H s.heap a (.dK kvs) from hq.ok I.hok);obtain⟨ep,hat⟩:=hD.dictAt;have hlen:vs.length=ns.length:=by
  have e1:=kv.length;have e2:=congrArg Ev hk;rw[A4,A4] at e2;omega
 have big:(4096:Nat)<=sizeLine:=by decide
 refine Fm Ot O0 O2 (O3 _) ?_;unfold Fp.«sorted»;refine A1 (m:=checkCount "sorted" 1 1 _) (Ae ?_);refine A1 (Jb (A:=X.A.in1) (Ng (knd:=mixKind X.prog X.w) (kvs:=vs) (ep:=ep) lo) (I.ok.hd hc) hat (by omega) fun h' tk acc hkeep hacc=>?_);have hl:acc.toList.length=vs.length:=by rw[As];exact hacc.1
 have hS:Ds acc.toList ns:=by
  refine zea (by omega) fun j v x e1 e2=>?_;obtain⟨k,y,e3,hk2⟩:=hacc.2 j v (by rw[<-Cf];exact e1);obtain⟨v',e4,_⟩:=kv.get e3;have e5:(kvs.map (·.1))[j]?=some k:=by rw[Ad,e4];rfl
  rw[hk,Ad,e2] at e5;have e6:Dm x=k:=Bw e5;subst e6;rcases zaD (show keyIs (Dm x) v=true from hk2) with⟨i,t,e,e7⟩|⟨y,t,e,e7⟩
  ·cases e;exact⟨t,e7⟩
  ·cases e
 refine A1 (Iu ?_ (by rw[hl];omega));have hoL:(h'.push (seqObj "list" acc.toList.toArray 0)).get? h'.objs.size=some (seqObj "list" acc.toList.toArray 0):=Aw _ rfl;refine A1 (Cs (Di Mo ⟨_,hoL,rfl⟩ M4 (sortI hoL hS (by omega) fun out ns' a1 a2 a3=>⟨_,rfl,?_⟩) (Mq _)));refine Ae ⟨_,rfl,?_⟩;obtain⟨e,he⟩:=Na (out:=out) hoL;have I1:Inv X pins σ H {s with heap:=h',toks:=tk}:=I.kept hkeep;have I2:=Inv.laid (o:=.lst (ns'.map V.int)) (a:=h'.objs.size) (h':=sortedHeap (h'.push (seqObj "list" acc.toList.toArray 0)) h'.objs.size acc.toList out) (t':=tk) I1 (fun b o hb=>by
  have lt:=An hb;rw[Mm (B8 lt) (by rw[Eb];exact Eg lt)];exact A8 _ hb) (Ab _) (show ObjOk X.prog X.w _ _ _ (.lst (ns'.map V.int)) from⟨by rw[A4,a2.length_eq];omega,_,e,zcC a1,by rw[N3];exact he⟩)
 exact⟨.ref h'.objs.size,_,I2,rfl,q _ ns' (I1.hok.fresh (Ab _)) a2 a3⟩
end
end L2
namespace L2
open PySem PySem.Spec PyProof.Rows
noncomputable def behN(C:Combs)(l:List Nat):List Nat:=(Af 128).filter fun s=>l.any fun t=>(stp C t).any fun p=>decide (p.2.toNat=s)
noncomputable def rowN(C:Combs):Nat->List Nat
 |0=>[0]
 |k+1=>behN C (rowN C k)
theorem beh_mem{C:Combs}{l:List Nat}{s:Nat}:s∈behN C l↔s<128/\∃t∈l,∃p∈stp C t,p.2.toNat=s:=by
 unfold behN;rw[Bc,Be];constructor
 ·rintro⟨h,e⟩;obtain⟨t,ht,e⟩:=Bp.mp e;obtain⟨p,hp,e⟩:=Bp.mp e;exact⟨h,t,ht,p,hp,of_decide_eq_true e⟩
 ·rintro⟨h,t,ht,p,hp,e⟩;exact⟨h,Bp.mpr ⟨t,ht,Bp.mpr ⟨p,hp,decide_eq_true e⟩⟩⟩
theorem zhl(C:Combs)(l:List Nat):(behN C l).Pairwise (· < ·):=Bj Cw D7
theorem zfB(C:Combs)(l:List Nat):(behN C l).length<=128:=by
 have:=Cp (fun s=>l.any fun t=>(stp C t).any fun p=>decide (p.2.toNat=s)) (Af 128);rwa[Ax] at this
theorem zfl(C:Combs):∀k,(∀s∈rowN C k,s<128)/\(rowN C k).length<=128
 |0=>⟨fun s h=>by rw[show rowN C 0=[0] from rfl,A6] at h;omega,by show 1<=128;decide⟩
 |k+1=>⟨fun s h=>(beh_mem.mp h).1,zfB C _⟩
theorem beh_keys{C:Combs}(g:GC C){l:List Nat}(hl:∀t∈l,t<128){rs:List Int}(nd:rs.Nodup)(hm:∀n,n∈rs↔∃t∈l,∃p∈stp C t,p.2=n):rs.Perm ((behN C l).map fun s=>((s:Nat):Int)):=by
 refine(D5 nd ?_).mpr fun n=>?_
 ·refine zaR ?_;rw[Bl];exact(zhl C l).imp fun h=>by omega
 ·rw[hm,A7];constructor
  ·rintro⟨t,ht,p,hp,rfl⟩;have:=zc0 g (hl t ht) hp;exact⟨p.2.toNat,beh_mem.mpr ⟨this.2,t,ht,p,hp,rfl⟩,by omega⟩
  ·rintro⟨s,hs,rfl⟩;obtain⟨h1,t,ht,p,hp,e⟩:=beh_mem.mp hs;have:=zc0 g (hl t ht) hp;exact⟨t,ht,p,hp,by omega⟩
theorem beh_sorted(C:Combs)(l:List Nat):((behN C l).map fun s=>((s:Nat):Int)).Pairwise (· <= ·):=by
 rw[Bl];exact(zhl C l).imp fun h=>by omega
theorem zeK{κ:Type}[DecidableEq κ](kvs:List (κ×V))(k:κ)(v:V):(putK kvs k v).map (·.1)=if k∈kvs.map (·.1) then kvs.map (·.1) else kvs.map (·.1)++[k]:=by
 unfold putK;by_cases h:(kvs.any fun kv=>decide (kv.1=k))=true
 ·rw[if_pos h,if_pos (valV_mem.mp (by rw[<-zbq];exact h)),Bb];refine Cg fun kv _=>?_;show(if kv.1=k then(kv.1,v) else kv).1=kv.1
  split<;>rfl
 ·rw[if_neg h,if_neg (fun z=>h (by rw[zbq];exact valV_mem.mpr z)),B7];rfl
noncomputable def GrL(H:Hp)(kvs:List (List Key×V))(ks:Combs)(L:List Nat):Prop:=C5 (fun(s:Nat)(kv:List Key×V)=>kv.1=akey s/\∃q vs,kv.2= .ref q/\H q=some (.lst vs)/\GoesR H vs (goesOf ks (aheadOf (s:Int)))) L kvs
theorem GrL.mono{H H':Hp}{kvs:List (List Key×V)}{ks:Combs}{L:List Nat}(r:GrL H kvs ks L)(m:∀kv∈kvs,∀q vs,kv.2= .ref q->H q=some (.lst vs)->H' q=some (.lst vs))(mt:∀q xs,H q=some (.tup xs)->H' q=some (.tup xs)):GrL H' kvs ks L:=by
 induction r with
 |nil=>exact .nil
 |cons h _ ih=>
  obtain⟨a,q,vs,b,c,d⟩:=h;exact .cons ⟨a,q,vs,b,m _ Aj q vs b c,d.mono mt⟩ (ih fun kv hkv=>m kv (Ac _ hkv))
theorem GrL.same{H H':Hp}{kvs:List (List Key×V)}{ks:Combs}{L:List Nat}(r:GrL H kvs ks L)(s:Same H H'):GrL H' kvs ks L:=r.mono (fun _ _ _ _ _ e=>s _ _ e) fun _ _ e=>s _ _ e
theorem GrL.len{H:Hp}{kvs:List (List Key×V)}{ks:Combs}{L:List Nat}(r:GrL H kvs ks L):kvs.length=L.length:=(Cr r).symm
theorem GrL.keys{H:Hp}{kvs:List (List Key×V)}{ks:Combs}{L:List Nat}(r:GrL H kvs ks L):kvs.map (·.1)=L.map akey:=by
 induction r with
 |nil=>rfl
 |cons h _ ih=>rw[At,At,ih,h.1]
theorem akeys_nd{L:List Nat}(nd:L.Nodup)(lt:∀s∈L,s<128):(L.map akey).Nodup:=by
 rw[E9,Bl];rw[E9] at nd;exact Fd (fun{a b}ha hb hab e=>hab (zdk (lt a ha) (lt b hb) e)) nd
theorem GrL.val{H:Hp}{kvs:List (List Key×V)}{ks:Combs}{L:List Nat}(r:GrL H kvs ks L)(nd:L.Nodup)(lt:∀s∈L,s<128){s:Nat}(hs:s∈L):∃q vs,valV kvs (akey s)=some (.ref q)/\H q=some (.lst vs)/\GoesR H vs (goesOf ks (aheadOf (s:Int))):=by
 obtain⟨i,hi,rfl⟩:=Em hs;obtain⟨kv,e1,e2,q,vs,e3,e4,e5⟩:=C5.at r (A9 hi);refine⟨q,vs,?_,e4,e5⟩;rw[<-e3];exact zfk (by rw[r.keys];exact akeys_nd nd lt) (by rw[e1,<-e2])
theorem GrL.has{H:Hp}{kvs:List (List Key×V)}{ks:Combs}{L:List Nat}(r:GrL H kvs ks L)(lt:∀s∈L,s<128){s:Nat}(hs:s<128):(valV kvs (akey s)).isSome=decide (s∈L):=by
 rw[Ay,valV_mem,r.keys,decide_eq_true_eq,A7];exact⟨fun⟨j,hj,e⟩=>zdk (lt j hj) hs e▸hj,fun h=>⟨s,h,rfl⟩⟩
theorem GrL.snoc{H:Hp}{kvs:List (List Key×V)}{ks:Combs}{L:List Nat}{s:Nat}{q:A3}{vs:List V}(r:GrL H kvs ks L)(h1:H q=some (.lst vs))(h2:GoesR H vs (goesOf ks (aheadOf (s:Int)))):GrL H (kvs++[(akey s,.ref q)]) ks (L++[s]):=Es r ⟨rfl,q,vs,rfl,h1,h2⟩
noncomputable def ClsS(C:Combs)(L:List Nat):Prop:=(∀s∈L,s<128)/\∀s∈L,∀p∈stp C s,p.2.toNat∈L
theorem akeysL_kI(L:List Nat):L.map akey=(L.map fun(s:Nat)=>aheadOf (s:Int)).map kI:=by rw[Bb];rfl
noncomputable def ov(al:Nat->Nat->Bool)(i p:Nat):Nat:=if p<i then 1 else ind (al i (p-i))
section
variable{al ta:Nat->Nat->Bool}
noncomputable def cn(nm:Nat->Str)(i:Nat):Nat:=(laid nm i).length
end
theorem laid_up(nm:Nat->Str)(n:Nat):(laid nm n).Pairwise (· < ·):=Bj Cw D7
theorem zgX{n j:Nat}(f:Nat->V)(v:V)(h:j<n):((Af n).map f).set j v=(Af n).map fun p=>if p=j then v else f p:=by
 refine Fc fun i=>?_;rw[List.getElem?_set,Ad,A4,Ax];by_cases e:j=i
 ·subst e;rw[if_pos rfl,if_pos h,Ad,C6 h,Cj,if_pos rfl]
 ·rw[if_neg e,Ad];by_cases hi:i<n
  ·rw[C6 hi,Cj,Cj,if_neg (fun z=>e z.symm)]
  ·rw[C4 (by rw[Ax];omega)];rfl
theorem count_teeth{ts:List Int}(nd:ts.Nodup)(h0:∀t∈ts,0<=t)(i p:Nat):(ts.map fun t=>i+t.toNat).count p=if i<=p then ind (decide (((p-i:Nat):Int)∈ts)) else 0:=by
 have nd2:(ts.map fun t=>i+t.toNat).Nodup:=by
  rw[E9,Bl];rw[E9] at nd;refine Fd (fun{a b}ha hb hab e=>hab ?_) nd;have:=h0 a ha;have:=h0 b hb;omega
 have hm:p∈(ts.map fun t=>i+t.toNat)↔i<=p/\((p-i:Nat):Int)∈ts:=by
  rw[A7];constructor
  ·rintro⟨t,ht,rfl⟩;have:=h0 t ht;exact⟨by omega,by rw[show((i+t.toNat-i:Nat):Int)=t by omega];exact ht⟩
  ·rintro⟨h,ht⟩;exact⟨_,ht,by omega⟩
 rw[nd2.count];by_cases h:i<=p
 ·rw[if_pos h];by_cases h2:((p-i:Nat):Int)∈ts
  ·rw[if_pos (hm.mpr ⟨h,h2⟩),decide_eq_true h2];rfl
  ·rw[if_neg (fun z=>h2 (hm.mp z).2),decide_eq_false h2];rfl
 ·rw[if_neg h,if_neg (fun z=>h (hm.mp z).1)]
end L2
namespace L2
open PySem PySem.Spec PyProof.Rows PySem.W
noncomputable def lexR:Nat->List Int->Nat
 |0,_=>0
 |_+1,[]=>0
 |n+1,x::xs=>(x.toNat+1)*9 ^ n+lexR n xs
noncomputable def Smalls(ns:List Int):Prop:=ns.length<=8/\∀x∈ns,0<=x/\x<=7
theorem zfs:∀(n:Nat)(l:List Int),(∀x∈l,0<=x/\x<=7)->lexR n l<9 ^ n
 |0,_,_=>P1
 |n+1,[],_=>Ni (by decide)
 |n+1,x::l,h=>by
  have i:=zfs n l fun y hy=>h y (Ac _ hy);have hx:=h x Aj;show(x.toNat+1)*9 ^ n+lexR n l<9 ^ (n+1);rw[Q5];have:(x.toNat+1)*9 ^ n<=8*9 ^ n:=Fk _ (by omega);omega
theorem zen:∀(n:Nat)(a b:List Int),a.length<=n->b.length<=n->(∀x∈a,0<=x/\x<=7)->(∀x∈b,0<=x/\x<=7)->(lexR n a<lexR n b↔HT.lexLt a b=true)/\(lexR n a=lexR n b->a=b)
 |0,[],[],_,_,_,_=>⟨by rw[HT.lexLt_nil_nil];simp[lexR],fun _=>rfl⟩
 |0,_::_,_,h,_,_,_=>absurd h (by simp)
 |0,_,_::_,_,h,_,_=>absurd h (by simp)
 |n+1,[],[],_,_,_,_=>⟨by rw[HT.lexLt_nil_nil];simp[lexR],fun _=>rfl⟩
 |n+1,[],y::b,_,_,_,_=>by
  have p:0<9 ^ n:=Ni (by decide);have:0<(y.toNat+1)*9 ^ n:=Rf (by omega) p;rw[HT.lexLt_nil_cons];refine⟨?_,?_⟩
  ·show 0<(y.toNat+1)*9 ^ n+lexR n b↔_;exact⟨fun _=>rfl,fun _=>by omega⟩
  ·show 0=(y.toNat+1)*9 ^ n+lexR n b->_;intro h;omega
 |n+1,x::a,[],_,_,_,_=>by
  have p:0<9 ^ n:=Ni (by decide);have:0<(x.toNat+1)*9 ^ n:=Rf (by omega) p;rw[HT.lexLt_cons_nil];refine⟨?_,?_⟩
  ·show(x.toNat+1)*9 ^ n+lexR n a<0↔_;exact⟨fun h=>by omega,fun h=>by cases h⟩
  ·show(x.toNat+1)*9 ^ n+lexR n a=0->_;intro h;omega
 |n+1,x::a,y::b,ha,hb,sa,sb=>by
  have i:=zen n a b (by simpa using ha) (by simpa using hb) (fun z hz=>sa z (Ac _ hz)) (fun z hz=>sb z (Ac _ hz));have la:=zfs n a fun z hz=>sa z (Ac _ hz);have lb:=zfs n b fun z hz=>sb z (Ac _ hz);have hx:=sa x Aj;have hy:=sb y Aj;rw[HT.lexLt_cons];show((x.toNat+1)*9 ^ n+lexR n a<(y.toNat+1)*9 ^ n+lexR n b↔_)/\((x.toNat+1)*9 ^ n+lexR n a=(y.toNat+1)*9 ^ n+lexR n b->_);rcases Int.lt_trichotomy x y with h|h|h
  ·have:(x.toNat+1+1)*9 ^ n<=(y.toNat+1)*9 ^ n:=Fk _ (by omega);rw[Rh (x.toNat+1) 1] at this;rw[if_neg (by omega),decide_eq_true h];exact⟨⟨fun _=>rfl,fun _=>by omega⟩,fun z=>by omega⟩
  ·subst h;rw[if_pos rfl];refine⟨⟨fun z=>i.1.mp (by omega),fun z=>?_⟩,fun z=>?_⟩
   ·have:=i.1.mpr z;omega
   ·rw[i.2 (by omega)]
  ·have:(y.toNat+1+1)*9 ^ n<=(x.toNat+1)*9 ^ n:=Fk _ (by omega);rw[Rh (y.toNat+1) 1] at this;rw[if_neg (by omega),decide_eq_false (by omega)];exact⟨⟨fun z=>by omega,fun z=>by cases z⟩,fun z=>by omega⟩
section
variable{prog:Ap}{w:Bd}{A:B5}{E:A2->A5->Prop}{s:A5}
theorem sortR{a:A3}{vs:List A2}{n:Nat}{P:O7->A5->Prop}(rk:Az->Int)(S:Az->Prop)(ho:s.heap.get? a=some (seqObj "list" vs.toArray n))(hS:∀v∈vs,S (v,v))(hb:vs.length<=sizeLine)
  (hk:2<=vs.length->∀h':Bx,(∀b o,b≠a->s.heap.get? b=some o->h'.get? b=some o)->∃kd:Fg,(∀Q:Fg->A5->Prop,Q kd {s with heap:=h'}->wpAny (model prog w) A (keyKind' vs.toArray) Q E {s with heap:=h'})/\Ranks prog w A E {s with heap:=h'} kd S rk)
  (q:∀out:List A2,out.Perm vs->out.Pairwise (fun x y=>rk (x,x)<=rk (y,y))->P (.done (.ret .none)) {s with heap:=sortedHeap s.heap a vs out.toArray}):
  wpAny (model prog w) A (Fp.«list.sort» ⟨[.ref a],[]⟩) P E s:=by
 have hpl:(pairsOf vs).toList=vs.map fun v=>(v,v):=by
  unfold pairsOf;rw[Array.toList_zip];simp[List.zip_eq_zipWith,List.zipWith_self]
 have fin:∀st':Bz,(arrOf st').Perm (pairsOf vs)->Up2 rk (arrOf st') 0 (pairsOf vs).size->P (.done (.ret .none)) {s with heap:=sortedHeap s.heap a vs ((arrOf st').map (·.2))}:=fun st' hp hs=>by
  have hp':(arrOf st').toList.Perm (vs.map fun v=>(v,v)):=by rw[<-hpl];exact Hb.mp hp
  have hx:∀x∈(arrOf st').toList,x=(x.2,x.2):=fun x hx=>by
   obtain⟨v,_,rfl⟩:=A7.mp (hp'.mem_iff.mp hx);rfl
  have e:(arrOf st').map (·.2)=((arrOf st').toList.map (·.2)).toArray:=by
   refine Of.mp ?_;rw[Array.toList_map]
  rw[e];refine q _ ?_ ?_
  ·have:=hp'.map (·.2);rw[Bb] at this;have e2:vs.map ((fun x:Az=>x.2)∘fun v=>(v,v))=vs:=by
    conv=>rhs;rw[<-Gk vs]
    rfl
   rw[e2] at this;exact this
  ·rw[Bl,D8];intro i j hi hj hij;have hz:(arrOf st').size=(pairsOf vs).size:=hp.size_eq;rw[As] at hi hj;have:=hs i j (Bs _) (by omega) (by omega);rw[za2 hi,za2 hj] at this;have e1:=hx _ (Cu (l:=(arrOf st').toList) (n:=i) (by rw[As];exact hi));have e2:=hx _ (Cu (l:=(arrOf st').toList) (n:=j) (by rw[As];exact hj));rw[<-e1,<-e2];simpa using this
 rw[Qh];have hlt:=An ho;obtain⟨e1,o1⟩:∃e,(s.heap.update a (Ej fun _=>(#[]:Array A2))).get? a=some (seqObj "list" #[] e):=⟨_,Qj ho fun _=>#[]⟩;have hz:vs.toArray.size=vs.length:=Bg;refine A1 (O1 ho rfl (A1 (Gv ho rfl (A1 (Ik o1 rfl (A1 (Rm (A1 (Iu (Cs ?_) (Bs _))) (by show vs.length<=_;omega))))) (by rw[hz];omega) (Bs _))));have o6:(((s.heap.update a (Ej fun _=>(#[]:Array A2))).push (seqObj "tuple" vs.toArray 0)).push (seqObj "list" #[] 0)).get? a=some (seqObj "list" #[] e1):=A8 _ (A8 _ o1);have keep:∀b o,b≠a->s.heap.get? b=some o->(((s.heap.update a (Ej fun _=>(#[]:Array A2))).push (seqObj "tuple" vs.toArray 0)).push (seqObj "list" #[] 0)).get? b=some o:=fun b o hb e=>
  A8 _ (A8 _ (by rw[Heap.get?_update_ne _ _ _ _ hb];exact e))
 show wpAny (model prog w) A _ P E {s with heap:=((s.heap.update a (Ej fun _=>(#[]:Array A2))).push (seqObj "tuple" vs.toArray 0)).push (seqObj "list" #[] 0)};dsimp only;by_cases h2:vs.toArray.size<2
 ·rw[if_pos h2,if_pos h2];refine A1 (Ae ?_);rw[O4];refine A1 (Ae ?_);dsimp only;refine A1 (Ik o6 rfl (A1 (Gv o6 rfl ?_ (Bs _) (by rw[Jf];show(pairsOf vs).size<=_;rw[Fo];omega))));simp only[bne_self_eq_false,Bo,if_false];refine Ae (fin (Kx general' (vs.toArray.zip vs.toArray) #[] 7 none) (Gf _) fun i j _ hij hj=>?_);rw[Fo] at hj;rw[show i=j by omega];exact Dg _
 ·rw[if_neg h2,if_neg h2];obtain⟨kd,hkk,hrk⟩:=hk (by omega) _ keep;refine A1 (hkk _ ?_);refine A1 (Ct (zdo hrk (st:=Kx kd (vs.toArray.zip vs.toArray) #[] 7 none) (Q:=fun _ st'=>(arrOf st').Perm (pairsOf vs)/\failedOf st'=none/\Up2 rk (arrOf st') 0 (pairsOf vs).size) ?_ rfl rfl rfl (by show 2<=(pairsOf vs).size;rw[Fo];omega) fun st' c1 c2 c3=>⟨c1,c2,c3⟩) ?_ fun _ _ e=>e)
  ·intro x hx;have hx:x∈(pairsOf vs).toList:=hx;rw[hpl] at hx;obtain⟨v,hv,rfl⟩:=A7.mp hx;exact hS v hv
  rintro⟨⟨⟩,st'⟩s'⟨rfl,hp,hf,hs⟩;dsimp only;refine A1 (Ik o6 rfl (A1 (Gv o6 rfl ?_ (Bs _) (by rw[Jf,hp.size_eq,Fo];omega))));rw[hf];simp only[bne_self_eq_false,Bo,if_false];exact Ae (fin st' hp hs)
end
section
variable{prog:Ap}{w:Bd}{A:B5}{E:A2->A5->Prop}{s:A5}
theorem zf8{fin:Bool}{Q:Bool->A5->Prop}{X Y:Nat}(hf:fin=decide (X<Y)):∀{xs ys:List A2}{ns ms:List Int}(i:Nat),Ds xs ns->Ds ys ms->ns.length+Y=ms.length+X->Q (HT.lexLt ns ms) s->KatLex prog w A true fin Q (xs.zip ys) i s
 |_,_,_,_,i,.nil,.nil,hl,q=>by
  rw[HT.lexLt_nil_nil] at q;refine kat_nil ?_;rw[hf,decide_eq_false (by simp at hl;omega)];exact q
 |_,_,_,_,i,.nil,.cons c u hw,hl,q=>by
  rw[HT.lexLt_nil_cons] at q;refine kat_nil ?_;rw[hf,decide_eq_true (by simp at hl;omega)];exact q
 |_,_,_,_,i,.cons a t hv,.nil,hl,q=>by
  rw[HT.lexLt_cons_nil] at q;refine kat_nil ?_;rw[hf,decide_eq_false (by simp at hl;omega)];exact q
 |_,_,_,_,i,.cons a t hv,.cons c u hw,hl,q=>by
  rw[HT.lexLt_cons] at q;rw[He];obtain⟨e,he,hiff⟩:=HT.eqAt_int A s a t c u;refine kat_cons (he prog w _ _ ?_)
  cases e with
  |true=>
   rw[if_pos (hiff.mp rfl)] at q;exact kat_yes (zf8 hf (i+1) hv hw (by simp at hl;omega) q)
  |false=>
   rw[if_neg (fun z=>absurd (hiff.mpr z) Aa)] at q;refine kat_no ?_;rw[F6]
   cases hi:(i==0) with
   |true=>exact oneLt_int q
   |false=>exact kat_one _ _ (La q)
noncomputable def TKind(kd:Fg):Prop:=kd=tuples' true\/kd=general'\/kd=oneType'
theorem keyLt_tup{kd:Fg}(hkd:TKind kd){l b:A3}{items items2:Array A2}{ns ms:List Int}{Q:Bool->A5->Prop}(hl:Js s.heap l items)(hb:Js s.heap b items2)(hi:Ds items.toList ns)(hj:Ds items2.toList ms)
  (hu:A.units<cLine) (q:Q (HT.lexLt ns ms) s):wpAny (model prog w) A (keyLt' kd (.ref l) (.ref b)) Q E s:=by
 rcases hkd with rfl|rfl|rfl
 ·obtain⟨o,ho,_,n,hd⟩:=hl;obtain⟨o2,ho2,_,n2,hd2⟩:=hb;refine kat_lt ho hd ho2 hd2 (zf8 rfl 0 hi hj ?_ q);have:=hi.length;have:=hj.length;simp at *;omega
 ·show wpAny _ _ (oneLt' false (.ref l) (.ref b)) _ _ _;exact kat_one _ _ (HT.lt_tupInts hl hb hi hj hu q)
 ·rw[Rp,oneLt'_eq];simp only[if_true];refine A1 (wpAny_cRoomFor hu ?_);obtain⟨⟨cls,dd,data,sl⟩,ho,hc,n,hd⟩:=id hl;obtain⟨⟨cls2,dd2,data2,sl2⟩,ho2,hc2,n2,hd2⟩:=id hb;simp only at hc hd hc2 hd2;subst hc hd hc2 hd2;refine A1 (wpAny_callSpecialIfBound?_slot (T:="tuple") ⟨_,ho,rfl⟩ Ii (Kt Ii ⟨_,ho,rfl⟩ Lm (Lf _ _) (HT.tuple_lt_ints l b items items2 n n2 dd dd2 sl sl2 ns ms hi hj) ⟨ho,ho2,?_⟩));exact D4 q
noncomputable def TupS(h:Bx)(f:A3->List Int)(k:Az):Prop:=∃a items,k.1= .ref a/\Js h a items/\Ds items.toList (f a)/\Smalls (f a)
noncomputable def rkT(f:A3->List Int)(k:Az):Int:=match k.1 with
 | .ref a=>((lexR 8 (f a):Nat):Int)
 |_=>0
theorem ranks_tup{kd:Fg}(hkd:TKind kd)(hu:A.units<cLine)(f:A3->List Int){h0:Bx}(hk:∀a items,Js h0 a items->Js s.heap a items):Ranks prog w A E s kd (TupS h0 f) (rkT f):=⟨fun{x y st Q}hx hy he q=>by
 obtain⟨x1,x2⟩:=x;obtain⟨y1,y2⟩:=y;obtain⟨a,items,e,ta,ia,sa⟩:=hx;obtain⟨b,items2,e2,tb,ib,sb⟩:=hy;dsimp only at e e2;subst e e2;rw[lt'_eq];refine Ak (Hm ?_);rw[he];have hq:decide (rkT f (.ref a,x2)<rkT f (.ref b,y2))=HT.lexLt (f a) (f b):=by
  have:=(zen 8 (f a) (f b) sa.1 sb.1 sa.2 sb.2).1;show decide (((lexR 8 (f a):Nat):Int)<((lexR 8 (f b):Nat):Int))=_;rw[Ay,decide_eq_true_eq,<-this];omega
 rw[hq] at q;exact Ak (J9 (Fx (keyLt_tup hkd (hk _ _ ta) (hk _ _ tb) ia ib hu ⟨rfl,Aq q⟩)))⟩
noncomputable def IsFirst(h:Bx)(v:A2)(f:Option A2):Prop:=∃a o xs n,v= .ref a/\h.get? a=some o/\o.cls= .type "tuple"/\o.data= .seq xs n/\f=xs[0]?
theorem zcR{M:Hk}:∀(vs:List A2)(fs:List (Option A2)){Q:List (Option A2)->A5->Prop},C5 (IsFirst s.heap) vs fs->Q fs s->wpAny M A (vs.mapM firstOfTuple') Q E s
 |_,_,_,.nil,h=>by rw[List.mapM_nil];exact Ae h
 |_,_,Q,.cons (l₁:=vs) (l₂:=fs) r t,h=>by
  obtain⟨a,o,xs,n,rfl,ho,hc,hd,rfl⟩:=r;rw[List.mapM_cons];refine A1 ?_;rw[kas_first_eq];refine A1 (Looks.here (show Looks M s.heap (typeOf (.ref a)) o.cls from(Looks.ld ho).andThen .now) ?_);rw[hc,if_neg (by first|decide|simp)];refine A1 (O1 ho hd (Ae ?_));exact A1 (zcR vs fs (Q:=fun bs s'=>wpAny M A (pure (xs[0]?::bs)) Q E s') t (Ae h))
theorem tup_kind{M:Hk}{vs:List A2}(hv:∀v∈vs,∃a items ns,v= .ref a/\Js s.heap a items/\Ds items.toList ns)(h2:2<=vs.length):∃kd,TKind kd/\∀Q:Fg->A5->Prop,Q kd s->wpAny M A (keyKind' vs.toArray) Q E s:=by
 obtain⟨fs,pf⟩:∃fs,C5 (IsFirst s.heap) vs fs:=by
  clear h2
  induction vs with
  |nil=>exact⟨[],.nil⟩
  |cons v vs ih=>
   obtain⟨fs,pf⟩:=ih fun u hu=>hv u (Ac _ hu);obtain⟨a,items,ns,rfl,⟨o,ho,hc,n,hd⟩,_⟩:=hv v Aj;exact⟨_::fs,.cons ⟨a,o,items,n,rfl,ho,hc,hd,rfl⟩ pf⟩
 by_cases hall:fs.toArray.all (fun x=>x.isSome)=true
 ·have kt:∃gs,KatTups s.heap vs gs/\gs.length=vs.length/\∀g∈gs,∃i t,g=Hv i t:=by
   have hall':∀x∈fs,x.isSome=true:=by simpa using hall
   clear h2 hall
   induction pf with
   |nil=>exact⟨[],.nil,rfl,by simp⟩
   |@cons v f vs fs r t ih=>
    obtain⟨gs,g1,g2,g3⟩:=ih (fun u hu=>hv u (Ac _ hu)) fun x hx=>hall' x (Ac _ hx);obtain⟨a,o,xs,n,rfl,ho,hc,hd,rfl⟩:=r;obtain⟨a',items,ns,e,⟨o',ho',hc',n',hd'⟩,hI⟩:=hv _ Aj
    cases e
    rw[ho] at ho'
    cases ho'
    rw[hd] at hd';injection hd' with e1 e2;subst e1;obtain⟨g,hg⟩:=Db.mp (hall' _ Aj);obtain⟨t',e3⟩:=hI.int_at 0 g (by rw[Cf];exact hg);exact⟨g::gs,.cons ho hc hd hg g1,by rw[Av,g2,Av],fun u hu=>by
     rcases Ba.mp hu with rfl|hu
     ·exact⟨_,_,e3⟩
     ·exact g3 u hu⟩
  obtain⟨gs,g1,g2,g3⟩:=kt;refine⟨tuples' true,.inl rfl,fun Q q=>kat_kind (T:=.type "int") g1 (by omega) (fun v hv=>?_) (by decide) (by
   have:(Eu "int" !=Eu "tuple")=true:=by decide
   rw[this];exact q)⟩
  obtain⟨i,t,rfl⟩:=g3 v hv;exact .now
 ·have hne:¬(fs.toArray.all (fun x=>x.isSome)=true):=hall;by_cases hfst:(fs.toArray[0]?.bind id).isSome=true
  ·refine⟨general',.inr (.inl rfl),fun Q q=>?_⟩;rw[kat_kind_eq,K9,map_eq_pure_bind];refine A1 (A1 (zcR vs _ pf (Ae ?_)));rw[if_neg hne,if_pos hfst];exact Ae q
  ·refine⟨oneType',.inr (.inr rfl),fun Q q=>?_⟩;rw[kat_kind_eq,K9,map_eq_pure_bind];refine A1 (A1 (zcR vs _ pf (Ae ?_)));rw[if_neg hne,if_neg hfst];rw[oneTypeOnly'_eq,K9,map_eq_pure_bind];refine A1 (A1 (A1 (kas_mapM (r:=Eu "tuple") _ (fun v hv' Q' hq=>?_) (Ae ?_))))
   ·obtain⟨a,items,ns,rfl,⟨o,ho,hc,n,hd⟩,_⟩:=hv v hv';refine Looks.here (show Looks M s.heap (typeOf (.ref a)) o.cls from(Looks.ld ho).andThen .now) ?_;rw[hc];exact hq
   ·obtain⟨v₁,rest,rfl⟩:∃v₁ rest,vs=v₁::rest:=by
     match vs,h2 with
     |v₁::rest,_=>exact⟨v₁,rest,rfl⟩
    have hall2:((Ka (fun _=>Eu "tuple") (v₁::rest)).toArray.all fun x=>x==Eu "tuple")=true:=by
     simp only[List.all_toArray,Iq,Cv];intro _ _;show(Eu "tuple"==Eu "tuple")=true;decide
    have h0:(Ka (fun _=>Eu "tuple") (v₁::rest)).toArray[0]?=some (Eu "tuple"):=by simp
    rw[h0];simp only[hall2,if_true];exact Ae (Ae q)
end
section
variable{prog:Ap}{w:Bd}{A:B5}{E:A2->A5->Prop}{s:A5}{d:A3}{o:Obj}{es:Array Gu}{ep:Nat}
theorem ed_walks(hh:A.handled=none)(I:A3)(hne:d≠I)(hdat:o.data= .dict es ep):Walks prog w A I [I,d] [I] es.size (fun i v=>∃e,es[i]?=some e/\v=e.key) (fun i h=>h.IsKeyIter I d i es.size ep/\h.get? d=some o) where
 sub:=fun b hb=>by simp at hb;simp[hb]
 frame:=fun _ _ _ st hk=>⟨st.1.at fun o e=>hk I (by simp) o e,hk d (by simp) _ st.2⟩
 item:=fun i s Q E hi st hQ=>by
  refine zhd st.1 st.2 hdat hi fun h' hit' hs'=>?_;exact hQ _ h' s.toks ⟨es[i],by simp[hi],rfl⟩ ⟨hit',by rw[hs'.2 d hne];exact st.2⟩ fun b o hb e=>hs'.extBut b o (fun h=>hb (by simp[h])) e
 done:=fun s Q E st hQ=>zhI hh st.1 st.2 hdat (Ab _) fun h' he'=>hQ h' s.toks fun b o hb e=>he' b o (fun h=>hb (by simp[h])) e
 self:=fun _ _ _ _ st hQ=>K1 st.1 hQ
theorem kdl_ed(lo:(d==sysModules)=false)(hc:o.ExactDict)(hdat:o.data= .dict es ep):KdlSrc prog w "dict" d d es.size (fun i v=>∃e,es[i]?=some e/\v=e.key) (fun h=>h.get? d=some o) where
 type:=fun s hm=>⟨o,hm,hc.1⟩
 there:=fun _ hm=>⟨An hm,An hm⟩
 keep:=fun _ _ hm hk=>hk d (.inl rfl) _ hm
 notList:=by decide
 notTuple:=by decide
 hint:=fun _ _ s _ hm hq=>kdl_hint_dict (s:=s) ⟨o,hm,hc.1⟩ hq
 iter:=fun _ _ hh hm=>⟨_,_,(fun _ _ hq=>zhe lo hm hc hdat hq),ed_walks hh _ (B8 (An hm)) hdat,⟨⟨_,Aw _ rfl,rfl,rfl⟩,A8 _ hm⟩⟩
end
noncomputable def tupF(H:Hp)(b:A3):List Int:=match H b with
 |some (.tup xs)=>xs.map fun v=>match v with| .int i=>i|_=>0
 |_=>[]
theorem zgq{H:Hp}{b:A3}{ns:List Int}(h:H b=some (.tup (ns.map V.int))):tupF H b=ns:=by
 unfold tupF;rw[h];show(ns.map V.int).map _=ns;rw[Bb];exact List.map_id'' (fun _=>rfl) ns
noncomputable def adr:A2->A3
 | .ref b=>b
 |_=>0
noncomputable def TupsR(H:Hp)(nss:List (List Int))(ws:List V):Prop:=C5 (fun(ns:List Int)(v:V)=>∃q,v= .ref q/\H q=some (.tup (ns.map V.int))) nss ws
section
variable{X:Cx}
theorem call_sortedDT(hc:X.calm=true)(hu:X.A.units+64<cLine):CallR X (.builtin "sorted") (fun xs H Q=>∃(a:A3)(kvs:List (List Key×V))(nss:List (List Int)),xs=[V.ref a]/\Rd H a (.dT kvs)/\kvs.map (·.1)=nss.map kI/\(∀ns∈nss,Smalls ns)/\nss.length<=4096/\
  ∀p(nss':List (List Int))(ws:List V),H p=none->nss'.Perm nss->nss'.Pairwise (fun x y=>lexR 8 x<=lexR 8 y)->TupsR H nss' ws->Q (.ref p) (upd H p (.lst ws))):=by
 intro pins s σ H xs us Q I r h;obtain⟨a,kvs,nss,rfl,hq,hk,hsm,hb,q⟩:=h;obtain⟨u,rfl,ru⟩:=zb2 r
 cases ru
 obtain⟨hz,lo,xs,pr,o,es,ep,ho,hex,hdat,hes,hnd⟩:=(show ObjOk X.prog X.w H s.heap a (.dT kvs) from hq.ok I.hok);have hlx:kvs.length=xs.length:=Cr pr;have hle:es.size=xs.length:=by rw[<-As,hes,A4]
 have hlen:xs.length=nss.length:=by
  have e2:=congrArg Ev hk;rw[A4,A4] at e2;omega
 have big:(4096:Nat)<=sizeLine:=by decide
 refine Fm Ot O0 O2 (O3 _) ?_;unfold Fp.«sorted»;refine A1 (m:=checkCount "sorted" 1 1 _) (Ae ?_);refine A1 (Jb (A:=X.A.in1) (kdl_ed (ep:=ep) lo hex hdat) (I.ok.hd hc) ho (by omega) fun h' tk acc hkeep hacc=>?_);have hl:acc.toList.length=xs.length:=by rw[As,<-hle];exact hacc.1
 have hrow:∀(j:Nat)v,acc.toList[j]?=some v->∃b ns items,v= .ref b/\nss[j]?=some ns/\H b=some (.tup (ns.map V.int))/\Js s.heap b items/\Ds items.toList ns:=by
  intro j v e1;obtain⟨e,e2,e3⟩:=hacc.2 j v (by rw[<-Cf];exact e1);rw[<-Cf,hes,Ad] at e2
  cases hx:xs[j]? with
  |none=>rw[hx] at e2;cases e2
  |some x=>
   rw[hx] at e2
   cases e2
   obtain⟨kv,e4,e5,e6,_⟩:=C5.rev pr hx;have e7:(kvs.map (·.1))[j]?=some kv.1:=by rw[Ad,e4];rfl
   rw[hk,Ad] at e7
   cases hn:nss[j]? with
   |none=>rw[hn] at e7;cases e7
   |some ns=>
    rw[hn] at e7;have e7:kI ns=kv.1:=Bw e7;rw[<-e7,kI_V] at e6;obtain⟨_,its,rv,it⟩:=(show ObjOk X.prog X.w H s.heap x.2.1 (.tup (ns.map V.int)) from I.hok _ _ e6);exact⟨_,ns,its.toArray,e3,rfl,e6,it,by simpa using zdf rv⟩
 have hmem:∀v∈acc.toList,∃b items,v= .ref b/\Js s.heap b items/\Ds items.toList (tupF H b)/\Smalls (tupF H b)/\H b=some (.tup ((tupF H b).map V.int)):=fun v hv=>by
  obtain⟨j,hj,e⟩:=Em hv;obtain⟨b,ns,items,rfl,e1,e2,e3,e4⟩:=hrow j v (by rw[A9 hj,e]);have:=zgq e2;rw[<-this] at e1 e2 e4;exact⟨b,items,rfl,e3,e4,hsm _ (B0 e1),e2⟩
 have hmap:acc.toList.map (fun v=>tupF H (adr v))=nss:=by
  refine Fc fun j=>?_;rw[Ad];by_cases hj:j<acc.toList.length
  ·obtain⟨b,ns,items,e0,e1,e2,_,_⟩:=hrow j _ (A9 hj);rw[A9 hj,e1,Cj,e0];show some (tupF H b)=_;rw[zgq e2]
  ·rw[C4 (by omega),C4 (by omega)];rfl
 refine A1 (Iu ?_ (by rw[hl];omega));have hoL:(h'.push (seqObj "list" acc.toList.toArray 0)).get? h'.objs.size=some (seqObj "list" acc.toList.toArray 0):=Aw _ rfl;refine A1 (Cs (Di Mo ⟨_,hoL,rfl⟩ M4 (sortR (rkT (tupF H)) (TupS s.heap (tupF H)) hoL (fun v hv=>?_) (by omega) (fun h2 h3 hk3=>?_) fun out a2 a3=>⟨_,rfl,?_⟩) (Mq _)))
 ·obtain⟨b,items,rfl,e3,e4,e5,_⟩:=hmem v hv;exact⟨b,items,rfl,e3,e4,e5⟩
 ·have kp:∀a items,Js s.heap a items->Js h3 a items:=fun b items it=>by
   obtain⟨o',e1,e2⟩:=it;exact⟨o',hk3 b _ (B8 (An (hkeep _ _ e1))) (A8 _ (hkeep _ _ e1)),e2⟩
  obtain⟨kd,k1,k2⟩:=tup_kind (M:=model X.prog X.w) (A:=X.A.in1.in1) (E:=fun e s'=>_) (s:={s with heap:=h3,toks:=tk}) (vs:=acc.toList) (fun v hv=>by
   obtain⟨b,items,rfl,e3,e4,_⟩:=hmem v hv;exact⟨b,items,_,rfl,kp _ _ e3,e4⟩) h2
  exact⟨kd,k2,ranks_tup (s:={s with heap:=h3,toks:=tk}) k1 (by show X.A.units+1+1<cLine;omega) (tupF H) kp⟩
 ·refine Ae ⟨_,rfl,?_⟩;obtain⟨e,he⟩:=Na (out:=out.toArray) hoL;have I1:Inv X pins σ H {s with heap:=h',toks:=tk}:=I.kept hkeep;have hvo:Vals (out.map fun v=>V.ref (adr v)) out:=by
   have:∀v∈out,∃b,v= .ref b:=fun v hv=>by
    obtain⟨b,_,e,_⟩:=hmem v (a2.mem_iff.mp hv);exact⟨b,e⟩
   clear a2 a3 he
   induction out with
   |nil=>exact .nil
   |cons v out ih=>
    obtain⟨b,rfl⟩:=this v Aj;exact .cons rfl (ih fun u hu=>this u (Ac _ hu))
  have I2:=Inv.laid (o:=.lst (out.map fun v=>V.ref (adr v))) (a:=h'.objs.size) (h':=sortedHeap (h'.push (seqObj "list" acc.toList.toArray 0)) h'.objs.size acc.toList out.toArray) (t':=tk) I1 (fun b o hb=>by
   have lt:=An hb;rw[Mm (B8 lt) (by rw[Eb];exact Eg lt)];exact A8 _ hb) (Ab _) (show ObjOk X.prog X.w _ _ _ (.lst (out.map fun v=>V.ref (adr v))) from⟨by rw[A4,a2.length_eq];omega,out,e,hvo,he⟩)
  refine⟨.ref h'.objs.size,_,I2,rfl,q _ (out.map fun v=>tupF H (adr v)) _ (I1.hok.fresh (Ab _)) ?_ ?_ ?_⟩
  ·rw[<-hmap];exact a2.map _
  ·rw[Bl];refine Fd (fun{x y}hx hy h=>?_) a3;obtain⟨b,_,rfl,_⟩:=hmem x (a2.mem_iff.mp hx);obtain⟨c,_,rfl,_⟩:=hmem y (a2.mem_iff.mp hy);have h:((lexR 8 (tupF H b):Nat):Int)<=((lexR 8 (tupF H c):Nat):Int):=h;show lexR 8 (tupF H b)<=lexR 8 (tupF H c);omega
  ·have hm:∀v∈out,H (adr v)=some (.tup ((tupF H (adr v)).map V.int)):=fun v hv=>by
    obtain⟨b,_,rfl,_,_,_,e⟩:=hmem v (a2.mem_iff.mp hv);exact e
   clear a2 a3 he hvo I2
   induction out with
   |nil=>exact .nil
   |cons v out ih=>exact .cons ⟨_,rfl,hm v Aj⟩ (ih fun u hu=>hm u (Ac _ hu))
end
section
variable{X:Cx}
end
theorem behN_perm{C C':Combs}(p:C.Perm C')(l:List Nat):behN C l=behN C' l:=by
 unfold behN;refine Kc fun s _=>?_;congr 1;funext t;exact any_perm (steps_perm p _) _
theorem zeI{C C':Combs}(p:C.Perm C'):∀k,rowN C k=rowN C' k
 |0=>rfl
 |k+1=>by
  show behN C (rowN C k)=behN C' (rowN C' k);rw[zeI p k,behN_perm p]
theorem beh_nd(C:Combs)(l:List Nat):(behN C l).Nodup:=(zhl C l).imp fun h=>B8 h
theorem zdp(s:Nat):Smalls (aheadOf (s:Int)):=by
 refine⟨?_,fun x hx=>by have:=zbE x hx;omega⟩;unfold aheadOf;rw[A4];exact Bt (Cp _ _) (by rw[Ax];decide)
end L2
set_option maxHeartbeats 4000000
namespace L2
open PySem PySem.Spec PyProof.Rows PySem.W
section
variable{prog:Ap}{w:Bd}{A:B5}{E:A2->A5->Prop}{s:A5}
end
noncomputable def storeAll(kvs:List (Key×A2)):List (Key×A2):=kvs.foldl (fun m p=>stored m p.1 p.2) []
section
variable{prog:Ap}{w:Bd}{A:B5}{E:A2->A5->Prop}{s:A5}
end
section
variable{prog:Ap}{w:Bd}{A:B5}{E:A2->A5->Prop}{s:A5}
end
section
variable{X:Cx}
end
end L2
namespace L2
open PySem PySem.Spec PyProof.Rows
section
variable{X:Cx}{pins:List (A3×Obj)}{σ:St}{H:Hp}{s:A5}{h':Bx}
end
end L2
namespace Att
open PySem PySem.W PySem.Calls PyProof.Rows
end Att
namespace L2
open PySem PySem.Spec PyProof.Rows
section
variable{X:Cx}
theorem op_mulB:OpR X (binaryOp .Mult) (rI IntMulOk fun i j=>.int (i*j)):=opI fun _ _ _ _ _ _ _ hc q=>mul_int q hc
end
theorem zaW{s d:Nat}(hs:s<128):((d:Nat):Int)∈aheadOf (s:Int)↔s.testBit d=true:=by
 rw[mem_ahead];constructor
 ·rintro⟨_,_,h⟩;simpa using h
 ·intro h;refine⟨by omega,E7 fun z=>?_,by simpa using h⟩;have h7:7<=d:=by omega
  rw[Iz (Ah hs (show 128<=2 ^ d from Jo (n:=2) (by decide) h7))] at h
  cases h
theorem zcy{a b:Nat}(h:∀d,a.testBit d=b.testBit d):a=b:=Jp h
noncomputable def StB(C:Combs)(s:Nat)(x:Str)(n:Nat):Prop:=(s.testBit 0=true/\x=A0 ""/\∀d,n.testBit d=s.testBit (d+1))\/(s.testBit 0=false/\∃c∈C,x=c.1/\(∀d:Nat,s.testBit d=true->(d:Int)∉c.2)/\∀d,n.testBit d=(s.testBit (d+1)||decide (((d+1:Nat):Int)∈c.2)))
theorem ze0{C:Combs}(g:GC C){s:Nat}(hs:s<128){p:Str×List Int}(hp:p∈goesOf C (aheadOf (s:Int))):∃m:Nat,m<128/\worth p.2=(m:Int)/\StB C s p.1 m:=by
 obtain⟨k1,k2,k3,_⟩:=zcf hs g hp;refine⟨(worth p.2).toNat,k1,by omega,?_⟩;have e:=zd8 k3;generalize (worth p.2).toNat=m at k1 e;unfold goesOf at hp;by_cases h0:(0:Int)∈aheadOf (s:Int)
 ·rw[if_pos h0] at hp;have hp:=A6.mp hp;refine .inl ⟨(zaW hs).mp h0,by rw[hp],fun d=>?_⟩;rw[Ay,<-zaW k1,<-zaW hs,<-e,hp,zdx zbE (by simp)];simp
 ·rw[if_neg h0] at hp;obtain⟨c,hc,rfl⟩:=A7.mp hp;obtain⟨hc1,hc2⟩:=Bc.mp hc;have hm:meets (aheadOf (s:Int)) c.2=false:=by simpa using hc2
  refine .inr ⟨?_,c,hc1,rfl,fun d hd z=>meets_false.mp hm _ z ((zaW hs).mpr hd),fun d=>?_⟩
  ·cases z:s.testBit 0 with
   |false=>rfl
   |true=>exact absurd ((zaW hs).mpr z) h0
  ·rw[Ay,<-zaW k1,L7,decide_eq_true_eq,<-zaW hs,<-e];exact zdx zbE (zca (g c hc1)) d
theorem zc7{C:Combs}(g:GC C){s n:Nat}(hs:s<128){x:Str}:(x,(n:Int))∈stp C s↔n<128/\StB C s x n:=by
 rw[<-zbs hs g,A7];constructor
 ·rintro⟨p,hp,e⟩;obtain⟨m,m1,m2,m3⟩:=ze0 g hs hp;injection e with e1 e2;have:m=n:=by omega
  subst this;exact⟨m1,e1▸m3⟩
 ·rintro⟨hn,h⟩;have key:∀p∈goesOf C (aheadOf (s:Int)),p.1=x->(∀m,worth p.2=(m:Nat)->StB C s p.1 m->m=n)->∃p∈goesOf C (aheadOf (s:Int)),(p.1,worth p.2)=(x,(n:Int)):=fun p hp e1 e2=>by
   obtain⟨m,_,m2,m3⟩:=ze0 g hs hp;exact⟨p,hp,by rw[e1,m2,e2 m m2 m3]⟩
  rcases h with⟨h0,rfl,hb⟩|⟨h0,c,hc,rfl,hx,hb⟩
  ·refine key (A0 "",afterOf (aheadOf (s:Int)) []) ?_ rfl fun m _ hm=>?_
   ·unfold goesOf;rw[if_pos (show(0:Int)∈aheadOf (s:Int) from(zaW hs).mpr h0)];exact A6.mpr rfl
   ·rcases hm with⟨_,_,hb'⟩|⟨h0',_⟩
    ·exact zcy fun d=>by rw[hb,hb']
    ·rw[h0] at h0';cases h0'
  ·have n0:(0:Int)∉aheadOf (s:Int):=fun z=>by
    have:=(zaW (d:=0) hs).mp z;rw[h0] at this;cases this
   have hp:(c.1,afterOf (aheadOf (s:Int)) c.2)∈goesOf C (aheadOf (s:Int)):=by
    unfold goesOf;rw[if_neg n0];refine A7.mpr ⟨c,Bc.mpr ⟨hc,?_⟩,rfl⟩;have:meets (aheadOf (s:Int)) c.2=false:=meets_false.mpr fun t ht z=>by
     have h1:=zbE t z;obtain⟨d,rfl⟩:=Fv h1.1;exact hx d ((zaW hs).mp z) ht
    rw[this];rfl
   obtain⟨k1,k2,k3,_⟩:=zcf hs g hp;have e:=zd8 k3;refine⟨_,hp,?_⟩;have e2:(worth (afterOf (aheadOf (s:Int)) c.2)).toNat=n:=by
    refine zcy fun d=>?_;rw[Ay,<-zaW k1,hb,L7,decide_eq_true_eq,<-zaW hs];dsimp only at e⊢;rw[<-e];exact zdx zbE (zca (g c hc)) d
   dsimp only at k2 e2⊢;rw[<-e2,show(((worth (afterOf (aheadOf (s:Int)) c.2)).toNat:Nat):Int)=worth (afterOf (aheadOf (s:Int)) c.2) by omega]
noncomputable def hit(C:Combs)(x:Nat×Str)(q:Nat):Bool:=decide (x.1<=q)&&decide (((q-x.1:Nat):Int)∈tkOf C x.2)
noncomputable def cov(C:Combs)(l:List (Nat×Str))(q:Nat):Nat:=(l.map fun x=>ind (hit C x q)).sum
theorem zcg(C:Combs)(l:List (Nat×Str))(x:Nat×Str)(q:Nat):cov C (l++[x]) q=cov C l q+ind (hit C x q):=by
 unfold cov;rw[B7,L4];simp
noncomputable def chs(C:Combs):Nat->List (List (Nat×Str))
 |0=>[[]]
 |p+1=>(chs C p).flatMap fun r=>r::C.map fun c=>r++[(p,c.1)]
noncomputable def OkC(C:Combs)(l:List (Nat×Str))(p:Nat):Prop:=(∀q,q<p->cov C l q=1)/\∀q,q<p+8->cov C l q<=1
noncomputable def shp(C:Combs)(l:List (Nat×Str))(p:Nat):Nat:=bitSum (fun d=>decide (cov C l (p+d)=1)) 7
theorem zdJ{C:Combs}:∀{p:Nat}{l:List (Nat×Str)},l∈chs C p->∀x∈l,x.1<p/\x.2∈C.map (·.1)
 |0,l,h,x,hx=>by
  rw[A6.mp (show l∈[[]] from h)] at hx
  cases hx
 |p+1,l,h,x,hx=>by
  obtain⟨r,hr,h⟩:=Dq.mp h;rcases Ba.mp h with rfl|h
  ·have:=zdJ hr x hx;exact⟨by omega,this.2⟩
  ·obtain⟨c,hc,rfl⟩:=A7.mp h;rcases Al.mp hx with z|z
   ·have:=zdJ hr x z;exact⟨by omega,this.2⟩
   ·rw[A6.mp z];exact⟨Et _,A7.mpr ⟨c,hc,rfl⟩⟩
theorem tk_in{C:Combs}(g:GC C){x:Str}{t:Int}(h:t∈tkOf C x):0<=t/\t<=7:=by
 unfold tkOf at h
 cases e:cGet C x with
 |none=>rw[e] at h;cases h
 |some ts=>rw[e] at h;exact zca (g _ (zes e)) t h
theorem zfL{α:Type}{l:List α}{f:α->Nat}(h:∀x∈l,f x=0):(l.map f).sum=0:=by
 induction l with
 |nil=>rfl
 |cons a l ih=>
  rw[At,Eh,h a Aj,ih fun x hx=>h x (Ac _ hx)]
theorem zcw{C:Combs}(g:GC C){p:Nat}{l:List (Nat×Str)}(h:l∈chs C p){q:Nat}(hq:p+7<=q):cov C l q=0:=zfL fun x hx=>by
 have:=(zdJ h x hx).1;unfold hit;rw[decide_eq_false (show¬((q-x.1:Nat):Int)∈tkOf C x.2 from fun z=>by have:=(tk_in g z).2;omega),P7];rfl
theorem zdX(C:Combs)(l:List (Nat×Str))(p:Nat):shp C l p<128:=zcO _ 7
theorem zaJ{C:Combs}(g:GC C){p:Nat}{l:List (Nat×Str)}(h:l∈chs C p)(d:Nat):(shp C l p).testBit d=decide (cov C l (p+d)=1):=by
 unfold shp;rw[zbR];by_cases hd:d<7
 ·rw[decide_eq_true hd,F6]
 ·rw[decide_eq_false hd,Eo,zcw g h (by omega)];rfl
theorem zgd{C:Combs}(nd:(C.map (·.1)).Nodup){c:Str×List Int}(hc:c∈C)(p d:Nat):hit C (p,c.1) (p+d)=decide ((d:Int)∈c.2):=by
 unfold hit tkOf;rw[zcs nd hc];simp
theorem hit_below{C:Combs}{p q:Nat}{x:Str}(h:q<p):hit C (p,x) q=false:=by
 unfold hit;rw[decide_eq_false (show¬p<=q by omega),Eo]
theorem zfq{C:Combs}{p:Nat}{l:List (Nat×Str)}(hl:l∈chs C p)(g:GC C):OkC C l (p+1)↔OkC C l p/\cov C l p=1:=by
 constructor
 ·rintro⟨h1,h2⟩;exact⟨⟨fun q hq=>h1 q (by omega),fun q hq=>h2 q (by omega)⟩,h1 p (by omega)⟩
 ·rintro⟨⟨h1,h2⟩,h3⟩;refine⟨fun q hq=>?_,fun q hq=>?_⟩
  ·by_cases e:q=p
   ·rw[e];exact h3
   ·exact h1 q (by omega)
  ·by_cases e:q<p+8
   ·exact h2 q e
   ·rw[zcw g hl (by omega)];omega
theorem zfp{C:Combs}{p:Nat}{l:List (Nat×Str)}(hl:l∈chs C p)(g:GC C)(nd:(C.map (·.1)).Nodup){c:Str×List Int}(hc:c∈C):OkC C (l++[(p,c.1)]) (p+1)↔OkC C l p/\cov C l p=0/\∀d:Nat,cov C l (p+d)=1->(d:Int)∉c.2:=by
 have e1:∀q,q<p->cov C (l++[(p,c.1)]) q=cov C l q:=fun q hq=>by rw[zcg,hit_below hq];rfl
 have e2:∀d,cov C (l++[(p,c.1)]) (p+d)=cov C l (p+d)+ind (decide ((d:Int)∈c.2)):=fun d=>by rw[zcg,zgd nd hc]
 have h0:(0:Int)∈c.2:=zcY (g c hc);have e0:cov C (l++[(p,c.1)]) p=cov C l p+1:=by
  have:=e2 0;rw[decide_eq_true (show((0:Nat):Int)∈c.2 from h0)] at this;exact this
 constructor
 ·rintro⟨h1,h2⟩;have hp:=h1 p (by omega);refine⟨⟨fun q hq=>by rw[<-e1 q hq];exact h1 q (by omega),fun q hq=>?_⟩,by omega,fun d hd z=>?_⟩
  ·by_cases e:q<p
   ·rw[<-e1 q e];exact h2 q (by omega)
   ·have:=h2 q (by omega);have e3:=e2 (q-p);rw[show p+(q-p)=q by omega] at e3;omega
  ·have e3:=e2 d;rw[hd,decide_eq_true z] at e3;have hd8:d<=7:=by have:=(zca (g c hc) _ z).2;omega
   have:=h2 (p+d) (by omega);rw[e3] at this;exact absurd this (by decide)
 ·rintro⟨⟨h1,h2⟩,h3,h4⟩;refine⟨fun q hq=>?_,fun q hq=>?_⟩
  ·by_cases e:q=p
   ·rw[e,e0,h3]
   ·rw[e1 q (by omega)];exact h1 q (by omega)
  ·by_cases e:q<p
   ·rw[e1 q e];exact h2 q (by omega)
   ·have e3:=e2 (q-p);rw[show p+(q-p)=q by omega] at e3;have hle:cov C l q<=1:=by
     by_cases e':q<p+8
     ·exact h2 q e'
     ·rw[zcw g hl (by omega)];omega
    rw[e3];by_cases z:((q-p:Nat):Int)∈c.2
    ·have:cov C l q≠1:=fun y=>h4 (q-p) (by rw[show p+(q-p)=q by omega];exact y) z;rw[decide_eq_true z];show cov C l q+1<=1;omega
    ·rw[decide_eq_false z];exact hle
theorem zhk{C:Combs}(g:GC C)(nd:(C.map (·.1)).Nodup):∀(p n:Nat),n∈rowN C p↔∃l∈chs C p,OkC C l p/\shp C l p=n
 |0,n=>by
  show n∈[0]↔∃l∈[[]],OkC C l 0/\shp C l 0=n;have e:shp C [] 0=0:=rfl;have o:OkC C [] 0:=⟨fun q hq=>by omega,fun q _=>Bs _⟩;rw[A6];constructor
  ·rintro rfl;exact⟨[],A6.mpr rfl,o,e⟩
  ·rintro⟨l,hl,_,h⟩;rw[A6.mp hl,e] at h;exact h.symm
 |p+1,n=>by
  have ih:=zhk g nd p;rw[show rowN C (p+1)=behN C (rowN C p) from rfl,beh_mem];have bn:∀l∈chs C p,∀d,(shp C l (p+1)).testBit d=decide (cov C l (p+1+d)=1):=fun l hl d=>zaJ g (p:=p+1) (Dq.mpr ⟨l,hl,Aj⟩) d;have bs:∀l∈chs C p,∀c∈C,∀d,(shp C (l++[(p,c.1)]) (p+1)).testBit d=decide (cov C (l++[(p,c.1)]) (p+1+d)=1):=fun l hl c hc d=>zaJ g (p:=p+1) (Dq.mpr ⟨l,hl,Ac _ (A7.mpr ⟨c,hc,rfl⟩)⟩) d;constructor
  ·rintro⟨hn,t,ht,pr,hp,e⟩;have t128:=(zfl C p).1 t ht;obtain⟨l,hl,ol,rfl⟩:=(ih t).mp ht;obtain⟨x,y⟩:=pr;have hy:=(zc0 g t128 hp).1;dsimp only at e hy;have:y=(n:Int):=by omega
   subst this;obtain⟨_,hb⟩:=(zc7 g t128).mp hp;rcases hb with⟨h0,_,hb⟩|⟨h0,c,hc,_,hx,hb⟩
   ·rw[zaJ g hl,decide_eq_true_eq] at h0;refine⟨l,Dq.mpr ⟨l,hl,Aj⟩,(zfq hl g).mpr ⟨ol,h0⟩,zcy fun d=>?_⟩;rw[bn l hl,hb,zaJ g hl,show p+1+d=p+(d+1) by omega]
   ·rw[zaJ g hl,decide_eq_false_iff_not] at h0;have hz:cov C l p=0:=by have:=ol.2 p (by omega);have h0:¬cov C l p=1:=h0;omega
    refine⟨l++[(p,c.1)],Dq.mpr ⟨l,hl,Ac _ (A7.mpr ⟨c,hc,rfl⟩)⟩,(zfp hl g nd hc).mpr ⟨ol,hz,fun d hd=>hx d (by rw[zaJ g hl,decide_eq_true hd])⟩,zcy fun d=>?_⟩;rw[bs l hl c hc,hb,zaJ g hl,show p+1+d=p+(d+1) by omega,zcg,zgd nd hc];have hx':=hx (d+1);rw[zaJ g hl,decide_eq_true_eq] at hx';have hle:cov C l (p+(d+1))<=1:=by
     by_cases e':d+1<8
     ·exact ol.2 _ (by omega)
     ·rw[zcw g hl (by omega)];omega
    by_cases a:cov C l (p+(d+1))=1
    ·rw[decide_eq_false (hx' a),a];rfl
    ·have a0:cov C l (p+(d+1))=0:=by omega
     by_cases z:((d+1:Nat):Int)∈c.2
     ·rw[decide_eq_true z,a0];rfl
     ·rw[decide_eq_false z,a0];rfl
  ·rintro⟨l',hl',ol',rfl⟩;refine⟨zdX _ _ _,?_⟩;obtain⟨l,hl,h⟩:=Dq.mp hl';rcases Ba.mp h with rfl|h
   ·obtain⟨ol,h0⟩:=(zfq hl g).mp ol';refine⟨shp C l' p,(ih _).mpr ⟨l',hl,ol,rfl⟩,(A0 "",((shp C l' (p+1):Nat):Int)),(zc7 g (zdX _ _ _)).mpr ⟨zdX _ _ _,.inl ⟨?_,rfl,fun d=>?_⟩⟩,by simp⟩
    ·rw[zaJ g hl];exact decide_eq_true h0
    ·rw[bn l' hl,zaJ g hl,show p+1+d=p+(d+1) by omega]
   ·obtain⟨c,hc,rfl⟩:=A7.mp h;obtain⟨ol,h0,hx⟩:=(zfp hl g nd hc).mp ol';refine⟨shp C l p,(ih _).mpr ⟨l,hl,ol,rfl⟩,(c.1,((shp C (l++[(p,c.1)]) (p+1):Nat):Int)),(zc7 g (zdX _ _ _)).mpr ⟨zdX _ _ _,.inr ⟨?_,c,hc,rfl,fun d hd=>?_,fun d=>?_⟩⟩,by simp⟩
    ·rw[zaJ g hl];exact decide_eq_false (by rw[show p+0=p from rfl,h0];decide)
    ·rw[zaJ g hl,decide_eq_true_eq] at hd;exact hx d hd
    ·rw[bs l hl c hc,zaJ g hl,show p+1+d=p+(d+1) by omega,zcg,zgd nd hc];have hx':=hx (d+1);have hle:cov C l (p+(d+1))<=1:=by
      by_cases e':d+1<8
      ·exact ol.2 _ (by omega)
      ·rw[zcw g hl (by omega)];omega
     by_cases a:cov C l (p+(d+1))=1
     ·rw[decide_eq_false (hx' a),a];rfl
     ·have a0:cov C l (p+(d+1))=0:=by omega
      by_cases z:((d+1:Nat):Int)∈c.2
      ·rw[decide_eq_true z,a0];rfl
      ·rw[decide_eq_false z,a0];rfl
section
variable{P:Ap}{w:Bd}{A:B5}{E:A2->A5->Prop}{s:A5}
noncomputable def Inner(P:Ap)(w:Bd)(h:Bx):List (List Key)->List A2->Prop:=C5 fun k v=>∃b,v= .ref b/\Mz (mixKind P w) h k b
noncomputable def IsNest(P:Ap)(w:Bd)(h:Bx)(ks:List (List Key))(a:A3):Prop:=∃ob its m,h.get? a=some ob/\ob.cls= .type "tuple"/\ob.data= .seq its m/\Inner P w h ks its.toList
theorem IsNest.type{ks:List (List Key)}{a:A3}(x:IsNest P w s.heap ks a):s.TypeIs (.ref a) "tuple":=by
 obtain⟨ob,_,_,e1,e2,_⟩:=x;exact⟨ob,e1,e2⟩
theorem zeX{h:Bx}:∀{x y:List (List Key)}{vs:List A2},Inner P w h x vs->Inner P w h y vs->x=y
 |_,_,_,.nil,.nil=>rfl
 |_,_,_,.cons ⟨b,e,k⟩ r,.cons ⟨c,e',k'⟩ r'=>by
  rw[e] at e'
  cases e'
  rw[k.inj k',zeX r r']
theorem zf4{h:Bx}{a:A3}{x y:List (List Key)}(hx:IsNest P w h x a)(hy:IsNest P w h y a):x=y:=by
 obtain⟨ob,its,m,e1,_,e2,r⟩:=hx;obtain⟨ob',its',m',e1',_,e2',r'⟩:=hy;rw[e1] at e1'
 cases e1'
 rw[e2] at e2'
 cases e2'
 exact zeX r r'
theorem nest_keeps{h h':Bx}{ks:List (List Key)}{a d:A3}{o:Obj}{es:Array Gu}{ep:Nat}(x:IsNest P w h ks a)(ho:h.get? d=some o)(hd:o.data= .dict es ep)(hs:Fl d h h'):IsNest P w h' ks a:=by
 obtain⟨ob,its,m,e1,e2,e3,r⟩:=x;refine⟨ob,its,m,?_,e2,e3,C5.mapP r fun k v⟨b,e,kk⟩=>⟨b,e,kk.keeps ho hd hs⟩⟩;rw[<-e1];refine hs.2 a fun z=>?_;rw[z,ho] at e1
 cases e1
 rw[hd] at e3
 cases e3
noncomputable def nestHash(P:Ap)(w:Bd)(ks:List (List Key)):Int:=reduceHash (F4 (ks.map (tupleKeyHash (mixKind P w))))
noncomputable def nestDraws(ks:List (List Key)):Nat:=(ks.map fun k=>k.length+1).sum+1
theorem nest_hash{ks:List (List Key)}{a:A3}{Q:Int->A5->Prop}(hu:A.units+4<cLine)(hk:IsNest P w s.heap ks a)(q:Q (nestHash P w ks) {s with toks:=s.toks+nestDraws ks}):wpAny (model P w) A (pyHash (.ref a)) Q E s:=by
 have ty:=hk.type;obtain⟨ob,its,m,e1,_,e3,r⟩:=hk;unfold pyHash pyHashByItsType;refine A1 (wpAny_cRoomFor_or (.inr (by omega)) (A1 (Hf ty Ig.lookup ?_)));dsimp only;rw[if_neg (by rw[beq_builtin_none];decide)];refine A1 (Hf ty Ig.lookup ?_);refine A1 (wpAny_callSpecialIfBoundUnlessNone?_slot ty Ig (Di Ig ty F.entry_tuple_hash ?_ (F.args_tuple_hash_1 _)));change wpAny (model P w) A.in1 (Qc (B1 a)>>=fun arr=>_) _ E s;refine A1 (Kr e1 e3 (A1 ?_));rw[<-Jy];refine Gq _ (fun rest(b:Array Int)s'=>∃done left,ks=done++left/\Inner P w s.heap left rest/\b.toList=done.map (tupleKeyHash (mixKind P w))/\s'={s with toks:=s.toks+(done.map fun k=>k.length+1).sum}) _ ?_ ?_ _ _ ⟨[],ks,rfl,r,rfl,rfl⟩
 ·rintro v rest b s'⟨done,left,rfl,hl,hb,rfl⟩
  cases hl with
  |@cons k _ ks' _ h1 hl'=>
   obtain⟨c,rfl,hc⟩:=h1;have fin:∃done' left',done++k::ks'=done'++left'/\Inner P w s.heap left' rest/\(b.push (tupleKeyHash (mixKind P w) k)).toList=done'.map (tupleKeyHash (mixKind P w))/\({s with toks:=s.toks+(done.map fun k=>k.length+1).sum+(k.length+1)}:A5)={s with toks:=s.toks+(done'.map fun k=>k.length+1).sum}:=
    ⟨done++[k],ks',by simp,hl',by simp[hb],by simp[F9]⟩
   refine A1 (wpAny_pyHash_tuple (knd:=mixKind P w) (s:={s with toks:=s.toks+(done.map fun k=>k.length+1).sum}) (by rw[Lk];omega) hc ?_)
   first
    |exact Ae fin
    |exact A1 (Ae (Ae fin))
 ·rintro b s'⟨done,left,rfl,hl,hb,rfl⟩
  cases hl
  rw[C1] at q;change wpAny (model P w) A.in1 (retInt (F4 b.toList)) _ E _;rw[hb];refine Qf ?_;unfold nestHash reduceHash at q;unfold nestDraws at q;rw[<-F9] at q;change wpAny (model P w) A (if(decide (-(2:Int) ^ 63<=F4 (done.map (tupleKeyHash (mixKind P w))))&&decide (F4 (done.map (tupleKeyHash (mixKind P w)))<2 ^ 63))=true then _ else _) Q E _
  split
  ·rename_i c;rw[if_pos c] at q;exact Ae q
  ·rename_i c;rw[if_neg c] at q;exact A1 (G6 (Ae q))
theorem nest_eq_tree{x y:List (List Key)}{a b:A3}{R:O7->A5->Prop}(hu:A.units<cLine)(hx:IsNest P w s.heap x a)(hy:IsNest P w s.heap y b)(q:R (.done (.ret (.bool (decide (x=y))))) s):
  wpAny (model P w) A (Fp.«tuple.__eq__» ⟨[.ref a,.ref b],[]⟩) R E s:=by
 have ty:=hy.type;obtain⟨oa,xs,na,a1,_,a3,ra⟩:=hx;obtain⟨ob,ys,nb,b1,_,b3,rb⟩:=hy;change wpAny (model P w) A (isInstance (B1 b) (.type "tuple")>>=fun c=>_) R E s;refine A1 (Gp ty Ju ?_);simp only[Ei,Bo,if_false];refine A1 (Kr a1 a3 (A1 (Kr b1 b3 (A1 ?_))));refine Gq _ (fun rest r s'=>r.1=none/\s'=s/\∃x' y' xs' ys',rest=List.zip xs' ys'/\Inner P w s.heap x' xs'/\Inner P w s.heap y' ys'/\(x'=y'↔x=y)/\(xs'.length=ys'.length↔xs.size=ys.size)) _ ?_ ?_ _ _ ⟨rfl,rfl,x,y,xs.toList,ys.toList,rfl,ra,rb,Oo,by simp⟩
 ·rintro⟨u,v⟩rest r s'⟨hr,rfl,x',y',xs',ys',hz,hx',hy',hd,hl⟩
  cases hx' with
  |nil=>simp at hz
  |@cons k1 u' x2 xs2 h1 t1=>
   cases hy' with
   |nil=>simp at hz
   |@cons k2 v' y2 ys2 h2 t2=>
    rw[He] at hz;injection hz with hz1 hz2;injection hz1 with z1 z2;subst z1 z2 hz2;obtain⟨c1,rfl,g1⟩:=h1;obtain⟨c2,rfl,g2⟩:=h2;refine A1 (wpAny_eqBool_tuple hu g1 g2 ?_);by_cases e:k1=k2
    ·subst e;rw[decide_eq_true rfl];simp only[Ei,Bo,if_false];exact Ae ⟨rfl,rfl,x2,y2,xs2,ys2,rfl,t1,t2,by rw[<-hd];simp,by rw[<-hl];simp⟩
    ·rw[decide_eq_false e];simp only[Bool.not_false,if_true];have ne:¬x=y:=fun z=>by
      have:=hd.mpr z;injection this with z1 _;exact e z1
     rw[decide_eq_false ne] at q;exact A1 (Ae (Ae (Ae q)))
 ·rintro⟨r1,r2⟩s'⟨hr,rfl,x',y',xs',ys',hz,hx',hy',hd,hl⟩;dsimp only at hr;subst hr;refine Ae ?_;have e:(xs.size==ys.size)=decide (x=y):=by
   rw[Ay,beq_iff_eq,decide_eq_true_eq,<-hd,<-hl]
   cases hx' with
   |nil=>cases hy' with
    |nil=>simp
    |cons _ _=>simp
   |cons _ _=>cases hy' with
    |nil=>simp
    |cons _ _=>simp at hz
  change R (.done (.ret (.bool (xs.size==ys.size)))) s';rw[e];exact q
theorem nest_eq{x y:List (List Key)}{a b:A3}{Q:Bool->A5->Prop}(hu:A.units+4<cLine)(hx:IsNest P w s.heap x a)(hy:IsNest P w s.heap y b)(q:Q (decide (x=y)) s):wpAny (model P w) A (eqBool (.ref a) (.ref b)) Q E s:=by
 unfold eqBool
 try with_reducible refine Cs ?_
 change wpAny (model P w) A (if(B1 a==B1 b)=true then _ else _) Q E s;by_cases e:(B1 a==B1 b)=true
 ·rw[if_pos e];have e':=eq_of_beq e
  cases e'
  rw[decide_eq_true (zf4 hx hy)] at q;exact A1 (G6 (Ae q))
 ·rw[if_neg e];exact A1 (wpAny_richCompare_same_room (op:=.Eq) hx.type hy.type Ji (Di Ji hx.type F.entry_tuple_eq (nest_eq_tree (by rw[Lk];omega) hx hy ⟨_,rfl,(fun z=>nomatch z),D4 q⟩) (F.args_tuple_eq_2 _ _)) (by omega))
theorem tup_quiet{M:Hk}{n:Nat}{ks:List Key}{a:A3}{Q:Bool->A5->Prop}(hk:Mz (mixKind P w) s.heap ks a)(q:Q true s):wpAny M A (eqIsQuiet (n+1) (.ref a)) Q E s:=by
 have ty:=hk.typeIs;obtain⟨ob,its,m,e1,_,e3,r⟩:=hk;unfold eqIsQuiet;refine A1 (Hf ty Ji.lookup ?_);change wpAny M A (isInstance (B1 a) (.type "tuple")>>=fun c=>_) Q E s;refine A1 (Gp ty Ju ?_);simp only[Ei,Bo,if_false];refine A1 (Rk e1 e3 (A1 ?_));change wpAny M A (forIn its _ _) _ E s;rw[<-Jy];refine Gq _ (fun rest r s'=>r.1=none/\s'=s/\∀v∈rest,carriedByValue v=true) _ ?_ ?_ _ _ ⟨rfl,rfl,r.byValue⟩
 ·rintro v rest r s'⟨_,rfl,hv⟩;rw[eqIsQuiet_byValue _ (hv v Aj)];refine A1 (Ae ?_);simp only[Ei,Bo,if_false];exact Ae ⟨rfl,rfl,fun u hu'=>hv u (Ac _ hu')⟩
 ·rintro⟨r1,r2⟩s'⟨hr,rfl,_⟩;dsimp only at hr;subst hr;exact Ae q
theorem nest_quiet{M:Hk}{ks:List (List Key)}{a:A3}{Q:Bool->A5->Prop}(hk:IsNest P w s.heap ks a)(q:Q true s):wpAny M A (eqIsQuiet 8 (.ref a)) Q E s:=by
 have ty:=hk.type;obtain⟨ob,its,m,e1,_,e3,r⟩:=hk;unfold eqIsQuiet;refine A1 (Hf ty Ji.lookup ?_);change wpAny M A (isInstance (B1 a) (.type "tuple")>>=fun c=>_) Q E s;refine A1 (Gp ty Ju ?_);simp only[Ei,Bo,if_false];refine A1 (Rk e1 e3 (A1 ?_));change wpAny M A (forIn its _ _) _ E s;rw[<-Jy];have hall:∀v∈its.toList,∃k b,v= .ref b/\Mz (mixKind P w) s.heap k b:=fun v hv=>by
  obtain⟨i,hi⟩:=Gg.mp hv;obtain⟨k,_,b,e,hk⟩:=C5.rev r hi;exact⟨k,b,e,hk⟩
 refine Gq _ (fun rest r s'=>r.1=none/\s'=s/\∀v∈rest,∃k b,v= .ref b/\Mz (mixKind P w) s.heap k b) _ ?_ ?_ _ _ ⟨rfl,rfl,hall⟩
 ·rintro v rest r s'⟨_,rfl,hv⟩;obtain⟨k,b,rfl,hk⟩:=hv v Aj;refine A1 (tup_quiet (n:=6) hk ?_);simp only[Ei,Bo,if_false];exact Ae ⟨rfl,rfl,fun u hu'=>hv u (Ac _ hu')⟩
 ·rintro⟨r1,r2⟩s'⟨hr,rfl,_⟩;dsimp only at hr;subst hr;exact Ae q
end
noncomputable def nestKind(P:Ap)(w:Bd):HeapKind P w (List (List Key)) where
 is:=IsNest P w
 hash:=nestHash P w
 draws:=nestDraws
 room:=fun A=>A.units+4<cLine
 inj:=zf4
 keeps:=nest_keeps
 pyHash:=nest_hash
 eqBool:=nest_eq
 quiet:=nest_quiet
noncomputable def NestAt(H:Hp)(b:A3)(ks:List (List Key)):Prop:=∃ws,H b=some (.tup ws)/\C5 (fun(k:List Key)(v:V)=>∃c,v= .ref c/\H c=some (.tup (k.map kV))) ks ws
noncomputable abbrev NX:=List (List Key)×A3×V
noncomputable def nestIn(P:Ap)(w:Bd)(a:A3)(xs:List NX)(h:Bx):Prop:=xs.length<=sizeLine/\(a==sysModules)=false/\∃ys:List (List (List Key)×A3×A2),C5 (fun(p:NX)(q:List (List Key)×A3×A2)=>p.1=q.1/\p.2.1=q.2.1/\RelV p.2.2 q.2.2) xs ys/\
 ∃o es ep,h.get? a=some o/\o.ExactDict/\o.data= .dict es ep/\es.toList=ys.map (entryOfKey (nestKind P w))/\(ys.map (·.1)).Nodup
noncomputable def DN(P:Ap)(w:Bd)(a:A3)(xs:List NX):HO:=.ext (nestIn P w a xs)
noncomputable def nks(xs:List NX):List (List (List Key)):=xs.map (·.1)
noncomputable def hasN(l:List (List (List Key)))(ks:List (List Key)):Bool:=l.any fun z=>decide (z=ks)
theorem hasN_iff{l:List (List (List Key))}{ks:List (List Key)}:hasN l ks=true↔ks∈l:=by
 unfold hasN;rw[Bp];exact⟨fun⟨x,h1,h2⟩=>of_decide_eq_true h2▸h1,fun h=>⟨ks,h,decide_eq_true rfl⟩⟩
theorem zge{l:List (List (List Key))}{ks:List (List Key)}(h:ks∉l):hasN l ks=false:=by
 cases e:hasN l ks with
 |false=>rfl
 |true=>exact absurd (hasN_iff.mp e) h
noncomputable def KeysN(H:Hp)(xs:List NX):Prop:=∀x∈xs,NestAt H x.2.1 x.1
noncomputable def NDict(P:Ap)(w:Bd)(H:Hp)(a:A3)(xs:List NX):Prop:=((xs=[]/\H a=some (.dK []))\/H a=some (DN P w a xs))/\KeysN H xs
theorem NestAt.same{H H':Hp}{b:A3}{ks:List (List Key)}(n:NestAt H b ks)(m:∀q xs,H q=some (.tup xs)->H' q=some (.tup xs)):NestAt H' b ks:=by
 obtain⟨ws,e,r⟩:=n;exact⟨ws,m _ _ e,C5.mapP r fun _ _⟨c,e1,e2⟩=>⟨c,e1,m _ _ e2⟩⟩
theorem KeysN.same{H H':Hp}{xs:List NX}(n:KeysN H xs)(m:∀q xs,H q=some (.tup xs)->H' q=some (.tup xs)):KeysN H' xs:=fun x hx=>(n x hx).same m
section
variable{P:Ap}{w:Bd}{H:Hp}{h:Bx}{a b:A3}{xs:List NX}{ks:List (List Key)}
theorem NDict.same{H':Hp}(n:NDict P w H a xs)(sm:Same H H'):NDict P w H' a xs:=⟨n.1.imp (fun z=>⟨z.1,sm _ _ z.2⟩) fun z=>sm _ _ z,n.2.same fun _ _ e=>sm _ _ e⟩
theorem zel(ok:HOk P w H h)(n:NestAt H b ks):IsNest P w h ks b:=by
 obtain⟨ws,e,r⟩:=n;obtain⟨_,its,rv,o,h1,h2,m,h3⟩:=(show ObjOk P w H h b (.tup ws) from ok b _ e);refine⟨o,its.toArray,m,h1,h2,h3,?_⟩;have:∀{ks:List (List Key)}{ws:List V}{its:List A2},C5 (fun(k:List Key)(v:V)=>∃c,v= .ref c/\H c=some (.tup (k.map kV))) ks ws->Vals ws its->Inner P w h ks its:=by
  intro ks ws its r
  induction r generalizing its with
  |nil=>intro rv;cases rv;exact .nil
  |cons q _ ih=>
   intro rv
   cases rv with
   |cons rv1 rv2=>
    obtain⟨c,rfl,ec⟩:=q;exact .cons ⟨c,rv1,zdC ok ec⟩ (ih rv2)
 simpa using this r rv
theorem zdd(ok:HOk P w H h)(n:NDict P w H a xs):xs.length<=sizeLine/\(a==sysModules)=false/\∃ys,C5 (fun(p:NX)(q:List (List Key)×A3×A2)=>p.1=q.1/\p.2.1=q.2.1/\RelV p.2.2 q.2.2) xs ys/\h.DictOfH (nestKind P w) a ys:=by
 obtain⟨n1,n2⟩:=n;rcases n1 with⟨rfl,e⟩|e
 ·obtain⟨_,hd,vs,rel,o,es,ep,h1,h2,h3,_,h4,_⟩:=zhX ok e
  cases rel
  refine⟨Bs _,hd,[],.nil,o,es,ep,h1,h2,h3,?_,fun x hx=>absurd hx List.not_mem_nil,Df⟩;generalize es.toList=l at h4⊢
  cases h4
  rfl
 ·obtain⟨⟨z,hd,ys,r,o,es,ep,h1,h2,h3,h4,h5⟩,_,_⟩:=(show ObjOk P w H h a (DN P w a xs) from ok a _ e);refine⟨z,hd,ys,r,o,es,ep,h1,h2,h3,h4,fun y hy=>?_,h5⟩;obtain⟨i,hi⟩:=Gg.mp hy;obtain⟨x,hx,e1,e2,_⟩:=C5.rev r hi;have:=zel ok (n2 x (B0 hx));rw[e1,e2] at this;exact this
theorem zhU{ys:List (List (List Key)×A3×A2)}(r:C5 (fun(p:NX)(q:List (List Key)×A3×A2)=>p.1=q.1/\p.2.1=q.2.1/\RelV p.2.2 q.2.2) xs ys):ys.map (·.1)=nks xs:=by
 unfold nks
 induction r with
 |nil=>rfl
 |cons q _ ih=>rw[At,At,ih,q.1]
theorem zec{ys:List (List (List Key)×A3×A2)}{ks:List (List Key)}:(atKey ys ks).isSome=hasN (ys.map (·.1)) ks:=by
 unfold atKey;rw[Hi,Ay,List.find?_isSome,hasN_iff,A7];exact⟨fun⟨x,h1,h2⟩=>⟨x,h1,of_decide_eq_true h2⟩,fun⟨x,h1,h2⟩=>⟨x,h1,decide_eq_true h2⟩⟩
end
section
variable{X:Cx}{pins:List (A3×Obj)}{σ:St}{H:Hp}{s:A5}{a b:A3}{xs:List NX}{ks:List (List Key)}{A:B5}{E:A2->A5->Prop}
theorem n_notIn{Q:A2->A5->Prop}(hu:A.units+5<cLine)(I:Inv X pins σ H s)(n:NDict X.prog X.w H a xs)(hb:NestAt H b ks)(q:∀s',Inv X pins σ H s'->Q (.bool (!hasN (nks xs) ks)) s'):
  wpAny (model X.prog X.w) A (compareOp .NotIn (.ref b) (.ref a)) Q E s:=by
 obtain⟨z,hd,ys,r,dd⟩:=zdd I.hok n;refine Pp (knd:=nestKind X.prog X.w) (show A.in1.units+4<cLine by rw[Lk];omega) (zel I.hok hb) hd dd ?_;rw[zec,zhU r];exact q _ (I.tok _)
theorem n_getItem{Q:A2->A5->Prop}{c:A3}{v:V}(hu:A.units+5<cLine)(I:Inv X pins σ H s)(n:NDict X.prog X.w H a xs)(hb:NestAt H b ks)(hm:(ks,c,v)∈xs)(q:∀w' s',Inv X pins σ H s'->RelV v w'->Q w' s'):
  wpAny (model X.prog X.w) A (getItem (.ref a) (.ref b)) Q E s:=by
 obtain⟨z,hd,ys,r,dd⟩:=zdd I.hok n;obtain⟨i,hi⟩:=Gg.mp hm;obtain⟨⟨k',c',v'⟩,hy,e1,e2,rv⟩:=C5.at r hi;dsimp only at e1 e2 rv;subst e1 e2;obtain⟨_,_,_,_,_,_,_,_,nd⟩:=id dd;refine Pa (knd:=nestKind X.prog X.w) (show A.in1.units+4<cLine by rw[Lk];omega) (zel I.hok hb) dd (atKey_of_get nd hy) (q _ _ (I.tok _) rv)
theorem n_setItem{Q:Unit->A5->Prop}{v:V}{u:A2}(hu:A.units+5<cLine)(I:Inv X pins σ H s)(n:NDict X.prog X.w H a xs)(hb:NestAt H b ks)(hn:ks∉nks xs)(hl:xs.length<sizeLine)(rv:RelV v u)
  (q:∀s',Inv X pins σ (upd H a (DN X.prog X.w a (xs++[(ks,b,v)]))) s'->Q () s'):wpAny (model X.prog X.w) A (setItem (.ref a) (.ref b) u) Q E s:=by
 have mu:Mut (H a):=by
  rcases n.1 with⟨_,e⟩|e<;>rw[e]<;>exact E8
 obtain⟨z,hd,ys,r,dd⟩:=zdd I.hok n;have e0:atKey ys ks=none:=by
  have:=zec (ys:=ys) (ks:=ks);rw[zhU r,zge hn] at this
  cases e:atKey ys ks with
  |none=>rfl
  |some y=>rw[e] at this;cases this
 refine P8 (knd:=nestKind X.prog X.w) (hsz:=by rw[<-Cr r];omega) (show A.in1.units+4<cLine by rw[Lk];omega) (zel I.hok hb) dd fun h' dd' hs=>q _ ?_;obtain⟨o,es,ep,h1,h2,h3,h4,_,h5⟩:=dd';have fin:nestIn X.prog X.w a (xs++[(ks,b,v)]) h':=by
  refine⟨by rw[Ag,Bq];omega,hd,_,?_,o,es,ep,h1,h2,h3,h4,h5⟩;rw[storedH_new e0];exact Es r ⟨rfl,rfl,rv⟩
 refine zew I mu hs ⟨o,h1⟩ ⟨fin,⟨o,h1⟩,fun g1 g2 x hx=>?_⟩;obtain⟨y1,y2,ys',y3,o',es',ep',y4,y5⟩:=x;exact⟨y1,y2,ys',y3,o',es',ep',hx _ y4,y5⟩
theorem n_type(I:Inv X pins σ H s)(n:NDict X.prog X.w H a xs):s.TypeIs (.ref a) "dict":=by
 obtain⟨_,_,ys,_,dd⟩:=zdd I.hok n;exact dd.typeIs
end
noncomputable def tNNotIn(P:Ap)(w:Bd)(ty td:TE):TE:=fun σ H Q=>ty σ H fun y H1=>td σ H1 fun x H2=>∃a b xs ks,x= .ref a/\y= .ref b/\NDict P w H2 a xs/\NestAt H2 b ks/\Q (.bl (!hasN (nks xs) ks)) H2
noncomputable def tNGet(P:Ap)(w:Bd)(td ty:TE):TE:=fun σ H Q=>td σ H fun x H1=>ty σ H1 fun y H2=>∃a b c xs ks v,x= .ref a/\y= .ref b/\NDict P w H2 a xs/\NestAt H2 b ks/\(ks,c,v)∈xs/\Q v H2
noncomputable def sNPut(P:Ap)(w:Bd)(td ty tv:TE):TS:=fun D σ H=>tv σ H fun v H1=>td σ H1 fun x H2=>ty σ H2 fun y H3=>∃a b xs ks,x= .ref a/\y= .ref b/\NDict P w H3 a xs/\NestAt H3 b ks/\ks∉nks xs/\xs.length<sizeLine/\D.nx σ (upd H3 a (DN P w a (xs++[(ks,b,v)])))
section
variable{X:Cx}{o i e value:Cb}{pos pos' tpos:Pos}{td ty tv:TE}
theorem pc_nnotin(hu:X.A.units+64<cLine)(hi:PE X i ty)(ho:PE X o td):PC X .NotIn i o (tNNotIn X.prog X.w ty td):=by
 intro pins s σ H Q I h;refine thnE (hi pins s σ H _ I h) fun iv s1 y H1 I1 ry q1=>thnE (ho pins s1 σ H1 _ I1 q1) fun u s2 x H2 I2 rx⟨a,b,xs,ks,ex,ey,n,hb,q2⟩=>?_;subst ex ey
 cases(show u=B1 a from rx)
 cases(show iv=B1 b from ry)
 exact n_notIn (by omega) I2 n hb fun s3 I3=>⟨.bl _,H2,I3,rfl,q2⟩
theorem pe_nget(hu:X.A.units+64<cLine)(ho:PE X o td)(hi:PE X i ty)(hs:NoSl i):PE X (.Subscript o i pos) (tNGet X.prog X.w td ty):=by
 intro pins s σ H Q I h;refine zgt Ky.lookup hs (thnE (ho pins s σ H _ I h) fun u s1 x H1 I1 rx q1=>thnE (hi pins s1 σ H1 _ I1 q1) fun iv s2 y H2 I2 ry⟨a,b,c,xs,ks,v,ex,ey,n,hb,hm,q2⟩=>?_);subst ex ey
 cases(show u=B1 a from rx)
 cases(show iv=B1 b from ry)
 exact⟨n_type I2 n,n_getItem (by omega) I2 n hb hm fun w' s3 I3 rw'=>⟨v,H2,I3,rw',q2⟩⟩
theorem ps_nput(hu:X.A.units+64<cLine)(ho:PE X o td)(hi:PE X i ty)(hv:PE X value tv)(hs:swapsWith value (some (.Subscript o i pos')) pos.line X.env=pure false):PS X (.Assign [.Subscript o i pos'] value pos) (sNPut X.prog X.w td ty tv):=by
 intro pins s σ H D I h;refine Nx (thnE (hv pins s σ H _ I h) fun r s1 v H1 I1 rv q1=>thnE (ho pins s1 σ H1 _ I1 q1) fun u s2 x H2 I2 rx q2=>thnE (hi pins s2 σ H2 _ I2 q2) fun iv s3 y H3 I3 ry⟨a,b,xs,ks,ex,ey,n,hb,hn,hl,q3⟩=>?_) hs;subst ex ey
 cases(show u=B1 a from rx)
 cases(show iv=B1 b from ry)
 exact n_setItem (by omega) I3 n hb hn hl rv fun s4 I4=>⟨σ,_,I4,q3⟩
noncomputable def rInT(K:Am):R2:=fun x y H Q=>∃d es,VD K H x d/\VD K H y (.tuple es)/\d.canLay0=true/\Cm es=true/\d.depth<=50/\Q (.bl (es.any fun e=>E3 e d)) H
theorem op_inT(hu:X.A.units+64<cLine):OpR X (compareOp .In) (rInT X.K):=by
 intro pins s σ H x y v u Q I rx ry h;obtain⟨d,es,hd,he,c1,c2,dp,q⟩:=h;obtain⟨a1,r1⟩:=hd.reads I rx;obtain⟨a2,r2⟩:=he.reads I ry;exact SeqAt.in_tuple_reads r2 r1 c2 c1 (by have:=Nat.min_le_right (Ed es) d.depth;omega) ⟨.bl _,H,I,rfl,q⟩
theorem call_max1'(K:Am)(hK:X.K=K)(hc:X.calm=true):CallR X (.builtin "max") (fun xs H Q=>∃(a:A3)(ns:List Int),xs=[V.ref a]/\SqL K H a (ns.map V.int)/\0<ns.length/\∀M,M∈ns->(∀n∈ns,n<=M)->Q (.int M) H):=hK▸ze9 hc
end
noncomputable def tDisp1T(tk tv:TE):TE:=fun σ H Q=>∀p,H p=none->tk σ (upd H p (.dT [])) fun x H1=>tv σ H1 fun y H2=>∃k b,H2 p=some (.dT [])/\x= .ref b/\H2 b=some (.tup (k.map kV))/\Q (.ref p) (upd H2 p (.dT [(k,y)]))
theorem pe_disp1T{X:Cx}{pos:Pos}{k v:Cb}{tk tv:TE}(hu:X.A.units+1<cLine)(hk:PE X k tk)(hv:PE X v tv):PE X (.Dict [some k] [v] pos) (tDisp1T tk tv):=by
 intro pins s σ H Q I q;have hn:=I.hok.fresh (Ab s.heap.objs.size);have I1:=I.laid (a:=s.heap.objs.size) (o:=.dT []) (h':=s.heap.push {cls:=.type "dict",data:=.dict #[]}) (t':=s.toks) (fun _ _ q=>A8 _ q) (Ab _) (zgh s.heap I.big);refine wpAny_Dict_any rfl rfl (by simp) (show 1<=15 by decide) (pairTrees_cons_walk (thnE (hk pins _ σ _ _ I1 (q _ hn)) fun u s1 x H1 J1 rx q1=>thnE (hv pins s1 σ H1 _ J1 q1) fun r s2 y H2 J2 ry⟨kk,b,hp,ex,hb,q2⟩=>pairTrees_nil_walk ?_));subst ex
 cases(show u=B1 b from rx)
 unfold PySem.storeAll;rw[L5];obtain⟨z,hd,xs,rel,dd⟩:=zhW J2.hok hp
 cases rel
 refine A1 (A1 (wpAny_dictSet_heap (knd:=tupleKind (mixKind X.prog X.w)) (hsz:=Bs _) (by show X.A.units<cLine;omega) (zdC J2.hok hb) dd fun h' dd' hs=>Ae ?_));dsimp only;rw[List.forIn_nil];refine Ae ⟨.ref s.heap.objs.size,_,?_,rfl,q2⟩;obtain⟨o,es,ep,h1,h2,h3,h4,_,h5⟩:=dd';refine zew J2 (by rw[hp];exact E8) hs ⟨o,h1⟩ ⟨show 1<=sizeLine from Bt (by decide) za0,hd,_,.cons ⟨rfl,?_,ry⟩ .nil,o,es,ep,h1,h2,h3,h4,h5⟩;rw[zah (zhR hb hp (fun z=>nomatch z))];exact hb
section
variable{X:Cx}{o i e value:Cb}{pos pos' tpos:Pos}{td ty tv:TE}
theorem pc_nnotin'(P:Ap)(w:Bd)(hP:X.prog=P)(hw:X.w=w)(hu:X.A.units+64<cLine)(hi:PE X i ty)(ho:PE X o td):PC X .NotIn i o (tNNotIn P w ty td):=by subst hP hw;exact pc_nnotin hu hi ho
theorem pe_nget'(P:Ap)(w:Bd)(hP:X.prog=P)(hw:X.w=w)(hu:X.A.units+64<cLine)(ho:PE X o td)(hi:PE X i ty)(hs:NoSl i):PE X (.Subscript o i pos) (tNGet P w td ty):=by subst hP hw;exact pe_nget hu ho hi hs
theorem ps_nput'(P:Ap)(w:Bd)(hP:X.prog=P)(hw:X.w=w)(hu:X.A.units+64<cLine)(ho:PE X o td)(hi:PE X i ty)(hv:PE X value tv)(hs:swapsWith value (some (.Subscript o i pos')) pos.line X.env=pure false):PS X (.Assign [.Subscript o i pos'] value pos) (sNPut P w td ty tv):=by subst hP hw;exact ps_nput hu ho hi hv hs
end
noncomputable def st1(C:Combs)(s t:Nat):Prop:=∃p∈stp C s,p.2.toNat=t
noncomputable def rch(C:Combs)(s:Nat):Nat->Nat->Prop
 |0,t=>t=s
 |n+1,t=>∃u,rch C s n u/\st1 C u t
theorem zht{C:Combs}(g:GC C){s t:Nat}(hs:s<128)(h:st1 C s t):t<128:=by
 obtain⟨p,hp,rfl⟩:=h;exact(zc0 g hs hp).2
theorem zcn{C:Combs}(g:GC C){s:Nat}(hs:s<128):∀{n t:Nat},rch C s n t->t<128
 |0,t,h=>by rw[show t=s from h];exact hs
 |n+1,t,⟨u,h1,h2⟩=>zht g (zcn g hs h1) h2
theorem zb5{C:Combs}{s m u:Nat}(h:rch C s m u):∀{n t:Nat},rch C u n t->rch C s (m+n) t
 |0,t,h2=>by rw[show t=u from h2];exact h
 |n+1,t,⟨v,h1,h2⟩=>⟨v,zb5 h h1,h2⟩
theorem zdr{C:Combs}{s m:Nat}:∀{n t:Nat},rch C s (m+n) t->∃u,rch C s m u/\rch C u n t
 |0,t,h=>⟨t,h,rfl⟩
 |n+1,t,⟨v,h1,h2⟩=>by
  obtain⟨u,a,b⟩:=zdr h1;exact⟨u,a,v,b,h2⟩
theorem zba{C:Combs}(g:GC C):∀{k t:Nat},t∈rowN C k↔rch C 0 k t
 |0,t=>A6
 |k+1,t=>by
  rw[show rowN C (k+1)=behN C (rowN C k) from rfl,beh_mem];constructor
  ·rintro⟨_,u,hu,p,hp,e⟩;exact⟨u,(zba g).mp hu,p,hp,e⟩
  ·rintro⟨u,hu,h⟩;exact⟨zht g (zcn g (by decide) hu) h,u,(zba g).mpr hu,h⟩
noncomputable def Fil(C:Combs)(n:Nat):Prop:=rch C 0 n 0
theorem zet(C:Combs):Fil C 0:=rfl
theorem zeu{C:Combs}{m n:Nat}(h1:Fil C m)(h2:Fil C n):Fil C (m+n):=zb5 h1 h2
theorem zdF{C:Combs}{m:Nat}(h:Fil C m):∀k,Fil C (k*m)
 |0=>by rw[Q3];exact zet C
 |k+1=>by rw[Gr];exact zeu (zdF h k) h
theorem zgH{C:Combs}{s:Nat}:∀{n t:Nat},rch C s n t->∃f:Nat->Nat,f n=t/\∀i,i<=n->rch C s i (f i)/\rch C (f i) (n-i) t
 |0,t,h=>⟨fun _=>t,rfl,fun i hi=>by
  have:i=0:=by omega
  subst this;exact⟨h,rfl⟩⟩
 |n+1,t,⟨u,h1,h2⟩=>by
  obtain⟨f,e,hf⟩:=zgH h1;refine⟨fun i=>if i<=n then f i else t,if_neg (by omega),fun i hi=>?_⟩;dsimp only;by_cases z:i<=n
  ·rw[if_pos z];refine⟨(hf i z).1,?_⟩;rw[show n+1-i=n-i+1 by omega];exact⟨u,(hf i z).2,h2⟩
  ·rw[if_neg z];have:i=n+1:=by omega
   subst this;rw[J4];exact⟨⟨u,h1,h2⟩,rfl⟩
theorem twice{f:Nat->Nat}(h:∀i,i<=128->f i<128):∃i j,i<j/\j<=128/\f i=f j:=by
 refine Dk fun z=>?_;have nd:((Af 129).map f).Nodup:=by
  rw[Ir,Bl,D8];intro i j hi hj hij e;rw[Nt,Nt] at e;rw[Ax] at hj;exact z ⟨i,j,hij,by omega,e⟩
 have:=zav 128 _ nd (fun x hx=>by
  obtain⟨i,hi,rfl⟩:=A7.mp hx;exact h i (by have:=Be.mp hi;omega))
 rw[A4,Ax] at this;omega
theorem ze6{C:Combs}(g:GC C):∀(n:Nat),Fil C n->1<=n->∃m,1<=m/\m<=128/\Fil C m:=by
 intro n
 induction n using P3 with
 |_ n ih=>
  intro h h1;by_cases hn:n<=128
  ·exact⟨n,h1,hn,h⟩
  obtain⟨f,e,hf⟩:=zgH h;obtain⟨i,j,hij,hj,ef⟩:=twice (f:=f) fun i hi=>zcn g (by decide) (hf i (by omega)).1;have a:=(hf i (by omega)).1;have b:=(hf j (by omega)).2;rw[<-ef] at b;exact ih (i+(n-j)) (by omega) (zb5 a b) (by omega)
noncomputable def HR(C:Combs)(k s:Nat):Prop:=rch C 0 k s/\∃n,rch C s n 0
theorem hr_zero(C:Combs)(s:Nat):HR C 0 s↔s=0:=⟨fun h=>h.1,fun h=>⟨h,0,h.symm⟩⟩
theorem zfv{C:Combs}(k t:Nat):HR C (k+1) t↔(∃s,HR C k s/\st1 C s t)/\∃n,rch C t n 0:=by
 constructor
 ·rintro⟨⟨u,h1,h2⟩,n,h3⟩;have h4:rch C u 1 t:=⟨u,rfl,h2⟩;exact⟨⟨u,⟨h1,1+n,zb5 h4 h3⟩,h2⟩,n,h3⟩
 ·rintro⟨⟨u,⟨h1,_⟩,h2⟩,h3⟩;exact⟨⟨u,h1,h2⟩,h3⟩
theorem zg4{C:Combs}{k:Nat}:HR C k 0↔Fil C k:=⟨fun h=>h.1,fun h=>⟨h,0,rfl⟩⟩
theorem zg3{C:Combs}{i j:Nat}(h:∀s,HR C i s↔HR C j s):∀k s,HR C (i+k) s↔HR C (j+k) s
 |0,s=>h s
 |k+1,s=>by
  have ih:=zg3 h k;rw[<-F9,<-F9,zfv,zfv];constructor
  ·rintro⟨⟨u,h1,h2⟩,h3⟩;exact⟨⟨u,(ih u).mp h1,h2⟩,h3⟩
  ·rintro⟨⟨u,h1,h2⟩,h3⟩;exact⟨⟨u,(ih u).mpr h1,h2⟩,h3⟩
theorem hr_turn{C:Combs}{t:Nat}(h:Fil C t){k s:Nat}(hk:HR C k s):HR C (t+k) s:=⟨zb5 h hk.1,hk.2⟩
open Classical in
theorem zgb{C:Combs}(g:GC C){M:Nat}(nd:∀i j,i<j->j<=M->¬∀s,HR C i s↔HR C j s):M<=16512:=by
 refine E7 fun big=>?_;by_cases ht:∃t,1<=t/\t<=128/\Fil C t
 ·obtain⟨t,t1,t2,hf⟩:=ht
  let A:Nat->List Nat:=fun j=>(Af 128).filter fun s=>decide (HR C (j*t) s)
  have less:∀j,j<129->(A j).length<(A (j+1)).length:=fun j hj=>by
   have hm:∀s,HR C (j*t) s->HR C ((j+1)*t) s:=fun s h=>by
    rw[Gr,Ha];exact hr_turn hf h
   have hle:(j+1)*t<=129*128:=Nat.mul_le_mul (by omega) t2;have hne:¬∀s,HR C (j*t) s↔HR C ((j+1)*t) s:=nd _ _ (by rw[Gr];omega) (by omega);have ex:∃s,HR C ((j+1)*t) s/\¬HR C (j*t) s:=Dk fun z=>hne fun s=>⟨hm s,fun h=>Dk fun y=>z ⟨s,h,y⟩⟩;obtain⟨s,h1,h2⟩:=ex;have hs:s<128:=zcn g (by decide) h1.1;have sub:∀x∈s::A j,x∈A (j+1):=fun x hx=>by
    rcases Ba.mp hx with rfl|hx
    ·exact Bc.mpr ⟨Be.mpr hs,decide_eq_true h1⟩
    ·obtain⟨a,b⟩:=Bc.mp hx;exact Bc.mpr ⟨a,decide_eq_true (hm x (of_decide_eq_true b))⟩
   have n1:(s::A j).Nodup:=Dn.mpr ⟨fun z=>h2 (of_decide_eq_true (Bc.mp z).2),List.nodup_range.sublist Cw⟩;have:=zdc n1 sub;rw[Av] at this;omega
  have up:∀j,j<=129->j<=(A j).length:=fun j=>by
   induction j with
   |zero=>exact fun _=>Bs _
   |succ j ih=>exact fun h=>by have:=ih (by omega);have:=less j (by omega);omega
  have h1:=up 129 (by omega);have h2:(A 129).length<=128:=Bt (Cp _ _) (by rw[Ax];exact Ab _);omega
 ·have none:∀k,1<=k->∀s,¬HR C k s:=fun k hk s⟨h1,n,h2⟩=>by
   obtain⟨m,a,b,c⟩:=ze6 g (k+n) (zb5 h1 h2) (by omega);exact ht ⟨m,a,b,c⟩
  exact nd 1 2 (by omega) (by omega) fun s=>⟨fun h=>absurd h (none 1 (by omega) s),fun h=>absurd h (none 2 (by omega) s)⟩
theorem zch(C:Combs)(P:Nat×Str->Bool)(q:Nat):∀l:List (Nat×Str),cov C (l.filter P) q=(l.map fun x=>if P x=true then ind (hit C x q) else 0).sum
 |[]=>rfl
 |x::l=>by
  have ih:=zch C P q l;rw[C8,At,Eh,<-ih]
  split
  ·unfold cov;rw[At,Eh]
  ·rw[Mu]
theorem cov_app(C:Combs)(l m:List (Nat×Str))(q:Nat):cov C (l++m) q=cov C l q+cov C m q:=by
 unfold cov;rw[B7,L4]
noncomputable def inOrder(l:List (Nat×Str))(p:Nat):List (Nat×Str):=(Af p).flatMap fun j=>l.filter fun x=>decide (x.1=j)
theorem zc5(l:List (Nat×Str))(p:Nat):inOrder l (p+1)=inOrder l p++l.filter fun x=>decide (x.1=p):=by
 unfold inOrder;rw[Dy,List.flatMap_append];simp
theorem zgs{α:Type}(f g:α->Nat):∀l:List α,(l.map f).sum+(l.map g).sum=(l.map fun x=>f x+g x).sum
 |[]=>rfl
 |a::l=>by
  have:=zgs f g l;simp only[At,Eh];omega
theorem zfM{α:Type}{f g:α->Nat}{l:List α}(h:∀x∈l,f x=g x):(l.map f).sum=(l.map g).sum:=by
 rw[Cg h]
theorem zdH(C:Combs)(l:List (Nat×Str))(q:Nat):∀p,cov C (inOrder l p) q=cov C (l.filter fun x=>decide (x.1<p)) q
 |0=>by
  rw[List.filter_eq_nil_iff.mpr (fun x _=>by rw[decide_eq_true_eq];omega)];rfl
 |p+1=>by
  rw[zc5,cov_app,zdH C l q p,zch,zch,zch,zgs];refine zfM fun x _=>?_;by_cases h1:x.1<p
  ·rw[decide_eq_true h1,decide_eq_false (show¬x.1=p by omega),decide_eq_true (show x.1<p+1 by omega)];rfl
  ·by_cases h2:x.1=p
   ·rw[decide_eq_false h1,decide_eq_true h2,decide_eq_true (show x.1<p+1 by omega)];simp
   ·rw[decide_eq_false h1,decide_eq_false h2,decide_eq_false (show¬x.1<p+1 by omega)];rfl
noncomputable def Lay(C:Combs)(l:List (Nat×Str)):Prop:=∀x∈l,x.2∈C.map (·.1)
theorem zhp{C:Combs}(nd:(C.map (·.1)).Nodup){x:Str}(h:x∈C.map (·.1)):∃c∈C,c.1=x/\tkOf C x=c.2:=by
 obtain⟨c,hc,rfl⟩:=A7.mp h;exact⟨c,hc,rfl,by unfold tkOf;rw[zcs nd hc];rfl⟩
theorem zgc{C:Combs}(g:GC C)(nd:(C.map (·.1)).Nodup){x:Nat×Str}(h:x.2∈C.map (·.1)):hit C x x.1=true:=by
 obtain⟨c,hc,e,e2⟩:=zhp nd h;unfold hit;rw[e2,decide_eq_true (Ab _),J4,decide_eq_true (show((0:Nat):Int)∈c.2 from zcY (g c hc))];rfl
theorem cov_one{C:Combs}{l:List (Nat×Str)}{x:Nat×Str}(hx:x∈l){q:Nat}(h:hit C x q=true):1<=cov C l q:=by
 induction l with
 |nil=>cases hx
 |cons y l ih=>
  unfold cov;rw[At,Eh];rcases Ba.mp hx with rfl|hx
  ·rw[h];show 1<=1+_;omega
  ·have:=ih hx;unfold cov at this;omega
theorem filter_cov{C:Combs}(g:GC C)(nd:(C.map (·.1)).Nodup){l:List (Nat×Str)}(hl:Lay C l)(j:Nat):(l.filter fun x=>decide (x.1=j)).length<=cov C l j:=by
 induction l with
 |nil=>exact Bs _
 |cons y l ih=>
  have ih:=ih fun x hx=>hl x (Ac _ hx);unfold cov at ih⊢;rw[At,Eh,C8];by_cases e:y.1=j
  ·have:=zgc g nd (hl y Aj);rw[e] at this;rw[if_pos (decide_eq_true e),Av,this];show _<=1+_;omega
  ·rw[if_neg (by rw[decide_eq_true_eq];exact e)];omega
theorem zdD{C:Combs}(g:GC C)(nd:(C.map (·.1)).Nodup){l:List (Nat×Str)}(hl:Lay C l):∀p,(∀q,q<p->cov C l q<=1)->inOrder l p∈chs C p
 |0,_=>A6.mpr rfl
 |p+1,h=>by
  have ih:=zdD g nd hl p fun q hq=>h q (by omega);have h1:=Bt (filter_cov g nd hl p) (h p (by omega));rw[zc5];refine Dq.mpr ⟨_,ih,?_⟩
  cases e:l.filter fun x=>decide (x.1=p) with
  |nil=>rw[C1];exact Aj
  |cons x m=>
   rw[e,Av] at h1;have hm:m=[]:=Kv (by omega);subst hm;have hx:x∈l.filter fun x=>decide (x.1=p):=by rw[e];exact A6.mpr rfl
   obtain⟨h2,h3⟩:=Bc.mp hx;obtain⟨c,hc,ec⟩:=A7.mp (hl x h2);refine Ac _ (A7.mpr ⟨c,hc,?_⟩);rw[ec,<-of_decide_eq_true h3]
noncomputable def Cover(C:Combs)(l:List (Nat×Str))(n:Nat):Prop:=∀q,cov C l q=if q<n then 1 else 0
theorem Cover.below{C:Combs}(g:GC C)(nd:(C.map (·.1)).Nodup){l:List (Nat×Str)}{n:Nat}(hl:Lay C l)(h:Cover C l n){x:Nat×Str}(hx:x∈l){q:Nat}(hq:hit C x q=true):q<n:=by
 have h1:=cov_one hx hq;rw[h q] at h1;by_cases z:q<n
 ·exact z
 ·rw[if_neg z] at h1;omega
theorem zei{C:Combs}(g:GC C){l:List (Nat×Str)}{n:Nat}(hl:l∈chs C n):(OkC C l n/\shp C l n=0)↔Cover C l n:=by
 constructor
 ·rintro⟨⟨h1,h2⟩,h3⟩q;by_cases z:q<n
  ·rw[if_pos z];exact h1 q z
  ·rw[if_neg z];have h4:=zaJ g hl (q-n);rw[h3,Gi,show n+(q-n)=q by omega] at h4;have h5:=of_decide_eq_false h4.symm;by_cases y:q<n+8
   ·have:=h2 q y;omega
   ·exact zcw g hl (by omega)
 ·intro h;refine⟨⟨fun q hq=>by rw[h q,if_pos hq],fun q _=>by rw[h q];split<;>omega⟩,zcy fun d=>?_⟩;rw[zaJ g hl,h,if_neg (by omega),Gi];rfl
theorem ze7{C:Combs}(g:GC C)(nd:(C.map (·.1)).Nodup){n:Nat}:Fil C n↔∃l,Lay C l/\Cover C l n:=by
 unfold Fil;rw[<-zba g,zhk g nd];constructor
 ·rintro⟨l,hl,h⟩;exact⟨l,fun x hx=>(zdJ hl x hx).2,(zei g hl).mp h⟩
 ·rintro⟨l,hl,h⟩;have hi:=zdD g nd hl n fun q hq=>by rw[h q];split<;>omega
  have hc:Cover C (inOrder l n) n:=fun q=>by
   rw[zdH,<-h q,Ch.mpr];intro x hx;exact decide_eq_true (h.below g nd hl hx (zgc g nd (hl x hx)))
  exact⟨inOrder l n,hi,(zei g hi).mpr hc⟩
noncomputable def mxT(ts:List Int):Int:=ts.foldl max 0
noncomputable def turnT(ts:List Int):List Int:=canon (ts.map fun t=>mxT ts-t)
noncomputable def turnC(C:Combs):Combs:=C.map fun c=>(c.1,turnT c.2)
theorem zdu{ts:List Int}(g:GT ts):mxT ts∈ts/\(∀t∈ts,t<=mxT ts)/\0<=mxT ts/\mxT ts<=7:=by
 obtain⟨h1,h2,h3⟩:=fold_max ts 0;have hm:mxT ts∈ts:=by
  rcases h3 with z|z
  ·unfold mxT;rw[z];exact zcY g
  ·exact z
 exact⟨hm,h1,h2,(zca g _ hm).2⟩
theorem zcL{ts:List Int}(g:GT ts){t:Int}:t∈turnT ts↔mxT ts-t∈ts:=by
 obtain⟨h1,h2,h3,h4⟩:=zdu g;unfold turnT;rw[mem_canon,A7];constructor
 ·rintro⟨⟨u,hu,rfl⟩,_⟩;rw[show mxT ts-(mxT ts-u)=u by omega];exact hu
 ·intro h;have:=h2 _ h;have:=zca g _ h;exact⟨⟨_,h,by omega⟩,by omega,by omega⟩
theorem zdE{ts:List Int}(g:GT ts):GT (turnT ts):=zgf (A7.mpr ⟨mxT ts,(zdu g).1,by omega⟩)
theorem mx_turn{ts:List Int}(g:GT ts):mxT (turnT ts)=mxT ts:=by
 obtain⟨h1,h2,h3,h4⟩:=zdu g;obtain⟨k1,k2,k3,k4⟩:=zdu (zdE g);have a:mxT ts∈turnT ts:=(zcL g).mpr (by rw[Int.sub_self];exact zcY g);have b:=k2 _ a;have c:=zca g _ ((zcL g).mp k1);omega
theorem lt_ext{a b:List Int}(ha:a.Pairwise (· < ·))(hb:b.Pairwise (· < ·))(h:∀t,t∈a↔t∈b):a=b:=
 zbt ((D5 (zaR ha) (zaR hb)).mpr h) (ha.imp fun h=>by omega) (hb.imp fun h=>by omega)
theorem turn_turn{ts:List Int}(g:GT ts):turnT (turnT ts)=ts:=by
 refine lt_ext (zer (zdE (zdE g))) (zer g) fun t=>?_;rw[zcL (zdE g),zcL g,mx_turn g,show mxT ts-(mxT ts-t)=t by omega]
theorem zbL(C:Combs):(turnC C).map (·.1)=C.map (·.1):=by
 unfold turnC;rw[Bb];rfl
theorem zed{C:Combs}(g:GC C):GC (turnC C):=fun c hc=>by
 obtain⟨d,hd,rfl⟩:=A7.mp hc;exact zdE (g d hd)
theorem turnC_turnC{C:Combs}(g:GC C):turnC (turnC C)=C:=by
 unfold turnC;rw[Bb]
 conv=>rhs;rw[<-Gk C]
 refine Cg fun c hc=>?_;show(c.1,turnT (turnT c.2))=c;rw[turn_turn (g c hc)]
theorem tk_turn{C:Combs}(nd:(C.map (·.1)).Nodup){x:Str}(h:x∈C.map (·.1)):tkOf (turnC C) x=turnT (tkOf C x):=by
 obtain⟨c,hc,rfl,e⟩:=zhp nd h;have nd':((turnC C).map (·.1)).Nodup:=by rw[zbL];exact nd
 have hc':(c.1,turnT c.2)∈turnC C:=A7.mpr ⟨c,hc,rfl⟩;rw[e];unfold tkOf;rw[zcs nd' hc'];rfl
noncomputable def mir(C:Combs)(n:Nat)(x:Nat×Str):Nat×Str:=(n-1-x.1-(mxT (tkOf C x.2)).toNat,x.2)
theorem hit_mir{C:Combs}(g:GC C)(nd:(C.map (·.1)).Nodup){n:Nat}{x:Nat×Str}(h:x.2∈C.map (·.1))(hin:x.1+(mxT (tkOf C x.2)).toNat<n)(q:Nat):hit (turnC C) (mir C n x) q=(decide (q<n)&&hit C x (n-1-q)):=by
 obtain⟨c,hc,e,e2⟩:=zhp nd h;have gc:=g c hc;obtain⟨h1,h2,h3,h4⟩:=zdu gc;unfold hit mir;dsimp only;rw[e2] at hin;rw[tk_turn nd h,e2];rw[Ay,Bu,Bu,Bu,decide_eq_true_eq,decide_eq_true_eq,decide_eq_true_eq,decide_eq_true_eq,decide_eq_true_eq,zcL gc];constructor
 ·rintro⟨a,b⟩;have b1:=zca gc _ b;refine⟨by omega,by omega,?_⟩;rw[show((n-1-q-x.1:Nat):Int)=mxT c.2-((q-(n-1-x.1-(mxT c.2).toNat):Nat):Int) by omega];exact b
 ·rintro⟨a,b,d⟩;have d1:=h2 _ d;refine⟨by omega,?_⟩;rw[show mxT c.2-((q-(n-1-x.1-(mxT c.2).toNat):Nat):Int)=((n-1-q-x.1:Nat):Int) by omega];exact d
theorem cover_in{C:Combs}(g:GC C)(nd:(C.map (·.1)).Nodup){l:List (Nat×Str)}{n:Nat}(hl:Lay C l)(h:Cover C l n){x:Nat×Str}(hx:x∈l):x.1+(mxT (tkOf C x.2)).toNat<n:=by
 obtain⟨c,hc,e,e2⟩:=zhp nd (hl x hx);obtain⟨h1,_,h3,_⟩:=zdu (g c hc);refine h.below g nd hl hx ?_;unfold hit;rw[e2,decide_eq_true (by omega),decide_eq_true]
 ·rfl
 ·rw[show((x.1+(mxT c.2).toNat-x.1:Nat):Int)=mxT c.2 by omega];exact h1
theorem cover_mir{C:Combs}(g:GC C)(nd:(C.map (·.1)).Nodup){l:List (Nat×Str)}{n:Nat}(hl:Lay C l)(h:Cover C l n):Lay (turnC C) (l.map (mir C n))/\Cover (turnC C) (l.map (mir C n)) n:=by
 refine⟨fun y hy=>?_,fun q=>?_⟩
 ·obtain⟨x,hx,rfl⟩:=A7.mp hy;rw[zbL];exact hl x hx
 ·have e:cov (turnC C) (l.map (mir C n)) q=(l.map fun x=>ind (decide (q<n)&&hit C x (n-1-q))).sum:=by
   unfold cov;rw[Bb];refine zfM fun x hx=>?_;show ind (hit (turnC C) (mir C n x) q)=_;rw[hit_mir g nd (hl x hx) (cover_in g nd hl h hx)]
  rw[e];by_cases z:q<n
  ·rw[if_pos z,decide_eq_true z];have:=h (n-1-q);rw[if_pos (by omega)] at this;exact this
  ·rw[if_neg z,decide_eq_false z];exact zfL fun _ _=>rfl
theorem fil_turn{C:Combs}(g:GC C)(nd:(C.map (·.1)).Nodup){n:Nat}:Fil (turnC C) n↔Fil C n:=by
 have nd':((turnC C).map (·.1)).Nodup:=by rw[zbL];exact nd
 have one:∀{C:Combs},GC C->(C.map (·.1)).Nodup->Fil C n->Fil (turnC C) n:=fun{C}g nd h=>by
  obtain⟨l,h1,h2⟩:=(ze7 g nd).mp h;exact(ze7 (zed g) (by rw[zbL];exact nd)).mpr ⟨_,cover_mir g nd h1 h2⟩
 refine⟨fun h=>?_,one g nd⟩;have:=one (zed g) nd' h;rwa[turnC_turnC g] at this
noncomputable def tFrz(i:Nat)(te:TE):TE:=fun σ H Q=>∃a kvs,σ[i]?=some (some (.ref a))/\H a=some (.dK kvs)/\∀o,te σ (upd H a (.frz o (.dK kvs))) fun v H'=>H' a=some (.frz o (.dK kvs))/\Q v (upd H' a (.dK kvs))
theorem pe_frz{X:Cx}{i:Nat}{e:Cb}{te:TE}(h:PE X e te):PE X e (tFrz i te):=by
 intro pins s σ H Q I q;obtain⟨a,kvs,_,ha,q⟩:=q;have h0:∀o u,X.H₀ a≠some (.frz o u):=fun o u z=>by
  have:=I.base.frzs a o u z;rw[ha] at this
  cases this
 obtain⟨o,_,I1⟩:=I.freeze ha;refine thnE (h pins s σ _ _ I1 (q o)) fun r s1 v H1 I2 rv⟨ha1,q1⟩=>?_;exact⟨v,_,I2.unfreeze ha1 h0,rv,q1⟩
noncomputable def Fst(C:Combs)(t ℓ s:Nat):Prop:=rch C 0 ℓ s/\∀ℓ',ℓ'<ℓ->ℓ'%t=ℓ%t->¬rch C 0 ℓ' s
theorem zfx{C:Combs}{t ℓ u:Nat}(h:Fst C t (ℓ+1) u):∃s,Fst C t ℓ s/\st1 C s u:=by
 obtain⟨⟨s,h1,h2⟩,h3⟩:=h;refine⟨s,⟨h1,fun ℓ' hl hm hr=>h3 (ℓ'+1) (by omega) ?_ ⟨s,hr,h2⟩⟩,h2⟩;rw[L3,hm,<-L3]
theorem fst_down{C:Combs}{t:Nat}{ℓ u:Nat}:∀k,Fst C t (ℓ+k) u->∃s,Fst C t ℓ s
 |0,h=>⟨u,h⟩
 |k+1,h=>by
  have h:Fst C t (ℓ+k+1) u:=h;obtain⟨s,h1,_⟩:=zfx h;exact fst_down' k h1
where fst_down' {C:Combs} {t:Nat} {ℓ:Nat}:∀{u:Nat}(k:Nat),Fst C t (ℓ+k) u->∃s,Fst C t ℓ s
 |u,0,h=>⟨u,h⟩
 |u,k+1,h=>by
  obtain⟨s,h1,_⟩:=zfx (show Fst C t (ℓ+k+1) u from h);exact fst_down' k h1
theorem rch_fst{C:Combs}{t:Nat}:∀(n:Nat){s:Nat},rch C 0 n s->∃ℓ,ℓ<=n/\ℓ%t=n%t/\Fst C t ℓ s:=by
 intro n
 induction n using P3 with
 |_ n ih=>
  intro s h;by_cases z:∀ℓ',ℓ'<n->ℓ'%t=n%t->¬rch C 0 ℓ' s
  ·exact⟨n,Ab _,rfl,h,z⟩
  ·have:∃ℓ',ℓ'<n/\ℓ'%t=n%t/\rch C 0 ℓ' s:=Classical.byContradiction fun y=>z fun ℓ' a b c=>y ⟨ℓ',a,b,c⟩;obtain⟨ℓ',a,b,c⟩:=this;obtain⟨ℓ,h1,h2,h3⟩:=ih ℓ' a c;exact⟨ℓ,by omega,by omega,h3⟩
noncomputable def LeastL(C:Combs)(t N:Nat)(l:List (Nat×Nat)):Prop:=(l.map (·.1)).Nodup/\∀r ℓ,(r,ℓ)∈l↔ℓ<N/\r=ℓ%t/\Fst C t ℓ 0
theorem zb9{C:Combs}{t N:Nat}(ht:Fil C t){l:List (Nat×Nat)}(h:LeastL C t N l)(hN:∀s,¬Fst C t N s)(n:Nat):Fil C n↔∃ℓ,(n%t,ℓ)∈l/\ℓ<=n:=by
 constructor
 ·intro hf;obtain⟨ℓ,h1,h2,h3⟩:=rch_fst (t:=t) n hf;refine⟨ℓ,(h.2 _ _).mpr ⟨?_,h2.symm,h3⟩,h1⟩;refine E7 fun z=>?_;have:ℓ=N+(ℓ-N):=by omega
  rw[this] at h3;obtain⟨s,hs⟩:=fst_down (ℓ-N) h3;exact hN s hs
 ·rintro⟨ℓ,h1,h2⟩;obtain⟨_,h3,h4⟩:=(h.2 _ _).mp h1;have e:n=n / t*t-ℓ / t*t+ℓ:=by
   have a:=F5 n t;have b:=F5 ℓ t;have c:ℓ / t<=n / t:=Nat.div_le_div_right h2;have d:ℓ / t*t<=n / t*t:=Fk _ c;rw[J5] at a b;omega
  rw[e,<-Nat.mul_sub_right_distrib];exact zeu (zdF ht _) h4.1
noncomputable def InR(C:Combs)(t x:Nat):Prop:=∃m,Fil C m/\m%t=x%t
theorem inr_mul{C:Combs}{t x:Nat}(h:InR C t x)(k:Nat):InR C t (k*x):=by
 obtain⟨m,h1,h2⟩:=h;exact⟨k*m,zdF h1 k,by rw[Kz,h2,<-Kz]⟩
theorem inr_mod{C:Combs}{t a b:Nat}(h1:1<=t)(ha:InR C t a)(hb:InR C t b):InR C t (a%b):=by
 obtain⟨ma,a1,a2⟩:=ha;obtain⟨mb,b1,b2⟩:=hb;refine⟨ma+(t-1)*(a / b)*mb,zeu a1 (zdF b1 _),?_⟩;have e1:(ma+(t-1)*(a / b)*mb)%t=(a+(t-1)*(a / b)*b)%t:=by
  rw[L3,a2,Kz ((t-1)*(a / b)) mb,b2,<-Kz,<-L3]
 have e2:a+(t-1)*(a / b)*b=a%b+t*(a / b*b):=by
  obtain⟨t',rfl⟩:∃t',t=t'+1:=⟨t-1,by omega⟩;have h:=F5 a b;rw[J5] at h;rw[K7,Nat.mul_assoc,Gr];generalize t'*(a / b*b)=x;omega
 rw[e1,e2,Nat.add_mul_mod_self_left]
theorem inr_gcd{C:Combs}{t a b:Nat}(h1:1<=t):InR C t a->InR C t b->InR C t (Hr a b):=by
 refine Nat.gcd.induction (P:=fun a b=>InR C t a->InR C t b->InR C t (Hr a b)) a b (fun n _ hn=>by rw[Nat.gcd_zero_left];exact hn) fun m n _ ih ha hb=>?_;rw[Rg];exact ih (inr_mod h1 hb ha) ha
noncomputable def stepOf(t:Nat)(l:List (Nat×Nat)):Nat:=l.foldl (fun g x=>Hr g x.1) t
theorem zfN:∀(l:List (Nat×Nat))(t:Nat),stepOf t l∣t/\∀x∈l,stepOf t l∣x.1
 |[],t=>⟨Q8 _,fun x hx=>by cases hx⟩
 |a::l,t=>by
  obtain⟨h1,h2⟩:=zfN l (Hr t a.1);refine⟨M7 h1 (Nat.gcd_dvd_left _ _),fun x hx=>?_⟩;rcases Ba.mp hx with rfl|hx
  ·exact M7 h1 (Nat.gcd_dvd_right _ _)
  ·exact h2 x hx
theorem zgu{C:Combs}{t:Nat}(h1:1<=t):∀(l:List (Nat×Nat))(u:Nat),InR C t u->(∀x∈l,InR C t x.1)->InR C t (stepOf u l)
 |[],u,h,_=>h
 |a::l,u,h,hl=>zgu h1 l _ (inr_gcd h1 h (hl a Aj)) fun x hx=>hl x (Ac _ hx)
structure FlushD(C:Combs)(upto step:Nat):Prop where
 pos:1<=step
 dvd:∀n,Fil C n->step∣n
 above:∀n,upto<n->step∣n->Fil C n
 gap:upto=0\/(¬Fil C upto/\∃t,1<=t/\∀j,1<=j->Fil C (upto+j*t))
 some:∃t,1<=t/\Fil C t
 mul:step∣upto
theorem flush_of{C:Combs}{t N:Nat}(h1:1<=t)(ht:Fil C t){l:List (Nat×Nat)}(h:LeastL C t N l)(hN:∀s,¬Fst C t N s){M:Nat}(hM:∃r,(r,M)∈l)(hmax:∀x∈l,x.2<=M):FlushD C (M-t) (stepOf t l):=by
 obtain⟨d1,d2⟩:=zfN l t;have fil:∀n,Fil C n->stepOf t l∣n:=fun n hn=>by
  obtain⟨ℓ,hl,_⟩:=(zb9 ht h hN n).mp hn;have h3:=d2 _ hl;have h4:=F5 n t;rw[<-h4];exact Nat.dvd_add (M7 d1 (Nat.dvd_mul_right _ _)) h3
 have inl:InR C t (stepOf t l):=zgu h1 l t ⟨t,ht,rfl⟩ fun x hx=>by
  obtain⟨r,ℓ⟩:=x;obtain⟨_,e,hf⟩:=(h.2 r ℓ).mp hx;exact⟨ℓ,hf.1,by rw[e,Nat.mod_mod]⟩
 have pos:1<=stepOf t l:=Nat.pos_of_dvd_of_pos d1 h1;obtain⟨r,hr⟩:=hM;obtain⟨_,er,hf⟩:=(h.2 r M).mp hr;have mulT:∀j,Fil C (M+j*t):=fun j=>by rw[Ha];exact zeu (zdF ht j) hf.1
 refine⟨pos,fil,fun n hn hd=>?_,?_,⟨t,h1,ht⟩,?_⟩
 ·obtain⟨k,rfl⟩:=hd;obtain⟨m,m1,m2⟩:=inr_mul inl k;rw[J5] at m2;obtain⟨ℓ,hl,hle⟩:=(zb9 ht h hN m).mp m1;refine(zb9 ht h hN _).mpr ⟨ℓ,by rw[<-m2];exact hl,?_⟩;have h2:=hmax _ hl;obtain⟨_,e,_⟩:=(h.2 _ _).mp hl;have h3:=F5 ℓ t;have h4:=F5 (stepOf t l*k) t;rw[<-m2,e] at h4;dsimp only at h2;refine E7 fun z=>?_;have h5:stepOf t l*k / t<ℓ / t:=by
   refine E7 fun y=>?_;have:=Nq t (show ℓ / t<=stepOf t l*k / t by omega);omega
  have h6:=Nq t (show stepOf t l*k / t+1<=ℓ / t by omega);rw[Nat.mul_add,Nat.mul_one] at h6;omega
 ·by_cases z:M<=t
  ·exact .inl (by omega)
  ·refine .inr ⟨fun hu=>hf.2 (M-t) (by omega) ?_ hu,t,h1,fun j hj=>?_⟩
   ·conv=>rhs;rw[show M=M-t+t by omega,Nat.add_mod_right]
   ·have:=mulT (j-1);rw[Nat.sub_mul,Re] at this;have h2:=Fk t hj;rw[Re] at h2;rw[show M-t+j*t=M+(j*t-t) by omega];exact this
 ·by_cases z:M<=t
  ·rw[show M-t=0 by omega];exact Nat.dvd_zero _
  ·exact(Nat.dvd_sub (fil M hf.1) d1)
theorem fil_perm{C C':Combs}(g:GC C)(g':GC C')(p:C.Perm C')(n:Nat):Fil C n↔Fil C' n:=by
 unfold Fil;rw[<-zba g,<-zba g',zeI p]
theorem forD_g{a:A3}{o:Obj}{kvs:List (Key×V)}{g:TG}{tb:TS}{D:Ends}{σ:St}{H:Hp}(Pv:Nat->St->Hp->Prop)(h0:Pv 0 σ H)(hk:∀i σ H,Pv i σ H->H a=some (.frz o (.dK kvs)))
  (hs:∀i k y σ H,kvs[i]?=some (k,y)->Pv i σ H->g (kV k) σ H fun σ2 H2=>tb {D with nx:=Pv (i+1),ct:=Pv (i+1),bk:=D.nx} σ2 H2) (hd:∀σ H,Pv kvs.length σ H->D.nx σ H):
  ∃W:Nat->Nat->St->Hp->Prop,(∃m,W 0 m σ H)/\∀j m σ H,W j m σ H->((Itd a o kvs).stop j H/\D.nx σ H)\/((Itd a o kvs).go j H/\∃N:St->Hp->Prop,(∀σ' H',N σ' H'->∃m',m'<m/\W (j+1) m' σ' H')/\
   ∀x H',(Itd a o kvs).yld j H x H'->g x σ H' fun σ2 H2=>tb {D with nx:=N,ct:=N,bk:=D.nx} σ2 H2):=by
 refine⟨fun j m σ H=>m=kvs.length-j/\j<=kvs.length/\Pv j σ H,⟨_,rfl,Bs _,h0⟩,?_⟩;rintro j m σ H⟨rfl,hj,p⟩;by_cases hlt:j<kvs.length
 ·refine .inr ⟨⟨hk _ _ _ p,hlt⟩,Pv (j+1),fun σ' H' p'=>⟨kvs.length-(j+1),by omega,rfl,hlt,p'⟩,?_⟩;rintro x H'⟨rfl,k,y,e1,rfl⟩;exact hs j k y σ _ e1 p
 ·have e:j=kvs.length:=by omega
  subst e;exact .inl ⟨⟨hk _ _ _ p,Ab _⟩,hd σ H p⟩
noncomputable def Wy(C:Combs):Nat->Nat->Nat
 |0,s=>if s=0 then 1 else 0
 |k+1,s=>((stp C s).map fun p=>Wy C k p.2.toNat).sum
noncomputable def bh(x:Str)(A B:Nat->Nat)(p:Str×Int):Nat:=if p.1=x then A p.2.toNat else B p.2.toNat
theorem zgr{α:Type}{l:List α}{f:α->Nat}:0<(l.map f).sum↔∃x∈l,0<f x:=by
 induction l with
 |nil=>simp
 |cons a l ih=>
  rw[At,Eh];constructor
  ·intro h;by_cases z:0<f a
   ·exact⟨a,Aj,z⟩
   ·obtain⟨x,hx,h'⟩:=ih.mp (by omega);exact⟨x,Ac _ hx,h'⟩
  ·rintro⟨x,hx,h⟩;rcases Ba.mp hx with rfl|hx
   ·omega
   ·have:=ih.mpr ⟨x,hx,h⟩;omega
theorem Wy_pos{C:Combs}:∀{k s:Nat},0<Wy C k s↔rch C s k 0
 |0,s=>by
  show 0<(if s=0 then 1 else 0)↔0=s;by_cases h:s=0
  ·rw[if_pos h];exact⟨fun _=>h.symm,fun _=>by omega⟩
  ·rw[if_neg h];exact⟨fun z=>by omega,fun z=>absurd z.symm h⟩
 |k+1,s=>by
  show 0<((stp C s).map fun p=>Wy C k p.2.toNat).sum↔_;rw[zgr];constructor
  ·rintro⟨p,hp,h⟩;have h1:rch C s 1 p.2.toNat:=⟨s,rfl,p,hp,rfl⟩;have:=zb5 h1 (Wy_pos.mp h);rwa[Ha] at this
  ·intro h;rw[Ha] at h;obtain⟨u,⟨v,e,p,hp,hu⟩,h2⟩:=zdr h;rw[show v=s from e] at hp;subst hu;exact⟨p,hp,Wy_pos.mpr h2⟩
structure Sel(C:Combs)(x:Str)(B:Nat->Nat->Nat):Prop where
 zero:∀s,0<B 0 s->s=0
 succ:∀k s,B (k+1) s=((stp C s).map (bh x (Wy C k) (B k))).sum
noncomputable def ro(C:Combs)(B:Nat->Nat->Nat)(fl:Bool)(k:Nat):Nat->Nat:=if fl=true then Wy C k else B k
noncomputable def sel(C:Combs)(x:Str)(B:Nat->Nat->Nat)(s:Nat)(fl:Bool)(k:Nat):Option (Str×Int):=(stp C s).find? fun p=>decide (0<bh x (Wy C k) (ro C B fl k) p)
noncomputable def fw(C:Combs)(x:Str)(B:Nat->Nat->Nat)(n:Nat):Nat->Nat×Bool
 |0=>(0,false)
 |i+1=>match sel C x B (fw C x B n i).1 (fw C x B n i).2 (n-1-i) with
  |some p=>(p.2.toNat,(fw C x B n i).2||decide (p.1=x))
  |none=>(0,false)
noncomputable def fnm(C:Combs)(x:Str)(B:Nat->Nat->Nat)(n i:Nat):Str:=((sel C x B (fw C x B n i).1 (fw C x B n i).2 (n-1-i)).map (·.1)).getD (A0 "")
theorem zgw(C:Combs)(x:Str):Sel C x (Wy C):=by
 refine⟨fun s h=>?_,fun k s=>?_⟩
 ·have:0<(if s=0 then 1 else 0):=h;by_cases z:s=0
  ·exact z
  ·rw[if_neg z] at this;omega
 ·show((stp C s).map fun p=>Wy C k p.2.toNat).sum=_;refine zfM fun p _=>?_;unfold bh
  split<;>rfl
theorem ro_succ{C:Combs}{x:Str}{B:Nat->Nat->Nat}(S:Sel C x B)(fl:Bool)(k s:Nat):ro C B fl (k+1) s=((stp C s).map (bh x (Wy C k) (ro C B fl k))).sum:=by
 cases fl with
 |false=>exact S.succ k s
 |true=>exact(zgw C x).succ k s
theorem zfP{C:Combs}(g:GC C){x:Str}{B:Nat->Nat->Nat}(S:Sel C x B){s k:Nat}(hs:s<128){fl:Bool}(h:0<ro C B fl (k+1) s):∃p,sel C x B s fl k=some p/\p∈stp C s/\0<=p.2/\p.2.toNat<128/\0<ro C B (fl||decide (p.1=x)) k p.2.toNat:=by
 rw[ro_succ S,zgr] at h;obtain⟨p,hp,h1⟩:=h
 cases e:sel C x B s fl k with
 |none=>
  unfold sel at e;rw[Nu] at e;exact absurd (decide_eq_true h1) (e p hp)
 |some p'=>
  unfold sel at e;have h2:=Ox e;have h3:=Lo e;have h4:=zc0 g hs h3;refine⟨p',rfl,h3,h4.1,h4.2,?_⟩;have h5:=of_decide_eq_true h2;unfold bh at h5;by_cases z:p'.1=x
  ·rw[if_pos z] at h5;rw[decide_eq_true z,Mi];exact h5
  ·rw[if_neg z] at h5;rw[decide_eq_false z,M1];exact h5
theorem zhq{C:Combs}(g:GC C){x:Str}{B:Nat->Nat->Nat}(S:Sel C x B){n:Nat}(h:0<B n 0):∀i,i<=n->(fw C x B n i).1<128/\0<ro C B (fw C x B n i).2 (n-i) (fw C x B n i).1
 |0,_=>⟨show 0<128 by decide,h⟩
 |i+1,hi=>by
  obtain⟨h1,h2⟩:=zhq g S h i (by omega);rw[show n-i=n-1-i+1 by omega] at h2;obtain⟨p,e,_,_,p3,p4⟩:=zfP g S h1 h2;have ef:fw C x B n (i+1)=(p.2.toNat,(fw C x B n i).2||decide (p.1=x)):=by
   show(match sel C x B (fw C x B n i).1 (fw C x B n i).2 (n-1-i) with
    |some p=>(p.2.toNat,(fw C x B n i).2||decide (p.1=x))
    |none=>(0,false))=_
   rw[e]
  rw[ef,show n-(i+1)=n-1-i by omega];exact⟨p3,p4⟩
theorem zg7{C:Combs}(g:GC C){x:Str}{B:Nat->Nat->Nat}(S:Sel C x B){n:Nat}(h:0<B n 0){i:Nat}(hi:i<n):sel C x B (fw C x B n i).1 (fw C x B n i).2 (n-1-i)=some (fnm C x B n i,((fw C x B n (i+1)).1:Int))/\(fw C x B n (i+1)).2=((fw C x B n i).2||decide (fnm C x B n i=x))/\(fnm C x B n i,((fw C x B n (i+1)).1:Int))∈stp C (fw C x B n i).1:=by
 obtain⟨h1,h2⟩:=zhq g S h i (by omega);rw[show n-i=n-1-i+1 by omega] at h2;obtain⟨p,e,p1,p2,p3,p4⟩:=zfP g S h1 h2;have ef:fw C x B n (i+1)=(p.2.toNat,(fw C x B n i).2||decide (p.1=x)):=by
  show(match sel C x B (fw C x B n i).1 (fw C x B n i).2 (n-1-i) with
   |some p=>(p.2.toNat,(fw C x B n i).2||decide (p.1=x))
   |none=>(0,false))=_
  rw[e]
 have en:fnm C x B n i=p.1:=by unfold fnm;rw[e];rfl
 have ep:(fnm C x B n i,((fw C x B n (i+1)).1:Int))=p:=by
  rw[en,ef];refine P0 rfl ?_;show((p.2.toNat:Nat):Int)=p.2;omega
 rw[ep,e];exact⟨rfl,by rw[ef,en],p1⟩
theorem fw_end{C:Combs}(g:GC C){x:Str}{B:Nat->Nat->Nat}(S:Sel C x B){n:Nat}(h:0<B n 0):(fw C x B n n).1=0:=by
 have h2:=(zhq g S h n (Ab _)).2;rw[J4] at h2;unfold ro at h2
 split at h2
 ·exact(zgw C x).zero _ h2
 ·exact S.zero _ h2
theorem step_lay{C:Combs}(g:GC C)(nd:(C.map (·.1)).Nodup)(ne:∀c∈C,c.1≠A0 ""){p n:Nat}{l:List (Nat×Str)}(hl:l∈chs C p)(ol:OkC C l p){x:Str}(h:(x,(n:Int))∈stp C (shp C l p)):
  (if x=A0 "" then l else l++[(p,x)])∈chs C (p+1)/\OkC C (if x=A0 "" then l else l++[(p,x)]) (p+1)/\shp C (if x=A0 "" then l else l++[(p,x)]) (p+1)=n:=by
 obtain⟨_,hb⟩:=(zc7 g (zdX _ _ _)).mp h;rcases hb with⟨h0,rfl,hb⟩|⟨h0,c,hc,rfl,hx,hb⟩
 ·rw[if_pos rfl];rw[zaJ g hl,decide_eq_true_eq] at h0;have hm:l∈chs C (p+1):=Dq.mpr ⟨l,hl,Aj⟩;refine⟨hm,(zfq hl g).mpr ⟨ol,h0⟩,zcy fun d=>?_⟩;rw[zaJ g hm,hb,zaJ g hl,show p+1+d=p+(d+1) by omega]
 ·rw[if_neg (ne c hc)];rw[zaJ g hl,decide_eq_false_iff_not] at h0;have hz:cov C l p=0:=by have:=ol.2 p (by omega);have h0:¬cov C l p=1:=h0;omega
  have hm:l++[(p,c.1)]∈chs C (p+1):=Dq.mpr ⟨l,hl,Ac _ (A7.mpr ⟨c,hc,rfl⟩)⟩;refine⟨hm,(zfp hl g nd hc).mpr ⟨ol,hz,fun d hd=>hx d (by rw[zaJ g hl,decide_eq_true hd])⟩,zcy fun d=>?_⟩;rw[zaJ g hm,hb,zaJ g hl,show p+1+d=p+(d+1) by omega,zcg,zgd nd hc];have hx':=hx (d+1);rw[zaJ g hl,decide_eq_true_eq] at hx';have hle:cov C l (p+(d+1))<=1:=by
   by_cases e':d+1<8
   ·exact ol.2 _ (by omega)
   ·rw[zcw g hl (by omega)];omega
  by_cases a:cov C l (p+(d+1))=1
  ·rw[decide_eq_false (hx' a),a];rfl
  ·have a0:cov C l (p+(d+1))=0:=by omega
   by_cases z:((d+1:Nat):Int)∈c.2
   ·rw[decide_eq_true z,a0];rfl
   ·rw[decide_eq_false z,a0];rfl
noncomputable def laysOf(nm:Nat->Str)(n:Nat):List (Nat×Str):=(laid nm n).map fun j=>(j,nm j)
theorem laysOf_succ(nm:Nat->Str)(i:Nat):laysOf nm (i+1)=if nm i=A0 "" then laysOf nm i else laysOf nm i++[(i,nm i)]:=by
 unfold laysOf laid;rw[Dy,D6];by_cases h:nm i=A0 ""
 ·rw[if_pos h,C8,if_neg (by simp[h]),F0,C1]
 ·rw[if_neg h,C8,if_pos (by simp[h]),F0,B7];rfl
theorem zgS{C:Combs}(g:GC C)(nd:(C.map (·.1)).Nodup)(ne:∀c∈C,c.1≠A0 ""){f:Nat->Nat}{nm:Nat->Str}{n:Nat}(h0:f 0=0)(hs:∀i,i<n->(nm i,(f (i+1):Int))∈stp C (f i)):∀i,i<=n->laysOf nm i∈chs C i/\OkC C (laysOf nm i) i/\shp C (laysOf nm i) i=f i
 |0,_=>⟨A6.mpr rfl,⟨fun q hq=>by omega,fun q _=>Bs _⟩,by rw[h0];rfl⟩
 |i+1,hi=>by
  obtain⟨h1,h2,h3⟩:=zgS g nd ne h0 hs i (by omega);have:=step_lay g nd ne h1 h2 (x:=nm i) (n:=f (i+1)) (by rw[h3];exact hs i (by omega));rw[laysOf_succ];exact this
theorem path_cover{C:Combs}(g:GC C)(nd:(C.map (·.1)).Nodup)(ne:∀c∈C,c.1≠A0 ""){f:Nat->Nat}{nm:Nat->Str}{n:Nat}(h0:f 0=0)(hn:f n=0)(hs:∀i,i<n->(nm i,(f (i+1):Int))∈stp C (f i)):laysOf nm n∈chs C n/\Cover C (laysOf nm n) n:=by
 obtain⟨h1,h2,h3⟩:=zgS g nd ne h0 hs n (Ab _);exact⟨h1,(zei g h1).mp ⟨h2,by rw[h3,hn]⟩⟩
theorem fw_cover{C:Combs}(g:GC C)(nd:(C.map (·.1)).Nodup)(ne:∀c∈C,c.1≠A0 ""){x:Str}{B:Nat->Nat->Nat}(S:Sel C x B){n:Nat}(h:0<B n 0):laysOf (fnm C x B n) n∈chs C n/\Cover C (laysOf (fnm C x B n) n) n:=
 path_cover g nd ne (f:=fun i=>(fw C x B n i).1) rfl (fw_end g S h) fun i hi=>(zg7 g S h hi).2.2
noncomputable def LyR(H:Hp)(vs:List V)(l:List (Nat×Str)):Prop:=C5 (fun(x:Nat×Str)(u:V)=>∃t,u= .ref t/\H t=some (.tup [.int (x.1:Int),.str x.2])) l vs
theorem lays_ly{H:Hp}{vs:List V}{nm:Nat->Str}{n:Nat}(r:LaysR H vs nm n):LyR H vs (laysOf nm n):=by
 have all:∀{L:List Nat}{vs:List V},C5 (fun(j:Nat)(v:V)=>∃q,v= .ref q/\H q=some (.tup [.int (j:Int),.str (nm j)])) L vs->LyR H vs (L.map fun j=>(j,nm j)):=by
  intro L vs r
  induction r with
  |nil=>exact .nil
  |cons h _ ih=>exact .cons h ih
 exact all r
theorem laysOf_up(nm:Nat->Str)(n:Nat):(laysOf nm n).Pairwise fun x y=>x.1<y.1:=by
 unfold laysOf;rw[Bl];exact laid_up nm n
theorem cov_perm{C C':Combs}(p:C.Perm C')(nd:(C.map (·.1)).Nodup)(l:List (Nat×Str))(q:Nat):cov C l q=cov C' l q:=by
 unfold cov;refine zfM fun x _=>?_;unfold hit tkOf;rw[tk_perm p nd]
theorem cover_perm{C C':Combs}(p:C.Perm C')(nd:(C.map (·.1)).Nodup){l:List (Nat×Str)}{n:Nat}(h:Cover C l n):Cover C' l n:=fun q=>by rw[<-cov_perm p nd];exact h q
theorem lay_perm{C C':Combs}(p:C.Perm C'){l:List (Nat×Str)}(h:Lay C l):Lay C' l:=fun x hx=>(p.map _).mem_iff.mp (h x hx)
noncomputable abbrev KB:=List Key×Bool
section
variable{P:Ap}{w:Bd}{A:B5}{E:A2->A5->Prop}{s:A5}
end
noncomputable abbrev PX:=KB×A3×V
section
variable{P:Ap}{w:Bd}{H:Hp}{h:Bx}{a b:A3}{xs:List PX}{k:KB}
end
section
variable{X:Cx}{pins:List (A3×Obj)}{σ:St}{H:Hp}{s:A5}{a b:A3}{xs:List PX}{k:KB}{A:B5}{E:A2->A5->Prop}
end
section
variable{X:Cx}{o i e f value k v:Cb}{pos pos' apos cpos:Pos}{td ty tv tx tk:TE}
end
section
variable{X:Cx}{pins:List (A3×Obj)}{σ:St}{H:Hp}{s:A5}{a:A3}{u:HO}
end
section
variable{X:Cx}{tg:Cb}
end
section
variable{C:Combs}{x:Str}
end
section
variable{mvs:List PX}{rs:List (Nat×Bool)}{G:Nat×Bool->Nat}
end
section
variable{X:Cx}
theorem call_rangeO:CallR X (.type "range") (fun xs H Q=>∃i j:Int,xs=[.int i,.int j]/\∀p,H p=none->Q (.ref p) (upd H p (.rng i j))):=by
 intro pins s σ H xs us Q I r h;obtain⟨i,j,rfl,q⟩:=h
 cases r with
 |cons r rr=>
  cases rr with
  |cons r' rr=>
   cases rr
   obtain⟨t,rfl⟩:=r;obtain⟨t',rfl⟩:=r';refine Sm ⟨.ref s.heap.objs.size,_,I.laid (a:=s.heap.objs.size) (o:=.rng i j) (fun _ _ z=>A8 _ z) (Ab _) ⟨t,t',s.toks,Aw _ rfl⟩,rfl,q _ (I.hok.fresh (Ab _))⟩
theorem call_listR(hc:X.calm=true):CallR X (.type "list") (fun xs H Q=>∃(p:A3)(i j:Int),xs=[V.ref p]/\H p=some (.rng i j)/\ -(2 ^ 62)<=i/\i<2 ^ 62/\ -(2 ^ 62)<=j/\j<2 ^ 62/\(j-i).toNat<=1000/\∀l,H l=none->Q (.ref l) (upd H l (.lst ((Af (j-i).toNat).map fun k=>V.int (i+(k:Nat)))))):=by
 intro pins s σ H xs us Q I r h;obtain⟨p,i,j,rfl,hp,h1,h2,h3,h4,hl,q⟩:=h;obtain⟨u,rfl,ru⟩:=zb2 r
 cases ru
 obtain⟨t,u,v,hr⟩:=(show ObjOk X.prog X.w H s.heap p (.rng i j) from I.hok p _ hp);refine call_list_range (n:=(j-i).toNat) (I.ok.hd hc) hr (Pr h1 h2 h3 h4) (by rw[Nb];split<;>omega) (Bt hl (by decide)) fun h' tk acc c' hk hS hacc=>?_;refine⟨.ref s.heap.objs.size,_,I.laid (t':=tk) hk (Ab _) (show ObjOk X.prog X.w _ h' _ (.lst ((Af (j-i).toNat).map fun k=>V.int (i+(k:Nat)))) from⟨?_,acc.toList,c',zgm ?_ ?_,by simpa using hS⟩),rfl,q _ (I.hok.fresh (Ab _))⟩
 ·rw[A4,Ax];exact Bt hl za0
 ·have e:=hacc.1;rw[A4,Ax,As];exact e.symm
 ·intro k x u e1 e2;have h5:=hacc.2 k u (by rw[<-Cf];exact e2);have hk:k<(j-i).toNat:=by
   have:=(Ar.mp e1).1;simpa using this
  rw[Ad,C6 hk] at e1
  cases e1
  obtain⟨t,e⟩:=h5;rw[Nk] at e;exact⟨t,e⟩
end
end L2
set_option maxHeartbeats 4000000
namespace K31
open PySem L2 PyProof.Rows
noncomputable def top(i:Nat):Ca:=PySem.Challenge.pw_combstrip_k31_whole_lengths.main.body.getD i (.Pass ⟨0,0,0,0⟩)
noncomputable abbrev s__wall:Ca:=top 0
noncomputable abbrev s_shape_steps:Ca:=top 27
noncomputable abbrev s_teeth_worth:Ca:=top 28
noncomputable abbrev s_step_table:Ca:=top 29
noncomputable abbrev s_shapes_behind:Ca:=top 30
noncomputable abbrev s_flush_lengths:Ca:=top 32
noncomputable abbrev s_fits_flush:Ca:=top 33
noncomputable abbrev s_shortest_length:Ca:=top 34
noncomputable abbrev s_least_lengths:Ca:=top 35
noncomputable abbrev s_is_reached:Ca:=top 36
noncomputable abbrev s_common_divisor:Ca:=top 37
noncomputable abbrev s_is_name:Ca:=top 39
noncomputable abbrev s_is_small_letter:Ca:=top 40
noncomputable abbrev s_are_teeth:Ca:=top 41
noncomputable abbrev s_Book___init__:Ca:=inClass (top 43) 0
noncomputable abbrev s_Book_put:Ca:=inClass (top 43) 1
noncomputable abbrev s_Book_drop:Ca:=inClass (top 43) 2
noncomputable abbrev s_Book_add_tooth:Ca:=inClass (top 43) 3
noncomputable abbrev s_Book_take_off:Ca:=inClass (top 43) 4
noncomputable abbrev s_Book_undo:Ca:=inClass (top 43) 5
noncomputable abbrev s_Book_deeds:Ca:=inClass (top 43) 6
noncomputable abbrev s_Book_names:Ca:=inClass (top 43) 7
noncomputable abbrev s_Book_teeth:Ca:=inClass (top 43) 8
noncomputable abbrev s_Book_check_comb:Ca:=inClass (top 43) 9
noncomputable abbrev s_Book_set_comb:Ca:=inClass (top 43) 10
noncomputable abbrev s_Book_do_deed:Ca:=inClass (top 43) 11
noncomputable abbrev s_first_filling:Ca:=top 45
noncomputable abbrev s_count_fillings:Ca:=top 46
noncomputable abbrev s_check_length:Ca:=top 47
noncomputable abbrev s_ways_to_close:Ca:=top 48
noncomputable abbrev s_ways_from:Ca:=top 49
noncomputable abbrev s_ways_behind:Ca:=top 50
noncomputable abbrev s_lay_first:Ca:=top 51
noncomputable abbrev s_first_open_step:Ca:=top 52
noncomputable abbrev s_at:Ca:=top 54
noncomputable abbrev s_mixed:Ca:=top 55
noncomputable abbrev s_word:Ca:=top 56
noncomputable abbrev s_spare:Ca:=top 57
noncomputable abbrev s_menu:Ca:=top 58
noncomputable abbrev s_combs:Ca:=top 59
noncomputable abbrev s_book:Ca:=top 60
noncomputable abbrev s_turned:Ca:=top 61
noncomputable abbrev s_after:Ca:=top 62
noncomputable abbrev s_goes:Ca:=top 63
noncomputable abbrev s_graph:Ca:=top 64
noncomputable abbrev s_home:Ca:=top 65
noncomputable abbrev s_fits:Ca:=top 66
noncomputable abbrev s_fit:Ca:=top 67
noncomputable abbrev s_whole:Ca:=top 68
noncomputable abbrev s_laying:Ca:=top 69
noncomputable abbrev s_layings:Ca:=top 70
noncomputable abbrev s_teeth:Ca:=top 71
noncomputable abbrev s_covers:Ca:=top 72
noncomputable abbrev s_kind:Ca:=top 73
noncomputable abbrev s_refused:Ca:=top 74
noncomputable abbrev s_asked:Ca:=top 75
noncomputable abbrev s_said:Ca:=top 76
noncomputable abbrev s_borne:Ca:=top 77
noncomputable abbrev s_form:Ca:=top 78
noncomputable abbrev s_law:Ca:=top 79
section
variable{P:Ap}{w:Bd}{K:Am}{mg:Str->Option A2}{base:Bx}
theorem zhE{a b:Nat}:([a]<[b])↔a<b:=by
 rw[List.cons_lt_cons_iff];simp
theorem le_a(c:Nat):(!decide ((⟨#[c]⟩:Str).cps.toList<(A0 "a").cps.toList))=decide (97<=c):=by
 have e:(A0 "a").cps.toList=[97]:=by decide+kernel
 rw[e];show(!decide ([c]<[97]))=_;rw[Ay];simp only[G5,decide_eq_false_iff_not,decide_eq_true_eq,zhE];omega
theorem le_z(c:Nat):(!decide ((A0 "z").cps.toList<(⟨#[c]⟩:Str).cps.toList))=decide (c<=122):=by
 have e:(A0 "z").cps.toList=[122]:=by decide+kernel
 rw[e];show(!decide ([122]<[c]))=_;rw[Ay];simp only[G5,decide_eq_false_iff_not,decide_eq_true_eq,zhE];omega
noncomputable def sp_small:Sp:=fun vs H Q _=>∃c:Nat,vs=[sgn c]/\Q (.bl (small c)) H
theorem zbB:FnScope ["sign"] ["sign"] (defScope s_is_small_letter):=⟨rfl,rfl,rfl,by decide+kernel,rfl,by decide+kernel,by decide+kernel⟩
theorem ok_small(D:DefAt K mg "is_small_letter" s_is_small_letter)(T:Bn mg):Callee P w K mg base "is_small_letter" 1 ["sign"] sp_small:=by
 refine D.callee zbB (fun _ _ _ _ _ _=>ln1 fun _=>rfl) (fun vs H Q E h=>?_) (fun f cdv A outer s H vs Q E hr h=>?_)
 ·obtain⟨c,rfl,_⟩:=h;rfl
 ·obtain⟨c,rfl,q⟩:=h;have S:=zbB;refine⟨_,zaf (zaj (zf1 zeP zeP (zaw) (pv 0) (zaw))),?_⟩;refine⟨_,rfl,_,_,rfl,rfl,_,rfl,?_⟩;rw[le_a];have q':Q (.bl (decide (97<=c)&&decide (c<=122))) H:=q
  cases e:decide (97<=c) with
  |false=>
   rw[if_neg Aa];rw[e] at q';exact q'
  |true=>
   rw[if_pos rfl];refine⟨_,_,rfl,rfl,?_⟩;rw[le_z];rw[e] at q';exact q'
noncomputable def sp_name:Sp:=fun vs H Q _=>∃x:Str,vs=[.str x]/\x.length<=sizeLine/\∀H',Same H H'->Q (.bl (isName x)) H'
theorem zd1:FnScope ["text"] ["text"] (defScope s_is_name):=⟨rfl,rfl,rfl,by decide+kernel,rfl,by decide+kernel,by decide+kernel⟩
theorem ok_name(D:DefAt K mg "is_name" s_is_name)(T:Bn mg)(V_MOST_NAME:∃t,mg "MOST_NAME"=some (.int 6 t))(C_is_small_letter:Callee P w K mg base "is_small_letter" 1 ["sign"] sp_small):Callee P w K mg base "is_name" 2 ["text"] sp_name:=by
 refine D.callee zd1 (fun _ _ _ _ _ _=>ln1 fun _=>rfl) (fun vs H Q E h=>?_) (fun f cdv A outer s H vs Q E hr h=>?_)
 ·obtain⟨c,rfl,_⟩:=h;rfl
 ·obtain⟨x,rfl,hx,q⟩:=h;have S:=zd1;refine⟨_,zac (zaE (za9 (zda zcV zcV (zad) (zai call_len_str rfl T.n_len C3 (zaa (pv 0) zae)) (zbN rfl V_MOST_NAME)))
   (zaf (zaj (zbn)))
   (zan))
  (zaf (zaj (zai (zey rfl) rfl T.n_all Rs (zaa (za8 (own:=["sign"]) (caps:=[]) rfl ⟨rfl,rfl,rfl,rfl,trivial⟩ (zhw (pv 0)) (fun _ _ _ _ _ _=>zal (i:=0) (zaS (by decide+kernel)) rfl (Ao rfl)) (fun _ _ _ _ _ _=>zbu) (fun _ _ _ _ _ _=>zaA C_is_small_letter (hr.mono (by decide)) rfl (zaa (pv 0) zae))) zae)))),?_⟩
  have fin:∀H',Same H H'->(decide (1<=x.length)&&decide (x.length<=6))=false->Q (.bl false) H':=fun H' s' e=>by
   have:=q H' s';unfold isName at this;rw[e] at this;exact this
  refine⟨_,rfl,_,rfl,hx,_,_,rfl,rfl,_,rfl,?_⟩;refine ite2 (fun h1=>?_) (fun h1=>?_)
  ·refine⟨_,_,rfl,rfl,_,rfl,?_⟩;refine ite2 (fun h2=>?_) (fun h2=>?_)
   ·refine fin H (Same.refl H) ?_;have:¬(x.length:Int)<=6:=by simpa using h2
    rw[N2];exact .inr (decide_eq_false (by omega))
   ·refine⟨_,rfl,_,rfl,fun D hD=>?_⟩;refine zb1 (capv:=[]) (L:=x.cps.toList.map sgn) (by rfl) (ze1 x) (by rw[A4,zcQ];exact hx) hD ?_ (fun _=>true) (fun v=>match v with| .str y=>.bl (small (y.cps.getD 0 0))|_=>.non) ?_ ?_ ?_
    ·exact fun _ _=>trivial
    ·exact fun v hv H' R s' h=>h H' (Same.refl _)
    ·intro v hv _ H' R s' h;obtain⟨c,hc,rfl⟩:=A7.mp hv;exact⟨_,rfl,c,rfl,h H' (Same.refl _)⟩
    ·intro H' s' e;refine⟨_,x.cps.toList.map small,rfl,?_,?_⟩
     ·refine SqL.of ?_;rw[e];congr 2;rw[Ch.mpr (fun _ _=>rfl),Bb,Bb];rfl
     ·have:=q H' s';unfold isName at this;have h3:¬¬(x.length:Int)<=6:=by simpa using h2
      have h1':(1:Int)<=x.length:=by simpa using h1
      rw[decide_eq_true (show 1<=x.length by omega),decide_eq_true (show x.length<=6 by omega)] at this;rw[Iq];exact this
  ·refine⟨_,rfl,?_⟩;refine fin H (Same.refl H) ?_;have h1':¬(1:Int)<=x.length:=by simpa using h1
   rw[N2];exact .inl (decide_eq_false (by omega))
noncomputable def sp_teeth(K:Am):Sp:=fun vs H Q _=>∃(a:A3)(ts:List Int),vs=[.ref a]/\SqL K H a (ts.map V.int)/\ts.length<=1000/\∀H',Same H H'->Q (.bl (areTeeth ts)) H'
theorem zc3:FnScope ["teeth"] ["teeth"] (defScope s_are_teeth):=⟨rfl,rfl,rfl,by decide+kernel,rfl,by decide+kernel,by decide+kernel⟩
theorem ok_teeth(D:DefAt K mg "are_teeth" s_are_teeth)(T:Bn mg)(V_MOST_TOOTH:∃t,mg "MOST_TOOTH"=some (.int 7 t)):Callee P w K mg base "are_teeth" 1 ["teeth"] (sp_teeth K):=by
 refine D.callee zc3 (fun _ _ _ _ _ _=>ln1 fun _=>rfl) (fun vs H Q E h=>?_) (fun f cdv A outer s H vs Q E hr h=>?_)
 ·obtain⟨a,ts,rfl,_⟩:=h;rfl
 ·obtain⟨a,ts,rfl,ha,hl,q⟩:=h;have S:=zc3;unfold areTeeth at q;refine⟨_,zac (zaE (zam zb7 (zad) (pv 0) (by with_unfolding_all rfl))
   (zaf (zaj (zbn)))
   (zan))
  (zac (zaE (zam zc6 (zai call_lenS rfl T.n_len C3 (zaa (zbe (call_set1 rfl) rfl T.n_set boot_set (zaa (pv 0) zae)) zae)) (zai zat rfl T.n_len C3 (zaa (pv 0) zae)) (zas _))
   (zaf (zaj (zbn)))
   (zan))
  (zaf (zaj (zai (zey rfl) rfl T.n_all Rs (zaa (za8 (own:=["tooth"]) (caps:=[]) rfl ⟨rfl,rfl,rfl,rfl,trivial⟩ (zax (pv 0)) (fun _ _ _ _ _ _=>zal (i:=0) (zaS (by decide+kernel)) rfl (Ao rfl)) (fun _ _ _ _ _ _=>zbu) (fun _ _ _ _ _ _=>zf1 zcV zcV (zad) (pv 0) (zbN rfl V_MOST_TOOTH))) zae))))),?_⟩
  refine⟨_,rfl,_,_,rfl,.inl ha,rfl,zhr ts,_,rfl,?_⟩;rw[if_pos rfl,in_zero];refine ite2 (fun hc=>?_) (fun hc=>?_)
  ·have h0:decide (0∈ts)=false:=by simpa using hc
   rw[h0] at q;exact q H (Same.refl H)
  ·have h0:decide (0∈ts)=true:=by simpa using hc
   rw[h0,F6] at q;refine⟨_,rfl,_,ts,rfl,ha,?_,fun p np=>?_⟩
   ·show ts.length+1<4096;omega
   have s1:Same H (upd H p (.set (fun k=>(firstMet (fun i=>ts.getD i 0) ts.length).any (· ==k)) (many ts))):=Same.new np;refine⟨_,_,_,rfl,zab,_,rfl,_,_,rfl,.inl (s1.seq ha),rfl,_,rfl,?_⟩;rw[A4];refine ite2 (fun hm=>?_) (fun hm=>?_)
   ·have h1:¬many ts=ts.length:=fun z=>by simp[z] at hm
    rw[decide_eq_false h1,Eo] at q;exact q _ s1
   ·have h1:many ts=ts.length:=by
     have:(many ts:Int)=(ts.length:Int):=by simpa using hm
     omega
    rw[decide_eq_true h1,F6] at q;refine⟨_,rfl,_,rfl,⟨_,s1.seq ha⟩,fun D hD=>?_⟩;refine zb1 (capv:=[]) (L:=ts.map V.int) (by rfl) (zap K a (ts.map V.int)) (by rw[A4];exact big hl) hD ?_ (fun _=>true) (fun v=>match v with| .int t=>.bl (inR t)|_=>.non) ?_ ?_ ?_
    ·exact fun H' s'=>(s1.trans s').seq ha
    ·exact fun v hv H' R s' h=>h H' (Same.refl _)
    ·intro v hv _ H' R s' h;obtain⟨t,ht,rfl⟩:=A7.mp hv;have h:=h H' (Same.refl _);have h:R (.bl (decide (0<=t)&&decide (t<=7))) H':=h;refine⟨_,rfl,_,_,rfl,rfl,_,rfl,?_⟩
     cases e:decide (0<=t) with
     |false=>
      rw[e] at h;exact iteF h
     |true=>
      rw[e] at h;exact iteT ⟨_,_,rfl,rfl,h⟩
    ·intro H' s' e;refine⟨_,ts.map inR,rfl,?_,?_⟩
     ·refine SqL.of ?_;rw[e];congr 2;rw[Ch.mpr (fun _ _=>rfl),Bb,Bb];rfl
     ·have:=q H' (s1.trans s');rw[Iq];exact this
theorem zbQ{d l:V}:([("combs",d),("past",l)]:List (Str×V)).lookup (A0 "combs")=some d:=rfl
theorem zem{d l:V}:([("combs",d),("past",l)]:List (Str×V)).lookup (A0 "past")=some l:=rfl
theorem putF_combs{y d l:V}:putF (A0 "combs") y [("combs",d),("past",l)]=[(A0 "combs",y),(A0 "past",l)]:=by
 unfold putF;rw[if_pos rfl]
theorem putF_new{y:V}:putF (A0 "combs") y []=[(A0 "combs",y)]:=rfl
theorem putF_past{y d:V}:putF (A0 "past") y [("combs",d)]=[(A0 "combs",d),(A0 "past",y)]:=by
 have h:¬(A0 "combs"=A0 "past"):=by decide+kernel
 unfold putF;rw[if_neg h];rfl
theorem two_len{a b:Str×V}:[a,b].length<1000:=show 2<1000 by decide
noncomputable def sp_check(ea:Nat->A3)(C:A3):Sp:=fun vs H Q E=>∃b l G cs past x,vs=[.ref b,.str x]/\Bk C G H b l cs past/\(if(cGet cs x).isSome=true then Q .non H else E (.ref (ea 4)) none H)
theorem zbD:FnScope ["self","name"] ["self","name"] (defScope s_Book_check_comb):=⟨rfl,rfl,rfl,by decide+kernel,rfl,by decide+kernel,by decide+kernel⟩
theorem ok_check{ea:Nat->A3}{C:A3}(D:MethAt K C "Book" "check_comb" s_Book_check_comb)(T:Bn mg)(BA:BookAt K C)(O_NoComb:Err K mg "NoComb" (ea 4)):Method P w K mg base C "check_comb" (CX1 P w) 1 ["self","name"] (sp_check ea C):=by
 refine D.meth1 zbD (fun _ _ _ _ _ _=>ln2 fun _ _=>rfl) (fun vs H Q E h=>?_) (fun f cdv A outer s H vs Q E hr h=>?_)
 ·obtain⟨b,l,G,cs,past,x,rfl,_⟩:=h;rfl
 ·obtain⟨b,l,G,cs,past,x,rfl,B,q⟩:=h;have S:=zbD;have hu:=zcv hr;obtain⟨dx,d,hb,gd,kvs,hd,kr⟩:=B.ins;refine⟨_,zaf (zaE (zd3 (zds hu (pv 1) (zb6 (pv 0) rfl)))
   (zaf (zbl O_NoComb rfl (zaa (zaw) zae)))
   (zan)),?_⟩
  refine⟨_,rfl,_,rfl,_,_,_,_,_,rfl,hb,BA.cls,BA.nc,zbQ,d,_,rfl,DGet.k (k:=Da x) hd,_,rfl,?_⟩;rw[kr.some]
  cases e:(cGet cs x).isSome with
  |false=>
   rw[e] at q;exact iteT ⟨bigr rfl,q⟩
  |true=>
   rw[e] at q;exact iteF q
noncomputable def sp_do(ea:Nat->A3)(C:A3):Sp:=fun vs H Q E=>∃b l G cs past d D cs',vs=[.ref b,.ref d]/\Bk C G H b l cs past/\DictR D H d cs'/\Good cs'/\(∀x,D x->x≠b/\x≠l/\H x≠none)/\
 (if 300<=past.length then E (.ref (ea 9)) none H else∀H',(∀a,a≠b->a≠l->H' a=H a)->Bk C (fun a=>G a\/D a) H' b l cs' (past++[cs])->Q (.int ((past.length:Int)+1)) H')
theorem zb4:FnScope ["self","combs"] ["self","combs"] (defScope s_Book_do_deed):=⟨rfl,rfl,rfl,by decide+kernel,rfl,by decide+kernel,by decide+kernel⟩
theorem ok_do{ea:Nat->A3}{C:A3}(D:MethAt K C "Book" "do_deed" s_Book_do_deed)(T:Bn mg)(BA:BookAt K C)(V_MOST_DEEDS:∃t,mg "MOST_DEEDS"=some (.int 300 t))(O_DeedsFull:Err K mg "DeedsFull" (ea 9)):Method P w K mg base C "do_deed" (CX1 P w) 1 ["self","combs"] (sp_do ea C):=by
 refine D.meth1 zb4 (fun _ _ _ _ _ _=>ln2 fun _ _=>rfl) (fun vs H Q E h=>?_) (fun f cdv A outer s H vs Q E hr h=>?_)
 ·obtain⟨b,l,G,cs,past,d,D,cs',rfl,_⟩:=h;rfl
 ·obtain⟨b,l,G,cs,past,d1,Dd,cs',rfl,B,dr,gd',nD,q⟩:=h;have S:=zb4;have hu:=zcv hr;obtain⟨dx,d,hb,dr0⟩:=B.ins;obtain⟨vs,hl,pr⟩:=B.lst;have hlen:=pr.length;have hbl:b≠l:=zhR hb hl (by intro z;cases z);refine⟨_,zac (zaE (zam zhQ (zai zat rfl T.n_len C3 (zaa (zb6 (pv 0) rfl) zae)) (zbN rfl V_MOST_DEEDS) (zas _))
   (zaf (zbl O_DeedsFull rfl (zaa (zaw) zae)))
   (zan))
  (zac (zbd (zdP C7 Cd Cc za1 (zb6 (pv 0) rfl) (zaa (zb6 (pv 0) rfl) zae)))
  (zac (zgM (pv 0) (pv 1) rfl)
  (zaf (zaj (zai zat rfl T.n_len C3 (zaa (zb6 (pv 0) rfl) zae)))))),?_⟩
  refine⟨_,rfl,_,_,_,_,_,rfl,hb,BA.cls,BA.np,zem,_,_,rfl,.inl (SqL.of hl),_,_,rfl,rfl,_,rfl,?_⟩;refine ite2 (fun hc=>?_) (fun hc=>?_)
  ·have h300:300<=past.length:=by
    have:(300:Int)<=(vs.length:Int):=by simpa using hc
    omega
   rw[if_pos h300] at q;exact⟨bigr rfl,q⟩
  ·have h300:¬300<=past.length:=by
    have:¬(300:Int)<=(vs.length:Int):=by simpa using hc
    omega
   rw[if_neg h300] at q;refine⟨_,rfl,_,_,_,_,_,rfl,hb,BA.cls,BA.np,zem,.inl ⟨rfl,_,SqL.of hl⟩,_,rfl,_,_,_,_,_,rfl,hb,BA.cls,BA.nc,zbQ,_,_,_,rfl,rfl,hl,?_,?_⟩
   ·exact Ah (by omega:vs.length<1000) za0
   have hb1:upd H l (.lst (vs++[.ref d])) b=some (.ins C dx [("combs",.ref d),("past",.ref l)]):=by rw[zah hbl];exact hb
   refine⟨_,rfl,_,rfl,_,_,_,_,rfl,hb1,BA.cls,BA.nc,two_len,?_⟩;rw[putF_combs];have hb2:upd (upd H l (.lst (vs++[.ref d]))) b (.ins C dx [("combs",.ref d1),("past",.ref l)]) b=some (.ins C dx [("combs",.ref d1),("past",.ref l)]):=zab;have hl2:upd (upd H l (.lst (vs++[.ref d]))) b (.ins C dx [("combs",.ref d1),("past",.ref l)]) l=some (.lst (vs++[.ref d])):=by rw[zah (Dz hbl),zab]
   have off:∀a,a≠b->a≠l->upd (upd H l (.lst (vs++[.ref d]))) b (.ins C dx [("combs",.ref d1),("past",.ref l)]) a=H a:=fun a n1 n2=>by rw[zah n1,zah n2]
   generalize upd (upd H l (.lst (vs++[.ref d]))) b (.ins C dx [("combs",.ref d1),("past",.ref l)])=H2 at hb2 hl2 off;refine⟨_,rfl,_,_,_,_,_,rfl,hb2,BA.cls,BA.np,zem,_,_,rfl,.inl (SqL.of hl2),?_⟩;rw[Ag,Bq,hlen];have sG:∀a o,G a->H a=some o->H2 a=some o:=fun a o g e=>(off a (fun z=>B.nb (z▸g)) (fun z=>B.nl (z▸g))).trans e;have sD:∀a o,Dd a->H a=some o->H2 a=some o:=fun a o g e=>(off a (nD a g).1 (nD a g).2.1).trans e;refine q H2 off ⟨?_,?_,?_,⟨dx,d1,hb2,dr.mono sD fun _ g=>.inr g⟩,⟨_,hl2,?_⟩,gd',?_,?_⟩
   ·rintro x(g|g)
    ·rw[off x (fun z=>B.nb (z▸g)) (fun z=>B.nl (z▸g))];exact B.live x g
    ·rw[off x (nD x g).1 (nD x g).2.1];exact(nD x g).2.2
   ·rintro(g|g)
    ·exact B.nb g
    ·exact(nD b g).1 rfl
   ·rintro(g|g)
    ·exact B.nl g
    ·exact(nD l g).2.1 rfl
   ·exact Es (Me (fun _ _⟨d,e,r⟩=>⟨d,e,r.mono sG fun _ g=>.inl g⟩) pr) ⟨d,rfl,dr0.mono sG fun _ g=>.inl g⟩
   ·intro p hp;rcases Al.mp hp with z|z
    ·exact B.goods p z
    ·rw[A6.mp z];exact B.good
   ·rw[Ag,Bq];omega
noncomputable def sp_deeds(C:A3):Sp:=fun vs H Q _=>∃b l G cs past,vs=[.ref b]/\Bk C G H b l cs past/\Q (.int (past.length:Int)) H
theorem zcJ:FnScope ["self"] ["self"] (defScope s_Book_deeds):=⟨rfl,rfl,rfl,by decide+kernel,rfl,by decide+kernel,by decide+kernel⟩
theorem ok_deeds{C:A3}(D:MethAt K C "Book" "deeds" s_Book_deeds)(T:Bn mg)(BA:BookAt K C):Method P w K mg base C "deeds" CX0 1 ["self"] (sp_deeds C):=by
 refine D.meth0 zcJ (fun _ _ _ _ _ _=>ln1 fun _=>rfl) (fun vs H Q E h=>?_) (fun f cdv A outer s H vs Q E hr h=>?_)
 ·obtain⟨b,l,G,cs,past,rfl,_⟩:=h;rfl
 ·obtain⟨b,l,G,cs,past,rfl,B,q⟩:=h;have S:=zcJ;obtain⟨dx,d,hb,dr0⟩:=B.ins;obtain⟨vs,hl,pr⟩:=B.lst;refine⟨_,zaf (zaj (zai zat rfl T.n_len C3 (zaa (zb6 (pv 0) rfl) zae))),?_⟩;refine⟨_,rfl,_,_,_,_,_,rfl,hb,BA.cls,BA.np,zem,_,_,rfl,.inl (SqL.of hl),?_⟩;rw[pr.length];exact q
noncomputable def sp_names(C:A3):Sp:=fun vs H Q _=>∃b l G cs past,vs=[.ref b]/\Bk C G H b l cs past/\∀p(nm:List Str),H p=none->nm.Perm (cs.map (·.1))->sortedS nm=true->Q (.ref p) (upd H p (.lst (nm.map V.str)))
theorem zcI:FnScope ["self"] ["self"] (defScope s_Book_names):=⟨rfl,rfl,rfl,by decide+kernel,rfl,by decide+kernel,by decide+kernel⟩
theorem ok_names{C:A3}(D:MethAt K C "Book" "names" s_Book_names)(T:Bn mg)(BA:BookAt K C):Method P w K mg base C "names" CX0 1 ["self"] (sp_names C):=by
 refine D.meth0 zcI (fun _ _ _ _ _ _=>ln1 fun _=>rfl) (fun vs H Q E h=>?_) (fun f cdv A outer s H vs Q E hr h=>?_)
 ·obtain⟨b,l,G,cs,past,rfl,_⟩:=h;rfl
 ·obtain⟨b,l,G,cs,past,rfl,B,q⟩:=h;have S:=zcI;obtain⟨dx,d,hb,gd,kvs,hd,kr⟩:=B.ins;refine⟨_,zaf (zaj (zai (call_sortedD rfl) rfl T.n_sorted Il (zaa (zb6 (pv 0) rfl) zae))),?_⟩;refine⟨_,rfl,_,_,_,_,_,rfl,hb,BA.cls,BA.nc,zbQ,d,kvs,cs.map (·.1),rfl,.inl hd,kr.keys,?_,q⟩;rw[A4];have:=B.good.len;omega
noncomputable def sp_bteeth(ea:Nat->A3)(C:A3):Sp:=fun vs H Q E=>∃b l G cs past x,vs=[.ref b,.str x]/\Bk C G H b l cs past/\(match cGet cs x with|some ts=>∀p,H p=none->Q (.ref p) (upd H p (.lst (ts.map V.int)))|none=>E (.ref (ea 4)) none H)
theorem zcH:FnScope ["self","name"] ["self","name"] (defScope s_Book_teeth):=⟨rfl,rfl,rfl,by decide+kernel,rfl,by decide+kernel,by decide+kernel⟩
theorem ok_bteeth{ea:Nat->A3}{C:A3}(D:MethAt K C "Book" "teeth" s_Book_teeth)(T:Bn mg)(BA:BookAt K C)(M_check_comb:Method P w K mg base C "check_comb" (CX1 P w) 1 ["self","name"] (sp_check ea C)):Method P w K mg base C "teeth" (CX1 P w) 2 ["self","name"] (sp_bteeth ea C):=by
 refine D.meth1 zcH (fun _ _ _ _ _ _=>ln2 fun _ _=>rfl) (fun vs H Q E h=>?_) (fun f cdv A outer s H vs Q E hr h=>?_)
 ·obtain⟨b,l,G,cs,past,x,rfl,_⟩:=h;rfl
 ·obtain⟨b,l,G,cs,past,x,rfl,B,q⟩:=h;have S:=zcH;have hu:=zcv hr;have B_cls:=BA.cls;obtain⟨dx,d,hb,gd,kvs,hd,kr⟩:=id B.ins;refine⟨_,zac (zbd (zgP (pv 0) B_cls M_check_comb (hr.mono (by decide)) (by first|exact zeN|exact zaG|exact zbP|exact zaQ) (zaa (pv 1) zae)))
  (zaf (zaj (zbe zcc rfl T.n_list K8 (zaa (zcU hu (zb6 (pv 0) rfl) (pv 1) (fun _ _=>rfl)) zae)))),?_⟩
  refine⟨_,rfl,_,_,_,rfl,hb,rfl,_,rfl,b,l,G,cs,past,x,rfl,B,?_⟩;rcases kr.val (x:=x) with⟨e1,e2⟩|⟨ts,t,e1,e2,e3,e4⟩
  ·rw[e1] at q⊢;exact q
  ·rw[e1] at q⊢;refine iteT ?_;refine⟨_,rfl,_,_,_,_,_,rfl,hb,BA.cls,BA.nc,zbQ,_,rfl,d,_,rfl,?_,_,_,rfl,.inl (SqL.of e3),q⟩;rw[<-e2];exact DGet.k (k:=Da x) hd
noncomputable def sp_init(C:A3):Sp:=fun vs H Q _=>∃b dx,vs=[.ref b]/\H b=some (.ins C dx [])/\∀H' l d,Mv b b (fun _=>False) (fun a=>a=d) H H'->H l=none->H d=none->Bk C (fun a=>a=d) H' b l [] []->Q .non H'
theorem zbY:FnScope ["self"] ["self"] (defScope s_Book___init__):=⟨rfl,rfl,rfl,by decide+kernel,rfl,by decide+kernel,by decide+kernel⟩
theorem ok_init{C:A3}{f:A3}{fd:Ef}(F:Fun K "__init__" "Book.__init__" s_Book___init__ f fd)(T:Bn mg)(BA:BookAt K C):FnOk P w K mg base CX0 1 f fd ["self"] (sp_init C):=by
 refine F.ok zbY (fun vs H Q E h=>?_) (fun cdv A outer s H vs Q E hr h=>?_)
 ·obtain⟨b,dx,rfl,_⟩:=h;rfl
 ·obtain⟨b,dx,rfl,hb,q⟩:=h;have S:=zbY;refine⟨_,zac (zgM (pv 0) (zdb) rfl)
  (zaf (zgM (pv 0) (zaZ (zae)) rfl)),?_⟩
  refine fun d nd=>?_;have hbd:b≠d:=zaq hb nd;have hb1:upd H d (.dK []) b=some (.ins C dx []):=by rw[zah hbd];exact hb
  refine⟨_,rfl,_,_,_,_,rfl,hb1,BA.cls,BA.nc,by decide,?_⟩;rw[putF_new];refine⟨bigr rfl,fun l nl=>?_⟩;have hbl:b≠l:=fun z=>by rw[<-z,zab] at nl;cases nl
  have nl1:upd H d (.dK []) l=none:=by rw[zah (Dz hbl)] at nl;exact nl
  have hdl:d≠l:=fun z=>by rw[<-z,zab] at nl1;cases nl1
  have hln:H l=none:=by rw[zah (Dz hdl)] at nl1;exact nl1
  have hb2:upd (upd (upd H d (.dK [])) b (.ins C dx [(A0 "combs",V.ref d)])) l (.lst []) b=some (.ins C dx [("combs",.ref d)]):=by rw[zah hbl,zab]
  refine⟨_,rfl,_,_,_,_,rfl,hb2,BA.cls,BA.np,(show 1<1000 by decide),?_⟩;rw[putF_past];have hb3:upd (upd (upd (upd H d (.dK [])) b (.ins C dx [(A0 "combs",V.ref d)])) l (.lst [])) b (.ins C dx [(A0 "combs",V.ref d),(A0 "past",V.ref l)]) b=some (.ins C dx [("combs",.ref d),("past",.ref l)]):=zab;have hd3:upd (upd (upd (upd H d (.dK [])) b (.ins C dx [(A0 "combs",V.ref d)])) l (.lst [])) b (.ins C dx [(A0 "combs",V.ref d),(A0 "past",V.ref l)]) d=some (.dK []):=by
   rw[zah (Dz hbd),zah hdl,zah (Dz hbd),zab]
  have hl3:upd (upd (upd (upd H d (.dK [])) b (.ins C dx [(A0 "combs",V.ref d)])) l (.lst [])) b (.ins C dx [(A0 "combs",V.ref d),(A0 "past",V.ref l)]) l=some (.lst []):=by
   rw[zah (Dz hbl),zab]
  have off:∀a o,H a=some o->a≠b->upd (upd (upd (upd H d (.dK [])) b (.ins C dx [(A0 "combs",V.ref d)])) l (.lst [])) b (.ins C dx [(A0 "combs",V.ref d),(A0 "past",V.ref l)]) a=some o:=fun a o e n=>by
   rw[zah n,zah (zaq e hln),zah n,zah (zaq e nd)];exact e
  generalize upd (upd (upd (upd H d (.dK [])) b (.ins C dx [(A0 "combs",V.ref d)])) l (.lst [])) b (.ins C dx [(A0 "combs",V.ref d),(A0 "past",V.ref l)])=H3 at hb3 hd3 hl3 off;refine q H3 l d ⟨fun a o e n _=>off a o e n,fun a h=>?_,fun a g=>.inr (by rw[g];exact nd)⟩ hln nd ⟨fun x g=>?_,hbd,fun z=>hdl z.symm,⟨dx,d,hb3,rfl,[],hd3,.nil⟩,⟨[],hl3,.nil⟩,good_nil,by simp,by decide⟩
  ·by_cases z:a=b
   ·rw[z,hb3];simp
   ·cases e:H a with
    |none=>exact absurd e h
    |some o=>rw[off a o e z];simp
  ·rw[show x=d from g,hd3];simp
noncomputable def sp_set(ea:Nat->A3)(C:A3):Sp:=fun vs H Q E=>∃b l G cs past x a ts,vs=[.ref b,.str x,.ref a]/\Bk C G H b l cs past/\SqL K H a (ts.map V.int)/\areTeeth ts=true/\isName x=true/\(cs.length<8\/(cGet cs x).isSome=true)/\Deed ea C G H b l cs past Q E (full past (cPut cs x (canon ts)))
theorem zbX:FnScope ["self","name","teeth","combs"] ["self","name","teeth"] (defScope s_Book_set_comb):=⟨rfl,rfl,rfl,by decide+kernel,rfl,by decide+kernel,by decide+kernel⟩
theorem ok_set{ea:Nat->A3}{C:A3}(D:MethAt K C "Book" "set_comb" s_Book_set_comb)(T:Bn mg)(BA:BookAt K C)(M_do_deed:Method P w K mg base C "do_deed" (CX1 P w) 1 ["self","combs"] (sp_do ea C)):Method P w K mg base C "set_comb" (CX1 P w) 2 ["self","name","teeth"] (sp_set (K:=K) ea C):=by
 refine D.meth1 zbX (fun _ _ _ _ _ _=>ln3 fun _ _ _=>rfl) (fun vs H Q E h=>?_) (fun f cdv A outer s H vs Q E hr h=>?_)
 ·obtain⟨b,l,G,cs,past,x,a,ts,rfl,_⟩:=h;rfl
 ·obtain⟨b,l,G,cs,past,x,a,ts,rfl,B,ha,ht,hx,hn,q⟩:=h;have S:=zbX;have hu:=zcv hr;have B_cls:=BA.cls;obtain⟨t0,tn,tr⟩:=teeth_iff.mp ht;obtain⟨dx,d,hb,gd,kvs,hd,kr⟩:=id B.ins;refine⟨_,zac (zak (i:=3) S.nd rfl (Ao rfl) (zbe call_dictD rfl T.n_dict boot_dict (zaa (zb6 (pv 0) rfl) zae)))
  (zac (zcq hu (pv 3) (pv 1) (zai zcb rfl T.n_sorted Il (zaa (pv 2) zae)) rfl)
  (zaf (zaj (zgP (pv 0) B_cls M_do_deed (hr.mono (by decide)) (by first|exact zeN|exact zaG|exact zbP|exact zaQ) (zaa (pv 3) zae))))),?_⟩
  refine⟨_,rfl,_,_,_,_,_,rfl,hb,BA.cls,BA.nc,zbQ,d,kvs,rfl,.inl hd,fun p np=>?_⟩;have s1:Same H (upd H p (.dK kvs)):=Same.new np;refine⟨_,rfl,a,ts,rfl,s1.seq ha,?_,fun r ns nr hp hs=>?_⟩
  ·have:=zdm tn tr;omega
  have hc:=zdj hp hs tn tr;subst hc;have npr:p≠r:=fun z=>by rw[<-z,zab] at nr;cases nr
  have hr0:H r=none:=s1.free nr;have s2:Same H (upd (upd H p (.dK kvs)) r (.lst ((canon ts).map V.int))):=s1.put hr0;have hp2:upd (upd H p (.dK kvs)) r (.lst ((canon ts).map V.int)) p=some (.dK kvs):=by rw[zah npr,zab]
  have hkl:kvs.length<sizeLine:=by
   have:=kr.length;have:=B.good.len;exact Ah (by omega:kvs.length<1000) za0
  refine⟨_,rfl,_,rfl,p,_,rfl,DPut.k (k:=Da x) hp2 hkl,?_⟩;have s3:Same H (upd (upd (upd H p (.dK kvs)) r (.lst ((canon ts).map V.int))) p (.dK (putK kvs (Da x) (.ref r)))):=s2.put np;have hr3:upd (upd (upd H p (.dK kvs)) r (.lst ((canon ts).map V.int))) p (.dK (putK kvs (Da x) (.ref r))) r=some (.lst ((canon ts).map V.int)):=by rw[zah (Dz npr),zab]
  have hp3:upd (upd (upd H p (.dK kvs)) r (.lst ((canon ts).map V.int))) p (.dK (putK kvs (Da x) (.ref r))) p=some (.dK (putK kvs (Da x) (.ref r))):=zab;generalize upd (upd (upd H p (.dK kvs)) r (.lst ((canon ts).map V.int))) p (.dK (putK kvs (Da x) (.ref r)))=H3 at s3 hr3 hp3;have B3:=B.same s3;obtain⟨lb,ll⟩:=B.liveB;refine⟨_,rfl,b,dx,_,rfl,s3 _ _ hb,rfl,_,rfl,b,l,G,cs,past,p,fun a=>G a\/a=p\/a=r,cPut cs x (canon ts),rfl,B3,⟨.inr (.inl rfl),_,hp3,?_⟩,B.good.put hx (zgf t0) hn,?_,?_⟩
  ·exact(kr.mono (fun a o _ e=>s3 a o e) fun _ g=>.inl g).put hr3 (.inr (.inr rfl))
  ·rintro y(g|g|g)
   ·exact⟨fun z=>B.nb (z▸g),fun z=>B.nl (z▸g),B3.live y g⟩
   ·subst g;exact⟨fun z=>lb (z▸np),fun z=>ll (z▸np),by rw[hp3];simp⟩
   ·subst g;exact⟨fun z=>lb (z▸hr0),fun z=>ll (z▸hr0),by rw[hr3];simp⟩
  ·unfold full at q;by_cases h3:300<=past.length
   ·rw[if_pos h3] at q⊢;exact q H3 s3
   ·rw[if_neg h3] at q⊢;intro H4 off B4;refine q H4 _ ⟨fun a o e n1 n2=>(off a n1 n2).trans (s3 a o e),fun a h=>?_,fun a g=>?_⟩ B4
    ·obtain⟨lb4,ll4⟩:=B4.liveB;by_cases z:a=b
     ·rw[z];exact lb4
     ·by_cases z2:a=l
      ·rw[z2];exact ll4
      ·rw[off a z z2];exact zeT s3 a h
    ·rcases g with g|g|g|g
     ·exact .inl g
     ·exact .inl g
     ·rw[g];exact .inr np
     ·rw[g];exact .inr hr0
noncomputable def sp_put(ea:Nat->A3)(C:A3):Sp:=fun vs H Q E=>∃b l G cs past x a ts,vs=[.ref b,.str x,.ref a]/\Bk C G H b l cs past/\SqL K H a (ts.map V.int)/\x.length<=sizeLine/\ts.length<=1000/\Deed ea C G H b l cs past Q E (putD cs past x ts)
theorem zdq:FnScope ["self","name","teeth"] ["self","name","teeth"] (defScope s_Book_put):=⟨rfl,rfl,rfl,by decide+kernel,rfl,by decide+kernel,by decide+kernel⟩
theorem ok_put{ea:Nat->A3}{C:A3}(D:MethAt K C "Book" "put" s_Book_put)(T:Bn mg)(BA:BookAt K C)(V_MOST_COMBS:∃t,mg "MOST_COMBS"=some (.int 8 t))(O_BadName:Err K mg "BadName" (ea 0))(O_BadTeeth:Err K mg "BadTeeth" (ea 1))(O_NameTaken:Err K mg "NameTaken" (ea 2))(O_BookFull:Err K mg "BookFull" (ea 3))
  (C_is_name:Callee P w K mg base "is_name" 2 ["text"] sp_name) (C_are_teeth:Callee P w K mg base "are_teeth" 1 ["teeth"] (sp_teeth K)) (M_set_comb:Method P w K mg base C "set_comb" (CX1 P w) 2 ["self","name","teeth"] (sp_set (K:=K) ea C)):Method P w K mg base C "put" (CX1 P w) 3 ["self","name","teeth"] (sp_put (K:=K) ea C):=by
 refine D.meth1 zdq (fun _ _ _ _ _ _=>ln3 fun _ _ _=>rfl) (fun vs H Q E h=>?_) (fun f cdv A outer s H vs Q E hr h=>?_)
 ·obtain⟨b,l,G,cs,past,x,a,ts,rfl,_⟩:=h;rfl
 ·obtain⟨b,l,G,cs,past,x,a,ts,rfl,B,ha,hxl,htl,q⟩:=h;have S:=zdq;have hu:=zcv hr;have B_cls:=BA.cls;unfold putD at q;refine⟨_,zac (zaE (za9 (zbb (zaA C_is_name (hr.mono (by decide)) rfl (zaa (pv 1) zae))))
   (zaf (zbl O_BadName rfl (zaa (zaw) zae)))
   (zan))
  (zac (zaE (za9 (zbb (zaA C_are_teeth (hr.mono (by decide)) rfl (zaa (pv 2) zae))))
   (zaf (zbl O_BadTeeth rfl (zaa (zaw) zae)))
   (zan))
  (zac (zaE (zd3 (zf2 hu (pv 1) (zb6 (pv 0) rfl)))
   (zaf (zbl O_NameTaken rfl (zaa (zaw) zae)))
   (zan))
  (zac (zaE (zam zhQ (zai call_lenD rfl T.n_len C3 (zaa (zb6 (pv 0) rfl) zae)) (zbN rfl V_MOST_COMBS) (zas _))
   (zaf (zbl O_BookFull rfl (zaa (zaw) zae)))
   (zan))
  (zaf (zaj (zgP (pv 0) B_cls M_set_comb (hr.mono (by decide)) (by first|exact zeN|exact zaG|exact zbP|exact zaQ) (zaa (pv 1) (zaa (pv 2) zae)))))))),?_⟩
  refine⟨_,rfl,x,rfl,hxl,fun H1 s1=>⟨_,rfl,?_⟩⟩
  cases e1:isName x with
  |false=>
   rw[e1,if_pos rfl] at q;exact iteT ⟨bigr rfl,q H1 s1⟩
  |true=>
   rw[e1,if_neg (by decide)] at q;refine iteF ?_;refine⟨_,rfl,a,ts,rfl,s1.seq ha,htl,fun H2 s2=>⟨_,rfl,?_⟩⟩;have s12:=s1.trans s2
   cases e2:areTeeth ts with
   |false=>
    rw[e2,if_pos rfl] at q;exact iteT ⟨bigr rfl,q H2 s12⟩
   |true=>
    rw[e2,if_neg (by decide)] at q;refine iteF ?_;have B2:=B.same s12;obtain⟨dx,d,hb,gd,kvs,hd,kr⟩:=id B2.ins;refine⟨_,rfl,_,rfl,_,_,_,_,_,rfl,hb,BA.cls,BA.nc,zbQ,d,_,rfl,DGet.k (k:=Da x) hd,_,rfl,?_⟩;rw[kr.some]
    cases e3:(cGet cs x).isSome with
    |true=>
     rw[e3,if_pos rfl] at q;exact iteT ⟨bigr rfl,q H2 s12⟩
    |false=>
     rw[e3,if_neg (by decide)] at q;refine iteF ?_;refine⟨_,rfl,_,_,_,_,_,rfl,hb,BA.cls,BA.nc,zbQ,_,_,rfl,hd,_,_,rfl,rfl,_,rfl,?_⟩;rw[kr.length];refine ite2 (fun hc=>?_) (fun hc=>?_)
     ·have h8:8<=cs.length:=by
       have:(8:Int)<=(cs.length:Int):=by simpa using hc
       omega
      rw[if_pos h8] at q;exact⟨bigr rfl,q H2 s12⟩
     ·have h8:¬8<=cs.length:=by
       have:¬(8:Int)<=(cs.length:Int):=by simpa using hc
       omega
      rw[if_neg h8] at q;exact⟨_,rfl,b,dx,_,rfl,hb,rfl,_,rfl,_,rfl,b,l,G,cs,past,x,a,ts,rfl,B2,s12.seq ha,e2,e1,.inl (by omega),q.from s12⟩
noncomputable def worths:List Int:=[1,2,4,8,16,32,64,128]
theorem at_worths{t:Int}(h0:0<=t)(h7:t<=7):atI (worths.map V.int) t=some (.int (pw t)):=by
 have:t=0\/t=1\/t=2\/t=3\/t=4\/t=5\/t=6\/t=7:=by omega
 rcases this with h|h|h|h|h|h|h|h<;>subst h<;>rfl
noncomputable def sp_worth(K:Am):Sp:=fun vs H Q _=>∃(a:A3)(ts:List Int),vs=[.ref a]/\SqL K H a (ts.map V.int)/\(∀t∈ts,0<=t/\t<=7)/\ts.length<=1000/\∀H',Same H H'->Q (.int (worth ts)) H'
theorem zcl:FnScope ["teeth"] ["teeth"] (defScope s_teeth_worth):=⟨rfl,rfl,rfl,by decide+kernel,rfl,by decide+kernel,by decide+kernel⟩
theorem ok_worth{tw:A3}(D:DefAt K mg "teeth_worth" s_teeth_worth)(T:Bn mg)(G_TOOTH_WORTH:mg "TOOTH_WORTH"=some (.ref tw))(HTW:∀H,SqT K H tw (worths.map V.int)):Callee P w K mg base "teeth_worth" 1 ["teeth"] (sp_worth K):=by
 refine D.callee zcl (fun _ _ _ _ _ _=>ln1 fun _=>rfl) (fun vs H Q E h=>?_) (fun f cdv A outer s H vs Q E hr h=>?_)
 ·obtain⟨a,ts,rfl,_⟩:=h;rfl
 ·obtain⟨a,ts,rfl,ha,hr7,hl,q⟩:=h;have S:=zcl;refine⟨_,zaf (zaj (zai (ze8 rfl) rfl T.n_sum boot_sum (zaa (za8 (own:=["tooth"]) (caps:=[]) rfl ⟨rfl,rfl,rfl,rfl,trivial⟩ (zax (pv 0)) (fun _ _ _ _ _ _=>zal (i:=0) (zaS (by decide+kernel)) rfl (Ao rfl)) (fun _ _ _ _ _ _=>zbu) (fun _ _ _ _ _ _=>zaB (ix_tup' K rfl) (zbp rfl G_TOOTH_WORTH) (pv 0) (fun _ _=>rfl))) zae))),?_⟩;refine⟨_,rfl,_,rfl,⟨_,ha⟩,fun D hD=>?_⟩;refine zb1 (capv:=[]) (L:=ts.map V.int) (by rfl) (zap K a (ts.map V.int)) (by rw[A4];exact big hl) hD ?_ (fun _=>true) (fun v=>match v with| .int t=>.int (pw t)|_=>.non) ?_ ?_ ?_
  ·exact fun H' s'=>s'.seq ha
  ·exact fun v hv H' R s' h=>h H' (Same.refl _)
  ·intro v hv _ H' R s' h;obtain⟨t,ht,rfl⟩:=A7.mp hv;have h:R (.int (pw t)) H':=h H' (Same.refl _);obtain⟨h0,h7⟩:=hr7 t ht;exact⟨_,rfl,_,_,_,_,rfl,rfl,HTW H',at_worths h0 h7,h⟩
  ·intro H' s' e;refine⟨_,ts.map pw,rfl,?_,q H' s'⟩;refine SqL.of ?_;rw[e];congr 2;rw[Ch.mpr (fun _ _=>rfl),Bb,Bb];rfl
noncomputable def sp_steps(ea:Nat->A3)(C:A3):Sp:=fun vs H Q E=>∃b l G cs past n,vs=[.ref b,.int n]/\Bk C G H b l cs past/\
 (if 0<=n/\n<128 then∀p H' ws,Same H H'->H p=none->H' p=some (.lst ws)->(∀nm:List Str,nm.Perm (cs.map (·.1))->sortedS nm=true->StepsR H' ws (stepsOf (byNames cs nm) n))->Q (.ref p) H' else E (.ref (ea 11)) none H)
theorem zcm:FnScope ["book","shape","steps","name","worth"] ["book","shape"] (defScope s_shape_steps):=⟨rfl,rfl,rfl,by decide+kernel,rfl,by decide+kernel,by decide+kernel⟩
theorem ok_steps{ea:Nat->A3}{C:A3}(D:DefAt K mg "shape_steps" s_shape_steps)(T:Bn mg)(BA:BookAt K C)(V_SHAPES:∃t,mg "SHAPES"=some (.int 128 t))(O_BadShape:Err K mg "BadShape" (ea 11))(C_teeth_worth:Callee P w K mg base "teeth_worth" 1 ["teeth"] (sp_worth K))
  (M_names:Method P w K mg base C "names" CX0 1 ["self"] (sp_names C)) (M_teeth:Method P w K mg base C "teeth" (CX1 P w) 2 ["self","name"] (sp_bteeth ea C)):Callee1 P w K mg base "shape_steps" 3 ["book","shape"] (sp_steps ea C):=by
 refine D.callee1 zcm (fun _ _ _ _ _ _=>ln2 fun _ _=>rfl) (fun vs H Q E h=>?_) (fun f cdv A outer s H vs Q E hr h=>?_)
 ·obtain⟨b,l,G,cs,past,n,rfl,_⟩:=h;rfl
 ·obtain⟨b,l,G,cs,past,n,rfl,B,q⟩:=h;have S:=zcm;have hu:=zcv hr;have B_cls:=BA.cls;refine⟨_,zac (zaE (za9 (zda zcV zgT (zad) (pv 1) (zbN rfl V_SHAPES)))
   (zaf (zbl O_BadShape rfl (zaa (zaw) zae)))
   (zan))
  (zac (zaE (zam zcj (zau za5 (pv 1) (zad)) (zad) (zas _))
   (zaf (zaj (zaZ (zaa (zbi (zaa (zaw) (zaa (zau zcr (pv 1) (zad)) zae))) zae))))
   (zan))
  (zac (zak (i:=2) S.nd rfl (Ao rfl) (zaZ (zae)))
  (zac (zaY Jn rfl (zax (pe_mt0 (pv 0) B_cls M_names (hr.mono (by decide)) (by first|exact zeN|exact zaG|exact zbP|exact zaQ))) (zal (i:=3) S.nd rfl (Ao rfl))
   (zac (zak (i:=4) S.nd rfl (Ao rfl) (zaA C_teeth_worth (hr.mono (by decide)) rfl (zaa (zgP (pv 0) B_cls M_teeth (hr.mono (by decide)) (by first|exact zeN|exact zaG|exact zbP|exact zaQ) (zaa (pv 3) zae)) zae)))
   (zaf (zaE (zam zcj (zau zhC (pv 1) (pv 4)) (zad) (zas _))
    (zaf (zbd (zdP C7 Cd Cc za1 (pv 2) (zaa (zbi (zaa (pv 3) (zaa (zau zcr (zau zbf (pv 1) (pv 4)) (zad)) zae))) zae))))
    (zan)))))
  (zaf (zaj (pv 2)))))),?_⟩
  refine⟨_,rfl,_,_,rfl,rfl,_,rfl,?_⟩;refine ite2 (fun h0=>?_) (fun h0=>?_)
  rotate_left
  ·have h0:¬(0:Int)<=n:=by simpa using h0
   rw[if_neg (fun z=>h0 z.1)] at q;exact⟨_,rfl,iteT ⟨bigr rfl,q⟩⟩
  have h0:(0:Int)<=n:=by simpa using h0
  refine⟨_,_,rfl,rfl,_,rfl,?_⟩;by_cases h1:n<128
  case neg=>
   rw[if_neg (fun z=>h1 z.2)] at q;rw[decide_eq_false h1];exact iteT ⟨bigr rfl,q⟩
  rw[if_pos ⟨h0,h1⟩] at q;rw[decide_eq_true h1];refine iteF ?_;have p2:(0:Int)<2:=by decide
  refine⟨_,rfl,_,_,rfl,rfl,p2,rfl,_,rfl,?_⟩;refine ite2 (fun hc=>?_) (fun hc=>?_)
  ·have hc:n%2=1:=by simpa using hc
   refine⟨_,rfl,_,_,rfl,rfl,⟨p2,by decide⟩,bigr rfl,fun t nt=>⟨bigr rfl,fun p np=>?_⟩⟩;have s1:Same H (upd H t (.tup [.str "",.int (n / 2)])):=Same.new nt;refine q p _ [.ref t] (s1.trans (Same.new np)) (s1.free np) zab fun nm _ _=>?_;rw[zeE hc];refine⟨⟨t,rfl,?_⟩,trivial⟩;rw[zah (fun z=>by rw[<-z,zab] at np;cases np)];exact zab
  ·have hc:¬n%2=1:=by simpa using hc
   refine⟨bigr rfl,fun pl npl=>?_⟩;have s1:Same H (upd H pl (.lst [])):=Same.new npl;obtain⟨dx,d,hb,_⟩:=id (B.same s1).ins;refine⟨_,rfl,b,dx,_,rfl,hb,rfl,b,l,G,cs,past,rfl,B.same s1,fun pn nm npn hnp hns=>⟨_,rfl,⟨_,SqL.of zab⟩,?_⟩⟩;have nlp:pn≠pl:=fun z=>by rw[z,zab] at npn;cases npn
   have s2:Same H (upd (upd H pl (.lst [])) pn (.lst (nm.map V.str))):=s1.trans (Same.new npn);have hnl:nm.length<=8:=by
    have:=hnp.length_eq;rw[A4] at this;have:=B.good.len;omega
   refine zbz (zap K pn (nm.map V.str)) (fun i σ Hx=>Same H Hx/\Hx pn=some (.lst (nm.map V.str))/\∃ws x3 x4,σ=[some (.ref b),some (.int n),some (.ref pl),x3,x4]/\Hx pl=some (.lst ws)/\ws.length<=i/\StepsR Hx ws (stepsOf (byNames cs (nm.take i)) n)) ⟨s2,zab,[],_,_,rfl,(by rw[zah nlp.symm];exact zab),Ab _,?_⟩ (fun i σ Hx _ h=>SqL.of h.2.1) ?_ ?_
   ·rw[P4];show StepsR _ [] (stepsOf [] n);rw[steps_nil hc];trivial
   ·rintro i x σ Hx hx⟨sx,hpn,ws,x3,x4,rfl,hpl,hwl,hst⟩;rw[Ad] at hx
    cases hk:nm[i]? with
    |none=>rw[hk] at hx;cases hx
    |some y=>
     rw[hk] at hx
     cases hx
     have hi:i<nm.length:=(Ar.mp hk).1;have hy:y∈cs.map (·.1):=hnp.mem_iff.mp (B0 hk)
     cases hts:cGet cs y with
     |none=>exact absurd hy (get_none.mp hts)
     |some ts=>
      have gts:GT ts:=(B.good.ok _ (zes hts)).2;obtain⟨dx2,d2,hb2,_⟩:=id (B.same sx).ins;refine⟨_,rfl,b,dx2,_,rfl,hb2,rfl,_,rfl,b,l,G,cs,past,y,rfl,B.same sx,?_⟩;rw[hts];intro p3 np3;refine⟨p3,ts,rfl,SqL.of zab,zca gts,by have:=zg6 gts;omega,fun H4 s4=>?_⟩;have s34:Same Hx H4:=(Same.new np3).trans s4;have eN:byNames cs (nm.take (i+1))=byNames cs (nm.take i)++[(y,ts)]:=by
       rw[zaz hk,byNames_snoc hts]
      refine⟨_,rfl,_,rfl,_,_,rfl,rfl,rfl,_,rfl,?_⟩;refine ite2 (fun hz=>?_) (fun hz=>?_)
      ·have hz:Dr n (worth ts)=0:=by simpa using hz
       refine⟨_,rfl,.inl ⟨rfl,_,SqL.of (s34 _ _ hpl)⟩,_,rfl,_,rfl,_,rfl,_,_,rfl,rfl,_,_,rfl,rfl,⟨p2,by decide⟩,bigr rfl,fun t nt=>?_⟩;have s5:Same Hx (upd H4 t (.tup [.str y,.int ((n+worth ts) / 2)])):=s34.trans (Same.new nt);have nplt:t≠pl:=fun z=>by rw[z,s34 _ _ hpl] at nt;cases nt
       refine⟨pl,_,_,rfl,rfl,s5 _ _ hpl,Ah (by omega:ws.length<1000) za0,?_⟩;refine⟨(sx.trans s5).put npl,(by rw[zah nlp];exact s5 _ _ hpn),_,_,_,rfl,zab,(by rw[Ag,Bq];omega),?_⟩;rw[eN,zdT hc,if_pos hz];refine StepsR.snoc ?_ (hst.mono fun q' xs hq'=>?_)
       ·rw[zah nplt];exact zab
       ·have:q'≠pl:=fun z=>by rw[z,hpl] at hq';cases hq'
        rw[zah this];exact s5 _ _ hq'
      ·have hz:¬Dr n (worth ts)=0:=by simpa using hz
       refine⟨sx.trans s34,s34 _ _ hpn,ws,_,_,rfl,s34 _ _ hpl,by omega,?_⟩;rw[eN,zdT hc,if_neg hz,C1];exact hst.mono fun q' xs hq'=>s34 _ _ hq'
   ·rintro σ Hx⟨sx,hpn,ws,x3,x4,rfl,hpl,hwl,hst⟩;rw[A4,By] at hst;refine⟨_,rfl,q pl Hx ws sx npl hpl fun nm' hp' hs'=>?_⟩;rw[strs_same (hp'.trans hnp.symm) hs' hns];exact hst
noncomputable def TabR(H:Hp)(ts:List V)(C:Combs):Prop:=ts.length=128/\∀s:Nat,s<128->∃q ws,ts[s]?=some (.ref q)/\H q=some (.lst ws)/\StepsR H ws (stp C s)
theorem TabR.same{H H':Hp}{ts:List V}{C:Combs}(t:TabR H ts C)(s:Same H H'):TabR H' ts C:=
 ⟨t.1,fun i h=>let ⟨q,ws,a,b,c⟩:=t.2 i h;⟨q,ws,a,s _ _ b,c.mono fun _ _ e=>s _ _ e⟩⟩
noncomputable def sp_table(C:A3):Sp:=fun vs H Q _=>∃b l G cs past,vs=[.ref b]/\Bk C G H b l cs past/\∀p H' ts,Same H H'->H p=none->H' p=some (.lst ts)->TabR H' ts (srt cs)->Q (.ref p) H'
theorem zcE:FnScope ["book"] ["book"] (defScope s_step_table):=⟨rfl,rfl,rfl,by decide+kernel,rfl,by decide+kernel,by decide+kernel⟩
theorem ok_table{ea:Nat->A3}{C:A3}(D:DefAt K mg "step_table" s_step_table)(T:Bn mg)(V_SHAPES:∃t,mg "SHAPES"=some (.int 128 t))(C_shape_steps:Callee1 P w K mg base "shape_steps" 3 ["book","shape"] (sp_steps ea C)):Callee1 P w K mg base "step_table" 4 ["book"] (sp_table C):=by
 refine D.callee1 zcE (fun _ _ _ _ _ _=>ln1 fun _=>rfl) (fun vs H Q E h=>?_) (fun f cdv A outer s H vs Q E hr h=>?_)
 ·obtain⟨b,l,G,cs,past,rfl,_⟩:=h;rfl
 ·obtain⟨b,l,G,cs,past,rfl,B,q⟩:=h;have S:=zcE;refine⟨_,zaf (zaj (za8 (own:=["shape"]) (caps:=[(0,"book")]) rfl ⟨rfl,rfl,rfl,rfl,⟨⟨rfl,rfl,.inl rfl⟩,trivial⟩⟩ (zbv rfl T.n_range (zaa (zbN rfl V_SHAPES) zae)) (fun _ _ _ _ _ _=>zal (i:=0) (zaS (by decide+kernel)) rfl (Ao rfl)) (fun _ _ _ _ _ _=>zbu) (fun _ _ _ _ _ _=>zbZ C_shape_steps (hr.mono (by decide)) (by first|exact zaG|exact zbP|exact zaQ) rfl (zaa (pv 1) (zaa (pv 0) zae))))),?_⟩;refine⟨_,rfl,by decide,by decide,fun D hD=>?_⟩;refine zhL (capv:=[some (.ref b)]) (by rfl) (zaT 0 (128:Int).toNat) (by rw[zbI];exact big (by decide)) hD (fun _ _=>trivial) (fun _=>true) (fun H i v=>∃(q:A3)(ws:List V),v= .ref q/\H q=some (.lst ws)/\StepsR H ws (stp (srt cs) i)) ?_ ?_ (fun i x hx H R s' h=>h H (Same.refl _)) ?_ ?_
  ·rintro H H' i v s'⟨qa,ws,e2,e3,e4⟩;exact⟨qa,ws,e2,s' _ _ e3,e4.mono fun _ _ e=>s' _ _ e⟩
  ·rintro H i v l' l'' hv hH⟨qa,ws,e2,e3,e4⟩;subst e2;have hne:qa≠D:=fun z=>hv (by rw[z]);refine⟨qa,ws,rfl,(by rw[zah hne];exact e3),e4.mono fun q' xs e=>?_⟩;rw[zah (fun z=>by rw[z,hH] at e;cases e)];exact e
  ·intro i x hx _ H' R s' hDn h;obtain⟨hi,rfl⟩:=zbJ hx;rw[Ex];refine⟨_,rfl,_,rfl,b,l,G,cs,past,((i:Nat):Int),rfl,B.same s',?_⟩;rw[if_pos ⟨by omega,by have:i<128:=hi;omega⟩];intro p H2 ws s2 np hp st;exact h H2 _ s2 (fun z=>hDn (by injection z with z;rw[<-z];exact np)) ⟨p,ws,rfl,hp,st _ (zgU cs) (nm_sorted cs)⟩
  ·intro H' ys s' hD' pr;rw[zbI,Ch.mpr (fun _ _=>rfl)] at pr;refine q _ H' ys s' hD hD' ⟨by rw[<-Cr pr,Ax];rfl,fun i hi=>?_⟩;obtain⟨y,ey,_,qa,ws,rfl,e3,e4⟩:=C5.at pr (C6 (show i<(128:Int).toNat from hi));exact⟨qa,ws,ey,e3,e4⟩
noncomputable def sp_behind:Sp:=fun vs H Q _=>∃(a l:A3)(ts:List V)(C:Combs)(ns:List Nat),vs=[.ref a,.ref l]/\H a=some (.lst ts)/\TabR H ts C/\GC C/\C.length<=8/\H l=some (.lst (ns.map fun s=>V.int (s:Nat)))/\(∀s∈ns,s<128)/\ns.length<=128/\∀p H',Same H H'->H p=none->H' p=some (.lst ((behN C ns).map fun s=>V.int (s:Nat)))->Q (.ref p) H'
theorem zbT:FnScope ["table","shapes","reached","shape","step"] ["table","shapes"] (defScope s_shapes_behind):=⟨rfl,rfl,rfl,by decide+kernel,rfl,by decide+kernel,by decide+kernel⟩
theorem ok_behind(D:DefAt K mg "shapes_behind" s_shapes_behind)(T:Bn mg):Callee P w K mg base "shapes_behind" 1 ["table","shapes"] sp_behind:=by
 refine D.callee zbT (fun _ _ _ _ _ _=>ln2 fun _ _=>rfl) (fun vs H Q E h=>?_) (fun f cdv A outer s H vs Q E hr h=>?_)
 ·obtain⟨a,l,ts,C,ns,rfl,_⟩:=h;rfl
 ·obtain⟨a,l,ts,C,ns,rfl,ha,tb,gc,h8,hl,hlt,hnl,q⟩:=h;have S:=zbT;have hu:=zcv hr;refine⟨_,zac (zak (i:=2) S.nd rfl (Ao rfl) (zdb))
  (zac (zaY Bf rfl (zax (pv 1)) (zal (i:=3) S.nd rfl (Ao rfl))
   (zaf (zaY Bf rfl (zax (zaB zaO (pv 0) (pv 3) (fun _ _=>rfl))) (zal (i:=4) S.nd rfl (Ao rfl))
    (zaf (zcq hu (pv 2) (zaB zaN (pv 4) (zad) (fun _ _=>rfl)) (zbn) rfl)))))
  (zaf (zaj (zai (call_sortedDI rfl) rfl T.n_sorted Il (zaa (pv 2) zae))))),?_⟩
  refine fun d nd=>?_;have s1:Same H (upd H d (.dK [])):=Same.new nd;refine⟨_,rfl,_,rfl,⟨_,SqL.of (s1 _ _ hl)⟩,?_⟩;refine zbz (zap K l _) (fun i σ Hx=>Same H Hx/\∃kvs rs x3 x4,σ=[some (.ref a),some (.ref l),some (.ref d),x3,x4]/\Hx d=some (.dK kvs)/\kvs.map (·.1)=rs.map Dm/\rs.Nodup/\kvs.length<=8*i/\∀n:Int,n∈rs↔∃t∈ns.take i,∃p∈stp C t,p.2=n) ⟨s1,[],[],_,_,rfl,zab,rfl,Df,Bs _,fun n=>by simp⟩ (fun i σ Hx _ h=>SqL.of (h.1 _ _ hl)) ?_ ?_
  ·rintro i x σ Hx hx⟨sx,kvs,rs,x3,x4,rfl,hd,hk,rn,hkl,hm⟩;rw[Ad] at hx
   cases ht:ns[i]? with
   |none=>rw[ht] at hx;cases hx
   |some t=>
    rw[ht] at hx
    cases hx
    have hti:i<ns.length:=(Ar.mp ht).1;have t128:=hlt t (B0 ht);obtain⟨qs,wss,e1,e2,e3⟩:=(tb.same sx).2 t t128;have hwl:=e3.length;have hw8:=zee h8 t;refine⟨_,rfl,_,rfl,_,_,_,_,rfl,rfl,SqL.of (sx _ _ ha),zay e1,_,rfl,⟨_,SqL.of e2⟩,?_⟩;have ek:ns.take (i+1)=ns.take i++[t]:=zaz ht;refine zbz (zap K qs wss) (fun j σ Hy=>Same Hx (upd Hy d (.dK kvs))/\Same H Hy/\(∀q o,q≠d->Hx q=some o->Hy q=some o)/\∃kvs' rs' x4,σ=[some (.ref a),some (.ref l),some (.ref d),some (.int (t:Nat)),x4]/\Hy d=some (.dK kvs')/\kvs'.map (·.1)=rs'.map Dm/\rs'.Nodup/\kvs'.length<=8*i+j/\∀n:Int,n∈rs'↔(∃t∈ns.take i,∃p∈stp C t,p.2=n)\/∃p∈(stp C t).take j,p.2=n) ⟨?_,sx,fun _ _ _ e=>e,kvs,rs,_,rfl,hd,hk,rn,by omega,fun n=>by rw[hm];simp⟩ (fun j σ Hy _ h=>SqL.of (h.2.2.1 _ _ (fun z=>by rw[z,hd] at e2;cases e2) e2)) ?_ ?_
    ·intro q o e;by_cases z:q=d
     ·rw[z,zab,<-hd,<-z,e]
     ·rw[zah z];exact e
    ·rintro j y σ Hy hy⟨s0,sy,ky,kvs',rs',x4',rfl,hd',hk',rn',hkl',hm'⟩;have hj:j<(stp C t).length:=by rw[<-hwl];exact(Ar.mp hy).1
     obtain⟨qa,e4,e5⟩:=e3.get (A9 hj);rw[hy] at e4
     cases e4
     have e5':=ky _ _ (fun z=>by rw[z,hd] at e5;cases e5) e5;refine⟨_,rfl,_,rfl,_,_,_,_,rfl,rfl,SqT.of e5',at1,_,_,rfl,DPut.k (k:=Dm _) hd' (Ah (by omega:kvs'.length<2000) (by decide)),?_⟩;refine⟨?_,sy.put nd,fun q o z e=>(by rw[zah z];exact ky q o z e),_,if(stp C t)[j].2∈rs' then rs' else rs'++[(stp C t)[j].2],_,rfl,zab,?_,?_,?_,?_⟩
     ·intro q o e;by_cases z:q=d
      ·rw[z,zab,<-hd,<-z,e]
      ·rw[zah z,zah z];exact ky q o z e
     ·rw[zeK,hk'];have:(Dm (stp C t)[j].2:Key)∈rs'.map Dm↔(stp C t)[j].2∈rs':=by
       rw[A7];exact⟨fun⟨z,hz,e⟩=>by injection e with e;rwa[<-e],fun h=>⟨_,h,rfl⟩⟩
      by_cases z:(stp C t)[j].2∈rs'
      ·rw[if_pos (this.mpr z),if_pos z]
      ·rw[if_neg (fun h=>z (this.mp h)),if_neg z,B7];rfl
     ·split
      ·exact rn'
      ·rename_i z;refine Cz.mpr ⟨rn',by simp,fun u hu v hv e=>?_⟩;rw[A6.mp hv] at e;exact z (e▸hu)
     ·have:=zcu kvs' (Dm (stp C t)[j].2:Key) (.bl true);omega
     ·intro n;rw[Cy hj];have:n∈(if(stp C t)[j].2∈rs' then rs' else rs'++[(stp C t)[j].2])↔n∈rs'\/(stp C t)[j].2=n:=by
       split
       ·rename_i z;exact⟨.inl,fun h=>h.elim id fun e=>e▸z⟩
       ·rw[Al,A6];exact⟨fun h=>h.elim .inl fun e=>.inr e.symm,fun h=>h.elim .inl fun e=>.inr e.symm⟩
      rw[this,hm'];constructor
      ·rintro((h|⟨p,hp,e⟩)|e)
       ·exact .inl h
       ·exact .inr ⟨p,B9 _ hp,e⟩
       ·exact .inr ⟨_,Bi _ (A6.mpr rfl),e⟩
      ·rintro(h|⟨p,hp,e⟩)
       ·exact .inl (.inl h)
       ·rcases Al.mp hp with z|z
        ·exact .inl (.inr ⟨p,z,e⟩)
        ·rw[A6.mp z] at e;exact .inr e
    ·rintro σ Hy⟨s0,sy,ky,kvs',rs',x4',rfl,hd',hk',rn',hkl',hm'⟩;refine⟨sy,kvs',rs',_,_,rfl,hd',hk',rn',by omega,fun n=>?_⟩;rw[hm',hwl,By,ek];constructor
     ·rintro(⟨t',ht',p,hp,e⟩|⟨p,hp,e⟩)
      ·exact⟨t',B9 _ ht',p,hp,e⟩
      ·exact⟨t,Bi _ (A6.mpr rfl),p,hp,e⟩
     ·rintro⟨t',ht',p,hp,e⟩;rcases Al.mp ht' with z|z
      ·exact .inl ⟨t',z,p,hp,e⟩
      ·rw[A6.mp z] at hp;exact .inr ⟨p,hp,e⟩
  ·rintro σ Hx⟨sx,kvs,rs,x3,x4,rfl,hd,hk,rn,hkl,hm⟩;rw[A4] at hkl hm;rw[By] at hm;have pm:=beh_keys gc hlt rn hm;have hrl:rs.length<=128:=by
    rw[pm.length_eq,A4];exact zfB C ns
   refine⟨_,rfl,d,kvs,rs,rfl,.inl hd,hk,by omega,fun p ns' np pp pw=>?_⟩;have e:=zbt (pp.trans pm) pw (beh_sorted C ns);refine q p _ (sx.trans (Same.new np)) (sx.free np) ?_;rw[zab,e,Bb];rfl
theorem zdn{C:A3}{G:A3->Prop}{H:Hp}{b l:A3}{cs:Combs}{past:List Combs}(B:Bk C G H b l cs past):GC (srt cs)/\(srt cs).length<=8:=by
 have g:=B.good;have p:=zeg g.nd;exact⟨fun c hc=>(g.ok c (p.mem_iff.mp hc)).2,by rw[p.length_eq];exact g.len⟩
noncomputable def sp_short:Sp:=fun vs H Q _=>∃(a:A3)(ts:List V)(C:Combs),vs=[.ref a]/\H a=some (.lst ts)/\TabR H ts C/\GC C/\C.length<=8/\∀(t:Nat)(H':Hp),Same H H'->((t=0/\∀n,1<=n->¬Fil C n)\/(1<=t/\t<=128/\Fil C t))->Q (.int (t:Nat)) H'
theorem zf5(l:List Nat):(l.map fun s=>V.int (s:Nat))=(l.map fun(s:Nat)=>(s:Int)).map V.int:=by rw[Bb];rfl
theorem in_nats(x:Nat)(l:List Nat):inV (V.int (x:Nat)) (l.map fun s=>V.int (s:Nat))=decide (x∈l):=by
 rw[zf5,zfu,decide_eq_decide,A7];exact⟨fun⟨y,h,e⟩=>by rw[show x=y by omega];exact h,fun h=>⟨x,h,rfl⟩⟩
theorem zga(l:List Nat):inV (V.int 0) (l.map fun s=>V.int (s:Nat))=decide (0∈l):=in_nats 0 l
theorem ze5(l:List Nat):(l.map fun s=>V.int (s:Nat)).all flatV=true:=by rw[zf5];exact zhr _
theorem zbA:FnScope ["table","shapes","length"] ["table"] (defScope s_shortest_length):=⟨rfl,rfl,rfl,by decide+kernel,rfl,by decide+kernel,by decide+kernel⟩
theorem ok_short(D:DefAt K mg "shortest_length" s_shortest_length)(T:Bn mg)(V_SHAPES:∃t,mg "SHAPES"=some (.int 128 t))(C_shapes_behind:Callee P w K mg base "shapes_behind" 1 ["table","shapes"] sp_behind):Callee P w K mg base "shortest_length" 2 ["table"] sp_short:=by
 refine D.callee zbA (fun _ _ _ _ _ _=>ln1 fun _=>rfl) (fun vs H Q E h=>?_) (fun f cdv A outer s H vs Q E hr h=>?_)
 ·obtain⟨a,ts,C,rfl,_⟩:=h;rfl
 ·obtain⟨a,ts,C,rfl,ha,tb,gc,h8,q⟩:=h;have S:=zbA;refine⟨_,zac (zak (i:=1) S.nd rfl (Ao rfl) (zaZ (zaa (zad) zae)))
  (zac (zaY Bf rfl (pi_range2 rfl T.n_range (zaa (zad) (zaa (zau zbf (zbN rfl V_SHAPES) (zad)) zae))) (zal (i:=2) S.nd rfl (Ao rfl))
   (zac (zak (i:=1) S.nd rfl (Ao rfl) (zaA C_shapes_behind (hr.mono (by decide)) rfl (zaa (pv 0) (zaa (pv 1) zae))))
   (zaf (zaE (zam zb8 (zad) (pv 1) (by with_unfolding_all rfl))
    (zaf (zaj (pv 2)))
    (zan)))))
  (zaf (zaj (zad)))),?_⟩
  refine⟨bigr rfl,fun p0 np0=>?_⟩;have s1:Same H (upd H p0 (.lst [.int 0])):=Same.new np0;refine⟨_,_,rfl,rfl,_,_,rfl,by decide,?_⟩;refine zbz (zaT 1 ((128:Int)+1-1).toNat) (fun i σ Hx=>Same H Hx/\(∀n,1<=n->n<=i->¬Fil C n)/\∃p x2,σ=[some (.ref a),some (.ref p),x2]/\Hx p=some (.lst ((rowN C i).map fun s=>V.int (s:Nat)))) ⟨s1,fun n h1 h2=>by omega,p0,_,rfl,zab⟩ (fun _ _ _ _ _=>trivial) ?_ ?_
  ·rintro i x σ Hx hx⟨sx,hno,p,x2,rfl,hp⟩;obtain⟨hi,rfl⟩:=zbJ hx;have hi:i<128:=hi;refine⟨_,rfl,_,rfl,a,p,ts,C,rowN C i,rfl,sx _ _ ha,tb.same sx,gc,h8,hp,(zfl C i).1,(zfl C i).2,fun p2 H2 s2 np2 hp2=>?_⟩;have hf:decide (0∈rowN C (i+1))=true↔Fil C (i+1):=by
    rw[decide_eq_true_eq,zba gc];exact Oo
   refine⟨_,rfl,_,_,rfl,.inl (SqL.of hp2),rfl,ze5 _,_,rfl,?_⟩;rw[if_neg Aa,zga];refine ite2 (fun h0=>?_) (fun h0=>?_)
   ·refine⟨_,rfl,?_⟩;have:=q (i+1) H2 (sx.trans s2) (.inr ⟨by omega,by omega,hf.mp h0⟩);rw[show(1:Int)+((i:Nat):Int)=((i+1:Nat):Int) by omega];exact this
   ·refine⟨sx.trans s2,fun n h1 h2 hn=>?_,p2,_,rfl,hp2⟩;by_cases z:n=i+1
    ·subst z;exact h0 (hf.mpr hn)
    ·exact hno n h1 (by omega) hn
  ·rintro σ Hx⟨sx,hno,p,x2,rfl,hp⟩;rw[zbI] at hno;refine q 0 Hx sx (.inl ⟨rfl,fun n h1 hn=>?_⟩);obtain⟨m,m1,m2,m3⟩:=ze6 gc n hn h1;exact hno m m1 m2 m3
noncomputable def lkv(l:List (Nat×Nat)):List (Key×V):=l.map fun x=>(Dm ((x.1:Nat):Int),V.int ((x.2:Nat):Int))
noncomputable def pkey(x:Nat×Nat):List Key:=kI [((x.1:Nat):Int),((x.2:Nat):Int)]
theorem pkey_inj{x y:Nat×Nat}(h:pkey x=pkey y):x=y:=by
 have:=zd8 h;injection this with a b;injection b with b _;exact P0 (by omega) (by omega)
theorem pkey_mem{S:List (Nat×Nat)}{x:Nat×Nat}:pkey x∈S.map pkey↔x∈S:=by
 rw[A7];exact⟨fun⟨y,h,e⟩=>pkey_inj e▸h,fun h=>⟨x,h,rfl⟩⟩
theorem zf7(l:List (Nat×Nat)):(lkv l).map (·.1)=l.map fun x=>(Dm ((x.1:Nat):Int):Key):=by
 unfold lkv;rw[Bb];rfl
theorem inl_nd{l:List (Nat×Nat)}(nd:(l.map (·.1)).Nodup):((lkv l).map (·.1)).Nodup:=by
 rw[zf7,Ir,Bl];rw[Ir,Bl] at nd;exact nd.imp fun h e=>h (by injection e with e;omega)
theorem zdz{l:List (Nat×Nat)}(nd:(l.map (·.1)).Nodup){r ℓ:Nat}(h:(r,ℓ)∈l):valV (lkv l) (Dm ((r:Nat):Int))=some (.int ((ℓ:Nat):Int)):=by
 obtain⟨i,hi⟩:=Gg.mp h;refine zfk (inl_nd nd) (i:=i) ?_;unfold lkv;rw[Ad,hi];rfl
theorem zf6{l:List (Nat×Nat)}{r:Nat}(h:∀ℓ,(r,ℓ)∉l):valV (lkv l) (Dm ((r:Nat):Int))=none:=by
 cases e:valV (lkv l) (Dm ((r:Nat):Int)) with
 |none=>rfl
 |some v=>
  exfalso;have:=valV_mem.mp (show(valV (lkv l) (Dm ((r:Nat):Int):Key)).isSome=true by rw[e];rfl);rw[zf7,A7] at this;obtain⟨x,hx,ex⟩:=this;injection ex with ex;have:x.1=r:=by omega
  exact h x.2 (by rw[<-this];exact hx)
theorem pairs_bound{S:List (Nat×Nat)}(nd:S.Nodup)(h:∀x∈S,x.1<128/\x.2<128):S.length<=16384:=by
 have:=zav 16384 (S.map fun x=>x.1+128*x.2) (by
  rw[Ir,Bl];rw[E9] at nd;refine Fd (fun{x y}hx hy hn e=>hn ?_) nd;have:=h x hx;have:=h y hy;exact P0 (by omega) (by omega)) (fun y hy=>by
  obtain⟨x,hx,rfl⟩:=A7.mp hy;have:=h x hx;omega)
 rwa[A4] at this
noncomputable def sp_least:Sp:=fun vs H Q _=>∃(a:A3)(ts:List V)(C:Combs)(t:Nat),vs=[.ref a,.int (t:Nat)]/\H a=some (.lst ts)/\TabR H ts C/\GC C/\C.length<=8/\1<=t/\t<=128/\∀(d:A3)(l:List (Nat×Nat))(N:Nat)(H':Hp),Same H H'->H d=none->H' d=some (.dK (lkv l))->LeastL C t N l->(∀s,¬Fst C t N s)->N<=16384->Q (.ref d) H'
theorem zbU:FnScope ["table","turn","least","seen","shapes","length","rest","shape","behind"] ["table","turn"] (defScope s_least_lengths):=⟨rfl,rfl,rfl,by decide+kernel,rfl,by decide+kernel,by decide+kernel⟩
theorem ok_least(D:DefAt K mg "least_lengths" s_least_lengths)(T:Bn mg)(C_shapes_behind:Callee P w K mg base "shapes_behind" 1 ["table","shapes"] sp_behind):Callee P w K mg base "least_lengths" 2 ["table","turn"] sp_least:=by
 refine D.callee zbU (fun _ _ _ _ _ _=>ln2 fun _ _=>rfl) (fun vs H Q E h=>?_) (fun f cdv A outer s H vs Q E hr h=>?_)
 ·obtain⟨a,ts,C,t,rfl,_⟩:=h;rfl
 ·obtain⟨a,ts,C,t,rfl,ha,tb,gc,h8,t1,t2,q⟩:=h;have S:=zbU;have hu:=zcv hr;have hsz:(20000:Nat)<=sizeLine:=by decide
  refine⟨_,zac (zak (i:=2) S.nd rfl (Ao rfl) (zdb))
  (zac (zak (i:=3) S.nd rfl (Ek rfl) (zek))
  (zac (zak (i:=4) S.nd rfl (Ao rfl) (zaZ (zaa (zad) zae)))
  (zac (zak (i:=5) S.nd rfl (Ek rfl) (zad))
  (zac (zcK Bf (zam zeQ (zai zat rfl T.n_len C3 (zaa (pv 4) zae)) (zad) (zas _))
   (zac (zak (i:=6) S.nd rfl (Ao rfl) (zau za5 (pv 5) (pv 1)))
   (zcp (zaE (zam zb8 (zad) (pv 4) (by with_unfolding_all rfl))
    (zaf (zcq hu (pv 2) (pv 6) (pv 5) rfl))
    (zan))
   (zac (zaY Bf rfl (zax (pv 4)) (zal (i:=7) S.nd rfl (Ao rfl))
    (zaf (zcq hu (pv 3) (zbi (zaa (pv 7) (zaa (pv 6) zae))) (zbn) rfl)))
   (zac (zak (i:=5) S.nd rfl (Ek rfl) (zau zbf (pv 5) (zad)))
   (zac (zak (i:=8) S.nd rfl (Ao rfl) (zaA C_shapes_behind (hr.mono (by decide)) rfl (zaa (pv 0) (zaa (pv 4) zae))))
   (zaf (zgL (i:=4) S.nd rfl (Ao rfl) (own:=["further"]) (caps:=[(5,"length"),(1,"turn"),(3,"seen")]) rfl ⟨rfl,rfl,rfl,rfl,⟨⟨rfl,rfl,.inl rfl⟩,⟨rfl,rfl,.inl rfl⟩,⟨rfl,rfl,.inl rfl⟩,trivial⟩⟩ (zax (pv 8)) (fun _ _ _ _ _ _=>zal (i:=0) (zaS (by decide+kernel)) rfl (Ao rfl)) (fun _ _ _ _ _ _=>zco (zd3 (zds hu (zbi (zaa (pv 0) (zaa (zau za5 (pv 1) (pv 2)) zae))) (pv 3)))) (fun _ _ _ _ _ _=>pv 0)))))))))
  (zaf (zaj (pv 2))))))),?_⟩
  refine fun d nd=>?_;have s1:Same H (upd H d (.dK [])):=Same.new nd;have hd1:upd H d (.dK []) d=some (.dK []):=zab;generalize upd H d (.dK [])=H1 at s1 hd1⊢;refine fun se nse=>?_;have s2:Same H1 (upd H1 se (.dT [])):=Same.new nse;have hse2:upd H1 se (.dT []) se=some (.dT []):=zab;have nse0:=s1.free nse;have hds:d≠se:=fun z=>by rw[<-z,hd1] at nse;cases nse
  have hd2:=s2 _ _ hd1;have s12:=s1.trans s2;generalize upd H1 se (.dT [])=H2 at s12 hse2 hd2⊢;refine⟨bigr rfl,fun p0 np0=>?_⟩;have s3:Same H2 (upd H2 p0 (.lst [.int 0])):=Same.new np0;have hp3:upd H2 p0 (.lst [.int 0]) p0=some (.lst (([0]:List Nat).map fun s=>V.int (s:Nat))):=zab;have s13:=s12.trans s3;have hd3:=s3 _ _ hd2;have hse3:=s3 _ _ hse2;generalize upd H2 p0 (.lst [.int 0])=H3 at s13 hp3 hd3 hse3⊢
  let J:Nat->Hp->L2.St->Prop:=fun m Hx σ=>Same H Hx/\∃(ℓ:Nat)(p:Addr)(sh:List Nat)(l:List (Nat×Nat))(svs:List (List Key×V))(Sn:List (Nat×Nat))(x6 x7 x8:Option V),m=20000-Sn.length/\σ=[some (.ref a),some (.int (t:Nat)),some (.ref d),some (.ref se),some (.ref p),some (.int (ℓ:Nat)),x6,x7,x8]/\Hx p=some (.lst (sh.map fun s=>V.int (s:Nat)))/\sh.Nodup/\(∀s,s∈sh↔Fst C t ℓ s)/\Hx d=some (.dK (lkv l))/\LeastL C t ℓ l/\Hx se=some (.dT svs)/\svs.map (·.1)=Sn.map pkey/\Sn.Nodup/\(∀s r,(s,r)∈Sn↔∃ℓ',ℓ'<ℓ/\r=ℓ'%t/\rch C 0 ℓ' s)/\ℓ<=Sn.length
  have J0:J 20000 H3 [some (.ref a),some (.int (t:Nat)),some (.ref d),some (.ref se),some (.ref p0),some (.int 0),none,none,none]:=by
   refine⟨s13,0,p0,[0],[],[],[],none,none,none,rfl,rfl,hp3,by simp,fun s=>?_,hd3,⟨Df,fun r ℓ=>?_⟩,hse3,rfl,Df,fun s r=>?_,Ab _⟩
   ·rw[A6];exact⟨fun h=>⟨h,fun ℓ' h'=>by omega⟩,fun h=>h.1⟩
   ·exact⟨fun h=>(by cases h),fun h=>(by omega)⟩
   ·exact⟨fun h=>(by cases h),fun⟨ℓ',h,_⟩=>(by omega)⟩
  refine⟨fun m σ Hx=>J m Hx σ,⟨_,J0⟩,?_⟩;clear J0 s13 hp3 hd3 hse3;rintro m σ Hx⟨sx,ℓ,p,sh,l,svs,Sn,x6,x7,x8,rfl,rfl,hp,shn,hsh,hd,hl,hse,hsk,snn,hSn,hle⟩;have hlt:∀s∈sh,s<128:=fun s hs=>zcn gc (by decide) ((hsh s).mp hs).1;have hs128:=zav 128 sh shn hlt;have hmod:∀n,n%t<t:=fun n=>Nat.mod_lt _ (by omega);have snb:Sn.length<=16384:=pairs_bound snn fun x hx=>by
   obtain⟨s,r⟩:=x;obtain⟨ℓ',_,e,h⟩:=(hSn s r).mp hx;exact⟨zcn gc (by decide) h,by have:=hmod ℓ';show r<128;omega⟩
  refine⟨_,rfl,_,_,rfl,.inl (SqL.of hp),_,_,rfl,rfl,_,rfl,?_⟩;rw[A4];by_cases hem:sh=[]
  ·subst hem;rw[decide_eq_false (by simp)];refine iteF ?_;exact⟨_,rfl,q d l ℓ Hx sx nd hd hl (fun s hs=>by have:=(hsh s).mpr hs;cases this) (by omega)⟩
  have hpos:0<sh.length:=List.length_pos_iff.mpr hem;rw[decide_eq_true (show(0:Int)<((sh.length:Nat):Int) by omega)];refine iteT ?_;refine⟨fun σ' H'=>∃m',m'<20000-Sn.length/\J m' H' σ',fun _ _ h=>h,?_⟩;have emod:((ℓ:Nat):Int)%((t:Nat):Int)=((ℓ%t:Nat):Int):=(Int.natCast_emod ℓ t).symm;refine⟨_,rfl,_,rfl,_,_,rfl,rfl,show(0:Int)<((t:Nat):Int) by omega,?_⟩;refine⟨fun σ Hy=>Same H Hy/\Hy p=some (.lst (sh.map fun s=>V.int (s:Nat)))/\Hy se=some (.dT svs)/\σ=[some (.ref a),some (.int (t:Nat)),some (.ref d),some (.ref se),some (.ref p),some (.int (ℓ:Nat)),some (.int (((ℓ:Nat):Int)%((t:Nat):Int))),x7,x8]/\∃l',Hy d=some (.dK (lkv l'))/\LeastL C t (ℓ+1) l',?_,?_⟩
  ·refine⟨_,rfl,_,_,rfl,.inl (SqL.of hp),rfl,ze5 _,_,rfl,?_⟩;rw[if_neg Aa,zga];refine ite2 (fun h0=>?_) (fun h0=>?_)
   ·have h0:=(hsh 0).mp (of_decide_eq_true h0);have hno:∀ℓ',(ℓ%t,ℓ')∉l:=fun ℓ' z=>by
     obtain⟨a1,a2,a3⟩:=(hl.2 _ _).mp z;exact h0.2 ℓ' a1 a2.symm a3.1
    have hln:l.length<=16384:=by
     have:=zav 16384 (l.map (·.1)) hl.1 (fun y hy=>by
      obtain⟨⟨r,ℓ'⟩,hx,rfl⟩:=A7.mp hy;obtain⟨_,a2,_⟩:=(hl.2 _ _).mp hx;have:=hmod ℓ';show r<16384;omega)
     rwa[A4] at this
    refine⟨_,rfl,_,rfl,_,rfl,d,_,rfl,DPut.k (k:=Sum.inl (((ℓ:Nat):Int)%((t:Nat):Int))) hd (by unfold lkv;rw[List.length_map];omega),?_⟩;rw[emod,zc9 _ (zf6 hno)];have hpd:p≠d:=fun z=>by rw[z,hd] at hp;cases hp
    refine⟨sx.put nd,by rw[zah hpd];exact hp,by rw[zah hds.symm];exact hse,rfl,l++[(ℓ%t,ℓ)],?_,?_⟩
    ·rw[zab];unfold lkv;rw[B7];rfl
    ·refine⟨?_,fun r ℓ'=>?_⟩
     ·rw[B7];refine Cz.mpr ⟨hl.1,by simp,fun u hu' v hv e=>?_⟩;obtain⟨⟨r,ℓ'⟩,hx,rfl⟩:=A7.mp hu';have hv:v=ℓ%t:=by simpa using hv
      rw[hv] at e;dsimp only at e;rw[e] at hx;exact hno _ hx
     ·rw[Al,hl.2,A6];constructor
      ·rintro(⟨a1,a2,a3⟩|e)
       ·exact⟨by omega,a2,a3⟩
       ·injection e with e1 e2;subst e1 e2;exact⟨by omega,rfl,h0⟩
      ·rintro⟨a1,a2,a3⟩;by_cases z:ℓ'=ℓ
       ·subst z;exact .inr (by rw[a2])
       ·exact .inl ⟨by omega,a2,a3⟩
   ·refine⟨sx,hp,hse,rfl,l,hd,hl.1,fun r ℓ'=>?_⟩;rw[hl.2];constructor
    ·rintro⟨a1,a2,a3⟩;exact⟨by omega,a2,a3⟩
    ·rintro⟨a1,a2,a3⟩;refine⟨?_,a2,a3⟩;by_cases z:ℓ'=ℓ
     ·subst z;exact absurd (decide_eq_true ((hsh 0).mpr a3)) h0
     ·omega
  rintro σ Hy⟨sy,hpy,hsey,rfl,l',hdy,hl'⟩;rw[emod];clear hp hse hd;have hnewS:∀s∈sh,(s,ℓ%t)∉Sn:=fun s hs z=>by
   obtain⟨ℓ',a1,a2,a3⟩:=(hSn _ _).mp z;exact((hsh s).mp hs).2 ℓ' a1 a2.symm a3
  have hpse:p≠se:=fun z=>by rw[z,hsey] at hpy;cases hpy
  refine⟨_,rfl,_,rfl,⟨_,SqL.of hpy⟩,?_⟩;refine zbz (zap K p _) (fun i σ Hz=>Same H Hz/\Hz p=some (.lst (sh.map fun s=>V.int (s:Nat)))/\Hz d=some (.dK (lkv l'))/\∃(svs':List (List Key×V))(x7:Option V),σ=[some (.ref a),some (.int (t:Nat)),some (.ref d),some (.ref se),some (.ref p),some (.int (ℓ:Nat)),some (.int ((ℓ%t:Nat):Int)),x7,x8]/\Hz se=some (.dT svs')/\svs'.map (·.1)=(Sn++(sh.take i).map fun s=>(s,ℓ%t)).map pkey) ⟨sy,hpy,hdy,svs,_,rfl,hsey,by rw[List.take_zero,List.map_nil,List.append_nil];exact hsk⟩ (fun i σ Hz _ h=>SqL.of h.2.1) ?_ ?_
  ·rintro i x σ Hz hx⟨sz,hpz,hdz,svs',x7',rfl,hsez,hskz⟩;rw[Ad] at hx
   cases es:sh[i]? with
   |none=>rw[es] at hx;cases hx
   |some s0=>
    rw[es] at hx
    cases hx
    have hi:i<sh.length:=(Ar.mp es).1;refine⟨_,rfl,_,rfl,_,rfl,bigr rfl,fun tk ntk=>?_⟩;have s5:Same Hz (upd Hz tk (.tup [.int ((s0:Nat):Int),.int ((ℓ%t:Nat):Int)])):=Same.new ntk;have htk:upd Hz tk (.tup [.int ((s0:Nat):Int),.int ((ℓ%t:Nat):Int)]) tk=some (.tup ((pkey (s0,ℓ%t)).map kV)):=by
     rw[zab];unfold pkey;rw[kI_V];rfl
    have hvl:svs'.length<=17000:=by
     have:=congrArg Ev hskz;rw[A4,A4,Ag,A4,Cq] at this;omega
    refine⟨se,_,rfl,DPut.t (k:=pkey (s0,ℓ%t)) (s5 _ _ hsez) htk (by omega),?_⟩;have hnone:valV svs' (pkey (s0,ℓ%t))=none:=by
     cases ez:valV svs' (pkey (s0,ℓ%t)) with
     |none=>rfl
     |some v=>
      exfalso;have z:=valV_mem.mp (show(valV svs' (pkey (s0,ℓ%t))).isSome=true by rw[ez];rfl);rw[hskz,pkey_mem] at z;rcases Al.mp z with z|z
      ·exact hnewS s0 (B0 es) z
      ·obtain⟨s',hs',e'⟩:=A7.mp z;injection e' with e' _;subst e';obtain⟨n,hn,en⟩:=Em hs';rw[Cq] at hn;rw[Hn] at en;have:n=i:=(Ob (l:=sh) (by omega) shn).mp (by rw[es,A9 (by omega),en]);omega
    rw[zc9 _ hnone];refine⟨(sz.trans s5).put nse0,by rw[zah hpse];exact s5 _ _ hpz,by rw[zah hds];exact s5 _ _ hdz,_,_,rfl,zab,?_⟩;rw[B7,hskz,zaz es];simp only[B7,Au];rfl
  rintro σ Hz⟨sz,hpz,hdz,svs',x7',rfl,hsez,hskz⟩;rw[A4,By] at hskz;generalize hS2:Sn++sh.map (fun s=>(s,ℓ%t))=S2 at hskz;have S2n:S2.Nodup:=by
   rw[<-hS2];refine Cz.mpr ⟨snn,?_,fun u hu' v hv e=>?_⟩
   ·rw[Ir,Bl];exact shn.imp fun h e=>h (by injection e)
   ·obtain⟨s',hs',rfl⟩:=A7.mp hv;rw[e] at hu';exact hnewS s' hs' hu'
  have hS2m:∀s r,(s,r)∈S2↔∃ℓ',ℓ'<ℓ+1/\r=ℓ'%t/\rch C 0 ℓ' s:=fun s r=>by
   rw[<-hS2,Al,hSn];constructor
   ·rintro(⟨ℓ',a1,a2⟩|z)
    ·exact⟨ℓ',by omega,a2⟩
    ·obtain⟨s',hs',e'⟩:=A7.mp z;injection e' with e1 e2;subst e1 e2;exact⟨ℓ,by omega,rfl,((hsh s').mp hs').1⟩
   ·rintro⟨ℓ',a1,a2,a3⟩;by_cases z:ℓ'=ℓ
    ·subst z;by_cases y:s∈sh
     ·exact .inr (A7.mpr ⟨s,y,by rw[a2]⟩)
     ·have:∃ℓ'',ℓ''<ℓ'/\ℓ''%t=ℓ'%t/\rch C 0 ℓ'' s:=Classical.byContradiction fun w=>y ((hsh s).mpr ⟨a3,fun ℓ'' b1 b2 b3=>w ⟨ℓ'',b1,b2,b3⟩⟩);obtain⟨ℓ'',b1,b2,b3⟩:=this;exact .inl ⟨ℓ'',b1,by rw[a2,b2],b3⟩
    ·exact .inl ⟨ℓ',by omega,a2,a3⟩
  have S2l:S2.length=Sn.length+sh.length:=by rw[<-hS2,Ag,A4]
  have e1:((ℓ:Nat):Int)+1=((ℓ+1:Nat):Int):=by omega
  refine⟨_,rfl,_,_,rfl,rfl,?_⟩;refine⟨_,rfl,_,rfl,a,p,ts,C,sh,rfl,sz _ _ ha,tb.same sz,gc,h8,hpz,hlt,hs128,fun b H4 s4 nb hb=>?_⟩;refine⟨_,rfl,_,rfl,⟨_,SqL.of hb⟩,fun D hD=>?_⟩;have emod1:(((ℓ:Nat):Int)+1)%((t:Nat):Int)=(((ℓ+1)%t:Nat):Int):=by rw[e1];exact(Int.natCast_emod (ℓ+1) t).symm
  have hse4:=s4 _ _ hsez;refine zb1 (capv:=[some (.int (((ℓ:Nat):Int)+1)),some (.int (t:Nat)),some (.ref se)]) (by rfl) (zap K b _) (by rw[List.length_map];exact big (by have:=zfB C sh;omega)) hD (fun H' s'=>SqL.of (s' _ _ hb)) (fun v=>match v with| .int x=>decide ((x.toNat,(ℓ+1)%t)∉S2)|_=>false) id ?_ ?_ ?_
  ·intro x hx H' R s' h;obtain⟨s0,hs0,rfl⟩:=A7.mp hx;refine⟨_,rfl,_,rfl,_,rfl,_,_,rfl,rfl,show(0:Int)<((t:Nat):Int) by omega,bigr rfl,fun tk ntk=>?_⟩;have s5:Same H' (upd H' tk (.tup [.int ((s0:Nat):Int),.int ((((ℓ:Nat):Int)+1)%((t:Nat):Int))])):=Same.new ntk;have htk:upd H' tk (.tup [.int ((s0:Nat):Int),.int ((((ℓ:Nat):Int)+1)%((t:Nat):Int))]) tk=some (.tup ((pkey (s0,(ℓ+1)%t)).map kV)):=by
    rw[zab,emod1];unfold pkey;rw[kI_V];rfl
   refine⟨_,rfl,se,_,rfl,DGet.t (s5 _ _ (s' _ _ hse4)) htk,_,rfl,?_⟩;have ev:(!(valV svs' (pkey (s0,(ℓ+1)%t))).isSome)=decide ((((s0:Nat):Int).toNat,(ℓ+1)%t)∉S2):=by
    rw[show((s0:Nat):Int).toNat=s0 by omega];by_cases z:(s0,(ℓ+1)%t)∈S2
    ·rw[decide_eq_false (fun y=>y z),valV_mem.mpr (by rw[hskz];exact pkey_mem.mpr z)];rfl
    ·rw[decide_eq_true z]
     cases ez:(valV svs' (pkey (s0,(ℓ+1)%t))).isSome with
     |false=>rfl
     |true=>
      have:=valV_mem.mp ez;rw[hskz] at this;exact absurd (pkey_mem.mp this) z
   rw[ev];exact h _ s5
  ·intro x hx _ H' R s' h;exact⟨_,rfl,h H' (Same.refl _)⟩
  intro H5 s5 e5;have s45:=s4.trans s5;refine⟨20000-S2.length,by omega,sz.trans s45,ℓ+1,D,(behN C sh).filter fun s=>decide ((s,(ℓ+1)%t)∉S2),l',svs',S2,_,_,_,rfl,by rw[<-e1];rfl,?_,(beh_nd C sh).sublist List.filter_sublist,fun s=>?_,s45 _ _ hdz,hl',s45 _ _ hsez,hskz,S2n,hS2m,by omega⟩
  ·rw[e5,Gk,Gn];congr 2
  ·rw[Bc,beh_mem,decide_eq_true_eq];constructor
   ·rintro⟨⟨_,u,hu',h1⟩,h2⟩;refine⟨⟨u,((hsh u).mp hu').1,h1⟩,fun ℓ' a1 a2 a3=>h2 ((hS2m _ _).mpr ⟨ℓ',a1,a2.symm,a3⟩)⟩
   ·intro hf;obtain⟨u,hu',h1⟩:=zfx hf;refine⟨⟨zcn gc (by decide) hf.1,u,(hsh u).mpr hu',h1⟩,fun z=>?_⟩;obtain⟨ℓ',a1,a2,a3⟩:=(hS2m _ _).mp z;exact hf.2 ℓ' a1 a2.symm a3
noncomputable def reachB(l:List (Nat×Nat))(t n:Nat):Bool:=l.any fun x=>decide (x.1=n%t/\x.2<=n)
theorem zeJ{C:Combs}{t N:Nat}(ht:Fil C t){l:List (Nat×Nat)}(h:LeastL C t N l)(hN:∀s,¬Fst C t N s)(n:Nat):reachB l t n=true↔Fil C n:=by
 rw[zb9 ht h hN];unfold reachB;rw[Bp];constructor
 ·rintro⟨⟨r,ℓ⟩,hx,hd⟩;obtain⟨e1,e2⟩:=of_decide_eq_true hd;dsimp only at e1 e2;subst e1;exact⟨ℓ,hx,e2⟩
 ·rintro⟨ℓ,hx,e2⟩;exact⟨_,hx,decide_eq_true ⟨rfl,e2⟩⟩
noncomputable def sp_reached:Sp:=fun vs H Q _=>∃(d:A3)(l:List (Nat×Nat))(t n:Nat),vs=[.ref d,.int (t:Nat),.int (n:Nat)]/\H d=some (.dK (lkv l))/\(l.map (·.1)).Nodup/\1<=t/\Q (.bl (reachB l t n)) H
theorem zcF:FnScope ["least","turn","length","rest"] ["least","turn","length"] (defScope s_is_reached):=⟨rfl,rfl,rfl,by decide+kernel,rfl,by decide+kernel,by decide+kernel⟩
theorem ok_reached(D:DefAt K mg "is_reached" s_is_reached)(T:Bn mg):Callee P w K mg base "is_reached" 1 ["least","turn","length"] sp_reached:=by
 refine D.callee zcF (fun _ _ _ _ _ _=>ln3 fun _ _ _=>rfl) (fun vs H Q E h=>?_) (fun f cdv A outer s H vs Q E hr h=>?_)
 ·obtain⟨d,l,t,n,rfl,_⟩:=h;rfl
 ·obtain⟨d,l,t,n,rfl,hd,nd,t1,q⟩:=h;have S:=zcF;have hu:=zcv hr;have emod:((n:Nat):Int)%((t:Nat):Int)=((n%t:Nat):Int):=(Int.natCast_emod n t).symm;refine⟨_,zac (zak (i:=3) S.nd rfl (Ao rfl) (zau za5 (pv 2) (pv 1)))
  (zaf (zaj (zd5 (zhA (zf2 hu (pv 3) (pv 0))) (zeM (zbF zcV (zcU hu (pv 0) (pv 3) (fun _ _=>rfl)) (pv 2) (zas _)))))),?_⟩
  refine⟨_,rfl,_,rfl,_,_,rfl,rfl,show(0:Int)<((t:Nat):Int) by omega,?_⟩;refine⟨_,rfl,_,rfl,d,_,rfl,DGet.k (k:=Sum.inl (((n:Nat):Int)%((t:Nat):Int))) hd,_,rfl,?_⟩;rw[emod];by_cases h:∃ℓ,(n%t,ℓ)∈l
  ·obtain⟨ℓ,hℓ⟩:=h;rw[zdz nd hℓ];refine iteT ?_;have dg:DGet H d (.int (((n:Nat):Int)%((t:Nat):Int))) (some (.int (ℓ:Nat))):=by
    have e:=DGet.k (k:=Sum.inl ((n%t:Nat):Int)) hd;rw[zdz nd hℓ] at e;rw[emod];exact e
   refine⟨_,rfl,_,rfl,d,_,rfl,dg,_,rfl,_,_,rfl,rfl,?_⟩;have er:decide (((ℓ:Nat):Int)<=((n:Nat):Int))=reachB l t n:=by
    unfold reachB;rw[Ay,decide_eq_true_eq,Bp];constructor
    ·intro z;exact⟨_,hℓ,decide_eq_true ⟨rfl,by show ℓ<=n;omega⟩⟩
    ·rintro⟨⟨r,ℓ'⟩,hx,hz⟩;obtain⟨e1,e2⟩:=of_decide_eq_true hz;dsimp only at e1 e2;subst e1;have e3:=zdz nd hx;rw[zdz nd hℓ] at e3;injection e3 with e3;injection e3 with e3;omega
   rw[<-er] at q;exact q
  ·have hno:∀ℓ,(n%t,ℓ)∉l:=fun ℓ z=>h ⟨ℓ,z⟩;rw[zf6 hno];refine iteF ?_;have er:reachB l t n=false:=by
    unfold reachB;rw[Kd];rintro⟨r,ℓ⟩hx hz;obtain⟨e1,_⟩:=of_decide_eq_true hz;dsimp only at e1;subst e1;exact hno ℓ hx
   rw[er] at q;exact q
noncomputable def sp_gcd:Sp:=fun vs H Q _=>∃(a b:Nat),vs=[.int (a:Nat),.int (b:Nat)]/\Q (.int ((Hr a b:Nat):Int)) H
theorem zbH:FnScope ["one","other","rest"] ["one","other"] (defScope s_common_divisor):=⟨rfl,rfl,rfl,by decide+kernel,rfl,by decide+kernel,by decide+kernel⟩
theorem ok_gcd(D:DefAt K mg "common_divisor" s_common_divisor)(T:Bn mg):Callee P w K mg base "common_divisor" 1 ["one","other"] sp_gcd:=by
 refine D.callee zbH (fun _ _ _ _ _ _=>ln2 fun _ _=>rfl) (fun vs H Q E h=>?_) (fun f cdv A outer s H vs Q E hr h=>?_)
 ·obtain⟨a,b,rfl,_⟩:=h;rfl
 ·obtain⟨a,b,rfl,q⟩:=h;have S:=zbH;refine⟨_,zac (zcK Bf (zam zeQ (pv 1) (zad) (zas _))
   (zac (zak (i:=2) S.nd rfl (Ao rfl) (zau za5 (pv 0) (pv 1)))
   (zac (zak (i:=0) S.nd rfl (Ao rfl) (pv 1))
   (zaf (zak (i:=1) S.nd rfl (Ao rfl) (pv 2))))))
  (zaf (zaj (pv 0))),?_⟩
  refine⟨fun m σ Hx=>Hx=H/\∃(x y:Nat)(x2:Option V),m=y/\σ=[some (.int (x:Nat)),some (.int (y:Nat)),x2]/\Hr x y=Hr a b,⟨_,rfl,a,b,_,rfl,rfl,rfl⟩,?_⟩;rintro y σ Hx⟨rfl,x,_,x2,rfl,rfl,hg⟩;refine⟨_,rfl,_,_,rfl,rfl,_,rfl,?_⟩;by_cases hy:y=0
  ·subst hy;rw[decide_eq_false (by decide)];refine iteF ?_;rw[Nat.gcd_zero_right] at hg;rw[<-hg] at q;exact⟨_,rfl,q⟩
  ·rw[decide_eq_true (show(0:Int)<((y:Nat):Int) by omega)];refine iteT ?_;refine⟨fun σ' H'=>∃m',m'<y/\H'=Hx/\∃(x y:Nat)(x2:Option V),m'=y/\σ'=[some (.int (x:Nat)),some (.int (y:Nat)),x2]/\Hr x y=Hr a b,fun _ _ h=>h,?_⟩;have emod:((x:Nat):Int)%((y:Nat):Int)=((x%y:Nat):Int):=(Int.natCast_emod x y).symm;refine⟨_,rfl,_,rfl,_,_,rfl,rfl,show(0:Int)<((y:Nat):Int) by omega,_,rfl,_,rfl,x%y,Nat.mod_lt _ (by omega),rfl,y,x%y,_,rfl,by rw[<-emod];rfl,?_⟩;rw[<-hg,Q7 x y,Rg y x,Q7]
noncomputable def filL(C:Combs)(u:Nat):List Nat:=(Af (u+1)).filter fun n=>decide (0∈rowN C n)
noncomputable def sp_flush(C:A3):Sp:=fun vs H Q _=>∃b l G cs past,vs=[.ref b]/\Bk C G H b l cs past/\∀(t sl:A3)(u st:Nat)(H':Hp),Same H H'->H t=none->H sl=none->H' t=some (.tup [.int (u:Nat),.ref sl,.int (st:Nat)])->H' sl=some (.lst ((filL (srt cs) u).map fun s=>V.int (s:Nat)))->u<=16384->((st=0/\u=0/\∀n,1<=n->¬Fil (srt cs) n)\/FlushD (srt cs) u st)->Q (.ref t) H'
theorem filL_zero(C:Combs):filL C 0=[0]:=by
 unfold filL;rw[show Af (0+1)=[0] from rfl,C8,if_pos (decide_eq_true (show 0∈rowN C 0 from A6.mpr rfl))];rfl
theorem zfr(l:List (Nat×Nat)):(lkv l).length=l.length:=by unfold lkv;rw[A4]
theorem upd_self{H:Hp}{d:A3}{o:HO}(h:H d=some o):upd H d o=H:=by
 funext b;unfold upd
 split
 ·rename_i z;rw[z,h]
 ·rfl
theorem zbV:FnScope ["book","table","turn","least","step","rest","upto","short"] ["book"] (defScope s_flush_lengths):=⟨rfl,rfl,rfl,by decide+kernel,rfl,by decide+kernel,by decide+kernel⟩
theorem ok_flush{C:A3}(D:DefAt K mg "flush_lengths" s_flush_lengths)(T:Bn mg)(C_step_table:Callee1 P w K mg base "step_table" 4 ["book"] (sp_table C))(C_shortest_length:Callee P w K mg base "shortest_length" 2 ["table"] sp_short)(C_least_lengths:Callee P w K mg base "least_lengths" 2 ["table","turn"] sp_least)(C_common_divisor:Callee P w K mg base "common_divisor" 1 ["one","other"] sp_gcd)(C_is_reached:Callee P w K mg base "is_reached" 1 ["least","turn","length"] sp_reached):Callee1 P w K mg base "flush_lengths" 5 ["book"] (sp_flush C):=by
 refine D.callee1 zbV (fun _ _ _ _ _ _=>ln1 fun _=>rfl) (fun vs H Q E h=>?_) (fun f cdv A outer s H vs Q E hr h=>?_)
 ·obtain⟨b,l,G,cs,past,rfl,_⟩:=h;rfl
 ·obtain⟨b,l,G,cs,past,rfl,B,q⟩:=h;have S:=zbV;have hu:=zcv hr;obtain⟨gc,h8⟩:=zdn B;refine⟨_,zac (zak (i:=1) S.nd rfl (Ao rfl) (zbZ C_step_table (hr.mono (by decide)) (by first|exact zaG|exact zbP|exact zaQ) rfl (zaa (pv 0) zae)))
  (zac (zak (i:=2) S.nd rfl (Ek rfl) (zaA C_shortest_length (hr.mono (by decide)) rfl (zaa (pv 1) zae)))
  (zac (zaE (zam zcj (pv 2) (zad) (zas _))
   (zaf (zaj (zbi (zaa (zad) (zaa (zaZ (zaa (zad) zae)) (zaa (zad) zae))))))
   (zan))
  (zac (zak (i:=3) S.nd rfl (Ek rfl) (zaA C_least_lengths (hr.mono (by decide)) rfl (zaa (pv 1) (zaa (pv 2) zae))))
  (zac (zak (i:=4) S.nd rfl (Ao rfl) (pv 2))
  (zac (ps_forD Jn rfl (pv 3) (zal (i:=5) S.nd rfl (Ao rfl))
   (zaf (zak (i:=4) S.nd rfl (Ao rfl) (zaA C_common_divisor (hr.mono (by decide)) rfl (zaa (pv 4) (zaa (pv 5) zae))))))
  (zac (zak (i:=6) S.nd rfl (Ao rfl) (zai (call_max2 rfl) rfl T.n_max Rr (zaa (zad) (zaa (zau zdt (zai (ze9 rfl) rfl T.n_max Rr (zaa (pe_frz (i:=3) (za8 (own:=["rest"]) (caps:=[(3,"least")]) rfl ⟨rfl,rfl,rfl,rfl,⟨⟨rfl,rfl,.inl rfl⟩,trivial⟩⟩ (zhx (pv 3)) (fun _ _ _ _ _ _=>zal (i:=0) (zaS (by decide+kernel)) rfl (Ao rfl)) (fun _ _ _ _ _ _=>zbu) (fun _ _ _ _ _ _=>zcU hu (pv 1) (pv 0) (fun _ _=>rfl)))) zae)) (pv 2)) zae))))
  (zac (zgL (i:=7) S.nd rfl (Ao rfl) (own:=["length"]) (caps:=[(3,"least"),(2,"turn")]) rfl ⟨rfl,rfl,rfl,rfl,⟨⟨rfl,rfl,.inl rfl⟩,⟨rfl,rfl,.inl rfl⟩,trivial⟩⟩ (zbv rfl T.n_range (zaa (zau zbf (pv 6) (zad)) zae)) (fun _ _ _ _ _ _=>zal (i:=0) (zaS (by decide+kernel)) rfl (Ao rfl)) (fun _ _ _ _ _ _=>zco (zbb (zaA C_is_reached (hr.mono (by decide)) rfl (zaa (pv 1) (zaa (pv 2) (zaa (pv 0) zae)))))) (fun _ _ _ _ _ _=>pv 0))
  (zaf (zaj (zbi (zaa (pv 6) (zaa (pv 7) (zaa (pv 4) zae))))))))))))),?_⟩
  refine⟨_,rfl,b,l,G,cs,past,rfl,B,fun a H1 ts s1 na ha tb=>?_⟩;refine⟨_,rfl,a,ts,srt cs,rfl,ha,tb,gc,h8,fun t H2 s2 hcase=>?_⟩;have s12:=s1.trans s2;refine⟨_,rfl,rfl,_,rfl,?_⟩;rcases hcase with⟨rfl,hno⟩|⟨t1,t2,ht⟩
  ·rw[decide_eq_true (show V.int ((0:Nat):Int)=V.int 0 from rfl)];refine iteT ?_;refine⟨bigr rfl,fun sl nsl=>⟨bigr rfl,fun tt ntt=>?_⟩⟩;have s3:Same H2 (upd H2 sl (.lst [.int 0])):=Same.new nsl;have s4:Same (upd H2 sl (.lst [.int 0])) (upd (upd H2 sl (.lst [.int 0])) tt (.tup [.int 0,.ref sl,.int 0])):=Same.new ntt;refine q tt sl 0 0 _ ((s12.trans s3).trans s4) ((s12.trans s3).free ntt) (s12.free nsl) zab (s4 _ _ ?_) (by decide) (.inl ⟨rfl,rfl,hno⟩);rw[zab,filL_zero];rfl
  rw[decide_eq_false (show¬V.int ((t:Nat):Int)=V.int 0 from fun z=>by injection z with z;omega)];refine iteF ?_;refine⟨_,rfl,_,rfl,a,ts,srt cs,t,rfl,s2 _ _ ha,tb.same s2,gc,h8,t1,t2,fun d ll N H3 s3 nd hd hl hN hNb=>?_⟩;have s13:=s12.trans s3;have hfil:=zeJ ht hl hN;have hlmem:∀x∈ll,x.1<128/\x.2<N:=fun x hx=>by
   obtain⟨r,ℓ⟩:=x;obtain⟨a1,a2,_⟩:=(hl.2 r ℓ).mp hx;have:=Rw ℓ (show 0<t by omega);exact⟨by show r<128;omega,a1⟩
  have hln:ll.length<=128:=by
   have:=zav 128 (ll.map (·.1)) hl.1 (fun y hy=>by
    obtain⟨x,hx,rfl⟩:=A7.mp hy;exact(hlmem x hx).1)
   rwa[A4] at this
  have h00:(0,0)∈ll:=by
   obtain⟨ℓ,h1,h2⟩:=(zb9 ht hl hN 0).mp (zet _);have:ℓ=0:=by omega
   subst this;rwa[Nat.zero_mod] at h1
  refine⟨_,rfl,?_⟩;refine⟨d,lkv ll,rfl,hd,fun o=>?_⟩;refine forD_g (fun i σ Hx=>Same H2 (upd Hx d (.dK (lkv ll)))/\Hx d=some (.frz o (.dK (lkv ll)))/\Hx=upd H3 d (.frz o (.dK (lkv ll)))/\∃x5,σ=[some (.ref b),some (.ref a),some (.int (t:Nat)),some (.ref d),some (.int ((stepOf t (ll.take i):Nat):Int)),x5,none,none]) ⟨?_,zab,rfl,_,rfl⟩ (fun i σ Hx h=>h.2.1) ?_ ?_
  ·rw[zgn];exact s3.put nd
  ·rintro i k y σ Hx hk⟨sx,hdx,eHx,x5,rfl⟩;unfold lkv at hk;rw[Ad] at hk
   cases ex:ll[i]? with
   |none=>rw[ex] at hk;cases hk
   |some x=>
    rw[ex] at hk
    cases hk
    refine⟨_,rfl,_,rfl,stepOf t (ll.take i),x.1,rfl,sx,hdx,eHx,some (.int ((x.1:Nat):Int)),?_⟩;have:stepOf t (ll.take (i+1))=Hr (stepOf t (ll.take i)) x.1:=by
     unfold stepOf;rw[zaz ex,List.foldl_append];rfl
    rw[this];rfl
  rintro σ Hx⟨sx,hdx,eHx,x5,rfl⟩;rw[zfr,By];refine⟨hdx,?_⟩;rw[eHx,zgn,upd_self hd];clear sx hdx eHx;refine⟨d,lkv ll,rfl,hd,fun o'=>⟨d,o',lkv ll,rfl,zab,fun D hD=>?_⟩⟩;have hDd:D≠d:=fun z=>by rw[z,zab] at hD;cases hD
  refine zgj (capv:=[some (.ref d)]) (by rfl) (gives_dict d o' (lkv ll)) (by rw[A4,zfr];exact big (by omega)) hD (fun H' s'=>s' _ _ zab) (fun _=>true) (fun u=>V.int (((ll.getD u (0,0)).2:Nat):Int)) (fun _ _ _=>nofun) (fun u x hx H' R s' h=>h H' (Same.refl _)) ?_ ?_
  ·intro u x hx _ H' R s' h;rw[Ad] at hx;unfold lkv at hx;rw[Ad] at hx
   cases ex:ll[u]? with
   |none=>rw[ex] at hx;cases hx
   |some y=>
    rw[ex] at hx
    cases hx
    have hy:y∈ll:=B0 ex;have dg:DGet H' d (kV (Dm ((y.1:Nat):Int))) (some (.int ((y.2:Nat):Int))):=.inl ⟨lkv ll,Dm ((y.1:Nat):Int),.inr ⟨o',s' _ _ zab⟩,rfl,(zdz hl.1 (r:=y.1) (ℓ:=y.2) hy).symm⟩;refine⟨_,rfl,_,rfl,_,_,rfl,dg,?_⟩;have:=h H' (Same.refl _);rw[Ai,ex] at this;exact this
  intro H4 s4 e4;have hd4:=s4 _ _ (show upd H3 d (.frz o' (.dK (lkv ll))) d=_ from zab);have s34:Same H3 (upd H4 d (.dK (lkv ll))):=fun b' u' e'=>by
   by_cases z:b'=d
   ·rw[z,zab];rw[z,hd] at e';exact e'
   ·rw[zah z];exact s4 _ _ (by rw[zah z];exact e')
  have hvals:((Af ((lkv ll).map fun p=>kV p.1).length).filter fun _=>true).map (fun u=>V.int (((ll.getD u (0,0)).2:Nat):Int))=(ll.map fun x=>((x.2:Nat):Int)).map V.int:=by
   rw[Ch.mpr (fun _ _=>rfl),A4,zfr,Bb];refine Fc fun u=>?_;rw[Ad,Ad];by_cases z:u<ll.length
   ·rw[C6 z,A9 z,Cj,Cj,Ai,A9 z];rfl
   ·rw[C4 (by rw[Ax];omega),C4 (by omega)];rfl
  refine⟨hd4,D,ll.map fun x=>((x.2:Nat):Int),rfl,SqL.of (by rw[zah hDd,e4,hvals]),by rw[A4];exact Io h00,fun M hM hMx=>?_⟩;obtain⟨⟨r0,Mn⟩,hMn,rfl⟩:=A7.mp hM;have hmax:∀x∈ll,x.2<=Mn:=fun x hx=>by
   have:=hMx _ (A7.mpr ⟨x,hx,rfl⟩);dsimp only at this;omega
  have FD:=flush_of t1 ht hl hN ⟨r0,hMn⟩ hmax;have hMb:=(hlmem _ hMn).2;dsimp only at hMb;have eup:(if((Mn:Nat):Int)-((t:Nat):Int)>0 then((Mn:Nat):Int)-((t:Nat):Int) else 0)=((Mn-t:Nat):Int):=by
   split<;>omega
  have hd5:upd H4 d (.dK (lkv ll)) d=some (.dK (lkv ll)):=zab;generalize upd H4 d (.dK (lkv ll))=H5 at s34 hd5⊢;refine⟨_,rfl,_,_,rfl,rfl,_,_,rfl,?_⟩;refine⟨_,rfl,_,_,rfl,rfl,_,rfl,?_,?_,fun D2 hD2=>?_⟩
  ·rw[eup];omega
  ·rw[eup];omega
  have elen:(((if((Mn:Nat):Int)-((t:Nat):Int)>0 then((Mn:Nat):Int)-((t:Nat):Int) else 0)+1)).toNat=Mn-t+1:=by rw[eup];omega
  refine zb1 (capv:=[some (.ref d),some (.int (t:Nat))]) (by rfl) (zaT 0 _) (by rw[zbI,elen];exact Bt (by omega:_<=20000) (by decide)) hD2 (fun _ _=>trivial) (fun v=>match v with| .int x=>decide (0∈rowN (srt cs) x.toNat)|_=>false) id ?_ ?_ ?_
  ·intro x hx H' R s' h;obtain⟨n,hn,rfl⟩:=A7.mp hx;rw[Ex] at h⊢;refine⟨_,rfl,_,rfl,_,rfl,d,ll,t,n,rfl,s' _ _ hd5,hl.1,t1,_,rfl,?_⟩;have e:reachB ll t n=decide (0∈rowN (srt cs) ((n:Nat):Int).toNat):=by
    rw[Ay,hfil,decide_eq_true_eq,zba gc];exact Oo
   rw[e];exact h H' (Same.refl _)
  ·intro x hx _ H' R s' h;exact⟨_,rfl,h H' (Same.refl _)⟩
  intro H6 s6 e6;refine⟨_,rfl,_,rfl,_,rfl,bigr rfl,fun tt ntt=>?_⟩;rw[eup];have s36:=s34.trans s6;have s7:Same H6 (upd H6 tt (.tup [.int ((Mn-t:Nat):Int),.ref D2,.int ((stepOf t ll:Nat):Int)])):=Same.new ntt;refine q tt D2 (Mn-t) (stepOf t ll) _ ((s13.trans s36).trans s7) ((s13.trans s36).free ntt) ((s13.trans s34).free hD2) zab (s7 _ _ ?_) (by omega) (.inr FD);rw[e6,elen,Gk];unfold filL;have ez:(fun i:Nat=>V.int (0+((i:Nat):Int)))=fun i=>V.int (i:Nat):=by funext i;rw[Ex]
  rw[ez,Gn];rfl
noncomputable def sp_fitsf(ea:Nat->A3)(C:A3):Sp:=fun vs H Q E=>∃b l G cs past n,vs=[.ref b,.int n]/\Bk C G H b l cs past/\
 (if 0<=n/\n<=1000000000000 then∀H',Same H H'->Q (.bl (decide (0∈rowN (srt cs) n.toNat))) H' else E (.ref (ea 13)) none H)
theorem zcG:FnScope ["book","length","table","turn"] ["book","length"] (defScope s_fits_flush):=⟨rfl,rfl,rfl,by decide+kernel,rfl,by decide+kernel,by decide+kernel⟩
theorem ok_fitsf{ea:Nat->A3}{C:A3}(D:DefAt K mg "fits_flush" s_fits_flush)(T:Bn mg)(V_MOST_LENGTH:∃t,mg "MOST_LENGTH"=some (.int 1000000000000 t))(O_BadLength:Err K mg "BadLength" (ea 13))(C_step_table:Callee1 P w K mg base "step_table" 4 ["book"] (sp_table C))(C_shortest_length:Callee P w K mg base "shortest_length" 2 ["table"] sp_short)(C_least_lengths:Callee P w K mg base "least_lengths" 2 ["table","turn"] sp_least)(C_is_reached:Callee P w K mg base "is_reached" 1 ["least","turn","length"] sp_reached):Callee1 P w K mg base "fits_flush" 5 ["book","length"] (sp_fitsf ea C):=by
 refine D.callee1 zcG (fun _ _ _ _ _ _=>ln2 fun _ _=>rfl) (fun vs H Q E h=>?_) (fun f cdv A outer s H vs Q E hr h=>?_)
 ·obtain⟨b,l,G,cs,past,n,rfl,_⟩:=h;rfl
 ·obtain⟨b,l,G,cs,past,n,rfl,B,q⟩:=h;have S:=zcG;have hu:=zcv hr;obtain⟨gc,h8⟩:=zdn B;refine⟨_,zac (zaE (za9 (zda zcV zcV (zad) (pv 1) (zbN rfl V_MOST_LENGTH)))
   (zaf (zbl O_BadLength rfl (zaa (zaw) zae)))
   (zan))
  (zac (zak (i:=2) S.nd rfl (Ao rfl) (zbZ C_step_table (hr.mono (by decide)) (by first|exact zaG|exact zbP|exact zaQ) rfl (zaa (pv 0) zae)))
  (zac (zak (i:=3) S.nd rfl (Ao rfl) (zaA C_shortest_length (hr.mono (by decide)) rfl (zaa (pv 2) zae)))
  (zac (zaE (zam zcj (pv 3) (zad) (zas _))
   (zaf (zaj (zbF zcj (pv 1) (zad) (zas _))))
   (zan))
  (zaf (zaj (zaA C_is_reached (hr.mono (by decide)) rfl (zaa (zaA C_least_lengths (hr.mono (by decide)) rfl (zaa (pv 2) (zaa (pv 3) zae))) (zaa (pv 3) (zaa (pv 1) zae))))))))),?_⟩
  refine⟨_,rfl,_,_,rfl,rfl,_,rfl,?_⟩;refine ite2 (fun h0=>?_) (fun h0=>?_)
  rotate_left
  ·have h0:¬(0:Int)<=n:=by simpa using h0
   rw[if_neg (fun z=>h0 z.1)] at q;exact⟨_,rfl,iteT ⟨bigr rfl,q⟩⟩
  have h0:(0:Int)<=n:=by simpa using h0
  refine⟨_,_,rfl,rfl,_,rfl,?_⟩;by_cases h1:n<=1000000000000
  case neg=>
   rw[if_neg (fun z=>h1 z.2)] at q;rw[decide_eq_false h1];exact iteT ⟨bigr rfl,q⟩
  rw[if_pos ⟨h0,h1⟩] at q;rw[decide_eq_true h1];refine iteF ?_;obtain⟨k,rfl⟩:=Fv h0;rw[show((k:Nat):Int).toNat=k by omega] at q;have hf:decide (0∈rowN (srt cs) k)=true↔Fil (srt cs) k:=by rw[decide_eq_true_eq,zba gc];exact Oo
  refine⟨_,rfl,b,l,G,cs,past,rfl,B,fun a H1 ts s1 na ha tb=>?_⟩;refine⟨_,rfl,a,ts,srt cs,rfl,ha,tb,gc,h8,fun t H2 s2 hcase=>?_⟩;have s12:=s1.trans s2;refine⟨_,rfl,rfl,_,rfl,?_⟩;rcases hcase with⟨rfl,hno⟩|⟨t1,t2,ht⟩
  ·rw[decide_eq_true (show V.int ((0:Nat):Int)=V.int 0 from rfl)];refine iteT ⟨_,rfl,rfl,?_⟩;have:=q H2 s12;have e:decide (0∈rowN (srt cs) k)=decide (V.int ((k:Nat):Int)=V.int 0):=by
    rw[Ay,hf,decide_eq_true_eq];constructor
    ·intro z;by_cases y:k=0
     ·rw[y];rfl
     ·exact absurd z (hno k (by omega))
    ·intro z;injection z with z;have:k=0:=by omega
     rw[this];exact zet _
   rw[e] at this;exact this
  rw[decide_eq_false (show¬V.int ((t:Nat):Int)=V.int 0 from fun z=>by injection z with z;omega)];refine iteF ?_;refine⟨_,rfl,_,rfl,a,ts,srt cs,t,rfl,s2 _ _ ha,tb.same s2,gc,h8,t1,t2,fun d ll N H3 s3 nd hd hl hN hNb=>?_⟩;refine⟨_,rfl,_,rfl,d,ll,t,k,rfl,hd,hl.1,t1,?_⟩;have e:reachB ll t k=decide (0∈rowN (srt cs) k):=by rw[Ay,hf];exact zeJ ht hl hN k
  rw[e];exact q H3 (s12.trans s3)
noncomputable def wrow(A:Nat->Nat):List V:=(Af 128).map fun s=>V.int ((A s:Nat):Int)
theorem zfj(A:Nat->Nat){s:Nat}(h:s<128):atI (wrow A) ((s:Nat):Int)=some (.int ((A s:Nat):Int)):=by
 refine zay ?_;unfold wrow;rw[Ad,C6 h];rfl
theorem wrow_len(A:Nat->Nat):(wrow A).length=128:=by unfold wrow;rw[A4,Ax]
noncomputable def sp_behindw:Sp:=fun vs H Q _=>∃(st a b:A3)(x:Str)(p:Str×Int)(A B:Nat->Nat),vs=[.ref st,.ref a,.ref b,.str x]/\H st=some (.tup [.str p.1,.int p.2])/\0<=p.2/\p.2.toNat<128/\H a=some (.lst (wrow A))/\H b=some (.lst (wrow B))/\Q (.int ((bh x A B p:Nat):Int)) H
theorem zck:FnScope ["step","ways","wanted","name","row"] ["step","ways","wanted","name"] (defScope s_ways_behind):=⟨rfl,rfl,rfl,by decide+kernel,rfl,by decide+kernel,by decide+kernel⟩
theorem ok_behindw(D:DefAt K mg "ways_behind" s_ways_behind)(T:Bn mg):Callee P w K mg base "ways_behind" 1 ["step","ways","wanted","name"] sp_behindw:=by
 refine D.callee zck (fun _ _ _ _ _ _=>ln4 fun _ _ _ _=>rfl) (fun vs H Q E h=>?_) (fun f cdv A outer s H vs Q E hr h=>?_)
 ·obtain⟨st,a,b,x,p,A',B',rfl,_⟩:=h;rfl
 ·obtain⟨st,a,b,x,⟨p1,p2⟩,A',B',rfl,hst,h0,h1,ha,hb,q⟩:=h;have S:=zck;dsimp only at hst h0 h1;refine⟨_,zcp (zak (i:=4) S.nd rfl (Ao rfl) (pe_ifExp (zam zcj (zaB zaN (pv 0) (zad) (fun _ _=>rfl)) (pv 3) (zas _)) (pv 1) (pv 2)))
  (zaf (zaj (zaB zaO (pv 4) (zaB zaN (pv 0) (zad) (fun _ _=>rfl)) (fun _ _=>rfl)))),?_⟩
  have e2:p2=((p2.toNat:Nat):Int):=by omega
  refine⟨fun σ Hx=>Hx=H/\∃(r:A3),H r=some (.lst (wrow (if p1=x then A' else B')))/\σ=[some (.ref st),some (.ref a),some (.ref b),some (.str x),some (.ref r)],?_,?_⟩
  ·refine⟨_,rfl,_,_,_,_,rfl,rfl,SqT.of hst,at0,_,rfl,rfl,_,rfl,?_⟩;by_cases e:p1=x
   ·rw[decide_eq_true (by rw[e])];refine iteT ?_;exact⟨_,rfl,rfl,a,by rw[if_pos e];exact ha,rfl⟩
   ·rw[decide_eq_false (fun z=>e (by injection z))];refine iteF ?_;exact⟨_,rfl,rfl,b,by rw[if_neg e];exact hb,rfl⟩
  rintro σ Hx⟨rfl,r,hr',rfl⟩;refine⟨_,rfl,_,rfl,_,_,_,_,rfl,rfl,SqT.of hst,at1,_,_,_,_,rfl,rfl,SqL.of hr',by rw[e2];exact zfj _ h1,?_⟩;have e3:(if p1=x then A' else B') p2.toNat=bh x A' B' (p1,p2):=by
   unfold bh;dsimp only
   split<;>rfl
  rw[e3];exact q
noncomputable def sp_from:Sp:=fun vs H Q _=>∃(l a b:A3)(x:Str)(ws:List V)(ps:List (Str×Int))(A B:Nat->Nat),vs=[.ref l,.ref a,.ref b,.str x]/\H l=some (.lst ws)/\StepsR H ws ps/\ps.length<=100/\(∀p∈ps,0<=p.2/\p.2.toNat<128)/\H a=some (.lst (wrow A))/\H b=some (.lst (wrow B))/\∀H',Same H H'->Q (.int (((ps.map (bh x A B)).sum:Nat):Int)) H'
theorem sum_cast(l:List Nat):(l.map fun(n:Nat)=>(n:Int)).sum=((l.sum:Nat):Int):=by
 induction l with
 |nil=>rfl
 |cons a l ih=>rw[At,Eh,Eh,ih];omega
theorem zc1:FnScope ["steps","ways","wanted","name"] ["steps","ways","wanted","name"] (defScope s_ways_from):=⟨rfl,rfl,rfl,by decide+kernel,rfl,by decide+kernel,by decide+kernel⟩
theorem ok_from(D:DefAt K mg "ways_from" s_ways_from)(T:Bn mg)(C_ways_behind:Callee P w K mg base "ways_behind" 1 ["step","ways","wanted","name"] sp_behindw):Callee P w K mg base "ways_from" 2 ["steps","ways","wanted","name"] sp_from:=by
 refine D.callee zc1 (fun _ _ _ _ _ _=>ln4 fun _ _ _ _=>rfl) (fun vs H Q E h=>?_) (fun f cdv A outer s H vs Q E hr h=>?_)
 ·obtain⟨l,a,b,x,ws,ps,A',B',rfl,_⟩:=h;rfl
 ·obtain⟨l,a,b,x,ws,ps,A',B',rfl,hl,sr,hpl,hps,ha,hb,q⟩:=h;have S:=zc1;have hwl:=sr.length;refine⟨_,zaf (zaj (zai (ze8 rfl) rfl T.n_sum boot_sum (zaa (za8 (own:=["step"]) (caps:=[(1,"ways"),(2,"wanted"),(3,"name")]) rfl ⟨rfl,rfl,rfl,rfl,⟨⟨rfl,rfl,.inl rfl⟩,⟨rfl,rfl,.inl rfl⟩,⟨rfl,rfl,.inl rfl⟩,trivial⟩⟩ (zax (pv 0)) (fun _ _ _ _ _ _=>zal (i:=0) (zaS (by decide+kernel)) rfl (Ao rfl)) (fun _ _ _ _ _ _=>zbu) (fun _ _ _ _ _ _=>zaA C_ways_behind (hr.mono (by decide)) rfl (zaa (pv 0) (zaa (pv 1) (zaa (pv 2) (zaa (pv 3) zae)))))) zae))),?_⟩;refine⟨_,rfl,_,rfl,⟨_,SqL.of hl⟩,fun D hD=>?_⟩;refine zgj (capv:=[some (.ref a),some (.ref b),some (.str x)]) (by rfl) (zap K l ws) (big (by omega)) hD (fun H' s'=>SqL.of (s' _ _ hl)) (fun _=>true) (fun u=>V.int ((bh x A' B' (ps.getD u ("",0)):Nat):Int)) (fun _ _ _=>nofun) (fun u y hy H' R s' h=>h H' (Same.refl _)) ?_ ?_
  ·intro u y hy _ H' R s' h;have hu:u<ps.length:=by rw[<-hwl];exact(Ar.mp hy).1
   obtain⟨qa,e4,e5⟩:=sr.get (A9 hu);rw[hy] at e4
   cases e4
   have hm:=hps _ (Cu hu);refine⟨_,rfl,_,rfl,_,rfl,_,rfl,qa,a,b,x,ps[u],A',B',rfl,s' _ _ e5,hm.1,hm.2,s' _ _ ha,s' _ _ hb,?_⟩;have:=h H' (Same.refl _);rw[Ai,A9 hu] at this;exact this
  intro H1 s1 e1;refine⟨D,ps.map fun p=>((bh x A' B' p:Nat):Int),rfl,SqL.of ?_,?_⟩
  ·rw[e1,Ch.mpr (fun _ _=>rfl),hwl,Bb];congr 2;refine Fc fun u=>?_;rw[Ad,Ad];by_cases z:u<ps.length
   ·rw[C6 z,A9 z,Cj,Cj,Ai,A9 z];rfl
   ·rw[C4 (by rw[Ax];omega),C4 (by omega)];rfl
  have e2:(ps.map fun p=>((bh x A' B' p:Nat):Int)).sum=(((ps.map (bh x A' B')).sum:Nat):Int):=by
   rw[<-sum_cast,Bb];rfl
  rw[e2];exact q H1 s1
noncomputable def WaysR(N:A3->Prop)(H:Hp)(ws:List V)(A:Nat->Nat->Nat)(n:Nat):Prop:=ws.length=n+1/\∀k:Nat,k<=n->∃q,ws[k]?=some (.ref q)/\N q/\H q=some (.lst (wrow (A k)))
theorem WaysR.mono{N N':A3->Prop}{H H':Hp}{ws:List V}{A:Nat->Nat->Nat}{n:Nat}(r:WaysR N H ws A n)(hn:∀q,N q->N' q)(m:∀q o,N q->H q=some o->H' q=some o):WaysR N' H' ws A n:=⟨r.1,fun k hk=>let ⟨q,a,b,c⟩:=r.2 k hk;⟨q,a,hn q b,m _ _ b c⟩⟩
theorem WaysR.snoc{N:A3->Prop}{H:Hp}{ws:List V}{A:Nat->Nat->Nat}{n:Nat}{q:A3}(r:WaysR N H ws A n)(hq:H q=some (.lst (wrow (A (n+1)))))(hn:N q):WaysR N H (ws++[.ref q]) A (n+1):=by
 refine⟨by rw[Ag,r.1];rfl,fun k hk=>?_⟩;by_cases e:k=n+1
 ·subst e;exact⟨q,by rw[Dj (by rw[r.1];exact Ab _),r.1,J4];rfl,hn,hq⟩
 ·obtain⟨q',a,b,c⟩:=r.2 k (by omega);exact⟨q',by rw[Do (by rw[r.1];omega)];exact a,b,c⟩
noncomputable def sp_close:Sp:=fun vs H Q _=>∃(a:A3)(ts:List V)(C:Combs)(n:Nat),vs=[.ref a,.int (n:Nat)]/\H a=some (.lst ts)/\TabR H ts C/\GC C/\C.length<=8/\n<=200/\∀(r:A3)(ws:List V)(H':Hp),Same H H'->H' r=some (.lst ws)->WaysR (fun _=>True) H' ws (Wy C) n->Q (.ref r) H'
theorem zbS:FnScope ["table","length","rows","passed"] ["table","length"] (defScope s_ways_to_close):=⟨rfl,rfl,rfl,by decide+kernel,rfl,by decide+kernel,by decide+kernel⟩
theorem ok_close(D:DefAt K mg "ways_to_close" s_ways_to_close)(T:Bn mg)(C_ways_from:Callee P w K mg base "ways_from" 2 ["steps","ways","wanted","name"] sp_from):Callee P w K mg base "ways_to_close" 3 ["table","length"] sp_close:=by
 refine D.callee zbS (fun _ _ _ _ _ _=>ln2 fun _ _=>rfl) (fun vs H Q E h=>?_) (fun f cdv A outer s H vs Q E hr h=>?_)
 ·obtain⟨a,ts,C,n,rfl,_⟩:=h;rfl
 ·obtain⟨a,ts,C,n,rfl,ha,tb,gc,h8,hn,q⟩:=h;have S:=zbS;have htl:=tb.1;refine⟨_,zac (zak (i:=2) S.nd rfl (Ek rfl) (zaZ (zaa (za8 (own:=["steps"]) (caps:=[]) rfl ⟨rfl,rfl,rfl,rfl,trivial⟩ (zax (pv 0)) (fun _ _ _ _ _ _=>zal (i:=0) (zaS (by decide+kernel)) rfl (Ao rfl)) (fun _ _ _ _ _ _=>zbu) (fun _ _ _ _ _ _=>zad)) zae)))
  (zac (zgN (zad) (zhy (zaB zaO (pv 2) (zad) (fun _ _=>rfl)) (zad) zfO))
  (zac (zaY Bf rfl (zbv rfl T.n_range (zaa (pv 1) zae)) (zal (i:=3) S.nd rfl (Ao rfl))
   (zaf (zbd (zdP C7 Cd Cc za1 (pv 2) (zaa (za8 (own:=["steps"]) (caps:=[(2,"rows")]) rfl ⟨rfl,rfl,rfl,rfl,⟨⟨rfl,rfl,.inl rfl⟩,trivial⟩⟩ (zax (pv 0)) (fun _ _ _ _ _ _=>zal (i:=0) (zaS (by decide+kernel)) rfl (Ao rfl)) (fun _ _ _ _ _ _=>zbu) (fun _ _ _ _ _ _=>zaA C_ways_from (hr.mono (by decide)) rfl (zaa (pv 0) (zaa (zaB (zde K rfl) (pv 1) (zhO zgo (zad)) (fun _ _=>rfl)) (zaa (zaB (zde K rfl) (pv 1) (zhO zgo (zad)) (fun _ _=>rfl)) (zaa (zaw) zae)))))) zae)))))
  (zaf (zaj (pv 2))))),?_⟩
  refine⟨_,rfl,_,rfl,⟨_,SqL.of ha⟩,fun D hD=>?_⟩;refine zb1 (capv:=[]) (by rfl) (zap K a ts) (big (by omega)) hD (fun H' s'=>SqL.of (s' _ _ ha)) (fun _=>true) (fun _=>V.int 0) (fun x hx H' R s' h=>h H' (Same.refl _)) (fun x hx _ H' R s' h=>h H' (Same.refl _)) ?_;intro H1 s1 e1;have e1':H1 D=some (.lst ((Af 128).map fun _=>V.int 0)):=by
   rw[e1,Ch.mpr (fun _ _=>rfl)];congr 2;refine List.ext_getElem (by rw[A4,A4,Ax];omega) fun i h1 h2=>?_;rw[Om,Om]
  refine⟨bigr rfl,fun r nr=>?_⟩;have s2:Same H1 (upd H1 r (.lst [.ref D])):=Same.new nr;have hr2:upd H1 r (.lst [.ref D]) r=some (.lst [.ref D]):=zab;have hD2:=s2 _ _ e1';have hDr:D≠r:=fun z=>by rw[<-z,e1'] at nr;cases nr
  have s12:=s1.trans s2;have nr0:=s1.free nr;generalize upd H1 r (.lst [.ref D])=H2 at s12 hr2 hD2⊢;have hix:ixN ((Af 128).map fun _=>V.int 0).length 0=some 0:=by rw[A4,Ax];decide
  refine⟨_,rfl,_,_,_,_,rfl,rfl,SqL.of hr2,(show atI [V.ref D] ((0:Nat):Int)=_ from zay rfl),D,_,_,_,rfl,rfl,hD2,hix,?_⟩;have ew:((Af 128).map fun _=>V.int 0).set 0 (V.int 1)=wrow (Wy C 0):=by
   unfold wrow;rw[zgX _ _ (by decide)];refine Cg fun s _=>?_;show _=V.int (((if s=0 then 1 else 0:Nat)):Int)
   split<;>rfl
  rw[ew];have hDn0:H D=none:=hD;have s3:Same H (upd H2 D (.lst (wrow (Wy C 0)))):=s12.put hDn0;have hD3:upd H2 D (.lst (wrow (Wy C 0))) D=some (.lst (wrow (Wy C 0))):=zab;have hr3:upd H2 D (.lst (wrow (Wy C 0))) r=some (.lst [.ref D]):=by rw[zah hDr.symm];exact hr2
  generalize upd H2 D (.lst (wrow (Wy C 0)))=H3 at s3 hD3 hr3⊢;refine⟨_,rfl,_,rfl,by omega,by omega,?_⟩;refine zbz (zaT 0 ((n:Nat):Int).toNat) (fun i σ Hx=>Same H Hx/\∃(ws:List V)(x3:Option V),σ=[some (.ref a),some (.int (n:Nat)),some (.ref r),x3]/\Hx r=some (.lst ws)/\WaysR (fun z=>z≠r) Hx ws (Wy C) i) ⟨s3,[.ref D],_,rfl,hr3,rfl,fun k hk=>by
    have:k=0:=by omega
    subst this;exact⟨D,rfl,hDr,hD3⟩⟩ (fun _ _ _ _ _=>trivial) ?_ ?_
  ·rintro i x σ Hx hx⟨sx,ws,x3,rfl,hrx,wr⟩;obtain⟨hi,rfl⟩:=zbJ hx;have hi':i<n:=by omega
   obtain⟨qk,eqk,_,hqk⟩:=wr.2 i (Ab _);have hat:atI ws (-1)=some (.ref qk):=at_end wr.1 eqk;refine⟨_,rfl,.inl ⟨rfl,_,SqL.of hrx⟩,_,rfl,_,rfl,⟨_,SqL.of (sx _ _ ha)⟩,fun D2 hD2=>?_⟩;refine zgj (capv:=[some (.ref r)]) (by rfl) (zap K a ts) (big (by omega)) hD2 (fun H' s'=>SqL.of (s' _ _ (sx _ _ ha))) (fun _=>true) (fun s=>V.int ((Wy C (i+1) s:Nat):Int)) (fun _ _ _=>nofun) (fun u y hy H' R s' h=>h H' (Same.refl _)) ?_ ?_
   ·intro u y hy _ H' R s' h;have hu:u<128:=by rw[<-htl];exact(Ar.mp hy).1
    obtain⟨qs,wss,e1,e2,e3⟩:=(tb.same (sx.trans s')).2 u hu;rw[hy] at e1
    cases e1
    refine⟨_,rfl,_,rfl,_,rfl,_,_,_,_,rfl,rfl,SqL.of (s' _ _ hrx),hat,_,rfl,_,rfl,_,_,_,_,rfl,rfl,SqL.of (s' _ _ hrx),hat,?_⟩;refine⟨qs,qk,qk,A0 "",wss,stp C u,Wy C i,Wy C i,rfl,e2,e3,by have:=zee h8 u;omega,fun p hp=>zc0 gc hu hp,s' _ _ hqk,s' _ _ hqk,fun H'' s''=>?_⟩;have e:((stp C u).map (bh (A0 "") (Wy C i) (Wy C i))).sum=Wy C (i+1) u:=((zgw C (A0 "")).succ i u).symm;rw[e];exact h H'' s''
   intro H4 s4 e4;have hr4:=s4 _ _ hrx;have hD2r:D2≠r:=fun z=>by rw[z,hrx] at hD2;cases hD2
   have e4':H4 D2=some (.lst (wrow (Wy C (i+1)))):=by
    rw[e4,Ch.mpr (fun _ _=>rfl),htl];rfl
   refine⟨r,_,_,rfl,rfl,hr4,Ah (by have:=wr.1;omega:ws.length<1000) za0,?_⟩;refine⟨(sx.trans s4).put nr0,_,_,rfl,zab,?_⟩;exact(WaysR.mono wr (fun _ z=>z) fun z o hz e=>by rw[zah hz];exact s4 _ _ e).snoc (by rw[zah hD2r];exact e4') hD2r
  ·rintro σ Hx⟨sx,ws,x3,rfl,hrx,wr⟩;rw[zbI,show((n:Nat):Int).toNat=n by omega] at wr;exact⟨_,rfl,q r ws Hx sx hrx (wr.mono (fun _ _=>trivial) fun _ _ _ e=>e)⟩
noncomputable def sp_open:Sp:=fun vs H Q _=>∃(l a b:A3)(x:Str)(ws:List V)(ps:List (Str×Int))(A B:Nat->Nat)(p:Str×Int),vs=[.ref l,.ref a,.ref b,.str x]/\H l=some (.lst ws)/\StepsR H ws ps/\ps.length<=100/\(∀p∈ps,0<=p.2/\p.2.toNat<128)/\H a=some (.lst (wrow A))/\H b=some (.lst (wrow B))/\ps.find? (fun p=>decide (0<bh x A B p))=some p/\∀q H',Same H H'->H' q=some (.tup [.str p.1,.int p.2])->Q (.ref q) H'
theorem find_filterO{α:Type}{ps:List α}{f:α->Bool}{p d:α}(h:ps.find? f=some p):∃i,((Af ps.length).filter fun i=>f (ps.getD i d))[0]?=some i/\ps[i]?=some p:=by
 induction ps with
 |nil=>cases h
 |cons x ps ih=>
  rw[Av,List.range_succ_eq_map,C8];by_cases e:f x=true
  ·rw[List.find?_cons_of_pos e] at h
   cases h
   exact⟨0,by rw[if_pos (by simpa using e)];rfl,rfl⟩
  ·rw[List.find?_cons_of_neg e] at h;obtain⟨i,h1,h2⟩:=ih h;refine⟨i+1,?_,by simpa using h2⟩;rw[if_neg (by simpa using e),Gn,Ad];show(((Af ps.length).filter fun i=>f (ps.getD i d))[0]?).map _=_;rw[h1];rfl
theorem zbC:FnScope ["steps","ways","wanted","name"] ["steps","ways","wanted","name"] (defScope s_first_open_step):=⟨rfl,rfl,rfl,by decide+kernel,rfl,by decide+kernel,by decide+kernel⟩
theorem ok_open(D:DefAt K mg "first_open_step" s_first_open_step)(T:Bn mg)(C_ways_behind:Callee P w K mg base "ways_behind" 1 ["step","ways","wanted","name"] sp_behindw):Callee P w K mg base "first_open_step" 2 ["steps","ways","wanted","name"] sp_open:=by
 refine D.callee zbC (fun _ _ _ _ _ _=>ln4 fun _ _ _ _=>rfl) (fun vs H Q E h=>?_) (fun f cdv A outer s H vs Q E hr h=>?_)
 ·obtain⟨l,a,b,x,ws,ps,A',B',p,rfl,_⟩:=h;rfl
 ·obtain⟨l,a,b,x,ws,ps,A',B',p,rfl,hl,st,hpl,hps,ha,hb,hf,q⟩:=h;have S:=zbC;have hlw:=st.length;refine⟨_,zaf (zaj (zaB zaO (za8 (own:=["step"]) (caps:=[(1,"ways"),(2,"wanted"),(3,"name")]) rfl ⟨rfl,rfl,rfl,rfl,⟨⟨rfl,rfl,.inl rfl⟩,⟨rfl,rfl,.inl rfl⟩,⟨rfl,rfl,.inl rfl⟩,trivial⟩⟩ (zax (pv 0)) (fun _ _ _ _ _ _=>zal (i:=0) (zaS (by decide+kernel)) rfl (Ao rfl)) (fun _ _ _ _ _ _=>zco (zam zeQ (zaA C_ways_behind (hr.mono (by decide)) rfl (zaa (pv 0) (zaa (pv 1) (zaa (pv 2) (zaa (pv 3) zae))))) (zad) (zas _))) (fun _ _ _ _ _ _=>pv 0)) (zad) (fun _ _=>rfl))),?_⟩;refine⟨_,rfl,_,rfl,⟨_,SqL.of hl⟩,fun D hD=>?_⟩;have hne:∀i,i<ws.length->ws.getD i .non≠.ref D:=fun i hi z=>by
   obtain⟨qa,e1,e2⟩:=st.get (A9 (show i<ps.length by omega));rw[Ai,e1] at z
   cases z
   rw[hD] at e2
   cases e2
  refine zgj (capv:=[some (.ref a),some (.ref b),some (.str x)]) (by rfl) (zap K l ws) (big (by omega)) hD (fun H' s'=>SqL.of (s' _ _ hl)) (fun i=>decide (0<bh x A' B' (ps.getD i ("",0)))) (fun i=>ws.getD i .non) (fun i hi _=>hne i hi) ?_ ?_ ?_
  ·intro i y hy H' R s' h;have hi:i<ps.length:=by rw[<-hlw];exact(Ar.mp hy).1
   obtain⟨qa,e1,e2⟩:=st.get (A9 hi);rw[hy] at e1
   cases e1
   obtain⟨h0,h1⟩:=hps ps[i] (Cu hi);refine⟨_,rfl,_,rfl,_,rfl,_,rfl,qa,a,b,x,ps[i],A',B',rfl,s' _ _ e2,h0,h1,s' _ _ ha,s' _ _ hb,_,_,rfl,rfl,_,rfl,?_⟩;have:=h H' (Same.refl _);have e:decide (0<bh x A' B' (ps.getD i ("",0)))=decide ((0:Int)<((bh x A' B' ps[i]:Nat):Int)):=by
    rw[Ai,A9 hi,decide_eq_decide];show 0<bh x A' B' ps[i]↔_;omega
   rw[e] at this;exact this
  ·intro i y hy _ H' R s' h;refine⟨_,rfl,?_⟩;have:=h H' (Same.refl _);rw[Ai,hy] at this;exact this
  ·intro H' s' e;obtain⟨i,h1,h2⟩:=find_filterO (d:=(("",0):Str×Int)) hf;rw[hlw] at e;obtain⟨qa,e1,e2⟩:=st.get h2;refine⟨_,_,_,_,rfl,rfl,SqL.of e,zay (j:=0) ?_,q qa H' s' (s' _ _ e2)⟩;rw[Ad,h1,Cj,Ai,e1];rfl
noncomputable def sp_layf(ea:Nat->A3):Sp:=fun vs H Q E=>∃(a wa wb:A3)(x:Str)(ts ws ws':List V)(C:Combs)(n:Nat)(B:Nat->Nat->Nat),vs=[.ref a,.ref wa,.ref wb,.str x]/\H a=some (.lst ts)/\TabR H ts C/\GC C/\C.length<=8/\n<=200/\H wa=some (.lst ws)/\WaysR (fun _=>True) H ws (Wy C) n/\H wb=some (.lst ws')/\WaysR (fun _=>True) H ws' B n/\Sel C x B/\
 (if 0<B n 0 then∀(r:A3)(wl:List V)(H':Hp),Same H H'->H r=none->H' r=some (.lst wl)->LaysR H' wl (fnm C x B n) n->Q (.ref r) H' else E (.ref (ea 14)) none H)
theorem zc2:FnScope ["table","ways","wanted","name","left","layings","shape","place","step"] ["table","ways","wanted","name"] (defScope s_lay_first):=⟨rfl,rfl,rfl,by decide+kernel,rfl,by decide+kernel,by decide+kernel⟩
theorem ok_layf{ea:Nat->A3}(D:DefAt K mg "lay_first" s_lay_first)(T:Bn mg)(O_NoFilling:Err K mg "NoFilling" (ea 14))(C_first_open_step:Callee P w K mg base "first_open_step" 2 ["steps","ways","wanted","name"] sp_open):Callee1 P w K mg base "lay_first" 3 ["table","ways","wanted","name"] (sp_layf ea):=by
 refine D.callee1 zc2 (fun _ _ _ _ _ _=>ln4 fun _ _ _ _=>rfl) (fun vs H Q E h=>?_) (fun f cdv A outer s H vs Q E hr h=>?_)
 ·obtain⟨a,wa,wb,x,ts,ws,ws',C,n,B,rfl,_⟩:=h;rfl
 ·obtain⟨a,wa,wb,x,ts,ws,ws',C,n,B,rfl,ha,tb,gc,h8,hn,hwa,wr,hwb,wr',sl,q⟩:=h;have S:=zc2;have elen:((ws.length:Nat):Int)-1=((n:Nat):Int):=by rw[wr.1];omega
  refine⟨_,zac (zak (i:=4) S.nd rfl (Ao rfl) (zau zdt (zai zat rfl T.n_len C3 (zaa (pv 1) zae)) (zad)))
  (zac (zaE (zam zcj (zaB zaO (zaB zaO (pv 2) (pv 4) (fun _ _=>rfl)) (zad) (fun _ _=>rfl)) (zad) (zas _))
   (zaf (zbl O_NoFilling rfl (zaa (zaw) zae)))
   (zan))
  (zac (zak (i:=5) S.nd rfl (Ao rfl) (zaZ (zae)))
  (zac (zak (i:=6) S.nd rfl (Ao rfl) (zad))
  (zac (zaY Jn rfl (zbv rfl T.n_range (zaa (pv 4) zae)) (zal (i:=7) S.nd rfl (Ao rfl))
   (zac (zak (i:=4) S.nd rfl (Ao rfl) (zau zdt (pv 4) (zad)))
   (zac (zak (i:=8) S.nd rfl (Ao rfl) (zaA C_first_open_step (hr.mono (by decide)) rfl (zaa (zaB zaO (pv 0) (pv 6) (fun _ _=>rfl)) (zaa (zaB zaO (pv 1) (pv 4) (fun _ _=>rfl)) (zaa (zaB zaO (pv 2) (pv 4) (fun _ _=>rfl)) (zaa (pv 3) zae))))))
   (zcp (zaE (zam zc6 (zaB zaN (pv 8) (zad) (fun _ _=>rfl)) (zaw) (zas _))
    (zaf (zbd (zdP C7 Cd Cc za1 (pv 5) (zaa (zbi (zaa (pv 7) (zaa (zaB zaN (pv 8) (zad) (fun _ _=>rfl)) zae))) zae))))
    (zan))
   (zcp (zaE (zam zcj (zaB zaN (pv 8) (zad) (fun _ _=>rfl)) (pv 3) (zas _))
    (zaf (zak (i:=2) S.nd rfl (Ao rfl) (pv 1)))
    (zan))
   (zaf (zak (i:=6) S.nd rfl (Ao rfl) (zaB zaN (pv 8) (zad) (fun _ _=>rfl)))))))))
  (zaf (zaj (pv 5))))))),?_⟩
  refine⟨_,rfl,_,_,rfl,.inl (SqL.of hwa),_,_,rfl,rfl,?_⟩;obtain⟨qn,eqn,_,hqn⟩:=wr'.2 n (Ab _);refine⟨_,rfl,_,rfl,_,_,_,_,rfl,rfl,SqL.of hwb,by rw[elen];exact zay eqn,_,_,_,_,rfl,rfl,SqL.of hqn,(show atI (wrow (B n)) ((0:Nat):Int)=_ from zfj _ (by decide)),rfl,_,rfl,?_⟩;by_cases hb:0<B n 0
  case neg=>
   rw[if_neg hb] at q;have:B n 0=0:=by omega
   rw[this,decide_eq_true (show V.int ((0:Nat):Int)=V.int 0 from rfl)];exact iteT ⟨bigr rfl,q⟩
  rw[if_pos hb] at q;rw[decide_eq_false (show¬V.int ((B n 0:Nat):Int)=V.int 0 from fun z=>by injection z with z;omega)];refine iteF ?_;refine⟨bigr rfl,fun r nr=>?_⟩;have s1:Same H (upd H r (.lst [])):=Same.new nr;refine⟨_,rfl,_,rfl,by rw[elen];omega,by rw[elen];omega,?_⟩;have hok:=zhq gc sl hb
  let wd:Bool->A3:=fun b=>if b=true then wa else wb
  rw[elen,show((n:Nat):Int).toNat=n by omega];refine zbz (zaT 0 n) (fun i σ Hx=>Same H Hx/\∃(wl:List V)(x7 x8:Option V),σ=[some (.ref a),some (.ref wa),some (.ref (wd (fw C x B n i).2)),some (.str x),some (.int ((n-i:Nat):Int)),some (.ref r),some (.int (((fw C x B n i).1:Nat):Int)),x7,x8]/\Hx r=some (.lst wl)/\LaysR Hx wl (fnm C x B n) i) ⟨s1,[],_,_,by rw[Q4,<-elen];rfl,zab,.nil⟩ (fun _ _ _ _ _=>trivial) ?_ ?_
  ·rintro i y σ Hx hx⟨sx,wl,x7,x8,rfl,hrx,lr⟩;obtain⟨hi,rfl⟩:=zbJ hx;rw[Ex];obtain⟨h1,h2⟩:=hok i (by omega);obtain⟨g1,g2,g3⟩:=zg7 gc sl hb hi;have hnx:=(hok (i+1) (by omega)).1;have e1:((n-i:Nat):Int)-1=((n-1-i:Nat):Int):=by omega
   obtain⟨qs,wss,t1,t2,t3⟩:=(tb.same sx).2 _ h1;obtain⟨qa,a1,_,a2⟩:=wr.2 (n-1-i) (by omega);have hwd:∃wsd qb,Hx (wd (fw C x B n i).2)=some (.lst wsd)/\wsd[n-1-i]?=some (.ref qb)/\Hx qb=some (.lst (wrow (ro C B (fw C x B n i).2 (n-1-i)))):=by
    show∃wsd qb,Hx (if(fw C x B n i).2=true then wa else wb)=_/\_/\_;unfold ro
    cases(fw C x B n i).2 with
    |true=>exact⟨ws,qa,sx _ _ hwa,a1,sx _ _ a2⟩
    |false=>
     obtain⟨qb,b1,_,b2⟩:=wr'.2 (n-1-i) (by omega);exact⟨ws',qb,sx _ _ hwb,b1,sx _ _ b2⟩
   obtain⟨wsd,qb,d1,d2,d3⟩:=hwd;refine⟨_,rfl,_,_,rfl,rfl,?_⟩;refine⟨_,rfl,_,rfl,_,_,_,_,rfl,rfl,SqL.of (sx _ _ ha),zay t1,_,rfl,_,rfl,_,_,_,_,rfl,rfl,SqL.of (sx _ _ hwa),by rw[e1];exact zay a1,_,rfl,_,rfl,_,_,_,_,rfl,rfl,SqL.of d1,by rw[e1];exact zay d2,_,rfl,?_⟩;refine⟨qs,qa,qb,x,wss,stp C (fw C x B n i).1,Wy C (n-1-i),ro C B (fw C x B n i).2 (n-1-i),_,rfl,t2,t3,by have:=zee h8 (fw C x B n i).1;omega,fun p hp=>zc0 gc h1 hp,sx _ _ a2,d3,g1,fun qt H2 s2 hqt=>?_⟩;dsimp only at hqt;have lr2:LaysR H2 wl (fnm C x B n) i:=lr.mono fun _ _ e=>s2 _ _ e;have hr2:=s2 _ _ hrx;have sx2:=sx.trans s2;have hwl:=lr2.len;have nr0:H r=none:=nr;refine⟨fun σ Hy=>Same H Hy/\Hy qt=some (.tup [.str (fnm C x B n i),.int (((fw C x B n (i+1)).1:Nat):Int)])/\∃wl',Hy r=some (.lst wl')/\LaysR Hy wl' (fnm C x B n) (i+1)/\σ=[some (.ref a),some (.ref wa),some (.ref (wd (fw C x B n i).2)),some (.str x),some (.int (((n-i:Nat):Int)-1)),some (.ref r),some (.int (((fw C x B n i).1:Nat):Int)),some (.int ((i:Nat):Int)),some (.ref qt)],?_,?_⟩
   ·refine⟨_,rfl,_,_,_,_,rfl,rfl,SqT.of hqt,at0,rfl,_,rfl,?_⟩;by_cases hz:fnm C x B n i=A0 ""
    ·rw[decide_eq_true (by rw[hz])];refine iteF ?_;exact⟨sx2,hqt,wl,hr2,lr2.skip hz,rfl⟩
    ·rw[decide_eq_false (fun z=>hz (by injection z))];refine iteT ?_;refine⟨_,rfl,.inl ⟨rfl,_,SqL.of hr2⟩,_,rfl,_,rfl,_,_,_,_,rfl,rfl,SqT.of hqt,at0,bigr rfl,fun tt ntt=>?_⟩;have s3:Same H2 (upd H2 tt (.tup [.int ((i:Nat):Int),.str (fnm C x B n i)])):=Same.new ntt;have htt:upd H2 tt (.tup [.int ((i:Nat):Int),.str (fnm C x B n i)]) tt=some (.tup [.int ((i:Nat):Int),.str (fnm C x B n i)]):=zab;have hr3:=s3 _ _ hr2;have hqt3:=s3 _ _ hqt;have lr3:LaysR (upd H2 tt (.tup [.int ((i:Nat):Int),.str (fnm C x B n i)])) wl (fnm C x B n) i:=lr2.mono fun _ _ e=>s3 _ _ e;generalize upd H2 tt (.tup [.int ((i:Nat):Int),.str (fnm C x B n i)])=H3 at s3 htt hr3 hqt3 lr3⊢;refine⟨r,_,_,rfl,rfl,hr3,Ah (by omega:wl.length<1000) za0,?_⟩;have kt:∀qa ys,H3 qa=some (.tup ys)->upd H3 r (.lst (wl++[.ref tt])) qa=some (.tup ys):=fun qa ys z=>by rw[zah (fun z2=>by rw[z2,hr3] at z;cases z)];exact z
     exact⟨(sx2.trans s3).put nr0,kt _ _ hqt3,_,zab,(lr3.mono kt).snoc hz (kt _ _ htt),rfl⟩
   rintro σ Hy⟨sy,hqy,wl',hry,lry,rfl⟩;refine⟨fun σ Hz=>Hz=Hy/\σ=[some (.ref a),some (.ref wa),some (.ref (wd (fw C x B n (i+1)).2)),some (.str x),some (.int (((n-i:Nat):Int)-1)),some (.ref r),some (.int (((fw C x B n i).1:Nat):Int)),some (.int ((i:Nat):Int)),some (.ref qt)],?_,?_⟩
   ·refine⟨_,rfl,_,_,_,_,rfl,rfl,SqT.of hqy,at0,_,rfl,rfl,_,rfl,?_⟩;rw[g2];by_cases hz:fnm C x B n i=x
    ·rw[decide_eq_true (show V.str (fnm C x B n i)=V.str x by rw[hz]),decide_eq_true hz,Mi];refine iteT ?_;exact⟨_,rfl,rfl,rfl⟩
    ·rw[decide_eq_false (show¬V.str (fnm C x B n i)=V.str x from fun z=>hz (by injection z)),decide_eq_false hz,M1];refine iteF ?_;exact⟨rfl,rfl⟩
   rintro σ Hz⟨rfl,rfl⟩;refine⟨_,rfl,_,_,_,_,rfl,rfl,SqT.of hqy,at1,?_⟩;refine⟨sy,wl',some (.int ((i:Nat):Int)),some (.ref qt),?_,hry,lry⟩;rw[e1,show n-(i+1)=n-1-i by omega];rfl
  ·rintro σ Hx⟨sx,wl,x7,x8,rfl,hrx,lr⟩;rw[zbI] at lr;exact⟨_,rfl,q r wl Hx sx nr hrx lr⟩
noncomputable def sp_chk(ea:Nat->A3):Sp:=fun vs H Q E=>∃n,vs=[.int n]/\(if 0<=n/\n<=200 then Q .non H else E (.ref (ea 13)) none H)
theorem zb3:FnScope ["length"] ["length"] (defScope s_check_length):=⟨rfl,rfl,rfl,by decide+kernel,rfl,by decide+kernel,by decide+kernel⟩
theorem ok_chk{ea:Nat->A3}(D:DefAt K mg "check_length" s_check_length)(T:Bn mg)(V_MOST_FILLED:∃t,mg "MOST_FILLED"=some (.int 200 t))(O_BadLength:Err K mg "BadLength" (ea 13)):Callee1 P w K mg base "check_length" 1 ["length"] (sp_chk ea):=by
 refine D.callee1 zb3 (fun _ _ _ _ _ _=>ln1 fun _=>rfl) (fun vs H Q E h=>?_) (fun f cdv A outer s H vs Q E hr h=>?_)
 ·obtain⟨n,rfl,_⟩:=h;rfl
 ·obtain⟨n,rfl,q⟩:=h;have S:=zb3;refine⟨_,zaf (zaE (za9 (zda zcV zcV (zad) (pv 0) (zbN rfl V_MOST_FILLED)))
   (zaf (zbl O_BadLength rfl (zaa (zaw) zae)))
   (zan)),?_⟩
  refine⟨_,rfl,_,_,rfl,rfl,_,rfl,?_⟩;refine ite2 (fun h0=>?_) (fun h0=>?_)
  rotate_left
  ·have h0:¬(0:Int)<=n:=by simpa using h0
   rw[if_neg (fun z=>h0 z.1)] at q;exact⟨_,rfl,iteT ⟨bigr rfl,q⟩⟩
  have h0:(0:Int)<=n:=by simpa using h0
  refine⟨_,_,rfl,rfl,_,rfl,?_⟩;by_cases h1:n<=200
  case neg=>
   rw[if_neg (fun z=>h1 z.2)] at q;rw[decide_eq_false h1];exact iteT ⟨bigr rfl,q⟩
  rw[if_pos ⟨h0,h1⟩] at q;rw[decide_eq_true h1];exact iteF q
noncomputable def sp_ffill(ea:Nat->A3)(C:A3):Sp:=fun vs H Q E=>∃b l G cs past n,vs=[.ref b,.int n]/\Bk C G H b l cs past/\
 (if 0<=n/\n<=200 then(if 0<Wy (srt cs) n.toNat 0 then∀(r:A3)(wl:List V)(H':Hp),Same H H'->H r=none->H' r=some (.lst wl)->LaysR H' wl (fnm (srt cs) (A0 "") (Wy (srt cs)) n.toNat) n.toNat->Q (.ref r) H' else∀H',Same H H'->E (.ref (ea 14)) none H') else E (.ref (ea 13)) none H)
theorem zbW:FnScope ["book","length","table","ways"] ["book","length"] (defScope s_first_filling):=⟨rfl,rfl,rfl,by decide+kernel,rfl,by decide+kernel,by decide+kernel⟩
theorem ok_ffill{ea:Nat->A3}{C:A3}(D:DefAt K mg "first_filling" s_first_filling)(T:Bn mg)(C_check_length:Callee1 P w K mg base "check_length" 1 ["length"] (sp_chk ea))(C_step_table:Callee1 P w K mg base "step_table" 4 ["book"] (sp_table C))(C_ways_to_close:Callee P w K mg base "ways_to_close" 3 ["table","length"] sp_close)(C_lay_first:Callee1 P w K mg base "lay_first" 3 ["table","ways","wanted","name"] (sp_layf ea)):Callee1 P w K mg base "first_filling" 5 ["book","length"] (sp_ffill ea C):=by
 refine D.callee1 zbW (fun _ _ _ _ _ _=>ln2 fun _ _=>rfl) (fun vs H Q E h=>?_) (fun f cdv A outer s H vs Q E hr h=>?_)
 ·obtain⟨b,l,G,cs,past,n,rfl,_⟩:=h;rfl
 ·obtain⟨b,l,G,cs,past,n,rfl,B,q⟩:=h;have S:=zbW;obtain⟨gc,h8⟩:=zdn B;refine⟨_,zac (zbd (zbZ C_check_length (hr.mono (by decide)) (by first|exact zaG|exact zbP|exact zaQ) rfl (zaa (pv 1) zae)))
  (zac (zak (i:=2) S.nd rfl (Ao rfl) (zbZ C_step_table (hr.mono (by decide)) (by first|exact zaG|exact zbP|exact zaQ) rfl (zaa (pv 0) zae)))
  (zac (zak (i:=3) S.nd rfl (Ao rfl) (zaA C_ways_to_close (hr.mono (by decide)) rfl (zaa (pv 2) (zaa (pv 1) zae))))
  (zaf (zaj (zbZ C_lay_first (hr.mono (by decide)) (by first|exact zaG|exact zbP|exact zaQ) rfl (zaa (pv 2) (zaa (pv 3) (zaa (pv 3) (zaa (zaw) zae))))))))),?_⟩
  refine⟨_,rfl,n,rfl,?_⟩;by_cases hn:0<=n/\n<=200
  case neg=>
   rw[if_neg hn] at q⊢;exact q
  rw[if_pos hn] at q⊢;obtain⟨k,rfl⟩:=Fv hn.1;rw[show((k:Nat):Int).toNat=k by omega] at q;refine⟨_,rfl,b,l,G,cs,past,rfl,B,fun a H1 ts s1 na ha tb=>?_⟩;refine⟨_,rfl,_,rfl,a,ts,srt cs,k,rfl,ha,tb,gc,h8,by omega,fun r ws H2 s2 hr2 wr=>?_⟩;have s12:=s1.trans s2;refine⟨_,rfl,_,rfl,_,rfl,a,r,r,A0 "",ts,ws,ws,srt cs,k,Wy (srt cs),rfl,s2 _ _ ha,tb.same s2,gc,h8,by omega,hr2,wr,hr2,wr,zgw _ _,?_⟩;by_cases hw:0<Wy (srt cs) k 0
  ·rw[if_pos hw] at q⊢;intro p wl H3 s3 np hp lr;exact q p wl H3 (s12.trans s3) (s12.free np) hp lr
  ·rw[if_neg hw] at q⊢;exact q H2 s12
noncomputable def sp_count(ea:Nat->A3)(C:A3):Sp:=fun vs H Q E=>∃b l G cs past n,vs=[.ref b,.int n]/\Bk C G H b l cs past/\
 (if 0<=n/\n<=200 then∀H',Same H H'->Q (.int ((Wy (srt cs) n.toNat 0:Nat):Int)) H' else E (.ref (ea 13)) none H)
theorem zbG:FnScope ["book","length"] ["book","length"] (defScope s_count_fillings):=⟨rfl,rfl,rfl,by decide+kernel,rfl,by decide+kernel,by decide+kernel⟩
theorem ok_count{ea:Nat->A3}{C:A3}(D:DefAt K mg "count_fillings" s_count_fillings)(T:Bn mg)(C_check_length:Callee1 P w K mg base "check_length" 1 ["length"] (sp_chk ea))(C_step_table:Callee1 P w K mg base "step_table" 4 ["book"] (sp_table C))(C_ways_to_close:Callee P w K mg base "ways_to_close" 3 ["table","length"] sp_close):Callee1 P w K mg base "count_fillings" 5 ["book","length"] (sp_count ea C):=by
 refine D.callee1 zbG (fun _ _ _ _ _ _=>ln2 fun _ _=>rfl) (fun vs H Q E h=>?_) (fun f cdv A outer s H vs Q E hr h=>?_)
 ·obtain⟨b,l,G,cs,past,n,rfl,_⟩:=h;rfl
 ·obtain⟨b,l,G,cs,past,n,rfl,B,q⟩:=h;have S:=zbG;obtain⟨gc,h8⟩:=zdn B;refine⟨_,zac (zbd (zbZ C_check_length (hr.mono (by decide)) (by first|exact zaG|exact zbP|exact zaQ) rfl (zaa (pv 1) zae)))
  (zaf (zaj (zaB zaO (zaB zaO (zaA C_ways_to_close (hr.mono (by decide)) rfl (zaa (zbZ C_step_table (hr.mono (by decide)) (by first|exact zaG|exact zbP|exact zaQ) rfl (zaa (pv 0) zae)) (zaa (pv 1) zae))) (pv 1) (fun _ _=>rfl)) (zad) (fun _ _=>rfl)))),?_⟩
  refine⟨_,rfl,n,rfl,?_⟩;by_cases hn:0<=n/\n<=200
  case neg=>
   rw[if_neg hn] at q⊢;exact q
  rw[if_pos hn] at q⊢;obtain⟨k,rfl⟩:=Fv hn.1;rw[show((k:Nat):Int).toNat=k by omega] at q;refine⟨_,rfl,b,l,G,cs,past,rfl,B,fun a H1 ts s1 na ha tb=>?_⟩;refine⟨_,rfl,a,ts,srt cs,k,rfl,ha,tb,gc,h8,by omega,fun r ws H2 s2 hr2 wr=>?_⟩;obtain⟨qk,e1,_,e2⟩:=wr.2 k (Ab _);exact⟨_,rfl,_,_,_,_,rfl,rfl,SqL.of hr2,zay e1,_,_,_,_,rfl,rfl,SqL.of e2,(show atI (wrow (Wy (srt cs) k)) ((0:Nat):Int)=_ from zfj _ (by decide)),q H2 (s1.trans s2)⟩
noncomputable def sp_at(K:Am):Sp:=fun vs H Q _=>∃(a:A3)(ns:List Int)(k:Int),vs=[.ref a,.int k]/\SqL K H a (ns.map V.int)/\0<=k/\Q (.int (ns.getD k.toNat 0)) H
theorem zhS:FnScope ["_law_script","_law_k"] ["_law_script","_law_k"] (defScope s_at):=⟨rfl,rfl,rfl,by decide+kernel,rfl,by decide+kernel,by decide+kernel⟩
theorem ok_at(D:DefAt K mg "_law_at" s_at)(T:Bn mg):Callee P w K mg base "_law_at" 1 ["_law_script","_law_k"] (sp_at K):=by
 refine D.callee zhS (fun _ _ _ _ _ _=>ln2 fun _ _=>rfl) (fun vs H Q E h=>?_) (fun f cdv A outer s H vs Q E hr h=>?_)
 ·obtain⟨a,ns,k,rfl,_⟩:=h;rfl
 ·obtain⟨a,ns,k,rfl,hS,h0,q⟩:=h;have S:=zhS;refine⟨_,zac (zaE (zam zgT (pv 1) (zai zat rfl T.n_len C3 (zaa (pv 0) zae)) (zas _))
   (zaf (zaj (zaB zaO (pv 0) (pv 1) (fun _ _=>rfl))))
   (zan))
  (zaf (zaj (zad))),?_⟩
  refine⟨_,rfl,_,rfl,_,_,rfl,.inl hS,_,_,rfl,rfl,_,rfl,?_⟩;refine ite2 (fun hc=>?_) (fun hc=>?_)
  ·have hc:=of_decide_eq_true hc;rw[A4] at hc;exact⟨_,rfl,_,rfl,_,_,_,_,rfl,rfl,hS,zhM h0 hc,q⟩
  ·have hc:¬k<(ns.length:Int):=fun z=>hc (decide_eq_true (by rw[A4];exact z));rw[getD_big hc] at q;exact q
noncomputable def mixed(c k:Int):Int:=((c+7919*k+1)*48271%2147483647+104729*k+3)*69621%2147483647
noncomputable def sp_mixed:Sp:=fun vs H Q _=>∃(c k:Int),vs=[.int c,.int k]/\Q (.int (mixed c k)) H
theorem zfT:FnScope ["_law_cell","_law_k","_law_once"] ["_law_cell","_law_k"] (defScope s_mixed):=⟨rfl,rfl,rfl,by decide+kernel,rfl,by decide+kernel,by decide+kernel⟩
theorem ok_mixed(D:DefAt K mg "_law_mixed" s_mixed)(T:Bn mg):Callee P w K mg base "_law_mixed" 1 ["_law_cell","_law_k"] sp_mixed:=by
 refine D.callee zfT (fun _ _ _ _ _ _=>ln2 fun _ _=>rfl) (fun vs H Q E h=>?_) (fun f cdv A outer s H vs Q E hr h=>?_)
 ·obtain⟨c,k,rfl,_⟩:=h;rfl
 ·obtain⟨c,k,rfl,q⟩:=h;have S:=zfT;refine⟨_,zac (zak (i:=2) S.nd rfl (Ao rfl) (zau za5 (zau zeO (zau zbf (zau zbf (pv 0) (zau zeO (zad) (pv 1))) (zad)) (zad)) (zad)))
  (zaf (zaj (zau za5 (zau zeO (zau zbf (zau zbf (pv 2) (zau zeO (zad) (pv 1))) (zad)) (zad)) (zad)))),?_⟩
  refine⟨_,rfl,_,rfl,_,_,rfl,rfl,.inl ⟨by decide,by decide⟩,_,_,rfl,rfl,_,_,rfl,rfl,_,_,rfl,rfl,.inr ⟨by decide,by decide⟩,_,_,rfl,rfl,by show(0:Int)<2147483647;decide,?_⟩;exact⟨_,rfl,_,rfl,_,_,rfl,rfl,.inl ⟨by decide,by decide⟩,_,_,rfl,rfl,_,_,rfl,rfl,_,_,rfl,rfl,.inr ⟨by decide,by decide⟩,_,_,rfl,rfl,by show(0:Int)<2147483647;decide,q⟩
noncomputable def sp_whole:Sp:=fun vs H Q _=>∃(i:Int),vs=[.int i]/\Q (.bl true) H
theorem zfQ:FnScope ["_law_found"] ["_law_found"] (defScope s_whole):=⟨rfl,rfl,rfl,by decide+kernel,rfl,by decide+kernel,by decide+kernel⟩
theorem ok_whole(D:DefAt K mg "_law_whole" s_whole)(T:Bn mg):Callee P w K mg base "_law_whole" 1 ["_law_found"] sp_whole:=by
 refine D.callee zfQ (fun _ _ _ _ _ _=>ln1 fun _=>rfl) (fun vs H Q E h=>?_) (fun f cdv A outer s H vs Q E hr h=>?_)
 ·obtain⟨i,rfl,_⟩:=h;rfl
 ·obtain⟨i,rfl,q⟩:=h;have S:=zfQ;refine⟨_,zaf (zaj (zd5 (zai (zbr "int") rfl T.n_isinstance Bm (zaa (pv 0) (zaa (zbO (v:=.ty "int") rfl T.n_int boot_int rfl) zae))) (zeM (pe_not (zai (zbr "bool") rfl T.n_isinstance Bm (zaa (pv 0) (zaa (zbO (v:=.ty "bool") rfl T.n_bool boot_bool rfl) zae))))))),?_⟩;refine⟨_,rfl,_,_,true,rfl,.int i,rfl,_,rfl,?_⟩;refine iteT ?_;exact⟨_,rfl,_,_,false,rfl,.int i,rfl,_,rfl,q⟩
noncomputable def sp_word:Sp:=fun vs H Q _=>∃(c b:Int),vs=[.int c,.int b]/\(b=26\/b=2)/\∀x:Str,isName x=true->Q (.str x) H
theorem zgx:FnScope ["_law_cell","_law_base","_law_word_here","_law_rest","_law_k"] ["_law_cell","_law_base"] (defScope s_word):=⟨rfl,rfl,rfl,by decide+kernel,rfl,by decide+kernel,by decide+kernel⟩
theorem ok_word(D:DefAt K mg "_law_word" s_word)(T:Bn mg):Callee P w K mg base "_law_word" 1 ["_law_cell","_law_base"] sp_word:=by
 refine D.callee zgx (fun _ _ _ _ _ _=>ln2 fun _ _=>rfl) (fun vs H Q E h=>?_) (fun f cdv A outer s H vs Q E hr h=>?_)
 ·obtain⟨c,b,rfl,_⟩:=h;rfl
 ·obtain⟨c,b,rfl,hb,q⟩:=h;have S:=zgx;have b0:0<b:=by omega
  have b1:b<=26:=by omega
  have m0:=Fq c (show(6:Int)≠0 by decide);have m1:=Ey c p6;refine⟨_,zac (zak (i:=2) S.nd rfl (Ao rfl) (zaw))
  (zac (zak (i:=3) S.nd rfl (Ao rfl) (zau zcr (pv 0) (zad)))
  (zac (zaY Bf rfl (zbv rfl T.n_range (zaa (zau zbf (zad) (zau za5 (pv 0) (zad))) zae)) (zal (i:=4) S.nd rfl (Ao rfl))
   (zac (zak (i:=2) S.nd rfl (Ao rfl) (zau op_add_str (pv 2) (zaB ix_str (zaw) (zau za5 (pv 3) (pv 1)) (fun _ _=>rfl))))
   (zaf (zak (i:=3) S.nd rfl (Ao rfl) (zau zcr (pv 3) (pv 1))))))
  (zaf (zaj (pv 2))))),?_⟩
  refine⟨_,rfl,_,_,rfl,rfl,⟨p6,by decide⟩,?_⟩;refine⟨_,rfl,_,_,rfl,rfl,p6,_,_,rfl,rfl,_,rfl,?_,?_,?_⟩
  ·show-(2 ^ 62)<=1+c%6;omega
  ·show 1+c%6<2 ^ 62;omega
  refine zbz (zaT 0 (1+c%6).toNat) (fun i σ H'=>H'=H/\∃(x:Str)(r:Int)(x4:Option V),σ=[some (.int c),some (.int b),some (.str x),some (.int r),x4]/\x.length=i/\x.cps.toList.all small=true) ⟨rfl,Str.ofString "",_,_,rfl,by decide,by decide⟩ (fun _ _ _ _ _=>trivial) ?_ ?_
  ·rintro i x σ H2 hx⟨rfl,y,r,x4,rfl,hl,ha⟩;obtain⟨hi,rfl⟩:=zbJ hx;obtain⟨ch,hch,hs⟩:=abc_at (k:=r%b) (Int.emod_nonneg _ (by omega)) (by have:=Int.emod_lt_of_pos r b0;omega);refine⟨_,rfl,_,rfl,_,rfl,_,_,rfl,rfl,b0,_,_,_,rfl,rfl,?_,hch,_,_,rfl,rfl,?_,?_⟩
   ·show abc.length<=sizeLine;rw[zfE];decide
   ·rw[zeo];exact big (by omega)
   refine⟨_,rfl,_,rfl,_,_,rfl,rfl,⟨b0,by omega⟩,?_⟩;refine⟨rfl,_,_,_,rfl,by rw[len_app,hl,zeo],?_⟩;rw[app_list,List.all_append,ha];show(true&&[ch].all small)=true;simp[hs]
  ·rintro σ H2⟨rfl,y,r,x4,rfl,hl,ha⟩;rw[A4,Ax] at hl;exact⟨_,rfl,q y (zgW (by omega) (by omega) ha)⟩
noncomputable def sp_spare(K:Am):Sp:=fun vs H Q _=>∃(x:Str)(u:A3)(us:List Str),vs=[.str x,.ref u]/\isName x=true/\SqL K H u (us.map V.str)/\us.length<=25/\∀y H',Same H H'->isName y=true->y∉us->Q (.str y) H'
noncomputable def notUsed(us:List Str)(v:V):Bool:=match v with
 | .str y=> !decide (y∈us)
 |_=>false
theorem zfS:FnScope ["_law_word_here","_law_used"] ["_law_word_here","_law_used"] (defScope s_spare):=⟨rfl,rfl,rfl,by decide+kernel,rfl,by decide+kernel,by decide+kernel⟩
theorem ok_spare(D:DefAt K mg "_law_spare" s_spare)(T:Bn mg):Callee P w K mg base "_law_spare" 1 ["_law_word_here","_law_used"] (sp_spare K):=by
 refine D.callee zfS (fun _ _ _ _ _ _=>ln2 fun _ _=>rfl) (fun vs H Q E h=>?_) (fun f cdv A outer s H vs Q E hr h=>?_)
 ·obtain⟨x,u,us,rfl,_⟩:=h;rfl
 ·obtain⟨x,u,us,rfl,hx,hS,hl,q⟩:=h;have S:=zfS;refine⟨_,zac (zaE (zam zb7 (pv 0) (pv 1) (by with_unfolding_all rfl))
   (zaf (zaj (pv 0)))
   (zan))
  (zaf (zaj (zaB zaO (za8 (own:=["_law_one"]) (caps:=[(1,"_law_used")]) rfl ⟨rfl,rfl,rfl,rfl,⟨⟨rfl,rfl,.inl rfl⟩,trivial⟩⟩ (zhw (zaw)) (fun _ _ _ _ _ _=>zal (i:=0) (zaS (by decide+kernel)) rfl (Ao rfl)) (fun _ _ _ _ _ _=>zco (zam (op_notIn_seq' K rfl) (pv 0) (pv 1) (by with_unfolding_all rfl))) (fun _ _ _ _ _ _=>pv 0)) (zad) (fun _ _=>rfl)))),?_⟩
  refine⟨_,rfl,_,rfl,_,_,rfl,.inl hS,rfl,ze4 us,_,rfl,?_⟩;rw[if_pos rfl,zg2];refine ite2 (fun hc=>?_) (fun hc=>?_)
  ·have h0:x∉us:=by simpa using hc
   exact⟨_,rfl,q x H (Same.refl H) hx h0⟩
  ·refine⟨_,rfl,fun D hD=>?_⟩;refine zb1 (capv:=[some (.ref u)]) (L:=abc.cps.toList.map sgn) (by rfl) (ze1 abc) (by rw[A4,zcQ,zfE];decide) hD ?_ (notUsed us) (fun v=>v) ?_ ?_ ?_
   ·exact fun _ _=>trivial
   ·intro v hv H' R s' h;obtain⟨c,hc,rfl⟩:=A7.mp hv;refine⟨_,rfl,_,rfl,_,_,rfl,.inl (s'.seq hS),rfl,ze4 us,_,rfl,?_⟩;rw[if_pos rfl];show R (!inV (V.str ⟨#[c]⟩) (us.map V.str)) H';rw[zg2];exact h H' (Same.refl _)
   ·intro v hv hp H' R s' h;exact⟨_,rfl,h H' (Same.refl _)⟩
   ·intro H' s' e;obtain⟨c,hc,hn⟩:=spare_some us hl;have hm:sgn c∈((abc.cps.toList.map sgn).filter (notUsed us)).map fun v=>v:=by
     rw[Mf];exact Bc.mpr ⟨A7.mpr ⟨c,hc,rfl⟩,by show(!decide ((⟨#[c]⟩:Str)∈us))=true;simp[hn]⟩
    have hall:∀v∈((abc.cps.toList.map sgn).filter (notUsed us)).map fun v=>v,∃d,v=sgn d/\small d=true/\(⟨#[d]⟩:Str)∉us:=fun v hv=>by
     rw[Mf] at hv;obtain⟨h1,h2⟩:=Bc.mp hv;obtain⟨d,hd,rfl⟩:=A7.mp h1;have h2:(!decide ((⟨#[d]⟩:Str)∈us))=true:=h2;exact⟨d,rfl,abc_small hd,by simpa using h2⟩
    generalize (((abc.cps.toList.map sgn).filter (notUsed us)).map fun v=>v)=l at e hm hall
    cases l with
    |nil=>cases hm
    |cons v l=>
     obtain⟨d,rfl,hs,hd⟩:=hall v Aj;exact⟨_,_,_,_,rfl,rfl,SqL.of e,(show atI (sgn d::l) ((0:Nat):Int)=some (sgn d) from zay rfl),q _ H' s' (name_one hs) hd⟩
noncomputable def Rows(H:Hp):List V->List (List Int)->Prop
 |[],[]=>True
 |v::vs,r::rs=>(∃p,v= .ref p/\H p=some (.tup (r.map V.int)))/\Rows H vs rs
 |_,_=>False
theorem Rows.same{H H':Hp}(s:Same H H'):∀{vs:List V}{rs:List (List Int)},Rows H vs rs->Rows H' vs rs
 |[],[],_=>trivial
 |_::_,_::_,⟨⟨p,e,h⟩,r⟩=>⟨⟨p,e,s _ _ h⟩,Rows.same s r⟩
 |[],_::_,h=>h.elim
 |_::_,[],h=>h.elim
theorem Rows.snoc{H:Hp}{p:A3}{r:List Int}(h:H p=some (.tup (r.map V.int))):∀{vs:List V}{rs:List (List Int)},Rows H vs rs->Rows H (vs++[.ref p]) (rs++[r])
 |[],[],_=>⟨⟨p,rfl,h⟩,trivial⟩
 |_::_,_::_,⟨a,b⟩=>⟨a,Rows.snoc h b⟩
 |[],_::_,x=>x.elim
 |_::_,[],x=>x.elim
theorem Rows.get{H:Hp}:∀{vs:List V}{rs:List (List Int)}{i:Nat}{r:List Int},Rows H vs rs->rs[i]?=some r->∃p,vs[i]?=some (.ref p)/\H p=some (.tup (r.map V.int))
 |[],[],_,_,_,e=>by simp at e
 |_::_,_::_,0,_,⟨⟨p,e,h⟩,_⟩,z=>by
  simp at z;subst z;exact⟨p,by rw[e];rfl,h⟩
 |_::_,_::_,i+1,_,⟨_,b⟩,z=>Rows.get (i:=i) b (by simpa using z)
 |[],_::_,_,_,x,_=>x.elim
 |_::_,[],_,_,x,_=>x.elim
structure Mr(H0 H:Hp)(vs:List V)(rs:List (List Int)):Prop where
 same:Same H0 H
 rows:Rows H vs rs
theorem Mr.add{H0 H:Hp}{vs:List V}{rs:List (List Int)}(m:Mr H0 H vs rs)(r:List Int){p:A3}(n:H p=none):Mr H0 (upd H p (.tup (r.map V.int))) (vs++[.ref p]) (rs++[r]):=
 ⟨m.same.put (m.same.free n),Rows.snoc zab (m.rows.same (Same.new n))⟩
theorem Mr.lstE{H0 H:Hp}{vs:List V}{rs:List (List Int)}(m:Mr H0 H vs rs){o:HO}{p:A3}(n:H p=none):Mr H0 (upd H p o) vs rs/\upd H p o p=some o:=⟨⟨m.same.put (m.same.free n),m.rows.same (Same.new n)⟩,zab⟩
theorem Mr.lst{H0 H:Hp}{vs:List V}{rs:List (List Int)}(m:Mr H0 H vs rs){o:HO}{p:A3}(n:H p=none):Mr H0 (upd H p o) vs rs:=⟨m.same.put (m.same.free n),m.rows.same (Same.new n)⟩
noncomputable def menuRows:List (List Int):=[[45],[131,133],[193,65],[71,161,99],[77,131,133],[13,49],[153,111,131],[197,131,173,53],[83,125,137,173,243],[185,193,215,87,243],[5],[175,209,67,129,21,229,49,83],[203,243,129,167,153,223,207,243],[197,147,131],[197,131,177],[31,255],[3,3],[119,225,131,109]]
noncomputable def MenuRow(xs:List Int):Prop:=(1<=xs.length/\xs.length<=8)/\∀x∈xs,x%2=1/\0<=x/\x<256
theorem menu_ok{i:Nat}{r:List Int}(h:menuRows[i]?=some r):MenuRow r:=by
 have all:∀r∈menuRows,(1<=r.length/\r.length<=8)/\∀x∈r,x%2=1/\0<=x/\x<256:=by decide
 exact all r (B0 h)
noncomputable def sp_menu:Sp:=fun vs H Q _=>∃(k:Int),vs=[.int k]/\∀p xs H',Same H H'->H' p=some (.tup (xs.map V.int))->MenuRow xs->Q (.ref p) H'
theorem zgz:FnScope ["_law_k","_law_rows"] ["_law_k"] (defScope s_menu):=⟨rfl,rfl,rfl,by decide+kernel,rfl,by decide+kernel,by decide+kernel⟩
theorem ok_menu(D:DefAt K mg "_law_menu" s_menu)(T:Bn mg):Callee P w K mg base "_law_menu" 1 ["_law_k"] sp_menu:=by
 refine D.calleeQ zgz (fun _ _ _ _ _ _=>ln1 fun _=>rfl) (fun vs H Q E h=>?_) (fun f cdv A outer s H vs Q E hr h=>?_)
 ·obtain⟨k,rfl,_⟩:=h;rfl
 ·obtain⟨k,rfl,q⟩:=h;have S:=zgz;refine⟨_,zaF (zbg (i:=1) S.nd rfl (Ao rfl) (zbo (zag (zbh (zag (qe (zad)) (zaC))) (zag (zbh (zag (qe (zad)) (zag (qe (zad)) (zaC)))) (zag (zbh (zag (qe (zad)) (zag (qe (zad)) (zaC)))) (zag (zbh (zag (qe (zad)) (zag (qe (zad)) (zag (qe (zad)) (zaC))))) (zag (zbh (zag (qe (zad)) (zag (qe (zad)) (zag (qe (zad)) (zaC))))) (zag (zbh (zag (qe (zad)) (zag (qe (zad)) (zaC)))) (zag (zbh (zag (qe (zad)) (zag (qe (zad)) (zag (qe (zad)) (zaC))))) (zaC))))))))))
  (zaF (zbg (i:=1) S.nd rfl (Ao rfl) (zdO zb0 (qe (pv 1)) (zbo (zag (zbh (zag (qe (zad)) (zag (qe (zad)) (zag (qe (zad)) (zag (qe (zad)) (zaC)))))) (zag (zbh (zag (qe (zad)) (zag (qe (zad)) (zag (qe (zad)) (zag (qe (zad)) (zag (qe (zad)) (zaC))))))) (zag (zbh (zag (qe (zad)) (zag (qe (zad)) (zag (qe (zad)) (zag (qe (zad)) (zag (qe (zad)) (zaC))))))) (zag (zbh (zag (qe (zad)) (zaC))) (zaC))))))))
  (zaF (zbg (i:=1) S.nd rfl (Ao rfl) (zdO zb0 (qe (pv 1)) (zbo (zag (zbh (zag (qe (zad)) (zag (qe (zad)) (zag (qe (zad)) (zag (qe (zad)) (zag (qe (zad)) (zag (qe (zad)) (zag (qe (zad)) (zag (qe (zad)) (zaC)))))))))) (zag (zbh (zag (qe (zad)) (zag (qe (zad)) (zag (qe (zad)) (zag (qe (zad)) (zag (qe (zad)) (zag (qe (zad)) (zag (qe (zad)) (zag (qe (zad)) (zaC)))))))))) (zaC))))))
  (zaF (zbg (i:=1) S.nd rfl (Ao rfl) (zdO zb0 (qe (pv 1)) (zbo (zag (zbh (zag (qe (zad)) (zag (qe (zad)) (zag (qe (zad)) (zaC))))) (zag (zbh (zag (qe (zad)) (zag (qe (zad)) (zag (qe (zad)) (zaC))))) (zag (zbh (zag (qe (zad)) (zag (qe (zad)) (zaC)))) (zag (zbh (zag (qe (zad)) (zag (qe (zad)) (zaC)))) (zag (zbh (zag (qe (zad)) (zag (qe (zad)) (zag (qe (zad)) (zag (qe (zad)) (zaC)))))) (zaC)))))))))
  (zfm (zgI (qe (zaB zaO (pv 1) (zau za5 (pv 0) (zai zat rfl T.n_len C3 (zaa (pv 1) zae))) (fun _ _=>rfl)))))))),?_⟩
  have M:Mr H H [] []:=⟨Same.refl H,trivial⟩;refine⟨bigr rfl,fun a1 na=>?_⟩
  replace M:=M.add [45] na
  clear na;refine⟨bigr rfl,fun a2 na=>?_⟩
  replace M:=M.add [131,133] na
  clear na;refine⟨bigr rfl,fun a3 na=>?_⟩
  replace M:=M.add [193,65] na
  clear na;refine⟨bigr rfl,fun a4 na=>?_⟩
  replace M:=M.add [71,161,99] na
  clear na;refine⟨bigr rfl,fun a5 na=>?_⟩
  replace M:=M.add [77,131,133] na
  clear na;refine⟨bigr rfl,fun a6 na=>?_⟩
  replace M:=M.add [13,49] na
  clear na;refine⟨bigr rfl,fun a7 na=>?_⟩
  replace M:=M.add [153,111,131] na
  clear na;refine⟨bigr rfl,fun b0 nb=>?_⟩;obtain⟨M,e⟩:=M.lstE (o:=.lst [V.ref a1,V.ref a2,V.ref a3,V.ref a4,V.ref a5,V.ref a6,V.ref a7]) nb;clear nb;refine⟨_,rfl,?_⟩;refine⟨bigr rfl,fun a8 na=>?_⟩
  replace M:=M.add [197,131,173,53] na
  replace e:=zbm (o:=.tup (([197,131,173,53]:List Int).map V.int)) e na
  clear na;refine⟨bigr rfl,fun a9 na=>?_⟩
  replace M:=M.add [83,125,137,173,243] na
  replace e:=zbm (o:=.tup (([83,125,137,173,243]:List Int).map V.int)) e na
  clear na;refine⟨bigr rfl,fun a10 na=>?_⟩
  replace M:=M.add [185,193,215,87,243] na
  replace e:=zbm (o:=.tup (([185,193,215,87,243]:List Int).map V.int)) e na
  clear na;refine⟨bigr rfl,fun a11 na=>?_⟩
  replace M:=M.add [5] na
  replace e:=zbm (o:=.tup (([5]:List Int).map V.int)) e na
  clear na;refine⟨bigr rfl,fun b1 nb=>?_⟩;obtain⟨M,e2⟩:=M.lstE (o:=.lst [V.ref a8,V.ref a9,V.ref a10,V.ref a11]) nb
  replace e:=zbm (o:=.lst [V.ref a8,V.ref a9,V.ref a10,V.ref a11]) e nb
  clear nb;refine⟨_,_,_,_,rfl,rfl,e,e2,bigr rfl,fun c1 nc=>?_⟩;obtain⟨M,e⟩:=M.lstE (o:=.lst [V.ref a1,V.ref a2,V.ref a3,V.ref a4,V.ref a5,V.ref a6,V.ref a7,V.ref a8,V.ref a9,V.ref a10,V.ref a11]) nc;clear nc e2;refine⟨_,rfl,?_⟩;refine⟨bigr rfl,fun a12 na=>?_⟩
  replace M:=M.add [175,209,67,129,21,229,49,83] na
  replace e:=zbm (o:=.tup (([175,209,67,129,21,229,49,83]:List Int).map V.int)) e na
  clear na;refine⟨bigr rfl,fun a13 na=>?_⟩
  replace M:=M.add [203,243,129,167,153,223,207,243] na
  replace e:=zbm (o:=.tup (([203,243,129,167,153,223,207,243]:List Int).map V.int)) e na
  clear na;refine⟨bigr rfl,fun b2 nb=>?_⟩;obtain⟨M,e2⟩:=M.lstE (o:=.lst [V.ref a12,V.ref a13]) nb
  replace e:=zbm (o:=.lst [V.ref a12,V.ref a13]) e nb
  clear nb;refine⟨_,_,_,_,rfl,rfl,e,e2,bigr rfl,fun c2 nc=>?_⟩;obtain⟨M,e⟩:=M.lstE (o:=.lst [V.ref a1,V.ref a2,V.ref a3,V.ref a4,V.ref a5,V.ref a6,V.ref a7,V.ref a8,V.ref a9,V.ref a10,V.ref a11,V.ref a12,V.ref a13]) nc;clear nc e2;refine⟨_,rfl,?_⟩;refine⟨bigr rfl,fun a14 na=>?_⟩
  replace M:=M.add [197,147,131] na
  replace e:=zbm (o:=.tup (([197,147,131]:List Int).map V.int)) e na
  clear na;refine⟨bigr rfl,fun a15 na=>?_⟩
  replace M:=M.add [197,131,177] na
  replace e:=zbm (o:=.tup (([197,131,177]:List Int).map V.int)) e na
  clear na;refine⟨bigr rfl,fun a16 na=>?_⟩
  replace M:=M.add [31,255] na
  replace e:=zbm (o:=.tup (([31,255]:List Int).map V.int)) e na
  clear na;refine⟨bigr rfl,fun a17 na=>?_⟩
  replace M:=M.add [3,3] na
  replace e:=zbm (o:=.tup (([3,3]:List Int).map V.int)) e na
  clear na;refine⟨bigr rfl,fun a18 na=>?_⟩
  replace M:=M.add [119,225,131,109] na
  replace e:=zbm (o:=.tup (([119,225,131,109]:List Int).map V.int)) e na
  clear na;refine⟨bigr rfl,fun b3 nb=>?_⟩;obtain⟨M,e2⟩:=M.lstE (o:=.lst [V.ref a14,V.ref a15,V.ref a16,V.ref a17,V.ref a18]) nb
  replace e:=zbm (o:=.lst [V.ref a14,V.ref a15,V.ref a16,V.ref a17,V.ref a18]) e nb
  clear nb;refine⟨_,_,_,_,rfl,rfl,e,e2,bigr rfl,fun c3 nc=>?_⟩;obtain⟨M,e⟩:=M.lstE (o:=.lst [V.ref a1,V.ref a2,V.ref a3,V.ref a4,V.ref a5,V.ref a6,V.ref a7,V.ref a8,V.ref a9,V.ref a10,V.ref a11,V.ref a12,V.ref a13,V.ref a14,V.ref a15,V.ref a16,V.ref a17,V.ref a18]) nc;clear nc e2;have p18:(0:Int)<18:=by decide
  have k0:=Fq k (show(18:Int)≠0 by decide);have k1:=Ey k p18;have hi:(k%18).toNat<menuRows.length:=by
   show(k%18).toNat<18;omega
  obtain⟨p,hp,ht⟩:=Rows.get (rs:=menuRows) M.rows (A9 hi);have ek:(((k%18).toNat:Nat):Int)=k%18:=by omega
  refine⟨_,rfl,_,rfl,_,rfl,_,_,rfl,.inl (SqL.of e),_,_,rfl,rfl,p18,_,_,_,_,rfl,rfl,SqL.of e,?_,q p _ _ M.same ht (menu_ok (A9 hi))⟩;show atI _ (k%18)=_;rw[<-ek];exact zay hp
theorem p3:(0:Int)<3:=by decide
theorem p14:(0:Int)<14:=by decide
theorem p42:(0:Int)<42:=by decide
theorem zhP:(0:Int)<128:=by decide
noncomputable def manyL:List Int:=[2,3,1,2,4,3,1,5,2,0,8,7,6,1]
theorem manyL_at{k:Int}(h0:0<=k)(h1:k<14):∃m:Int,atI (manyL.map V.int) k=some (V.int m)/\0<=m/\m<=8:=by
 refine⟨_,zhM h0 (by show k<14;exact h1),?_⟩;have all:∀x∈manyL,0<=x/\x<=8:=by decide
 refine all _ ?_;have hk:k.toNat<manyL.length:=by show k.toNat<14;omega
 rw[Ai,A9 hk];exact Cu hk
theorem base_at{k:Int}(h0:0<=k)(h1:k<2):∃b:Int,atI [V.int 26,V.int 2] k=some (V.int b)/\(b=26\/b=2):=by
 rcases(by omega:k=0\/k=1) with h|h<;>subst h
 ·exact⟨26,rfl,.inl rfl⟩
 ·exact⟨2,rfl,.inr rfl⟩
noncomputable def bitOf(b:Int)(v:V):Bool:=match v with
 | .int t=>decide (Dr (b / 2 ^ t.toNat) 1=1)
 |_=>false
noncomputable def sp_combs(K:Am):Sp:=fun vs H Q _=>∃(a:A3)(ns:List Int),vs=[.ref a]/\SqL K H a (ns.map V.int)/\∀p ks vs H',Same H H'->H p=none->H' p=some (.lst vs)->Drawn (fun _=>True) H' vs ks->ks.length<=8->Q (.ref p) H'
theorem zfV:FnScope ["_law_script","_law_head","_law_menu_here","_law_many","_law_found","_law_used","_law_k","_law_cell","_law_bits","_law_word_here"] ["_law_script"] (defScope s_combs):=⟨rfl,rfl,rfl,by decide+kernel,rfl,by decide+kernel,by decide+kernel⟩
theorem ok_combs(D:DefAt K mg "_law_combs" s_combs)(T:Bn mg)(C_at:Callee P w K mg base "_law_at" 1 ["_law_script","_law_k"] (sp_at K))(C_mixed:Callee P w K mg base "_law_mixed" 1 ["_law_cell","_law_k"] sp_mixed)(C_word:Callee P w K mg base "_law_word" 1 ["_law_cell","_law_base"] sp_word)
  (C_spare:Callee P w K mg base "_law_spare" 1 ["_law_word_here","_law_used"] (sp_spare K)) (C_menu:Callee P w K mg base "_law_menu" 1 ["_law_k"] sp_menu):Callee P w K mg base "_law_combs" 2 ["_law_script"] (sp_combs K):=by
 refine D.calleeQ zfV (fun _ _ _ _ _ _=>ln1 fun _=>rfl) (fun vs H Q E h=>?_) (fun f cdv A outer s H vs Q E hr h=>?_)
 ·obtain⟨a,ns,rfl,_⟩:=h;rfl
 ·obtain⟨a,ns,rfl,hS,q⟩:=h;have S:=zfV;refine⟨_,zaF (zbg (i:=1) S.nd rfl (Ao rfl) (qe (zaA C_at (hr.mono (by decide)) rfl (zaa (pv 0) (zaa (zad) zae)))))
  (zaF (zbg (i:=2) S.nd rfl (Ao rfl) (qe (zaA C_menu (hr.mono (by decide)) rfl (zaa (zaA C_at (hr.mono (by decide)) rfl (zaa (pv 0) (zaa (zad) zae))) zae))))
  (zaF (zbg (i:=3) S.nd rfl (Ao rfl) (qe_ix zaO (zbo (zag (qe (zad)) (zag (qe (zad)) (zag (qe (zad)) (zag (qe (zad)) (zag (qe (zad)) (zag (qe (zad)) (zag (qe (zad)) (zag (qe (zad)) (zag (qe (zad)) (zag (qe (zad)) (zag (qe (zad)) (zag (qe (zad)) (zag (qe (zad)) (zag (qe (zad)) (zaC)))))))))))))))) (qe (zau za5 (zau zcr (pv 1) (zad)) (zad))) (fun _ _=>rfl)))
  (qss_cut (qs (zaE (zam zcj (zau za5 (pv 1) (zad)) (zad) (zas _))
   (zaf (zak (i:=3) S.nd rfl (Ao rfl) (zai zat rfl T.n_len C3 (zaa (pv 2) zae))))
   (zan)))
  (zaF (zbg (i:=4) S.nd rfl (Ao rfl) (zbo (zaC)))
  (zaF (zbg (i:=5) S.nd rfl (Ao rfl) (zbo (zaC)))
  (zaF (qs (zaY Bf rfl (zbv rfl T.n_range (zaa (pv 3) zae)) (zal (i:=6) S.nd rfl (Ao rfl))
   (zac (zak (i:=7) S.nd rfl (Ao rfl) (zaA C_at (hr.mono (by decide)) rfl (zaa (pv 0) (zaa (zau zbf (zad) (pv 6)) zae))))
   (zcp (zaE (zam zeQ (zau za5 (pv 1) (zad)) (zad) (zas _))
    (zaf (zak (i:=7) S.nd rfl (Ao rfl) (zaA C_mixed (hr.mono (by decide)) rfl (zaa (pv 7) (zaa (pv 6) zae)))))
    (zan))
   (zac (zak (i:=8) S.nd rfl (Ek rfl) (zau zbf (zau zeO (zau za5 (pv 7) (zad)) (zad)) (zad)))
   (zcp (zaE (zam zcj (zau za5 (pv 1) (zad)) (zad) (zas _))
    (zaf (zak (i:=8) S.nd rfl (Ek rfl) (zaB zaN (pv 2) (pv 6) (fun _ _=>rfl))))
    (zan))
   (zac (zak (i:=9) S.nd rfl (Ao rfl) (zaA C_spare (hr.mono (by decide)) rfl (zaa (zaA C_word (hr.mono (by decide)) rfl (zaa (zau zcr (pv 7) (zad)) (zaa (zaB zaO (zaZ (zaa (zad) (zaa (zad) zae))) (zau za5 (zau zcr (pv 1) (zad)) (zad)) (fun _ _=>rfl)) zae))) (zaa (pv 5) zae))))
   (zac (zbd (zdP C7 Cd Cc za1 (pv 5) (zaa (pv 9) zae)))
   (zaf (zbd (zdP C7 Cd Cc za1 (pv 4) (zaa (zaZ (zaa (pv 9) (zaa (za8 (own:=["_law_t"]) (caps:=[(8,"_law_bits")]) rfl ⟨rfl,rfl,rfl,rfl,⟨⟨rfl,rfl,.inl rfl⟩,trivial⟩⟩ (zbv rfl T.n_range (zaa (zad) zae)) (fun _ _ _ _ _ _=>zal (i:=0) (zaS (by decide+kernel)) rfl (Ao rfl)) (fun _ _ _ _ _ _=>zco (zam zcj (zau zhC (zau op_shr (pv 1) (pv 0)) (zad)) (zad) (zas _))) (fun _ _ _ _ _ _=>pv 0)) zae))) zae))))))))))))
  (zfm (zgI (qe (pv 4)))))))))),?_⟩
  refine⟨_,rfl,a,ns,0,rfl,hS,by decide,?_⟩;generalize ns.getD (Int.toNat 0) 0=head;refine⟨_,rfl,a,ns,1,rfl,hS,by decide,_,rfl,fun pm xs H1 s1 em hm=>?_⟩;obtain⟨m,hma,hm0,hm8⟩:=manyL_at (k:=head / 3%14) (Int.emod_nonneg _ (by decide)) (Int.emod_lt_of_pos _ p14);refine⟨bigr rfl,fun b nb=>⟨_,rfl,_,_,rfl,rfl,⟨p3,by decide⟩,_,_,rfl,rfl,p14,_,_,_,_,rfl,rfl,SqL.of zab,hma,?_⟩⟩;have s2:Same H (upd H1 b (.lst (manyL.map V.int))):=s1.put (s1.free nb);have em2:upd H1 b (.lst (manyL.map V.int)) pm=some (.tup (xs.map V.int)):=by rw[zah (zaq em nb)];exact em
  refine⟨fun σ H'=>Same H H'/\H' pm=some (.tup (xs.map V.int))/\∃m:Int,σ=[some (.ref a),some (.int head),some (.ref pm),some (.int m),none,none,none,none,none,none]/\0<=m/\m<=8/\(head%3=2->m=xs.length),?_,?_⟩
  ·refine⟨_,rfl,_,_,rfl,rfl,p3,rfl,_,rfl,?_⟩;refine ite2 (fun hc=>?_) (fun hc=>?_)
   ·refine⟨_,rfl,_,_,rfl,.inr (SqT.of em2),?_⟩;rw[A4];exact⟨s2,em2,_,rfl,by omega,by have:=hm.1.2;omega,fun _=>rfl⟩
   ·have hc:¬head%3=2:=by simpa using hc
    exact⟨s2,em2,_,rfl,hm0,hm8,fun z=>absurd z hc⟩
  clear s2 em2 hma hm0 hm8 nb b m s1 em H1;rintro σ H1⟨s1,em,m,rfl,hm0,hm8,hm2⟩;refine⟨bigr rfl,fun pf nf=>?_⟩;refine⟨bigr rfl,fun pu nu=>?_⟩;have nfu:pf≠pu:=fun z=>by rw[<-z,zab] at nu;cases nu
  have fH:H pf=none:=s1.free nf;have s2:=(s1.put (o:=.lst []) fH);have uH:H pu=none:=s2.free nu;have s3:=s2.put (o:=.lst []) uH;have em3:upd (upd H1 pf (.lst [])) pu (.lst []) pm=some (.tup (xs.map V.int)):=by
   rw[zah (zaq (by rw[zah (zaq em nf)];exact em) nu),zah (zaq em nf)];exact em
  refine⟨_,rfl,_,rfl,by omega,by omega,?_⟩;refine zbz (zaT 0 m.toNat) (fun i σ H'=>Same H H'/\H' pm=some (.tup (xs.map V.int))/\∃(vs:List V)(ks:List (Str×List Int))(x6 x7 x8 x9:Option V),σ=[some (.ref a),some (.int head),some (.ref pm),some (.int m),some (.ref pf),some (.ref pu),x6,x7,x8,x9]/\
   H' pf=some (.lst vs)/\H' pu=some (.lst ((ks.map (·.1)).map V.str))/\Drawn (fun x=>x≠pf/\x≠pu) H' vs ks/\ks.length=i) ⟨s3,em3,[],[],_,_,_,_,rfl,by rw[zah nfu,zab],by rw[zab];rfl,⟨trivial,Df,by simp⟩,rfl⟩ (fun _ _ _ _ _=>trivial) ?_ ?_
  ·rintro i x σ H2 hx⟨s2,em2,vs,ks,x6,x7,x8,x9,rfl,ef,eu,dr,hl⟩;obtain⟨hi,rfl⟩:=zbJ hx;have hi8:i<8:=by omega
   have hS2:=s2.seq hS;refine⟨_,rfl,_,rfl,_,_,rfl,rfl,a,ns,_,rfl,hS2,?_,?_⟩
   ·show(0:Int)<=1+(0+((i:Nat):Int));omega
   generalize ns.getD (1+(0+((i:Nat):Int))).toNat 0=cell0;refine⟨fun σ H'=>H'=H2/\∃(c:Int),σ=[some (.ref a),some (.int head),some (.ref pm),some (.int m),some (.ref pf),some (.ref pu),some (.int (0+((i:Nat):Int))),some (.int c),x8,x9],?_,?_⟩
   ·refine⟨_,rfl,_,_,rfl,rfl,p3,_,_,rfl,rfl,_,rfl,?_⟩;refine ite2 (fun _=>?_) (fun _=>?_)
    ·exact⟨_,rfl,_,rfl,_,_,rfl,rfl,_,rfl⟩
    ·exact⟨rfl,_,rfl⟩
   rintro σ H3⟨rfl,c,rfl⟩;have c0:=Fq c (show(128:Int)≠0 by decide);have c1:=Ey c zhP;refine⟨_,rfl,_,_,rfl,rfl,zhP,_,_,rfl,rfl,.inr ⟨by decide,by decide⟩,_,_,rfl,rfl,?_⟩;refine⟨fun σ H'=>H'=H3/\∃(bt:Int),σ=[some (.ref a),some (.int head),some (.ref pm),some (.int m),some (.ref pf),some (.ref pu),some (.int (0+((i:Nat):Int))),some (.int c),some (.int bt),x9]/\bt%2=1/\0<=bt,?_,?_⟩
   ·refine⟨_,rfl,_,_,rfl,rfl,p3,rfl,_,rfl,?_⟩;refine ite2 (fun hc=>?_) (fun hc=>?_)
    ·have hc:head%3=2:=by simpa using hc
     have hix:i<xs.length:=by have:=hm2 hc;omega
     have hat:atI (xs.map V.int) (0+((i:Nat):Int))=some (V.int xs[i]):=by
      rw[Ex];refine zay ?_;rw[Ad,A9 hix];rfl
     have:=hm.2 xs[i] (Cu hix);exact⟨_,rfl,_,rfl,_,_,_,_,rfl,rfl,SqT.of em2,hat,rfl,_,rfl,this.1,this.2.1⟩
    ·exact⟨rfl,_,rfl,by omega,by omega⟩
   rintro σ H4⟨rfl,bt,rfl,hb1,hb0⟩;obtain⟨bs,hbs,hb2⟩:=base_at (k:=head / 42%2) (Int.emod_nonneg _ (by decide)) (Int.emod_lt_of_pos _ p2);refine⟨_,rfl,_,_,rfl,rfl,⟨zhP,by decide⟩,bigr rfl,fun b nb=>⟨_,rfl,_,_,rfl,rfl,⟨p42,by decide⟩,_,_,rfl,rfl,p2,_,_,_,_,rfl,rfl,SqL.of zab,hbs,_,_,rfl,hb2,fun y hy=>?_⟩⟩;have s4:=s2.put (o:=.lst [V.int 26,V.int 2]) (s2.free nb);have t4:Same H4 (upd H4 b (.lst [V.int 26,V.int 2])):=Same.new nb;have eu4:=t4 _ _ eu;refine⟨_,rfl,y,pu,ks.map (·.1),rfl,hy,SqL.of eu4,by rw[A4];omega,fun z H5 s5 hz hzn=>?_⟩;have s5H:=s4.trans s5;have t5:=t4.trans s5;have eu5:=t5 _ _ eu;have ef5:=t5 _ _ ef;have em5:=t5 _ _ em2;have dr5:=dr.same t5;refine⟨_,rfl,.inl ⟨rfl,_,SqL.of eu5⟩,_,rfl,_,_,_,rfl,rfl,eu5,?_,?_⟩
   ·rw[A4,A4];exact Ah (by omega:ks.length<1000) za0
   have s6:=s5H.put (o:=.lst ((ks.map (·.1)).map V.str++[V.str z])) uH;have dr6:Drawn (fun x=>x≠pf/\x≠pu) (upd H5 pu (.lst ((ks.map (·.1)).map V.str++[V.str z]))) vs ks:=dr5.upd fun z=>z.2 rfl;have em6:upd H5 pu (.lst ((ks.map (·.1)).map V.str++[V.str z])) pm=some (.tup (xs.map V.int)):=by
    rw[zah (fun w=>by rw[w,eu5] at em5;cases em5)];exact em5
   have ef6:upd H5 pu (.lst ((ks.map (·.1)).map V.str++[V.str z])) pf=some (.lst vs):=by rw[zah nfu];exact ef5
   have eu6:upd H5 pu (.lst ((ks.map (·.1)).map V.str++[V.str z])) pu=some (.lst ((ks.map (·.1)).map V.str++[V.str z])):=zab;generalize upd H5 pu (.lst ((ks.map (·.1)).map V.str++[V.str z]))=H6 at s6 dr6 em6 ef6 eu6;refine⟨_,rfl,.inl ⟨rfl,_,SqL.of ef6⟩,_,rfl,_,rfl,by decide,by decide,fun Dc hD=>?_⟩;refine zb1 (capv:=[some (.int bt)]) (by rfl) (zaT 0 (8:Int).toNat) (bigr rfl) hD ?_ (bitOf bt) (fun v=>v) ?_ ?_ ?_
   ·exact fun _ _=>trivial
   ·intro v hv H' R s' h;obtain⟨t,ht,rfl⟩:=A7.mp hv;refine⟨_,rfl,_,rfl,_,_,rfl,rfl,?_,_,_,rfl,rfl,rfl,_,rfl,?_⟩
    ·show(0:Int)<=0+((t:Nat):Int);omega
    rw[zgi];exact h H' (Same.refl _)
   ·intro v hv hp H' R s' h;exact⟨_,rfl,h H' (Same.refl _)⟩
   intro H7 s7 e7;have ets:(((((Af (8:Int).toNat).map fun i=>V.int (0+((i:Nat):Int))).filter (bitOf bt)).map fun v=>v))=(((Af 8).filter fun i=>bitOf bt (.int (0+((i:Nat):Int)))).map fun i=>((i:Nat):Int)).map V.int:=by
    rw[Mf,Gn,Bb];show Ka _ (List.filter _ (Af 8))=_;congr 1;funext i;show V.int (0+((i:Nat):Int))=V.int ((i:Nat):Int);rw[Ex]
   have gt:GT (((Af 8).filter fun i=>bitOf bt (.int (0+((i:Nat):Int)))).map fun i=>((i:Nat):Int)):=by
    refine⟨_,rfl,?_⟩;show decide (Dr (bt / 2 ^ (0+((0:Nat):Int)).toNat) 1=1)=true;rw[bitAnd_m1];apply decide_eq_true;show bt / 1%2=1;rw[Int.ediv_one];exact hb1
   rw[ets] at e7;generalize (((Af 8).filter fun i=>bitOf bt (.int (0+((i:Nat):Int)))).map fun i=>((i:Nat):Int))=ts at e7 gt;refine⟨bigr rfl,fun q' nq=>?_⟩;have t7:Same H6 H7:=s7;have n7:∀{x o},H6 x=some o->x≠Dc:=fun e z=>by rw[z,hD] at e;cases e
   have n8:∀{x o},H7 x=some o->x≠q':=fun e z=>by rw[z,nq] at e;cases e
   have ef8:upd H7 q' (.lst [V.str z,V.ref Dc]) pf=some (.lst vs):=by rw[zah (n8 (t7 _ _ ef6))];exact t7 _ _ ef6
   refine⟨_,_,_,rfl,rfl,ef8,?_,?_⟩
   ·rw[dr6.rows.length];exact Ah (by omega:ks.length<1000) za0
   have s8:=((s6.trans s7).put (o:=.lst [V.str z,V.ref Dc]) ((s6.trans s7).free nq)).put (o:=.lst (vs++[V.ref q'])) fH;have fq:q'≠pf:=(n8 (t7 _ _ ef6)).symm;have uq:q'≠pu:=(n8 (t7 _ _ eu6)).symm;refine⟨s8,?_,vs++[.ref q'],ks++[(z,ts)],_,_,_,_,rfl,zab,?_,?_,by rw[Ag,hl];rfl⟩
   ·have fm:pm≠pf:=fun w=>by rw[w,ef6] at em6;cases em6
    rw[zah fm,zah (n8 (t7 _ _ em6))];exact t7 _ _ em6
   ·rw[zah nfu.symm,zah (n8 (t7 _ _ eu6)),t7 _ _ eu6,B7,B7];rfl
   ·refine Drawn.snoc (q:=q') (t:=Dc) (((dr6.same t7).same (Same.new nq)).upd fun w=>w.1 rfl) ?_ ?_ ⟨fq,uq⟩ ⟨(n7 ef6).symm,(n7 eu6).symm⟩ hzn ⟨hz,gt⟩
    ·rw[zah fq,zab]
    ·rw[zah (n7 ef6).symm,zah (n8 e7)];exact e7
  ·rintro σ H2⟨s2,em2,vs,ks,x6,x7,x8,x9,rfl,ef,eu,dr,hl⟩;rw[A4,Ax] at hl;exact⟨_,rfl,q pf ks vs H2 s2 fH ef dr.any (by omega)⟩
noncomputable def sp_lteeth:Sp:=fun vs H Q _=>∃(k:A3)(x:Str)(ws:List V)(ks:Combs)(ts:List Int)(G:A3->Prop),vs=[.ref k,.str x]/\H k=some (.lst ws)/\Drawn G H ws ks/\cGet ks x=some ts/\∀t,G t->H t=some (.lst (ts.map V.int))->Q (.ref t) H
theorem zfR:FnScope ["_law_kinds","_law_word_here","_law_name","_law_teeth_here"] ["_law_kinds","_law_word_here"] (defScope s_teeth):=⟨rfl,rfl,rfl,by decide+kernel,rfl,by decide+kernel,by decide+kernel⟩
theorem zeR(D:DefAt K mg "_law_teeth" s_teeth)(T:Bn mg):Callee P w K mg base "_law_teeth" 1 ["_law_kinds","_law_word_here"] sp_lteeth:=by
 refine D.callee zfR (fun _ _ _ _ _ _=>ln2 fun _ _=>rfl) (fun vs H Q E h=>?_) (fun f cdv A outer s H vs Q E hr h=>?_)
 ·obtain⟨k,x,ws,ks,ts,G,rfl,_⟩:=h;rfl
 ·obtain⟨k,x,ws,ks,ts,G,rfl,hk,dr,hg,q⟩:=h;have S:=zfR;have hlen:=dr.rows.length;refine⟨_,zac (zaY Bf rfl (zax (pv 0)) (zf0 rfl (zaL (zal (i:=2) S.nd rfl (Ao rfl)) (zaL (zal (i:=3) S.nd rfl (Ao rfl)) (zbM))))
   (zaf (zaE (zam zcj (pv 2) (pv 1) (zas _))
    (zaf (zaj (pv 3)))
    (zan))))
  (zaf (zaj (zaZ (zae)))),?_⟩
  refine⟨_,rfl,_,rfl,⟨_,SqL.of hk⟩,?_⟩;refine zbz (zap K k ws) (fun i σ Hx=>Hx=H/\(∀c∈ks.take i,c.1≠x)/\∃x2 x3,σ=[some (.ref k),some (.str x),x2,x3]) ⟨rfl,by simp,_,_,rfl⟩ (fun i σ Hx _ h=>by rw[h.1];exact SqL.of hk) ?_ ?_
  ·rintro i y σ Hx hx⟨rfl,hno,x2,x3,rfl⟩;obtain⟨c,qa,t,hc,rfl,hq,ht,hgt⟩:=dr.rows.getG hx;refine⟨qa,_,rfl,SqL.of hq,rfl,_,_,rfl,_,_,rfl,rfl,?_⟩;refine⟨_,rfl,_,rfl,rfl,_,rfl,?_⟩;by_cases e:c.1=x
   ·rw[decide_eq_true (by rw[e])];refine iteT ?_;have:=zcs dr.nd (B0 hc);rw[e,hg] at this;refine⟨_,rfl,q t hgt ?_⟩;rw[ht,Bw this]
   ·rw[decide_eq_false (fun z=>e (by injection z))];refine iteF ?_;refine⟨rfl,fun c' hc'=>?_,_,_,rfl⟩;rw[zaz hc] at hc';rcases Al.mp hc' with z|z
    ·exact hno c' z
    ·rw[A6.mp z];exact e
  ·rintro σ Hx⟨rfl,hno,x2,x3,rfl⟩;rw[Im (by omega)] at hno;exact absurd rfl (hno _ (zes hg))
noncomputable def ovV(ks:Combs)(l:List (Nat×Str))(m:Nat):List V:=(Af m).map fun q=>V.int ((cov ks l q:Nat):Int)
noncomputable def sp_covers:Sp:=fun vs H Q _=>∃(k l:A3)(n:Nat)(ws wl:List V)(ks:Combs)(ly:List (Nat×Str)),vs=[.ref k,.ref l,.int (n:Nat)]/\H k=some (.lst ws)/\Drawn (fun _=>True) H ws ks/\H l=some (.lst wl)/\LyR H wl ly/\n<=1000/\Lay ks ly/\Cover ks ly n/\ly.Pairwise (fun x y=>x.1<y.1)/\∀H',Same H H'->Q (.bl true) H'
theorem eqv_nilC{d:Iy}{ds:List Iy}:E3 (.list (d::ds)) (.list [])=false:=by simp[E3,Jm]
theorem shaped_intsC(a:List Int):Fj (.list (a.map Fe))=true:=by
 have h1:Cm (a.map Fe)=true:=by
  induction a with
  |nil=>rfl
  |cons x a ih=>rw[At,Cm,ih];rfl
 have h2:∀a:List Int,Ed (a.map Fe)=0:=by
  intro a
  induction a with
  |nil=>rfl
  |cons x a ih=>rw[At,Ed,ih];rfl
 simp[Fj,Fu,Ib,h1,h2]
theorem rep_oneC(m:Nat)(v:V):(Br m [v]).flatten=Br m v:=by
 induction m with
 |zero=>rfl
 |succ m ih=>rw[E1,Fz,ih,E1];rfl
theorem zeH:FnScope ["_law_kinds","_law_layings_here","_law_length","_law_over","_law_last","_law_place","_law_word_here","_law_teeth_here","_law_t"] ["_law_kinds","_law_layings_here","_law_length"] (defScope s_covers):=⟨rfl,rfl,rfl,by decide+kernel,rfl,by decide+kernel,by decide+kernel⟩
theorem ok_covers(D:DefAt K mg "_law_covers" s_covers)(T:Bn mg)(C_teeth:Callee P w K mg base "_law_teeth" 1 ["_law_kinds","_law_word_here"] sp_lteeth):Callee P w K mg base "_law_covers" 2 ["_law_kinds","_law_layings_here","_law_length"] sp_covers:=by
 refine D.callee zeH (fun _ _ _ _ _ _=>ln3 fun _ _ _=>rfl) (fun vs H Q E h=>?_) (fun f cdv A outer s H vs Q E hr h=>?_)
 ·obtain⟨k,l,n,ws,wl,ks,ly,rfl,_⟩:=h;rfl
 ·obtain⟨k,l,n,ws,wl,ks,ly,rfl,hk,dr,hl,lr,hn,hlay,hcov,hup,q⟩:=h;have S:=zeH;have gc:GC ks:=fun c hc=>(dr.good c hc).2;have hll:=Cr lr;refine⟨_,zac (zak (i:=3) S.nd rfl (Ao rfl) (zau op_rep (zaZ (zaa (zad) zae)) (pv 2)))
  (zac (zak (i:=4) S.nd rfl (Ao rfl) (zhO zgo (zad)))
  (zac (zaY Bf rfl (zax (pv 1)) (zeL rfl (zaL (zal (i:=5) S.nd rfl (Ao rfl)) (zaL (zal (i:=6) S.nd rfl (Ao rfl)) (zbM))))
   (zac (zak (i:=7) S.nd rfl (Ao rfl) (zaA C_teeth (hr.mono (by decide)) rfl (zaa (pv 0) (zaa (pv 6) zae))))
   (zac (zaE (PW.pt (zcT (zam zcV (pv 5) (pv 4) (zas _)) (zc4 (zam (zhB hr.units) (pv 7) (zaZ (zae)) (zas _)))))
    (zaf (zaj (zbn)))
    (zan))
   (zac (zak (i:=4) S.nd rfl (Ao rfl) (pv 5))
   (zaf (zaY Bf rfl (zax (pv 7)) (zal (i:=8) S.nd rfl (Ao rfl))
    (zac (zaE (zam zhQ (zau zbf (pv 5) (pv 8)) (pv 2) (zas _))
     (zaf (zaj (zbn)))
     (zan))
    (zaf (zgN (zau zbf (zaB zaO (pv 3) (zau zbf (pv 5) (pv 8)) (fun _ _=>rfl)) (zad)) (zhy (pv 3) (zau zbf (pv 5) (pv 8)) zfO))))))))))
  (zaf (zaj (zai (zey rfl) rfl T.n_all Rs (zaa (za8 (own:=["_law_many"]) (caps:=[]) rfl ⟨rfl,rfl,rfl,rfl,trivial⟩ (zax (pv 3)) (fun _ _ _ _ _ _=>zal (i:=0) (zaS (by decide+kernel)) rfl (Ao rfl)) (fun _ _ _ _ _ _=>zbu) (fun _ _ _ _ _ _=>zbF zcj (pv 0) (zad) (zas _))) zae)))))),?_⟩
  refine⟨bigr rfl,fun z nz=>⟨_,rfl,_,_,_,rfl,rfl,zab,by omega,by omega,?_,fun po npo=>?_⟩⟩
  ·rw[Bq];exact Bt (by omega:_<=1000) za0
  have s1:Same H (upd (upd H z (.lst [.int 0])) po (.lst (Br ((n:Nat):Int).toNat [V.int 0]).flatten)):=(Same.new nz).trans (Same.new npo);have hpo:upd (upd H z (.lst [.int 0])) po (.lst (Br ((n:Nat):Int).toNat [V.int 0]).flatten) po=some (.lst (ovV ks (ly.take 0) n)):=by
   rw[zab,rep_oneC,show((n:Nat):Int).toNat=n by omega];congr 2;refine(List.eq_replicate_iff.mpr ⟨by unfold ovV;rw[A4,Ax],fun b hb=>?_⟩).symm;obtain⟨p,_,rfl⟩:=A7.mp hb;rfl
  have npo0:H po=none:=(Same.new nz).free npo;generalize upd (upd H z (.lst [.int 0])) po (.lst (Br ((n:Nat):Int).toNat [V.int 0]).flatten)=H1 at s1 hpo⊢;refine⟨_,rfl,?_⟩;refine⟨_,rfl,_,rfl,⟨_,SqL.of (s1 _ _ hl)⟩,?_⟩;refine zbz (zap K l wl) (fun i σ Hx=>Same H Hx/\∃(last:Int)(x5 x6 x7 x8:Option V),σ=[some (.ref k),some (.ref l),some (.int (n:Nat)),some (.ref po),some (.int last),x5,x6,x7,x8]/\Hx po=some (.lst (ovV ks (ly.take i) n))/\∀j x,i<=j->ly[j]?=some x->last<((x.1:Nat):Int)) ⟨s1,-1,_,_,_,_,rfl,hpo,fun j x _ _=>by omega⟩ (fun i σ Hx _ h=>SqL.of (h.1 _ _ hl)) ?_ ?_
  ·rintro i x σ Hx hx⟨sx,last,x5,x6,x7,x8,rfl,hpx,hlast⟩;obtain⟨⟨j,nmj⟩,ej,qa,rfl,hqa⟩:=C5.rev lr hx;have hmem:=B0 ej;have hjn:=hlay _ hmem;have hlt:=hlast i _ (Ab _) ej;dsimp only at hjn hqa hlt;obtain⟨⟨nm',ts⟩,hc,rfl⟩:=A7.mp hjn;have hts:=zcs dr.nd hc;dsimp only at hts hqa ej hmem;have gts:GT ts:=gc _ hc;refine⟨qa,_,rfl,SqT.of (sx _ _ hqa),rfl,_,_,rfl,_,_,rfl,rfl,?_⟩;refine⟨_,rfl,_,rfl,k,_,ws,ks,ts,_,rfl,sx _ _ hk,dr.live.same sx,hts,fun t ht0 ht=>?_⟩;refine⟨_,rfl,_,rfl,_,_,rfl,rfl,_,rfl,?_⟩;rw[decide_eq_false (show¬((j:Nat):Int)<=last by omega)];refine iteF ?_;refine⟨_,rfl,bigr rfl,fun pn npn=>?_⟩;have s7:Same Hx (upd Hx pn (.lst [])):=Same.new npn;refine⟨.list (ts.map Fe),.list [],.lst (SqL.of (s7 _ _ ht)) (VDs.map fun u _=>.int u),.lst (SqL.of zab) .nil,shaped_intsC ts,by decide,_,rfl,?_⟩;have hz:E3 (.list (ts.map Fe)) (.list [])=false:=by
    cases ts with
    |nil=>exact absurd (zcY gts) (by simp)
    |cons u us=>exact eqv_nilC
   rw[if_neg Aa,hz];refine iteF ?_;refine⟨_,rfl,?_⟩;refine⟨_,rfl,_,rfl,⟨_,SqL.of (s7 _ _ ht)⟩,?_⟩;have hpx7:=s7 _ _ hpx;have ht7:=s7 _ _ ht;have sx7:=sx.trans s7;have htp:t≠po:=fun e=>ht0 (by rw[e];exact npo0);generalize upd Hx pn (.lst [])=H7 at hpx7 ht7 sx7;have hin:∀u∈ts,j+u.toNat<n:=fun u hu=>by
    have h0:=(zca gts u hu).1;refine hcov.below gc dr.nd hlay hmem (q:=j+u.toNat) ?_;unfold hit tkOf;dsimp only;rw[hts,decide_eq_true (Ov _ _),Dx,decide_eq_true (show((u.toNat:Nat):Int)∈(some ts).getD [] by rw[show((u.toNat:Nat):Int)=u by omega];exact hu)];rfl
   refine zbz (zap K t (ts.map V.int)) (fun i' σ Hy=>Same H Hy/\Hy t=some (.lst (ts.map V.int))/\∃x8,σ=[some (.ref k),some (.ref l),some (.int (n:Nat)),some (.ref po),some (.int (j:Nat)),some (.int (j:Nat)),some (.str nm'),some (.ref t),x8]/\Hy po=some (.lst ((Af n).map fun p=>V.int (((cov ks (ly.take i) p+((ts.take i').map fun t=>j+t.toNat).count p:Nat)):Int)))) ⟨sx7,ht7,_,rfl,?_⟩ (fun i' σ Hy _ h=>SqL.of h.2.1) ?_ ?_
   ·rw[hpx7];congr 2
   ·rintro i' y σ Hy hy⟨sy,hty,x8,rfl,hpy⟩;rw[Ad] at hy
    cases hu:ts[i']? with
    |none=>rw[hu] at hy;cases hy
    |some u=>
     rw[hu] at hy
     cases hy
     have hub:=zca gts u (B0 hu);have hjn:=hin u (B0 hu);refine⟨_,rfl,_,rfl,_,_,rfl,rfl,_,rfl,_,_,rfl,rfl,_,rfl,?_⟩;rw[decide_eq_false (show¬((n:Nat):Int)<=((j:Nat):Int)+u by omega)];refine iteF ?_;have hix:ixN ((Af n).map fun p=>V.int (((cov ks (ly.take i) p+((ts.take i').map fun t=>j+t.toNat).count p:Nat)):Int)).length (((j:Nat):Int)+u)=some (j+u.toNat):=by
      unfold ixN;rw[A4,Ax,if_pos (by omega),if_pos (by omega)];congr 1;omega
     refine⟨_,rfl,_,rfl,_,rfl,_,_,rfl,rfl,_,_,_,_,rfl,rfl,SqL.of hpy,atI_int (by omega) (v:=V.int (((cov ks (ly.take i) (j+u.toNat)+((ts.take i').map fun t=>j+t.toNat).count (j+u.toNat):Nat)):Int)) ?_,_,_,rfl,rfl,?_⟩
     ·rw[show(((j:Nat):Int)+u).toNat=j+u.toNat by omega,Ad,C6 hjn];rfl
     refine⟨_,rfl,_,rfl,_,rfl,_,_,rfl,rfl,po,_,_,_,rfl,rfl,hpy,hix,?_⟩;refine⟨sy.put npo0,(by rw[zah htp];exact hty),_,rfl,?_⟩;rw[zab,zgX _ _ hjn];congr 2;refine Cg fun p _=>?_;rw[zaz hu,B7,List.count_append];by_cases e:p=j+u.toNat
     ·subst e;rw[if_pos rfl];simp;omega
     ·rw[if_neg e];simp[Dz e]
   ·rintro σ Hy⟨sy,hty,x8,rfl,hpy⟩;rw[A4,By] at hpy;refine⟨sy,_,_,_,_,_,rfl,?_,fun j' x' hj' ej'=>?_⟩
    ·rw[hpy];congr 2;unfold ovV;refine Cg fun p _=>?_;rw[zaz ej,zcg,count_teeth (zaR (zer gts)) (fun t ht=>(zca gts t ht).1)];unfold hit tkOf;dsimp only;rw[hts];by_cases hjp:j<=p
     ·rw[if_pos hjp,decide_eq_true hjp,F6];rfl
     ·rw[if_neg hjp,decide_eq_false hjp,Eo];rfl
    ·rw[D8] at hup;obtain⟨h2a,h2b⟩:=Ar.mp ej;obtain⟨h3a,h3b⟩:=Ar.mp ej';have:=hup i j' h2a h3a (by omega);rw[h2b,h3b] at this;dsimp only at this;omega
  ·rintro σ Hx⟨sx,last,x5,x6,x7,x8,rfl,hpx,_⟩;rw[<-hll,By] at hpx;refine⟨_,rfl,_,rfl,⟨_,SqL.of hpx⟩,fun D hD=>?_⟩;refine zb1 (capv:=[]) (by rfl) (zap K po _) (by unfold ovV;rw[A4,Ax];exact big (by omega)) hD (fun H' s'=>SqL.of (s' _ _ hpx)) (fun _=>true) (fun _=>.bl true) ?_ ?_ ?_
   ·intro x hx H' R s' h;exact h H' (Same.refl _)
   ·intro x hx _ H' R s' h;obtain⟨p,hp,rfl⟩:=A7.mp hx;refine⟨_,rfl,rfl,?_⟩;have e:cov ks ly p=1:=by rw[hcov p,if_pos (Be.mp hp)]
    rw[e];exact h H' (Same.refl _)
   intro H3 s3 e3;refine⟨D,(ovV ks ly n).map fun _=>true,rfl,SqL.of ?_,?_⟩
   ·rw[e3,Ch.mpr (fun _ _=>rfl),Bb];rfl
   rw[Cv.mpr (fun b hb=>by obtain⟨_,_,rfl⟩:=A7.mp hb;rfl)];exact q _ (sx.trans s3)
noncomputable def sp_turned:Sp:=fun vs H Q _=>∃(k:A3)(ws:List V)(ks:Combs),vs=[.ref k]/\H k=some (.lst ws)/\KindsL (fun _=>True) H ws ks/\GC ks/\ks.length<=8/\∀r wr H',Same H H'->H' r=some (.lst wr)->KindsL (fun _=>True) H' wr (turnC ks)->Q (.ref r) H'
theorem zeF:FnScope ["_law_kinds","_law_found","_law_word_here","_law_teeth_here"] ["_law_kinds"] (defScope s_turned):=⟨rfl,rfl,rfl,by decide+kernel,rfl,by decide+kernel,by decide+kernel⟩
theorem ok_turned(D:DefAt K mg "_law_turned" s_turned)(T:Bn mg):Callee P w K mg base "_law_turned" 1 ["_law_kinds"] sp_turned:=by
 refine D.callee zeF (fun _ _ _ _ _ _=>ln1 fun _=>rfl) (fun vs H Q E h=>?_) (fun f cdv A outer s H vs Q E hr h=>?_)
 ·obtain⟨k,ws,ks,rfl,_⟩:=h;rfl
 ·obtain⟨k,ws,ks,rfl,hk,kr,gc,h8,q⟩:=h;have S:=zeF;have hlk:=kr.length;refine⟨_,zac (zak (i:=1) S.nd rfl (Ao rfl) (zaZ (zae)))
  (zac (zaY Bf rfl (zax (pv 0)) (zf0 rfl (zaL (zal (i:=2) S.nd rfl (Ao rfl)) (zaL (zal (i:=3) S.nd rfl (Ek rfl)) (zbM))))
   (zaf (zbd (zdP C7 Cd Cc za1 (pv 1) (zaa (zaZ (zaa (pv 2) (zaa (zai zcb rfl T.n_sorted Il (zaa (za8 (own:=["_law_t"]) (caps:=[(3,"_law_teeth_here")]) rfl ⟨rfl,rfl,rfl,rfl,⟨⟨rfl,rfl,.inl rfl⟩,trivial⟩⟩ (zax (pv 3)) (fun _ _ _ _ _ _=>zal (i:=0) (zaS (by decide+kernel)) rfl (Ao rfl)) (fun _ _ _ _ _ _=>zbu) (fun _ _ _ _ _ _=>zau zdt (zai (call_max1' K rfl rfl) rfl T.n_max Rr (zaa (pv 1) zae)) (pv 0))) zae)) zae))) zae)))))
  (zaf (zaj (pv 1)))),?_⟩
  refine⟨bigr rfl,fun r nr=>?_⟩;have s1:Same H (upd H r (.lst [])):=Same.new nr;refine⟨_,rfl,_,rfl,⟨_,SqL.of (s1 _ _ hk)⟩,?_⟩;refine zbz (zap K k ws) (fun i σ Hx=>Same H Hx/\∃wr x2 x3,σ=[some (.ref k),some (.ref r),x2,x3]/\Hx r=some (.lst wr)/\wr.length=i/\KindsL (fun z=>z≠r) Hx wr (turnC (ks.take i))) ⟨s1,[],_,_,rfl,zab,rfl,trivial⟩ (fun i σ Hx _ h=>SqL.of (h.1 _ _ hk)) ?_ ?_
  ·rintro i x σ Hx hx⟨sx,wr,x2,x3,rfl,hrx,hwl,kx⟩;obtain⟨c,qc,tc,hc,rfl,hqc,htc⟩:=kr.get hx;have gt:=gc c (B0 hc);have hil:i<ks.length:=(Ar.mp hc).1;obtain⟨m1,m2,m3,m4⟩:=zdu gt;have ht8:=zg6 gt;refine⟨qc,_,rfl,SqL.of (sx _ _ hqc),rfl,_,_,rfl,_,_,rfl,rfl,?_⟩;refine⟨_,rfl,.inl ⟨rfl,_,SqL.of hrx⟩,_,rfl,_,rfl,_,rfl,⟨_,SqL.of (sx _ _ htc)⟩,fun D hD=>?_⟩;refine zb1 (capv:=[some (.ref tc)]) (by rfl) (zap K tc (c.2.map V.int)) (by rw[A4];exact big (by omega)) hD (fun H' s'=>SqL.of (s' _ _ (sx _ _ htc))) (fun _=>true) (fun v=>match v with| .int t=>.int (mxT c.2-t)|_=>.non) ?_ ?_ ?_
   ·intro x hx H' R s' h;exact h H' (Same.refl _)
   ·intro x hx _ H' R s' h;obtain⟨t,ht,rfl⟩:=A7.mp hx;refine⟨_,rfl,tc,c.2,rfl,SqL.of (s' _ _ (sx _ _ htc)),Io ht,fun M hM hMx=>⟨_,rfl,_,_,rfl,rfl,?_⟩⟩;have e1:=hMx _ m1;have e2:=m2 _ hM;have:M=mxT c.2:=by omega
    subst this;exact h H' (Same.refl _)
   intro H2 s2 e2;refine⟨D,c.2.map fun t=>mxT c.2-t,rfl,SqL.of ?_,by rw[A4];omega,fun p ns' np pp pw=>?_⟩
   ·rw[e2,Ch.mpr (fun _ _=>rfl),Bb,Bb];rfl
   have et:ns'=turnT c.2:=by
    refine zdj pp pw ?_ fun t ht=>?_
    ·rw[Ir,Bl];exact(zaR (zer gt)).imp fun h e=>h (by omega)
    ·obtain⟨u,hu,rfl⟩:=A7.mp ht;have:=m2 _ hu;have:=zca gt _ hu;omega
   subst et;have s3:Same H2 (upd H2 p (.lst ((turnT c.2).map V.int))):=Same.new np;have hp3:upd H2 p (.lst ((turnT c.2).map V.int)) p=some (.lst ((turnT c.2).map V.int)):=zab;have np2:=s2.free np;have s23:=s2.trans s3;generalize upd H2 p (.lst ((turnT c.2).map V.int))=H3 at s23 hp3⊢;refine⟨bigr rfl,fun e ne=>?_⟩;have s4:Same H3 (upd H3 e (.lst [.str c.1,.ref p])):=Same.new ne;have he4:upd H3 e (.lst [.str c.1,.ref p]) e=some (.lst [.str c.1,.ref p]):=zab;have ne2:=s23.free ne;have hp4:=s4 _ _ hp3;have s24:=s23.trans s4;generalize upd H3 e (.lst [.str c.1,.ref p])=H4 at s24 he4 hp4⊢;have hr4:=s24 _ _ hrx;have hpr:p≠r:=fun z=>by rw[z,hrx] at np2;cases np2
   have her:e≠r:=fun z=>by rw[z,hrx] at ne2;cases ne2
   refine⟨r,_,_,rfl,rfl,hr4,Ah (by omega:wr.length<1000) za0,?_⟩;refine⟨(sx.trans s24).put nr,_,_,_,rfl,zab,by rw[Ag,hwl];rfl,?_⟩;have ek:turnC (ks.take (i+1))=turnC (ks.take i)++[(c.1,turnT c.2)]:=by
    unfold turnC;rw[zaz hc,B7];rfl
   rw[ek];exact KindsL.snoc (G:=fun z=>z≠r) (k:=(c.1,turnT c.2)) (q:=e) (t:=p) (by rw[zah her];exact he4) (by rw[zah hpr];exact hp4) her hpr (kx.mono (fun z o hz ez=>by rw[zah hz];exact s24 _ _ ez) fun _ z=>z)
  ·rintro σ Hx⟨sx,wr,x2,x3,rfl,hrx,_,kx⟩;rw[hlk,By] at kx;exact⟨_,rfl,q r wr Hx sx hrx (kx.mono (fun _ _ _ e=>e) fun _ _=>trivial)⟩
noncomputable def posV(v:V):Bool:=match v with
 | .int t=>decide (0<t)
 |_=>false
noncomputable def decV(v:V):V:=match v with
 | .int t=>.int (t-1)
 |_=>.non
noncomputable def sp_after(K:Am):Sp:=fun vs H Q _=>∃(a t:A3)(ah ts:List Int),vs=[.ref a,.ref t]/\SqT K H a (ah.map V.int)/\H t=some (.lst (ts.map V.int))/\ah.Nodup/\(∀d∈ah,0<=d/\d<=6)/\ts.Nodup/\(∀d∈ts,0<=d/\d<=7)/\
 (if meets ah ts=true then Q .non H else∀p H',Same H H'->H p=none->H' p=some (.tup ((afterOf ah ts).map V.int))->Q (.ref p) H')
theorem zfY:FnScope ["_law_ahead","_law_teeth_here","_law_t"] ["_law_ahead","_law_teeth_here"] (defScope s_after):=⟨rfl,rfl,rfl,by decide+kernel,rfl,by decide+kernel,by decide+kernel⟩
theorem ok_after(D:DefAt K mg "_law_after" s_after)(T:Bn mg):Callee P w K mg base "_law_after" 1 ["_law_ahead","_law_teeth_here"] (sp_after K):=by
 refine D.callee zfY (fun _ _ _ _ _ _=>ln2 fun _ _=>rfl) (fun vs H Q E h=>?_) (fun f cdv A outer s H vs Q E hr h=>?_)
 ·obtain⟨a,t,ah,ts,rfl,_⟩:=h;rfl
 ·obtain⟨a,t,ah,ts,rfl,ha,ht,an,ar,tn,tr,q⟩:=h;have S:=zfY;have hal:ah.length<=8:=zdm an fun d hd=>by have:=ar d hd;omega
  have htl:ts.length<=8:=zdm tn tr;refine⟨_,zac (zaY Bf rfl (zax (pv 1)) (zal (i:=2) S.nd rfl (Ao rfl))
   (zaf (zaE (zam zb8 (pv 2) (pv 0) (by with_unfolding_all rfl))
    (zaf (zaj (zhz)))
    (zan))))
  (zaf (zaj (zbe zcN rfl T.n_tuple Ku (zaa (za8 (own:=["_law_d"]) (caps:=[]) rfl ⟨rfl,rfl,rfl,rfl,trivial⟩ (zax (zai zcb rfl T.n_sorted Il (zaa (zau zb0 (zbe zcc rfl T.n_list K8 (zaa (pv 0) zae)) (pv 1)) zae))) (fun _ _ _ _ _ _=>zal (i:=0) (zaS (by decide+kernel)) rfl (Ao rfl)) (fun _ _ _ _ _ _=>zco (zam zeQ (pv 0) (zad) (zas _))) (fun _ _ _ _ _ _=>zau zdt (pv 0) (zad))) zae)))),?_⟩
  refine⟨_,rfl,_,rfl,⟨_,SqL.of ht⟩,?_⟩;refine zbz (zap K t (ts.map V.int)) (fun i σ Hx=>Hx=H/\meets ah (ts.take i)=false/\∃x2,σ=[some (.ref a),some (.ref t),x2]) ⟨rfl,rfl,_,rfl⟩ (fun i σ Hx _ h=>by rw[h.1];exact SqL.of ht) ?_ ?_
  ·rintro i x σ Hx hx⟨rfl,hm,x2,rfl⟩;rw[Ad] at hx
   cases hk:ts[i]? with
   |none=>rw[hk] at hx;cases hx
   |some y=>
    rw[hk] at hx
    cases hx
    refine⟨_,rfl,_,rfl,_,_,rfl,.inr ha,rfl,zhr ah,_,rfl,?_⟩;rw[if_neg (by decide),zfu];refine ite2 (fun hc=>?_) (fun hc=>?_)
    ·have hc:y∈ah:=by simpa using hc
     have:meets ah ts=true:=by
      unfold meets;exact Bp.mpr ⟨y,B0 hk,decide_eq_true hc⟩
     rw[if_pos this] at q;exact q
    ·have hc:y∉ah:=by simpa using hc
     refine⟨rfl,?_,_,rfl⟩;rw[zaz hk];rw[meets_false] at hm⊢;intro z hz;rcases Al.mp hz with h|h
     ·exact hm z h
     ·rw[A6.mp h];exact hc
  ·rintro σ Hx⟨rfl,hm,x2,rfl⟩;rw[A4,By] at hm;rw[if_neg (by rw[hm];decide)] at q;refine⟨_,rfl,a,_,rfl,.inr ha,fun p np=>⟨_,rfl,p,t,_,ts.map V.int,rfl,rfl,zab,?_,?_,fun p2 np2=>?_⟩⟩
   ·rw[zah (zaq ht np)];exact ht
   ·rw[A4,A4];exact G9 (Ah (by omega:ah.length+ts.length<1000) za0)
   refine⟨p2,ah++ts,rfl,SqL.of (by rw[B7];exact zab),by rw[Ag];omega,fun p3 ns np3 hp hs=>?_⟩;have hc:=after_canon an ar tn tr hm hp hs;have s1:Same Hx (upd Hx p (.lst (ah.map V.int))):=Same.new np;have s2:=s1.trans (Same.new (o:=.lst (ah.map V.int++ts.map V.int)) np2);have s3:=s2.trans (Same.new (o:=.lst (ns.map V.int)) np3);refine⟨_,rfl,⟨_,SqL.of zab⟩,fun Dc hD=>?_⟩;have hnl:ns.length<=1000:=by
    have:=hp.length_eq;rw[Ag] at this;omega
   refine zb1 (capv:=[]) (L:=ns.map V.int) (by rfl) (zap K p3 (ns.map V.int)) (by rw[A4];exact big hnl) hD (fun H' s'=>SqL.of (s' _ _ zab)) posV decV ?_ ?_ ?_
   ·intro v hv H' R s' h;obtain⟨d,hd,rfl⟩:=A7.mp hv;exact⟨_,rfl,_,_,rfl,rfl,_,rfl,h H' (Same.refl _)⟩
   ·intro v hv _ H' R s' h;obtain⟨d,hd,rfl⟩:=A7.mp hv;exact⟨_,rfl,_,_,rfl,rfl,h H' (Same.refl _)⟩
   ·intro H7 s7 e7;have ets:(((ns.map V.int).filter posV).map decV)=(afterOf ah ts).map V.int:=by
     unfold afterOf;rw[<-hc,Gn,Bb,Bb];rfl
    rw[ets] at e7;have s07:=s3.trans s7;exact⟨_,_,rfl,.inl ⟨SqL.of e7,fun l nl=>q l _ (s07.put (s07.free nl)) (s07.free nl) zab⟩⟩
noncomputable def sp_goes(K:Am):Sp:=fun vs H Q _=>∃(k a:A3)(ws:List V)(ks:Combs)(ah:List Int),vs=[.ref k,.ref a]/\H k=some (.lst ws)/\KindsL (fun _=>True) H ws ks/\ks.length<=100/\(∀c∈ks,GT c.2)/\SqT K H a (ah.map V.int)/\ah.Nodup/\(∀d∈ah,0<=d/\d<=6)/\
 ∀p H' vs',Same H H'->H p=none->H' p=some (.lst vs')->GoesR H' vs' (goesOf ks ah)->Q (.ref p) H'
theorem zgC:FnScope ["_law_kinds","_law_ahead","_law_found","_law_word_here","_law_teeth_here","_law_further"] ["_law_kinds","_law_ahead"] (defScope s_goes):=⟨rfl,rfl,rfl,by decide+kernel,rfl,by decide+kernel,by decide+kernel⟩
theorem ok_goes(D:DefAt K mg "_law_goes" s_goes)(T:Bn mg)(C_after:Callee P w K mg base "_law_after" 1 ["_law_ahead","_law_teeth_here"] (sp_after K)):Callee P w K mg base "_law_goes" 2 ["_law_kinds","_law_ahead"] (sp_goes K):=by
 refine D.callee zgC (fun _ _ _ _ _ _=>ln2 fun _ _=>rfl) (fun vs H Q E h=>?_) (fun f cdv A outer s H vs Q E hr h=>?_)
 ·obtain⟨k,a,ws,ks,ah,rfl,_⟩:=h;rfl
 ·obtain⟨k,a,ws,ks,ah,rfl,hk,kr,hkl,hg,ha,an,ar,q⟩:=h;have S:=zgC;have hlen:=kr.length;refine⟨_,zac (zaE (zam zb8 (zad) (pv 1) (by with_unfolding_all rfl))
   (zaf (zaj (zaZ (zaa (zbi (zaa (zaw) (zaa (zaA C_after (hr.mono (by decide)) rfl (zaa (pv 1) (zaa (zaZ (zae)) zae))) zae))) zae))))
   (zan))
  (zac (zak (i:=2) S.nd rfl (Ao rfl) (zaZ (zae)))
  (zac (zaY Bf rfl (zax (pv 0)) (zf0 rfl (zaL (zal (i:=3) S.nd rfl (Ao rfl)) (zaL (zal (i:=4) S.nd rfl (Ao rfl)) (zbM))))
   (zac (zak (i:=5) S.nd rfl (Ao rfl) (zaA C_after (hr.mono (by decide)) rfl (zaa (pv 1) (zaa (pv 4) zae))))
   (zaf (zaE (zam op_notN (pv 5) (zhz) (zas _))
    (zaf (zbd (zdP C7 Cd Cc za1 (pv 2) (zaa (zbi (zaa (pv 3) (zaa (pv 5) zae))) zae))))
    (zan)))))
  (zaf (zaj (pv 2))))),?_⟩
  refine⟨_,rfl,_,_,rfl,.inr ha,rfl,zhr ah,_,rfl,?_⟩;rw[if_neg (by decide),zfu];refine ite2 (fun hc=>?_) (fun hc=>?_)
  ·have hc:(0:Int)∈ah:=by simpa using hc
   refine⟨_,rfl,bigr rfl,fun p0 np0=>⟨a,p0,ah,[],rfl,(Same.new np0).tup ha,zab,an,ar,Df,by simp,?_⟩⟩;rw[if_neg (show¬meets ah []=true from Aa)];intro p1 H1 s1 n1 e1;refine⟨bigr rfl,fun p2 np2=>⟨bigr rfl,fun p3 np3=>?_⟩⟩;have s01:Same H H1:=(Same.new np0).trans s1;have s2:=s01.trans (Same.new (o:=.tup [.str "",.ref p1]) np2);refine q p3 _ [.ref p2] (s2.trans (Same.new np3)) (s2.free np3) zab ?_;rw[goes_in hc];have e2:upd H1 p2 (.tup [.str "",.ref p1]) p2=some (.tup [.str "",.ref p1]):=zab;have e1':upd H1 p2 (.tup [.str "",.ref p1]) p1=some (.tup ((afterOf ah []).map V.int)):=by rw[zah (zaq e1 np2)];exact e1
   refine⟨⟨p2,p1,rfl,?_,?_⟩,trivial⟩
   ·rw[zah (zaq e2 np3)];exact e2
   ·rw[zah (zaq e1' np3)];exact e1'
  ·have hc:(0:Int)∉ah:=by simpa using hc
   refine⟨bigr rfl,fun pf npf=>?_⟩;have s1:Same H (upd H pf (.lst [])):=Same.new npf;refine⟨_,rfl,_,rfl,⟨_,SqL.of (s1 _ _ hk)⟩,?_⟩;refine zbz (zap K k ws) (fun i σ Hx=>Same H Hx/\∃vs x3 x4 x5,σ=[some (.ref k),some (.ref a),some (.ref pf),x3,x4,x5]/\Hx pf=some (.lst vs)/\vs.length<=i/\GoesR Hx vs (goesOf (ks.take i) ah)) ⟨s1,[],_,_,_,rfl,zab,Ab _,?_⟩ (fun i σ Hx _ h=>SqL.of (h.1 _ _ hk)) ?_ ?_
   ·rw[P4,goes_nil hc];trivial
   ·rintro i x σ Hx hx⟨sx,vs,x3,x4,x5,rfl,hpf,hvl,hgr⟩;obtain⟨c,qa,t,hkc,rfl,hq,ht⟩:=(kr.same sx).get hx;have hi:i<ks.length:=(Ar.mp hkc).1;have gc:=hg c (B0 hkc);refine⟨qa,_,rfl,SqL.of hq,rfl,_,_,rfl,_,_,rfl,rfl,?_⟩;refine⟨_,rfl,_,rfl,a,t,ah,c.2,rfl,sx.tup ha,ht,an,ar,zaR (zer gc),zca gc,?_⟩;by_cases hm:meets ah c.2=true
    ·rw[if_pos hm];refine⟨_,rfl,rfl,_,rfl,iteF ?_⟩;refine⟨sx,vs,_,_,_,rfl,hpf,by omega,?_⟩;rw[zaz hkc,zeY hc,if_pos hm,C1];exact hgr
    ·rw[if_neg hm];intro p1 H1 s1' n1 e1;refine⟨_,rfl,rfl,_,rfl,iteT ?_⟩;have sx1:=s1';refine⟨_,rfl,.inl ⟨rfl,_,SqL.of (s1' _ _ hpf)⟩,_,rfl,_,rfl,bigr rfl,fun p2 np2=>?_⟩;have s2:Same Hx (upd H1 p2 (.tup [.str c.1,.ref p1])):=s1'.trans (Same.new np2);have e2:upd H1 p2 (.tup [.str c.1,.ref p1]) p2=some (.tup [.str c.1,.ref p1]):=zab;have e1':upd H1 p2 (.tup [.str c.1,.ref p1]) p1=some (.tup ((afterOf ah c.2).map V.int)):=by rw[zah (zaq e1 np2)];exact e1
     have hpf2:=s2 _ _ hpf;refine⟨pf,_,_,rfl,rfl,hpf2,Ah (by omega:vs.length<1000) za0,?_⟩;have tn:∀q' xs,upd H1 p2 (.tup [.str c.1,.ref p1]) q'=some (.tup xs)->upd (upd H1 p2 (.tup [.str c.1,.ref p1])) pf (.lst (vs++[.ref p2])) q'=some (.tup xs):=fun q' xs h=>by
      have:q'≠pf:=fun z=>by rw[z,hpf2] at h;cases h
      rw[zah this];exact h
     refine⟨(sx.trans s2).put npf,_,_,_,_,rfl,zab,(by rw[Ag,Bq];omega),?_⟩;rw[zaz hkc,zeY hc,if_neg hm];exact GoesR.snoc (s:=(c.1,afterOf ah c.2)) (tn _ _ e2) (tn _ _ e1') (hgr.mono fun q' xs h=>tn _ _ (s2 _ _ h))
   ·rintro σ Hx⟨sx,vs,x3,x4,x5,rfl,hpf,hvl,hgr⟩;rw[hlen,By] at hgr;exact⟨_,rfl,q pf Hx vs sx npf hpf hgr⟩
theorem zeZ{ks:Combs}(h8:ks.length<=8)(s:Nat)(hs:s<128)(g:GC ks):(goesOf ks (aheadOf (s:Int))).length<=8:=by
 rw[<-A4 (f:=fun p:Str×List Int=>(p.1,worth p.2)),zbs hs g];exact zee h8 s
noncomputable def LeftR(H:Hp)(ws:List V)(ls:List Nat):Prop:=C5 (fun(s:Nat)(v:V)=>s<128/\∃q,v= .ref q/\H q=some (.tup ((aheadOf (s:Int)).map V.int))) ls ws
theorem LeftR.mono{H H':Hp}{ws:List V}{ls:List Nat}(r:LeftR H ws ls)(m:∀q xs,H q=some (.tup xs)->H' q=some (.tup xs)):LeftR H' ws ls:=C5.mapP r fun _ _⟨a,q,b,c⟩=>⟨a,q,b,m _ _ c⟩
noncomputable def intTup(ns:List Int):Iy:=.tuple (ns.map Fe)
theorem LeftR.vd{K:Am}{H:Hp}{ws:List V}{ls:List Nat}(r:LeftR H ws ls):VDs K H ws (ls.map fun(s:Nat)=>intTup (aheadOf (s:Int))):=by
 induction r with
 |nil=>exact .nil
 |cons h _ ih=>
  obtain⟨_,q,rfl,e⟩:=h;exact .cons (.tup (SqT.of e) (VDs.map fun u _=>.int u)) ih
theorem shaped_tups(ls:List (List Int)):Fj (.list (ls.map intTup))=true:=by
 have h0:∀a:List Int,Cm (a.map Fe)=true/\Ed (a.map Fe)=0:=by
  intro a
  induction a with
  |nil=>exact⟨rfl,rfl⟩
  |cons x a ih=>rw[At,Cm,Ed,ih.1,ih.2];exact⟨rfl,rfl⟩
 have h1:∀ls:List (List Int),Cm (ls.map intTup)=true/\Ed (ls.map intTup)<=1:=by
  intro ls
  induction ls with
  |nil=>exact⟨rfl,Bs _⟩
  |cons x ls ih=>
   rw[At,Cm,Ed];unfold intTup;refine⟨?_,?_⟩
   ·rw[show Cm (Ka (fun ns:List Int=>PyData.tuple (ns.map Fe)) ls)=true from ih.1];simp[Fu,(h0 x).1]
   ·have:=ih.2;unfold intTup at this;simp only[Ib,(h0 x).2];omega
 have:=h1 ls;have h2:Ib (.list (ls.map intTup))<=64:=by
  rw[Ib];omega
 have h3:Fu (.list (ls.map intTup))=true:=by
  simp[Fu,this.1]
 unfold Fj;rw[h3,decide_eq_true h2];rfl
noncomputable def sp_graph:Sp:=fun vs H Q _=>∃(k b:A3)(ws:List V)(ks:Combs)(s0:Nat),vs=[.ref k,.ref b]/\H k=some (.lst ws)/\KindsL (fun _=>True) H ws ks/\ks.length<=8/\GC ks/\s0<128/\H b=some (.tup ((aheadOf (s0:Int)).map V.int))/\∀p kvs L H',Same H H'->H p=none->H' p=some (.dT kvs)->GrL H' kvs ks L->L.Nodup->ClsS ks L->s0∈L->Q (.ref p) H'
theorem zfU:FnScope ["_law_kinds","_law_begin","_law_graph_here","_law_left","_law_ahead","_law_word_here","_law_further"] ["_law_kinds","_law_begin"] (defScope s_graph):=⟨rfl,rfl,rfl,by decide+kernel,rfl,by decide+kernel,by decide+kernel⟩
theorem ok_graph(D:DefAt K mg "_law_graph" s_graph)(T:Bn mg)(C_goes:Callee P w K mg base "_law_goes" 2 ["_law_kinds","_law_ahead"] (sp_goes K)):Callee P w K mg base "_law_graph" 3 ["_law_kinds","_law_begin"] sp_graph:=by
 refine D.callee zfU (fun _ _ _ _ _ _=>ln2 fun _ _=>rfl) (fun vs H Q E h=>?_) (fun f cdv A outer s H vs Q E hr h=>?_)
 ·obtain⟨k,b,ws,ks,s0,rfl,_⟩:=h;rfl
 ·obtain⟨k,b,ws,ks,s0,rfl,hk,kr,h8,gc,hs0,hb,q⟩:=h;have S:=zfU;have hu:=zcv hr;refine⟨_,zac (zak (i:=2) S.nd rfl (Ao rfl) (zek))
  (zac (zak (i:=3) S.nd rfl (Ao rfl) (zaZ (zaa (pv 1) zae)))
  (zac (zcK Bf (zam (op_neD hr.units) (pv 3) (zaZ (zae)) (zas _))
   (zac (zak (i:=4) S.nd rfl (Ao rfl) (pe_bm0 C7 PySem.F.slot_list_pop PySem.F.type_list_pop mt_pop (pv 3)))
   (zaf (zaE (zd3 (zds hu (pv 4) (pv 2)))
    (zac (zcq hu (pv 2) (pv 4) (zaA C_goes (hr.mono (by decide)) rfl (zaa (pv 0) (zaa (pv 4) zae))) rfl)
    (zaf (zaY Bf rfl (zax (zcU hu (pv 2) (pv 4) (fun _ _=>rfl))) (zeL rfl (zaL (zal (i:=5) S.nd rfl (Ao rfl)) (zaL (zal (i:=6) S.nd rfl (Ao rfl)) (zbM))))
     (zaf (zbd (zdP C7 Cd Cc za1 (pv 3) (zaa (pv 6) zae)))))))
    (zan)))))
  (zaf (zaj (pv 2))))),?_⟩
  refine fun g ng=>⟨_,rfl,bigr rfl,fun l nl=>?_⟩;have s1:Same H (upd H g (.dT [])):=Same.new ng;have nl0:H l=none:=s1.free nl;have hgl:g≠l:=fun z=>by rw[<-z,zab] at nl;cases nl
  have s2:Same H (upd (upd H g (.dT [])) l (.lst [.ref b])):=s1.trans (Same.new nl);refine⟨fun m σ Hx=>∃kvs L wl ls x4 x5 x6,σ=[some (.ref k),some (.ref b),some (.ref g),some (.ref l),x4,x5,x6]/\Same H Hx/\Hx g=some (.dT kvs)/\Hx l=some (.lst wl)/\LeftR Hx wl ls/\GrL Hx kvs ks L/\(∀kv∈kvs,kv.2≠.ref l)/\L.Nodup/\(∀s∈L,s<128)/\(∀s∈L,∀p∈stp ks s,p.2.toNat∈L\/p.2.toNat∈ls)/\(s0∈L\/s0∈ls)/\ls.length<=2000-9*(128-L.length)/\m=9*(128-L.length)+ls.length,⟨_,[],[],[.ref b],[s0],_,_,_,rfl,s2,(by rw[zah hgl];exact zab),zab,.cons ⟨hs0,b,rfl,s2 _ _ hb⟩ .nil,.nil,nofun,Df,nofun,nofun,.inr (by simp),(show 1<=2000-9*(128-0) by decide),rfl⟩,?_⟩;rintro m σ Hx⟨kvs,L,wl,ls,x4,x5,x6,rfl,sx,hg,hl,lr,gr,hkl,nd,lt,cl,h0,hlb,rfl⟩;have hL128:L.length<=128:=zav 128 L nd lt;refine⟨_,rfl,bigr rfl,fun e ne=>?_⟩;have se:Same Hx (upd Hx e (.lst [])):=Same.new ne;refine⟨_,_,.lst (SqL.of (se _ _ hl)) (lr.mono fun _ _ z=>se _ _ z).vd,.lst (SqL.of zab) .nil,?_,by decide,_,rfl,?_⟩
  ·have:=shaped_tups (ls.map fun(s:Nat)=>aheadOf (s:Int));rwa[Bb] at this
  have hll:=Cr lr
  cases hls:ls with
  |nil=>
   subst hls;rw[if_pos rfl,show E3 (.list (Ka (fun s:Nat=>intTup (aheadOf (s:Int))) [])) (.list [])=true by decide];refine iteF ?_;refine⟨_,rfl,q g kvs L _ (sx.trans se) ng (se _ _ hg) (gr.same se) nd ⟨lt,fun s hs p hp=>(cl s hs p hp).resolve_right (by simp)⟩ (h0.resolve_right (by simp))⟩
  |cons t0 ts0=>
   have hlpos:0<ls.length:=by rw[hls];simp
   rw[<-hls];rw[if_pos rfl,show E3 (.list (ls.map fun s:Nat=>intTup (aheadOf (s:Int)))) (.list [])=false by rw[hls];simp[E3,Jm]];refine iteT ?_;have hg:=se _ _ hg;have hl:=se _ _ hl;have lr:LeftR (upd Hx e (.lst [])) wl ls:=lr.mono fun _ _ z=>se _ _ z;have gr:=gr.same se;have sx:=sx.trans se;generalize upd Hx e (.lst [])=Hy at hg hl lr gr sx;clear se ne;refine⟨fun σ' H'=>∃m',m'<9*(128-L.length)+ls.length/\∃kvs L wl ls x4 x5 x6,σ'=[some (.ref k),some (.ref b),some (.ref g),some (.ref l),x4,x5,x6]/\Same H H'/\H' g=some (.dT kvs)/\H' l=some (.lst wl)/\LeftR H' wl ls/\GrL H' kvs ks L/\(∀kv∈kvs,kv.2≠.ref l)/\L.Nodup/\(∀s∈L,s<128)/\(∀s∈L,∀p∈stp ks s,p.2.toNat∈L\/p.2.toNat∈ls)/\(s0∈L\/s0∈ls)/\ls.length<=2000-9*(128-L.length)/\m'=9*(128-L.length)+ls.length,fun _ _ h=>h,?_⟩;obtain⟨v,ev,t128,qt,rfl,hqt⟩:=C5.at lr (A9 (show ls.length-1<ls.length by omega));have els:ls=ls.dropLast++[ls[ls.length-1]'(by omega)]:=by
    have hne:ls≠[]:=fun z=>by rw[z] at hlpos;simp at hlpos
    have:=(L6 hne).symm;rwa[M8] at this
   generalize ls[ls.length-1]'(by omega)=t at ev t128 hqt els;refine⟨_,rfl,.inl ⟨rfl,_,SqL.of hl⟩,l,wl,.ref qt,rfl,rfl,hl,(by rw[<-hll];exact ev),?_⟩;have ldl:ls.dropLast.length=ls.length-1:=N8;have lr1:LeftR (upd Hy l (.lst wl.dropLast)) wl.dropLast ls.dropLast:=by
    have h1:LeftR Hy wl.dropLast ls.dropLast:=by
     have:∀{a:List Nat}{c:List V},LeftR Hy c a->LeftR Hy c.dropLast a.dropLast:=by
      intro a c r
      induction r with
      |nil=>exact .nil
      |cons h r' ih=>
       cases r' with
       |nil=>exact .nil
       |cons h2 r2=>exact .cons h ih
     exact this lr
    exact h1.mono fun qa xs z=>by rw[zah (fun z2=>by rw[z2,hl] at z;cases z)];exact z
   have gr1:GrL (upd Hy l (.lst wl.dropLast)) kvs ks L:=gr.mono (fun kv hkv qa vs z z2=>by rw[zah (fun z3=>hkl kv hkv (by rw[z,z3]))];exact z2) fun qa xs z=>by rw[zah (fun z2=>by rw[z2,hl] at z;cases z)];exact z
   have hg1:upd Hy l (.lst wl.dropLast) g=some (.dT kvs):=by rw[zah hgl];exact hg
   have hl1:upd Hy l (.lst wl.dropLast) l=some (.lst wl.dropLast):=zab;have hqt1:upd Hy l (.lst wl.dropLast) qt=some (.tup ((akey t).map kV)):=by
    rw[zah (fun z2=>by rw[z2,hl] at hqt;cases hqt)];unfold akey;rw[kI_V];exact hqt
   have sx1:Same H (upd Hy l (.lst wl.dropLast)):=sx.put nl0;generalize upd Hy l (.lst wl.dropLast)=H1 at lr1 gr1 hg1 hl1 hqt1 sx1;clear lr gr hg hl hqt sx;refine⟨_,rfl,_,rfl,g,_,rfl,DGet.t hg1 hqt1,_,rfl,?_⟩;have hh:=gr1.has lt t128;by_cases hin:t∈L
   ·have hh2:(valV kvs (akey t)).isSome=true:=by rw[hh];exact decide_eq_true hin
    obtain⟨vv,hvv⟩:=Db.mp hh2;rw[hvv];refine iteF ?_;refine⟨_,?_,kvs,L,wl.dropLast,ls.dropLast,_,_,_,rfl,sx1,hg1,hl1,lr1,gr1,hkl,nd,lt,fun s hs p hp=>?_,?_,by omega,rfl⟩
    ·omega
    ·rcases cl s hs p hp with z|z
     ·exact .inl z
     ·rw[els] at z;rcases Al.mp z with z|z
      ·exact .inr z
      ·rw[A6.mp z];exact .inl hin
    ·rcases h0 with z|z
     ·exact .inl z
     ·rw[els] at z;rcases Al.mp z with z|z
      ·exact .inr z
      ·rw[A6.mp z];exact .inl hin
   ·have hno:valV kvs (akey t)=none:=by
     cases ez:valV kvs (akey t) with
     |none=>rfl
     |some v=>rw[ez] at hh;exact absurd (of_decide_eq_true hh.symm) hin
    rw[hno];refine iteT ?_;have hqi:H1 qt=some (.tup ((aheadOf (t:Int)).map V.int)):=by
     have:=hqt1;unfold akey at this;rwa[kI_V] at this
    refine⟨_,rfl,_,rfl,k,qt,ws,ks,aheadOf (t:Int),rfl,sx1 _ _ hk,kr.same sx1,by omega,gc,SqT.of hqi,zcA _,zbE,fun pv H2 vs' s2 npv hpv gv=>?_⟩;have nd1:(L++[t]).Nodup:=Cz.mpr ⟨nd,by simp,fun u hu v hv e=>by rw[A6.mp hv] at e;exact hin (e▸hu)⟩;have lt1:∀s∈L++[t],s<128:=fun s hs=>(Al.mp hs).elim (lt s) fun z=>by rw[A6.mp z];exact t128
    have hL1:(L++[t]).length<=128:=zav 128 _ nd1 lt1;rw[Ag,Bq] at hL1;have hkl2:=gr1.len;refine⟨_,rfl,_,rfl,g,_,rfl,DPut.t (k:=akey t) (s2 _ _ hg1) (s2 _ _ hqt1) (Ah (by omega:kvs.length<1000) za0),?_⟩;rw[zc9 _ hno];have hg2:=s2 _ _ hg1;have keep:∀qa o,(∃xs,o=HO.lst xs)\/(∃xs,o=HO.tup xs)->H2 qa=some o->upd H2 g (.dT (kvs++[(akey t,.ref pv)])) qa=some o:=fun qa o ho ea=>by
     rw[zah (fun z=>by rw[z,hg2] at ea;cases ea;rcases ho with⟨_,h⟩|⟨_,h⟩<;>cases h)];exact ea
    have hpl:pv≠l:=fun z=>by rw[z,hl1] at npv;cases npv
    have gr3:GrL (upd H2 g (.dT (kvs++[(akey t,.ref pv)]))) (kvs++[(akey t,.ref pv)]) ks (L++[t]):=
     ((gr1.same s2).mono (fun _ _ qa vs _ e=>keep _ _ (.inl ⟨_,rfl⟩) e) fun qa xs e=>keep _ _ (.inr ⟨_,rfl⟩) e).snoc (keep _ _ (.inl ⟨_,rfl⟩) hpv) (gv.mono fun qa xs e=>keep _ _ (.inr ⟨_,rfl⟩) e)
    have gv3:GoesR (upd H2 g (.dT (kvs++[(akey t,.ref pv)]))) vs' (goesOf ks (aheadOf (t:Int))):=gv.mono fun qa xs e=>keep _ _ (.inr ⟨_,rfl⟩) e;have lr3:=(lr1.mono fun _ _ z=>s2 _ _ z).mono fun qa xs e=>keep _ _ (.inr ⟨_,rfl⟩) e;have hl3:=keep _ _ (.inl ⟨_,rfl⟩) (s2 _ _ hl1);have hpv3:=keep _ _ (.inl ⟨_,rfl⟩) hpv;have hqt3:=keep _ _ (.inr ⟨_,rfl⟩) (s2 _ _ hqt1);have hg3:upd H2 g (.dT (kvs++[(akey t,.ref pv)])) g=some (.dT (kvs++[(akey t,.ref pv)])):=zab;have sx3:Same H (upd H2 g (.dT (kvs++[(akey t,.ref pv)]))):=(sx1.trans s2).put ng;generalize upd H2 g (.dT (kvs++[(akey t,.ref pv)]))=H3 at gr3 gv3 lr3 hl3 hpv3 hqt3 hg3 sx3;have hkl3:∀kv∈kvs++[(akey t,V.ref pv)],kv.2≠.ref l:=fun kv hkv=>by
     rcases Al.mp hkv with z|z
     ·exact hkl kv z
     ·rw[A6.mp z];exact fun z=>hpl (by injection z)
    have dg:DGet H3 g (.ref qt) (some (.ref pv)):=by
     have:valV (kvs++[(akey t,V.ref pv)]) (akey t)=some (.ref pv):=by
      rw[<-zc9 _ hno,valV_put,if_pos rfl]
     rw[<-this];exact DGet.t hg3 hqt3
    refine⟨_,rfl,_,rfl,_,_,rfl,dg,_,rfl,⟨_,SqL.of hpv3⟩,?_⟩;have hgl8:=zeZ h8 t t128 gc;have hvl:=gv3.length;refine zbz (zap K pv vs') (fun i σ Hz=>Same H Hz/\∃wl' x5 x6,σ=[some (.ref k),some (.ref b),some (.ref g),some (.ref l),some (.ref qt),x5,x6]/\Hz g=some (.dT (kvs++[(akey t,.ref pv)]))/\Hz l=some (.lst wl')/\Hz pv=some (.lst vs')/\LeftR Hz wl' (ls.dropLast++((goesOf ks (aheadOf (t:Int))).take i).map fun p=>(worth p.2).toNat)/\GrL Hz (kvs++[(akey t,.ref pv)]) ks (L++[t])/\GoesR Hz vs' (goesOf ks (aheadOf (t:Int)))) ⟨sx3,wl.dropLast,_,_,rfl,hg3,hl3,hpv3,(by simpa using lr3),gr3,gv3⟩ (fun i σ Hz _ h=>by obtain⟨_,_,_,_,_,_,_,h,_⟩:=h;exact SqL.of h) ?_ ?_
    ·rintro i x σ Hz hx⟨sz,wl',x5,x6,rfl,hgz,hlz,hpz,lz,grz,gvz⟩;obtain⟨q1,t1,rfl,e2,e3,hlt⟩:=gvz.nth hx;have hmem:(goesOf ks (aheadOf (t:Int)))[i]∈goesOf ks (aheadOf (t:Int)):=Cu hlt;have egd:(goesOf ks (aheadOf (t:Int))).getD i ("",[])=(goesOf ks (aheadOf (t:Int)))[i]:=by rw[Ai,A9 hlt];rfl
     rw[egd] at e2 e3;obtain⟨k1,k2,k3,k4⟩:=zcf t128 gc hmem;have hwl':=Cr lz;rw[Ag,A4,Cq,ldl] at hwl';refine⟨q1,_,rfl,SqT.of e2,rfl,_,_,rfl,_,_,rfl,rfl,?_⟩;refine⟨_,rfl,.inl ⟨rfl,_,SqL.of hlz⟩,_,rfl,l,wl',_,rfl,rfl,hlz,Ah (by omega:wl'.length<3000) (by decide),?_⟩;have kt:∀qa xs,Hz qa=some (.tup xs)->upd Hz l (.lst (wl'++[.ref t1])) qa=some (.tup xs):=fun qa xs z=>by rw[zah (fun z2=>by rw[z2,hlz] at z;cases z)];exact z
     refine⟨sz.put nl0,_,_,_,rfl,(by rw[zah hgl];exact hgz),zab,(by rw[zah hpl];exact hpz),?_,grz.mono (fun kv hkv qa vs z z2=>by rw[zah (fun z3=>hkl3 kv hkv (by rw[z,z3]))];exact z2) kt,gvz.mono kt⟩;rw[Cy hlt,B7,<-Au];refine Es (lz.mono kt) ⟨k1,t1,rfl,kt _ _ ?_⟩;have e4:aheadOf (((worth (goesOf ks (aheadOf (t:Int)))[i].2).toNat:Nat):Int)=(goesOf ks (aheadOf (t:Int)))[i].2:=zd8 (by rw[k3];rfl);rw[e4];exact e3
    ·rintro σ Hz⟨sz,wl',x5,x6,rfl,hgz,hlz,hpz,lz,grz,gvz⟩;rw[hvl,By] at lz;have est:(goesOf ks (aheadOf (t:Int))).map (fun p=>(worth p.2).toNat)=(stp ks t).map fun p=>p.2.toNat:=by
      rw[<-zbs t128 gc,Bb];rfl
     refine⟨_,?_,_,L++[t],wl',_,_,_,_,rfl,sz,hgz,hlz,lz,grz,hkl3,nd1,lt1,fun s hs p hp=>?_,?_,?_,rfl⟩
     ·rw[Ag,Ag,Bq,A4,ldl];omega
     ·rw[est];rcases Al.mp hs with z|z
      ·rcases cl s z p hp with z|z
       ·exact .inl (B9 _ z)
       ·rw[els] at z;rcases Al.mp z with z|z
        ·exact .inr (B9 _ z)
        ·rw[A6.mp z];exact .inl (Bi _ (A6.mpr rfl))
      ·rw[A6.mp z] at hp;exact .inr (Bi _ (A7.mpr ⟨p,hp,rfl⟩))
     ·rcases h0 with z|z
      ·exact .inl (B9 _ z)
      ·rw[els] at z;rcases Al.mp z with z|z
       ·exact .inr (B9 _ z)
       ·rw[A6.mp z];exact .inl (Bi _ (A6.mpr rfl))
     ·rw[Ag,Ag,Bq,A4,ldl];omega
theorem LeftR.in128{H:Hp}{ws:List V}{ls:List Nat}(r:LeftR H ws ls):∀s∈ls,s<128:=by
 induction r with
 |nil=>simp
 |cons h _ ih=>
  intro s hs;rcases Ba.mp hs with rfl|hs
  ·exact h.1
  ·exact ih s hs
theorem zgZ{H:Hp}:∀{ls:List Nat}{ws:List V},TupsR H (ls.map fun(s:Nat)=>aheadOf (s:Int)) ws->(∀s∈ls,s<128)->LeftR H ws ls
 |[],_,.nil,_=>.nil
 |s::ls,_,.cons h r,lt=>.cons ⟨lt s Aj,h⟩ (zgZ r fun t ht=>lt t (Ac _ ht))
theorem zft{rs:List Nat}(lt:∀s∈rs,s<128){t:Nat}(ht:t<128):akey t∈rs.map akey↔t∈rs:=by
 rw[A7];exact⟨fun⟨s,hs,e⟩=>zdk (lt s hs) ht e▸hs,fun h=>⟨t,h,rfl⟩⟩
noncomputable def addN(rs:List Nat)(t:Nat):List Nat:=if t∈rs then rs else rs++[t]
theorem addN_mem{rs:List Nat}{t s:Nat}:s∈addN rs t↔s∈rs\/s=t:=by
 unfold addN
 split
 ·rename_i h;exact⟨.inl,fun z=>z.elim id fun e=>e▸h⟩
 ·rw[Al,A6]
theorem addN_nd{rs:List Nat}{t:Nat}(nd:rs.Nodup):(addN rs t).Nodup:=by
 unfold addN
 split
 ·exact nd
 ·rename_i z;refine Cz.mpr ⟨nd,by simp,fun u hu v hv e=>?_⟩;rw[A6.mp hv] at e;exact z (e▸hu)
theorem zfi{kvs:List (List Key×V)}{rs:List Nat}{t:Nat}{v:V}(lt:∀s∈rs,s<128)(ht:t<128)(hk:kvs.map (·.1)=rs.map akey):(putK kvs (akey t) v).map (·.1)=(addN rs t).map akey:=by
 rw[zeK,hk];unfold addN;by_cases z:t∈rs
 ·rw[if_pos ((zft lt ht).mpr z),if_pos z]
 ·rw[if_neg (fun h=>z ((zft lt ht).mp h)),if_neg z,B7];rfl
theorem keys_perm{nss:List (List Int)}{rs:List Nat}(p:nss.Perm (rs.map fun(s:Nat)=>aheadOf (s:Int)))(lt:∀s∈rs,s<128):∃rs':List Nat,rs'.Perm rs/\nss=rs'.map fun(s:Nat)=>aheadOf (s:Int):=by
 refine⟨nss.map fun ns=>(worth ns).toNat,?_,?_⟩
 ·have:=p.map fun ns=>(worth ns).toNat;rw[Bb] at this;have e:rs.map ((fun ns=>(worth ns).toNat)∘fun(s:Nat)=>aheadOf (s:Int))=rs:=by
   conv=>rhs;rw[<-Gk rs]
   refine Cg fun s hs=>?_;show(worth (aheadOf (s:Int))).toNat=s;rw[zbk (by omega) (by have:=lt s hs;omega)];simp
  rwa[e] at this
 ·rw[Bb]
  conv=>lhs;rw[<-Gk nss]
  refine Cg fun ns hns=>?_;obtain⟨s,hs,rfl⟩:=A7.mp (p.mem_iff.mp hns);show aheadOf (s:Int)=aheadOf (((worth (aheadOf (s:Int))).toNat:Nat):Int);rw[zbk (by omega) (by have:=lt s hs;omega)];simp
theorem zg5{hvs:List (List Key×V)}{hs:List Nat}(hk:hvs.map (·.1)=hs.map akey)(lt:∀s∈hs,s<128){t:Nat}(ht:t<128):(valV hvs (akey t)).isSome=decide (t∈hs):=by
 rw[Ay,valV_mem,hk,decide_eq_true_eq];exact zft lt ht
theorem any_rangeH{α:Type}(l:List α)(p:α->Bool)(d:α):((Af l.length).map fun i=>p (l.getD i d)).any (fun b=>b)=l.any p:=by
 have e:((Af l.length).map fun i=>p (l.getD i d))=l.map p:=by
  refine Fc fun i=>?_;rw[Ad,Ad];by_cases h:i<l.length
  ·rw[C6 h,A9 h,Cj,Cj,Ai,A9 h];rfl
  ·rw[C4 (by rw[Ax];omega),C4 (by omega)];rfl
 rw[e,Ip];rfl
noncomputable def sp_home:Sp:=fun vs H Q _=>∃(g:A3)(kvs:List (List Key×V))(ks:Combs)(L:List Nat),vs=[.ref g]/\H g=some (.dT kvs)/\GrL H kvs ks L/\L.Nodup/\ClsS ks L/\0∈L/\GC ks/\ks.length<=8/\∀(p:A3)(hvs:List (List Key×V))(hs:List Nat)(H':Hp),Same H H'->H' p=some (.dT hvs)->hvs.map (·.1)=hs.map akey->(∀s∈hs,s∈L)->(∀s∈L,s∈hs↔∃n,rch ks s n 0)->Q (.ref p) H'
theorem zgB:FnScope ["_law_graph_here","_law_home_here","_law_known","_law_ahead"] ["_law_graph_here"] (defScope s_home):=⟨rfl,rfl,rfl,by decide+kernel,rfl,by decide+kernel,by decide+kernel⟩
theorem ok_home(D:DefAt K mg "_law_home" s_home)(T:Bn mg):Callee P w K mg base "_law_home" 1 ["_law_graph_here"] sp_home:=by
 refine D.callee zgB (fun _ _ _ _ _ _=>ln1 fun _=>rfl) (fun vs H Q E h=>?_) (fun f cdv A outer s H vs Q E hr h=>?_)
 ·obtain⟨g,kvs,ks,L,rfl,_⟩:=h;rfl
 ·obtain⟨g,kvs,ks,L,rfl,hg,gr,ndL,cl,h0L,gc,h8,q⟩:=h;have ltL:=cl.1;have S:=zgB;have hu:=zcv hr;have hL128:=zav 128 L ndL ltL;refine⟨_,zac (zak (i:=1) S.nd rfl (Ek rfl) (pe_disp1T hu (zbi (zae)) (zbn)))
  (zac (zak (i:=2) S.nd rfl (Ao rfl) (zad))
  (zac (zcK Bf (zam zc6 (pv 2) (zai zfa rfl T.n_len C3 (zaa (pv 1) zae)) (zas _))
   (zac (zak (i:=2) S.nd rfl (Ao rfl) (zai zfa rfl T.n_len C3 (zaa (pv 1) zae)))
   (zaf (ps_forT Bf rfl (pv 0) (zal (i:=3) S.nd rfl (Ao rfl))
    (zaf (zaE (zbb (zai (call_any rfl) rfl T.n_any boot_any (zaa (za8 (own:=["_law_word_here","_law_further"]) (caps:=[(1,"_law_home_here")]) rfl ⟨rfl,rfl,rfl,rfl,⟨⟨rfl,rfl,.inl rfl⟩,trivial⟩⟩ (zax (zcU hu (pv 0) (pv 3) (fun _ _=>rfl))) (fun _ _ _ _ _ _=>pg_tup' K rfl (n:=2) rfl (zaL (zal (i:=0) (zaS (by decide+kernel)) rfl (Ao rfl)) (zaL (zal (i:=1) (zaS (by decide+kernel)) rfl (Ao rfl)) (zbM)))) (fun _ _ _ _ _ _=>zbu) (fun _ _ _ _ _ _=>zhA (zf2 hu (pv 1) (pv 2)))) zae)))
     (zaf (zcq hu (pv 1) (pv 3) (zbn) rfl))
     (zan)))))))
  (zaf (zaj (pv 1))))),?_⟩
  refine fun p np=>⟨bigr rfl,fun e ne=>?_⟩;have s1:Same H (upd H p (.dT [])):=Same.new np;have hp1:upd H p (.dT []) p=some (.dT []):=zab;generalize upd H p (.dT [])=H1 at s1 hp1 ne⊢;have s2:Same H1 (upd H1 e (.tup [])):=Same.new ne;have he2:upd H1 e (.tup []) e=some (.tup ((akey 0).map kV)):=by
   rw[zab];unfold akey;rw[kI_V,show aheadOf ((0:Nat):Int)=[] by decide];rfl
  generalize upd H1 e (.tup [])=H2 at s2 he2⊢;refine⟨akey 0,e,s2 _ _ hp1,rfl,he2,?_⟩;have s12:=s1.trans s2;have s3:Same H (upd H2 p (.dT [(akey 0,.bl true)])):=s12.put np;have hp3:upd H2 p (.dT [(akey 0,.bl true)]) p=some (.dT [(akey 0,.bl true)]):=zab;generalize upd H2 p (.dT [(akey 0,.bl true)])=H3 at s3 hp3⊢
  let Sound:List Nat->Prop:=fun hs=>hs.Nodup/\(∀s∈hs,s∈L)/\0∈hs/\∀s∈hs,∃n,rch ks s n 0
  refine⟨fun m σ Hx=>Same H Hx/\∃(k:Nat)(hvs:List (List Key×V))(hs:List Nat)(x3:Option V),σ=[some (.ref g),some (.ref p),some (.int (k:Nat)),x3]/\Hx p=some (.dT hvs)/\hvs.map (·.1)=hs.map akey/\Sound hs/\k<=hs.length/\m=200-k/\(k=hs.length->∀s∈L,(∃t∈hs,st1 ks s t)->s∈hs),⟨_,s3,0,_,[0],_,rfl,hp3,rfl,⟨by simp,fun s hs=>by rw[A6.mp hs];exact h0L,A6.mpr rfl,fun s hs=>⟨0,(A6.mp hs).symm⟩⟩,Bs _,rfl,fun z=>by cases z⟩,?_⟩;rintro m σ Hx⟨sx,k,hvs,hs,x3,rfl,hpx,hkx,⟨nd,sub,h0,snd⟩,hkl,rfl,clo⟩;have hvl:hvs.length=hs.length:=by have:=congrArg Ev hkx;rwa[A4,A4] at this
  have hs128:=zav 128 hs nd fun s hs=>ltL s (sub s hs);refine⟨_,rfl,_,rfl,_,_,rfl,hpx,rfl,_,rfl,?_⟩;by_cases heq:k=hvs.length
  ·rw[heq,decide_eq_true (rfl:V.int ((hvs.length:Nat):Int)=_)];refine iteF ?_;refine⟨_,rfl,q p hvs hs Hx sx hpx hkx sub fun s hsL=>⟨snd s,?_⟩⟩;rintro⟨n,hn⟩;have all:∀n s,s∈L->rch ks s n 0->s∈hs:=by
    intro n
    induction n with
    |zero=>intro s _ h;rw[show s=0 from h.symm];exact h0
    |succ n ih=>
     intro s hsL h;rw[Ha] at h;obtain⟨u,⟨v,e1,hu1⟩,h2⟩:=zdr h;rw[show v=s from e1] at hu1;obtain⟨pp,hpp,rfl⟩:=hu1;exact clo (by omega) s hsL ⟨_,ih _ (cl.2 s hsL pp hpp) h2,pp,hpp,rfl⟩
   exact all n s hsL hn
  ·rw[decide_eq_false (fun z=>heq (by injection z with z;omega))];refine iteT ?_;have hless:200-hs.length<200-k:=by omega
   refine⟨fun σ' H'=>∃m',m'<200-k/\Same H H'/\∃(k:Nat)(hvs:List (List Key×V))(hs:List Nat)(x3:Option V),σ'=[some (.ref g),some (.ref p),some (.int (k:Nat)),x3]/\H' p=some (.dT hvs)/\hvs.map (·.1)=hs.map akey/\Sound hs/\k<=hs.length/\m'=200-k/\(k=hs.length->∀s∈L,(∃t∈hs,st1 ks s t)->s∈hs),fun _ _ h=>h,?_⟩;refine⟨_,rfl,_,_,rfl,hpx,?_⟩;have hgp:g≠p:=fun z=>by rw[z,np] at hg;cases hg
   refine⟨g,kvs,rfl,sx _ _ hg,fun o=>?_⟩;have grf:∀{Hy:Hp},Same H (upd Hy g (.dT kvs))->GrL Hy kvs ks L:=fun{Hy}sy=>(gr.same sy).mono (fun kv _ q vs _ e=>by
     by_cases z:q=g
     ·rw[z,zab] at e;cases e
     ·rw[zah z] at e;exact e) fun q xs e=>by
     by_cases z:q=g
     ·rw[z,zab] at e;cases e
     ·rw[zah z] at e;exact e
   refine forT_g (fun i σ Hy=>Same H (upd Hy g (.dT kvs))/\Hy g=some (.frz o (.dT kvs))/\∃(hvs':List (List Key×V))(ext:List Nat)(x3:Option V),σ=[some (.ref g),some (.ref p),some (.int ((hvs.length:Nat):Int)),x3]/\Hy p=some (.dT hvs')/\hvs'.map (·.1)=(hs++ext).map akey/\Sound (hs++ext)/\∀s∈L.take i,(∃t∈hs,st1 ks s t)->s∈hs++ext) ⟨?_,zab,hvs,[],_,rfl,by rw[zah hgp.symm];exact hpx,by rw[C1];exact hkx,by rw[C1];exact⟨nd,sub,h0,snd⟩,fun s hs'=>by cases hs'⟩ (fun i σ Hy h=>h.2.1) ?_ ?_
   ·intro b u eb;by_cases z:b=g
    ·rw[z,zab];rw[z,hg] at eb;exact eb
    ·rw[zah z,zah z];exact sx _ _ eb
   ·rintro i kk y b σ Hy hk hb⟨sy,hgy,hvs',ext,x3',rfl,hpy,hky,⟨nd',sub',h0',snd'⟩,cov'⟩;have hki:(kvs.map (·.1))[i]?=some kk:=by rw[Ad,hk];rfl
    rw[gr.keys,Ad] at hki
    cases hsi:L[i]? with
    |none=>rw[hsi] at hki;cases hki
    |some s0=>
     rw[hsi] at hki
     cases hki
     have hsm:=B0 hsi;have hs1:=ltL s0 hsm;obtain⟨qv,vv,ev,hqv,gv⟩:=(grf sy).val ndL ltL hsm;have lt':∀s∈hs++ext,s<128:=fun s hs=>ltL s (sub' s hs);have dg:DGet Hy g (.ref b) (some (.ref qv)):=by rw[<-ev];exact .inr ⟨kvs,akey s0,b,.inr ⟨o,hgy⟩,rfl,hb,rfl⟩
     refine⟨_,rfl,_,rfl,_,_,rfl,dg,_,rfl,⟨_,SqL.of hqv⟩,fun D hD=>?_⟩;have hgl:=gv.length;have hg8:=zeZ h8 s0 hs1 gc;refine comp_i2 (capv:=[some (.ref p)]) (by rfl) (zap K qv vv) (big (by omega)) hD (fun H' s'=>SqL.of (s' _ _ hqv)) (fun i=>.str ((goesOf ks (aheadOf (s0:Int))).getD i ("",[])).1) (tupY Hy vv) (fun i x hx=>by
      obtain⟨q1,t1,rfl,e2,e3,_⟩:=gv.nth hx;exact⟨q1,rfl,by rw[zgp hx e2];exact e2⟩) (fun _=>true) (fun i=>.bl (decide ((worth ((goesOf ks (aheadOf (s0:Int))).getD i ("",[])).2).toNat∈hs++ext))) (fun _ _ _=>nofun) (fun i hi H R s' h=>h H (Same.refl _)) ?_ ?_
     ·intro i' hi' _ H' R s' h;obtain⟨q1,t1,e1,e2,e3,hlt⟩:=gv.nth (A9 hi');have hm:(goesOf ks (aheadOf (s0:Int))).getD i' ("",[])∈goesOf ks (aheadOf (s0:Int)):=by rw[Ai,A9 hlt];exact Cu hlt
      obtain⟨k1,k2,k3,k4⟩:=zcf hs1 gc hm;have ey:tupY Hy vv i'= .ref t1:=zgp (by rw[A9 hi',e1]) e2;rw[ey];refine⟨_,rfl,_,rfl,p,_,rfl,.inr ⟨hvs',akey (worth ((goesOf ks (aheadOf (s0:Int))).getD i' ("",[])).2).toNat,t1,.inl (s' _ _ hpy),rfl,(by rw[<-k3,kI_V];exact s' _ _ e3),rfl⟩,?_⟩;rw[zg5 hky lt' k1];exact h H' (Same.refl _)
     intro H' s' e;refine⟨_,(Af vv.length).map fun i=>decide ((worth ((goesOf ks (aheadOf (s0:Int))).getD i ("",[])).2).toNat∈hs++ext),rfl,SqL.of ?_,_,rfl,?_⟩
     ·rw[e,Ch.mpr (fun _ _=>rfl),Bb];rfl
     have hany:(Sj ((Af vv.length).map fun i=>decide ((worth ((goesOf ks (aheadOf (s0:Int))).getD i ("",[])).2).toNat∈hs++ext)) id=true)↔∃t∈hs++ext,st1 ks s0 t:=by
      have e1:=any_rangeH (goesOf ks (aheadOf (s0:Int))) (fun p=>decide ((worth p.2).toNat∈hs++ext)) ("",[]);rw[hgl];show Sj ((Af (goesOf ks (aheadOf (s0:Int))).length).map fun i=>decide ((worth ((goesOf ks (aheadOf (s0:Int))).getD i ("",[])).2).toNat∈hs++ext)) (fun b=>b)=true↔_;rw[e1,Bp];constructor
      ·rintro⟨pp,hpp,hd⟩;exact⟨_,of_decide_eq_true hd,_,(zcf hs1 gc hpp).2.2.2,rfl⟩
      ·rintro⟨t,ht,pp,hpp,rfl⟩;rw[<-zbs hs1 gc] at hpp;obtain⟨gp,hgp',rfl⟩:=A7.mp hpp;exact⟨gp,hgp',decide_eq_true ht⟩
     have etk:L.take (i+1)=L.take i++[s0]:=zaz hsi;have sy':Same H (upd H' g (.dT kvs)):=fun b u eb=>by
      by_cases z:b=g
      ·rw[z,zab];rw[z,hg] at eb;exact eb
      ·have:=sy _ _ eb;rw[zah z] at this⊢;exact s' _ _ this
     refine ite2 (fun hz=>?_) (fun hz=>?_)
     ·have hz:=hany.mp hz;refine⟨_,rfl,_,rfl,p,_,rfl,DPut.t (k:=akey s0) (s' _ _ hpy) (s' _ _ hb) (Ah (?_:hvs'.length<1000) za0),?_⟩
      ·have:=congrArg Ev hky;rw[A4,A4] at this;have:=zav 128 _ nd' lt';omega
      have hpg:p≠g:=hgp.symm;refine⟨fun b u eb=>?_,by rw[zah hgp];exact s' _ _ hgy,_,if s0∈hs++ext then ext else ext++[s0],_,rfl,zab,?_,?_,?_⟩
      ·have hbp:b≠p:=fun z=>by rw[z,np] at eb;cases eb
       have:=sy' _ _ eb;by_cases z:b=g
       ·rw[z,zab] at this⊢;exact this
       ·rw[zah z] at this⊢;rw[zah hbp];exact this
      ·rw[zfi lt' hs1 hky];unfold addN
       split
       ·rfl
       ·rw[Au]
      ·split
       ·exact⟨nd',sub',h0',snd'⟩
       ·rename_i z;rw[<-Au];refine⟨Cz.mpr ⟨nd',by simp,fun u hu' v hv e=>z (by rw[<-A6.mp hv,<-e];exact hu')⟩,fun s hs'=>?_,B9 _ h0',fun s hs'=>?_⟩
        ·rcases Al.mp hs' with y|y
         ·exact sub' s y
         ·rw[A6.mp y];exact hsm
        ·rcases Al.mp hs' with y|y
         ·exact snd' s y
         ·rw[A6.mp y];obtain⟨t,ht,h1⟩:=hz;obtain⟨n,hn⟩:=snd' t ht;exact⟨1+n,zb5 (show rch ks s0 1 t from⟨s0,rfl,h1⟩) hn⟩
      ·intro s hs' hst;rw[etk] at hs';rcases Al.mp hs' with y|y
       ·have:=cov' s y hst
        split
        ·exact this
        ·rw[<-Au];exact B9 _ this
       ·rw[A6.mp y]
        split
        ·rename_i z;exact z
        ·rw[<-Au];exact Bi _ (A6.mpr rfl)
     ·have hz:¬∃t∈hs++ext,st1 ks s0 t:=fun y=>hz (hany.mpr y);refine⟨sy',s' _ _ hgy,hvs',ext,_,rfl,s' _ _ hpy,hky,⟨nd',sub',h0',snd'⟩,fun s hs' hst=>?_⟩;rw[etk] at hs';rcases Al.mp hs' with y|y
      ·exact cov' s y hst
      ·rw[A6.mp y] at hst;obtain⟨t,ht,h1⟩:=hst;exact absurd ⟨t,B9 _ ht,h1⟩ hz
   ·rintro σ Hy⟨sy,hgy,hvs',ext,x3',rfl,hpy,hky,snd',cov'⟩;rw[gr.len,By] at cov';refine⟨hgy,_,hless,sy,hs.length,hvs',hs++ext,_,by rw[hvl],by rw[zah hgp.symm];exact hpy,hky,snd',by rw[Ag];omega,rfl,fun z s hsL hst=>?_⟩;rw[Ag] at z;have:ext=[]:=Kv (by omega);subst this;rw[C1] at hst;exact cov' s hsL hst
noncomputable def filB(C:Combs)(k:Nat):Bool:=decide (0∈rowN C k)
theorem zev{C:Combs}(g:GC C){k:Nat}:filB C k=true↔Fil C k:=by
 unfold filB Fil;rw[decide_eq_true_eq,zba g]
noncomputable def RowOk(C:Combs)(j:Nat)(l:List Nat):Prop:=l.Nodup/\(∀s,s∈l↔HR C j s)/\l.Pairwise fun(s t:Nat)=>lexR 8 (aheadOf (s:Int))<=lexR 8 (aheadOf (t:Int))
theorem zcS{C:Combs}(g:GC C){i j:Nat}{l m:List Nat}(hl:RowOk C i l)(hm:RowOk C j m)(h:∀s,HR C i s↔HR C j s):l=m:=by
 have p:l.Perm m:=(D5 hl.1 hm.1).mpr fun s=>by rw[hl.2.1,hm.2.1];exact h s
 refine p.eq_of_pairwise (fun x y hx hy h1 h2=>?_) hl.2.2 hm.2.2;have x1:=zcn g (by decide) ((hl.2.1 x).mp hx).1;have y1:=zcn g (by decide) ((hm.2.1 y).mp hy).1;have a:=zdp x;have b:=zdp y;exact zdM x1 y1 ((zen 8 _ _ a.1 b.1 a.2 b.2).2 (by omega))
theorem left_nest{H:Hp}{r:A3}{ws:List V}{R:List Nat}(hr:H r=some (.tup ws))(lr:LeftR H ws R):NestAt H r (R.map akey):=by
 refine⟨ws,hr,?_⟩;clear hr
 induction lr with
 |nil=>exact .nil
 |cons h _ ih=>
  obtain⟨_,q,e1,e2⟩:=h;refine .cons ⟨q,e1,?_⟩ ih;unfold akey;rw[kI_V];exact e2
theorem zfh:∀{l m:List Nat},(∀s∈l,s<128)->(∀s∈m,s<128)->l.map akey=m.map akey->l=m
 |[],[],_,_,_=>rfl
 |a::l,b::m,h1,h2,e=>by
  rw[At,At] at e;injection e with e1 e2;rw[zdk (h1 a Aj) (h2 b Aj) e1,zfh (fun s hs=>h1 s (Ac _ hs)) (fun s hs=>h2 s (Ac _ hs)) e2]
 |[],_::_,_,_,e=>by cases e
 |_::_,[],_,_,e=>by cases e
theorem eqv_tup0(s:Nat)(hs:s<128):E3 (intTup (aheadOf (s:Int))) (.tuple [])=decide (0=s):=by
 by_cases e:0=s
 ·subst e;decide
 ·rw[decide_eq_false e]
  cases h:aheadOf (s:Int) with
  |nil=>exact absurd (zdM (show 0<128 by decide) hs (by rw[h];decide)) e
  |cons a l=>simp[intTup,E3,Jm]
theorem zero_in{R:List Nat}(h:∀s∈R,s<128):((R.map fun(s:Nat)=>intTup (aheadOf (s:Int))).any fun e=>E3 e (.tuple []))=decide (0∈R):=by
 induction R with
 |nil=>rfl
 |cons a R ih=>
  rw[At,Gj,ih fun s hs=>h s (Ac _ hs),eqv_tup0 a (h a Aj),Ay,L7,decide_eq_true_eq,decide_eq_true_eq,decide_eq_true_eq,Ba]
theorem lay_shapes(R:List Nat):Cm (R.map fun(s:Nat)=>intTup (aheadOf (s:Int)))=true:=by
 have one:∀ns:List Int,Cm (ns.map Fe)=true:=by
  intro ns
  induction ns with
  |nil=>rfl
  |cons a ns ih=>rw[At,Cm,ih];rfl
 induction R with
 |nil=>rfl
 |cons a R ih=>rw[At,Cm,ih];simp[intTup,Fu,one]
noncomputable def sp_fits:Sp:=fun vs H Q _=>∃(g:A3)(kvs:List (List Key×V))(ks:Combs)(L:List Nat),vs=[.ref g]/\H g=some (.dT kvs)/\GrL H kvs ks L/\L.Nodup/\ClsS ks L/\0∈L/\GC ks/\ks.length<=8/\∀(t fl:A3)(m i:Nat)(H':Hp),Same H H'->i<m->m<=16513->(∀s,HR ks i s↔HR ks m s)->H' t=some (.tup [.ref fl,.int (i:Nat)])->H' fl=some (.lst ((Af m).map fun k=>V.bl (filB ks k)))->Q (.ref t) H'
theorem zgE:FnScope ["_law_graph_here","_law_home_here","_law_fits_here","_law_met","_law_row","_law_more","_law_ahead","_law_word_here","_law_further"] ["_law_graph_here"] (defScope s_fits):=⟨rfl,rfl,rfl,by decide+kernel,rfl,by decide+kernel,by decide+kernel⟩
theorem ok_fits(D:DefAt K mg "_law_fits" s_fits)(T:Bn mg)(C_home:Callee P w K mg base "_law_home" 1 ["_law_graph_here"] sp_home):Callee P w K mg base "_law_fits" 2 ["_law_graph_here"] sp_fits:=by
 refine D.callee zgE (fun _ _ _ _ _ _=>ln1 fun _=>rfl) (fun vs H Q E h=>?_) (fun f cdv A outer s H vs Q E hr h=>?_)
 ·obtain⟨g,kvs,ks,L,rfl,_⟩:=h;rfl
 ·obtain⟨g,kvs,ks,L,rfl,hg,gr,ndL,cl,h0L,gc,h8,q⟩:=h;have ltL:=cl.1;have S:=zgE;have hu:=zcv hr;have hszL:(20000:Nat)<=sizeLine:=by decide
  have inL:∀k s,rch ks 0 k s->s∈L:=by
   intro k
   induction k with
   |zero=>intro s h;rw[show s=0 from h];exact h0L
   |succ k ih=>
    rintro s⟨u,h1,p,hp,rfl⟩;exact cl.2 u (ih u h1) p hp
  refine⟨_,zac (zak (i:=1) S.nd rfl (Ao rfl) (zaA C_home (hr.mono (by decide)) rfl (zaa (pv 0) zae)))
  (zac (zak (i:=2) S.nd rfl (Ao rfl) (zaZ (zae)))
  (zac (zak (i:=3) S.nd rfl (Ao rfl) (zdb))
  (zac (zak (i:=4) S.nd rfl (Ao rfl) (zbi (zaa (zbi (zae)) zae)))
  (zac (zcK Bf (zd3 (pc_nnotin' P w rfl rfl hr.units (pv 4) (pv 3)))
   (zac (ps_nput' P w rfl rfl hr.units (pv 3) (pv 4) (zai zat rfl T.n_len C3 (zaa (pv 2) zae)) rfl)
   (zac (zbd (zdP C7 Cd Cc za1 (pv 2) (zaa (zbF (op_inT hr.units) (zbi (zae)) (pv 4) (by with_unfolding_all rfl)) zae)))
   (zac (zak (i:=5) S.nd rfl (Ao rfl) (zek))
   (zac (zaY Bf rfl (pi_tup (pv 4)) (zal (i:=6) S.nd rfl (Ao rfl))
    (zaf (zaY Bf rfl (zax (zcU hu (pv 0) (pv 6) (fun _ _=>rfl))) (zeL rfl (zaL (zal (i:=7) S.nd rfl (Ao rfl)) (zaL (zal (i:=8) S.nd rfl (Ao rfl)) (zbM))))
     (zaf (zaE (zd3 (zf2 hu (pv 8) (pv 1)))
      (zaf (zcq hu (pv 5) (pv 8) (zbn) rfl))
      (zan))))))
   (zaf (zak (i:=4) S.nd rfl (Ao rfl) (zbe zcN rfl T.n_tuple Ku (zaa (zai (call_sortedDT rfl hr.units) rfl T.n_sorted Il (zaa (pv 5) zae)) zae)))))))))
  (zaf (zaj (zbi (zaa (pv 2) (zaa (pe_nget' P w rfl rfl hr.units (pv 3) (pv 4) (fun _ _=>rfl)) zae))))))))),?_⟩
  refine⟨_,rfl,g,kvs,ks,L,rfl,hg,gr,ndL,cl,h0L,gc,h8,fun ho hvs hs H0 s0 hho hhk hsub hhome=>?_⟩;have hlt:∀s∈hs,s<128:=fun s h=>ltL s (hsub s h);refine⟨bigr rfl,fun fl nfl=>?_⟩;have s1:Same H0 (upd H0 fl (.lst [])):=Same.new nfl;have hfl1:upd H0 fl (.lst []) fl=some (.lst []):=zab;generalize upd H0 fl (.lst [])=H1 at s1 hfl1⊢;refine fun d nd=>?_;have nd0:=s1.free nd;have s2:Same H1 (upd H1 d (.dK [])):=Same.new nd;have hd2:upd H1 d (.dK []) d=some (.dK []):=zab;generalize upd H1 d (.dK [])=H2 at s2 hd2⊢;refine⟨bigr rfl,fun e0 ne0=>?_⟩;have s3:Same H2 (upd H2 e0 (.tup [])):=Same.new ne0;have he3:upd H2 e0 (.tup []) e0=some (.tup ((aheadOf ((0:Nat):Int)).map V.int)):=by
   rw[zab,show aheadOf ((0:Nat):Int)=[] by decide];rfl
  generalize upd H2 e0 (.tup [])=H3 at s3 he3⊢;refine⟨bigr rfl,fun r0 nr0=>?_⟩;have s4:Same H3 (upd H3 r0 (.tup [.ref e0])):=Same.new nr0;have hr4:upd H3 r0 (.tup [.ref e0]) r0=some (.tup [.ref e0]):=zab;have he4:=s4 _ _ he3;have s24:=(s2.trans s3).trans s4;have hd4:=s4 _ _ (s3 _ _ hd2);have hfl4:=s24 _ _ hfl1;have s04:=s1.trans s24;generalize upd H3 r0 (.tup [.ref e0])=H4 at s04 hr4 he4 hd4 hfl4⊢;have hdf:d≠fl:=fun z=>by rw[z,hfl1] at nd;cases nd
  refine⟨fun m σ Hx=>Same H0 Hx/\∃(k:Nat)(R:Nat->List Nat)(xs:List NX)(r:A3)(wr:List V)(x5 x6 x7 x8:Option V),m=16600-k/\σ=[some (.ref g),some (.ref ho),some (.ref fl),some (.ref d),some (.ref r),x5,x6,x7,x8]/\Hx fl=some (.lst ((Af k).map fun j=>V.bl (filB ks j)))/\NDict P w Hx d xs/\Hx r=some (.tup wr)/\LeftR Hx wr (R k)/\(∀j,j<=k->RowOk ks j (R j))/\nks xs=((Af k).map fun j=>(R j).map akey)/\(∀j,j<k->∃c,((R j).map akey,c,V.int (j:Nat))∈xs)/\∀i j,i<j->j<k->R i≠R j,
   ⟨_,s04,0,fun _=>[0],[],r0,[.ref e0],_,_,_,_,rfl,rfl,hfl4,⟨.inl ⟨rfl,hd4⟩,fun x hx=>by cases hx⟩,hr4,.cons ⟨by decide,e0,rfl,he4⟩ .nil,fun j hj=>?_,rfl,fun j hj=>by omega,fun i j h1 h2=>by omega⟩,?_⟩
  ·have:j=0:=by omega
   subst this;exact⟨by simp,fun s=>by rw[hr_zero,A6],List.pairwise_singleton _ _⟩
  rintro m σ Hx⟨sx,k,R,xs,r,wr,x5,x6,x7,x8,rfl,rfl,hfl,nd',hrx,lr,rok,hkeys,hval,dis⟩;have hxl:xs.length=k:=by
   have:=congrArg Ev hkeys;unfold nks at this;rw[A4,A4,Ax] at this;exact this
  have lt128:∀j,j<=k->∀s∈R j,s<128:=fun j hj s hs=>zcn gc (by decide) (((rok j hj).2.1 s).mp hs).1;have nest:=left_nest hrx lr;refine⟨_,rfl,_,rfl,d,r,xs,(R k).map akey,rfl,rfl,nd',nest,_,rfl,?_⟩;by_cases hin:(R k).map akey∈nks xs
  ·rw[hasN_iff.mpr hin];refine iteF ?_;rw[hkeys] at hin;obtain⟨i,hi,ei⟩:=A7.mp hin;have hi:=Be.mp hi;have er:R i=R k:=zfh (lt128 i (by omega)) (lt128 k (Ab _)) ei;obtain⟨c,hc⟩:=hval i hi;refine⟨_,rfl,_,rfl,_,rfl,d,r,c,xs,(R k).map akey,.int (i:Nat),rfl,rfl,nd',nest,by rw[<-er];exact hc,bigr rfl,fun t nt=>?_⟩;have st:Same Hx (upd Hx t (.tup [.ref fl,.int (i:Nat)])):=Same.new nt;refine q t fl k i _ ((s0.trans sx).trans st) hi ?_ (fun s=>?_) zab (st _ _ hfl)
   ·have:=zgb gc (M:=k-1) fun a b hab hb heq=>dis a b hab (by omega) (zcS gc (rok a (by omega)) (rok b (by omega)) heq);omega
   ·rw[<-(rok i (by omega)).2.1,<-(rok k (Ab _)).2.1,er]
  ·rw[zge hin];refine iteT ?_;have hnew:∀j,j<k->R j≠R k:=fun j hj e=>hin (by rw[hkeys,<-e];exact A7.mpr ⟨j,Be.mpr hj,rfl⟩);have hk:k<=16512:=zgb gc (M:=k) fun a b hab hb heq=>by
    by_cases z:b=k
    ·subst z;exact hnew a hab (zcS gc (rok a (by omega)) (rok b (by omega)) heq)
    ·exact dis a b hab (by omega) (zcS gc (rok a (by omega)) (rok b (by omega)) heq)
   have hlR:(R k).length<=128:=zav 128 _ (rok k (Ab _)).1 (lt128 k (Ab _));have hwr:=Cr lr;refine⟨fun σ' H'=>∃m',m'<16600-k/\Same H0 H'/\∃(k:Nat)(R:Nat->List Nat)(xs:List NX)(r:A3)(wr:List V)(x5 x6 x7 x8:Option V),m'=16600-k/\σ'=[some (.ref g),some (.ref ho),some (.ref fl),some (.ref d),some (.ref r),x5,x6,x7,x8]/\H' fl=some (.lst ((Af k).map fun j=>V.bl (filB ks j)))/\NDict P w H' d xs/\H' r=some (.tup wr)/\LeftR H' wr (R k)/\(∀j,j<=k->RowOk ks j (R j))/\nks xs=((Af k).map fun j=>(R j).map akey)/\(∀j,j<k->∃c,((R j).map akey,c,V.int (j:Nat))∈xs)/\∀i j,i<j->j<k->R i≠R j,fun _ _ h=>h,?_⟩;refine⟨_,rfl,_,_,rfl,.inl (SqL.of hfl),_,rfl,_,rfl,d,r,xs,(R k).map akey,rfl,rfl,nd',nest,hin,by omega,?_⟩;rw[A4,Ax];have hmu:∀q u,q≠d->Hx q=some u->upd Hx d (DN P w d (xs++[((R k).map akey,r,V.int (k:Nat))])) q=some u:=fun q u z e=>by rw[zah z];exact e
   have htd:∀q ys,Hx q=some (.tup ys)->q≠d:=fun q ys e z=>by
    rw[z] at e;rcases nd'.1 with⟨_,e'⟩|e'<;>rw[e] at e'<;>cases e'
   have hkn:KeysN (upd Hx d (DN P w d (xs++[((R k).map akey,r,V.int (k:Nat))]))) (xs++[((R k).map akey,r,V.int (k:Nat))]):=fun x hx=>by
    refine NestAt.same (H:=Hx) ?_ fun q ys e=>hmu _ _ (htd q ys e) e;rcases Al.mp hx with z|z
    ·exact nd'.2 x z
    ·rw[A6.mp z];exact nest
   have nd5:NDict P w (upd Hx d (DN P w d (xs++[((R k).map akey,r,V.int (k:Nat))]))) d (xs++[((R k).map akey,r,V.int (k:Nat))]):=⟨.inr zab,hkn⟩;have s5:Same H0 (upd Hx d (DN P w d (xs++[((R k).map akey,r,V.int (k:Nat))]))):=sx.put nd0;have hfl5:=hmu _ _ hdf.symm hfl;have hrd:r≠d:=htd _ _ hrx;have hr5:=hmu _ _ hrd hrx;have lr5:LeftR (upd Hx d (DN P w d (xs++[((R k).map akey,r,V.int (k:Nat))]))) wr (R k):=lr.mono fun q ys e=>hmu _ _ (htd q ys e) e;generalize upd Hx d (DN P w d (xs++[((R k).map akey,r,V.int (k:Nat))]))=H5 at nd5 s5 hfl5 hr5 lr5⊢;refine⟨_,rfl,.inl ⟨rfl,_,SqL.of hfl5⟩,bigr rfl,fun et net=>?_⟩;have s6:Same H5 (upd H5 et (.tup [])):=Same.new net;have het:upd H5 et (.tup []) et=some (.tup []):=zab;have hfl6:=s6 _ _ hfl5;have hr6:=s6 _ _ hr5;have lr6:=lr5.mono fun q ys e=>s6 _ _ e;have nd6:=nd5.same s6;have s06:=s5.trans s6;generalize upd H5 et (.tup [])=H6 at het hfl6 hr6 lr6 nd6 s06⊢;refine⟨_,rfl,.tuple [],(R k).map fun(s:Nat)=>intTup (aheadOf (s:Int)),.tup (SqT.of het) .nil,.tup (SqT.of hr6) lr6.vd,rfl,lay_shapes _,by decide,?_⟩;rw[zero_in (lt128 k (Ab _))];have ez:decide (0∈R k)=filB ks k:=by
    unfold filB;rw[decide_eq_decide,(rok k (Ab _)).2.1,zg4,zba gc];rfl
   rw[ez];refine⟨fl,_,_,rfl,rfl,hfl6,by rw[A4,Ax];omega,?_⟩;have efl:((Af k).map fun j=>V.bl (filB ks j))++[V.bl (filB ks k)]=(Af (k+1)).map fun j=>V.bl (filB ks j):=by
    rw[Dy,B7];rfl
   rw[efl];have nfl0:H0 fl=none:=nfl;have hf7:∀q u,q≠fl->H6 q=some u->upd H6 fl (.lst ((Af (k+1)).map fun j=>V.bl (filB ks j))) q=some u:=fun q u z e=>by rw[zah z];exact e
   have s07:Same H0 (upd H6 fl (.lst ((Af (k+1)).map fun j=>V.bl (filB ks j)))):=s06.put nfl0;have htf:∀q ys,H6 q=some (.tup ys)->q≠fl:=fun q ys e z=>by rw[z,hfl6] at e;cases e
   have nd7:NDict P w (upd H6 fl (.lst ((Af (k+1)).map fun j=>V.bl (filB ks j)))) d (xs++[((R k).map akey,r,V.int (k:Nat))]):=⟨nd6.1.imp (fun z=>⟨z.1,hf7 _ _ hdf z.2⟩) fun z=>hf7 _ _ hdf z,nd6.2.same fun q ys e=>hf7 _ _ (htf q ys e) e⟩;have hr7:=hf7 _ _ (htf _ _ hr6) hr6;have lr7:LeftR (upd H6 fl (.lst ((Af (k+1)).map fun j=>V.bl (filB ks j)))) wr (R k):=lr6.mono fun q ys e=>hf7 _ _ (htf q ys e) e;have hfl7:upd H6 fl (.lst ((Af (k+1)).map fun j=>V.bl (filB ks j))) fl=some (.lst ((Af (k+1)).map fun j=>V.bl (filB ks j))):=zab;generalize upd H6 fl (.lst ((Af (k+1)).map fun j=>V.bl (filB ks j)))=H7 at s07 nd7 hr7 lr7 hfl7⊢;clear hmu htd hkn hf7 htf nd5 nd6 hfl5 hfl6 hr5 hr6 lr5 lr6 s5 s6 s06;refine fun mo nmo=>?_;have s8:Same H7 (upd H7 mo (.dT [])):=Same.new nmo;have hmo:upd H7 mo (.dT []) mo=some (.dT []):=zab;refine⟨_,rfl,_,rfl,⟨_,SqT.of (s8 _ _ hr7)⟩,?_⟩;refine zbz (gives_tup K r wr) (fun i σ Hy=>Same H7 Hy/\∃(mvs:List (List Key×V))(rs:List Nat)(x6 x7 x8:Option V),σ=[some (.ref g),some (.ref ho),some (.ref fl),some (.ref d),some (.ref r),some (.ref mo),x6,x7,x8]/\Hy mo=some (.dT mvs)/\mvs.map (·.1)=rs.map akey/\rs.Nodup/\(∀s∈rs,s<128)/\∀n,n∈rs↔(∃t∈(R k).take i,st1 ks t n)/\n∈hs) ⟨s8,[],[],_,_,_,rfl,hmo,rfl,Df,nofun,fun n=>by simp⟩ (fun i σ Hy _ h=>SqT.of (h.1 _ _ hr7)) ?_ ?_
   ·rintro i x σ Hy hx⟨sy,mvs,rs,x6',x7',x8',rfl,hmy,hk',rn,rlt,hm⟩;obtain⟨t,et,t128,qt,rfl,hqt⟩:=C5.rev lr7 hx;have s0y:=s07.trans sy;have htL:=inL k t (((rok k (Ab _)).2.1 t).mp (B0 et)).1;obtain⟨qv,vv,ev,hqv,gv⟩:=(gr.same (s0.trans s0y)).val ndL ltL htL;have hqk:Hy qt=some (.tup ((akey t).map kV)):=by
     unfold akey;rw[kI_V];exact sy _ _ hqt
    have dg:DGet Hy g (.ref qt) (some (.ref qv)):=by rw[<-ev];exact DGet.t (s0y _ _ (s0 _ _ hg)) hqk
    refine⟨_,rfl,_,rfl,_,_,rfl,dg,_,rfl,⟨_,SqL.of hqv⟩,?_⟩;have hvl:=gv.length;have hqm:qv≠mo:=fun z=>by rw[z,hmy] at hqv;cases hqv
    refine zbz (zap K qv vv) (fun j σ Hz=>Same H7 Hz/\Hz qv=some (.lst vv)/\GoesR Hz vv (goesOf ks (aheadOf (t:Int)))/\∃(mvs':List (List Key×V))(rs':List Nat)(x7 x8:Option V),σ=[some (.ref g),some (.ref ho),some (.ref fl),some (.ref d),some (.ref r),some (.ref mo),some (.ref qt),x7,x8]/\Hz mo=some (.dT mvs')/\mvs'.map (·.1)=rs'.map akey/\rs'.Nodup/\(∀s∈rs',s<128)/\∀n,n∈rs'↔n∈rs\/(n∈((goesOf ks (aheadOf (t:Int))).take j).map (fun p=>(worth p.2).toNat)/\n∈hs)) ⟨sy,hqv,gv,mvs,rs,_,_,rfl,hmy,hk',rn,rlt,fun n=>by simp⟩ (fun j σ Hz _ h=>SqL.of h.2.1) ?_ ?_
    ·rintro j y σ Hz hy⟨sz,hqz,gz,mvs',rs',x7'',x8'',rfl,hmz,hkz,rnz,rltz,hmz'⟩;obtain⟨q1,t1,rfl,e2,e3,hltj⟩:=gz.nth hy;have egd:(goesOf ks (aheadOf (t:Int))).getD j ("",[])=(goesOf ks (aheadOf (t:Int)))[j]:=by rw[Ai,A9 hltj];rfl
     rw[egd] at e2 e3;obtain⟨k1,k2,k3,k4⟩:=zcf t128 gc (Cu hltj);have e3':Hz t1=some (.tup ((akey (worth (goesOf ks (aheadOf (t:Int)))[j].2).toNat).map kV)):=by rw[<-k3,kI_V];exact e3
     refine⟨q1,_,rfl,SqT.of e2,rfl,_,_,rfl,_,_,rfl,rfl,?_⟩;refine⟨_,rfl,_,rfl,ho,_,rfl,DGet.t ((s07.trans sz) _ _ hho) e3',_,rfl,?_⟩;rw[zg5 hhk hlt k1];have etk:((goesOf ks (aheadOf (t:Int))).take (j+1)).map (fun p=>(worth p.2).toNat)=((goesOf ks (aheadOf (t:Int))).take j).map (fun p=>(worth p.2).toNat)++[(worth (goesOf ks (aheadOf (t:Int)))[j].2).toNat]:=by
      rw[Cy hltj,B7];rfl
     by_cases hin':(worth (goesOf ks (aheadOf (t:Int)))[j].2).toNat∈hs
     ·rw[decide_eq_true hin'];refine iteT ?_;have hb:=zav 128 rs' rnz rltz;have hl':mvs'.length=rs'.length:=by have:=congrArg Ev hkz;rwa[A4,A4] at this
      refine⟨_,rfl,_,rfl,mo,_,rfl,DPut.t hmz e3' (Ah (by omega:mvs'.length<1000) za0),?_⟩;have kt:∀qa ys,Hz qa=some (.tup ys)->upd Hz mo (.dT (putK mvs' (akey (worth (goesOf ks (aheadOf (t:Int)))[j].2).toNat) (.bl true))) qa=some (.tup ys):=fun qa ys z=>by rw[zah (fun z2=>by rw[z2,hmz] at z;cases z)];exact z
      refine⟨sz.put nmo,(by rw[zah hqm];exact hqz),gz.mono kt,_,addN rs' (worth (goesOf ks (aheadOf (t:Int)))[j].2).toNat,_,_,rfl,zab,zfi rltz k1 hkz,addN_nd rnz,fun s hs'=>?_,fun n=>?_⟩
      ·rcases addN_mem.mp hs' with z|z
       ·exact rltz s z
       ·rw[z];exact k1
      ·rw[addN_mem,hmz',etk,Al,A6];constructor
       ·rintro((z|⟨z1,z2⟩)|z)
        ·exact .inl z
        ·exact .inr ⟨.inl z1,z2⟩
        ·exact .inr ⟨.inr z,by rw[z];exact hin'⟩
       ·rintro(z|⟨z1|z1,z2⟩)
        ·exact .inl (.inl z)
        ·exact .inl (.inr ⟨z1,z2⟩)
        ·exact .inr z1
     ·rw[decide_eq_false hin'];refine iteF ?_;refine⟨sz,hqz,gz,mvs',rs',_,_,rfl,hmz,hkz,rnz,rltz,fun n=>?_⟩;rw[hmz',etk,Al,A6];constructor
      ·rintro(z|⟨z1,z2⟩)
       ·exact .inl z
       ·exact .inr ⟨.inl z1,z2⟩
      ·rintro(z|⟨z1|z1,z2⟩)
       ·exact .inl z
       ·exact .inr ⟨z1,z2⟩
       ·rw[z1] at z2;exact absurd z2 hin'
    ·rintro σ Hz⟨sz,hqz,gz,mvs',rs',x7'',x8'',rfl,hmz,hkz,rnz,rltz,hmz'⟩;rw[hvl,By] at hmz';refine⟨sz,mvs',rs',_,_,_,rfl,hmz,hkz,rnz,rltz,fun n=>?_⟩;have est:n∈(goesOf ks (aheadOf (t:Int))).map (fun p=>(worth p.2).toNat)↔st1 ks t n:=by
      unfold st1;rw[<-zbs t128 gc,A7];constructor
      ·rintro⟨p,hp,e⟩;exact⟨_,A7.mpr ⟨p,hp,rfl⟩,e⟩
      ·rintro⟨p,hp,e⟩;obtain⟨p',hp',rfl⟩:=A7.mp hp;exact⟨p',hp',e⟩
     rw[hmz',hm,est,zaz et];constructor
     ·rintro(⟨⟨t',ht',h1⟩,h2⟩|⟨h1,h2⟩)
      ·exact⟨⟨t',B9 _ ht',h1⟩,h2⟩
      ·exact⟨⟨t,Bi _ (A6.mpr rfl),h1⟩,h2⟩
     ·rintro⟨⟨t',ht',h1⟩,h2⟩;rcases Al.mp ht' with z|z
      ·exact .inl ⟨⟨t',z,h1⟩,h2⟩
      ·rw[A6.mp z] at h1;exact .inr ⟨h1,h2⟩
   ·rintro σ Hy⟨sy,mvs,rs,x6',x7',x8',rfl,hmy,hk',rn,rlt,hm⟩;rw[<-hwr,By] at hm;have hb:=zav 128 rs rn rlt;rw[akeysL_kI] at hk';refine⟨_,rfl,mo,mvs,_,rfl,.inl hmy,hk',fun ns hns=>?_,by rw[A4];omega,fun p nss' ws' np pp pw tr'=>?_⟩
    ·obtain⟨s',_,rfl⟩:=A7.mp hns;exact zdp s'
    obtain⟨rs',pr,rfl⟩:=keys_perm pp rlt;have s9:Same Hy (upd Hy p (.lst ws')):=Same.new np;have hp9:upd Hy p (.lst ws') p=some (.lst ws'):=zab;have lr9:=(zgZ tr' fun s' hs'=>rlt s' (pr.mem_iff.mp hs')).mono fun _ _ z=>s9 _ _ z;have s79:=sy.trans s9;generalize upd Hy p (.lst ws')=H9 at s79 hp9 lr9⊢;refine⟨p,ws',rfl,.inl ⟨SqL.of hp9,fun rt nrt=>?_⟩⟩;have sA:Same H9 (upd H9 rt (.tup ws')):=Same.new nrt;have s7A:=s79.trans sA;obtain⟨R',hR1,hR2⟩:∃R':Nat->List Nat,R' (k+1)=rs'/\∀j,j≠k+1->R' j=R j:=⟨fun j=>if j=k+1 then rs' else R j,if_pos rfl,fun j h=>if_neg h⟩;refine⟨16600-(k+1),by omega,s07.trans s7A,k+1,R',xs++[((R k).map akey,r,V.int (k:Nat))],rt,ws',_,_,_,_,rfl,rfl,s7A _ _ hfl7,nd7.same s7A,zab,?_,fun j hj=>?_,?_,fun j hj=>?_,fun i j h1 h2=>?_⟩
    ·rw[hR1];exact lr9.mono fun q ys e=>sA _ _ e
    ·by_cases z:j=k+1
     ·subst z;rw[hR1];refine⟨pr.nodup_iff.mpr rn,fun s=>?_,?_⟩
      ·rw[pr.mem_iff,hm,zfv];constructor
       ·rintro⟨⟨t,ht,h1⟩,h2⟩;exact⟨⟨t,((rok k (Ab _)).2.1 t).mp ht,h1⟩,(hhome s (hsub s h2)).mp h2⟩
       ·rintro⟨⟨t,ht,h1⟩,h2⟩;exact⟨⟨t,((rok k (Ab _)).2.1 t).mpr ht,h1⟩,(hhome s (inL (k+1) s ⟨t,ht.1,h1⟩)).mpr h2⟩
      ·rw[Bl] at pw;exact pw
     ·rw[hR2 j z];exact rok j (by omega)
    ·unfold nks at hkeys⊢;rw[B7,hkeys,Dy,B7];congr 1
     ·refine Cg fun j hj=>?_;rw[hR2 j (by have:=Be.mp hj;omega)]
     ·rw[Nr,Nr,hR2 k (by omega)]
    ·rw[hR2 j (by omega)];by_cases z:j=k
     ·subst z;exact⟨r,Bi _ (A6.mpr rfl)⟩
     ·obtain⟨c,hc⟩:=hval j (by omega);exact⟨c,B9 _ hc⟩
    ·rw[hR2 i (by omega),hR2 j (by omega)];by_cases z:j=k
     ·subst z;exact hnew i h1
     ·exact dis i j h1 (by omega)
structure Ea(mg:Str->Option A2)(ea:Nat->A3):Prop where
 n0:mg "BadName"=some (.ref (ea 0))
 n1:mg "BadTeeth"=some (.ref (ea 1))
 n2:mg "NameTaken"=some (.ref (ea 2))
 n3:mg "BookFull"=some (.ref (ea 3))
 n4:mg "NoComb"=some (.ref (ea 4))
 n5:mg "BadTooth"=some (.ref (ea 5))
 n6:mg "ToothThere"=some (.ref (ea 6))
 n7:mg "FirstTooth"=some (.ref (ea 7))
 n8:mg "ToothMissing"=some (.ref (ea 8))
 n9:mg "DeedsFull"=some (.ref (ea 9))
 n10:mg "NothingDone"=some (.ref (ea 10))
 n11:mg "BadShape"=some (.ref (ea 11))
 n12:mg "BadPlace"=some (.ref (ea 12))
 n13:mg "BadLength"=some (.ref (ea 13))
 n14:mg "NoFilling"=some (.ref (ea 14))
noncomputable def spKind(K:Am)(ea:Nat->A3):A3->A2->Sp:=fun e c vs H Q _=>vs=[.ref e]/\∃D j,c= .ref D/\KindF K ea D j/\∀p H',Same H H'->H p=none->H' p=some (.lst [.str (errName j)])->Q (.ref p) H'
noncomputable def kb(j i:Nat):V:=.bl (decide (i=j))
noncomputable def kBools(j:Nat):List V:=(Af 15).map (kb j)
theorem kBools_eq(j:Nat):kBools j=[kb j 0,kb j 1,kb j 2,kb j 3,kb j 4,kb j 5,kb j 6,kb j 7,kb j 8,kb j 9,kb j 10,kb j 11,kb j 12,kb j 13,kb j 14]:=rfl
noncomputable def isJ(j:Nat)(v:V):Bool:=match v with
 | .int t=>decide (t.toNat=j)
 |_=>false
noncomputable def wordJ(v:V):V:=match v with
 | .int t=>.str (errName t.toNat)
 |_=>.non
theorem kind_res{j:Nat}(h:j<15):(((Af (15:Int).toNat).map fun i=>V.int (0+((i:Nat):Int))).filter (isJ j)).map wordJ=[.str (errName j)]:=by
 have all:∀j∈Af 15,(((Af (15:Int).toNat).map fun i=>V.int (0+((i:Nat):Int))).filter (isJ j)).map wordJ=[.str (errName j)]:=by decide+kernel
 exact all j (Be.mpr h)
theorem zgA:FnScope ["_law_e","_law_is_one","_law_words"] ["_law_e"] (defScope s_kind):=⟨rfl,rfl,rfl,by decide+kernel,rfl,by decide+kernel,by decide+kernel⟩
theorem ok_kind(D:DefAt K mg "_law_kind" s_kind)(T:Bn mg){ea:Nat->A3}(EA:Ea mg ea):HCallee P w K mg base "_law_kind" 1 ["_law_e"] (spKind K ea):=by
 have V_BadName:=EA.n0;have V_BadTeeth:=EA.n1;have V_NameTaken:=EA.n2;have V_BookFull:=EA.n3;have V_NoComb:=EA.n4;have V_BadTooth:=EA.n5;have V_ToothThere:=EA.n6;have V_FirstTooth:=EA.n7;have V_ToothMissing:=EA.n8;have V_DeedsFull:=EA.n9;have V_NothingDone:=EA.n10;have V_BadShape:=EA.n11;have V_BadPlace:=EA.n12;have V_BadLength:=EA.n13;have V_NoFilling:=EA.n14;refine D.hcalleeQ zgA (fun _ _ _ _ _ _=>ln1 fun _=>rfl) (fun e c vs H Q E h=>?_) (fun f cdv A outer s H vs Q e oe c ws hc hd hq h=>?_)
 ·obtain⟨rfl,_⟩:=h;rfl
 ·obtain⟨rfl,D,j,rfl,F,q⟩:=h;have S:=zgA;have pin:(e,oe)∈(cxH P w K mg base ["_law_e","_law_is_one","_law_words"] "_law_kind" (defScope s_kind) f cdv A outer s H e oe).pn/\(oe.cls= .ref D/\oe.dict=none)/\∃vs,oe.data= .fields vs:=⟨A6.mpr rfl,hc,ws,hd⟩;refine⟨_,zaF (zbg (i:=1) S.nd rfl (Ek rfl) (zbo (zag (qe (zai zaV rfl T.n_isinstance Bm (zaa (pv 0) (zaa (zbp rfl V_BadName) zae)))) (zag (qe (zai zaV rfl T.n_isinstance Bm (zaa (pv 0) (zaa (zbp rfl V_BadTeeth) zae)))) (zag (qe (zai zaV rfl T.n_isinstance Bm (zaa (pv 0) (zaa (zbp rfl V_NameTaken) zae)))) (zaC))))))
  (zaF (zbg (i:=1) S.nd rfl (Ek rfl) (zdO zb0 (qe (pv 1)) (zbo (zag (qe (zai zaV rfl T.n_isinstance Bm (zaa (pv 0) (zaa (zbp rfl V_BookFull) zae)))) (zag (qe (zai zaV rfl T.n_isinstance Bm (zaa (pv 0) (zaa (zbp rfl V_NoComb) zae)))) (zag (qe (zai zaV rfl T.n_isinstance Bm (zaa (pv 0) (zaa (zbp rfl V_BadTooth) zae)))) (zaC)))))))
  (zaF (zbg (i:=1) S.nd rfl (Ek rfl) (zdO zb0 (qe (pv 1)) (zbo (zag (qe (zai zaV rfl T.n_isinstance Bm (zaa (pv 0) (zaa (zbp rfl V_ToothThere) zae)))) (zag (qe (zai zaV rfl T.n_isinstance Bm (zaa (pv 0) (zaa (zbp rfl V_FirstTooth) zae)))) (zaC))))))
  (zaF (zbg (i:=1) S.nd rfl (Ek rfl) (zdO zb0 (qe (pv 1)) (zbo (zag (qe (zai zaV rfl T.n_isinstance Bm (zaa (pv 0) (zaa (zbp rfl V_ToothMissing) zae)))) (zag (qe (zai zaV rfl T.n_isinstance Bm (zaa (pv 0) (zaa (zbp rfl V_DeedsFull) zae)))) (zaC))))))
  (zaF (zbg (i:=1) S.nd rfl (Ek rfl) (zdO zb0 (qe (pv 1)) (zbo (zag (qe (zai zaV rfl T.n_isinstance Bm (zaa (pv 0) (zaa (zbp rfl V_NothingDone) zae)))) (zag (qe (zai zaV rfl T.n_isinstance Bm (zaa (pv 0) (zaa (zbp rfl V_BadShape) zae)))) (zaC))))))
  (zaF (zbg (i:=1) S.nd rfl (Ek rfl) (zdO zb0 (qe (pv 1)) (zbo (zag (qe (zai zaV rfl T.n_isinstance Bm (zaa (pv 0) (zaa (zbp rfl V_BadPlace) zae)))) (zag (qe (zai zaV rfl T.n_isinstance Bm (zaa (pv 0) (zaa (zbp rfl V_BadLength) zae)))) (zag (qe (zai zaV rfl T.n_isinstance Bm (zaa (pv 0) (zaa (zbp rfl V_NoFilling) zae)))) (zaC)))))))
  (zaF (zbg (i:=2) S.nd rfl (Ek rfl) (zbo (zag (qe (zaw)) (zag (qe (zaw)) (zag (qe (zaw)) (zag (qe (zaw)) (zag (qe (zaw)) (zag (qe (zaw)) (zag (qe (zaw)) (zaC))))))))))
  (zaF (zbg (i:=2) S.nd rfl (Ek rfl) (zdO zb0 (qe (pv 2)) (zbo (zag (qe (zaw)) (zag (qe (zaw)) (zag (qe (zaw)) (zag (qe (zaw)) (zag (qe (zaw)) (zaC)))))))))
  (zaF (zbg (i:=2) S.nd rfl (Ek rfl) (zdO zb0 (qe (pv 2)) (zbo (zag (qe (zaw)) (zag (qe (zaw)) (zag (qe (zaw)) (zaC)))))))
  (zfm (zgI (qe (pe_compq (own:=["_law_k"]) (caps:=[(1,"_law_is_one"),(2,"_law_words")]) (QH e oe) (fun _ _ _ _ _ _=>hq.comp) ⟨rfl,rfl,rfl,rfl,⟨⟨rfl,rfl,.inl rfl⟩,⟨rfl,rfl,.inl rfl⟩,trivial⟩⟩ (pi_range1q rfl T.n_range (zaa (zad) zae)) (fun _ _ _ _ _ _=>zal (i:=0) (zaS (by decide+kernel)) rfl (Ao rfl)) (fun _ _ _ _ _ _=>zco (zbb (zaB (zde K rfl) (pv 1) (pv 0) (fun _ _=>rfl)))) (fun _ _ _ _ _ _=>zaB (zde K rfl) (pv 2) (pv 0) (fun _ _=>rfl)))))))))))))),?_⟩
  have M:Same H H:=Same.refl H;refine⟨_,rfl,_,_,D,oe,_,rfl,pin,F.cls,F.kit 0 (by decide),_,rfl,_,_,D,oe,_,rfl,pin,F.cls,F.kit 1 (by decide),_,rfl,_,_,D,oe,_,rfl,pin,F.cls,F.kit 2 (by decide),bigr rfl,fun a0 na=>?_⟩;obtain⟨M,e1⟩:=M.lstE (o:=.lst [kb j 0,kb j 1,kb j 2]) na;clear na;refine⟨_,rfl,_,rfl,_,_,D,oe,_,rfl,pin,F.cls,F.kit 3 (by decide),_,rfl,_,_,D,oe,_,rfl,pin,F.cls,F.kit 4 (by decide),_,rfl,_,_,D,oe,_,rfl,pin,F.cls,F.kit 5 (by decide),bigr rfl,fun a1 na=>?_⟩;obtain⟨M,e2⟩:=M.lstE (o:=.lst [kb j 3,kb j 4,kb j 5]) na
  replace e1:=zbm (o:=.lst [kb j 3,kb j 4,kb j 5]) e1 na
  clear na;refine⟨_,_,_,_,rfl,rfl,e1,e2,bigr rfl,fun c1 nc=>?_⟩;obtain⟨M,e1⟩:=M.lstE (o:=.lst [kb j 0,kb j 1,kb j 2,kb j 3,kb j 4,kb j 5]) nc;clear nc e2;refine⟨_,rfl,_,rfl,_,_,D,oe,_,rfl,pin,F.cls,F.kit 6 (by decide),_,rfl,_,_,D,oe,_,rfl,pin,F.cls,F.kit 7 (by decide),bigr rfl,fun a2 na=>?_⟩;obtain⟨M,e2⟩:=M.lstE (o:=.lst [kb j 6,kb j 7]) na
  replace e1:=zbm (o:=.lst [kb j 6,kb j 7]) e1 na
  clear na;refine⟨_,_,_,_,rfl,rfl,e1,e2,bigr rfl,fun c2 nc=>?_⟩;obtain⟨M,e1⟩:=M.lstE (o:=.lst [kb j 0,kb j 1,kb j 2,kb j 3,kb j 4,kb j 5,kb j 6,kb j 7]) nc;clear nc e2;refine⟨_,rfl,_,rfl,_,_,D,oe,_,rfl,pin,F.cls,F.kit 8 (by decide),_,rfl,_,_,D,oe,_,rfl,pin,F.cls,F.kit 9 (by decide),bigr rfl,fun a3 na=>?_⟩;obtain⟨M,e2⟩:=M.lstE (o:=.lst [kb j 8,kb j 9]) na
  replace e1:=zbm (o:=.lst [kb j 8,kb j 9]) e1 na
  clear na;refine⟨_,_,_,_,rfl,rfl,e1,e2,bigr rfl,fun c3 nc=>?_⟩;obtain⟨M,e1⟩:=M.lstE (o:=.lst [kb j 0,kb j 1,kb j 2,kb j 3,kb j 4,kb j 5,kb j 6,kb j 7,kb j 8,kb j 9]) nc;clear nc e2;refine⟨_,rfl,_,rfl,_,_,D,oe,_,rfl,pin,F.cls,F.kit 10 (by decide),_,rfl,_,_,D,oe,_,rfl,pin,F.cls,F.kit 11 (by decide),bigr rfl,fun a4 na=>?_⟩;obtain⟨M,e2⟩:=M.lstE (o:=.lst [kb j 10,kb j 11]) na
  replace e1:=zbm (o:=.lst [kb j 10,kb j 11]) e1 na
  clear na;refine⟨_,_,_,_,rfl,rfl,e1,e2,bigr rfl,fun c4 nc=>?_⟩;obtain⟨M,e1⟩:=M.lstE (o:=.lst [kb j 0,kb j 1,kb j 2,kb j 3,kb j 4,kb j 5,kb j 6,kb j 7,kb j 8,kb j 9,kb j 10,kb j 11]) nc;clear nc e2;refine⟨_,rfl,_,rfl,_,_,D,oe,_,rfl,pin,F.cls,F.kit 12 (by decide),_,rfl,_,_,D,oe,_,rfl,pin,F.cls,F.kit 13 (by decide),_,rfl,_,_,D,oe,_,rfl,pin,F.cls,F.kit 14 (by decide),bigr rfl,fun a5 na=>?_⟩;obtain⟨M,e2⟩:=M.lstE (o:=.lst [kb j 12,kb j 13,kb j 14]) na
  replace e1:=zbm (o:=.lst [kb j 12,kb j 13,kb j 14]) e1 na
  clear na;refine⟨_,_,_,_,rfl,rfl,e1,e2,bigr rfl,fun c5 nc=>?_⟩;obtain⟨M,e1⟩:=M.lstE (o:=.lst [kb j 0,kb j 1,kb j 2,kb j 3,kb j 4,kb j 5,kb j 6,kb j 7,kb j 8,kb j 9,kb j 10,kb j 11,kb j 12,kb j 13,kb j 14]) nc;clear nc e2;refine⟨bigr rfl,fun w0 nw=>?_⟩;obtain⟨M,f1⟩:=M.lstE (o:=.lst [V.str (A0 "BadName"),V.str (A0 "BadTeeth"),V.str (A0 "NameTaken"),V.str (A0 "BookFull"),V.str (A0 "NoComb"),V.str (A0 "BadTooth"),V.str (A0 "ToothThere")]) nw
  replace e1:=zbm (o:=.lst [V.str (A0 "BadName"),V.str (A0 "BadTeeth"),V.str (A0 "NameTaken"),V.str (A0 "BookFull"),V.str (A0 "NoComb"),V.str (A0 "BadTooth"),V.str (A0 "ToothThere")]) e1 nw
  clear nw;refine⟨_,rfl,bigr rfl,fun w1 nw=>?_⟩;obtain⟨M,f2⟩:=M.lstE (o:=.lst [V.str (A0 "FirstTooth"),V.str (A0 "ToothMissing"),V.str (A0 "DeedsFull"),V.str (A0 "NothingDone"),V.str (A0 "BadShape")]) nw
  replace e1:=zbm (o:=.lst [V.str (A0 "FirstTooth"),V.str (A0 "ToothMissing"),V.str (A0 "DeedsFull"),V.str (A0 "NothingDone"),V.str (A0 "BadShape")]) e1 nw
  replace f1:=zbm (o:=.lst [V.str (A0 "FirstTooth"),V.str (A0 "ToothMissing"),V.str (A0 "DeedsFull"),V.str (A0 "NothingDone"),V.str (A0 "BadShape")]) f1 nw
  clear nw;refine⟨_,_,_,_,rfl,rfl,f1,f2,bigr rfl,fun x1 nx=>?_⟩;obtain⟨M,f1⟩:=M.lstE (o:=.lst [V.str (A0 "BadName"),V.str (A0 "BadTeeth"),V.str (A0 "NameTaken"),V.str (A0 "BookFull"),V.str (A0 "NoComb"),V.str (A0 "BadTooth"),V.str (A0 "ToothThere"),V.str (A0 "FirstTooth"),V.str (A0 "ToothMissing"),V.str (A0 "DeedsFull"),V.str (A0 "NothingDone"),V.str (A0 "BadShape")]) nx
  replace e1:=zbm (o:=.lst [V.str (A0 "BadName"),V.str (A0 "BadTeeth"),V.str (A0 "NameTaken"),V.str (A0 "BookFull"),V.str (A0 "NoComb"),V.str (A0 "BadTooth"),V.str (A0 "ToothThere"),V.str (A0 "FirstTooth"),V.str (A0 "ToothMissing"),V.str (A0 "DeedsFull"),V.str (A0 "NothingDone"),V.str (A0 "BadShape")]) e1 nx
  clear nx f2;refine⟨_,rfl,bigr rfl,fun w2 nw=>?_⟩;obtain⟨M,f2⟩:=M.lstE (o:=.lst [V.str (A0 "BadPlace"),V.str (A0 "BadLength"),V.str (A0 "NoFilling")]) nw
  replace e1:=zbm (o:=.lst [V.str (A0 "BadPlace"),V.str (A0 "BadLength"),V.str (A0 "NoFilling")]) e1 nw
  replace f1:=zbm (o:=.lst [V.str (A0 "BadPlace"),V.str (A0 "BadLength"),V.str (A0 "NoFilling")]) f1 nw
  clear nw;refine⟨_,_,_,_,rfl,rfl,f1,f2,bigr rfl,fun x2 nx=>?_⟩;obtain⟨M,f1⟩:=M.lstE (o:=.lst [V.str (A0 "BadName"),V.str (A0 "BadTeeth"),V.str (A0 "NameTaken"),V.str (A0 "BookFull"),V.str (A0 "NoComb"),V.str (A0 "BadTooth"),V.str (A0 "ToothThere"),V.str (A0 "FirstTooth"),V.str (A0 "ToothMissing"),V.str (A0 "DeedsFull"),V.str (A0 "NothingDone"),V.str (A0 "BadShape"),V.str (A0 "BadPlace"),V.str (A0 "BadLength"),V.str (A0 "NoFilling")]) nx
  replace e1:=zbm (o:=.lst [V.str (A0 "BadName"),V.str (A0 "BadTeeth"),V.str (A0 "NameTaken"),V.str (A0 "BookFull"),V.str (A0 "NoComb"),V.str (A0 "BadTooth"),V.str (A0 "ToothThere"),V.str (A0 "FirstTooth"),V.str (A0 "ToothMissing"),V.str (A0 "DeedsFull"),V.str (A0 "NothingDone"),V.str (A0 "BadShape"),V.str (A0 "BadPlace"),V.str (A0 "BadLength"),V.str (A0 "NoFilling")]) e1 nx
  clear nx f2;refine⟨_,rfl,by decide,by decide,fun Dc hD=>?_⟩;refine zb1 (capv:=[some (.ref c5),some (.ref x2)]) (by rfl) (zaT 0 (15:Int).toNat) (bigr rfl) hD ?_ (isJ j) wordJ ?_ ?_ ?_
  ·exact fun _ _=>trivial
  ·intro v hv H' R s' h;obtain⟨t,ht,rfl⟩:=A7.mp hv;have ht15:t<15:=Be.mp ht;refine⟨_,rfl,_,rfl,_,_,_,_,rfl,rfl,SqL.of (s' _ _ e1),(?_:atI (kBools j) (0+((t:Nat):Int))=some (kb j t)),_,rfl,?_⟩
   ·rw[Ex];refine zay ?_;unfold kBools;rw[Ad,C6 ht15];rfl
   ·have e:isJ j (.int (0+((t:Nat):Int)))=decide (t=j):=by
     show decide ((0+((t:Nat):Int)).toNat=j)=_;rw[Ex,De]
    have h:=h H' (Same.refl _);rw[e] at h;exact h
  ·intro v hv hp H' R s' h;obtain⟨t,ht,rfl⟩:=A7.mp hv;have ht15:t<15:=Be.mp ht;refine⟨_,rfl,_,rfl,_,_,_,_,rfl,rfl,SqL.of (s' _ _ f1),(?_:atI (errNames.map V.str) (0+((t:Nat):Int))=some (wordJ (.int (0+((t:Nat):Int))))),h H' (Same.refl _)⟩;rw[Ex];refine zay ?_;have hl:t<errNames.length:=ht15;show(errNames.map V.str)[t]?=some (.str (errName ((t:Nat):Int).toNat));rw[Ad,A9 hl,De];unfold errName;rw[Ai,A9 hl];rfl
  ·intro H' s' e;rw[kind_res F.lt] at e;exact q _ H' (M.trans s') (M.free hD) e
theorem at0{x y:V}:atI [x,y] 0=some x:=show atI [x,y] ((0:Nat):Int)=_ from zay rfl
theorem at1{x y:V}:atI [x,y] 1=some y:=show atI [x,y] ((1:Nat):Int)=_ from zay rfl
noncomputable def sp_refused(K:Am):Sp:=fun vs H Q _=>∃(a l:A3)(x:Str),vs=[.ref a,.str x]/\Lx x=true/\H a=some (.tup [.str (A0 "refused"),.ref l])/\H l=some (.lst [.str x])/\∀H',Same H H'->Q (.bl true) H'
theorem zdY{x:Str}(h:Lx x=true):Fj (.list [.str x])=true:=by simp[h,Fj,Fu,Cm,Ib,Ed]
theorem eqv_one(x:Str):E3 (.list [.str x]) (.list [.str x])=true:=by simp[E3,Jm]
theorem zdZ:FnScope ["_law_found","_law_due"] ["_law_found","_law_due"] (defScope s_refused):=⟨rfl,rfl,rfl,by decide+kernel,rfl,by decide+kernel,by decide+kernel⟩
theorem ok_refused(D:DefAt K mg "_law_refused" s_refused)(T:Bn mg):Callee P w K mg base "_law_refused" 2 ["_law_found","_law_due"] (sp_refused K):=by
 refine D.callee zdZ (fun _ _ _ _ _ _=>ln2 fun _ _=>rfl) (fun vs H Q E h=>?_) (fun f cdv A outer s H vs Q E hr h=>?_)
 ·obtain⟨a,l,x,rfl,_⟩:=h;rfl
 ·obtain⟨a,l,x,rfl,hok,ha,hl,q⟩:=h;have S:=zdZ;have a0:atI [V.str (A0 "refused"),V.ref l] 0=some (V.str (A0 "refused")):=at0;have a1:atI [V.str (A0 "refused"),V.ref l] 1=some (V.ref l):=at1;refine⟨_,zac (zaE (PW.pt (zcT (za9 (zbb (zai (zbr "tuple") rfl T.n_isinstance Bm (zaa (pv 0) (zaa (zbO (v:=.ty "tuple") rfl T.n_tuple Ku rfl) zae))))) (zcT (zam zc6 (zai zat rfl T.n_len C3 (zaa (pv 0) zae)) (zad) (zas _)) (zc4 (zam zc6 (zaB zaN (pv 0) (zad) (fun _ _=>rfl)) (zaw) (zas _))))))
   (zaf (zaj (zbn)))
   (zan))
  (zaf (zaj (zbF (zhB hr.units) (zaB zaN (pv 0) (zad) (fun _ _=>rfl)) (zaZ (zaa (pv 1) zae)) (zas _)))),?_⟩
  refine⟨_,rfl,_,_,true,rfl,.tup ha,rfl,_,rfl,?_⟩;refine iteF ?_;refine⟨_,rfl,_,_,rfl,.inr (SqT.of ha),rfl,_,rfl,?_⟩;refine iteF ?_;refine⟨_,rfl,_,_,_,_,rfl,rfl,SqT.of ha,a0,rfl,_,rfl,?_⟩;refine iteF ?_;refine⟨_,rfl,_,_,_,_,rfl,rfl,SqT.of ha,a1,_,rfl,bigr rfl,fun p np=>?_⟩;have s1:Same H (upd H p (.lst [.str x])):=Same.new np;refine⟨_,_,.lst (SqL.of (s1 _ _ hl)) (.cons (.str x) .nil),.lst (SqL.of zab) (.cons (.str x) .nil),zdY hok,zdY hok,?_⟩;rw[if_neg Aa,eqv_one];exact q _ s1
theorem zhF{ks:List (Str×List Int)}(nd:(ks.map (·.1)).Nodup){i:Nat}{k:Str×List Int}(h:ks[i]?=some k):cGet (ks.take i) k.1=none:=by
 rw[get_none];intro hm;obtain⟨c,hc,e⟩:=A7.mp hm;obtain⟨j,hj,ej⟩:=Em hc;have hi:=(Ar.mp h).1;have hj':j<i:=by
  have:=hj;rw[Cq] at this;omega
 have e1:(ks.map (·.1))[j]?=some k.1:=by
  rw[Ad,A9 (by omega)];rw[Hn] at ej;rw[ej];exact congrArg some e
 have e2:(ks.map (·.1))[i]?=some k.1:=by rw[Ad,h];rfl
 have:=(Ob (by rw[A4];omega) nd).mp (e1.trans e2.symm);omega
noncomputable def sp_mkbook(C:A3):Sp:=fun vs H Q _=>∃(a:A3)(ws:List V)(ks:List (Str×List Int)),vs=[.ref a]/\H a=some (.lst ws)/\Drawn (fun _=>True) H ws ks/\ks.length<=8/\
 ∀b l G past H',Same H H'->H b=none->H l=none->(∀x,G x->H x=none)->Bk C G H' b l ks past->past.length=ks.length->Q (.ref b) H'
theorem zgF:FnScope ["_law_kinds","_law_book_here","_law_word_here","_law_teeth_here"] ["_law_kinds"] (defScope s_book):=⟨rfl,rfl,rfl,by decide+kernel,rfl,by decide+kernel,by decide+kernel⟩
theorem ok_mkbook{ea:Nat->A3}{C:A3}(D:DefAt K mg "_law_book" s_book)(T:Bn mg)(BA:BookAt K C)(C_Book:Maker P w K mg base "Book" C CX0 1 ["self"] (sp_init C))(M_put:Method P w K mg base C "put" (CX1 P w) 3 ["self","name","teeth"] (sp_put (K:=K) ea C)):Callee P w K mg base "_law_book" 4 ["_law_kinds"] (sp_mkbook C):=by
 refine D.callee zgF (fun _ _ _ _ _ _=>ln1 fun _=>rfl) (fun vs H Q E h=>?_) (fun f cdv A outer s H vs Q E hr h=>?_)
 ·obtain⟨a,ws,ks,rfl,_⟩:=h;rfl
 ·obtain⟨a,ws,ks,rfl,ha,dr,hk8,q⟩:=h;have S:=zgF;have hu:=zcv hr;have B_cls:=BA.cls;have hlen:=dr.rows.length;refine⟨_,zac (zak (i:=1) S.nd rfl (Ao rfl) (pe_mk0 C_Book (hr.mono (by decide)) (by first|exact zeN|exact zaG|exact zbP|exact zaQ) rfl))
  (zac (zaY Bf rfl (zax (pv 0)) (zf0 rfl (zaL (zal (i:=2) S.nd rfl (Ao rfl)) (zaL (zal (i:=3) S.nd rfl (Ao rfl)) (zbM))))
   (zaf (zbd (zgP (pv 1) B_cls M_put (hr.mono (by decide)) (by first|exact zeN|exact zaG|exact zbP|exact zaQ) (zaa (pv 2) (zaa (zbe zcc rfl T.n_list K8 (zaa (pv 3) zae)) zae))))))
  (zaf (zaj (pv 1)))),?_⟩
  refine fun b dx nb ndx ndb=>⟨b,dx,rfl,zab,fun H1 l d m nl nd B=>⟨rfl,?_⟩⟩;have hlb:l≠b:=fun z=>by rw[z,zab] at nl;cases nl
  have nl0:H l=none:=by
   rw[zah hlb] at nl;by_cases z:l=dx
   ·rw[z];exact ndx
   ·rw[zah z] at nl;exact nl
  have hdb:d≠b:=fun z=>by rw[z,zab] at nd;cases nd
  have nd0:H d=none:=by
   rw[zah hdb] at nd;by_cases z:d=dx
   ·rw[z];exact ndx
   ·rw[zah z] at nd;exact nd
  have s1:Same H H1:=fun x o e=>m.keep x o (by rw[zah (zaq e nb),zah (zaq e ndx)];exact e) (zaq e nb) (zaq e nb);refine⟨_,rfl,_,rfl,⟨_,SqL.of (s1 _ _ ha)⟩,?_⟩;refine zbz (zap K a ws) (fun i σ H2=>Same H H2/\∃G past x2 x3,σ=[some (.ref a),some (.ref b),x2,x3]/\Bk C G H2 b l (ks.take i) past/\past.length=i/\∀x,G x->H x=none) ⟨s1,_,[],_,_,rfl,B,rfl,fun x g=>by rw[show x=d from g];exact nd0⟩ (fun i σ H2 _ h=>SqL.of (h.1 _ _ ha)) ?_ ?_
  ·rintro i x σ H2 hx⟨s2,G,past,x2,x3,rfl,B2,hp,hG⟩;obtain⟨k,qa,t,hk,rfl,hq,ht⟩:=(dr.same s2).rows.get hx;have hi:i<ks.length:=(Ar.mp hk).1;obtain⟨hkn,hkg⟩:=dr.good k (B0 hk);obtain⟨dx2,d2,hb2,_⟩:=id B2.ins;refine⟨qa,_,rfl,SqL.of hq,rfl,_,_,rfl,_,_,rfl,rfl,?_⟩;refine⟨_,rfl,b,dx2,_,rfl,hb2,rfl,_,rfl,_,rfl,t,_,rfl,.inl (SqL.of ht),fun p np=>?_⟩;have s3:Same H2 (upd H2 p (.lst (k.2.map V.int))):=Same.new np;refine⟨b,l,G,_,past,k.1,p,k.2,rfl,B2.same s3,SqL.of zab,?_,?_,?_⟩
   ·exact big (by have:=name_len hkn;omega)
   ·have:=zg6 hkg;omega
   have hlt:(ks.take i).length=i:=by rw[Cq];omega
   have e:putD (ks.take i) past k.1 k.2= .ok (ks.take (i+1)):=by
    unfold putD full;rw[if_neg (by rw[hkn];decide),if_neg (by rw[gt_teeth hkg];decide),zhF dr.nd hk,if_neg (by simp),if_neg (by omega),if_neg (by omega),zgK (zhF dr.nd hk),gt_eq hkg,zaz hk]
   rw[e];intro H4 G4 m4 B4;refine⟨fun x o e'=>m4.keep x o (s3 _ _ (s2 _ _ e')) (zaq e' nb) (zaq e' nl0),G4,_,_,_,rfl,B4,by rw[Ag,Bq,hp],fun x g=>?_⟩;rcases m4.new x g with g|g
   ·exact hG x g
   ·exact(s2.trans s3).free g
  ·rintro σ H2⟨s2,G,past,x2,x3,rfl,B2,hp,hG⟩;rw[Im (by omega)] at B2;exact⟨_,rfl,q b l G past H2 s2 nb nl0 hG B2 (by omega)⟩
noncomputable def tellT(Q:VK):VK:=fun v H1=>(2:Nat)<=sizeLine/\∀p,H1 p=none->Q (.ref p) (upd H1 p (.tup [.str (A0 "told"),v]))
noncomputable def refuT(K:Am)(ea:Nat->A3)(ce:A2)(Q:VK):XK:=fun c _ H1=>∃D j,c= .ref D/\KindF K ea D j/\Ix K (.ref D) ce=some true/\∀p l H2,Same H1 H2->H1 l=none->H2 l=some (.lst [.str (errName j)])->H2 p=none->Q (.ref p) (upd H2 p (.tup [.str (A0 "refused"),.ref l]))
noncomputable def spTry1(K:Am)(ea:Nat->A3)(ce:A2)(C:A3)(m:Str)(sp:Sp):Sp:=fun vs H Q _=>∃b x dx fs,vs=[.ref b,x]/\H b=some (.ins C dx fs)/\fs.lookup m=none/\sp [.ref b,x] H (tellT Q) (refuT K ea ce Q)
noncomputable def spTry2(K:Am)(ea:Nat->A3)(ce:A2)(C:A3)(m:Str)(sp:Sp):Sp:=fun vs H Q _=>∃b x y dx fs,vs=[.ref b,x,y]/\H b=some (.ins C dx fs)/\fs.lookup m=none/\sp [.ref b,x,y] H (tellT Q) (refuT K ea ce Q)
noncomputable def spTry0(K:Am)(ea:Nat->A3)(ce:A2)(C:A3)(m:Str)(sp:Sp):Sp:=fun vs H Q _=>∃b dx fs,vs=[.ref b]/\H b=some (.ins C dx fs)/\fs.lookup m=none/\sp [.ref b] H (tellT Q) (refuT K ea ce Q)
noncomputable def spTryF(K:Am)(ea:Nat->A3)(ce:A2)(sp:Sp):Sp:=fun vs H Q _=>∃x y,vs=[x,y]/\sp [x,y] H (tellT Q) (refuT K ea ce Q)
theorem zfX:FnScope ["_law_book_here","_law_length","_law_e"] ["_law_book_here","_law_length"] (defScope s_asked):=⟨rfl,rfl,rfl,by decide+kernel,rfl,by decide+kernel,by decide+kernel⟩
theorem ok_tasked(D:DefAt K mg "_law_asked" s_asked)(T:Bn mg){ea:Nat->A3}{ce:A2}{sp:Sp}(V_CombError:mg "CombError"=some ce)(C_kind:HCallee P w K mg base "_law_kind" 1 ["_law_e"] (spKind K ea))
  (C_first_filling:Callee1 P w K mg base "first_filling" 5 ["book","length"] sp):Callee P w K mg base "_law_asked" 6 ["_law_book_here","_law_length"] (spTryF K ea ce sp):=by
 refine D.callee zfX (fun _ _ _ _ _ _=>ln2 fun _ _=>rfl) (fun vs H Q E h=>?_) (fun f cdv A outer s H vs Q E hr h=>?_)
 ·obtain⟨x,y,rfl,_⟩:=h;rfl
 ·obtain⟨x,y,rfl,h⟩:=h;have S:=zfX;refine⟨_,zaf (ps_try (i:=2) rfl rfl S.nd rfl rfl rfl V_CombError (fun E pn=>zaf (zaj (zbi (zaa (zaw) (zaa (zbZ C_first_filling (hr.mono (by decide)) (by first|exact zaG|exact zbP|exact zaQ) rfl (zaa (pv 0) (zaa (pv 1) zae))) zae)))))
   (fun x c ox pn vs hc hd h2 hx=>zaf (zaj (zbi (zaa (zaw) (zaa (pe_hand C_kind hr hx hc hd h2 (by decide) rfl (zaa (pv 2) zae)) zae)))))),?_⟩
  refine⟨refuT K ea ce Q,⟨_,rfl,_,rfl,h⟩,fun c H' x' hE hx'=>?_⟩;obtain⟨Dd,j,rfl,kf,he,q⟩:=hE;refine⟨he,_,rfl,rfl,Dd,j,rfl,kf,fun p H2 s2 n2 e2=>⟨bigr rfl,fun p' np'=>?_⟩⟩;exact q p' p H2 s2 n2 e2 np'
theorem ej_re{K:Am}{ea:Nat->A3}{ce:A2}{j:Nat}(e:EJ K ea ce j){Q:VK}{H:Hp}(q:∀p l H2,Same H H2->H l=none->H2 l=some (.lst [.str (errName j)])->H2 p=none->Q (.ref p) (upd H2 p (.tup [.str (A0 "refused"),.ref l]))):refuT K ea ce Q (.ref (ea j)) none H:=⟨ea j,j,rfl,e.kf,e.ex,q⟩
noncomputable def Ans(H:Hp)(fd:A3):Except Nat Int->Prop
 | .ok n=>H fd=some (.tup [.str (A0 "told"),.int n])
 | .error j=>∃le,H fd=some (.tup [.str (A0 "refused"),.ref le])/\H le=some (.lst [.str (errName j)])
theorem Ans.same{H H':Hp}{fd:A3}{r:Except Nat Int}(a:Ans H fd r)(s:Same H H'):Ans H' fd r:=by
 cases r with
 |ok n=>exact s _ _ a
 |error j=>obtain⟨le,h1,h2⟩:=a;exact⟨le,s _ _ h1,s _ _ h2⟩
theorem zhH{K:Am}{ea:Nat->A3}{ce:A2}{j:Nat}(e:EJ K ea ce j){Q:VK}{H:Hp}(q:∀fd H2,Same H H2->Ans H2 fd (.error j)->Q (.ref fd) H2):refuT K ea ce Q (.ref (ea j)) none H:=
 ej_re e fun p le H2 s nle hle np=>q p _ (s.put (s.free np)) ⟨le,zab,by rw[zah (zaq hle np)];exact hle⟩
noncomputable def csOf(r:Except Nat Combs)(cs:Combs):Combs:=match r with
 | .ok c=>c
 | .error _=>cs
noncomputable def pastOf(r:Except Nat Combs)(cs:Combs)(past:List Combs):List Combs:=match r with
 | .ok _=>past++[cs]
 | .error _=>past
noncomputable def ansOf(r:Except Nat Combs)(past:List Combs):Except Nat Int:=match r with
 | .ok _=>.ok ((past.length:Int)+1)
 | .error j=>.error j
theorem deed_try{K:Am}{ea:Nat->A3}{ce:A2}{C b l:A3}{G:A3->Prop}{H:Hp}{cs:Combs}{past:List Combs}{Q:VK}{r:Except Nat Combs}(B:Bk C G H b l cs past)(ej:∀j,r= .error j->EJ K ea ce j)
  (q:∀Hx fd Gx,Mv b l G Gx H Hx->Bk C Gx Hx b l (csOf r cs) (pastOf r cs past)->Ans Hx fd (ansOf r past)->Q (.ref fd) Hx):Deed ea C G H b l cs past (tellT Q) (refuT K ea ce Q) r:=by
 cases r with
 |error j=>
  intro H' s;exact zhH (ej j rfl) fun fd H2 s2 a=>q H2 fd G (Mv.ofSame (s.trans s2)) (B.same (s.trans s2)) a
 |ok cs'=>
  intro H' G' m B';refine⟨bigr rfl,fun p np=>?_⟩;have s2:Same H' (upd H' p (.tup [.str (A0 "told"),.int ((past.length:Int)+1)])):=Same.new np;exact q _ p G' (m.trans (Mv.ofSame s2)) (B'.same s2) zab
noncomputable def spLaw(K:Am):Sp:=fun vs H Q _=>∃(a:A3)(ns:List Int),vs=[.ref a]/\SqL K H a (ns.map V.int)/\ns.length<=63/\∀H',Q (.bl true) H'
noncomputable def sp_laying:Sp:=fun vs H Q _=>∃(q:A3)(a:Int)(x:Str),vs=[.ref q]/\H q=some (.tup [.int a,.str x])/\Q (.bl true) H
theorem zeG:FnScope ["_law_one"] ["_law_one"] (defScope s_laying):=⟨rfl,rfl,rfl,by decide+kernel,rfl,by decide+kernel,by decide+kernel⟩
theorem ok_laying(D:DefAt K mg "_law_laying" s_laying)(T:Bn mg)(C_whole:Callee P w K mg base "_law_whole" 1 ["_law_found"] sp_whole):Callee P w K mg base "_law_laying" 2 ["_law_one"] sp_laying:=by
 refine D.callee zeG (fun _ _ _ _ _ _=>ln1 fun _=>rfl) (fun vs H Q E h=>?_) (fun f cdv A outer s H vs Q E hr h=>?_)
 ·obtain⟨qa,a,x,rfl,_⟩:=h;rfl
 ·obtain⟨qa,a,x,rfl,hq,q⟩:=h;have S:=zeG;refine⟨_,zac (zaE (PW.pt (zcT (za9 (zbb (zai (zbr "tuple") rfl T.n_isinstance Bm (zaa (pv 0) (zaa (zbO (v:=.ty "tuple") rfl T.n_tuple Ku rfl) zae))))) (zc4 (zam zc6 (zai zat rfl T.n_len C3 (zaa (pv 0) zae)) (zad) (zas _)))))
   (zaf (zaj (zbn)))
   (zan))
  (zaf (zaj (zd5 (zaA C_whole (hr.mono (by decide)) rfl (zaa (zaB zaN (pv 0) (zad) (fun _ _=>rfl)) zae)) (zeM (zai (zbr "str") rfl T.n_isinstance Bm (zaa (zaB zaN (pv 0) (zad) (fun _ _=>rfl)) (zaa (zbO (v:=.ty "str") rfl T.n_str boot_str rfl) zae))))))),?_⟩
  refine⟨_,rfl,_,_,true,rfl,.tup hq,rfl,_,rfl,?_⟩;refine iteF ?_;refine⟨_,rfl,_,_,rfl,.inr (SqT.of hq),rfl,_,rfl,?_⟩;refine iteF ?_;refine⟨_,rfl,_,_,_,_,rfl,rfl,SqT.of hq,at0,a,rfl,_,rfl,?_⟩;refine iteT ?_;exact⟨_,rfl,_,_,_,_,rfl,rfl,SqT.of hq,at1,_,_,true,rfl,.str x,rfl,q⟩
noncomputable def sp_layings:Sp:=fun vs H Q _=>∃(p:A3)(ws:List V),vs=[.ref p]/\H p=some (.lst ws)/\(∀(i:Nat)x,ws[i]?=some x->∃q a s,x= .ref q/\H q=some (.tup [.int a,.str s]))/\Q (.bl true) H
theorem zd0:FnScope ["_law_found","_law_one"] ["_law_found"] (defScope s_layings):=⟨rfl,rfl,rfl,by decide+kernel,rfl,by decide+kernel,by decide+kernel⟩
theorem ok_layings(D:DefAt K mg "_law_layings" s_layings)(T:Bn mg)(C_laying:Callee P w K mg base "_law_laying" 2 ["_law_one"] sp_laying):Callee P w K mg base "_law_layings" 3 ["_law_found"] sp_layings:=by
 refine D.callee zd0 (fun _ _ _ _ _ _=>ln1 fun _=>rfl) (fun vs H Q E h=>?_) (fun f cdv A outer s H vs Q E hr h=>?_)
 ·obtain⟨p,ws,rfl,_⟩:=h;rfl
 ·obtain⟨p,ws,rfl,hp,hw,q⟩:=h;have S:=zd0;refine⟨_,zac (zaE (za9 (zbb (zai (zbr "list") rfl T.n_isinstance Bm (zaa (pv 0) (zaa (zbO (v:=.ty "list") rfl T.n_list K8 rfl) zae)))))
   (zaf (zaj (zbn)))
   (zan))
  (zac (zaY Bf rfl (zax (pv 0)) (zal (i:=1) S.nd rfl (Ao rfl))
   (zaf (zaE (za9 (zbb (zaA C_laying (hr.mono (by decide)) rfl (zaa (pv 1) zae))))
    (zaf (zaj (zbn)))
    (zan))))
  (zaf (zaj (zbn)))),?_⟩
  refine⟨_,rfl,_,_,true,rfl,.lst hp,rfl,_,rfl,?_⟩;refine iteF ?_;refine⟨_,rfl,_,rfl,⟨_,SqL.of hp⟩,?_⟩;refine zbz (zap K p ws) (fun i σ Hx=>Hx=H/\∃x1,σ=[some (.ref p),x1]) ⟨rfl,_,rfl⟩ (fun i σ Hx _ h=>by rw[h.1];exact SqL.of hp) ?_ ?_
  ·rintro i x σ Hx hx⟨rfl,x1,rfl⟩;obtain⟨qa,a,x',rfl,e⟩:=hw i x hx;refine⟨_,rfl,qa,a,x',rfl,e,_,rfl,?_⟩;refine iteF ?_;exact⟨rfl,_,rfl⟩
  ·rintro σ Hx⟨rfl,x1,rfl⟩;exact q
theorem at4{x y z u:V}:atI [x,y,z,u] 0=some x/\atI [x,y,z,u] 1=some y/\atI [x,y,z,u] 2=some z/\atI [x,y,z,u] 3=some u:=⟨show atI _ ((0:Nat):Int)=_ from zay rfl,show atI _ ((1:Nat):Int)=_ from zay rfl,show atI _ ((2:Nat):Int)=_ from zay rfl,show atI _ ((3:Nat):Int)=_ from zay rfl⟩
theorem lays_each{H:Hp}{ws:List V}{nm:Nat->Str}{n:Nat}(r:LaysR H ws nm n):∀(i:Nat)x,ws[i]?=some x->∃q a s,x= .ref q/\H q=some (.tup [.int a,.str s]):=fun i x h=>by
 obtain⟨j,_,q,e1,e2⟩:=C5.rev r h;exact⟨q,_,_,e1,e2⟩
noncomputable def sp_fit:Sp:=fun vs H Q _=>∃(fl:A3)(i m n:Nat)(F:Nat->Bool),vs=[.ref fl,.int (i:Nat),.int (n:Nat)]/\H fl=some (.lst ((Af m).map fun k=>V.bl (F k)))/\i<m/\(∀k,i<=k->F (k+(m-i))=F k)/\Q (.bl (F n)) H
theorem zgO{F:Nat->Bool}{i p:Nat}(h:∀k,i<=k->F (k+p)=F k)(r:Nat):∀j,F (i+r+j*p)=F (i+r)
 |0=>by rw[Q3,Km]
 |j+1=>by rw[Gr,<-F9,h _ (by omega),zgO h r j]
theorem zhv:FnScope ["_law_fits_here","_law_again","_law_length"] ["_law_fits_here","_law_again","_law_length"] (defScope s_fit):=⟨rfl,rfl,rfl,by decide+kernel,rfl,by decide+kernel,by decide+kernel⟩
theorem ok_fit(D:DefAt K mg "_law_fit" s_fit)(T:Bn mg):Callee P w K mg base "_law_fit" 1 ["_law_fits_here","_law_again","_law_length"] sp_fit:=by
 refine D.callee zhv (fun _ _ _ _ _ _=>ln3 fun _ _ _=>rfl) (fun vs H Q E h=>?_) (fun f cdv A outer s H vs Q E hr h=>?_)
 ·obtain⟨fl,i,m,n,F,rfl,_⟩:=h;rfl
 ·obtain⟨fl,i,m,n,F,rfl,hfl,him,per,q⟩:=h;have S:=zhv;have hfat:∀n,n<m->((Af m).map fun k=>V.bl (F k))[n]?=some (V.bl (F n)):=fun n hn=>by rw[Ad,C6 hn];rfl
  have elen:(((Af m).map fun k=>V.bl (F k)).length:Int)=((m:Nat):Int):=by rw[A4,Ax]
  refine⟨_,zac (zaE (zam zgT (pv 2) (zai zat rfl T.n_len C3 (zaa (pv 0) zae)) (zas _))
   (zaf (zaj (zaB zaO (pv 0) (pv 2) (fun _ _=>rfl))))
   (zan))
  (zaf (zaj (zaB zaO (pv 0) (zau zbf (pv 1) (zau za5 (zau zdt (pv 2) (pv 1)) (zau zdt (zai zat rfl T.n_len C3 (zaa (pv 0) zae)) (pv 1)))) (fun _ _=>rfl)))),?_⟩
  refine⟨_,rfl,_,rfl,_,_,rfl,.inl (SqL.of hfl),_,_,rfl,rfl,_,rfl,?_⟩;rw[elen];by_cases h:n<m
  ·rw[decide_eq_true (show((n:Nat):Int)<((m:Nat):Int) by omega)];refine iteT ?_;exact⟨_,rfl,_,rfl,_,_,_,_,rfl,rfl,SqL.of hfl,zay (hfat n h),q⟩
  ·rw[decide_eq_false (show¬((n:Nat):Int)<((m:Nat):Int) by omega)];refine iteF ?_;have hp:(0:Int)<(((Af m).map fun k=>V.bl (F k)).length:Int)-((i:Nat):Int):=by rw[elen];omega
   refine⟨_,rfl,_,rfl,_,rfl,_,rfl,_,_,rfl,rfl,_,rfl,_,_,rfl,.inl (SqL.of hfl),_,rfl,_,_,rfl,rfl,_,_,rfl,rfl,hp,_,_,rfl,rfl,_,_,_,_,rfl,rfl,SqL.of hfl,?_,q⟩;have e:((i:Nat):Int)+(((n:Nat):Int)-((i:Nat):Int))%((((List.range m).map fun k=>V.bl (F k)).length:Int)-((i:Nat):Int))=((i+(n-i)%(m-i):Nat):Int):=by
    rw[elen,show((n:Nat):Int)-((i:Nat):Int)=((n-i:Nat):Int) by omega,show((m:Nat):Int)-((i:Nat):Int)=((m-i:Nat):Int) by omega,<-Int.natCast_emod];omega
   rw[e];have hlt:=Rw (n-i) (show 0<m-i by omega);have ef:F n=F (i+(n-i)%(m-i)):=by
    have:=zgO per ((n-i)%(m-i)) ((n-i) / (m-i));rw[<-this];congr 1;have:=F5 (n-i) (m-i);rw[J5] at this;omega
   rw[ef];exact zay (hfat _ (by omega))
theorem filB_per{C:Combs}(g:GC C){i m:Nat}(him:i<m)(hp:∀s,HR C i s↔HR C m s)(k:Nat)(hk:i<=k):filB C (k+(m-i))=filB C k:=by
 rw[Ay,zev g,zev g];have:=zg3 hp (k-i) 0;rw[zg4,zg4,show i+(k-i)=k by omega,show m+(k-i)=k+(m-i) by omega] at this;exact this.symm
theorem in_natsS(n:Nat)(ls:List Nat):inV (V.int (n:Nat)) (ls.map fun s=>V.int (s:Nat))=decide (n∈ls):=by
 unfold inV;rw[Ip,Ay,Bp,decide_eq_true_eq];constructor
 ·rintro⟨s,h1,h2⟩;have:(s:Int)=(n:Nat):=by simpa[eqV] using h2
  rw[show n=s by omega];exact h1
 ·exact fun h=>⟨n,h,by simp[eqV]⟩
noncomputable def saidB(u st:Nat)(ls:List Nat)(n:Nat):Bool:=if n<=u then decide (n∈ls) else(decide (0<st)&&decide (n%st=0))
noncomputable def sp_said:Sp:=fun vs H Q _=>∃(t sl:A3)(u st:Nat)(ls:List Nat)(n:Nat),vs=[.ref t,.int (n:Nat)]/\H t=some (.tup [.int (u:Nat),.ref sl,.int (st:Nat)])/\H sl=some (.lst (ls.map fun s=>V.int (s:Nat)))/\Q (.bl (saidB u st ls n)) H
theorem zgy:FnScope ["_law_told","_law_length"] ["_law_told","_law_length"] (defScope s_said):=⟨rfl,rfl,rfl,by decide+kernel,rfl,by decide+kernel,by decide+kernel⟩
theorem ok_said(D:DefAt K mg "_law_said" s_said)(T:Bn mg):Callee P w K mg base "_law_said" 1 ["_law_told","_law_length"] sp_said:=by
 refine D.callee zgy (fun _ _ _ _ _ _=>ln2 fun _ _=>rfl) (fun vs H Q E h=>?_) (fun f cdv A outer s H vs Q E hr h=>?_)
 ·obtain⟨t,sl,u,st,ls,n,rfl,_⟩:=h;rfl
 ·obtain⟨t,sl,u,st,ls,n,rfl,ht,hsl,q⟩:=h;have S:=zgy;unfold saidB at q;have a0:atI [V.int (u:Nat),V.ref sl,V.int (st:Nat)] 0=some (V.int (u:Nat)):=rfl;have a1:atI [V.int (u:Nat),V.ref sl,V.int (st:Nat)] 1=some (V.ref sl):=rfl;have a2:atI [V.int (u:Nat),V.ref sl,V.int (st:Nat)] 2=some (V.int (st:Nat)):=rfl;refine⟨_,zac (zaE (zam zcV (pv 1) (zaB zaN (pv 0) (zad) (fun _ _=>rfl)) (zas _))
   (zaf (zaj (zbF zb8 (pv 1) (zaB zaN (pv 0) (zad) (fun _ _=>rfl)) (by with_unfolding_all rfl))))
   (zan))
  (zaf (zaj (zd5 (zbF zeQ (zaB zaN (pv 0) (zad) (fun _ _=>rfl)) (zad) (zas _)) (zeM (zbF zcj (zau za5 (pv 1) (zaB zaN (pv 0) (zad) (fun _ _=>rfl))) (zad) (zas _)))))),?_⟩
  refine⟨_,rfl,_,rfl,_,_,_,_,rfl,rfl,SqT.of ht,a0,_,_,rfl,rfl,_,rfl,?_⟩;refine ite2 (fun h=>?_) (fun h=>?_)
  ·have h:n<=u:=by have:=of_decide_eq_true h;omega
   rw[if_pos h] at q;refine⟨_,rfl,_,rfl,_,_,_,_,rfl,rfl,SqT.of ht,a1,_,_,rfl,.inl (SqL.of hsl),rfl,by simp[flatV],?_⟩;rw[if_neg Aa,in_natsS];exact q
  ·have h:¬n<=u:=fun z=>h (decide_eq_true (by omega));rw[if_neg h] at q;refine⟨_,rfl,_,_,_,_,rfl,rfl,SqT.of ht,a2,_,_,rfl,rfl,_,rfl,?_⟩;refine ite2 (fun h=>?_) (fun h=>?_)
   ·have h:0<st:=by have:=of_decide_eq_true h;omega
    rw[decide_eq_true h,F6] at q;refine⟨_,rfl,_,rfl,_,_,_,_,rfl,rfl,SqT.of ht,a2,_,_,rfl,rfl,by omega,rfl,?_⟩;rw[zgi,show decide (((n:Nat):Int)%((st:Nat):Int)=0)=decide (n%st=0) from decide_eq_decide.mpr (by omega)];exact q
   ·have h:¬0<st:=fun z=>h (decide_eq_true (by omega));rw[decide_eq_false h,Eo] at q;exact q
noncomputable def sp_form:Sp:=fun vs H Q _=>∃(t sl:A3)(u st:Nat)(ls:List Nat),vs=[.ref t]/\H t=some (.tup [.int (u:Nat),.ref sl,.int (st:Nat)])/\H sl=some (.lst (ls.map fun s=>V.int (s:Nat)))/\(∀n∈ls,st∣n)/\Q (.bl true) H
theorem zgD:FnScope ["_law_told","_law_one"] ["_law_told"] (defScope s_form):=⟨rfl,rfl,rfl,by decide+kernel,rfl,by decide+kernel,by decide+kernel⟩
theorem ok_form(D:DefAt K mg "_law_form" s_form)(T:Bn mg)(C_whole:Callee P w K mg base "_law_whole" 1 ["_law_found"] sp_whole):Callee P w K mg base "_law_form" 2 ["_law_told"] sp_form:=by
 refine D.callee zgD (fun _ _ _ _ _ _=>ln1 fun _=>rfl) (fun vs H Q E h=>?_) (fun f cdv A outer s H vs Q E hr h=>?_)
 ·obtain⟨t,sl,u,st,ls,rfl,_⟩:=h;rfl
 ·obtain⟨t,sl,u,st,ls,rfl,ht,hsl,hd,q⟩:=h;have S:=zgD;have a0:atI [V.int (u:Nat),V.ref sl,V.int (st:Nat)] 0=some (V.int (u:Nat)):=rfl;have a1:atI [V.int (u:Nat),V.ref sl,V.int (st:Nat)] 1=some (V.ref sl):=rfl;have a2:atI [V.int (u:Nat),V.ref sl,V.int (st:Nat)] 2=some (V.int (st:Nat)):=rfl;refine⟨_,zac (zaE (PW.pt (zcT (za9 (zbb (zai (zbr "tuple") rfl T.n_isinstance Bm (zaa (pv 0) (zaa (zbO (v:=.ty "tuple") rfl T.n_tuple Ku rfl) zae))))) (zcT (zam zc6 (zai zat rfl T.n_len C3 (zaa (pv 0) zae)) (zad) (zas _)) (zc4 (za9 (zbb (zai (zbr "list") rfl T.n_isinstance Bm (zaa (zaB zaN (pv 0) (zad) (fun _ _=>rfl)) (zaa (zbO (v:=.ty "list") rfl T.n_list K8 rfl) zae)))))))))
   (zaf (zaj (zbn)))
   (zan))
  (zac (zaE (PW.pt (zcT (za9 (zbb (zaA C_whole (hr.mono (by decide)) rfl (zaa (zaB zaN (pv 0) (zad) (fun _ _=>rfl)) zae)))) (zcT (za9 (zbb (zaA C_whole (hr.mono (by decide)) rfl (zaa (zaB zaN (pv 0) (zad) (fun _ _=>rfl)) zae)))) (zc4 (zam zgT (zaB zaN (pv 0) (zad) (fun _ _=>rfl)) (zad) (zas _))))))
   (zaf (zaj (zbn)))
   (zan))
  (zac (zaY Bf rfl (zax (zaB zaN (pv 0) (zad) (fun _ _=>rfl))) (zal (i:=1) S.nd rfl (Ao rfl))
   (zac (zaE (PW.pt (zcT (za9 (zbb (zaA C_whole (hr.mono (by decide)) rfl (zaa (pv 1) zae)))) (zc4 (PW.pt (zgJ (zam zcj (zaB zaN (pv 0) (zad) (fun _ _=>rfl)) (zad) (zas _)) (zfn (zam zc6 (pv 1) (zad) (zas _))))))))
    (zaf (zaj (zbn)))
    (zan))
   (zaf (zaE (PW.pt (zgJ (zam zeQ (zaB zaN (pv 0) (zad) (fun _ _=>rfl)) (zad) (zas _)) (zfn (zam zc6 (zau za5 (pv 1) (zaB zaN (pv 0) (zad) (fun _ _=>rfl))) (zad) (zas _)))))
    (zaf (zaj (zbn)))
    (zan)))))
  (zaf (zaj (zbn))))),?_⟩
  refine⟨_,rfl,_,_,true,rfl,.tup ht,rfl,_,rfl,?_⟩;refine iteF ?_;refine⟨_,rfl,_,_,rfl,.inr (SqT.of ht),rfl,_,rfl,?_⟩;refine iteF ?_;refine⟨_,rfl,_,_,_,_,rfl,rfl,SqT.of ht,a1,_,_,true,rfl,.lst hsl,rfl,_,rfl,?_⟩;refine iteF ?_;refine⟨_,rfl,_,_,_,_,rfl,rfl,SqT.of ht,a0,_,rfl,_,rfl,?_⟩;refine iteF ?_;refine⟨_,rfl,_,_,_,_,rfl,rfl,SqT.of ht,a2,_,rfl,_,rfl,?_⟩;refine iteF ?_;refine⟨_,rfl,_,_,_,_,rfl,rfl,SqT.of ht,a2,_,_,rfl,rfl,_,rfl,?_⟩;rw[decide_eq_false (show¬((st:Nat):Int)<0 by omega)];refine iteF ?_;refine⟨_,rfl,_,_,_,_,rfl,rfl,SqT.of ht,a1,_,rfl,⟨_,SqL.of hsl⟩,?_⟩;refine zbz (zap K sl (ls.map fun s=>V.int (s:Nat))) (fun i σ Hx=>Hx=H/\∃x1,σ=[some (.ref t),x1]) ⟨rfl,_,rfl⟩ (fun i σ Hx _ h=>by rw[h.1];exact SqL.of hsl) ?_ ?_
  ·rintro i y σ Hx hy⟨rfl,x1,rfl⟩;rw[Ad] at hy
   cases hn:ls[i]? with
   |none=>rw[hn] at hy;cases hy
   |some n=>
    rw[hn] at hy
    cases hy
    have hdn:=hd n (B0 hn);refine⟨_,rfl,_,rfl,_,rfl,?_⟩;refine iteF ?_;refine⟨_,rfl,_,_,_,_,rfl,rfl,SqT.of ht,a2,rfl,_,rfl,?_⟩;have fin:∃v H1,v=V.ref t/\H1=Hx:=⟨_,_,rfl,rfl⟩;rw[zgi];by_cases h0:st=0
    ·subst h0;have hn0:n=0:=Nat.zero_dvd.mp hdn;subst hn0;rw[decide_eq_true (show(((0:Nat):Int))=0 from rfl)];refine iteT ?_;refine⟨_,rfl,rfl,_,rfl,?_⟩;refine iteF ?_;refine⟨_,rfl,_,_,_,_,rfl,rfl,SqT.of ht,a2,_,_,rfl,rfl,_,rfl,?_⟩;refine iteF (iteF ⟨rfl,_,rfl⟩)
    ·rw[decide_eq_false (show¬((st:Nat):Int)=0 by omega)];refine iteF (iteF ?_);refine⟨_,rfl,_,_,_,_,rfl,rfl,SqT.of ht,a2,_,_,rfl,rfl,_,rfl,?_⟩;rw[decide_eq_true (show(0:Int)<((st:Nat):Int) by omega)];refine iteT ?_;refine⟨_,rfl,_,rfl,_,_,_,_,rfl,rfl,SqT.of ht,a2,_,_,rfl,rfl,by omega,rfl,_,rfl,?_⟩;have e:((n:Nat):Int)%((st:Nat):Int)=0:=by
      have:=Mw hdn;omega
     rw[zgi,e,decide_eq_true rfl];exact iteF ⟨rfl,_,rfl⟩
  ·rintro σ Hx⟨rfl,x1,rfl⟩;exact q
theorem errs_ok:∀j,j<15->Lx (errName j)=true/\errName j≠A0 "":=by decide+kernel
theorem lays_each2{H:Hp}{ws:List V}{nm:Nat->Str}{n:Nat}(r:LaysR H ws nm n):∀(i:Nat)x,ws[i]?=some x->∃q a s,x= .ref q/\H q=some (.tup [.int a,.str s]):=fun i x h=>by
 obtain⟨j,_,q,e1,e2⟩:=C5.rev r h;exact⟨q,_,_,e1,e2⟩
noncomputable def sp_borne(C:A3):Sp:=fun vs H Q _=>∃(b l pk:A3)(G:A3->Prop)(cs:Combs)(past:List Combs)(ws:List V)(n:Nat),vs=[.ref b,.ref pk,.int (n:Nat),.bl (decide (0<Wy (srt cs) n 0))]/\Bk C G H b l cs past/\H pk=some (.lst ws)/\Drawn (fun _=>True) H ws cs/\n<=200/\∀H',Same H H'->Q (.bl true) H'
theorem zfW:FnScope ["_law_book_here","_law_kinds","_law_length","_law_due","_law_many","_law_found"] ["_law_book_here","_law_kinds","_law_length","_law_due"] (defScope s_borne):=⟨rfl,rfl,rfl,by decide+kernel,rfl,by decide+kernel,by decide+kernel⟩
theorem ok_borne{ea:Nat->A3}{ce:A2}{C:A3}(D:DefAt K mg "_law_borne" s_borne)(T:Bn mg)(E14:EJ K ea ce 14)(C_count_fillings:Callee1 P w K mg base "count_fillings" 5 ["book","length"] (sp_count ea C))(C_whole:Callee P w K mg base "_law_whole" 1 ["_law_found"] sp_whole)(C_asked:Callee P w K mg base "_law_asked" 6 ["_law_book_here","_law_length"] (spTryF K ea ce (sp_ffill ea C)))(C_refused:Callee P w K mg base "_law_refused" 2 ["_law_found","_law_due"] (sp_refused K))(C_layings:Callee P w K mg base "_law_layings" 3 ["_law_found"] sp_layings)(C_covers:Callee P w K mg base "_law_covers" 2 ["_law_kinds","_law_layings_here","_law_length"] sp_covers):Callee P w K mg base "_law_borne" 7 ["_law_book_here","_law_kinds","_law_length","_law_due"] (sp_borne C):=by
 refine D.callee zfW (fun _ _ _ _ _ _=>ln4 fun _ _ _ _=>rfl) (fun vs H Q E h=>?_) (fun f cdv A outer s H vs Q E hr h=>?_)
 ·obtain⟨b,l,pk,G,cs,past,ws,n,rfl,_⟩:=h;rfl
 ·obtain⟨b,l,pk,G,cs,past,ws,n,rfl,B,hpk,dr,hn,q⟩:=h;have S:=zfW;have gc:GC cs:=fun c hc=>(dr.good c hc).2;have pm:=zeg dr.nd;have gcs:GC (srt cs):=fun c hc=>gc c (pm.mem_iff.mp hc);have ne:∀c∈srt cs,c.1≠A0 "":=fun c hc z=>by
   have:=(dr.good c (pm.mem_iff.mp hc)).1;rw[z] at this;exact absurd this (by decide+kernel)
  have nds:((srt cs).map (·.1)).Nodup:=(pm.map _).nodup_iff.mpr dr.nd;have h0:0<=((n:Nat):Int)/\((n:Nat):Int)<=200:=⟨by omega,by omega⟩;have ek:((n:Nat):Int).toNat=n:=by omega
  refine⟨_,zac (zak (i:=4) S.nd rfl (Ao rfl) (zbZ C_count_fillings (hr.mono (by decide)) (by first|exact zaG|exact zbP|exact zaQ) rfl (zaa (pv 0) (zaa (pv 2) zae))))
  (zac (zaE (PW.pt (zcT (za9 (zbb (zaA C_whole (hr.mono (by decide)) rfl (zaa (pv 4) zae)))) (zcT (zam zc6 (zbF zeQ (pv 4) (zad) (zas _)) (pv 3) (zas _)) (zc4 (zam zgT (pv 4) (zad) (zas _))))))
   (zaf (zaj (zbn)))
   (zan))
  (zac (zak (i:=5) S.nd rfl (Ao rfl) (zaA C_asked (hr.mono (by decide)) rfl (zaa (pv 0) (zaa (pv 2) zae))))
  (zac (zaE (za9 (zbb (pv 3)))
   (zaf (zaj (zaA C_refused (hr.mono (by decide)) rfl (zaa (pv 5) (zaa (zaw) zae)))))
   (zan))
  (zaf (zaj (zd5 (zbF zcj (zaB zaN (pv 5) (zad) (fun _ _=>rfl)) (zaw) (zas _)) (zd5 (zaA C_layings (hr.mono (by decide)) rfl (zaa (zaB zaN (pv 5) (zad) (fun _ _=>rfl)) zae)) (zeM (zaA C_covers (hr.mono (by decide)) rfl (zaa (pv 1) (zaa (zaB zaN (pv 5) (zad) (fun _ _=>rfl)) (zaa (pv 2) zae)))))))))))),?_⟩
  refine⟨_,rfl,_,rfl,b,l,G,cs,past,_,rfl,B,?_⟩;rw[if_pos h0,ek];intro H1 s1;refine⟨_,rfl,_,rfl,_,rfl,?_⟩;refine iteF ?_;refine⟨_,rfl,_,_,rfl,rfl,_,rfl,rfl,_,rfl,?_⟩;rw[decide_eq_true (show V.bl (decide ((0:Int)<((Wy (srt cs) n 0:Nat):Int)))=V.bl (decide (0<Wy (srt cs) n 0)) from congrArg V.bl (decide_eq_decide.mpr (by omega)))];refine iteF ?_;refine⟨_,rfl,_,_,rfl,rfl,_,rfl,?_⟩;rw[decide_eq_false (show¬((Wy (srt cs) n 0:Nat):Int)<0 by omega)];refine iteF ?_;refine⟨_,rfl,_,rfl,_,_,rfl,b,l,G,cs,past,_,rfl,B.same s1,?_⟩;rw[if_pos h0,ek];by_cases hw:0<Wy (srt cs) n 0
  ·rw[if_pos hw];intro r wl H2 s2 nr hr2 lr;refine⟨bigr rfl,fun fd nfd=>?_⟩;have s3:Same H2 (upd H2 fd (.tup [.str (A0 "told"),.ref r])):=Same.new nfd;have hfd:upd H2 fd (.tup [.str (A0 "told"),.ref r]) fd=some (.tup [.str (A0 "told"),.ref r]):=zab;have hr3:=s3 _ _ hr2;have lr3:LaysR (upd H2 fd (.tup [.str (A0 "told"),.ref r])) wl _ n:=lr.mono fun _ _ z=>s3 _ _ z;have s13:=(s1.trans s2).trans s3;generalize upd H2 fd (.tup [.str (A0 "told"),.ref r])=H3 at s13 hfd hr3 lr3⊢;refine⟨_,rfl,_,rfl,?_⟩;rw[decide_eq_true hw];refine iteF ?_;refine⟨_,rfl,_,_,_,_,rfl,rfl,SqT.of hfd,at0,rfl,_,rfl,?_⟩;refine iteT ?_;refine⟨_,rfl,_,_,_,_,rfl,rfl,SqT.of hfd,at1,r,wl,rfl,hr3,lays_each2 lr3,_,rfl,?_⟩;refine iteT ?_;obtain⟨c1,c2⟩:=fw_cover gcs nds ne (zgw (srt cs) (A0 "")) hw;exact⟨_,rfl,_,rfl,_,_,_,_,rfl,rfl,SqT.of hfd,at1,_,rfl,pk,r,n,ws,wl,cs,laysOf (fnm (srt cs) (A0 "") (Wy (srt cs)) n) n,rfl,s13 _ _ hpk,(dr.same s13).any,hr3,lays_ly lr3,by omega,lay_perm pm (fun x hx=>(zdJ c1 x hx).2),cover_perm pm nds c2,laysOf_up _ _,fun H4 s4=>q H4 (s13.trans s4)⟩
  ·rw[if_neg hw];intro H2 s2;refine zhH E14 fun fd H3 s3 an=>?_;obtain⟨le,hfd,hle⟩:=an;refine⟨_,rfl,_,rfl,?_⟩;rw[decide_eq_false hw];exact iteT ⟨_,rfl,fd,le,errName 14,rfl,(errs_ok 14 (by decide)).1,hfd,hle,fun H4 s4=>q H4 (((s1.trans s2).trans s3).trans s4)⟩
theorem said_of{C:Combs}(g:GC C){u st:Nat}(h:(st=0/\u=0/\∀n,1<=n->¬Fil C n)\/FlushD C u st)(n:Nat):saidB u st (filL C u) n=decide (0∈rowN C n):=by
 unfold saidB;have hm:∀k,k∈filL C u↔k<=u/\0∈rowN C k:=fun k=>by
  unfold filL;rw[Bc,Be,decide_eq_true_eq];exact⟨fun z=>⟨Nat.le_of_lt_succ z.1,z.2⟩,fun z=>⟨Nat.lt_succ_of_le z.1,z.2⟩⟩
 have hF:0∈rowN C n↔Fil C n:=zba g;by_cases hn:n<=u
 ·rw[if_pos hn];exact decide_eq_decide.mpr ((hm n).trans ⟨fun z=>z.2,fun z=>⟨hn,z⟩⟩)
 ·rw[if_neg hn,Ay,Bu,decide_eq_true_eq,decide_eq_true_eq,decide_eq_true_eq,hF];rcases h with⟨rfl,rfl,h⟩|h
  ·exact⟨fun z=>by omega,fun z=>absurd z (h n (by omega))⟩
  ·exact⟨fun z=>h.above n (by omega) (Nat.dvd_of_mod_eq_zero z.2),fun z=>⟨h.pos,Mw (h.dvd n z)⟩⟩
theorem form_of{C:Combs}(g:GC C){u st:Nat}(h:(st=0/\u=0/\∀n,1<=n->¬Fil C n)\/FlushD C u st):∀n∈filL C u,st∣n:=fun n hn=>by
 unfold filL at hn;rw[Bc,Be,decide_eq_true_eq] at hn;have hF:Fil C n:=(zba g).mp hn.2;rcases h with⟨rfl,rfl,h⟩|h
 ·rw[show n=0 by omega];exact Q8 0
 ·exact h.dvd n hF
theorem zhu:FnScope ["_law_script","_law_kinds","_law_book_here","_law_told","_law_fits_here","_law_again","_law_low","_law_great","_law_length","_law_due","_law_found"] ["_law_script"] (defScope s_law):=⟨rfl,rfl,rfl,by decide+kernel,rfl,by decide+kernel,by decide+kernel⟩
theorem ok_law{ea:Nat->A3}{C:A3}(D:DefAt K mg "law" s_law)(T:Bn mg)(C_at:Callee P w K mg base "_law_at" 1 ["_law_script","_law_k"] (sp_at K))(C_combs:Callee P w K mg base "_law_combs" 2 ["_law_script"] (sp_combs K))(C_book:Callee P w K mg base "_law_book" 4 ["_law_kinds"] (sp_mkbook C))(C_flush_lengths:Callee1 P w K mg base "flush_lengths" 5 ["book"] (sp_flush C))(C_form:Callee P w K mg base "_law_form" 2 ["_law_told"] sp_form)(C_turned:Callee P w K mg base "_law_turned" 1 ["_law_kinds"] sp_turned)(C_graph:Callee P w K mg base "_law_graph" 3 ["_law_kinds","_law_begin"] sp_graph)(C_fits:Callee P w K mg base "_law_fits" 2 ["_law_graph_here"] sp_fits)(C_fit:Callee P w K mg base "_law_fit" 1 ["_law_fits_here","_law_again","_law_length"] sp_fit)(C_fits_flush:Callee1 P w K mg base "fits_flush" 5 ["book","length"] (sp_fitsf ea C))(C_said:Callee P w K mg base "_law_said" 1 ["_law_told","_law_length"] sp_said)(C_borne:Callee P w K mg base "_law_borne" 7 ["_law_book_here","_law_kinds","_law_length","_law_due"] (sp_borne C)):Callee P w K mg base "law" 8 ["_law_script"] (spLaw K):=by
 refine D.callee zhu (fun _ _ _ _ _ _=>ln1 fun _=>rfl) (fun vs H Q E h=>?_) (fun f cdv A outer s H vs Q E hr h=>?_)
 ·obtain⟨a,ns,rfl,_⟩:=h;rfl
 ·obtain⟨a,ns,rfl,hS,hl,q⟩:=h;have S:=zhu;refine⟨_,zac (zak (i:=1) S.nd rfl (Ao rfl) (zaA C_combs (hr.mono (by decide)) rfl (zaa (pv 0) zae)))
  (zac (zak (i:=2) S.nd rfl (Ao rfl) (zaA C_book (hr.mono (by decide)) rfl (zaa (pv 1) zae)))
  (zac (zak (i:=3) S.nd rfl (Ao rfl) (zbZ C_flush_lengths (hr.mono (by decide)) (by first|exact zaG|exact zbP|exact zaQ) rfl (zaa (pv 2) zae)))
  (zac (zaE (za9 (zbb (zaA C_form (hr.mono (by decide)) rfl (zaa (pv 3) zae))))
   (zaf (zaj (zbn)))
   (zan))
  (zac (zgN (zaA C_fits (hr.mono (by decide)) rfl (zaa (zaA C_graph (hr.mono (by decide)) rfl (zaa (zaA C_turned (hr.mono (by decide)) rfl (zaa (pv 1) zae)) (zaa (zbi (zae)) zae))) zae)) (zeL rfl (zaL (zal (i:=4) S.nd rfl (Ao rfl)) (zaL (zal (i:=5) S.nd rfl (Ao rfl)) (zbM)))))
  (zac (zak (i:=6) S.nd rfl (Ao rfl) (zau za5 (zaA C_at (hr.mono (by decide)) rfl (zaa (pv 0) (zaa (zad) zae))) (zad)))
  (zac (zak (i:=7) S.nd rfl (Ao rfl) (zau za5 (zau op_mulB (zaA C_at (hr.mono (by decide)) rfl (zaa (pv 0) (zaa (zad) zae))) (zau zbf (zad) (zau za5 (zaA C_at (hr.mono (by decide)) rfl (zaa (pv 0) (zaa (zad) zae))) (zad)))) (zau zbf (zau op_pow (zad) (zad)) (zad))))
  (zac (zaY Bf rfl (zax (zau zb0 (zbe (call_listR rfl) rfl T.n_list K8 (zaa (zbe call_rangeO rfl T.n_range Mp (zaa (pv 6) (zaa (zau zbf (pv 6) (zad)) zae))) zae)) (zaZ (zaa (pv 7) zae)))) (zal (i:=8) S.nd rfl (Ao rfl))
   (zac (zak (i:=9) S.nd rfl (Ao rfl) (zaA C_fit (hr.mono (by decide)) rfl (zaa (pv 4) (zaa (pv 5) (zaa (pv 8) zae)))))
   (zac (zak (i:=10) S.nd rfl (Ao rfl) (zbZ C_fits_flush (hr.mono (by decide)) (by first|exact zaG|exact zbP|exact zaQ) rfl (zaa (pv 2) (zaa (pv 8) zae))))
   (zac (zaE (PW.pt (zcT (za9 (zbb (zai (zbr "bool") rfl T.n_isinstance Bm (zaa (pv 10) (zaa (zbO (v:=.ty "bool") rfl T.n_bool boot_bool rfl) zae))))) (zcT (zam zc6 (pv 10) (pv 9) (zas _)) (zc4 (zam zc6 (zaA C_said (hr.mono (by decide)) rfl (zaa (pv 3) (zaa (pv 8) zae))) (pv 9) (zas _))))))
    (zaf (zaj (zbn)))
    (zan))
   (zaf (zaE (PW.pt (zgJ (zam zcV (pv 8) (zad) (zas _)) (zfn (za9 (zbb (zaA C_borne (hr.mono (by decide)) rfl (zaa (pv 2) (zaa (pv 1) (zaa (pv 8) (zaa (pv 9) zae))))))))))
    (zaf (zaj (zbn)))
    (zan)))))))
  (zaf (zaj (zbn)))))))))),?_⟩
  refine⟨_,rfl,a,ns,rfl,hS,fun pk ks ws H1 s1 npk hpk dr hk8=>?_⟩;have gc:GC ks:=fun c hc=>(dr.good c hc).2;have pm:=zeg dr.nd;refine⟨_,rfl,pk,ws,ks,rfl,hpk,dr,hk8,fun b l G past H2 s2 nb nl nG B hpl=>?_⟩;obtain⟨gcs,hs8⟩:=zdn B;refine⟨_,rfl,b,l,G,ks,past,rfl,B,fun tt sl u st H3 s3 ntt nsl htt hsl hu hfl=>?_⟩;refine⟨_,rfl,tt,sl,u,st,filL (srt ks) u,rfl,htt,hsl,form_of gcs hfl,_,rfl,?_⟩;refine iteF ?_;have s23:=s2.trans s3;refine⟨_,rfl,pk,ws,ks,rfl,s23 _ _ hpk,(dr.same s23).any.rows,gc,hk8,fun tk wt H6 s6 htk kt=>?_⟩;refine⟨bigr rfl,fun te nte=>?_⟩;have s7:Same H6 (upd H6 te (.tup [])):=Same.new nte;have hte:upd H6 te (.tup []) te=some (.tup ((aheadOf ((0:Nat):Int)).map V.int)):=by
   rw[zab,show aheadOf ((0:Nat):Int)=[] by decide];rfl
  have htk7:=s7 _ _ htk;have kt7:=kt.same s7;have s67:=s6.trans s7;generalize upd H6 te (.tup [])=H7 at s67 hte htk7 kt7⊢;have gct:=zed gc;have htl:(turnC ks).length<=8:=by unfold turnC;rw[A4];exact hk8
  refine⟨tk,te,wt,turnC ks,0,rfl,htk7,kt7,htl,gct,by decide,hte,fun g kvs L H8 s8 ng hg gr ndL cl h0L=>?_⟩;refine⟨g,kvs,turnC ks,L,rfl,hg,gr,ndL,cl,h0L,gct,htl,fun tf fl m i H9 s9 him hm hper htf hflB=>?_⟩;refine⟨tf,_,rfl,SqT.of htf,rfl,_,_,rfl,_,_,rfl,rfl,?_⟩;have s39:=(s67.trans s8).trans s9;have s19:=(s1.trans s23).trans s39;have ef:∀k,decide (0∈rowN (srt ks) k)=filB (turnC ks) k:=fun k=>by
   rw[Ay,zev gct,decide_eq_true_eq,zba gcs];exact(fil_perm gcs gc pm k).trans (fil_turn gc dr.nd).symm
  have ew:∀k,decide (0<Wy (srt ks) k 0)=filB (turnC ks) k:=fun k=>by
   rw[<-ef,decide_eq_decide,zba gcs,Wy_pos]
  have p54:(0:Int)<54:=by decide
  refine⟨_,rfl,a,ns,9,rfl,s19.seq hS,by decide,_,_,rfl,rfl,p54,?_⟩;obtain⟨lo,elo,hlo⟩:∃lo:Nat,ns.getD (9:Int).toNat 0%54=(lo:Nat)/\lo<54:=by
   have h1:=Fq (ns.getD (9:Int).toNat 0) (show(54:Int)≠0 by decide);have h2:=Ey (ns.getD (9:Int).toNat 0) p54;exact⟨(ns.getD (9:Int).toNat 0%54).toNat,by omega,by omega⟩
  show gName 6 (V.int (ns.getD (9:Int).toNat 0%54)) _ _ _;rw[elo];have pm9:(0:Int)<999983:=by decide
  have pbig:(0:Int)<10 ^ (12:Int).toNat+1:=by decide
  have f1:=Fq (ns.getD (11:Int).toNat 0) (show(999983:Int)≠0 by decide);have f2:=Ey (ns.getD (11:Int).toNat 0) pm9;refine⟨_,rfl,a,ns,10,rfl,s19.seq hS,by decide,_,rfl,a,ns,11,rfl,s19.seq hS,by decide,_,_,rfl,rfl,pm9,_,_,rfl,rfl,_,_,rfl,rfl,IntMulOk.of_right (Nc (by omega) (by omega)),_,_,rfl,rfl,⟨by decide,by decide,by decide⟩,_,_,rfl,rfl,_,_,rfl,rfl,pbig,?_⟩;obtain⟨gt,egt,hgt⟩:∃gt:Nat,ns.getD (10:Int).toNat 0*(1+ns.getD (11:Int).toNat 0%999983)%(10 ^ (12:Int).toNat+1)=(gt:Nat)/\gt<=1000000000000:=by
   generalize ns.getD (10:Int).toNat 0*(1+ns.getD (11:Int).toNat 0%999983)=z;have e:(10:Int) ^ (12:Int).toNat+1=1000000000001:=by decide
   rw[e];have h1:=Fq z (show(1000000000001:Int)≠0 by decide);have h2:=Ey z (show(0:Int)<1000000000001 by decide);exact⟨(z%1000000000001).toNat,by omega,by omega⟩
  show gName 7 (V.int (ns.getD (10:Int).toNat 0*(1+ns.getD (11:Int).toNat 0%999983)%(10 ^ (12:Int).toNat+1))) _ _ _;rw[egt];refine⟨_,rfl,_,rfl,_,_,rfl,rfl,_,_,rfl,fun pr npr=>?_⟩;have sr:Same H9 (upd H9 pr (.rng (lo:Nat) ((lo:Nat)+8))):=Same.new npr;have hpr:upd H9 pr (.rng (lo:Nat) ((lo:Nat)+8)) pr=some (.rng (lo:Nat) ((lo:Nat)+8)):=zab;generalize upd H9 pr (.rng (lo:Nat) ((lo:Nat)+8))=H10 at sr hpr⊢;refine⟨pr,_,_,rfl,hpr,by omega,by omega,by omega,by omega,by omega,fun pl npl=>?_⟩;rw[show(((lo:Nat):Int)+8-((lo:Nat):Int)).toNat=8 by omega];obtain⟨ls,els,hls⟩:∃ls:List V,((Af 8).map fun k=>V.int (((lo:Nat):Int)+(k:Nat)))=ls/\ls.length=8/\∀y∈ls,∃n:Nat,y= .int (n:Nat)/\n<=1000000000000:=⟨_,rfl,by simp,fun y hy=>by
   obtain⟨k,hk,rfl⟩:=A7.mp hy;have:=Be.mp hk;exact⟨lo+k,by rw[Int.natCast_add],by omega⟩⟩
  rw[els];have sl1:Same H10 (upd H10 pl (.lst ls)):=Same.new npl;have hpl1:upd H10 pl (.lst ls) pl=some (.lst ls):=zab;generalize upd H10 pl (.lst ls)=H11 at sl1 hpl1⊢;refine⟨_,rfl,bigr rfl,fun pg npg=>?_⟩;have sg1:Same H11 (upd H11 pg (.lst [V.int (gt:Nat)])):=Same.new npg;have hpg1:upd H11 pg (.lst [V.int (gt:Nat)]) pg=some (.lst [V.int (gt:Nat)]):=zab;have hpl2:=sg1 _ _ hpl1;have s911:=(sr.trans sl1).trans sg1;generalize upd H11 pg (.lst [V.int (gt:Nat)])=H12 at s911 hpg1 hpl2⊢;refine⟨_,_,_,_,rfl,rfl,hpl2,hpg1,by rw[hls.1];exact bigr rfl,fun pa npa=>?_⟩;have sa1:Same H12 (upd H12 pa (.lst (ls++[V.int (gt:Nat)]))):=Same.new npa;have hpa1:upd H12 pa (.lst (ls++[V.int (gt:Nat)])) pa=some (.lst (ls++[V.int (gt:Nat)])):=zab;have hall:∀y∈ls++[V.int (gt:Nat)],∃n:Nat,y= .int (n:Nat)/\n<=1000000000000:=fun y hy=>by
   rcases Al.mp hy with z|z
   ·exact hls.2 y z
   ·exact⟨gt,A6.mp z,hgt⟩
  have s39':=s39.trans (s911.trans sa1);have hfl13:=(s911.trans sa1) _ _ hflB;generalize upd H12 pa (.lst (ls++[V.int (gt:Nat)]))=H13 at s39' hpa1 hfl13⊢;generalize ls++[V.int (gt:Nat)]=la at hall hpa1;refine⟨_,rfl,⟨_,SqL.of hpa1⟩,?_⟩;have hht:=s39' _ _ htt;have hhs:=s39' _ _ hsl;have Bk':=B.same (s3.trans s39');have hpk':=(s23.trans s39') _ _ hpk;have dr':=(dr.same (s23.trans s39')).any;refine zbz (zap K pa la) (fun _ σ Hx=>Same H13 Hx/\∃x1 x2 x3,σ=[some (.ref a),some (.ref pk),some (.ref b),some (.ref tt),some (.ref fl),some (.int (i:Nat)),some (.int (lo:Nat)),some (.int (gt:Nat)),x1,x2,x3]) ⟨Same.refl _,_,_,_,rfl⟩ (fun _ σ Hx _ h=>SqL.of (h.1 _ _ hpa1)) ?_ ?_
  ·rintro j y σ Hx hy⟨sx,x1,x2,x3,rfl⟩;obtain⟨n,rfl,hn⟩:=hall y (B0 hy);have e1:decide (0∈rowN (srt ks) n)=decide (0<Wy (srt ks) n 0):=(ef n).trans (ew n).symm;have h0:0<=((n:Nat):Int)/\((n:Nat):Int)<=1000000000000:=⟨by omega,by omega⟩;have en:((n:Nat):Int).toNat=n:=by omega
   refine⟨_,rfl,_,rfl,_,rfl,fl,i,m,n,filB (turnC ks),rfl,sx _ _ hfl13,him,filB_per gct him hper,?_⟩;rw[<-ew n];refine⟨_,rfl,_,rfl,b,l,G,ks,past,_,rfl,Bk'.same sx,?_⟩;rw[if_pos h0,en,e1];intro H14 s14;have sx4:=sx.trans s14;refine⟨_,rfl,_,_,true,rfl,.bl _,rfl,_,rfl,?_⟩;refine iteF ?_;refine⟨_,rfl,_,rfl,rfl,_,rfl,?_⟩;rw[decide_eq_true (rfl:V.bl (decide (0<Wy (srt ks) n 0))=V.bl (decide (0<Wy (srt ks) n 0)))];refine iteF ?_;refine⟨_,rfl,_,rfl,tt,sl,u,st,filL (srt ks) u,n,rfl,sx4 _ _ hht,sx4 _ _ hhs,?_⟩;rw[said_of gcs hfl n,e1];refine⟨_,rfl,rfl,_,rfl,?_⟩;rw[decide_eq_true (rfl:V.bl (decide (0<Wy (srt ks) n 0))=V.bl (decide (0<Wy (srt ks) n 0)))];refine iteF ?_;refine⟨_,rfl,_,_,rfl,rfl,_,rfl,?_⟩;refine ite2 (fun h=>?_) (fun _=>?_)
   ·have h:n<=60:=by have:=of_decide_eq_true h;omega
    refine⟨_,rfl,_,rfl,_,rfl,_,rfl,b,l,pk,G,ks,past,ws,n,rfl,Bk'.same sx4,sx4 _ _ hpk',dr'.same sx4,by omega,fun H15 s15=>?_⟩;exact⟨_,rfl,iteF ⟨sx4.trans s15,_,_,_,rfl⟩⟩
   ·exact⟨sx4,_,_,_,rfl⟩
  ·rintro σ Hx⟨sx,x1,x2,x3,rfl⟩;exact q _
end
theorem walk{l:Kk}{q:Ap}{loose:List Str}{XP:(Str->Option A2)->Bx->Prop}{YP:Bd->Bx->Prop}{d:DefRec}{K:Rv->Am}(hn:l.most=some 63)(hdf:d.params.defaults=[])
  (hY:∀(w:Bd)(h:Bx),YP w h->(K w.params).In h)
  (F:∀(w:Bd)(mg:Str->Option A2)(fa:A3)(h:Bx),(K w.params).In h->h.Ns mainGlobals mg->mg d.name=some (.ref fa)->
   ∃fd:Ef,(∀(s:A5)(u:A2),Kf s fd ⟨[u],[]⟩ [("_law_script",u)])/\∀base:Bx,(K w.params).In base->base.Ns mainGlobals mg->FnOk l.prog w (K w.params) mg base CX0 8 fa fd ["_law_script"] (spLaw (K w.params))):
  Oi q loose XP YP l.row.toRowW d [] (fun f vs=>Nf f vs):=
 L2.walk_of (n:=63) (k:=8) (x:="_law_script") (CX:=fun _=>CX0) (sp:=fun w=>spLaw (K w.params)) hn (by decide) hdf ⟨rfl,by decide,by decide⟩ hY F (fun _ _ a ns hl _ hS=>⟨a,ns,rfl,hS,hl,fun _=>rfl⟩) fun _ _ _ _ _ z=>z
theorem all{l:Kk}{w:Bd}{K:Am}{h:Bx}{mg:Str->Option A2}{fa:A3}(X:K.In h)(G:h.Ns mainGlobals mg)(hfa:mg "law"=some (.ref fa))(T:Bn mg)
  (V_MOST_COMBS:∃t,mg "MOST_COMBS"=some (.int 8 t))
  (V_MOST_NAME:∃t,mg "MOST_NAME"=some (.int 6 t))
  (V_MOST_TOOTH:∃t,mg "MOST_TOOTH"=some (.int 7 t))
  (V_MOST_DEEDS:∃t,mg "MOST_DEEDS"=some (.int 300 t))
  (V_SHAPES:∃t,mg "SHAPES"=some (.int 128 t))
  (V_MOST_LENGTH:∃t,mg "MOST_LENGTH"=some (.int 1000000000000 t))
  (V_MOST_FILLED:∃t,mg "MOST_FILLED"=some (.int 200 t))
  {t_TOOTH_WORTH:A3} (G_TOOTH_WORTH:mg "TOOTH_WORTH"=some (.ref t_TOOTH_WORTH)) (TC_TOOTH_WORTH:tupChk K t_TOOTH_WORTH [1,2,4,8,16,32,64,128]=true)
  {C ce a0 a1 a2 a3 a4 a5 a6 a7 a8 a9 a10 a11 a12 a13 a14:A3}
  (R0:mg "BadName"=some (.ref a0))
  (R1:mg "BadTeeth"=some (.ref a1))
  (R2:mg "NameTaken"=some (.ref a2))
  (R3:mg "BookFull"=some (.ref a3))
  (R4:mg "NoComb"=some (.ref a4))
  (R5:mg "BadTooth"=some (.ref a5))
  (R6:mg "ToothThere"=some (.ref a6))
  (R7:mg "FirstTooth"=some (.ref a7))
  (R8:mg "ToothMissing"=some (.ref a8))
  (R9:mg "DeedsFull"=some (.ref a9))
  (R10:mg "NothingDone"=some (.ref a10))
  (R11:mg "BadShape"=some (.ref a11))
  (R12:mg "BadPlace"=some (.ref a12))
  (R13:mg "BadLength"=some (.ref a13))
  (R14:mg "NoFilling"=some (.ref a14))
  (RCE:mg "CombError"=some (.ref ce)) (HCHK:errChk K [a0,a1,a2,a3,a4,a5,a6,a7,a8,a9,a10,a11,a12,a13,a14] ce [0,1,2,3,4,9,11,13,14]=true)
  (INIT:InitAt K mg C "Book" "Book.__init__" s_Book___init__) (BCHK:bookChk K C=true)
  (N_put:MethAt K C "Book" "put" s_Book_put)
  (N_names:MethAt K C "Book" "names" s_Book_names)
  (N_teeth:MethAt K C "Book" "teeth" s_Book_teeth)
  (N_check_comb:MethAt K C "Book" "check_comb" s_Book_check_comb)
  (N_set_comb:MethAt K C "Book" "set_comb" s_Book_set_comb)
  (N_do_deed:MethAt K C "Book" "do_deed" s_Book_do_deed)
  (D_shape_steps:DefAt K mg "shape_steps" s_shape_steps)
  (D_teeth_worth:DefAt K mg "teeth_worth" s_teeth_worth)
  (D_step_table:DefAt K mg "step_table" s_step_table)
  (D_shapes_behind:DefAt K mg "shapes_behind" s_shapes_behind)
  (D_flush_lengths:DefAt K mg "flush_lengths" s_flush_lengths)
  (D_fits_flush:DefAt K mg "fits_flush" s_fits_flush)
  (D_shortest_length:DefAt K mg "shortest_length" s_shortest_length)
  (D_least_lengths:DefAt K mg "least_lengths" s_least_lengths)
  (D_is_reached:DefAt K mg "is_reached" s_is_reached)
  (D_common_divisor:DefAt K mg "common_divisor" s_common_divisor)
  (D_first_filling:DefAt K mg "first_filling" s_first_filling)
  (D_count_fillings:DefAt K mg "count_fillings" s_count_fillings)
  (D_check_length:DefAt K mg "check_length" s_check_length)
  (D_ways_to_close:DefAt K mg "ways_to_close" s_ways_to_close)
  (D_ways_from:DefAt K mg "ways_from" s_ways_from)
  (D_ways_behind:DefAt K mg "ways_behind" s_ways_behind)
  (D_lay_first:DefAt K mg "lay_first" s_lay_first)
  (D_first_open_step:DefAt K mg "first_open_step" s_first_open_step)
  (D_is_name:DefAt K mg "is_name" s_is_name)
  (D_is_small_letter:DefAt K mg "is_small_letter" s_is_small_letter)
  (D_are_teeth:DefAt K mg "are_teeth" s_are_teeth)
  (D_at:DefAt K mg "_law_at" s_at)
  (D_mixed:DefAt K mg "_law_mixed" s_mixed)
  (D_word:DefAt K mg "_law_word" s_word)
  (D_spare:DefAt K mg "_law_spare" s_spare)
  (D_menu:DefAt K mg "_law_menu" s_menu)
  (D_combs:DefAt K mg "_law_combs" s_combs)
  (D_book:DefAt K mg "_law_book" s_book)
  (D_turned:DefAt K mg "_law_turned" s_turned)
  (D_after:DefAt K mg "_law_after" s_after)
  (D_goes:DefAt K mg "_law_goes" s_goes)
  (D_graph:DefAt K mg "_law_graph" s_graph)
  (D_home:DefAt K mg "_law_home" s_home)
  (D_fits:DefAt K mg "_law_fits" s_fits)
  (D_fit:DefAt K mg "_law_fit" s_fit)
  (D_whole:DefAt K mg "_law_whole" s_whole)
  (D_laying:DefAt K mg "_law_laying" s_laying)
  (D_layings:DefAt K mg "_law_layings" s_layings)
  (D_teeth:DefAt K mg "_law_teeth" s_teeth)
  (D_covers:DefAt K mg "_law_covers" s_covers)
  (D_kind:DefAt K mg "_law_kind" s_kind)
  (D_refused:DefAt K mg "_law_refused" s_refused)
  (D_asked:DefAt K mg "_law_asked" s_asked)
  (D_said:DefAt K mg "_law_said" s_said)
  (D_borne:DefAt K mg "_law_borne" s_borne)
  (D_form:DefAt K mg "_law_form" s_form)
  (D_law:DefAt K mg "law" s_law):
  ∃fd:Ef,(∀(s:A5)(v:A2),Kf s fd ⟨[v],[]⟩ [("_law_script",v)])/\∀base:Bx,K.In base->base.Ns mainGlobals mg->FnOk l.prog w K mg base CX0 8 fa fd ["_law_script"] (spLaw K):=by
 have BA:=book_of BCHK;have E (j:Nat) (hj:j∈[0,1,2,3,4,9,11,13,14]) (h15:j<15):=ej_of HCHK hj h15;have E4:=E 4 (by decide) (by decide);refine D_law.entry hfa (fun _ _ _ _ _ _ v=>rfl) fun base=>?_;have c_kind:=ok_kind (P:=l.prog) (w:=w) (base:=base) D_kind T (ea:=fun i=>[a0,a1,a2,a3,a4,a5,a6,a7,a8,a9,a10,a11,a12,a13,a14].getD i 0) ⟨R0,R1,R2,R3,R4,R5,R6,R7,R8,R9,R10,R11,R12,R13,R14⟩;have m_check:=ok_check (P:=l.prog) (w:=w) (base:=base) (ea:=fun i=>[a0,a1,a2,a3,a4,a5,a6,a7,a8,a9,a10,a11,a12,a13,a14].getD i 0) N_check_comb T BA (E4.err R4);have m_do:=ok_do (P:=l.prog) (w:=w) (base:=base) (ea:=fun i=>[a0,a1,a2,a3,a4,a5,a6,a7,a8,a9,a10,a11,a12,a13,a14].getD i 0) N_do_deed T BA V_MOST_DEEDS ((E 9 (by decide) (by decide)).err R9);have m_set:=ok_set (ea:=fun i=>[a0,a1,a2,a3,a4,a5,a6,a7,a8,a9,a10,a11,a12,a13,a14].getD i 0) N_set_comb T BA m_do;have m_put:=ok_put (ea:=fun i=>[a0,a1,a2,a3,a4,a5,a6,a7,a8,a9,a10,a11,a12,a13,a14].getD i 0) N_put T BA V_MOST_COMBS ((E 0 (by decide) (by decide)).err R0) ((E 1 (by decide) (by decide)).err R1) ((E 2 (by decide) (by decide)).err R2) ((E 3 (by decide) (by decide)).err R3) (ok_name D_is_name T V_MOST_NAME (ok_small D_is_small_letter T)) (ok_teeth D_are_teeth T V_MOST_TOOTH) m_set;have m_names:=ok_names (P:=l.prog) (w:=w) (base:=base) N_names T BA;have m_teeth:=ok_bteeth N_teeth T BA m_check;have c_at:=ok_at (P:=l.prog) (w:=w) (base:=base) D_at T;have c_word:=ok_word (P:=l.prog) (w:=w) (base:=base) D_word T;have c_combs:=ok_combs D_combs T c_at (ok_mixed D_mixed T) c_word (ok_spare D_spare T) (ok_menu D_menu T);have c_book:L2.Callee l.prog w K mg base "_law_book" 4 ["_law_kinds"] (sp_mkbook C):=by
  obtain⟨fi,fdi,mk,fu⟩:=INIT.ex;exact ok_mkbook D_book T BA ⟨fi,fdi,mk,ok_init fu T BA,INIT.m,fu.binds (fun _ _ _ _ _ _=>ln1 fun _=>rfl)⟩ m_put
 have f_steps:=ok_steps (ea:=fun i=>[a0,a1,a2,a3,a4,a5,a6,a7,a8,a9,a10,a11,a12,a13,a14].getD i 0) D_shape_steps T BA V_SHAPES ((E 11 (by decide) (by decide)).err R11) (ok_worth D_teeth_worth T G_TOOTH_WORTH (tup_chk TC_TOOTH_WORTH)) m_names m_teeth;have f_table:=ok_table D_step_table T V_SHAPES f_steps;have c_whole:=ok_whole (P:=l.prog) (w:=w) (base:=base) D_whole T;have c_laying:=ok_laying (P:=l.prog) (w:=w) (base:=base) D_laying T c_whole;have c_teeth:=zeR (P:=l.prog) (w:=w) (base:=base) D_teeth T;have f_bw:=ok_behindw (P:=l.prog) (w:=w) (base:=base) D_ways_behind T;have f_close:=ok_close D_ways_to_close T (ok_from D_ways_from T f_bw);have f_chk:=ok_chk (P:=l.prog) (w:=w) (base:=base) (ea:=fun i=>[a0,a1,a2,a3,a4,a5,a6,a7,a8,a9,a10,a11,a12,a13,a14].getD i 0) D_check_length T V_MOST_FILLED ((E 13 (by decide) (by decide)).err R13);have f_ffill:=ok_ffill (ea:=fun i=>[a0,a1,a2,a3,a4,a5,a6,a7,a8,a9,a10,a11,a12,a13,a14].getD i 0) D_first_filling T f_chk f_table f_close (ok_layf (ea:=fun i=>[a0,a1,a2,a3,a4,a5,a6,a7,a8,a9,a10,a11,a12,a13,a14].getD i 0) D_lay_first T ((E 14 (by decide) (by decide)).err R14) (ok_open D_first_open_step T f_bw));have f_behind:=ok_behind (P:=l.prog) (w:=w) (base:=base) D_shapes_behind T;have f_short:=ok_short D_shortest_length T V_SHAPES f_behind;have f_least:=ok_least D_least_lengths T f_behind;have f_reached:=ok_reached (P:=l.prog) (w:=w) (base:=base) D_is_reached T;have f_fits:=ok_fitsf (ea:=fun i=>[a0,a1,a2,a3,a4,a5,a6,a7,a8,a9,a10,a11,a12,a13,a14].getD i 0) D_fits_flush T V_MOST_LENGTH ((E 13 (by decide) (by decide)).err R13) f_table f_short f_least f_reached;have f_flush:=ok_flush D_flush_lengths T f_table f_short f_least (ok_gcd D_common_divisor T) f_reached;exact ok_law D_law T c_at c_combs c_book f_flush (ok_form D_form T c_whole) (ok_turned D_turned T) (ok_graph D_graph T (ok_goes D_goes T (ok_after D_after T))) (ok_fits D_fits T (ok_home D_home T)) (ok_fit D_fit T) f_fits (ok_said D_said T) (ok_borne D_borne T (E 14 (by decide) (by decide)) (ok_count (ea:=fun i=>[a0,a1,a2,a3,a4,a5,a6,a7,a8,a9,a10,a11,a12,a13,a14].getD i 0) D_count_fillings T f_chk f_table f_close) c_whole (ok_tasked D_asked T RCE c_kind f_ffill) (ok_refused D_refused T) (ok_layings D_layings T c_laying) (ok_covers D_covers T (zeR D_teeth T)))
end K31
open PySem PySem.W PyProof.Rows
namespace PySem.W.Fast
def tw9232645896295444245:=True
def tw15340050126928489614:=True
def tw69181993633880045:=True
def tw8830793331355549623:=True
def tw4779950102802993684:=True
def tw4394911918646778114:=True
def tw10673584942406665813:=True
def tw17016571060219537077:=True
def tw8746855480160393726:=True
def tw4396556956394831413:=True
def tw8203279935153482968:=True
def tw6961733145682760246:=True
def tw8519342380163170819:=True
def tw10982890152698293362:=True
def tw6505786431350839008:=True
def tw8636338338667136319:=True
def tw5012074504688015911:=True
def tw16325573895742317751:=True
def tw6349581714661461661:=True
def tw3075290906541210793:=True
def tw7725867946302802139:=True
def tw3466806859751831037:=True
def tw14273926514503283873:=True
def tw1143211875308994407:=True
def tw11193770255310938114:=True
def tw9351217046927190453:=True
def tw9159861112890810271:=True
def tw14612488107630554732:=True
def tw3156378194252500789:=True
def tw14194037096974719156:=True
def tw4677334301881304687:=True
def tw2522936667503846281:=True
def tw14313627395924807303:=True
def tw13030128699341558904:=True
def tw1992559119663071146:=True
def tw5706755008558800450:=True
def tw8938099920992286444:=True
def tw5329672078051878132:=True
def tw10378252809278236871:=True
def tw12080473094019643683:=True
def tw2816325738467341991:=True
def tw18288524767233682678:=True
def tw4621216685099263069:=True
def tw1967823981721057516:=True
def tw11739939045845722901:=True
def tw7279516467946272487:=True
def tw2247531142611865598:=True
def tw14939289483512555288:=True
def tw2885967442677464705:=True
def tw16040666854284732006:=True
def tw7293899384424577977:=True
def tw11138175767874634309:=True
def tw13293328802275603292:=True
def tw17808033918825324916:=True
def tw576671229620000556:=True
def tw14503584172514108780:=True
def tw7243328833129985435:=True
def tw17798809251610541155:=True
def tw15573971352449172330:=True
def tw9837048460823552265:=True
def tw9531456958320904903:=True
def tw18115407459864280110:=True
def tw7065831947817652041:=True
def tw13659057541841921192:=True
def tw3634143986636887203:=True
def tw6510852078224487740:=True
def tw14104560235371618880:=True
def tw7486042939722872241:=True
def tw17213465452772295538:=True
def tw1770286773105126003:=True
def tw7686819187230802200:=True
def tw17284660119027053967:=True
def tw9962189539882137133:=True
def tw4587142045273883221:=True
def tw95465184955054477:=True
def tw18162525364616316356:=True
def tw557383959298662220:=True
def tw12899135341198955004:=True
def tw2569810778592792995:=True
def tw8086727045493503942:=True
def tw776087150920876772:=True
def tw15641095823978362664:=True
def tw5043440921953528382:=True
def tw17827034760450682474:=True
def tw17238488632110360277:=True
def tw11383122353672185143:=True
def tw2533844145773969150:=True
def tw4458891407671158078:=True
def tw16929478850520738330:=True
def tw12867599920520491414:=True
def tw6523373183428900216:=True
def tw11423769408214847646:=True
def tw11232655834334697222:=True
def tw199956928648988735:=True
def tw14894773392906399092:=True
def tw4074393011093102990:=True
def tw9333979170126856790:=True
def tw18291609163229284395:=True
def tw2982938932873972070:=True
def tw16289519559197669716:=True
def tw3410727099569808470:=True
def tw2063544907227277240:=True
def tw15857091422558231596:=True
def tw3556766707476644361:=True
def tw1963480073486287549:=True
def tw838406916706797716:=True
def tw12666941549796158084:=True
def tw5523885840639154741:=True
def tw12310606810059076103:=True
def tw15270156126130759472:=True
def tw2484512309573572905:=True
def tw4191424410296122654:=True
def tw16356857104684608755:=True
def tw5522841702004568784:=True
def tw2422443302323497850:=True
def tw12783644291460711871:=True
def tw10980739210618214430:=True
def tw13656610297365439498:=True
def tw13806118983655532045:=True
def tw3342980429029920555:=True
def tw2728732133336887600:=True
def tw3416832496250269094:=True
def tw1844272310514550941:=True
def tw8650597301064597495:=True
def tw9075899894891720440:=True
def tw5205561901764010084:=True
def tw16899855615492935859:=True
def tw15081972304909441384:=True
def tw10080979058385752211:=True
def tw14745466115982050506:=True
def tw4223941626629459216:=True
def tw5906250717602018641:=True
def tw2353227244388394046:=True
def tw1512521044002011033:=True
def tw15530487733886902890:=True
def tw17165416831648043501:=True
def tw2501628121094724652:=True
def tw10669300503064620895:=True
def tw12558886261213277041:=True
def tw16588955844735832667:=True
def tw9848004220071067301:=True
def tw13947945330148878984:=True
def tw18174118872460759745:=True
def tw11238162843808036294:=True
def tw261842352141923077:=True
def tw7512005203384491626:=True
def tw3036616773284495520:=True
def tw8495299493749669485:=True
def tw7634303473800659184:=True
def tw229020323442022806:=True
def tw12085679798507354413:=True
def tw15020027836705326735:=True
def tw2583468883779826695:=True
def tw6299999567203883974:=True
def tw7400903099321684724:=True
def tw6750859782198453512:=True
def tw1657884602679435489:=True
def tw6842095188133170755:=True
def tw13494720954641348403:=True
def tw17702549253535007433:=True
def tw8504871858574176088:=True
def tw8700428425880913018:=True
def tw7754374751640618543:=True
def tw9686851391490833792:=True
def tw14051749522457999942:=True
def tw5423890666167943772:=True
def tw10913974248325528507:=True
def tw9486092301526102893:=True
def tw5881990140983220038:=True
def tw13126873244691623129:=True
def tw17932209500526064756:=True
def tw13773819277393717302:=True
def tw2582159338794651835:=True
def tw559594605113043077:=True
def tw13692434729745290588:=True
def tw5660412346421880961:=True
def tw9594097466140225088:=True
def tw8201578811798176792:=True
def tw13022793784207425542:=True
def tw10806275392379046169:=True
def tw14091537328448040921:=True
def tw3195593085004249611:=True
def tw13067060759985460321:=True
def tw5383152480210333744:=True
def tw7986832107931410054:=True
def tw2840279720428740996:=True
def tw4769568626423425312:=True
def tw17888246746193743201:=True
def tw6028390382836986813:=True
def tw9531380787145742668:=True
def tw17681930736997877123:=True
def tw3823273368841401465:=True
def tw11591013054244333534:=True
def tw4193802634867321215:=True
def tw7127009878803923718:=True
def tw15746139880664634653:=True
def tw4688792161669529897:=True
def tw1096973679033018168:=True
def tw6530997501935915658:=True
def tw10054116164140448265:=True
def tw16549813026612064843:=True
def tw11232688900352740974:=True
def tw6243238061347248193:=True
def tw14647447076815723601:=True
def tw12352666072255991165:=True
def tw13621994755191392298:=True
def tw8621420607510679395:=True
def tw441282677944041733:=True
def tw10809382652213225488:=True
def tw15275533180308131289:=True
def tw14789832931401765304:=True
def tw14168845098167529216:=True
def tw16882292910491127542:=True
def tw10556741326751762272:=True
def tw11879979959270885845:=True
def tw9674037842641599814:=True
def tw2677392710099404144:=True
def tw5627375296379856783:=True
def tw2532394544135555499:=True
def tw16275722444450574328:=True
def tw7775809814105182202:=True
def tw10969374034884497821:=True
def tw7931753218516796355:=True
def tw12159040564492549168:=True
def tw3288011403256615165:=True
def tw6090110283631896952:=True
def tw6341832779271168043:=True
def tw10119405651155401471:=True
def tw10400839444323206799:=True
def tw15300984145357712720:=True
def tw12810059416333291314:=True
def tw10987967130845951557:=True
def tw13433336358756613586:=True
def tw16082401070379139498:=True
def tw6451445938221014397:=True
def tw1548893669445713061:=True
def tw9516382211847699157:=True
def tw17746744251313294921:=True
def tw11476037979056613173:=True
def tw13878430112755189880:=True
def tw12981349566422957416:=True
def tw6804411801202219317:=True
def tw15324124242749468912:=True
def tw10800938826209296431:=True
def tw10274152269481190379:=True
def tw12946251019737451968:=True
def tw11117293115977336068:=True
def tw6784496696152021147:=True
def tw13445293689314356992:=True
def tw11280686823840899109:=True
def tw9962867987852507865:=True
def tw17010020730337289270:=True
def tw8059529303884270427:=True
def tw6212163284935725636:=True
def tw2763753476960127271:=True
def tw1778555461330598568:=True
def tw17078221199904284910:=True
def tw9316537066159055540:=True
def tw5681825102955623178:=True
def tw13201027548342537343:=True
def tw2126765513610830166:=True
def tw11802037066333109699:=True
def tw17994696881704420830:=True
def tw3129594569066729842:=True
def tw17278728434760699686:=True
def tw2557917749981935900:=True
def tw7395377030861467517:=True
def tw6130010766146338494:=True
def tw9235560719036934924:=True
def tw14175939466169224383:=True
def tw17244440055995833475:=True
def tw9945020932220314079:=True
def tw11957473248417268412:=True
def tw11584519681658865708:=True
def tw13431236050769490857:=True
def tw14101054426593194071:=True
def tw5890703603290862188:=True
def tw98929979009890553:=True
def tw14841583984934805174:=True
def tw10241057811644893570:=True
def tw4828159249190384939:=True
def tw15378241840116485035:=True
def tw16623956955806898158:=True
def tw910473772029618253:=True
def tw876742238780006418:=True
def tw9611748338925862710:=True
def tw11244449774949330037:=True
def tw8756826703644964318:=True
def tw6675757883185627749:=True
def tw5202567202421002060:=True
def tw6344844823544568928:=True
def tw11586408205001450572:=True
def tw12292294424612508322:=True
def tw6933796656678780122:=True
def tw12632936939614765195:=True
def tw11130136558386498563:=True
def tw424466835897575755:=True
def tw9083693392890143694:=True
def tw11356410796766658673:=True
def tw8587698896251596240:=True
def tw7924891168251846989:=True
def tw17169472514355374132:=True
def tw13253225491685032250:=True
def tw6604136632809087478:=True
def tw7184359867878981023:=True
def tw15067648605384987991:=True
def tw2019444481094482222:=True
def tw12470754064461740968:=True
def tw8766399271786741846:=True
def tw2102112240353802058:=True
def tw12072075783354313639:=True
def tw11717149281895443024:=True
def tw4737576180421460935:=True
def tw2535219038229567969:=True
def tw16281942683997139447:=True
def tw415313585024859756:=True
def tw8869331500407696242:=True
def tw9300410135064110922:=True
def tw18106948311014986589:=True
def tw706437702805883261:=True
def tw4722080833855729291:=True
def tw15150948561551342961:=True
def tw2415664206991843698:=True
def tw16610658711021937635:=True
def tw12769536233507344594:=True
def tw18063744817498496875:=True
def tw8814367076181126492:=True
def tw5382281504450992088:=True
def tw12489618395184897656:=True
def tw14378250721082445695:=True
def tw15629667520087708457:=True
def tw6942330320869648330:=True
def tw6735729022370815834:=True
def tw1610134466318711073:=True
def tw5998573694706697737:=True
def tw2519489029942868025:=True
def tw1509226541252594367:=True
def tw12098859361812297560:=True
def tw8766857407764070247:=True
def tw459667021137937875:=True
def tw2910240552266641193:=True
def tw7759224201892787059:=True
def tw13637610787056325547:=True
def tw6030525594010361509:=True
def tw7774626079011631544:=True
def tw11820130757218993702:=True
def tw2939496240938417420:=True
def tw14114422078994979928:=True
def tw13030764625208929551:=True
def tw12701306380458979883:=True
def tw672105772763965752:=True
def tw13558631468443832979:=True
def tw988568769593629431:=True
def tw6110690988393041543:=True
def tw8617242508076968920:=True
def tw130117215743429763:=True
def tw13695645438810678186:=True
def tw10983661511155113287:=True
def tw10313375389635984777:=True
def tw7893666023526043425:=True
def tw13395552782371295949:=True
def tw10013215306566656727:=True
def tw13173048874240634681:=True
def tw6858806760027228874:=True
def tw10443014569331070329:=True
def tw873851639050640890:=True
def tw3681108970511777464:=True
def tw9531077273780166306:=True
def tw15278255059778233766:=True
def tw10550734529279409689:=True
def tw8656711842499854365:=True
def tw15286961586058941420:=True
def tw6379189416212900230:=True
def tw10173388435273410737:=True
def tw2333069872153599142:=True
def tw12410868854624075226:=True
def tw5240816656535123372:=True
def tw2785398835300203073:=True
def tw9226322818167671181:=True
def tw17576243878731139579:=True
def tw12515614836699773684:=True
def tw14820839196992825182:=True
def tw8694364903547005849:=True
def tw11009595247356588152:=True
def tw162631946146206722:=True
def tw5369690838463707582:=True
def tw11089371946676105407:=True
def tw8055803843728707543:=True
def tw12500120123371511249:=True
def tw7772151736891715687:=True
def tw8183328494490989650:=True
def tw7553192001786539325:=True
def tw14457044141560074092:=True
def tw8053927160032340899:=True
def tw5433439840868398427:=True
def tw2604217396931008373:=True
def tw14650988963590207785:=True
def tw14073767766457544560:=True
def tw12510740783126021464:=True
def tw14645466963883468888:=True
def tw9801776563100008946:=True
def tw3726915990557983390:=True
def tw17791021071348434270:=True
def tw6015965857558709368:=True
def tw8225954235847365300:=True
def tw2810450706366430286:=True
def tw8307574049298835501:=True
def tw3465379880434055627:=True
def tw7890519648626953897:=True
def tw1914633812561983521:=True
def tw4085394644892474305:=True
def tw14636384505285494598:=True
def tw18018438669507581905:=True
def tw14322875879367440902:=True
def tw18404012777771176802:=True
def tw10413042280327285777:=True
def tw11223620205472195967:=True
def tw4636124943204788160:=True
def tw8631166843359981043:=True
def tw1731090847671651933:=True
def tw3243145297577891436:=True
def tw9948979628510306778:=True
def tw3705094281041474273:=True
def tw5396853160937553259:=True
def tw17326748358151156844:=True
def tw1529876172222066810:=True
def tw9584165875607576852:=True
def tw16948698355206370733:=True
def tw16033656835227892077:=True
def tw11598363323890777096:=True
def tw16061704817891802281:=True
def tw14057460144766695978:=True
def tw18373589512215156187:=True
def tw10869219816584756102:=True
def tw6910741610759208089:=True
def tw17290666601510904753:=True
def tw8961654238976163820:=True
def tw16157296487082804298:=True
def tw7842418407079329073:=True
def tw12821651205525687409:=True
def tw13573578379010883782:=True
def tw13640575090373498787:=True
def tw4671209380442088210:=True
def tw7504240688270519770:=True
def tw12133198625805872816:=True
def tw6638472192220367720:=True
def tw4334488474430903641:=True
def tw18287621331700865848:=True
def tw8435480638788387123:=True
def tw17191916947877645297:=True
def tw225431559344530652:=True
def tw15823734876791104670:=True
def tw17971422818172498145:=True
def tw12138000321741395429:=True
def tw17355279196782682131:=True
def tw5758629835505673174:=True
def tw4112408379230260040:=True
def tw6530113254597016587:=True
def tw3133697093072725248:=True
def tw14753248254079627454:=True
def tw1822214719830124777:=True
def tw3106458357661194793:=True
def tw15233733887579153104:=True
def tw678121345728892865:=True
def tw11725388740725024199:=True
def tw14245436973365190924:=True
def tw14799472961971942954:=True
def tw4020781375647259559:=True
def tw2837821453223251913:=True
def tw12885450017454081684:=True
def tw9249433144707375170:=True
def tw1380933932057135262:=True
def tw12472435019932023941:=True
def tw12510282652806450709:=True
def tw7152162128706546792:=True
def tw11776252450909689084:=True
def tw1010296457104018580:=True
def tw5365818484030235862:=True
def tw16574091476166524907:=True
def tw10283835108274596550:=True
def tw15710679131260895701:=True
def tw11452108699090158820:=True
def tw11657357344984586087:=True
def tw16263228981419088865:=True
def tw16972844008029310956:=True
def tw10258723999234832654:=True
def tw14926627172334978950:=True
def tw3786939626122853124:=True
def tw3915583194127593617:=True
def tw10863105358092032173:=True
def tw5818280549935729247:=True
def tw3460325481635025743:=True
def tw12123544369292958954:=True
def tw8880550290263436768:=True
def tw3917015718105189270:=True
def tw14701514034878535884:=True
def tw15326408547492019213:=True
def tw129587489765507360:=True
def tw10215673362914045848:=True
def tw5691342965733281863:=True
def tw500466880436726507:=True
def tw11180079058643899282:=True
def tw17715965989403998351:=True
def tw7516823836051394400:=True
def tw3985941326543148030:=True
def tw5725481957535703960:=True
def tw15658788765678047456:=True
def tw12319476244760745997:=True
def tw7055904069594351481:=True
def tw12683168770400342405:=True
def tw9479730223856116184:=True
def tw8856962880550590048:=True
def tw16117924897763394320:=True
def tw14158909518682816840:=True
def tw15655013480949604607:=True
def tw14570768485111084819:=True
def tw12322125341299573656:=True
def tw379687081328942373:=True
def tw925521855541681562:=True
def tw6826699338121914477:=True
def tw6497674665025007157:=True
def tw15813885986948604175:=True
def tw12084605589756709423:=True
def tw17891757539824643887:=True
def tw14628322102169000582:=True
def tw12457870865911935064:=True
def tw12052188782782188380:=True
def tw6036012955925646788:=True
def tw3538911971889933272:=True
def tw9775160037132236580:=True
def tw8427440714095058922:=True
def tw16498627718990179469:=True
def tw11193487428840354515:=True
def tw7295434235712282451:=True
def tw3978784088493266143:=True
def tw17033223511150704785:=True
def tw7570861238937834225:=True
def tw14282114576907848591:=True
def tw17478763426474623510:=True
def tw911160484837912648:=True
def tw15525708661751306895:=True
def tw4717842816119735483:=True
def tw15597693652107072167:=True
def tw11208298949113191179:=True
def tw6888591522219562092:=True
def tw15586833881662042957:=True
def tw14047692537541685007:=True
def tw1499677272443048520:=True
def tw17191149589585923577:=True
def tw12820176107861367524:=True
def tw14800572481222124830:=True
def tw11979769621761808757:=True
def tw18197635161954406728:=True
def tw3715278787341636363:=True
def tw16157090364225424758:=True
def tw16606928697472356643:=True
def tw5478189674720259086:=True
def tw17887315351926124482:=True
def tw7836344191504881949:=True
def tw586277528375294109:=True
def tw14482344405948272253:=True
def tw1359069239891669045:=True
def tw12933414779369579285:=True
def tw14550373091110370408:=True
def tw15134827651105207465:=True
def tw11379818687115074178:=True
def tw16630375401706243800:=True
def tw13082063825614723984:=True
def tw941816101168540667:=True
def tw8665380803824347300:=True
def tw692712991010120462:=True
def tw4914788474073675719:=True
def tw17303634881794361853:=True
def tw4158039135408934119:=True
def tw3057537799866357432:=True
def tw6257610197230340814:=True
def tw9282865017149340891:=True
def tw16888196733477563017:=True
def tw7060500930762153776:=True
def tw2150900843198317146:=True
def tw13081401843987142285:=True
def tw1680353014589557393:=True
def tw11576932457567453709:=True
def tw8090779154617230621:=True
def tw15780405977090983935:=True
def tw90232632764305107:=True
def tw5250389845710083161:=True
def tw13447384199519943807:=True
def tw7729091659254945629:=True
def tw8758526807794289488:=True
def tw1955248109599379981:=True
def tw8730392105753035449:=True
def tw4322056079974701474:=True
def tw1062620057683479035:=True
def tw1284356291441671528:=True
def tw495552881712473581:=True
def tw15099976407423888864:=True
def tw2353027329049515281:=True
def tw12100723048122416097:=True
def tw2672027530329562931:=True
def tw4015354949225938907:=True
def tw14833329096730855476:=True
def tw6426214263350424941:=True
def tw16411743783905391073:=True
def tw10357344369363594222:=True
def tw9715368757137407062:=True
def tw5826894016334716620:=True
def tw690977462710524960:=True
def tw3280400558801802405:=True
def tw7265178011404974832:=True
def tw13691504077458466267:=True
def tw1160673850204718071:=True
def tw3103596567800815551:=True
def tw889794835305675134:=True
def tw3562219372790306097:=True
def tw1264269933774584455:=True
def tw640986820149339860:=True
def tw15250394906054189230:=True
def tw11331192026768800639:=True
def tw6075787730966251094:=True
def tw15156361677616670212:=True
def tw15334601294733951526:=True
def tw6827855728869035728:=True
def tw12662751758303447125:=True
def tw5963258789361918508:=True
def tw16284066787775289088:=True
def tw10178078664758371786:=True
def tw10900091331872502977:=True
def tw759232122184424310:=True
def tw2973254120645912271:=True
def tw10461495883109343574:=True
def tw1652366877792160354:=True
def tw8073018312532758188:=True
def tw389312553647040307:=True
def tw885104201596411783:=True
def tw11387341196092995946:=True
def tw12438041819928248156:=True
def tw2115391092216930512:=True
def tw13563610855847226768:=True
def tw2148810923563300539:=True
def tw6503066978053752097:=True
def tw9521902943922205797:=True
def tw8707691913843234675:=True
def tw13932887885352253421:=True
def tw3868024548201363443:=True
def tw2913575851388423671:=True
def tw8628895539078732672:=True
def tw4185819174720303817:=True
def tw4964906583666992028:=True
def tw2322771740482423537:=True
def tw18296157262328441927:=True
def tw7502498748646328618:=True
def tw15511237623239883566:=True
def tw15490085340157369243:=True
def tw7079609525959666473:=True
def tw11350771035902787812:=True
def tw303858705414319586:=True
def tw4008968907161962464:=True
def tw17432121320697090932:=True
def tw9559278819006596655:=True
def tw9852841574409086757:=True
def tw1581904149041870931:=True
def tw8293163087043666863:=True
def tw199860506430342700:=True
def tw11690214675298615502:=True
def tw18293040780261277107:=True
def tw13837531359235866434:=True
def tw16179705166093089341:=True
def tw17219383014816743082:=True
def tw12796833160908586518:=True
def tw3991487261606127811:=True
def tw4280940895280961215:=True
def tw3534082698106353655:=True
def tw6977344327734575013:=True
def tw9407890830188250980:=True
def tw4141609121816640378:=True
def tw11249976503057669384:=True
def tw4554214905809693578:=True
def tw13489297852716081339:=True
def tw14065303479308694053:=True
def tw12368120794761052877:=True
def tw9902911627655975937:=True
def tw4456388228486565639:=True
def tw15791284947275107951:=True
def tw9567833134642427063:=True
def tw17629928944625039214:=True
def tw15647673996948945122:=True
def tw16064765190126350103:=True
def tw6609906279681768958:=True
def tw6289969147337449240:=True
def tw8365864182727089502:=True
def tw10423664254193633724:=True
def tw18336501062304064452:=True
def tw13547863951021291280:=True
def tw518758791278395035:=True
def tw9751852578541404027:=True
def tw2310702342855596916:=True
def tw18353491112974952068:=True
def tw5838300091730869338:=True
def tw9605554578937029010:=True
def tw6642811226119878567:=True
def tw10420717850731134593:=True
def tw5964184686562075078:=True
def tw8380637520759916209:=True
def tw14091271962718892258:=True
def tw12103407423821115318:=True
def tw1382936689376485259:=True
def tw10513118649906350351:=True
def tw15077234952846365715:=True
def tw17260681185814762861:=True
def tw15105375884502831802:=True
def tw1235556565030056893:=True
def tw10038474406265826384:=True
def tw11747497413803842876:=True
def tw17350894561684504799:=True
def tw8740631749782537287:=True
def tw17509098927070737101:=True
def tw4293400022845750901:=True
def tw17359062550131023936:=True
def tw2802512440139823125:=True
def tw10213946747089740061:=True
def tw8951663202348672516:=True
def tw12311657604044040923:=True
def tw9520405867484206863:=True
def tw4633598037989563361:=True
def tw6632883058534739597:=True
def tw6657142893098797654:=True
def tw14972520624410548972:=True
def tw16247030932778682651:=True
def tw17985494983102269560:=True
def tw4438586609213717285:=True
def tw13583951348628567178:=True
def tw74199817355311558:=True
def tw6194693017268220659:=True
def tw3960076101368442718:=True
def tw12277025790104087542:=True
def tw6845049396339121620:=True
def tw9120506438569615181:=True
def tw4789699836630942559:=True
def tw10528044549295094574:=True
def tw5185723474351285426:=True
def tw13289633146167976372:=True
def tw17016598337484089625:=True
def tw3545793691916213112:=True
def tw15421372504620556925:=True
def tw8806314891360878973:=True
def tw6206242876392900316:=True
def tw18155041323774655911:=True
def tw21019154577712835:=True
def tw417295352036730055:=True
def tw18216487849808680131:=True
def tw18066771494630319151:=True
def tw17127300331699672975:=True
def tw6848921845312225002:=True
def tw15370290995885745458:=True
def tw8000289835802961504:=True
def tw9419733270657060979:=True
def tw16801471525354161943:=True
def tw16022985927719369793:=True
def tw12174634621555190098:=True
def tw140114799305557071:=True
def tw1843756681830823643:=True
def tw9051332345721057924:=True
def tw5034120528787100434:=True
def tw13703687880461821524:=True
def tw3048570713820259273:=True
def tw2117882656746236124:=True
def tw15243860110359993500:=True
def tw1585433258503017812:=True
def tw11606293567399500694:=True
def tw4733373467418722363:=True
def tw4326827123496748655:=True
def tw8991753828297109580:=True
def tw428723077955487334:=True
def tw18281491893961480125:=True
def tw10473250583837642356:=True
def tw3985894966121406536:=True
def tw3209843487737290653:=True
def tw7055077734536638750:=True
def tw17574817919614408405:=True
def tw1453111628298997976:=True
def tw3323107591231583679:=True
def tw5784136967240570352:=True
def tw11299936540638286891:=True
def tw14131744701846396574:=True
def tw8199070506979166516:=True
def tw13802431006789692627:=True
def tw11861868909390905396:=True
def tw4460528884370417028:=True
def tw17404467889877202696:=True
def tw13794208372296973049:=True
def tw3919033459452737789:=True
def tw16720748826746671825:=True
def tw7850535962139159847:=True
def tw12261682710794123110:=True
def tw11216443906049945004:=True
def tw3965443421547202330:=True
def tw2996400406004343966:=True
def tw12043177979352887970:=True
def tw5285785313909753379:=True
def tw8807841166486318772:=True
def tw8550501328277734263:=True
def tw14351451709461126516:=True
def tw11703214985008507894:=True
def tw12375051609165732485:=True
def tw5644042380435574673:=True
def tw16044464003155365970:=True
def tw12921545714195540959:=True
def tw9126034836847659588:=True
def tw6129098017152089140:=True
def tw3281849471815782080:=True
def tw16428807046259973623:=True
def tw7997679984251641552:=True
def tw1401682888751517734:=True
def tw16786773467345472428:=True
def tw6159910167445855294:=True
def tw7504340580370406395:=True
def tw4282124575089195565:=True
def tw13790278189226425019:=True
def tw8033269995819165101:=True
def tw162369128169946525:=True
def tw4598604238629878306:=True
def tw1026248395990922454:=True
def tw17277302413372799751:=True
def tw16664866637411131911:=True
def tw1314363883324148521:=True
def tw5505103513245916940:=True
def tw7571420659778354061:=True
def tw14081731089144134232:=True
def tw7034694758839594546:=True
def tw3677414675228431864:=True
def tw15345531108730653881:=True
def tw16852034974434904695:=True
def tw14432146504236754771:=True
def tw14159137019331693370:=True
def tw5119987707924733030:=True
def tw17112623943171112930:=True
def tw2847706256820367029:=True
def tw17710813090872657817:=True
def tw15288830483472261019:=True
def tw14872497915381415640:=True
def tw4308200758830337552:=True
def tw11484585886210711063:=True
def tw11543851852736915490:=True
def tw2219666017586715623:=True
def tw11240858944150473094:=True
def tw8805741076473601401:=True
def tw4079573688561611027:=True
def tw15571703544697601722:=True
def tw5204913660733484354:=True
def tw5342691497011518227:=True
def tw12167075032762899019:=True
def tw9333540958450358257:=True
def tw5036175474696240187:=True
def tw17302972611245397848:=True
def tw17424684730143858263:=True
def tw11546015136032291757:=True
def tw18143119345249318149:=True
def tw17640262713642479478:=True
def tw17677539231834462526:=True
def tw2581117364264330792:=True
def tw111006979751105528:=True
def tw14098892506488177576:=True
def tw571968664049943423:=True
def tw3109917125599960896:=True
def tw10857776187128141196:=True
def tw4831930216014686949:=True
def tw5296277648403369126:=True
def tw2288830011946237354:=True
def tw16041773186653555158:=True
def tw6567148931803952910:=True
def tw6887910780395840274:=True
def tw1250574637018885005:=True
def tw17005986748989010594:=True
def tw6198393856785302297:=True
def tw2998612469659610208:=True
def tw3197598869111708382:=True
def tw10182436743232190390:=True
def tw2623319065642697264:=True
def tw16559671717150108377:=True
def tw10863196286011869808:=True
def tw12676519288656657091:=True
def tw11012376085383480283:=True
def tw2446374664783606497:=True
def tw13601246774947079218:=True
def tw340716995382646944:=True
def tw4065379104395111250:=True
def tw8216777958389512846:=True
def tw8677611917564805028:=True
def tw15236216897751195165:=True
def tw17839765370555797007:=True
def tw10533366318656995288:=True
def tw16138025764834478244:=True
def tw1040345130695755793:=True
def tw15622521800239910097:=True
def tw7952198077254089996:=True
def tw8640511739036049139:=True
def tw16649232344435879602:=True
def tw16808226284781366825:=True
def tw15573124530482441603:=True
def tw4120986604956795309:=True
end PySem.W.Fast
set_option maxRecDepth 100000 in
set_option maxHeartbeats 0 in
theorem PySem.Challenge.cw_combstrip_k31_whole_lengths_holds : PySem.Challenge.rw_combstrip_k31_whole_lengths.Holds := by
 w_on;o_law;k_head;(case hw=>w_witness2)
 k_fill
 refine K31.walk (l:=PySem.Challenge.rw_combstrip_k31_whole_lengths) rfl rfl (fun w h Y=>PySem.W.kIn_of Y) ?F
 case F=>
  intro w mg fa h KX G hmg;refine' K31.all KX G hmg (L2.bn_mk KX G ?n0 ?n1 ?n2 ?n3 ?n4 ?n5 ?n6 ?n7 ?n8 ?n9 ?n10 ?n11 ?n12 ?n13 ?n14 ?n15 ?n16 ?n17 ?n18 ?n19 ?n20) ?v0 ?v1 ?v2 ?v3 ?v4 ?v5 ?v6 ?zgt0 ?ztc0 ?r0 ?r1 ?r2 ?r3 ?r4 ?r5 ?r6 ?r7 ?r8 ?r9 ?r10 ?r11 ?r12 ?r13 ?r14 ?zrce ?zhc ?zini ?zbc ?m0 ?m1 ?m2 ?m3 ?m4 ?m5 ?d0 ?d1 ?d2 ?d3 ?d4 ?d5 ?d6 ?d7 ?d8 ?d9 ?d10 ?d11 ?d12 ?d13 ?d14 ?d15 ?d16 ?d17 ?d18 ?d19 ?d20 ?d21 ?d22 ?d23 ?d24 ?d25 ?d26 ?d27 ?d28 ?d29 ?d30 ?d31 ?d32 ?d33 ?d34 ?d35 ?d36 ?d37 ?d38 ?d39 ?d40 ?d41 ?d42 ?d43 ?d44 ?d45 ?d46
  (case n0=>k_is)
  (case n1=>k_is)
  (case n2=>k_is)
  (case n3=>k_is)
  (case n4=>k_is)
  (case n5=>k_is)
  (case n6=>k_is)
  (case n7=>k_is)
  (case n8=>k_is)
  (case n9=>k_is)
  (case n10=>k_is)
  (case n11=>k_is)
  (case n12=>k_is)
  (case n13=>k_is)
  (case n14=>k_is)
  (case n15=>k_is)
  (case n16=>k_is)
  (case n17=>k_is)
  (case n18=>k_is)
  (case n19=>k_is)
  (case n20=>k_is)
  (case v0=>refine' L2.int_mk KX G ?a;(case a=>k_is))
  (case v1=>refine' L2.int_mk KX G ?a;(case a=>k_is))
  (case v2=>refine' L2.int_mk KX G ?a;(case a=>k_is))
  (case v3=>refine' L2.int_mk KX G ?a;(case a=>k_is))
  (case v4=>refine' L2.int_mk KX G ?a;(case a=>k_is))
  (case v5=>refine' L2.int_mk KX G ?a;(case a=>k_is))
  (case v6=>refine' L2.int_mk KX G ?a;(case a=>k_is))
  (case zgt0=>refine' L2.ref_mk KX G ?a;(case a=>k_is))
  (case ztc0=>kernel_rfl)
  (case r0=>refine' L2.ref_mk KX G ?a;(case a=>k_is))
  (case r1=>refine' L2.ref_mk KX G ?a;(case a=>k_is))
  (case r2=>refine' L2.ref_mk KX G ?a;(case a=>k_is))
  (case r3=>refine' L2.ref_mk KX G ?a;(case a=>k_is))
  (case r4=>refine' L2.ref_mk KX G ?a;(case a=>k_is))
  (case r5=>refine' L2.ref_mk KX G ?a;(case a=>k_is))
  (case r6=>refine' L2.ref_mk KX G ?a;(case a=>k_is))
  (case r7=>refine' L2.ref_mk KX G ?a;(case a=>k_is))
  (case r8=>refine' L2.ref_mk KX G ?a;(case a=>k_is))
  (case r9=>refine' L2.ref_mk KX G ?a;(case a=>k_is))
  (case r10=>refine' L2.ref_mk KX G ?a;(case a=>k_is))
  (case r11=>refine' L2.ref_mk KX G ?a;(case a=>k_is))
  (case r12=>refine' L2.ref_mk KX G ?a;(case a=>k_is))
  (case r13=>refine' L2.ref_mk KX G ?a;(case a=>k_is))
  (case r14=>refine' L2.ref_mk KX G ?a;(case a=>k_is))
  (case zrce=>refine' L2.ref_mk KX G ?a;(case a=>k_is))
  (case zhc=>kernel_rfl)
  (case zini=>refine' L2.init_mk (L2.ref_mk KX G ?z) ?a ?l ?c ?k ?i ?k2 ?mk;(case z=>k_is);(case a=>k_is);(case l=>k_is);(case c=>k_is);(case k=>k_is);(case i=>k_is);(case k2=>k_is);(case mk=>k_is))
  (case zbc=>kernel_rfl)
  (case m0=>refine' L2.meth_mk ?a ?l ?c ?k ?i;(case a=>k_is);(case l=>k_is);(case c=>k_is);(case k=>k_is);(case i=>k_is))
  (case m1=>refine' L2.meth_mk ?a ?l ?c ?k ?i;(case a=>k_is);(case l=>k_is);(case c=>k_is);(case k=>k_is);(case i=>k_is))
  (case m2=>refine' L2.meth_mk ?a ?l ?c ?k ?i;(case a=>k_is);(case l=>k_is);(case c=>k_is);(case k=>k_is);(case i=>k_is))
  (case m3=>refine' L2.meth_mk ?a ?l ?c ?k ?i;(case a=>k_is);(case l=>k_is);(case c=>k_is);(case k=>k_is);(case i=>k_is))
  (case m4=>refine' L2.meth_mk ?a ?l ?c ?k ?i;(case a=>k_is);(case l=>k_is);(case c=>k_is);(case k=>k_is);(case i=>k_is))
  (case m5=>refine' L2.meth_mk ?a ?l ?c ?k ?i;(case a=>k_is);(case l=>k_is);(case c=>k_is);(case k=>k_is);(case i=>k_is))
  (case d0=>refine' L2.def_mk KX G ?a ?l ?c ?k;(case a=>k_is);(case l=>k_is);(case c=>k_is);(case k=>k_is))
  (case d1=>refine' L2.def_mk KX G ?a ?l ?c ?k;(case a=>k_is);(case l=>k_is);(case c=>k_is);(case k=>k_is))
  (case d2=>refine' L2.def_mk KX G ?a ?l ?c ?k;(case a=>k_is);(case l=>k_is);(case c=>k_is);(case k=>k_is))
  (case d3=>refine' L2.def_mk KX G ?a ?l ?c ?k;(case a=>k_is);(case l=>k_is);(case c=>k_is);(case k=>k_is))
  (case d4=>refine' L2.def_mk KX G ?a ?l ?c ?k;(case a=>k_is);(case l=>k_is);(case c=>k_is);(case k=>k_is))
  (case d5=>refine' L2.def_mk KX G ?a ?l ?c ?k;(case a=>k_is);(case l=>k_is);(case c=>k_is);(case k=>k_is))
  (case d6=>refine' L2.def_mk KX G ?a ?l ?c ?k;(case a=>k_is);(case l=>k_is);(case c=>k_is);(case k=>k_is))
  (case d7=>refine' L2.def_mk KX G ?a ?l ?c ?k;(case a=>k_is);(case l=>k_is);(case c=>k_is);(case k=>k_is))
  (case d8=>refine' L2.def_mk KX G ?a ?l ?c ?k;(case a=>k_is);(case l=>k_is);(case c=>k_is);(case k=>k_is))
  (case d9=>refine' L2.def_mk KX G ?a ?l ?c ?k;(case a=>k_is);(case l=>k_is);(case c=>k_is);(case k=>k_is))
  (case d10=>refine' L2.def_mk KX G ?a ?l ?c ?k;(case a=>k_is);(case l=>k_is);(case c=>k_is);(case k=>k_is))
  (case d11=>refine' L2.def_mk KX G ?a ?l ?c ?k;(case a=>k_is);(case l=>k_is);(case c=>k_is);(case k=>k_is))
  (case d12=>refine' L2.def_mk KX G ?a ?l ?c ?k;(case a=>k_is);(case l=>k_is);(case c=>k_is);(case k=>k_is))
  (case d13=>refine' L2.def_mk KX G ?a ?l ?c ?k;(case a=>k_is);(case l=>k_is);(case c=>k_is);(case k=>k_is))
  (case d14=>refine' L2.def_mk KX G ?a ?l ?c ?k;(case a=>k_is);(case l=>k_is);(case c=>k_is);(case k=>k_is))
  (case d15=>refine' L2.def_mk KX G ?a ?l ?c ?k;(case a=>k_is);(case l=>k_is);(case c=>k_is);(case k=>k_is))
  (case d16=>refine' L2.def_mk KX G ?a ?l ?c ?k;(case a=>k_is);(case l=>k_is);(case c=>k_is);(case k=>k_is))
  (case d17=>refine' L2.def_mk KX G ?a ?l ?c ?k;(case a=>k_is);(case l=>k_is);(case c=>k_is);(case k=>k_is))
  (case d18=>refine' L2.def_mk KX G ?a ?l ?c ?k;(case a=>k_is);(case l=>k_is);(case c=>k_is);(case k=>k_is))
  (case d19=>refine' L2.def_mk KX G ?a ?l ?c ?k;(case a=>k_is);(case l=>k_is);(case c=>k_is);(case k=>k_is))
  (case d20=>refine' L2.def_mk KX G ?a ?l ?c ?k;(case a=>k_is);(case l=>k_is);(case c=>k_is);(case k=>k_is))
  (case d21=>refine' L2.def_mk KX G ?a ?l ?c ?k;(case a=>k_is);(case l=>k_is);(case c=>k_is);(case k=>k_is))
  (case d22=>refine' L2.def_mk KX G ?a ?l ?c ?k;(case a=>k_is);(case l=>k_is);(case c=>k_is);(case k=>k_is))
  (case d23=>refine' L2.def_mk KX G ?a ?l ?c ?k;(case a=>k_is);(case l=>k_is);(case c=>k_is);(case k=>k_is))
  (case d24=>refine' L2.def_mk KX G ?a ?l ?c ?k;(case a=>k_is);(case l=>k_is);(case c=>k_is);(case k=>k_is))
  (case d25=>refine' L2.def_mk KX G ?a ?l ?c ?k;(case a=>k_is);(case l=>k_is);(case c=>k_is);(case k=>k_is))
  (case d26=>refine' L2.def_mk KX G ?a ?l ?c ?k;(case a=>k_is);(case l=>k_is);(case c=>k_is);(case k=>k_is))
  (case d27=>refine' L2.def_mk KX G ?a ?l ?c ?k;(case a=>k_is);(case l=>k_is);(case c=>k_is);(case k=>k_is))
  (case d28=>refine' L2.def_mk KX G ?a ?l ?c ?k;(case a=>k_is);(case l=>k_is);(case c=>k_is);(case k=>k_is))
  (case d29=>refine' L2.def_mk KX G ?a ?l ?c ?k;(case a=>k_is);(case l=>k_is);(case c=>k_is);(case k=>k_is))
  (case d30=>refine' L2.def_mk KX G ?a ?l ?c ?k;(case a=>k_is);(case l=>k_is);(case c=>k_is);(case k=>k_is))
  (case d31=>refine' L2.def_mk KX G ?a ?l ?c ?k;(case a=>k_is);(case l=>k_is);(case c=>k_is);(case k=>k_is))
  (case d32=>refine' L2.def_mk KX G ?a ?l ?c ?k;(case a=>k_is);(case l=>k_is);(case c=>k_is);(case k=>k_is))
  (case d33=>refine' L2.def_mk KX G ?a ?l ?c ?k;(case a=>k_is);(case l=>k_is);(case c=>k_is);(case k=>k_is))
  (case d34=>refine' L2.def_mk KX G ?a ?l ?c ?k;(case a=>k_is);(case l=>k_is);(case c=>k_is);(case k=>k_is))
  (case d35=>refine' L2.def_mk KX G ?a ?l ?c ?k;(case a=>k_is);(case l=>k_is);(case c=>k_is);(case k=>k_is))
  (case d36=>refine' L2.def_mk KX G ?a ?l ?c ?k;(case a=>k_is);(case l=>k_is);(case c=>k_is);(case k=>k_is))
  (case d37=>refine' L2.def_mk KX G ?a ?l ?c ?k;(case a=>k_is);(case l=>k_is);(case c=>k_is);(case k=>k_is))
  (case d38=>refine' L2.def_mk KX G ?a ?l ?c ?k;(case a=>k_is);(case l=>k_is);(case c=>k_is);(case k=>k_is))
  (case d39=>refine' L2.def_mk KX G ?a ?l ?c ?k;(case a=>k_is);(case l=>k_is);(case c=>k_is);(case k=>k_is))
  (case d40=>refine' L2.def_mk KX G ?a ?l ?c ?k;(case a=>k_is);(case l=>k_is);(case c=>k_is);(case k=>k_is))
  (case d41=>refine' L2.def_mk KX G ?a ?l ?c ?k;(case a=>k_is);(case l=>k_is);(case c=>k_is);(case k=>k_is))
  (case d42=>refine' L2.def_mk KX G ?a ?l ?c ?k;(case a=>k_is);(case l=>k_is);(case c=>k_is);(case k=>k_is))
  (case d43=>refine' L2.def_mk KX G ?a ?l ?c ?k;(case a=>k_is);(case l=>k_is);(case c=>k_is);(case k=>k_is))
  (case d44=>refine' L2.def_mk KX G ?a ?l ?c ?k;(case a=>k_is);(case l=>k_is);(case c=>k_is);(case k=>k_is))
  (case d45=>refine' L2.def_mk KX G ?a ?l ?c ?k;(case a=>k_is);(case l=>k_is);(case c=>k_is);(case k=>k_is))
  (case d46=>refine' L2.def_mk KX G ?a ?l ?c ?k;(case a=>k_is);(case l=>k_is);(case c=>k_is);(case k=>k_is))
