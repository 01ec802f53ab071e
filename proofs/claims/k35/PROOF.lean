import PyProof.Rows.All
import Wide.All
import OpenK.AllK
import Wide.FinOn
import Lean
import PyProof.EqAt
import PyProof.EqKinds
import PyProof.TupleCall
import PySem.Challenge.RW_combstrip_k35_whole_fewer_ends
set_option Elab.async false
set_option linter.all false
set_option maxRecDepth 100000
set_option maxHeartbeats 40000000
open Array renaming length_toList->Ax,toList_append->B9,toList_push->Ch,getElem?_toList->Ck,toList_reverse->Cq,getElem_extract->G7,perm_iff_toList_perm->Gw,getElem?_eq_some_iff->Gx,getElem?_eq_getElem->He,size_map->J7,forIn_toList->Jm,append_assoc->Jn,toList_setIfInBounds->Kr,toList->Lp,toArray_toList->Mi,size_extract->N4,toList_inj->Nq
open Array.Perm renaming refl->G8
open Bool renaming false_ne_true->Ah,eq_iff_iff->B7,false_eq_true->Bt,and_eq_true->Cp,not_true->En,true_and->F4,not_eq_true'->Fx,false_and->Fy,or_eq_true->Kj,or_false->Lg,or_true->M2,and_eq_false_iff->Mh
open Classical renaming byContradiction->D7,not_not->R8
open Decidable renaming byContradiction->K6
open False renaming elim->Eg
open ForInStep renaming yield->E6,done->R6
open Int renaming toNat_natCast->Cj,le_refl->Do,emod_lt_of_pos->Ey,emod_nonneg->Fj,zero_add->Iq,fdiv_eq_ediv_of_nonneg->L4,eq_ofNat_of_zero_le->M0,le_trans->Mf,natCast_emod->O4
open List renaming length_map->A3,range->A4,getElem?_eq_getElem->A5,getD_eq_getElem?_getD->A8,mem_singleton->A9,mem_map->Aa,mem_cons_of_mem->Ab,getElem?_map->Ad,length_append->Af,getElem?_eq_some_iff->Ag,mem_cons_self->Aj,length_range->Am,map_cons->An,mem_append->Ap,mem_filter->Aq,map_map->As,length_cons->At,append_assoc->Av,mem_range->Ay,map_append->B1,size_toArray->B5,mem_of_getElem?->Bd,map_congr_left->Be,any_eq_true->Bf,mem_append_right->Bl,mem_cons->Bo,filter_eq_self->Bs,length_filter_le->Bu,length_singleton->Bx,filter_cons->By,filter_append->C0,pairwise_append->C3,replicate->C5,pairwise_map->C7,getElem_mem->C8,mem_append_left->Ca,getElem?_append_right->Cb,take_length->Cc,take_append_drop->Cd,length_take->Cg,append_nil->Ci,getElem?_eq_none->Cm,getElem?_range->Cn,getElem?_append_left->Co,take_succ_eq_append_getElem->Cs,filter_sublist->Cv,range_succ->Cw,nodup_append->Cy,perm_ext_iff_of_nodup->D5,take_of_length_le->D8,pairwise_lt_range->D9,all_eq_true->Da,pairwise_iff_getElem->Df,sum_cons->Dk,nodup_nil->Dm,getElem_of_mem->Dv,nodup_cons->Dw,filter_map->Dx,perm_append_comm->E1,filter_congr->Ea,replicate_succ->Ec,mem_flatMap->Ed,lookup_cons->Ee,mem_of_find?_eq_some->Ek,filter_eq_nil_iff->Ev,find?_cons->Ez,filter_nil->F0,nodup_iff_pairwise_ne->F9,lookup->Fa,length->Fb,map_nil->Fd,take_sublist->Fo,range_add->Fp,flatten_cons->Fq,flatMap_cons->Fs,ext_getElem?->Ft,drop_sublist->Fu,count_append->Fv,length_drop->G9,any_cons->Gc,map_id->Gd,nil_append->Gh,count_cons->Gi,take_succ_cons->Go,any_map->Gq,all_map->Gr,zip_cons_cons->Gz,find?_eq_none->Ha,drop_eq_getElem_cons->Hf,map->Hr,range_succ_eq_map->Ia,sum_append->Il,length_nil->Im,foldl_cons->Io,find?_some->Ip,mem_iff_getElem?->Iv,mem_of_mem_take->J8,mem_iff_getElem->J9,filterMap_cons->Jg,pairwise_cons->Jo,mem_filterMap->Jp,mapM_toArray->Jt,getElem_take->Ju,getElem_drop->Jv,getElem?_inj->Jw,cons_append->K5,eq_nil_of_length_eq_zero->Kc,of_mem_zip->Kg,forIn_cons->Kh,dropLast_concat_getLast->Ki,foldl->Ku,drop_zero->Kv,drop_drop->Kw,mem_take_iff_getElem->L3,length_erase_of_mem->Le,getElem?_take_of_lt->Lf,getLast_eq_getElem->Lm,getElem?_replicate->Ln,map_id'->Lv,length_pos_of_mem->Lw,getElem?_set_self->Lx,find?_cons_of_pos->Ly,find?_cons_of_neg->Lz,singleton_append->Md,length_dropLast->Mp,getElem?_set_ne->Mq,count_le_length->Ms,length_pos_iff->N2,flatMap_append->N3,map_singleton->N6,getElem_range->N7,filter_filter->N8,reverse_perm->Nm,reverse_cons->No,any_eq_false->Np,nodup_range->Nv,mem_reverse->Nw,getElem_map->Nx,drop_length->Ny,length_set->O3,take_zero->O9,take_add->Oi,le_trans->Oj,all_cons->Ol,filter->P8,Nodup->Q4,any->Qv
open List.Nodup renaming mem_erase_iff->Qw
open List.Pairwise renaming sublist->Bp,imp->Er,nil->Ge,imp_of_mem->Gf
open List.Perm renaming append_left->Dg,append_right->Hh,refl->K2
open Nat renaming le_refl->Ac,lt_of_lt_of_le->Ak,le_trans->Bm,ne_of_lt->Br,zero_le->Bz,add_sub_cancel_left->Cz,add_assoc->Du,lt_irrefl->E5,exists_eq_add_of_le->Eb,mod_eq_of_lt->Es,lt_succ_self->Et,le_of_lt->Ex,zero_add->Fg,sub_self->G0,lt_succ_of_lt->G3,zero_testBit->Gb,lt_trans->Gu,add_zero->Gv,testBit_lt_two_pow->Ii,mod_lt->Ij,add_comm->Ik,min_eq_left->Ir,div_add_mod->Is,add_one_mul->Iu,pow_le_pow_right->Jc,mul_le_mul_right->Jd,eq_of_testBit_eq->Je,sub_add_cancel->Js,sub_zero->K1,le_of_not_lt->Kb,mod_add_mod->Kn,add_mul_mod_self_left->Ld,succ_mul->M9,ne_of_gt->Ma,mul_comm->Mb,le_total->Mc,le_of_ble_eq_true->Mo,pow_pos->My,mul_add->Mz,le_succ->N0,div_le_div_right->N1,mod_eq_sub_mod->Nk,add_sub_cancel->Nl,zero_lt_one->O7,testBit_and->O8,mul_le_mul->Og,zero_mul->P5,pow_succ->P6,le_of_eq->P7,mul_pos->Q2,add_mul->Q3,succ->Qz
open Nat.le renaming dest->Oh
open Ne renaming symm->E7
open Option renaming map_some->Cu,getD_some->Dn,isSome_iff_exists->E2,isSome_map->Hd,map_eq_some_iff->Lc,map->Mm,getD_none->N5,none->Of
open Option.some renaming inj->C1
open Or renaming inl->Ao,inr->G6
open PyProof.Rows renaming wpS_bind->Al,wpS_pure->Ar,Keyed->B0,SortSt->C2,wpS_forRange->D0,boot_isinstance->De,IntsAre->E4,wpS_mono->Ef,SortKind->F8,pairsOf_size->Fh,callWith_type1->G5,boot_list->Gn,listUpdate_at->Gp,wpS_get->Hg,AllBare->Hj,step_dedup->Hn,seqEpoch_at->Hv,boot_sorted->Hw,wpS_lift->Ix,IsTup->Jh,wpS_modify->K7,boot_tuple->K9,lt_int->Km,units_in1->Ky,wpS_reverse->L6,entry_list_sort->Lj,sortedHeap_old->M3,slot_list_sort->M4,boot_all->M5,args_list_sort->M6,sortedHeap_at->Mt,subscriptTail_builtinR->Nb,plain_sorted->Nd,listItems_at->Nf,entry_sorted->Ng,args_sorted1->Nh,kind_sorted->O2,getElem?_mirror_all->O5,Subscript_->Oe,wpAny_notIn_heap->Ot,list_sort_plain->Pf,getElem?_bubble->Pg,get?_update_seq->Ph,mirror->Py,callWith_builtin1->Pz,bubble->Q0,assign_Tuple->Q1,keyLt'_oneType->Qa,boot_str->Qb,StrsAre->Qx
open PyProof.Rows.SortSt renaming mk'->Ke
open PySem renaming wpAny_bind->A0,Value->A1,Shared->A6,Addr->A7,wpAny_pure->Ai,Program->Aw,boot_len->B6,Around->Bi,World->Bq,Paired->Bv,Heap->C9,Expr->Ce,Stmt->Cf,wpAny_truthy_bool->D1,wpAny_mono->Dq,wpAny_holding->Dy,wpAny_call_entry->E8,FuncData->Ep,wpAny_typeNameOfWhole_keyiter->F5,wpAny_passesOwn->F7,mem_of_lookup->Ff,wpAny_typeNameOf_keyiter->Fm,Scope->Fn,wpAny_newObj_type->Ga,wpAny_rule->Gk,wpAny_forIn_list->Gm,wpAny_specialOf->Hb,Builtin->Hi,wpAny_setField->Hk,wpAny_Call_Name_kw->Hl,tupleKind_room_in1->Hm,wpAny_dictEntries->Ht,Model->I0,wpAny_newList->Ie,PyData->Ih,wpAny_isInstance->Iy,wpAny_callSpecial?_slot->Iz,NameKind->J5,DictEntry->J6,call_meets->Ja,wpAny_execs_nil->Jf,wpAny_isOneOf_keyiter->Ji,isSubtype_tuple_tuple->Jj,wpAny_fieldsOf->Jq,wpAny_standAt->K3,wpAny_attempt->K4,wpAny_tupleItemsOf->K8,codeAny_mono->Kk,BindsTo->Kq,wpAny_execs_cons->Kx,wpAny_field->L7,wpAny_dictEpoch->Li,Within->Ll,IsTupleKey->Me,call->Mw,CmpOp->N9,wpAny_Assign_Subscript->Na,seqIndex_neg->Nc,Fin->Nj,wpAny_isTrue_Compare1->Nr,wpAny_pyIter_keyiter->Nz,sizeLine_eq->O0,seqIndex_of->O1,wpAny_setItem_heap->Oa,wpAny_getItem_heap->Ob,wpAny_Name->Oc,typeIs_int->Od,wpAny_pyIter_list->Om,wpAny_assign_Name->On,slot_list_getitem->Oo,wpAny_Dict_empty->Ou,PassesOwn->P4,wpAny_ret_mkInt->Pd,wpAny_loadPart'->Pe,wpAny_seqItems->Q7,wpAny_newTuple->Q8,wpAny_Compare1->Q9,Params->Qd,intBits_le_64->Qf,evalPart_none->Qg,call_list_seq->Qh,Keyword->R5
open PySem.Around renaming under->Lh
open PySem.AutoListH renaming list___mul___list_int_3->Ra
open PySem.Builtin renaming bitAnd->E3
open PySem.Builtin.Dict renaming showsAll->Kd,pendingCount->Q5,dictSlotNone->Q6
open PySem.Builtin.Dict_items renaming ownsTuple->Ic
open PySem.Builtin.List renaming listTooLong->Gj
open PySem.Builtin.Range renaming rangeSize->Pc
open PySem.Builtin.Tuple renaming tupleHashOf->F3,tupleItemsOf->Pa,tupleCompareSizes->Pb
open PySem.Calls renaming call_function_entry->Fe,Name_function_global->Kp,callWith_builtin->Lo,evalArgs_plain->Mg
open PySem.Code renaming isFrame->M1,frames->P9
open PySem.DictEntry renaming refKey->R7
open PySem.EntryCells renaming newEntry->L5
open PySem.EqMixed renaming ne_str_int->Ow,ne_str_bool->Ox,ne_int_str->Oy,ne_bool_str->Oz,eq_str_int->P0,eq_str_bool->P1,eq_int_str->P2,eq_bool_str->P3
open PySem.EqNone renaming ne_str_none->Pj,ne_none_str->Pk,ne_none_none->Pl,ne_none_int->Pm,ne_none_bool->Pn,ne_int_none->Po,ne_bool_none->Pp,eq_str_none->Pq,eq_none_str->Pr,eq_none_none->Ps,eq_none_int->Pt,eq_none_bool->Pu,eq_int_none->Pw,eq_bool_none->Px
open PySem.F renaming plainAttrs_list->B8,type_list_append->Bg,slot_list_append->Bh,slot_tuple_lt->Hs,slot_dict_getitem->Kf,args_tuple_lt_2->Kt,entry_tuple_lt->L1
open PySem.Heap renaming get?_push_of_some->Ae,lt_size->Au,get?_push_size->Ba,size_push->Fc,SameBut->Fw,get?_update_other->Ib,get?_update_self->Iw
open PySem.Heap.DictOf renaming new->Qe
open PySem.Heap.IsSliceOf renaming new->Os
open PySem.Heap.SameBut renaming update->Ko
open PySem.IsL renaming update->Qy
open PySem.NameKind renaming free->Cr,cell->J4
open PySem.Obj renaming mapSeq->Eo,mapFields->Fi,data_mapFields->Fl,isFreed_of_fields->Mn,cls_mapFields->Nu
open PySem.Paired renaming length->Bw,snoc->Ej,mono->Lu
open PySem.PassesOwn renaming never->Bb,leaving->Ls
open PySem.PyData renaming canLayAll0->C6,depthAll->Dj,eqv->Dt,int->Dz,eqvAll->Ew,canLay0->F6,depth->Gg,bool->Hc
open PySem.SeqAt renaming shaped->El,EqAt->Mu
open PySem.SeqAt.EqAt renaming bool_bool->Ks,str_int->L8,int_str->L9,int_int->La,str_str->Qj,str_none->Qk,str_bool->Ql,same->Qm,none_str->Qn,none_int->Qo,none_bool->Qp,int_none->Qq,int_bool->Qr,bool_str->Qs,bool_none->Qt,bool_int->Qu
open PySem.Str renaming ofString->A2,length->Qc,empty->Qi
open PySem.Value renaming ref->Bc,none->Em,type->Eu,bool->Gs,int->Ho,str->Jx,float->M7,isStrOf->O6,isInt->Op,bytes->Oq
open PySem.W renaming Frag->Az,mg_none_of->Bj,nsIn->C4,findIn->Ct,fnOf->D6,kia_one->Di,excIn->Dp,keepIn->Dr,emptyDict->Ds,hideAll->E9,instObj->Ei,codeIn->Fk,plainGet->Fz,hasDictIn->Gy,isFn->Hq,lookIn->Ig,plainGet_of->J0,kdu_collect->J3,of_hideAll->Jb,plainOver->Jk,methodObj->Jl,kdl_dict->Jr,takerIn->Jy,makesIn->Jz,OpenLaw->K0,kitOne->Ka,mg_of->Kl,cellsFrom_some->Kz,methodCall_KW->Lb,hideAll_get->Lq,callWith_K0->Lr,callWith_K->M8,kitx_list->Mj,kitx_dict->Ml,handedIn->Mx,WalkO->Nt
open PySem.W.KT renaming app_list->L0
open PySem.W.Looks renaming here->Ov
open PySem.Within renaming cons->Pi
open StateT renaming run_pure->Ni
open Sum renaming inl->Db,inr->Dh
open Sum.inr renaming inj->Lk
open True renaming intro->Eh
local macro_rules | `(tactic| omega) => `(tactic| first | lia | omega +splitDisjunctions)
namespace L2
open PySem PySem.Spec PyProof.Rows
noncomputable abbrev Key:=Sum Int Str
noncomputable def keyIs:Key->A1->Bool
 | .inl k,v=>Op k v
 | .inr x,v=>O6 x v
noncomputable def keyH(w:Bq):Key->Int
 | .inl k=>hashInt k
 | .inr x=>hashStr w x
theorem zaG:∀{k:Key}{v:A1},keyIs k v=true->(∃i t,k=Db i/\v=Ho i t)\/(∃x t,k=Dh x/\v=Jx x t)
 | .inl i,v,h=>by
  obtain⟨t,e⟩:=Value.isInt_shape (k:=i) (v:=v) h;exact .inl ⟨i,t,rfl,e⟩
 | .inr x,v,h=>by
  obtain⟨t,e⟩:=Value.isStrOf_shape (x:=x) (v:=v) h;exact .inr ⟨x,t,rfl,e⟩
theorem keyIs_int(i:Int)(t:Tok):keyIs (.inl i) (.int i t)=true:=by simp[keyIs,Op]
theorem keyIs_str(x:Str)(t:Tok):keyIs (.inr x) (.str x t)=true:=by simp[keyIs,O6]
theorem key_ll(a b:Int):decide ((Db a:Key)=Db b)=(a==b):=by
 by_cases e:a=b
 ·subst e;simp
 ·have h:¬(Db a:Key)=Db b:=fun q=>e (Sum.inl.inj q);rw[decide_eq_false h];exact(beq_eq_false_iff_ne.mpr e).symm
theorem key_rr(a b:Str):decide ((Dh a:Key)=Dh b)=decide (a=b):=by
 by_cases e:a=b
 ·subst e;simp
 ·have h:¬(Dh a:Key)=Dh b:=fun q=>e (Lk q);rw[decide_eq_false h,decide_eq_false e]
theorem key_lr(a:Int)(b:Str):decide ((Db a:Key)=Dh b)=false:=decide_eq_false (fun q=>nomatch q)
theorem key_rl(a:Str)(b:Int):decide ((Dh a:Key)=Db b)=false:=decide_eq_false (fun q=>nomatch q)
noncomputable def mixKind(prog:Aw)(w:Bq):PySem.KeyKind prog w Key where
 is:=keyIs
 hash:=keyH w
 inj:=fun v a b ha hb=>by
  rcases zaG ha with⟨i,t,rfl,rfl⟩|⟨x,t,rfl,rfl⟩
  ·rcases zaG hb with⟨j,u,rfl,e⟩|⟨y,u,rfl,e⟩
   ·injection e with e1 _;rw[e1]
   ·exact nomatch e
  ·rcases zaG hb with⟨j,u,rfl,e⟩|⟨y,u,rfl,e⟩
   ·exact nomatch e
   ·injection e with e1 _;rw[e1]
 byValue:=fun k v h=>by
  rcases zaG h with⟨i,t,rfl,rfl⟩|⟨x,t,rfl,rfl⟩<;>rfl
 pyHash:=fun hv h=>by
  rcases zaG hv with⟨i,t,rfl,rfl⟩|⟨x,t,rfl,rfl⟩
  ·exact wpAny_pyHash_int h
  ·exact wpAny_pyHash_str h
 eqBool:=fun hu hv h=>by
  rcases zaG hu with⟨i,t,rfl,rfl⟩|⟨x,t,rfl,rfl⟩
  ·rcases zaG hv with⟨j,u,rfl,rfl⟩|⟨y,u,rfl,rfl⟩
   ·rw[key_ll] at h;exact wpAny_eqBool_int h
   ·rw[key_lr] at h;exact L9 i t y u _ _ _ _ h
  ·rcases zaG hv with⟨j,u,rfl,rfl⟩|⟨y,u,rfl,rfl⟩
   ·rw[key_rl] at h;exact L8 x t j u _ _ _ _ h
   ·rw[key_rr] at h;exact wpAny_eqBool_str h
 «strs»:=fun k x t v h=>by
  rcases zaG h with⟨i,u,rfl,e⟩|⟨y,u,rfl,e⟩
  ·exact nomatch e
  ·injection e with e1 _;subst e1
   cases v<;>rfl
theorem mixKind_int(prog:Aw)(w:Bq)(i:Int)(t:Tok):(mixKind prog w).is (.inl i) (.int i t)=true:=keyIs_int i t
theorem mixKind_str(prog:Aw)(w:Bq)(x:Str)(t:Tok):(mixKind prog w).is (.inr x) (.str x t)=true:=keyIs_str x t
inductive V where
 |non|bl (b:Bool)|int (i:Int)|str (x:Str)|byt (b:Array UInt8)|flt (b:UInt64)|ref (a:A7)|ty (n:String)
 deriving DecidableEq
noncomputable def RelV:V->A1->Prop
 | .non,u=>u=Em
 | .bl b,u=>u=Gs b
 | .int i,u=>∃t,u=Ho i t
 | .str x,u=>∃t,u=Jx x t
 | .byt b,u=>∃t,u=Oq b t
 | .flt b,u=>∃t,u=M7 b t
 | .ref a,u=>u=Bc a
 | .ty n,u=>u=Eu n
noncomputable abbrev Vals:List V->List A1->Prop:=Bv RelV
theorem Vals.length{xs:List V}{us:List A1}(r:Vals xs us):xs.length=us.length:=Bw r
theorem Vals.get:∀{xs:List V}{us:List A1}{i:Nat}{x:V},Vals xs us->xs[i]?=some x->∃u,us[i]?=some u/\RelV x u
 |_,_,_,_,.nil,e=>by simp at e
 |_,_,0,_,.cons r _,e=>by simp at e;subst e;exact⟨_,rfl,r⟩
 |_,_,i+1,x,.cons _ t,e=>by
  obtain⟨u,h1,h2⟩:=Vals.get (i:=i) (x:=x) t (by simpa using e);exact⟨u,by simpa using h1,h2⟩
theorem Vals.set{x:V}{u:A1}(r:RelV x u):∀{xs:List V}{us:List A1}(i:Nat),Vals xs us->Vals (xs.set i x) (us.set i u)
 |_,_,_,.nil=>.nil
 |_,_,0,.cons _ t=>.cons r t
 |_,_,i+1,.cons q t=>.cons q (Vals.set r i t)
theorem Vals.append:∀{xs ys:List V}{us ws:List A1},Vals xs us->Vals ys ws->Vals (xs++ys) (us++ws)
 |_,_,_,_,.nil,s=>s
 |_,_,_,_,.cons r t,s=>.cons r (Vals.append t s)
theorem Vals.take:∀{xs:List V}{us:List A1}(n:Nat),Vals xs us->Vals (xs.take n) (us.take n)
 |_,_,0,_=>.nil
 |_,_,_+1,.nil=>.nil
 |_,_,n+1,.cons r t=>.cons r (Vals.take n t)
theorem Vals.drop:∀{xs:List V}{us:List A1}(n:Nat),Vals xs us->Vals (xs.drop n) (us.drop n)
 |_,_,0,r=>r
 |_,_,_+1,.nil=>.nil
 |_,_,n+1,.cons _ t=>Vals.drop n t
noncomputable def RelO:Option V->Option A1->Prop
 |some v,some u=>RelV v u
 |none,none=>True
 |_,_=>False
noncomputable def KV{κ:Type}:List (κ×V)->List (κ×A1)->Prop:=Bv fun(p:κ×V)(q:κ×A1)=>p.1=q.1/\RelV p.2 q.2
noncomputable def kV:Key->V
 | .inl i=>.int i
 | .inr x=>.str x
inductive HO where
  |lst (xs:List V)
  |tup (xs:List V)
  |dK (kvs:List (Key×V))|dT (kvs:List (List Key×V))
  |set (S:Int->Bool) (n:Nat)
  |ins (C dx:A7) (fs:List (Str×V))
  |own (x:A7)
  |xd (fs:List (Str×V))
  |met (f x:A7)
  |rng (lo hi:Int)
  |frz (o:Obj) (u:HO)
  |tbl (ps:Array A1)
  |ext (φ:C9->Prop)
noncomputable abbrev Hp:=A7->Option HO
noncomputable def upd(H:Hp)(a:A7)(o:HO):Hp:=fun b=>if b=a then some o else H b
theorem zad{H:Hp}{a:A7}{o:HO}:upd H a o a=some o:=by unfold upd;rw[if_pos rfl]
theorem zag{H:Hp}{a b:A7}{o:HO}(h:b≠a):upd H a o b=H b:=by unfold upd;rw[if_neg h]
theorem zh0{H:Hp}{a b:A7}{o u:HO}(h:H a=some o)(h':H b=some u)(d:o≠u):a≠b:=by
 intro e;subst e;rw[h] at h';exact d (C1 h')
theorem zas{H:Hp}{a b:A7}{o:HO}(h:H a=some o)(h':H b=none):a≠b:=by
 intro e;subst e;rw[h] at h';cases h'
section
variable(P:Aw)(w:Bq)
noncomputable def ObjOk(H:Hp)(h:C9)(a:A7):HO->Prop
 | .lst xs=>xs.length<=sizeLine/\∃(its:List A1)(n:Nat),Vals xs its/\h.get? a=some {cls:=.type "list",data:=.seq its.toArray n}
 | .tup xs=>xs.length<=sizeLine/\∃its:List A1,Vals xs its/\Jh h a its.toArray
 | .dK kvs=>kvs.length<=sizeLine/\(a==sysModules)=false/\∃vs,KV kvs vs/\h.DictOf (mixKind P w) a vs
 | .dT kvs=>kvs.length<=sizeLine/\(a==sysModules)=false/\∃xs:List (List Key×A7×A1),
   Bv (fun(p:List Key×V)(q:List Key×A7×A1)=>p.1=q.1/\H q.2.1=some (.tup (p.1.map kV))/\RelV p.2 q.2.2) kvs xs/\
   ∃o es ep,h.get? a=some o/\o.ExactDict/\o.data= .dict es ep/\es.toList=xs.map (entryOfKey (tupleKind (mixKind P w)))/\(xs.map (·.1)).Nodup
 | .set S n=>h.SetOf (intKind P w) a S n
 | .ins C dx fs=>H dx=some (.own a)/\fs.length<=1000/\dx≠a/\h.get? a=some (Ei C dx)/\
   ∃mA,h.Ns1 dx mA/\(∀f,RelO (fs.lookup f) (mA f))/\Ll mA (fs.map (·.1))
 | .own _=>∃o,h.get? a=some o
 | .xd fs=>∃mA,h.Ns1 a mA/\∀f,RelO (fs.lookup f) (mA f)
 | .rng lo hi=>∃t u v,h.get? a=some {cls:=.type "range",data:=.fields #[.int lo t,.int hi u,.int 1 v]}
 | .frz o u=>h.get? a=some o/\ObjOk H h a u
 | .tbl ps=>h.get? a=some {cls:=.none,data:=.fields ps}
 | .met f x=>h.get? a=some (Jl (.ref f) (.ref x))
 | .ext φ=>φ h/\(∃o,h.get? a=some o)/\∀h1 h2:C9,φ h1->(∀o,h1.get? a=some o->h2.get? a=some o)->φ h2
noncomputable def HOk(H:Hp)(h:C9):Prop:=∀a o,H a=some o->ObjOk P w H h a o
end
section
variable{P:Aw}{w:Bq}{H H':Hp}{h h':C9}{a:A7}{o:HO}
theorem ObjOk.lt(x:ObjOk P w H h a o):a<h.objs.size:=by
 cases o with
 |lst xs=>obtain⟨_,_,_,_,e⟩:=x;exact Au e
 |tup xs=>obtain⟨_,_,_,p⟩:=x;exact p.lt
 |dK kvs=>obtain⟨_,_,_,_,o,_,_,e,_⟩:=x;exact Au e
 |dT kvs=>obtain⟨_,_,_,_,o,_,_,e,_⟩:=x;exact Au e
 |set S n=>obtain⟨o,_,_,_,e,_⟩:=x;exact Au e
 |ins C dx fs=>obtain⟨_,_,_,e,_⟩:=x;exact Au e
 |own y=>obtain⟨_,e⟩:=x;exact Au e
 |xd fs=>obtain⟨_,⟨_,_,_,e,_⟩,_⟩:=x;exact Au e
 |rng lo hi=>obtain⟨_,_,_,e⟩:=x;exact Au e
 |frz ob u=>obtain⟨e,_⟩:=x;exact Au e
 |tbl ps=>exact Au (show h.get? a=some _ from x)
 |met f y=>exact Au (show h.get? a=some _ from x)
 |ext φ=>obtain⟨_,⟨_,e⟩,_⟩:=x;exact Au e
theorem Bv.mapP{α β:Type}{F G:α->β->Prop}:∀{l₁:List α}{l₂:List β},Bv F l₁ l₂->(∀a b,F a b->G a b)->Bv G l₁ l₂
 |_,_,.nil,_=>.nil
 |_,_,.cons r t,f=>.cons (f _ _ r) (Bv.mapP t f)
theorem ObjOk.stay(x:ObjOk P w H h a o)(k:∀b u,(b=a\/H b=some (.own a))->h.get? b=some u->h'.get? b=some u)
  (ho:∀b,H b=some (.own a)->H' b=some (.own a)) (ht:∀b xs,H b=some (.tup xs)->H' b=some (.tup xs)):ObjOk P w H' h' a o:=by
 induction o with
 |lst xs=>obtain⟨z,its,n,r,e⟩:=x;exact⟨z,its,n,r,k _ _ (.inl rfl) e⟩
 |tup xs=>obtain⟨z,its,r,ob,e,c⟩:=x;exact⟨z,its,r,ob,k _ _ (.inl rfl) e,c⟩
 |dK kvs=>obtain⟨z,y,vs,r,ob,es,ep,e,c⟩:=x;exact⟨z,y,vs,r,ob,es,ep,k _ _ (.inl rfl) e,c⟩
 |dT kvs=>
  obtain⟨z,y,xs,r,ob,es,ep,e,c⟩:=x;exact⟨z,y,xs,Bv.mapP r fun p q z=>⟨z.1,ht _ _ z.2.1,z.2.2⟩,ob,es,ep,k _ _ (.inl rfl) e,c⟩
 |set S n=>obtain⟨ob,es,ep,t,e,c⟩:=x;exact⟨ob,es,ep,t,k _ _ (.inl rfl) e,c⟩
 |ins C dx fs=>
  obtain⟨d,z,ne,e,mA,⟨od,es,ep,e2,c⟩,r⟩:=x;exact⟨ho _ d,z,ne,k _ _ (.inl rfl) e,mA,⟨od,es,ep,k _ _ (.inr d) e2,c⟩,r⟩
 |own y=>obtain⟨ob,e⟩:=x;exact⟨ob,k _ _ (.inl rfl) e⟩
 |xd fs=>obtain⟨mA,⟨od,es,ep,e,c⟩,r⟩:=x;exact⟨mA,⟨od,es,ep,k _ _ (.inl rfl) e,c⟩,r⟩
 |rng lo hi=>obtain⟨t,u,v,e⟩:=x;exact⟨t,u,v,k _ _ (.inl rfl) e⟩
 |frz ob u ih=>obtain⟨e,q⟩:=x;exact⟨k _ _ (.inl rfl) e,ih q⟩
 |tbl ps=>
  have e:h.get? a=some {cls:=.none,data:=.fields ps}:=x;show h'.get? a=some {cls:=.none,data:=.fields ps};exact k a _ (.inl rfl) e
 |met f y=>
  have e:h.get? a=some (Jl (.ref f) (.ref y)):=x;show h'.get? a=some (Jl (.ref f) (.ref y));exact k a _ (.inl rfl) e
 |ext φ=>obtain⟨p,⟨o,e⟩,st⟩:=x;exact⟨st _ _ p fun o q=>k _ _ (.inl rfl) q,⟨o,k _ _ (.inl rfl) e⟩,st⟩
theorem HOk.lt(x:HOk P w H h)(e:H a=some o):a<h.objs.size:=(x a o e).lt
theorem HOk.fresh(x:HOk P w H h)(e:h.objs.size<=a):H a=none:=by
 cases q:H a with
 |none=>rfl
 |some u=>exact absurd (Ak (x.lt q) e) (E5 _)
theorem HOk.kept(x:HOk P w H h)(k:∀b u,h.get? b=some u->h'.get? b=some u):HOk P w H h':=fun a o e=>
 (x a o e).stay (fun b u _ q=>k b u q) (fun _ q=>q) fun _ _ q=>q
theorem HOk.laid(x:HOk P w H h)(k:∀b u,h.get? b=some u->h'.get? b=some u)(hp:h.objs.size<=a)(new:ObjOk P w (upd H a o) h' a o):HOk P w (upd H a o) h':=fun b u e=>by
 have hn:=x.fresh hp;by_cases hb:b=a
 ·subst hb;rw[zad] at e;cases e;exact new
 ·rw[zag hb] at e;exact(x b u e).stay (fun c v _ q=>k c v q) (fun c q=>by rw[zag (zas q hn)];exact q) fun c xs q=>by rw[zag (zas q hn)];exact q
end
noncomputable def Rd(H:Hp)(a:A7)(u:HO):Prop:=H a=some u\/∃o,H a=some (.frz o u)
theorem Rd.ok{P:Aw}{w:Bq}{H:Hp}{h:C9}{a:A7}{u:HO}(r:Rd H a u)(x:HOk P w H h):ObjOk P w H h a u:=by
 rcases r with r|⟨o,r⟩
 ·exact x a u r
 ·obtain⟨_,q⟩:=x a _ r;exact q
noncomputable def Mut:Option HO->Prop
 |some (.lst _)=>True
 |some (.dK _)=>True
 |some (.dT _)=>True
 |some (.set _ _)=>True
 |some (.ins _ _ _)=>True
 |some (.ext _)=>True
 |_=>False
section
variable{P:Aw}{w:Bq}{H:Hp}{h h':C9}{x e:A7}{o':HO}
theorem HOk.write(ok:HOk P w H h)(mu:Mut (H x))(he:e=x\/H e=some (.own x))(k:∀b u,b≠e->h.get? b=some u->h'.get? b=some u)(heo:∃u,h'.get? e=some u)
  (new:ObjOk P w (upd H x o') h' x o'):HOk P w (upd H x o') h':=fun b u q=>by
 have nown:∀c y,H c=some (.own y)->c≠x:=fun c y r z=>by subst z;rw[r] at mu;exact mu
 have ntup:∀c xs,H c=some (.tup xs)->c≠x:=fun c xs r z=>by subst z;rw[r] at mu;exact mu
 by_cases hb:b=x
 ·subst hb;rw[zad] at q;cases q;exact new
 ·rw[zag hb] at q;by_cases hbe:b=e
  ·have q':H b=some (.own x):=by
    rcases he with z|z
    ·exact absurd (hbe.trans z) hb
    ·rw[hbe];exact z
   rw[q] at q';cases q'
   obtain⟨v,hv⟩:=heo;exact⟨v,by rw[hbe];exact hv⟩
  ·refine(ok b u q).stay (fun c v hc r=>k c v ?_ r) (fun c r=>by rw[zag (nown c b r)];exact r) fun c xs r=>by rw[zag (ntup c xs r)];exact r
   rcases hc with rfl|hc
   ·exact hbe
   ·rintro rfl;rcases he with z|z
    ·exact nown c b hc z
    ·rw[hc] at z;cases z;exact hb rfl
end
structure Un(fs ex:List A7)(H H':Hp)(h h':C9):Prop where
 keep:∀b o,h.get? b=some o->H b=none->b∉fs->b∉ex->h'.get? b=some o
 slot:∀b o,h.get? b=some o->H b=none->b∈fs->b∉ex->∃sl,h'.get? b=some {o with slots:=sl}
 free:∀b o,h.get? b=some o->H b=none->b∉ex->H' b=none
 there:∀b o,h.get? b=some o->b∉ex->∃o',h'.get? b=some o'
 tups:∀b xs,H b=some (.tup xs)->H' b=some (.tup xs)
 frzs:∀b o u,H b=some (.frz o u)->H' b=some (.frz o u)
 tbls:∀b ps,H b=some (.tbl ps)->∃more,H' b=some (.tbl (ps++more))
section
variable{fs fs' ex ex':List A7}{H H1 H2:Hp}{h h1 h2 h':C9}{a x e:A7}{o:HO}
theorem Un.any(u:Un fs ex H H1 h h1){b:A7}{ob:Obj}(q:h.get? b=some ob)(n:H b=none)(hx:b∉ex):∃sl,h1.get? b=some {ob with slots:=sl}:=by
 by_cases hb:b∈fs
 ·exact u.slot b ob q n hb hx
 ·exact⟨ob.slots,u.keep b ob q n hb hx⟩
theorem Un.trans(a:Un fs ex H H1 h h1)(b:Un fs ex H1 H2 h1 h2):Un fs ex H H2 h h2 where
 keep:=fun c ob q n hc hx=>b.keep c ob (a.keep c ob q n hc hx) (a.free c ob q n hx) hc hx
 slot:=fun c ob q n hc hx=>by
  obtain⟨sl,e1⟩:=a.slot c ob q n hc hx;obtain⟨sl',e2⟩:=b.slot c _ e1 (a.free c ob q n hx) hc hx;exact⟨sl',e2⟩
 free:=fun c ob q n hx=>by
  obtain⟨o',e1⟩:=a.there c ob q hx;exact b.free c o' e1 (a.free c ob q n hx) hx
 there:=fun c ob q hx=>by
  obtain⟨o',e1⟩:=a.there c ob q hx;exact b.there c o' e1 hx
 tups:=fun c xs q=>b.tups c xs (a.tups c xs q)
 frzs:=fun c ob xs q=>b.frzs c ob xs (a.frzs c ob xs q)
 tbls:=fun c ps q=>by
  obtain⟨m1,e1⟩:=a.tbls c ps q;obtain⟨m2,e2⟩:=b.tbls c _ e1;exact⟨m1++m2,by rw[e2,Jn]⟩
theorem Un.kept(k:∀b u,h.get? b=some u->h'.get? b=some u):Un fs ex H H h h':=
 ⟨fun b ob q _ _ _=>k b ob q,fun b ob q _ _ _=>⟨ob.slots,k b ob q⟩,fun _ _ _ n _=>n,fun b ob q _=>⟨ob,k b ob q⟩,fun _ _ q=>q,fun _ _ _ q=>q,fun _ ps q=>⟨#[],by rw[q];simp⟩⟩
theorem Un.refl:Un fs ex H H h h:=Un.kept fun _ _ q=>q
theorem Un.laid(k:∀b u,h.get? b=some u->h'.get? b=some u)(hp:h.objs.size<=a)(hn:H a=none):Un fs ex H (upd H a o) h h' where
 keep:=fun b u q _ _ _=>k b u q
 slot:=fun b u q _ _ _=>⟨u.slots,k b u q⟩
 free:=fun b u q n _=>by rw[zag (Br (Ak (Au q) hp))];exact n
 there:=fun b u q _=>⟨u,k b u q⟩
 tups:=fun b xs q=>by rw[zag (zas q hn)];exact q
 frzs:=fun b u xs q=>by rw[zag (zas q hn)];exact q
 tbls:=fun b ps q=>⟨#[],by rw[zag (zas q hn),q];simp⟩
theorem Un.write(mu:Mut (H x))(he:e=x\/H e=some (.own x))(k:∀b u,b≠e->h.get? b=some u->h'.get? b=some u)(heo:∃u,h'.get? e=some u):Un fs ex H (upd H x o) h h':=by
 have hx:∀b,H b=none->b≠x:=fun b n z=>by subst z;rw[n] at mu;exact mu
 have hb:∀b,H b=none->b≠e:=fun b n z=>by
  subst z;rcases he with r|r
  ·exact hx b n r
  ·rw[n] at r;cases r
 have hm:∀b u,H b=some u->¬Mut (some u)->b≠x:=fun b u q nm z=>by subst z;rw[q] at mu;exact nm mu
 refine⟨fun b u q n _ _=>k b u (hb b n) q,fun b u q n _ _=>⟨u.slots,k b u (hb b n) q⟩,fun b u q n _=>by rw[zag (hx b n)];exact n,fun b u q _=>?_,
  fun b xs q=>by rw[zag (hm b _ q fun z=>z)];exact q,fun b u xs q=>by rw[zag (hm b _ q fun z=>z)];exact q,fun b ps q=>⟨#[],by rw[zag (hm b _ q fun z=>z),q];simp⟩⟩
 by_cases hbe:b=e
 ·subst hbe;exact heo
 ·exact⟨u,k b u hbe q⟩
end
noncomputable def trk(h:C9)(H:Hp):List A7:=(A4 h.objs.size).filter fun a=>(H a).isSome
noncomputable def hidT(h:C9)(H:Hp):C9:=E9 h (trk h H)
theorem hidT_size(h:C9)(H:Hp):(hidT h H).objs.size=h.objs.size:=PySem.W.hideAll_size _ _
theorem hidT_get{h:C9}{H:Hp}{b:A7}{o:Obj}(e:h.get? b=some o)(n:H b=none):(hidT h H).get? b=some o:=
 Lq _ e fun hm=>by
  have q:(H b).isSome=true:=(Aq.mp hm).2;rw[n] at q;simp at q
theorem of_hidT{h:C9}{H:Hp}{b:A7}{o:Obj}(e:(hidT h H).get? b=some o):h.get? b=some o/\H b=none:=by
 have e':h.get? b=some o:=Jb (trk h H) e;refine⟨e',?_⟩
 cases q:H b with
 |none=>rfl
 |some x=>
  have hm:b∈trk h H:=Aq.mpr ⟨Ay.mpr (Au e'),by simp[q]⟩;have z:(hidT h H).get? b=none:=PySem.W.hideAll_none (trk h H) hm;rw[z] at e;cases e
noncomputable def allNews(g h:C9)(L:A7):List (A7×Obj):=(A4 h.objs.size).filterMap fun a=>if a=L\/(g.get? a).isSome=true then none else(h.get? a).map fun o=>(a,o)
noncomputable def rest(g h:C9)(L d:A7):List (A7×Obj):=(allNews g h L).filter fun p=>decide (p.1≠d)
structure Mod(K:Az)(mg:Str->Option A1)(base:C9):Prop where
 kin:K.In base
 glob:base.Ns mainGlobals mg
 blt:∃mb,base.Ns builtinsNs mb/\∀x:Str,x≠"__name__"->mb x=bootBuiltins x
 nolimit:base.NoLimit
structure Cx where
 prog:Aw
 w:Bq
 K:Az
 mg:Str->Option A1
 base:C9
 A:Bi
 N:List Str
 s₀:A6
 H₀:Hp
 env:Env
 outer:List Env
 stack:List Env
 ex:List A7
 fn:Str->Bool
 calm:Bool
 pn:List (A7×Obj)
 xe:A1->A6->Prop
noncomputable def frs(l:List Env):List A7:=l.filterMap (·.frame)
noncomputable abbrev Cx.fs(X:Cx):List A7:=frs X.outer
noncomputable def Vis(sc:Fn)(x:Str):Prop:=sc.names.lookup x=some .local\/sc.names.lookup x=some .cell\/sc.names.lookup x=some .free
noncomputable def Loc(sc:Fn)(x:Str):Prop:=sc.names.lookup x=some .local\/sc.names.lookup x=some .cell
noncomputable def Look(env:Env)(h:C9)(m:Str->Option A1)(x:Str)(u:A1):Prop:=
 (env.kindOf x=some .local/\m x=some u)\/((env.kindOf x=some .cell\/env.kindOf x=some .free)/\∃c,env.cells.lookup x=some c/\h.IsCell c (some u))
structure Cx.Ok(X:Cx):Prop where
 mod:Mod X.K X.mg X.base
 kind:X.env.scope.kind= .function
 glob:X.env.globals=mainGlobals
 blt:X.env.builtins=builtinsNs
 above:X.s₀.heap.objs.size<=X.env.locals
 inj:∀x y c,X.env.cells.lookup x=some c->X.env.cells.lookup y=some c->x=y
 has:∀x,(X.env.kindOf x=some .cell\/X.env.kindOf x=some .free)->∃c,X.env.cells.lookup x=some c
 cab:∀x c,X.fn x=true->X.env.cells.lookup x=some c->X.s₀.heap.objs.size<=c
 hd:X.calm=true->X.A.handled=none
 frames:X.A.frames=some X.stack
 stk:X.stack=X.outer\/(X.stack=X.env::X.outer/\X.env.frame=some X.env.locals)
 exf:∀b∈X.ex,b≠X.env.locals/\∀x c,X.env.cells.lookup x=some c->c≠b
 bs:∀b o,X.base.get? b=some o->X.s₀.heap.get? b=some o/\X.H₀ b=none
 bsz:X.base.objs.size<=X.s₀.heap.objs.size
 noex:∀b o,X.base.get? b=some o->b∉X.ex
 exfs:∀b∈X.ex,b∉X.fs
 funs:X.s₀.heap.FunFrames X.base X.outer
 frf:∀b∈X.fs,X.H₀ b=none
structure Inv(X:Cx)(pins:List (A7×Obj))(σ:List (Option V))(H:Hp)(s:A6):Prop where
 ok:X.Ok
 os:s.os=X.s₀.os
 bare:Hj s.gens
 base:Un X.fs X.ex X.H₀ H X.s₀.heap s.heap
 loc:∃m,s.heap.Ns X.env.locals m/\∀(i:Nat)(x:Str)(v:V),X.N[i]?=some x->σ[i]?=some (some v)->Vis X.env.scope x->∃u,RelV v u/\Look X.env s.heap m x u
 cell:∀x c,X.env.cells.lookup x=some c->∃v,s.heap.IsCell c v
 free:H X.env.locals=none
 freeC:∀x c,X.env.cells.lookup x=some c->H c=none
 pin:∀p∈X.pn++pins,s.heap.get? p.1=some p.2/\H p.1=none/\p.1≠X.env.locals/\p.1∉X.fs/\∀v,p.2.data≠.cell v
 hok:HOk X.prog X.w H s.heap
 len:σ.length=X.N.length
section
variable{X:Cx}{pins:List (A7×Obj)}{σ:List (Option V)}{H H':Hp}{s:A6}{h':C9}
theorem Cx.Ok.nofr(ok:X.Ok){b:A7}{o:Obj}(e:X.base.get? b=some o):b∉X.fs:=fun hb=>by
 have:=(ok.funs.mem hb).1;rw[e] at this;cases this
theorem Inv.bs(I:Inv X pins σ H s):∀b o,X.base.get? b=some o->s.heap.get? b=some o/\H b=none:=fun b o e=>
 ⟨I.base.keep b o (I.ok.bs b o e).1 (I.ok.bs b o e).2 (I.ok.nofr e) (I.ok.noex b o e),I.base.free b o (I.ok.bs b o e).1 (I.ok.bs b o e).2 (I.ok.noex b o e)⟩
theorem Inv.bk(I:Inv X pins σ H s):∀b o,X.base.get? b=some o->s.heap.get? b=some o:=fun b o e=>(I.bs b o e).1
theorem Inv.mod(I:Inv X pins σ H s):Mod X.K X.mg X.base:=I.ok.mod
theorem Inv.kIn(I:Inv X pins σ H s):X.K.In s.heap:=I.ok.mod.kin.keeps I.bk
theorem Inv.lt(I:Inv X pins σ H s):X.env.locals<s.heap.objs.size:=let ⟨_,hn,_⟩:=I.loc;hn.lt
theorem Inv.sz(I:Inv X pins σ H s):X.s₀.heap.objs.size<=s.heap.objs.size:=Bm I.ok.above (Ex I.lt)
theorem Inv.nofs(I:Inv X pins σ H s){a:A7}(h:s.heap.objs.size<=a):a∉X.fs:=fun hb=>by
 obtain⟨_,o,ho,_⟩:=I.ok.funs.mem hb;exact absurd (Ak (Au ho) (Bm I.sz h)) (E5 _)
theorem Inv.cne(I:Inv X pins σ H s):∀x c,X.env.cells.lookup x=some c->c≠X.env.locals:=fun x c e z=>by
 obtain⟨v,o,ho,hd⟩:=I.cell x c e;obtain⟨m,⟨o',es,ep,ho',hd',_⟩,_⟩:=I.loc;rw[z,ho'] at ho;cases ho;rw[hd'] at hd;cases hd
theorem Inv.funs(I:Inv X pins σ H s):s.heap.FunFrames X.base X.outer:=by
 have all:∀(l:List Env),(∀b∈frs l,b∈X.fs)->X.s₀.heap.FunFrames X.base l->s.heap.FunFrames X.base l:=by
  intro l
  induction l with
  |nil=>intro _ _;trivial
  |cons env r ih=>
   intro hs hl;obtain⟨hk,⟨L,o,hf,hn,ho,hd⟩,hr⟩:=hl;have hL:L∈X.fs:=hs L (by unfold frs;rw[Jg,hf];exact Aj);obtain⟨sl,e⟩:=I.base.slot L o ho (I.ok.frf L hL) hL fun z=>I.ok.exfs L z hL;exact⟨hk,⟨L,_,hf,hn,e,hd⟩,ih (fun b hb=>hs b (by unfold frs;rw[Jg,hf];exact Ab _ hb)) hr⟩
 exact all X.outer (fun _ hb=>hb) I.ok.funs
theorem Inv.stack(I:Inv X pins σ H s):s.heap.FunFrames X.base X.stack:=by
 rcases I.ok.stk with e|⟨e,hf⟩
 ·rw[e];exact I.funs
 ·rw[e];obtain⟨m,hn,_⟩:=I.loc;refine .cons (by rw[I.ok.kind];decide) hf hn ?_ I.funs;exact Heap.get?_none_of_le (Bm I.ok.bsz I.ok.above)
theorem Inv.stkSub(I:Inv X pins σ H s):∀b∈frs X.stack,b∈X.env.locals::X.fs:=fun b hb=>by
 rcases I.ok.stk with e|⟨e,hf⟩
 ·rw[e] at hb;exact Ab _ hb
 ·rw[e] at hb;unfold frs at hb;rw[Jg,hf] at hb;exact hb
theorem Inv.stkFree(I:Inv X pins σ H s):∀b∈frs X.stack,H b=none:=fun b hb=>by
 rcases Bo.mp (I.stkSub b hb) with e|hb
 ·rw[e];exact I.free
 ·obtain⟨_,o,ho,_⟩:=I.ok.funs.mem hb;exact I.base.free b o ho (I.ok.frf b hb) fun z=>I.ok.exfs b z hb
theorem Inv.step{g':Array GenState}{t':Nat}{d':Drawn}{ch:List A7}(I:Inv X pins σ H s)
  (hch:∀b∈ch,(b∈X.ex\/X.s₀.heap.objs.size<=b)/\b≠X.env.locals/\(∀x c,X.env.cells.lookup x=some c->c≠b)/\∀p∈X.pn++pins,p.1≠b)
  (keep:∀b o,b≠X.env.locals->b∉X.fs->b∉ch->s.heap.get? b=some o->H b=none->h'.get? b=some o)
  (slot:∀b o,b≠X.env.locals->b∈X.fs->b∉ch->s.heap.get? b=some o->H b=none->∃sl,h'.get? b=some {o with slots:=sl}) (free:∀b o,b∉ch->s.heap.get? b=some o->H b=none->H' b=none)
  (there:∀b o,b∉ch->s.heap.get? b=some o->∃o',h'.get? b=some o')
  (tups:∀b xs,H b=some (.tup xs)->H' b=some (.tup xs)) (frzs:∀b o u,H b=some (.frz o u)->H' b=some (.frz o u)) (tbls:∀b ps,H b=some (.tbl ps)->∃more,H' b=some (.tbl (ps++more)))
  (ns:∀m,s.heap.Ns X.env.locals m->h'.Ns X.env.locals m) (hok:HOk X.prog X.w H' h') (hg:Hj g'):
  Inv X pins σ H' {s with heap:=h',gens:=g',drawn:=d',toks:=t'}:=by
 have neL:∀b o,X.s₀.heap.get? b=some o->b≠X.env.locals:=fun b o e=>Br (Ak (Au e) I.ok.above);have neC:∀b o,X.s₀.heap.get? b=some o->b∉X.ex->b∉ch:=fun b o e hx hb=>by
  rcases(hch b hb).1 with z|z
  ·exact hx z
  ·exact absurd (Ak (Au e) z) (E5 _)
 have cellK:∀x c,X.env.cells.lookup x=some c->∀v,s.heap.IsCell c v->h'.IsCell c v:=fun x c e v⟨o,ho,hd⟩=>by
  have nch:c∉ch:=fun z=>(hch c z).2.2.1 x c e rfl;by_cases hc:c∈X.fs
  ·obtain⟨sl,q⟩:=slot c o (I.cne x c e) hc nch ho (I.freeC x c e);exact⟨_,q,hd⟩
  ·exact⟨o,keep c o (I.cne x c e) hc nch ho (I.freeC x c e),hd⟩
 refine⟨I.ok,I.os,hg,⟨fun b o e n hb hx=>?_,fun b o e n hb hx=>?_,fun b o e n hx=>?_,fun b o e hx=>?_,fun b xs e=>tups b xs (I.base.tups b xs e),fun b o xs e=>frzs b o xs (I.base.frzs b o xs e),fun b ps e=>?_⟩,?_,fun x c e=>?_,?_,fun x c e=>?_,fun p hp=>?_,hok,I.len⟩
 ·exact keep b o (neL b o e) hb (neC b o e hx) (I.base.keep b o e n hb hx) (I.base.free b o e n hx)
 ·obtain⟨sl,e1⟩:=I.base.slot b o e n hb hx;obtain⟨sl',e2⟩:=slot b _ (neL b o e) hb (neC b o e hx) e1 (I.base.free b o e n hx);exact⟨sl',e2⟩
 ·obtain⟨o',e1⟩:=I.base.there b o e hx;exact free b o' (neC b o e hx) e1 (I.base.free b o e n hx)
 ·obtain⟨o',e1⟩:=I.base.there b o e hx;exact there b o' (neC b o e hx) e1
 ·obtain⟨m1,e1⟩:=I.base.tbls b ps e;obtain⟨m2,e2⟩:=tbls b _ e1;exact⟨m1++m2,by rw[e2,Jn]⟩
 ·obtain⟨m,hn,hl⟩:=I.loc;refine⟨m,ns m hn,fun i x v e1 e2 e3=>?_⟩;obtain⟨u,r,l⟩:=hl i x v e1 e2 e3;refine⟨u,r,?_⟩;rcases l with l|⟨k,c,e,z⟩
  ·exact .inl l
  ·exact .inr ⟨k,c,e,cellK x c e _ z⟩
 ·obtain⟨v,z⟩:=I.cell x c e;exact⟨v,cellK x c e v z⟩
 ·obtain⟨m,⟨o,_,_,ho,_⟩,_⟩:=I.loc;exact free _ o (fun z=>(hch _ z).2.1 rfl) ho I.free
 ·obtain⟨v,o,ho,hd⟩:=I.cell x c e;exact free c o (fun z=>(hch c z).2.2.1 x c e rfl) ho (I.freeC x c e)
 ·obtain⟨e,n,ne,nf,d⟩:=I.pin p hp;have nch:p.1∉ch:=fun z=>(hch p.1 z).2.2.2 p hp rfl;exact⟨keep p.1 p.2 ne nf nch e n,free p.1 p.2 nch e n,ne,nf,d⟩
theorem Inv.un{t':Nat}(I:Inv X pins σ H s)(u:Un X.fs [] H H' s.heap h')(hok:HOk X.prog X.w H' h'):Inv X pins σ H' {s with heap:=h',toks:=t'}:=by
 obtain⟨m,⟨o,es,ep,ho,r⟩,_⟩:=id I.loc;obtain⟨sl,hL⟩:=u.any ho I.free (by simp);exact I.step (g':=s.gens) (d':=s.drawn) (ch:=[]) (fun _ z=>nomatch z) (fun b o _ hb _ e n=>u.keep b o e n hb (by simp)) (fun b o _ hb _ e n=>u.slot b o e n hb (by simp)) (fun b o _ e n=>u.free b o e n (by simp)) (fun b o _ e=>u.there b o e (by simp)) u.tups u.frzs u.tbls (fun m' hm=>by
  obtain⟨o',es',ep',ho',r'⟩:=hm;rw[ho] at ho';cases ho'
  exact⟨_,es',ep',hL,r'⟩) hok I.bare
theorem Inv.call{g':Array GenState}{t':Nat}{d':Drawn}{ch:List A7}(I:Inv X pins σ H s)(u:Un (frs X.stack) ch H H' s.heap h')(hok:HOk X.prog X.w H' h')(hg:Hj g')
  (hch:∀b∈ch,(b∈X.ex\/X.s₀.heap.objs.size<=b)/\b≠X.env.locals/\(∀x c,X.env.cells.lookup x=some c->c≠b)/\∀p∈X.pn++pins,p.1≠b):
  Inv X pins σ H' {s with heap:=h',gens:=g',drawn:=d',toks:=t'}:=by
 obtain⟨m,⟨o,es,ep,ho,r⟩,_⟩:=id I.loc;obtain⟨sl,hL⟩:=u.any ho I.free fun z=>(hch _ z).2.1 rfl;exact I.step (ch:=ch) hch (fun b o hL hb hc e n=>u.keep b o e n (fun z=>(Bo.mp (I.stkSub b z)).elim hL hb) hc) (fun b o _ _ hc e n=>u.any e n hc) (fun b o hc e n=>u.free b o e n hc) (fun b o hc e=>u.there b o e hc) u.tups u.frzs u.tbls (fun m' hm=>by
  obtain⟨o',es',ep',ho',r'⟩:=hm;rw[ho] at ho';cases ho'
  exact⟨_,es',ep',hL,r'⟩) hok hg
theorem Inv.turned{t':Nat}{it:A7}(I:Inv X pins σ H s)(k:∀b o,b≠it->s.heap.get? b=some o->h'.get? b=some o)(hn:H it=none)(hL:it≠X.env.locals)
  (h1:it∈X.ex\/X.s₀.heap.objs.size<=it) (h2:∀x c,X.env.cells.lookup x=some c->c≠it) (h3:∀p∈X.pn++pins,p.1≠it):Inv X pins σ H {s with heap:=h',toks:=t'}:=by
 have nit:∀b u,H b=some u->b≠it:=fun b u e z=>by rw[z,hn] at e;cases e
 refine I.step (g':=s.gens) (d':=s.drawn) (ch:=[it]) (fun b hb=>?_) (fun b o _ _ hc e _=>k b o (fun z=>hc (by simp[z])) e) (fun b o _ _ hc e _=>⟨o.slots,k b o (fun z=>hc (by simp[z])) e⟩) (fun _ _ _ _ n=>n)
  (fun b o hc e=>⟨o,k b o (fun z=>hc (by simp[z])) e⟩) (fun _ _ e=>e) (fun _ _ _ e=>e) (fun b ps e=>⟨#[],by rw[e];simp⟩) (fun m hm=>?_) (fun b u e=>?_) I.bare
 ·have e:b=it:=by simpa using hb
  subst e;exact⟨h1,hL,h2,h3⟩
 ·obtain⟨o,es,ep,ho,r⟩:=hm;exact⟨o,es,ep,k _ o (E7 hL) ho,r⟩
 ·refine(I.hok b u e).stay (fun c v hc q=>k c v ?_ q) (fun _ q=>q) fun _ _ q=>q;rcases hc with z|z
  ·rw[z];exact nit b u e
  ·exact nit c _ z
theorem Inv.tok(I:Inv X pins σ H s)(t:Nat):Inv X pins σ H {s with toks:=t}:=I.un (h':=s.heap) (t':=t) Un.refl I.hok
theorem Inv.kept{t':Nat}(I:Inv X pins σ H s)(k:∀b u,s.heap.get? b=some u->h'.get? b=some u):Inv X pins σ H {s with heap:=h',toks:=t'}:=I.un (Un.kept k) (I.hok.kept k)
theorem Inv.laid{a:A7}{o:HO}{t':Nat}(I:Inv X pins σ H s)(k:∀b u,s.heap.get? b=some u->h'.get? b=some u)(hp:s.heap.objs.size<=a)(new:ObjOk X.prog X.w (upd H a o) h' a o):
  Inv X pins σ (upd H a o) {s with heap:=h',toks:=t'}:=I.un (Un.laid k hp (I.hok.fresh hp)) (I.hok.laid k hp new)
theorem Inv.write{x e:A7}{o:HO}{t':Nat}(I:Inv X pins σ H s)(mu:Mut (H x))(he:e=x\/H e=some (.own x))(k:∀b u,b≠e->s.heap.get? b=some u->h'.get? b=some u)(heo:∃u,h'.get? e=some u)
  (new:ObjOk X.prog X.w (upd H x o) h' x o):Inv X pins σ (upd H x o) {s with heap:=h',toks:=t'}:=I.un (Un.write mu he k heo) (I.hok.write mu he k heo new)
theorem Inv.pins_of{pins':List (A7×Obj)}(I:Inv X pins σ H s)(h:∀p∈pins',s.heap.get? p.1=some p.2/\H p.1=none/\p.1≠X.env.locals/\p.1∉X.fs/\∀v,p.2.data≠.cell v):Inv X pins' σ H s:=
 ⟨I.ok,I.os,I.bare,I.base,I.loc,I.cell,I.free,I.freeC,fun p hp=>(Ap.mp hp).elim (fun z=>I.pin p (Ca _ z)) (h p),I.hok,I.len⟩
theorem zga{N:List Str}(hN:N.Nodup){i j:Nat}{x:Str}(a:N[i]?=some x)(b:N[j]?=some x):i=j:=by
 obtain⟨h1,e1⟩:=Ag.mp a;obtain⟨h2,e2⟩:=Ag.mp b;exact(List.getElem_inj hN).mp (e1.trans e2.symm)
theorem zeT{M:I0}{A:Bi}{E:A1->A6->Prop}{i:Nat}{x:Str}{v:V}{u:A1}{Q:Unit->A6->Prop}(I:Inv X pins σ H s)(hN:X.N.Nodup)(hi:X.N[i]?=some x)(hx:Loc X.env.scope x)(r:RelV v u)
  (h:∀s',Inv X pins (σ.set i (some v)) H s'->(∃a,Fw a s.heap s'.heap/\(a=X.env.locals\/X.env.cells.lookup x=some a))->Q () s') (hf:X.fn x=true\/X.env.scope.names.lookup x=some .local:=by first|exact .inl rfl|exact .inr rfl|assumption):wpAny M A (storeName X.env x u) Q E s:=by
 obtain⟨m,hn,hl⟩:=id I.loc;have hcls:(X.env.scope.kind==.class||(X.env.scope.kind==.module&&X.env.locals !=X.env.globals))=false:=by rw[I.ok.kind];rfl
 have hiσ:i<σ.length:=by rw[I.len];exact(Ag.mp hi).1
 have cne:=I.cne;have tracked:∀{a:A7}{h':C9},(∃o,s.heap.get? a=some o/\H a=none)->Fw a s.heap h'->HOk X.prog X.w H h':=fun{a h'}ha hs b ob e=>by
  obtain⟨_,_,hfree⟩:=ha;refine(I.hok b ob e).stay (fun c w' hc q=>(hs.2 c ?_).trans q) (fun _ q=>q) fun _ _ q=>q;rintro rfl;rcases hc with rfl|hc
  ·rw[hfree] at e;cases e
  ·rw[hfree] at hc;cases hc
 rcases hx with hk|hk
 ·refine wpAny_storeName_local hk hn (fun h' hn' hs=>?_) hcls;obtain⟨oL,_,_,hoL,_⟩:=id hn;refine h _ ⟨I.ok,I.os,I.bare,⟨fun b o e n hb hx=>?_,fun b o e n hb hx=>?_,I.base.free,fun b o e hx=>?_,I.base.tups,I.base.frzs,I.base.tbls⟩,⟨_,hn',fun j y v' e1 e2 e3=>?_⟩,fun y c e=>?_,I.free,I.freeC,fun p hp=>?_,tracked ⟨oL,hoL,I.free⟩ hs,by simpa using I.len⟩ ⟨_,hs,.inl rfl⟩
  ·exact(hs.2 b (Br (Ak (Au e) I.ok.above))).trans (I.base.keep b o e n hb hx)
  ·obtain⟨sl,e1⟩:=I.base.slot b o e n hb hx;exact⟨sl,(hs.2 b (Br (Ak (Au e) I.ok.above))).trans e1⟩
  ·obtain⟨o',e1⟩:=I.base.there b o e hx;exact⟨o',(hs.2 b (Br (Ak (Au e) I.ok.above))).trans e1⟩
  ·by_cases hj:j=i
   ·subst hj;rw[hi] at e1;cases e1
    rw[Lx hiσ] at e2
    cases e2
    exact⟨u,r,.inl ⟨hk,by simp⟩⟩
   ·rw[Mq (E7 hj)] at e2;obtain⟨u',r',q⟩:=hl j y v' e1 e2 e3;refine⟨u',r',?_⟩;rcases q with⟨k,e⟩|⟨k,c,e,z⟩
    ·refine .inl ⟨k,?_⟩;have:y≠x:=fun e=>hj (zga hN e1 (e▸hi));simp[this,e]
    ·exact .inr ⟨k,c,e,z.sameBut hs (cne y c e)⟩
  ·obtain⟨w',z⟩:=I.cell y c e;exact⟨w',z.sameBut hs (cne y c e)⟩
  ·obtain⟨e,n,ne,nf,d⟩:=I.pin p hp;exact⟨(hs.2 p.1 ne).trans e,n,ne,nf,d⟩
 ·have hfn:X.fn x=true:=by
   rcases hf with z|z
   ·exact z
   ·rw[z] at hk;cases hk
  obtain⟨c,hc⟩:=I.ok.has x (.inl hk);obtain⟨w',z⟩:=I.cell x c hc;refine wpAny_storeName_cell I.ok.kind hk hc z (fun h' hc' hs=>?_);obtain⟨oc,hoc,hocd⟩:=id z;refine h {s with heap:=h'} ⟨I.ok,I.os,I.bare,⟨fun b o e n hb hx=>?_,fun b o e n hb hx=>?_,I.base.free,fun b o e hx=>?_,I.base.tups,I.base.frzs,I.base.tbls⟩,⟨m,hn.sameBut hs (E7 (cne x c hc)),fun j y v' e1 e2 e3=>?_⟩,fun y c' e=>?_,I.free,I.freeC,fun p hp=>?_,tracked ⟨oc,hoc,I.freeC x c hc⟩ hs,by simpa using I.len⟩ ⟨c,hs,.inr hc⟩
  ·exact(hs.2 b (Br (Ak (Au e) (I.ok.cab x c hfn hc)))).trans (I.base.keep b o e n hb hx)
  ·obtain⟨sl,e1⟩:=I.base.slot b o e n hb hx;exact⟨sl,(hs.2 b (Br (Ak (Au e) (I.ok.cab x c hfn hc)))).trans e1⟩
  ·obtain⟨o',e1⟩:=I.base.there b o e hx;exact⟨o',(hs.2 b (Br (Ak (Au e) (I.ok.cab x c hfn hc)))).trans e1⟩
  ·by_cases hj:j=i
   ·subst hj;rw[hi] at e1;cases e1
    rw[Lx hiσ] at e2
    cases e2
    exact⟨u,r,.inr ⟨.inl hk,c,hc,hc'⟩⟩
   ·rw[Mq (E7 hj)] at e2;obtain⟨u',r',q⟩:=hl j y v' e1 e2 e3;refine⟨u',r',?_⟩;rcases q with q|⟨k,c',e,z'⟩
    ·exact .inl q
    ·refine .inr ⟨k,c',e,z'.sameBut hs ?_⟩;rintro rfl;exact hj (zga hN e1 (I.ok.inj _ _ _ e hc▸hi))
  ·by_cases hcc:c'=c
   ·subst hcc;exact⟨_,hc'⟩
   ·obtain⟨w2,z2⟩:=I.cell y c' e;exact⟨w2,z2.sameBut hs hcc⟩
  ·obtain⟨e,n,ne,nf,d⟩:=I.pin p hp;refine⟨(hs.2 p.1 ?_).trans e,n,ne,nf,d⟩;intro q;rw[q,hoc] at e;have q':oc=p.2:=C1 e;exact d w' (by rw[<-q'];exact hocd)
theorem zfQ{M:I0}{A:Bi}{E:A1->A6->Prop}{i:Nat}{x:Str}{v:V}{u:A1}{Q:Unit->A6->Prop}(I:Inv X pins σ H s)(hN:X.N.Nodup)(hi:X.N[i]?=some x)(hx:Loc X.env.scope x)(r:RelV v u)
  (h:∀s',Inv X pins (σ.set i (some v)) H s'->Q () s') (hf:X.fn x=true\/X.env.scope.names.lookup x=some .local:=by first|exact .inl rfl|exact .inr rfl|assumption):wpAny M A (storeName X.env x u) Q E s:=
 zeT I hN hi hx r (fun s' I' _=>h s' I') hf
theorem Inv.call'{s':A6}{ch:List A7}(I:Inv X pins σ H s)(ho:s'.os=s.os)(u:Un (frs X.stack) ch H H' s.heap s'.heap)(hok:HOk X.prog X.w H' s'.heap)(hg:Hj s'.gens)
  (hch:∀b∈ch,(b∈X.ex\/X.s₀.heap.objs.size<=b)/\b≠X.env.locals/\(∀x c,X.env.cells.lookup x=some c->c≠b)/\∀p∈X.pn++pins,p.1≠b):Inv X pins σ H' s':=by
 obtain⟨h',g',d',t',o'⟩:=s';have e:o'=s.os:=ho;subst e;exact I.call (g':=g') (t':=t') (d':=d') u hok hg hch
end
noncomputable abbrev XK:=A1->Option A7->Hp->Prop
noncomputable abbrev St:=List (Option V)
noncomputable abbrev VK:=V->Hp->Prop
noncomputable abbrev TE:=St->Hp->VK->Prop
noncomputable abbrev TT:=St->Hp->(Bool->Hp->Prop)->Prop
noncomputable abbrev TA:=St->Hp->(List V->Hp->Prop)->Prop
structure Ends where
 nx:St->Hp->Prop
 rt:VK
 bk:St->Hp->Prop:=fun _ _=>False
 ct:St->Hp->Prop:=fun _ _=>False
noncomputable abbrev TS:=Ends->St->Hp->Prop
noncomputable def EP(X:Cx)(pins:List (A7×Obj))(σ:St)(Q:VK)(u:A1)(s':A6):Prop:=∃v H',Inv X pins σ H' s'/\RelV v u/\Q v H'
noncomputable def TP(X:Cx)(pins:List (A7×Obj))(σ:St)(Q:Bool->Hp->Prop)(b:Bool)(s':A6):Prop:=∃H',Inv X pins σ H' s'/\Q b H'
noncomputable def AP(X:Cx)(pins:List (A7×Obj))(σ:St)(Q:List V->Hp->Prop)(us:List A1)(s':A6):Prop:=∃vs H',Inv X pins σ H' s'/\Vals vs us/\Q vs H'
noncomputable def SP(X:Cx)(pins:List (A7×Obj))(D:Ends)(f:Flow)(s':A6):Prop:=
 match f with
 | .next=>∃σ' H',Inv X pins σ' H' s'/\D.nx σ' H'
 | .brk=>∃σ' H',Inv X pins σ' H' s'/\D.bk σ' H'
 | .cont=>∃σ' H',Inv X pins σ' H' s'/\D.ct σ' H'
 | .ret u=>∃v σ' H',Inv X pins σ' H' s'/\RelV v u/\D.rt v H'
noncomputable def PE(X:Cx)(e:Ce)(t:TE):Prop:=
 ∀(pins:List (A7×Obj))(s:A6)(σ:St)(H:Hp)(Q:VK),Inv X pins σ H s->t σ H Q->wpAny (model X.prog X.w) X.A (eval e X.env) (EP X pins σ Q) X.xe s
noncomputable def PT(X:Cx)(e:Ce)(t:TT):Prop:=
 ∀(pins:List (A7×Obj))(s:A6)(σ:St)(H:Hp)(Q:Bool->Hp->Prop),Inv X pins σ H s->t σ H Q->wpAny (model X.prog X.w) X.A (isTrue e X.env (eval e X.env)) (TP X pins σ Q) X.xe s
noncomputable def PW(X:Cx)(e:Ce)(t:TT):Prop:=
 ∀(whole:Sem A1)(pins:List (A7×Obj))(s:A6)(σ:St)(H:Hp)(Q:Bool->Hp->Prop),Inv X pins σ H s->t σ H Q->wpAny (model X.prog X.w) X.A (isTrue e X.env whole) (TP X pins σ Q) X.xe s
theorem PW.pt{X:Cx}{e:Ce}{t:TT}(h:PW X e t):PT X e t:=h _
noncomputable def PA(X:Cx)(es:List Ce)(t:TA):Prop:=
 ∀(pos:Pos)(pins:List (A7×Obj))(s:A6)(σ:St)(H:Hp)(Q:List V->Hp->Prop),Inv X pins σ H s->t σ H Q->wpAny (model X.prog X.w) X.A (spliced (backTo pos (starEach es X.env))) (AP X pins σ Q) X.xe s
noncomputable def PS(X:Cx)(st:Cf)(t:TS):Prop:=
 ∀(pins:List (A7×Obj))(s:A6)(σ:St)(H:Hp)(D:Ends),Inv X pins σ H s->t D σ H->wpAny (model X.prog X.w) X.A (exec st X.env) (SP X pins D) X.xe s
noncomputable def PSs(X:Cx)(st:List Cf)(t:TS):Prop:=
 ∀(pins:List (A7×Obj))(s:A6)(σ:St)(H:Hp)(D:Ends),Inv X pins σ H s->t D σ H->wpAny (model X.prog X.w) X.A (execs st X.env) (SP X pins D) X.xe s
theorem thn{α:Type}{t:Sem α}{Q Q':α->A6->Prop}{M:I0}{A:Bi}{E:A1->A6->Prop}{s:A6}(h:wpAny M A t Q E s)(hQ:∀a s,Q a s->Q' a s):wpAny M A t Q' E s:=Dq h hQ fun _ _ x=>x
theorem thnE{α β:Type}{Rl:β->α->Prop}{X:Cx}{pins:List (A7×Obj)}{σ:St}{R:β->Hp->Prop}{t:Sem α}{Q':α->A6->Prop}{M:I0}{A:Bi}{E:A1->A6->Prop}{s:A6}(h:wpAny M A t (fun u s'=>∃v H',Inv X pins σ H' s'/\Rl v u/\R v H') E s)(k:∀u s' v H',Inv X pins σ H' s'->Rl v u->R v H'->Q' u s'):wpAny M A t Q' E s:=Dq h (fun u s' z=>by
 obtain⟨v,H',I,r,q⟩:=z;exact k u s' v H' I r q) fun _ _ x=>x
section
variable{X:Cx}
noncomputable def tVar(i:Nat):TE:=fun σ H Q=>∃v,σ[i]?=some (some v)/\Q v H
noncomputable def tC(v:V):TE:=fun _ H Q=>Q v H
theorem pe_var{i:Nat}{x:Str}{pos:Pos}(hN:X.N[i]?=some x)(hv:Vis X.env.scope x)(hd:(x==("__debug__":Str))=false:=by decide)(hcd:(x==("__classdict__":Str))=false:=by decide):PE X (.Name x pos) (tVar i):=by
 intro pins s σ H Q I h;obtain⟨v,e,h⟩:=h;obtain⟨m,hn,hl⟩:=I.loc;obtain⟨u,r,l⟩:=hl i x v hN e hv;have fin:EP X pins σ Q u s:=⟨v,H,I,r,h⟩;rcases l with⟨hk,hm⟩|⟨hk,c,hc,hcell⟩
 ·exact Oc (wpAny_loadName_local I.ok.kind hk hn hm fin) hd
 ·rcases hk with hk|hk
  ·exact Oc (wpAny_loadName_cell I.ok.kind hk hc hcell fin) hd
  ·exact Oc (wpAny_loadName_free I.ok.kind hk hc hcell fin hcd) hd
theorem zab{i j pos}:PE X (.Constant (.int i) j pos) (tC (.int i)):=fun _ _ _ H _ I h=>wpAny_Constant_int ⟨.int i,H,I.tok _,⟨_,rfl⟩,h⟩
theorem zbl{b j pos}:PE X (.Constant (.bool b) j pos) (tC (.bl b)):=fun _ _ _ H _ I h=>Constant_bool ⟨.bl b,H,I,rfl,h⟩
theorem zhM{j pos}:PE X (.Constant .none j pos) (tC .non):=fun _ _ _ H _ I h=>Constant_none ⟨.non,H,I,rfl,h⟩
theorem zaK{x j pos}:PE X (.Constant (.str x) j pos) (tC (.str x)):=fun _ _ _ H _ I h=>Calls.Constant_str ⟨.str x,H,I.tok _,⟨_,rfl⟩,h⟩
noncomputable def Gl(X:Cx)(x:Str):Prop:=X.env.kindOf x=some .globalImplicit
theorem zeF{E:A1->A6->Prop}{pins:List (A7×Obj)}{s:A6}{σ:St}{H:Hp}{x:Str}{u:A1}{pos:Pos}{Q:A1->A6->Prop}(I:Inv X pins σ H s)(hg:Gl X x)(hm:X.mg x=some u)(h:Q u s)
  (hd:(x==("__debug__":Str))=false:=by decide):wpAny (model X.prog X.w) X.A (eval (.Name x pos) X.env) Q E s:=
 Kp I.ok.kind hg (Calls.loadGlobal_global (by rw[I.ok.glob];exact I.mod.glob.keeps I.bk) hm h) hd
theorem ze6{E:A1->A6->Prop}{pins:List (A7×Obj)}{s:A6}{σ:St}{H:Hp}{x:Str}{u:A1}{pos:Pos}{Q:A1->A6->Prop}(I:Inv X pins σ H s)(hg:Gl X x)(hm:X.mg x=none)(hv:bootBuiltins x=some u)(h:Q u s)
  (hn:x≠"__name__":=by decide) (hd:(x==("__debug__":Str))=false:=by decide):wpAny (model X.prog X.w) X.A (eval (.Name x pos) X.env) Q E s:=by
 obtain⟨mb,h1,h2⟩:=I.mod.blt;exact Kp I.ok.kind hg (Calls.loadGlobal_builtin (by rw[I.ok.glob];exact I.mod.glob.keeps I.bk) hm (by rw[I.ok.blt];exact h1.keeps I.bk) ((h2 x hn).trans hv) h) hd
theorem zgW{x:Str}{v:V}{u:A1}{pos:Pos}(hg:Gl X x)(hm:X.mg x=some u)(r:RelV v u)(hd:(x==("__debug__":Str))=false:=by decide):PE X (.Name x pos) (tC v):=
 fun _ _ _ H _ I h=>zeF I hg hm ⟨v,H,I,r,h⟩ hd
theorem zbt{x:Str}{v:V}{u:A1}{pos:Pos}(hg:Gl X x)(hm:X.mg x=none)(hv:bootBuiltins x=some u)(r:RelV v u)(hn:x≠"__name__":=by decide)(hd:(x==("__debug__":Str))=false:=by decide):PE X (.Name x pos) (tC v):=
 fun _ _ _ H _ I h=>ze6 I hg hm hv ⟨v,H,I,r,h⟩ hn hd
variable{a b:Ce}{ta tb:TE}{pos:Pos}
noncomputable def PC(X:Cx)(op:N9)(a b:Ce)(t:TE):Prop:=
 ∀(pins:List (A7×Obj))(s:A6)(σ:St)(H:Hp)(Q:VK),Inv X pins σ H s->t σ H Q->
  wpAny (model X.prog X.w) X.A (eval a X.env) (fun v s₁=>wpAny (model X.prog X.w) X.A (eval b X.env) (fun u s₂=>wpAny (model X.prog X.w) X.A (compareOp op v u) (EP X pins σ Q) X.xe s₂) X.xe s₁) X.xe s
noncomputable def tB(t:TE):TT:=fun σ H Q=>t σ H fun x H1=>∃c,x= .bl c/\Q c H1
theorem pe_cmp{op:N9}{t:TE}(h:PC X op a b t)(h1:behindInMarks op b=false:=by first|exact nobehind _ (by decide) (by decide)|rfl):PE X (.Compare a [op] [b] pos) t:=fun pins s σ H Q I hw=>Q9 (h pins s σ H Q I hw) h1
theorem zef{op:N9}{t:TE}(h:PC X op a b t)(h1:behindInMarks op b=false:=by first|exact nobehind _ (by decide) (by decide)|rfl):PT X (.Compare a [op] [b] pos) (tB t):=by
 intro pins s σ H Q I hw;refine Nr (thn (h pins s σ H _ I hw) fun v s1 h1=>thn h1 fun u s2 h2=>thn h2 fun c s3⟨x,H1,I1,r1,q1⟩=>?_) h1;obtain⟨d,rfl,q⟩:=q1
 cases r1
 exact D1 ⟨H1,I1,q⟩
theorem zaX{e:Ce}{t:TE}(h:PE X e t)(he:∀whole,isTrue e X.env whole=(do let v<-whole;standAt e.pos;holding [v] (truthy v)):=by intro _;rfl):PT X e (tB t):=by
 intro pins s σ H Q I hw;refine isTrue_plain (thnE (h pins s σ H _ I hw) fun v s1 x H1 I1 r1 q1=>?_) (he _);obtain⟨d,rfl,q⟩:=q1
 cases r1
 exact D1 ⟨H1,I1,q⟩
variable{tA tB':TT}{rest:List Ce}
noncomputable def tOr(t u:TT):TT:=fun σ H Q=>t σ H fun c H1=>if c=true then Q true H1 else u σ H1 Q
noncomputable def tNot(t:TT):TT:=fun σ H Q=>t σ H fun c H1=>Q (!c) H1
theorem zb2(ha:PT X a tA):PW X (.BoolOp .Or [a] pos) tA:=by
 intro wh pins s σ H Q I h;refine isTrue_or (thn (ha pins s σ H Q I h) fun c s1 e=>?_)
 cases c with
 |false=>exact isTrue_or_nil e
 |true=>exact e
theorem zb4(ha:PT X a tA)(hb:PW X (.BoolOp .Or (b::rest) pos) tB'):PW X (.BoolOp .Or (a::b::rest) pos) (tOr tA tB'):=by
 intro wh pins s σ H Q I h;refine isTrue_or (thn (ha pins s σ H _ I h) fun c s1⟨H1,I1,q1⟩=>?_)
 cases c with
 |true=>exact⟨H1,I1,q1⟩
 |false=>exact hb wh pins s1 σ H1 Q I1 q1
theorem za2(ha:PT X a tA):PT X (.UnaryOp .Not a pos) (tNot tA):=by
 intro pins s σ H Q I h;exact isTrue_not (ha pins s σ H (fun c H1=>Q (!c) H1) I h)
noncomputable def tAndV(ta tb:TE):TE:=fun σ H Q=>ta σ H fun x H1=>∃c,x= .bl c/\if c=true then tb σ H1 Q else Q (.bl false) H1
noncomputable def tNotV(ta:TE):TE:=fun σ H Q=>ta σ H fun x H1=>∃c,x= .bl c/\Q (.bl (!c)) H1
theorem zeh{op}{t:TE}(h:PE X a t):PE X (.BoolOp op [a] pos) t:=fun pins s σ H Q I hw=>BoolOp_one (h pins s σ H Q I hw)
theorem zdd(ha:PE X a ta)(hb:PE X (.BoolOp .And (b::rest) pos) tb):PE X (.BoolOp .And (a::b::rest) pos) (tAndV ta tb):=by
 intro pins s σ H Q I h;refine BoolOp_and (thnE (ha pins s σ H _ I h) fun v s1 x H1 I1 r1 q1=>?_);obtain⟨c,rfl,q1⟩:=q1
 cases r1
 refine D1 ?_
 cases c with
 |true=>exact hb pins s1 σ H1 Q I1 q1
 |false=>exact⟨.bl false,H1,I1,rfl,q1⟩
theorem pe_not(ha:PE X a ta):PE X (.UnaryOp .Not a pos) (tNotV ta):=by
 intro pins s σ H Q I h;refine UnaryOp_ (thnE (ha pins s σ H _ I h) fun v s1 x H1 I1 r1 q1=>?_);obtain⟨c,rfl,q1⟩:=q1
 cases r1
 exact not_of (D1 ⟨.bl (!c),H1,I1,rfl,q1⟩)
noncomputable def tIf(t:TT)(ta tb:TE):TE:=fun σ H Q=>t σ H fun c H1=>if c=true then ta σ H1 Q else tb σ H1 Q
theorem pe_ifExp{c:Ce}(hc:PT X c tA)(ha:PE X a ta)(hb:PE X b tb):PE X (.IfExp c a b pos) (tIf tA ta tb):=by
 intro pins s σ H Q I h;refine wpAny_IfExp (thn (hc pins s σ H _ I h) fun d s1⟨H1,I1,q1⟩=>?_)
 cases d with
 |true=>exact ha pins s1 σ H1 Q I1 q1
 |false=>exact hb pins s1 σ H1 Q I1 q1
end
noncomputable def SqL(K:Az)(H:Hp)(a:A7)(xs:List V):Prop:=
 Rd H a (.lst xs)\/
  ∃(o:Obj)(its:Array A1)(n:Nat),K.lookup a=some o/\o.cls= .type "list"/\o.dict=none/\o.data= .seq its n/\its.size<=sizeLine/\Vals xs its.toList
noncomputable def SqT(K:Az)(H:Hp)(a:A7)(xs:List V):Prop:=
 Rd H a (.tup xs)\/
  ∃(o:Obj)(its:Array A1)(n:Nat),K.lookup a=some o/\o.cls= .type "tuple"/\o.data= .seq its n/\its.size<=sizeLine/\Vals xs its.toList
noncomputable def absV:A1->Option V
 | .none=>some .non
 | .bool b=>some (.bl b)
 | .int i _=>some (.int i)
 | .str x _=>some (.str x)
 | .bytes b _=>some (.byt b)
 | .float b _=>some (.flt b)
 | .ref a=>some (.ref a)
 | .type n=>some (.ty n)
 |_=>none
theorem RelV.abs{x:V}{u:A1}(r:RelV x u):absV u=some x:=by
 cases x with
 |non=>cases r;rfl
 |bl _=>cases r;rfl
 |int _=>obtain⟨t,rfl⟩:=r;rfl
 |str _=>obtain⟨t,rfl⟩:=r;rfl
 |byt _=>obtain⟨t,rfl⟩:=r;rfl
 |flt _=>obtain⟨t,rfl⟩:=r;rfl
 |ref _=>cases r;rfl
 |ty _=>cases r;rfl
theorem RelV.inj{x y:V}{u:A1}(r:RelV x u)(q:RelV y u):x=y:=C1 (r.abs.symm.trans q.abs)
theorem Vals.inj:∀{xs ys:List V}{us:List A1},Vals xs us->Vals ys us->xs=ys
 |_,_,_,.nil,.nil=>rfl
 |_,_,_,.cons r t,.cons r' t'=>by rw[r.inj r',Vals.inj t t']
section
variable{X:Cx}{pins:List (A7×Obj)}{σ:St}{H:Hp}{s:A6}{a:A7}{xs ys:List V}
theorem SqL.of{K:Az}(h:H a=some (.lst xs)):SqL K H a xs:=.inl (.inl h)
theorem SqT.of{K:Az}(h:H a=some (.tup xs)):SqT K H a xs:=.inl (.inl h)
theorem Inv.list(I:Inv X pins σ H s)(h:SqL X.K H a xs):∃its:List A1,Vals xs its/\PlainL s.heap a its.toArray/\xs.length<=sizeLine:=by
 rcases h with h|⟨o,its,n,hk,hc,hd,hs,hz,r⟩
 ·obtain⟨z,its,n,r,e⟩:=h.ok I.hok;exact⟨its,r,⟨_,n,e,rfl,rfl,rfl⟩,z⟩
 ·refine⟨its.toList,r,⟨o,n,I.kIn a o hk,hc,hd,by simpa using hs⟩,?_⟩;have e:=r.length;simp only[Ax] at e;omega
theorem Inv.tuple(I:Inv X pins σ H s)(h:SqT X.K H a xs):∃its:List A1,Vals xs its/\Jh s.heap a its.toArray/\xs.length<=sizeLine:=by
 rcases h with h|⟨o,its,n,hk,hc,hs,hz,r⟩
 ·obtain⟨z,its,r,p⟩:=h.ok I.hok;exact⟨its,r,p,z⟩
 ·refine⟨its.toList,r,⟨o,I.kIn a o hk,hc,n,by simpa using hs⟩,?_⟩;have e:=r.length;simp only[Ax] at e;omega
theorem Inv.list_inj(I:Inv X pins σ H s)(h:SqL X.K H a xs)(h':SqL X.K H a ys):xs=ys:=by
 obtain⟨its,r,⟨o,n,e,_,_,d⟩,_⟩:=I.list h;obtain⟨its',r',⟨o',n',e',_,_,d'⟩,_⟩:=I.list h';rw[e] at e';cases e'
 rw[d] at d';injection d' with d1 _;have:its=its':=by simpa using congrArg Lp d1
 subst this;exact r.inj r'
theorem Inv.tuple_inj(I:Inv X pins σ H s)(h:SqT X.K H a xs)(h':SqT X.K H a ys):xs=ys:=by
 obtain⟨its,r,⟨o,e,_,n,d⟩,_⟩:=I.tuple h;obtain⟨its',r',⟨o',e',_,n',d'⟩,_⟩:=I.tuple h';rw[e] at e';cases e'
 rw[d] at d';injection d' with d1 _;have:its=its':=by simpa using congrArg Lp d1
 subst this;exact r.inj r'
end
noncomputable abbrev Cx.wish(X:Cx)(E:A1->A6->Prop):Cx:={X with xe:=E}
noncomputable abbrev Cx.nox(X:Cx):Cx:=X.wish fun _ _=>False
theorem Cx.Ok.wish{X:Cx}(ok:X.Ok)(E:A1->A6->Prop):(X.wish E).Ok:=
 ⟨ok.mod,ok.kind,ok.glob,ok.blt,ok.above,ok.inj,ok.has,ok.cab,ok.hd,ok.frames,ok.stk,ok.exf,ok.bs,ok.bsz,ok.noex,ok.exfs,ok.funs,ok.frf⟩
theorem Cx.Ok.unwish{X:Cx}{E:A1->A6->Prop}(ok:(X.wish E).Ok):X.Ok:=
 ⟨ok.mod,ok.kind,ok.glob,ok.blt,ok.above,ok.inj,ok.has,ok.cab,ok.hd,ok.frames,ok.stk,ok.exf,ok.bs,ok.bsz,ok.noex,ok.exfs,ok.funs,ok.frf⟩
section
variable{X:Cx}{pins:List (A7×Obj)}{σ:St}{H:Hp}{s:A6}{E:A1->A6->Prop}
theorem Inv.wish(I:Inv X pins σ H s)(E:A1->A6->Prop):Inv (X.wish E) pins σ H s:=⟨I.ok.wish E,I.os,I.bare,I.base,I.loc,I.cell,I.free,I.freeC,I.pin,I.hok,I.len⟩
theorem Inv.unwish(I:Inv (X.wish E) pins σ H s):Inv X pins σ H s:=⟨I.ok.unwish,I.os,I.bare,I.base,I.loc,I.cell,I.free,I.freeC,I.pin,I.hok,I.len⟩
theorem SP.unwish{D:Ends}{f:Flow}{s':A6}(h:SP (X.wish E) pins D f s'):SP X pins D f s':=by
 cases f with
 |next=>obtain⟨σ',H',I,q⟩:=h;exact⟨σ',H',I.unwish,q⟩
 |brk=>obtain⟨σ',H',I,q⟩:=h;exact⟨σ',H',I.unwish,q⟩
 |cont=>obtain⟨σ',H',I,q⟩:=h;exact⟨σ',H',I.unwish,q⟩
 |ret u=>obtain⟨v,σ',H',I,r,q⟩:=h;exact⟨v,σ',H',I.unwish,r,q⟩
theorem PSs.nox{st:List Cf}{t:TS}(h:PSs X.nox st t):PSs X st t:=fun pins s σ H D I hw=>
 Dq (h pins s σ H D (I.wish _) hw) (fun _ _ q=>q.unwish) fun _ _ z=>Eg z
end
section
variable{X:Cx}{st:Cf}{rest:List Cf}{t u:TS}{e:Ce}{te:TE}{pos:Pos}
noncomputable def tNext:TS:=fun D σ H=>D.nx σ H
noncomputable def tSeq(t u:TS):TS:=fun D σ H=>t {D with nx:=u D} σ H
theorem zap:PSs X [] tNext:=fun _ _ σ H _ I h=>Jf ⟨σ,H,I,h⟩
theorem zac(h1:PS X st t)(h2:PSs X rest u):PSs X (st::rest) (tSeq t u):=by
 intro pins s σ H D I h;refine Kx (thn (h1 pins s σ H {D with nx:=u D} I h) fun f s1 q=>?_)
 cases f with
 |next=>
  obtain⟨σ',H',I',q⟩:=q;exact h2 pins s1 σ' H' D I' q
 |ret v=>exact q
 |brk=>exact q
 |cont=>exact q
theorem zaf(h1:PS X st t):PSs X [st] t:=by
 intro pins s σ H D I h;refine Kx (thn (h1 pins s σ H D I h) fun f s1 q=>?_)
 cases f with
 |next=>exact Jf q
 |ret v=>exact q
 |brk=>exact q
 |cont=>exact q
theorem Inv.quiet{pins:List (A7×Obj)}{σ:St}{H:Hp}{s:A6}(I:Inv X pins σ H s):interactive X.env=false:=by simp[interactive,I.ok.kind]
noncomputable def tDrop(te:TE):TS:=fun D σ H=>te σ H fun _ H1=>D.nx σ H1
theorem zaT(he:PE X e te)(hs:swapsWith e none pos.line X.env=pure false:=by rfl):PS X (.Expr e pos) (tDrop te):=by
 intro pins s σ H D I h;exact wpAny_Expr_any (thnE (he pins s σ H _ I h) fun v s1 x H1 I1 r1 q1=>⟨σ,H1,I1,q1⟩) I.quiet hs
noncomputable def tRet(te:TE):TS:=fun D σ H=>te σ H D.rt
theorem zal(he:PE X e te):PS X (.Return (some e) pos) (tRet te):=by
 intro pins s σ H D I h;exact wpAny_Return_some (thnE (he pins s σ H _ I h) fun v s1 x H1 I1 r1 q1=>⟨x,σ,H1,I1,r1,q1⟩)
noncomputable def tIfS(c:TT)(t u:TS):TS:=fun D σ H=>c σ H fun b H1=>if b=true then t D σ H1 else u D σ H1
theorem zaF{c:Ce}{a b:List Cf}{tc:TT}(hc:PT X c tc)(ha:PSs X a t)(hb:PSs X b u):PS X (.If c a b pos) (tIfS tc t u):=by
 intro pins s σ H D I h;refine wpAny_If (thn (hc pins s σ H _ I h) fun d s1⟨H1,I1,q1⟩=>?_)
 cases d with
 |true=>exact ha pins s1 σ H1 D I1 q1
 |false=>exact hb pins s1 σ H1 D I1 q1
end
noncomputable abbrev TG:=V->St->Hp->(St->Hp->Prop)->Prop
noncomputable abbrev TGs:=List V->St->Hp->(St->Hp->Prop)->Prop
noncomputable def PG(X:Cx)(target:Ce)(t:TG):Prop:=
 ∀(pins:List (A7×Obj))(s:A6)(σ:St)(H:Hp)(v:V)(u:A1)(Q:St->Hp->Prop),Inv X pins σ H s->RelV v u->t v σ H Q->
  wpAny (model X.prog X.w) X.A (assign target X.env u) (fun _ s'=>∃σ' H',Inv X pins σ' H' s'/\Q σ' H') X.xe s
noncomputable def PGs(X:Cx)(ts:List Ce)(t:TGs):Prop:=
 ∀(pins:List (A7×Obj))(s:A6)(σ:St)(H:Hp)(vs:List V)(us:List A1)(Q:St->Hp->Prop),Inv X pins σ H s->Vals vs us->t vs σ H Q->
  wpAny (model X.prog X.w) X.A (assignInOrder ((assignEach ts X.env).map (·.2)) us) (fun _ s'=>∃σ' H',Inv X pins σ' H' s'/\Q σ' H') X.xe s
noncomputable abbrev TSet:=V->V->V->Hp->(Hp->Prop)->Prop
noncomputable def PSet(X:Cx)(t:TSet):Prop:=
 ∀(pins:List (A7×Obj))(s:A6)(σ:St)(H:Hp)(o i v:V)(ov iv u:A1)(Q:Hp->Prop),Inv X pins σ H s->RelV o ov->RelV i iv->RelV v u->t o i v H Q->
  wpAny (model X.prog X.w) X.A (setItem ov iv u) (fun _ s'=>∃H',Inv X pins σ H' s'/\Q H') X.xe s
section
variable{X:Cx}{pos:Pos}
noncomputable def gName(i:Nat):TG:=fun v σ H Q=>Q (σ.set i (some v)) H
theorem zak{i:Nat}{x:Str}(hN:X.N.Nodup)(hi:X.N[i]?=some x)(hx:Loc X.env.scope x)(hf:X.fn x=true\/X.env.scope.names.lookup x=some .local:=by first|exact .inl rfl|exact .inr rfl|assumption):PG X (.Name x pos) (gName i):=by
 intro pins s σ H v u Q I r h;exact On (zfQ I hN hi hx r (fun s' I'=>⟨_,H,I',h⟩) hf)
noncomputable def gNil:TGs:=fun vs σ H Q=>vs=[]/\Q σ H
noncomputable def gCons(t:TG)(u:TGs):TGs:=fun vs σ H Q=>∃v r,vs=v::r/\t v σ H fun σ' H'=>u r σ' H' Q
theorem zbz:PGs X [] gNil:=by
 intro pins s σ H vs us Q I r h;obtain⟨e,h⟩:=h;subst e
 cases r
 exact assignInOrder_nil ⟨σ,H,I,h⟩
theorem zaC{e:Ce}{es:List Ce}{t:TG}{u:TGs}(h1:PG X e t)(h2:PGs X es u)
  (hs:(assignEach (e::es) X.env).map (·.2)=assign e X.env::(assignEach es X.env).map (·.2):=by rfl):PGs X (e::es) (gCons t u):=by
 intro pins s σ H vs us Q I r h;obtain⟨v,vr,e1,h⟩:=h;subst e1
 cases r with
 |cons r rr=>
  rw[hs];refine assignInOrder_cons (thn (h1 pins s σ H _ _ _ I r h) fun _ s1⟨σ1,H1,I1,q1⟩=>?_);exact h2 pins s1 σ1 H1 _ _ Q I1 rr q1
noncomputable def gTup(K:Az)(n:Nat)(t:TGs):TG:=fun v σ H Q=>∃a xs,v= .ref a/\SqT K H a xs/\xs.length=n/\t xs σ H Q
theorem zdG{es:List Ce}{k:Nat}{t:TGs}{n:Nat}(hc:X.calm=true)(h:PGs X es t)
  (hn:(assignEach es X.env).length=n:=by rfl) (hst:(assignEach es X.env).findIdx? (·.1)=none:=by rfl):PG X (.Tuple es k pos) (gTup X.K n t):=by
 intro pins s σ H v u Q I r hw;obtain⟨a,xs,e1,hq,hl,hw⟩:=hw;subst e1
 cases r
 obtain⟨its,rv,ht,hz⟩:=I.tuple hq;refine assign_Tuple_tuple (I.ok.hd hc) ht (by simp[hn,<-hl,rv.length]) hst fun h' hx=>?_;have I1:Inv X pins σ H {s with heap:=h'}:=I.kept (t':=s.toks) fun b o e=>hx b o (Br (Au e)) e;exact h pins _ σ H xs _ Q I1 (by simpa using rv) hw
noncomputable def gSub(to ti:TE)(t:TSet):TG:=fun v σ H Q=>to σ H fun o H1=>ti σ H1 fun i H2=>t o i v H2 fun H3=>Q σ H3
theorem zhL{o i:Ce}{to ti:TE}{t:TSet}(ho:PE X o to)(hi:PE X i ti)(hs:PSet X t)
  (ha:∀v,assign (.Subscript o i pos) X.env v=(do
   let ov<-holding [v] (eval o X.env)
   let iv<-holding [v,ov] (eval i X.env)
   standAt pos
   holding [v,ov,iv] (setItem ov iv v)
   release [v,ov,iv] []):=by intro _;rfl):PG X (.Subscript o i pos) (gSub to ti t):=by
 intro pins s σ H v u Q I r h;rw[ha];refine A0 (Dy (thnE (ho pins s σ H _ I h) fun ov s1 x H1 I1 r1 q1=>?_));refine A0 (Dy (thnE (hi pins s1 σ H1 _ I1 q1) fun iv s2 y H2 I2 r2 q2=>?_));refine A0 (K3 (A0 (Dy (thn (hs pins s2 σ H2 x y v ov iv u _ I2 r1 r2 r q2) fun _ s3⟨H3,I3,q3⟩=>?_))));exact wpAny_release ⟨σ,H3,I3,q3⟩
noncomputable def tAsg(te:TE)(g:TG):TS:=fun D σ H=>te σ H fun x H1=>g x σ H1 D.nx
theorem zgS{tg e:Ce}{te:TE}{g:TG}(he:PE X e te)(hg:PG X tg g)(hs:swapsWithSole [tg] e pos.line X.env=pure false:=by rfl)(hw:swappedStores [tg] e X.env=pure none:=by rfl)
  (h1:(assignEach [tg] X.env).map (·.2)=[assign tg X.env]:=by rfl):PS X (.Assign [tg] e pos) (tAsg te g):=by
 intro pins s σ H D I h;refine wpAny_Assign_stores (thnE (he pins s σ H _ I h) fun v s1 x H1 I1 r1 q1=>?_) hs hw;rw[h1];exact thn (hg pins s1 σ H1 x v _ I1 r1 q1) fun _ s2 q=>q
theorem zan{i:Nat}{x:Str}{e:Ce}{te:TE}{pos':Pos}(hN:X.N.Nodup)(hi:X.N[i]?=some x)(hx:Loc X.env.scope x)(he:PE X e te)(hs:swapsWith e (some (.Name x pos')) pos.line X.env=pure false:=by rfl)(hf:X.fn x=true\/X.env.scope.names.lookup x=some .local:=by first|exact .inl rfl|exact .inr rfl|assumption):
  PS X (.Assign [.Name x pos'] e pos) (tAsg te (gName i)):=by
 intro pins s σ H D I h;refine wpAny_Assign_Name (thnE (he pins s σ H _ I h) fun v s1 y H1 I1 r1 q1=>?_) hs;exact zfQ I1 hN hi hx r1 (fun s2 I2=>⟨_,H1,I2,q1⟩) hf
end
section
variable{X:Cx}{pos:Pos}
noncomputable def tWhile(c:TT)(tb:TS):TS:=fun D σ H=>∃W:Nat->St->Hp->Prop,(∃m,W m σ H)/\∀m σ H,W m σ H->
 c σ H fun b H1=>if b=true then∃N:St->Hp->Prop,(∀σ' H',N σ' H'->∃m',m'<m/\W m' σ' H')/\tb {D with nx:=N,ct:=N,bk:=D.nx} σ H1 else D.nx σ H1
theorem zch{c:Ce}{body:List Cf}{tc:TT}{tb:TS}(hp:P4 (model X.prog X.w) X.A X.env X.xe)(hc:PT X c tc)(hb:PSs X body tb):PS X (.While c body [] pos) (tWhile tc tb):=by
 intro pins s σ H D I h;obtain⟨W,⟨m0,w0⟩,turn⟩:=h;refine wpAny_While (codeAny_whileLoop (fun n s'=>∃σ' H',Inv X pins σ' H' s'/\W n σ' H') ?_ m0 ⟨σ,H,I,w0⟩);rintro n s1⟨σ1,H1,I1,w1⟩;refine F7 hp (thn (hc pins s1 σ1 H1 _ I1 (turn n σ1 H1 w1)) fun b s2⟨H2,I2,q2⟩=>?_)
 cases b with
 |true=>
  obtain⟨N,hN,q2⟩:=q2;rw[if_pos rfl];refine F7 hp (thn (hb pins s2 σ1 H2 _ I2 q2) fun f s3 q3=>?_)
  cases f with
  |next=>
   obtain⟨σ3,H3,I3,n3⟩:=q3;obtain⟨m',hm,w3⟩:=hN σ3 H3 n3;exact⟨m',hm,σ3,H3,I3,w3⟩
  |cont=>
   obtain⟨σ3,H3,I3,n3⟩:=q3;obtain⟨m',hm,w3⟩:=hN σ3 H3 n3;exact⟨m',hm,σ3,H3,I3,w3⟩
  |brk=>exact q3
  |ret v=>exact q3
 |false=>
  rw[if_neg Ah];exact Jf ⟨σ1,H2,I2,q2⟩
end
structure It where
 go:Nat->Hp->Prop
 yld:Nat->Hp->V->Hp->Prop
 stop:Nat->Hp->Prop
noncomputable def FpOk(X:Cx)(pins:List (A7×Obj))(H:Hp)(b:A7):Prop:=
 H b=none/\b≠X.env.locals/\b∉X.fs/\(b∈X.ex\/X.s₀.heap.objs.size<=b)/\(∀x c,X.env.cells.lookup x=some c->c≠b)/\∀p∈X.pn++pins,p.1≠b
theorem Inv.fpOk{X:Cx}{pins:List (A7×Obj)}{σ:St}{H H':Hp}{s:A6}{b:A7}(I:Inv X pins σ H s)(hb:s.heap.objs.size<=b)(hn:H' b=none):FpOk X pins H' b:=by
 refine⟨hn,Ma (Ak I.lt hb),I.nofs hb,.inr (Bm I.sz hb),fun x c e z=>?_,fun p hp z=>?_⟩
 ·obtain⟨v,q⟩:=I.cell x c e;exact absurd (Ak q.lt (by rw[z];exact hb)) (E5 _)
 ·exact absurd (Ak (Au (I.pin p hp).1) (by rw[z];exact hb)) (E5 _)
structure Turn(P:Aw)(w:Bq)(K:Az)(tg:Ce)(J:It)(fp:List A7)(it:A7)(tn:Nat->C9->Prop):Prop where
 mem:it∈fp
 obj:∀i h,tn i h->∀b∈fp,∃o,h.get? b=some o/\∀v,o.data≠.cell v
 keep:∀i h h',tn i h->(∀b∈fp,∀o,h.get? b=some o->h'.get? b=some o)->tn i h'
 item:∀(X:Cx),X.prog=P->X.w=w->X.K=K->X.calm=true->∀(i:Nat)(pins:List (A7×Obj))(s:A6)(σ:St)(H:Hp)(E:A1->A6->Prop),Inv X pins σ H s->(∀b∈fp,FpOk X pins H b)->tn i s.heap->J.go i H->
  wpAny (model P w) X.A (pyNext (.ref it)) (fun r s1=>∃u,r=some u/\
   wpAny (model P w) X.A (letOwnedTupleGo tg (.ref it) u) (fun _ s2=>∃x H',Inv X pins σ H' s2/\RelV x u/\J.yld i H x H'/\tn (i+1) s2.heap/\∀b∈fp,H' b=none) E s1) E s
 done:∀(X:Cx),X.prog=P->X.w=w->X.K=K->X.calm=true->∀(i:Nat)(pins:List (A7×Obj))(s:A6)(σ:St)(H:Hp)(E:A1->A6->Prop),Inv X pins σ H s->(∀b∈fp,FpOk X pins H b)->tn i s.heap->J.stop i H->
  wpAny (model P w) X.A (pyNext (.ref it)) (fun r s1=>r=none/\Inv X pins σ H s1) E s
 self:∀(A:Bi)(i:Nat)(s:A6)(Q:A1->A6->Prop)(E:A1->A6->Prop),tn i s.heap->Q (.ref it) s->wpAny (model P w) A (pyIter (.ref it)) Q E s
noncomputable abbrev TI:=St->Hp->(It->Hp->Prop)->Prop
noncomputable def PIE(X:Cx)(pins:List (A7×Obj))(σ:St)(tg:Ce)(R:It->Hp->Prop)(itv:A1)(s2:A6):Prop:=
 ∃(it:A7)(fp:List A7)(tn:Nat->C9->Prop)(J:It)(H':Hp),itv= .ref it/\Inv X pins σ H' s2/\Turn X.prog X.w X.K tg J fp it tn/\tn 0 s2.heap/\(∀b∈fp,FpOk X pins H' b)/\R J H'
noncomputable def PI(X:Cx)(tg iter:Ce)(wi:TI):Prop:=
 ∀(pins:List (A7×Obj))(s:A6)(σ:St)(H:Hp)(R:It->Hp->Prop),Inv X pins σ H s->wi σ H R->
  wpAny (model X.prog X.w) X.A (eval iter X.env) (fun v s1=>wpAny (model X.prog X.w) X.A (pyIter v) (PIE X pins σ tg R) X.xe s1) X.xe s
theorem zhh{M:I0}{A:Bi}{E:A1->A6->Prop}{s:A6}{tg:Ce}{it:A7}{u:A1}{o:Obj}{n:String}{vs:Array A1}{Q:Unit->A6->Prop}(ho:s.heap.get? it=some o)(hc:o.cls= .type n)(hd:o.data= .fields vs)
  (hn:["enumerate","zip","dict_itemiterator","dict_reverseitemiterator","odict_iterator","itertools.zip_longest","itertools.pairwise"].contains n=false) (hQ:Q () s):wpAny M A (letOwnedTupleGo tg (.ref it) u) Q E s:=by
 unfold letOwnedTupleGo
 cases tg<;>first
  |exact Ai hQ
  | (cases u <;> first
    |exact Ai hQ
    | (refine A0 (wpAny_load ho ?_)
       rw[hc,hd];show wpAny M A (if(["enumerate","zip","dict_itemiterator","dict_reverseitemiterator","odict_iterator","itertools.zip_longest","itertools.pairwise"].contains n&&vs[0]? ==some (rawInt _))=true then _ else _) Q E s;rw[if_neg (by intro h;rw[hn,Fy] at h;cases h)];exact Ai hQ))
noncomputable def Itl(K:Az)(a:A7):It:=
 ⟨fun i H=>∃xs x,SqL K H a xs/\xs[i]?=some x,fun i H x H'=>H'=H/\∀xs,SqL K H a xs->xs[i]?=some x,fun i H=>∃xs,SqL K H a xs/\xs.length<=i⟩
noncomputable def Itt(K:Az)(a:A7):It:=
 ⟨fun i H=>∃xs x,SqT K H a xs/\xs[i]?=some x,fun i H x H'=>H'=H/\∀xs,SqT K H a xs->xs[i]?=some x,fun i H=>∃xs,SqT K H a xs/\xs.length<=i⟩
noncomputable def Itr(lo:Int)(n:Nat):It:=⟨fun i _=>i<n,fun i H x H'=>H'=H/\x= .int (lo+i),fun i _=>n<=i⟩
theorem turn_list{P:Aw}{w:Bq}{K:Az}{tg:Ce}(a it:A7):Turn P w K tg (Itl K a) [it] it (fun i h=>h.IsListIter it a i) where
 mem:=by simp
 obj:=fun i h st b hb=>by
  have e:b=it:=by simpa using hb
  subst e;obtain⟨o,e,c,d⟩:=st;exact⟨o,e,fun v z=>by rw[d] at z;cases z⟩
 keep:=fun i h h' st k=>st.at fun o e=>k it (by simp) o e
 item:=by
  intro X hP hw hK hc i pins s σ H E I hf st hg;subst hP hw hK;obtain⟨xs,x,hq,hx⟩:=hg;obtain⟨its,rv,p,hz⟩:=I.list hq;obtain⟨u,hu,ru⟩:=rv.get hx;obtain⟨f0,f1,f2,f3,f4,f5⟩:=hf it (by simp);refine wpAny_pyNext_list_item st p.isList (x:=u) (by simpa using hu) fun h' st' sb=>?_;have I1:Inv X pins σ H {s with heap:=h'}:=I.turned (t':=s.toks) (fun b o hb e=>(sb.2 b hb).trans e) f0 f1 f3 f4 f5;obtain⟨o,e,c,d⟩:=id st';exact⟨u,rfl,zhh (s:={s with heap:=h'}) e c d (by decide) ⟨x,H,I1,ru,⟨rfl,fun ys hy=>by rw[I.list_inj hy hq];exact hx⟩,st',fun b hb=>(hf b hb).1⟩⟩
 done:=by
  intro X hP hw hK hc i pins s σ H E I hf st hg;subst hP hw hK;obtain⟨xs,hq,hx⟩:=hg;obtain⟨its,rv,p,hz⟩:=I.list hq;obtain⟨f0,f1,f2,f3,f4,f5⟩:=hf it (by simp);have hl:=rv.length;exact wpAny_pyNext_list_end (I.ok.hd hc) st p.isList (by simp;omega) fun h' eb=>⟨rfl,I.turned (t':=s.toks) (fun b o hb e=>eb b o hb e) f0 f1 f3 f4 f5⟩
 self:=fun _ _ _ _ _ st h=>wpAny_pyIter_listiter st h
theorem turn_tuple{P:Aw}{w:Bq}{K:Az}{tg:Ce}(a it:A7):Turn P w K tg (Itt K a) [it] it (fun i h=>h.IsTupleIter it a i) where
 mem:=by simp
 obj:=fun i h st b hb=>by
  have e:b=it:=by simpa using hb
  subst e;obtain⟨o,e,c,d⟩:=st;exact⟨o,e,fun v z=>by rw[d] at z;cases z⟩
 keep:=fun i h h' st k=>st.at fun o e=>k it (by simp) o e
 item:=by
  intro X hP hw hK hc i pins s σ H E I hf st hg;subst hP hw hK;obtain⟨xs,x,hq,hx⟩:=hg;obtain⟨its,rv,p,hz⟩:=I.tuple hq;obtain⟨u,hu,ru⟩:=rv.get hx;obtain⟨f0,f1,f2,f3,f4,f5⟩:=hf it (by simp);refine wpAny_pyNext_tuple_item st (show s.heap.IsTuple a its.toArray from p) (x:=u) (by simpa using hu) fun h' st' sb=>?_;have I1:Inv X pins σ H {s with heap:=h'}:=I.turned (t':=s.toks) (fun b o hb e=>(sb.2 b hb).trans e) f0 f1 f3 f4 f5;obtain⟨o,e,c,d⟩:=id st';exact⟨u,rfl,zhh (s:={s with heap:=h'}) e c d (by decide) ⟨x,H,I1,ru,⟨rfl,fun ys hy=>by rw[I.tuple_inj hy hq];exact hx⟩,st',fun b hb=>(hf b hb).1⟩⟩
 done:=by
  intro X hP hw hK hc i pins s σ H E I hf st hg;subst hP hw hK;obtain⟨xs,hq,hx⟩:=hg;obtain⟨its,rv,p,hz⟩:=I.tuple hq;obtain⟨f0,f1,f2,f3,f4,f5⟩:=hf it (by simp);have hl:=rv.length;exact wpAny_pyNext_tuple_end (I.ok.hd hc) st (show s.heap.IsTuple a its.toArray from p) (by simp;omega) fun h' eb=>⟨rfl,I.turned (t':=s.toks) (fun b o hb e=>eb b o hb e) f0 f1 f3 f4 f5⟩
 self:=fun _ _ _ _ _ st h=>wpAny_pyIter_tupleiter st h
theorem turn_range{P:Aw}{w:Bq}{K:Az}{tg:Ce}(it:A7)(lo:Int)(n:Nat):Turn P w K tg (Itr lo n) [it] it (fun i h=>IsRangeIter h it (lo+(i:Nat)*1) ((n:Int)-(i:Nat)) 1) where
 mem:=by simp
 obj:=fun i h st b hb=>by
  have e:b=it:=by simpa using hb
  subst e;exact⟨_,st,fun v z=>by
   have z':Data.fields _=Data.cell v:=z
   cases z'⟩
 keep:=fun i h h' st k=>k it (by simp) _ st
 item:=by
  intro X hP hw hK hc i pins s σ H E I hf st hg;subst hP hw hK;obtain⟨f0,f1,f2,f3,f4,f5⟩:=hf it (by simp);have W:=Walks.range (prog:=X.prog) (w:=X.w) (I.ok.hd hc) it lo 1 n;refine W.item i s _ _ hg st fun v h' tk hv st' kk=>?_;obtain⟨t,rfl⟩:=hv;have I1:Inv X pins σ H {s with heap:=h',toks:=tk}:=I.turned (fun b o hb e=>kk b o (by simpa using hb) e) f0 f1 f3 f4 f5;refine⟨_,rfl,zhh (s:={s with heap:=h',toks:=tk}) (n:="range_iterator") st' rfl rfl (by decide) ⟨.int (lo+i),H,I1,⟨t,?_⟩,⟨rfl,rfl⟩,st',fun b hb=>(hf b hb).1⟩⟩;rw[Int.mul_one]
 done:=by
  intro X hP hw hK hc i pins s σ H E I hf st hg;subst hP hw hK;obtain⟨f0,f1,f2,f3,f4,f5⟩:=hf it (by simp);exact wpAny_pyNext_range_end (I.ok.hd hc) st (by have:n<=i:=hg;omega) fun h' eb=>⟨rfl,I.turned (t':=s.toks) (fun b o hb e=>eb b o hb e) f0 f1 f3 f4 f5⟩
 self:=fun _ _ _ _ _ st h=>wpAny_pyIter_rangeiter st h
section
variable{X:Cx}{tg:Ce}
noncomputable def iList(K:Az)(tl:TE):TI:=fun σ H R=>tl σ H fun x H1=>∃a,x= .ref a/\(∃xs,SqL K H1 a xs)/\R (Itl K a) H1
noncomputable def iTup(K:Az)(tl:TE):TI:=fun σ H R=>tl σ H fun x H1=>∃a,x= .ref a/\(∃xs,SqT K H1 a xs)/\R (Itt K a) H1
theorem zaw{l:Ce}{tl:TE}(hl:PE X l tl):PI X tg l (iList X.K tl):=by
 intro pins s σ H R I h;refine thnE (hl pins s σ H _ I h) fun v s1 x H1 I1 r1 q1=>?_;obtain⟨a,e,⟨xs,hq⟩,q⟩:=q1;subst e
 cases r1
 obtain⟨its,rv,p,hz⟩:=I1.list hq;refine Om p.isList ?_;refine⟨s1.heap.objs.size,[s1.heap.objs.size],_,_,H1,rfl,I1.kept (t':=s1.toks) fun b o e=>Ae _ e,turn_list a _,⟨_,Ba _ rfl,rfl,rfl⟩,fun b hb=>?_,q⟩;have e:b=s1.heap.objs.size:=by simpa using hb
 subst e;exact I1.fpOk (Ac _) (I1.hok.fresh (Ac _))
theorem pi_tup{l:Ce}{tl:TE}(hl:PE X l tl):PI X tg l (iTup X.K tl):=by
 intro pins s σ H R I h;refine thnE (hl pins s σ H _ I h) fun v s1 x H1 I1 r1 q1=>?_;obtain⟨a,e,⟨xs,hq⟩,q⟩:=q1;subst e
 cases r1
 obtain⟨its,rv,p,hz⟩:=I1.tuple hq;refine wpAny_pyIter_tuple (show s1.heap.IsTuple a its.toArray from p) ?_;refine⟨s1.heap.objs.size,[s1.heap.objs.size],_,_,H1,rfl,I1.kept (t':=s1.toks) fun b o e=>Ae _ e,turn_tuple a _,⟨_,Ba _ rfl,rfl,rfl⟩,fun b hb=>?_,q⟩;have e:b=s1.heap.objs.size:=by simpa using hb
 subst e;exact I1.fpOk (Ac _) (I1.hok.fresh (Ac _))
theorem zf4{pins:List (A7×Obj)}{σ:St}{H:Hp}{s:A6}{R:It->Hp->Prop}{E:A1->A6->Prop}{lo hi:Int}{t u v:Tok}{tk:Nat}(I:Inv X pins σ H s)(h1: -(2 ^ 62)<=lo)(h2:lo<2 ^ 62)(h3: -(2 ^ 62)<=hi)(h4:hi<2 ^ 62)
  (q:R (Itr lo (hi-lo).toNat) H):wpAny (model X.prog X.w) X.A (pyIter (.ref s.heap.objs.size)) (PIE X pins σ tg R) E {s with heap:=s.heap.push {cls:=.type "range",data:=.fields #[.int lo t,.int hi u,.int 1 v]},toks:=tk}:=by
 refine wpAny_pyIter_range (IsRange.new ..) (small_one h1 h2 h3 h4) ?_;have I1:Inv X pins σ H {s with heap:=s.heap.push {cls:=.type "range",data:=.fields #[.int lo t,.int hi u,.int 1 v]},toks:=tk}:=I.kept fun b o e=>Ae _ e;refine⟨(s.heap.push {cls:=.type "range",data:=.fields #[.int lo t,.int hi u,.int 1 v]}).objs.size,[(s.heap.push {cls:=.type "range",data:=.fields #[.int lo t,.int hi u,.int 1 v]}).objs.size],_,_,H,rfl,
  I1.kept (t':=tk) fun b o e=>Ae _ e,turn_range _ lo (hi-lo).toNat,?_,fun b hb=>?_,q⟩
 ·have e1:lo+((0:Nat):Int)*1=lo:=by simp
  have e2:(((hi-lo).toNat:Nat):Int)-((0:Nat):Int)=Pc lo hi 1:=by rw[rangeSize_one];split<;>omega
  show IsRangeIter _ _ (lo+((0:Nat):Int)*1) ((((hi-lo).toNat:Nat):Int)-((0:Nat):Int)) 1;rw[e1,e2];exact Ba _ rfl
 ·have e:b=(s.heap.push {cls:=.type "range",data:=.fields #[.int lo t,.int hi u,.int 1 v]}).objs.size:=by simpa using hb
  subst e;exact I1.fpOk (Ac _) (I1.hok.fresh (Ac _))
noncomputable def iRng1(ta:TA):TI:=fun σ H R=>ta σ H fun vs H1=>∃j:Int,vs=[.int j]/\ -(2 ^ 62)<=j/\j<2 ^ 62/\R (Itr 0 j.toNat) H1
noncomputable def iRng2(ta:TA):TI:=fun σ H R=>ta σ H fun vs H1=>∃i j:Int,vs=[.int i,.int j]/\(-(2 ^ 62)<=i/\i<2 ^ 62/\ -(2 ^ 62)<=j/\j<2 ^ 62)/\R (Itr i (j-i).toNat) H1
theorem zbs{a:Ce}{ta:TA}{p pos:Pos}(hg:Gl X "range")(hm:X.mg "range"=none)(ha:PA X [a] ta)(hs:starEach [a] X.env=[(false,eval a X.env)]:=by rfl):PI X tg (.Call (.Name "range" p) [a] [] pos) (iRng1 ta):=by
 intro pins s σ H R I h;refine Call_ (ze6 I hg hm boot_range (G5 (thnE (ha pos pins s σ H _ I h) fun us s1 vs H1 I1 r1 q1=>?_) hs rfl));obtain⟨j,e,q1,q2,q⟩:=q1;subst e
 cases r1 with
 |cons r rr=>
  cases rr
  obtain⟨t,rfl⟩:=r;exact call_range_1 (zf4 I1 (by omega) (by omega) q1 q2 (by simpa using q))
theorem ze1{a b:Ce}{ta:TA}{p pos:Pos}(hg:Gl X "range")(hm:X.mg "range"=none)(ha:PA X [a,b] ta)(hs:starEach [a,b] X.env=[(false,eval a X.env),(false,eval b X.env)]:=by rfl)(hs2:starEach [b] X.env=[(false,eval b X.env)]:=by rfl):
  PI X tg (.Call (.Name "range" p) [a,b] [] pos) (iRng2 ta):=by
 intro pins s σ H R I h;refine Call_ (ze6 I hg hm boot_range (G5 (thnE (ha pos pins s σ H _ I h) fun us s1 vs H1 I1 r1 q1=>?_) (by rw[hs,hs2]) (by rw[hs2];rfl)));obtain⟨i,j,e,⟨q1,q2,q3,q4⟩,q⟩:=q1;subst e
 cases r1 with
 |cons r rr=>
  cases rr with
  |cons r' rr=>
   cases rr
   obtain⟨t,rfl⟩:=r;obtain⟨t',rfl⟩:=r';exact call_range_2 (zf4 I1 q1 q2 q3 q4 q)
noncomputable def tFor(wi:TI)(g:TG)(tb:TS):TS:=fun D σ H=>wi σ H fun J H1=>∃W:Nat->Nat->St->Hp->Prop,(∃m,W 0 m σ H1)/\∀i m σ H,W i m σ H->
 (J.stop i H/\D.nx σ H)\/(J.go i H/\∃N:St->Hp->Prop,(∀σ' H',N σ' H'->∃m',m'<m/\W (i+1) m' σ' H')/\∀x H',J.yld i H x H'->g x σ H' fun σ2 H2=>tb {D with nx:=N,ct:=N,bk:=D.nx} σ2 H2)
noncomputable def pinsAt(fp:List A7)(h:C9):List (A7×Obj):=fp.filterMap fun b=>(h.get? b).map fun o=>(b,o)
theorem zci{fp:List A7}{h:C9}{b:A7}{o:Obj}(hb:b∈fp)(e:h.get? b=some o):(b,o)∈pinsAt fp h:=Jp.mpr ⟨b,hb,by rw[e];rfl⟩
theorem of_pinsAt{fp:List A7}{h:C9}{p:A7×Obj}(hp:p∈pinsAt fp h):p.1∈fp/\h.get? p.1=some p.2:=by
 obtain⟨b,hb,e⟩:=Jp.mp hp
 cases q:h.get? b with
 |none=>rw[q] at e;cases e
 |some o=>
  rw[q] at e;have e':(b,o)=p:=C1 e;subst e';exact⟨hb,q⟩
theorem Inv.pinned{pins:List (A7×Obj)}{σ:St}{H:Hp}{s:A6}{fp:List A7}(I:Inv X pins σ H s)(hf:∀b∈fp,FpOk X pins H b)(ho:∀b∈fp,∃o,s.heap.get? b=some o/\∀v,o.data≠.cell v):Inv X (pins++pinsAt fp s.heap) σ H s:=
 I.pins_of fun p hp=>(Ap.mp hp).elim (fun z=>I.pin p (Bl _ z)) fun z=>by
  obtain⟨hb,e⟩:=of_pinsAt z;obtain⟨f0,f1,f2,_⟩:=hf p.1 hb;obtain⟨o,e',d⟩:=ho p.1 hb;rw[e] at e';cases e'
  exact⟨e,f0,f1,f2,d⟩
theorem Inv.unpinned{pins pl:List (A7×Obj)}{σ:St}{H:Hp}{s:A6}(I:Inv X (pins++pl) σ H s):Inv X pins σ H s:=I.pins_of fun p hp=>I.pin p (Bl _ (Ca _ hp))
theorem za0{iter:Ce}{body:List Cf}{wi:TI}{g:TG}{tb:TS}{pos:Pos}(hp:P4 (model X.prog X.w) X.A X.env X.xe)(hc:X.calm=true)(hi:PI X tg iter wi)(hg:PG X tg g)(hb:PSs X body tb)
  (hs:∀x,foldedSetIterable iter X.env x=pure x:=by intro _;rfl):PS X (.For tg iter body [] pos) (tFor wi g tb):=by
 intro pins s σ H D I h;refine wpAny_For (thn (hi pins s σ H _ I h) fun v s1 h1=>thn h1 fun itv s2 h2=>?_) hs;obtain⟨it,fp,tn,J,H2,e,I2,T,st2,f2,W,⟨m0,w0⟩,turn⟩:=h2;subst e;have stat:∀{H':Hp},(∀b∈fp,H' b=none)->∀b∈fp,FpOk X pins H' b:=fun hn b hb=>⟨hn b hb,(f2 b hb).2⟩;refine codeAny_forLoop_any (fun n s'=>∃i σ' H',Inv X pins σ' H' s'/\tn i s'.heap/\(∀b∈fp,H' b=none)/\W i n σ' H') ?_ m0 ⟨0,σ,H2,I2,st2,fun b hb=>(f2 b hb).1,w0⟩;rintro n s3⟨i,σ3,H3,I3,st3,fr3,w3⟩;rcases turn i n σ3 H3 w3 with⟨stop,qn⟩|⟨go,N,hN,step⟩
 ·refine F7 hp (thn (T.done X rfl rfl rfl hc i pins s3 σ3 H3 X.xe I3 (stat fr3) st3 stop) fun r s4⟨hr,I4⟩=>?_);subst hr;exact Jf ⟨σ3,H3,I4,qn⟩
 ·refine F7 hp (thn (T.item X rfl rfl rfl hc i pins s3 σ3 H3 X.xe I3 (stat fr3) st3 go) fun r s4⟨u,hr,h4⟩=>?_);subst hr;refine F7 hp (thn h4 fun _ s5⟨x,H5,I5,r5,y5,st5,fr5⟩=>?_);have I5':=I5.pinned (stat fr5) (T.obj _ _ st5);refine F7 hp (thn (hg _ s5 σ3 H5 x u _ I5' r5 (step x H5 y5)) fun _ s6⟨σ6,H6,I6,q6⟩=>?_);refine F7 hp (thn (hb _ s6 σ6 H6 _ I6 q6) fun f s7 q7=>?_);have again:∀{σ7:St}{H7:Hp},Inv X (pins++pinsAt fp s5.heap) σ7 H7 s7->N σ7 H7->∃m,m<n/\∃i σ' H',Inv X pins σ' H' s7/\tn i s7.heap/\(∀b∈fp,H' b=none)/\W i m σ' H':=fun{σ7 H7}I7 n7=>by
   obtain⟨m',hm,w7⟩:=hN σ7 H7 n7;refine⟨m',hm,i+1,σ7,H7,I7.unpinned,T.keep _ _ _ st5 fun b hb o e=>(I7.pin (b,o) (Bl _ (Bl _ (zci hb e)))).1,fun b hb=>?_,w7⟩;obtain⟨o,e,d⟩:=T.obj _ _ st5 b hb;exact(I7.pin (b,o) (Bl _ (Bl _ (zci hb e)))).2.1
  cases f with
  |next=>obtain⟨σ7,H7,I7,n7⟩:=q7;exact again I7 n7
  |cont=>obtain⟨σ7,H7,I7,n7⟩:=q7;exact again I7 n7
  |brk=>obtain⟨σ7,H7,I7,q7⟩:=q7;exact⟨σ7,H7,I7.unpinned,q7⟩
  |ret v=>obtain⟨x7,σ7,H7,I7,r7,q7⟩:=q7;exact⟨x7,σ7,H7,I7.unpinned,r7,q7⟩
end
noncomputable abbrev R2:=V->V->Hp->VK->Prop
noncomputable def OpR(X:Cx)(f:A1->A1->Sem A1)(r:R2):Prop:=
 ∀(pins:List (A7×Obj))(s:A6)(σ:St)(H:Hp)(x y:V)(v u:A1)(Q:VK),Inv X pins σ H s->RelV x v->RelV y u->r x y H Q->
  wpAny (model X.prog X.w) X.A (f v u) (EP X pins σ Q) X.xe s
noncomputable def UnR(X:Cx)(f:A1->Sem A1)(r:V->Hp->VK->Prop):Prop:=
 ∀(pins:List (A7×Obj))(s:A6)(σ:St)(H:Hp)(x:V)(v:A1)(Q:VK),Inv X pins σ H s->RelV x v->r x H Q->
  wpAny (model X.prog X.w) X.A (f v) (EP X pins σ Q) X.xe s
noncomputable def CallR(X:Cx)(f:A1)(r:List V->Hp->VK->Prop):Prop:=
 ∀(pins:List (A7×Obj))(s:A6)(σ:St)(H:Hp)(xs:List V)(us:List A1)(Q:VK),Inv X pins σ H s->Vals xs us->r xs H Q->
  wpAny (model X.prog X.w) X.A (call f us) (EP X pins σ Q) X.xe s
noncomputable def tOp(r:R2)(ta tb:TE):TE:=fun σ H Q=>ta σ H fun x H1=>tb σ H1 fun y H2=>r x y H2 Q
noncomputable def tUn(r:V->Hp->VK->Prop)(ta:TE):TE:=fun σ H Q=>ta σ H fun x H1=>r x H1 Q
noncomputable def rI(C:Int->Int->Prop)(g:Int->Int->V):R2:=fun x y H Q=>∃i j,x= .int i/\y= .int j/\C i j/\Q (g i j) H
noncomputable def rI0(g:Int->Int->V):R2:=fun x y H Q=>∃i j,x= .int i/\y= .int j/\Q (g i j) H
noncomputable def rU(g:Int->V):V->Hp->VK->Prop:=fun x H Q=>∃i,x= .int i/\Q (g i) H
section
variable{X:Cx}{a b c:Ce}{ta tb tc:TE}{pos:Pos}
theorem binT(ha:PE X a ta)(hb:PE X b tb){pins:List (A7×Obj)}{s:A6}{σ:St}{H:Hp}{R:V->V->Hp->Prop}(I:Inv X pins σ H s)
  (h:ta σ H fun x H1=>tb σ H1 fun y H2=>R x y H2) {Q:A1->A6->Prop} {f:A1->A1->Sem A1}
  (hf:∀v u s2 x y H2,Inv X pins σ H2 s2->RelV x v->RelV y u->R x y H2->wpAny (model X.prog X.w) X.A (f v u) Q X.xe s2):
  wpAny (model X.prog X.w) X.A (eval a X.env) (fun v s₁=>wpAny (model X.prog X.w) X.A (eval b X.env) (fun u s₂=>wpAny (model X.prog X.w) X.A (f v u) Q X.xe s₂) X.xe s₁) X.xe s:=by
 refine thnE (ha pins s σ H _ I h) fun v s1 x H1 I1 r1 q1=>?_;refine thnE (hb pins s1 σ H1 _ I1 q1) fun u s2 y H2 I2 r2 q2=>?_;exact hf v u s2 x y H2 I2 r1 r2 q2
theorem zax{op:Operator}{r:R2}(ho:OpR X (binaryOp op) r)(ha:PE X a ta)(hb:PE X b tb):PE X (.BinOp a op b pos) (tOp r ta tb):=by
 intro pins s σ H Q I h;exact wpAny_BinOp (binT ha hb I h fun v u s2 x y H2 I2 rx ry q=>ho pins s2 σ H2 x y v u Q I2 rx ry q)
theorem zd3{op:UnaryOp}{r:V->Hp->VK->Prop}(ho:UnR X (unaryOp op) r)(ha:PE X a ta):PE X (.UnaryOp op a pos) (tUn r ta):=by
 intro pins s σ H Q I h;exact UnaryOp_ (thnE (ha pins s σ H _ I h) fun v s1 x H1 I1 r1 q1=>ho pins s1 σ H1 x v Q I1 r1 q1)
theorem opI{f:A1->A1->Sem A1}{C:Int->Int->Prop}{g:Int->Int->Int}
  (rule:∀(i j:Int)(t u:Tok)(s:A6)(Q:A1->A6->Prop)(E:A1->A6->Prop),C i j->Q (.int (g i j) s.toks) {s with toks:=s.toks+1}->wpAny (model X.prog X.w) X.A (f (.int i t) (.int j u)) Q E s):
  OpR X f (rI C fun i j=>.int (g i j)):=by
 intro pins s σ H x y v u Q I rx ry h;obtain⟨i,j,rfl,rfl,hc,q⟩:=h;obtain⟨t,rfl⟩:=rx;obtain⟨t',rfl⟩:=ry;exact rule i j t t' s _ _ hc ⟨.int (g i j),H,I.tok _,⟨_,rfl⟩,q⟩
theorem opI0{f:A1->A1->Sem A1}{g:Int->Int->Int}
  (rule:∀(i j:Int)(t u:Tok)(s:A6)(Q:A1->A6->Prop)(E:A1->A6->Prop),Q (.int (g i j) s.toks) {s with toks:=s.toks+1}->wpAny (model X.prog X.w) X.A (f (.int i t) (.int j u)) Q E s):
  OpR X f (rI0 fun i j=>.int (g i j)):=by
 intro pins s σ H x y v u Q I rx ry h;obtain⟨i,j,rfl,rfl,q⟩:=h;obtain⟨t,rfl⟩:=rx;obtain⟨t',rfl⟩:=ry;exact rule i j t t' s _ _ ⟨.int (g i j),H,I.tok _,⟨_,rfl⟩,q⟩
theorem opB0{f:A1->A1->Sem A1}{g:Int->Int->Bool}
  (rule:∀(i j:Int)(t u:Tok)(s:A6)(Q:A1->A6->Prop)(E:A1->A6->Prop),Q (.bool (g i j)) s->wpAny (model X.prog X.w) X.A (f (.int i t) (.int j u)) Q E s):
  OpR X f (rI0 fun i j=>.bl (g i j)):=by
 intro pins s σ H x y v u Q I rx ry h;obtain⟨i,j,rfl,rfl,q⟩:=h;obtain⟨t,rfl⟩:=rx;obtain⟨t',rfl⟩:=ry;exact rule i j t t' s _ _ ⟨.bl (g i j),H,I,rfl,q⟩
noncomputable def CDiv(i j:Int):Prop:=0<j/\j<1073741824
noncomputable def CMul(i j:Int):Prop:=(-(2 ^ 64)<i/\i<2 ^ 64)\/(-(2 ^ 64)<j/\j<2 ^ 64)
theorem CMul.ok{i j:Int}(h:CMul i j):IntMulOk i j:=by
 rcases h with⟨h1,h2⟩|⟨h1,h2⟩
 ·exact .of_left (Qf h1 h2)
 ·exact .of_right (Qf h1 h2)
theorem two_pow_nn(k:Nat):(0:Int)<=2 ^ k:=by
 rw[two_pow_cast];exact Int.natCast_nonneg _
theorem zbi:OpR X (binaryOp .Add) (rI0 fun i j=>.int (i+j)):=opI0 fun _ _ _ _ _ _ _ q=>add_int q
theorem zcu:OpR X (binaryOp .Sub) (rI0 fun i j=>.int (i-j)):=opI0 fun _ _ _ _ _ _ _ q=>sub_int q
theorem zdJ:OpR X (binaryOp .Mult) (rI CMul fun i j=>.int (i*j)):=opI fun _ _ _ _ _ _ _ hc q=>mul_int q hc.ok
theorem zcw:OpR X (binaryOp .FloorDiv) (rI CDiv fun i j=>.int (i / j)):=opI fun i j _ _ _ _ _ hc q=>by
 have h1:(0:Int)<j:=hc.1;have h2:j<1073741824:=hc.2;exact floordiv_int (by omega) (by rw[L4 i (by omega)];exact q) (.inl (PyProof.noPylong_small (by omega)))
theorem zbA:OpR X (binaryOp .Mod) (rI (fun _ j=>0<j) fun i j=>.int (i%j)):=opI fun i j _ _ _ _ _ hc q=>by
 have h1:(0:Int)<j:=hc;exact mod_int' (by omega) (by rw[Int.fmod_eq_emod_of_nonneg i (by omega)];exact q)
theorem op_shr:OpR X (binaryOp .RShift) (rI (fun _ j=>0<=j) fun i j=>.int (i / 2 ^ j.toNat)):=opI fun i j _ _ _ _ _ hc q=>
 rshift_int hc (by rw[L4 i (two_pow_nn _)];exact q)
theorem zhN:OpR X (binaryOp .BitAnd) (rI0 fun i j=>.int (E3 i j)):=opI0 fun _ _ _ _ _ _ _ q=>and_int q
theorem unI{f:A1->Sem A1}{g:Int->Int}
  (rule:∀(i:Int)(t:Tok)(s:A6)(Q:A1->A6->Prop)(E:A1->A6->Prop),Q (.int (g i) s.toks) {s with toks:=s.toks+1}->wpAny (model X.prog X.w) X.A (f (.int i t)) Q E s):
  UnR X f (rU fun i=>.int (g i)):=by
 intro pins s σ H x v Q I rx h;obtain⟨i,rfl,q⟩:=h;obtain⟨t,rfl⟩:=rx;exact rule i t s _ _ ⟨.int (g i),H,I.tok _,⟨_,rfl⟩,q⟩
theorem zco:UnR X (unaryOp .USub) (rU fun i=>.int (-i)):=unI fun _ _ _ _ _ q=>neg_int q
end
noncomputable def scal:V->V->Bool
 | .non,.non=>true| .non,.int _=>true| .int _,.non=>true| .non,.bl _=>true| .bl _,.non=>true| .non,.str _=>true| .str _,.non=>true
 | .int _,.int _=>true| .bl _,.bl _=>true| .str _,.str _=>true| .byt _,.byt _=>true
 | .int _,.str _=>true| .str _,.int _=>true| .bl _,.str _=>true| .str _,.bl _=>true
 |_,_=>false
noncomputable def rEq:R2:=fun x y H Q=>scal x y=true/\Q (.bl (decide (x=y))) H
noncomputable def rNe:R2:=fun x y H Q=>scal x y=true/\Q (.bl (!decide (x=y))) H
theorem zhs{i j:Int}:decide (V.int i=V.int j)=(i==j):=by
 rw[B7];simp
theorem zhV{i j:Bool}:decide (V.bl i=V.bl j)=(i==j):=by
 rw[B7];simp
theorem zhr{i j:Str}:decide (V.str i=V.str j)=(i==j):=by
 rw[B7];simp
theorem zht{i j:Array UInt8}:decide (V.byt i=V.byt j)=(i.toList==j.toList):=by
 rw[B7]
 cases i
 cases j
 simp
section
variable{X:Cx}{a b c:Ce}{ta tb tc:TE}{pos:Pos}
theorem zaJ{pins:List (A7×Obj)}{σ:St}{H:Hp}{s:A6}{Q:VK}{k k':Bool}(I:Inv X pins σ H s)(q:Q (.bl k) H)(e:k=k'):EP X pins σ Q (.bool k') s:=by
 subst e;exact⟨.bl k,H,I,rfl,q⟩
theorem zcn:OpR X (compareOp .Eq) rEq:=by
 intro pins s σ H x y v u Q I rx ry h;obtain⟨hs,q⟩:=h
 cases x with
 |non=>
  cases rx
  cases y with
  |non=>cases ry;exact Ps (zaJ I q (by simp))
  |bl j=>cases ry;exact Pu (zaJ I q (by simp))
  |int j=>obtain⟨t',rfl⟩:=ry;exact Pt (zaJ I q (by simp))
  |str j=>obtain⟨t',rfl⟩:=ry;exact Pr (zaJ I q (by simp))
  |_=>exact absurd (show false=true from hs) Ah
 |bl i=>
  cases rx
  cases y with
  |non=>cases ry;exact Px (zaJ I q (by simp))
  |bl j=>cases ry;exact eq_bool (zaJ I q zhV)
  |str j=>obtain⟨t',rfl⟩:=ry;exact P3 (zaJ I q (by simp))
  |_=>exact absurd (show false=true from hs) Ah
 |int i=>
  obtain⟨t,rfl⟩:=rx
  cases y with
  |non=>cases ry;exact Pw (zaJ I q (by simp))
  |int j=>obtain⟨t',rfl⟩:=ry;exact eq_int (zaJ I q zhs)
  |str j=>obtain⟨t',rfl⟩:=ry;exact P2 (zaJ I q (by simp))
  |_=>exact absurd (show false=true from hs) Ah
 |str i=>
  obtain⟨t,rfl⟩:=rx
  cases y with
  |non=>cases ry;exact Pq (zaJ I q (by simp))
  |bl j=>cases ry;exact P1 (zaJ I q (by simp))
  |int j=>obtain⟨t',rfl⟩:=ry;exact P0 (zaJ I q (by simp))
  |str j=>obtain⟨t',rfl⟩:=ry;exact eq_str (zaJ I q zhr)
  |_=>exact absurd (show false=true from hs) Ah
 |byt i=>
  obtain⟨t,rfl⟩:=rx
  cases y with
  |byt j=>obtain⟨t',rfl⟩:=ry;exact PySem.W.eq_bytes (zaJ I q zht)
  |_=>exact absurd (show false=true from hs) Ah
 |_=>cases y<;>exact absurd (show false=true from hs) Ah
theorem zdh:OpR X (compareOp .NotEq) rNe:=by
 intro pins s σ H x y v u Q I rx ry h;obtain⟨hs,q⟩:=h
 cases x with
 |non=>
  cases rx
  cases y with
  |non=>cases ry;exact Pl (zaJ I q (by simp))
  |bl j=>cases ry;exact Pn (zaJ I q (by simp))
  |int j=>obtain⟨t',rfl⟩:=ry;exact Pm (zaJ I q (by simp))
  |str j=>obtain⟨t',rfl⟩:=ry;exact Pk (zaJ I q (by simp))
  |_=>exact absurd (show false=true from hs) Ah
 |bl i=>
  cases rx
  cases y with
  |non=>cases ry;exact Pp (zaJ I q (by simp))
  |bl j=>cases ry;exact ne_bool (zaJ I q (congrArg not zhV))
  |str j=>obtain⟨t',rfl⟩:=ry;exact Oz (zaJ I q (by simp))
  |_=>exact absurd (show false=true from hs) Ah
 |int i=>
  obtain⟨t,rfl⟩:=rx
  cases y with
  |non=>cases ry;exact Po (zaJ I q (by simp))
  |int j=>obtain⟨t',rfl⟩:=ry;exact ne_int (zaJ I q (congrArg not zhs))
  |str j=>obtain⟨t',rfl⟩:=ry;exact Oy (zaJ I q (by simp))
  |_=>exact absurd (show false=true from hs) Ah
 |str i=>
  obtain⟨t,rfl⟩:=rx
  cases y with
  |non=>cases ry;exact Pj (zaJ I q (by simp))
  |bl j=>cases ry;exact Ox (zaJ I q (by simp))
  |int j=>obtain⟨t',rfl⟩:=ry;exact Ow (zaJ I q (by simp))
  |str j=>obtain⟨t',rfl⟩:=ry;exact ne_str (zaJ I q (congrArg not zhr))
  |_=>exact absurd (show false=true from hs) Ah
 |byt i=>
  obtain⟨t,rfl⟩:=rx
  cases y with
  |byt j=>obtain⟨t',rfl⟩:=ry;exact PySem.W.ne_bytes (zaJ I q (congrArg not zht))
  |_=>exact absurd (show false=true from hs) Ah
 |_=>cases y<;>exact absurd (show false=true from hs) Ah
theorem zgp:OpR X (compareOp .Lt) (rI0 fun i j=>.bl (decide (i<j))):=opB0 fun _ _ _ _ _ _ _ q=>lt_int q
theorem zez:OpR X (compareOp .LtE) (rI0 fun i j=>.bl (decide (i<=j))):=opB0 fun _ _ _ _ _ _ _ q=>le_int q
theorem zgq:OpR X (compareOp .Gt) (rI0 fun i j=>.bl (decide (j<i))):=opB0 fun _ _ _ _ _ _ _ q=>gt_int q
theorem zeA:OpR X (compareOp .GtE) (rI0 fun i j=>.bl (decide (j<=i))):=opB0 fun _ _ _ _ _ _ _ q=>ge_int q
theorem op_notN:OpR X (compareOp .IsNot) (fun x y H Q=>y= .non/\Q (.bl (!decide (x= .non))) H):=by
 intro pins s σ H x y v u Q I rx ry h;obtain⟨rfl,q⟩:=h
 cases ry
 refine isnot_none_gen (zaJ I q ?_)
 cases x<;>first
  | (cases rx; rfl)
  | (obtain ⟨t,rfl⟩:=rx; rfl)
theorem zat(b:Ce){op:N9}(h:op≠.In:=by decide)(h2:op≠.NotIn:=by decide):behindInMarks op b=false:=by
 have e1:(op==CmpOp.In)=false:=by cases op<;>first|rfl|exact absurd rfl h
 have e2:(op==CmpOp.NotIn)=false:=by cases op<;>first|rfl|exact absurd rfl h2
 cases b<;>simp[behindInMarks,e1,e2]
theorem zbR{op:N9}{r:R2}(ho:OpR X (compareOp op) r)(ha:PE X a ta)(hb:PE X b tb)(hm:behindInMarks op b=false):PE X (.Compare a [op] [b] pos) (tOp r ta tb):=by
 intro pins s σ H Q I h;exact Q9 (binT ha hb I h fun v u s2 x y H2 I2 rx ry q=>ho pins s2 σ H2 x y v u Q I2 rx ry q) hm
noncomputable def tTest(t:TE):TT:=fun σ H Q=>t σ H fun x H'=>∃k,x= .bl k/\Q k H'
theorem zao{op:N9}{r:R2}(ho:OpR X (compareOp op) r)(ha:PE X a ta)(hb:PE X b tb)(hm:behindInMarks op b=false):PT X (.Compare a [op] [b] pos) (tTest (tOp r ta tb)):=by
 intro pins s σ H Q I h;refine Nr (thnE (ha pins s σ H _ I h) fun v s1 x H1 I1 r1 q1=>thnE (hb pins s1 σ H1 _ I1 q1) fun u s2 y H2 I2 r2 q2=>
  thnE (ho pins s2 σ H2 x y v u _ I2 r1 r2 q2) fun c s3 z H3 I3 r3⟨k,e,q3⟩=>?_) hm
 subst e
 cases r3
 exact D1 ⟨H3,I3,q3⟩
noncomputable def tChain(r r':R2)(ta tb tc:TE):TE:=fun σ H Q=>ta σ H fun x H1=>tb σ H1 fun y H2=>r x y H2 fun z H3=>∃k,z= .bl k/\
 (if k=true then tc σ H3 fun w' H4=>r' y w' H4 Q else Q (.bl false) H3)
theorem zf8{op op':N9}{r r':R2}(ho:OpR X (compareOp op) r)(ho':OpR X (compareOp op') r')(ha:PE X a ta)(hb:PE X b tb)(hc:PE X c tc)
  (hm:lastMarks [op,op'] [b,c]=false:=by with_unfolding_all rfl):PE X (.Compare a [op,op'] [b,c] pos) (tChain r r' ta tb tc):=by
 intro pins s σ H Q I h;refine Compare_chain (thnE (ha pins s σ H _ I h) fun v s1 x H1 I1 r1 q1=>chain_link (thnE (hb pins s1 σ H1 _ I1 q1) fun u s2 y H2 I2 r2 q2=>
  thnE (ho pins s2 σ H2 x y v u _ I2 r1 r2 q2) fun d s3 z H3 I3 r3⟨k,e,q3⟩=>?_)) hm
 subst e
 cases r3
 refine D1 ?_
 cases k with
 |false=>exact ite_ff ⟨.bl false,H3,I3,rfl,q3⟩
 |true=>exact ite_tt (chain_last (thnE (hc pins s3 σ H3 _ I3 q3) fun w' s4 z' H4 I4 r4 q4=>ho' pins s4 σ H4 y z' u w' Q I4 r2 r4 q4))
theorem zex{op op':N9}{r r':R2}(ho:OpR X (compareOp op) r)(ho':OpR X (compareOp op') r')(ha:PE X a ta)(hb:PE X b tb)(hc:PE X c tc)
  (hm:lastMarks [op,op'] [b,c]=false:=by with_unfolding_all rfl):PT X (.Compare a [op,op'] [b,c] pos) (tTest (tChain r r' ta tb tc)):=by
 intro pins s σ H Q I h;refine isTrue_chain (thnE (ha pins s σ H _ I h) fun v s1 x H1 I1 r1 q1=>test_link (thnE (hb pins s1 σ H1 _ I1 q1) fun u s2 y H2 I2 r2 q2=>
  thnE (ho pins s2 σ H2 x y v u _ I2 r1 r2 q2) fun d s3 z H3 I3 r3⟨k,e,q3⟩=>?_)) hm
 subst e
 cases r3
 refine D1 ?_
 cases k with
 |false=>
  obtain⟨k',e',q'⟩:=q3
  cases e'
  exact ite_ff ⟨H3,I3,q'⟩
 |true=>
  refine ite_tt (test_last (thnE (hc pins s3 σ H3 _ I3 q3) fun w' s4 z' H4 I4 r4 q4=>thnE (ho' pins s4 σ H4 y z' u w' _ I4 r2 r4 q4) fun d' s5 z2 H5 I5 r5⟨k2,e2,q5⟩=>?_));subst e2
  cases r5
  exact D1 ⟨H5,I5,q5⟩
theorem zei:(sizeLine:Nat)<2 ^ 63:=by rw[O0];decide
theorem op_add_str:OpR X (binaryOp .Add) (fun x y H Q=>∃i j,x= .str i/\y= .str j/\i.length+j.length<=sizeLine/\Q (.str (i++j)) H):=by
 intro pins s σ H x y v u Q I rx ry h;obtain⟨i,j,rfl,rfl,hz,q⟩:=h;obtain⟨t,rfl⟩:=rx;obtain⟨t',rfl⟩:=ry;exact add_str (fun t' tk=>⟨.str (i++j),H,I.tok _,⟨_,rfl⟩,q⟩) hz
theorem zb3{x:V}{us:List A1}(r:Vals [x] us):∃u,us=[u]/\RelV x u:=by
 cases r with
 |cons r1 r2=>cases r2;exact⟨_,rfl,r1⟩
theorem zh3{x y:V}{us:List A1}(r:Vals [x,y] us):∃u w',us=[u,w']/\RelV x u/\RelV y w':=by
 cases r with
 |cons r1 r2=>
  cases r2 with
  |cons r3 r4=>cases r4;exact⟨_,_,rfl,r1,r3⟩
theorem call_min2(hc:X.calm=true):CallR X (.builtin "min") (fun xs H Q=>∃i j,xs=[.int i,.int j]/\Q (.int (if j<i then j else i)) H):=by
 intro pins s σ H xs us Q I r h;obtain⟨i,j,rfl,q⟩:=h;obtain⟨u,w',rfl,⟨t,rfl⟩,⟨t',rfl⟩⟩:=zh3 r;refine min_two_ints (I.ok.hd hc) fun h' tk k=>⟨_,H,I.kept k,?_,q⟩;by_cases hj:j<i
 ·rw[if_pos hj,if_pos hj];exact⟨_,rfl⟩
 ·rw[if_neg hj,if_neg hj];exact⟨_,rfl⟩
end
structure ObjM(h:C9)(x dx C:A7)(mA:Str->Option A1):Prop where
 obj:h.get? x=some (Ei C dx)
 ns:h.Ns1 dx mA
 ne:dx≠x
theorem lookIn_ns{h:C9}{dx:A7}{mA:Str->Option A1}(n:h.Ns1 dx mA):∃od,h.get? dx=some od/\∀name,Ig name od=some (mA name):=by
 obtain⟨o,es,ep,ho,hd,hk,_,hm⟩:=n;refine⟨o,ho,fun name=>?_⟩;have e:=hm name;unfold nsFind findBy at e;rw[<-Array.find?_toList] at e;unfold Ig;rw[hd];dsimp only
 split
 ·rename_i y q;rw[q] at e;exact congrArg some e
 ·rename_i q;rw[q] at e;have a:es.toList.any (·.refKey)=false:=by
   rw[Np];intro y hy;obtain⟨z,t,hkey⟩:=hk y (Array.mem_toList_iff.mp hy);simp[R7,hkey]
  have a':¬es.toList.any (·.refKey)=true:=by rw[a];exact Ah
  rw[if_neg a'];exact congrArg some e
theorem ObjM.look{h:C9}{x dx C:A7}{mA:Str->Option A1}(I:ObjM h x dx C mA):∃od,PySem.W.InstAt h x (Ei C dx) C (some od)/\∀name,Ig name od=some (mA name):=
 let ⟨od,ho,hl⟩:=lookIn_ns I.ns
 ⟨od,⟨I.obj,rfl,rfl,ho⟩,hl⟩
section
variable{prog:Aw}{w:Bq}{A:Bi}{E:A1->A6->Prop}{s:A6}{K:Az}{x dx C f:A7}{mA:Str->Option A1}{name:Str}{v:A1}
theorem get_map{expr:Bool}{Q:A1->A6->Prop}(X:K.In s.heap)(I:ObjM s.heap x dx C mA)(hg:Fz K C name=true)(hh:Gy K C=true)
  (ha:Ct K (.ref C) name=some none) (hv:mA name=some v) (hv':Mx v=true) (h:Q v {s with toks:=s.toks+1}):
  wpAny (model prog w) A (getAttr (.ref x) name expr) Q E s:=by
 obtain⟨od,J,hl⟩:=I.look;exact PySem.W.get_value X J (J0 hg).1 (PySem.W.findObj_own hh ha rfl (by rw[hl,hv])) hv' h
theorem get_meth{pl:Sem Bool}{Q:A1×List A1->A6->Prop}(X:K.In s.heap)(I:ObjM s.heap x dx C mA)(hg:Fz K C name=true)
  (hf:Ct K (.ref C) name=some (some (.ref f))) (ht:Hq K (.ref f)=true) (hv:mA name=none) (h:Q (.ref f,[.ref x]) s):
  wpAny (model prog w) A (getMethod (.ref x) name pl) Q E s:=by
 obtain⟨od,J,hl⟩:=I.look;exact PySem.W.method_fn X J (J0 hg).1 (J0 hg).2 hf (beq_iff_eq.mp ht) (by show(Ig name od).map (·.isSome)=some false;rw[hl,hv];rfl) h
theorem set_map{ns:List Str}{Q:Unit->A6->Prop}(X:K.In s.heap)(I:ObjM s.heap x dx C mA)
  (hs:Ct K (.ref C) "__setattr__"=some (some (.builtin "object.__setattr__"))) (hp:Jk K C=true) (ht:Jy K C name=some none) (hh:Gy K C=true)
  (hw:Ll mA ns) (hsz:ns.length<=sizeLine)
  (h:∀h',ObjM h' x dx C (fun y=>if y=name then some v else mA y)->Fw dx s.heap h'->Q () {s with heap:=h',toks:=s.toks+2}):
  wpAny (model prog w) A (setAttr (.ref x) name v) Q E s:=by
 obtain⟨od,J,hl⟩:=I.look;refine PySem.W.set_plain X J hs (PySem.W.osa_open (s:={s with toks:=s.toks+1}) (r:=none) X J hp ht fun b=>?_);obtain⟨cd,hc,hd'⟩:=PySem.W.any_some hh;have hx:s.heap.get? x=some ⟨.ref C,some dx,.plain,#[]⟩:=I.obj;refine A0 (Ai (A0 (A0 (wpAny_loadPart hx (A0 (Ov (s:={s with toks:=s.toks+1}) (PySem.W.looks_clsIn X hc) ?_))))));rw[hd'];refine Ai (a:=some dx) (A0 (Ai (A0 ?_)));refine wpAny_nsSet1 (s:={s with toks:=s.toks+1}) I.ns fun h' hn2 hs2=>?_;obtain⟨oD,esD,epD,hoD,hdD,hcD⟩:=hn2.count (Pi name v hw);refine A0 (wpAny_lookBehind hoD (by rw[hdD];exact pastItsLine_dict (Bm hcD (by rw[At];omega))) ?_);exact Ai (h _ ⟨(hs2.2 _ (E7 I.ne)).trans I.obj,hn2,I.ne⟩ hs2)
theorem make_map{R:Result->A6->Prop}{vs:List A1}{kw:List (Str×A1)}(X:K.In s.heap)(hm:Jz K C=true)
  (hi:Ct K (.ref C) "__init__"=some (some (.ref f))) (hf:PySem.W.typeIn K (.ref f)=some (.type "function"))
  (h:codeAny (model prog w) (A.under (.builtin "type.__call__" ⟨.ref C::vs,kw⟩)) (.call (.ref f) ⟨.ref (s.heap.objs.size+1)::vs,kw⟩) (PySem.W.InitBack (s.heap.objs.size+1) R)
   {s with heap:=(s.heap.push Ds).push (Ei C s.heap.objs.size)}):
  codeAny (model prog w) A (.call (.ref C) ⟨vs,kw⟩) R s:=by
 obtain⟨hh,g,d,t,os⟩:=s;exact PySem.W.make_core (PySem.W.makes_of X hm) (PySem.W.looks_findIn X hi) (fun self=>PySem.W.bind_fn X self hf) (.inl rfl) h
end
noncomputable def putF(f:Str)(v:V):List (Str×V)->List (Str×V)
 |[]=>[(f,v)]
 | (g,x) :: r=>if g=f then (g,v) :: r else (g,x) :: putF f v r
theorem zdP(f g:Str)(v:V):∀fs:List (Str×V),(putF f v fs).lookup g=if g=f then some v else fs.lookup g
 |[]=>by
  show Fa g [(f,v)]=_;by_cases h:g=f
  ·have hb:(g==f)=true:=beq_iff_eq.mpr h;simp only[Fa,hb,if_pos h]
  ·have hb:(g==f)=false:=beq_eq_false_iff_ne.mpr h;simp only[Fa,hb,if_neg h]
 | (k,x) :: r=>by
  have ih:=zdP f g v r;rw[show putF f v ((k,x)::r)=(if k=f then(k,v)::r else(k,x)::putF f v r) from rfl];by_cases hk:k=f
  ·rw[if_pos hk];by_cases h:g=k
   ·have hb:(g==k)=true:=beq_iff_eq.mpr h;simp only[Fa,hb,if_pos (h.trans hk)]
   ·have hb:(g==k)=false:=beq_eq_false_iff_ne.mpr h;simp only[Fa,hb,if_neg (fun e:g=f=>h (e.trans hk.symm))]
  ·rw[if_neg hk];by_cases h:g=k
   ·have hb:(g==k)=true:=beq_iff_eq.mpr h;simp only[Fa,hb,if_neg (fun e:g=f=>hk (h.symm.trans e))]
   ·have hb:(g==k)=false:=beq_eq_false_iff_ne.mpr h;simp only[Fa,hb];exact ih
theorem zdR(f:Str)(v:V):∀fs:List (Str×V),f∈(putF f v fs).map (·.1)/\∀g,g∈fs.map (·.1)->g∈(putF f v fs).map (·.1)
 |[]=>⟨by simp[putF],fun g h=>by simp at h⟩
 | (k,x) :: r=>by
  obtain⟨i1,i2⟩:=zdR f v r;rw[show putF f v ((k,x)::r)=(if k=f then(k,v)::r else(k,x)::putF f v r) from rfl];by_cases hk:k=f
  ·rw[if_pos hk];subst hk;exact⟨by simp,fun g h=>by simpa using h⟩
  ·rw[if_neg hk];refine⟨?_,fun g h=>?_⟩
   ·rw[An];exact Ab _ i1
   ·rw[An] at h⊢;rcases Bo.mp h with e|e
    ·exact Bo.mpr (.inl e)
    ·exact Ab _ (i2 g e)
theorem zdQ(f:Str)(v:V):∀fs:List (Str×V),(putF f v fs).length<=fs.length+1
 |[]=>by simp[putF]
 | (k,x) :: r=>by
  have ih:=zdQ f v r;rw[show putF f v ((k,x)::r)=(if k=f then(k,v)::r else(k,x)::putF f v r) from rfl];by_cases hk:k=f
  ·rw[if_pos hk,At,At];omega
  ·rw[if_neg hk,At,At];omega
theorem RelO.some_of{v:V}{o:Option A1}(r:RelO (some v) o):∃u,o=some u/\RelV v u:=by
 cases o with
 |none=>exact(show False from r).elim
 |some u=>exact⟨u,rfl,r⟩
theorem RelO.none_of{o:Option A1}(r:RelO none o):o=none:=by
 cases o with
 |none=>rfl
 |some u=>exact(show False from r).elim
theorem handed_of{v:V}{u:A1}(r:RelV v u):Mx u=true:=by
 cases v with
 |non=>cases(show u=Em from r);rfl
 |bl b=>cases(show u=Gs b from r);rfl
 |int i=>obtain⟨t,e⟩:=(show∃t,u=Ho i t from r);cases e;rfl
 |str x=>obtain⟨t,e⟩:=(show∃t,u=Jx x t from r);cases e;rfl
 |byt b=>obtain⟨t,e⟩:=(show∃t,u=Oq b t from r);cases e;rfl
 |flt b=>obtain⟨t,e⟩:=(show∃t,u=M7 b t from r);cases e;rfl
 |ref a=>cases(show u=Bc a from r);rfl
 |ty n=>cases(show u=Eu n from r);rfl
section
variable{P:Aw}{w:Bq}{H H':Hp}{h h':C9}{a C dx:A7}{fs fs':List (Str×V)}
theorem zeH(hok:HOk P w H h)(e:H a=some (.ins C dx fs)):∃mA,ObjM h a dx C mA/\(∀f,RelO (fs.lookup f) (mA f))/\Ll mA (fs.map (·.1))/\fs.length<=1000/\H dx=some (.own a):=by
 obtain⟨d,z,ne,ob,mA,n,r,q⟩:=(show ObjOk P w H h a (.ins C dx fs) from hok a _ e);exact⟨mA,⟨ob,n,ne⟩,r,q,z,d⟩
end
structure Cls(K:Az)(C:A7):Prop where
 pg:Fz K C Qi=true
 hd:Gy K C=true
 po:Jk K C=true
 sa:Ct K (.ref C) "__setattr__"=some (some (.builtin "object.__setattr__"))
theorem Cls.get{K:Az}{C:A7}(c:Cls K C)(f:Str):Fz K C f=true:=c.pg
noncomputable def NoAttr(K:Az)(C:A7)(f:Str):Prop:=Ct K (.ref C) f=some none
theorem NoAttr.taker{K:Az}{C:A7}{f:Str}(n:NoAttr K C f):Jy K C f=some none:=by
 unfold Jy;rw[show Ct K (.ref C) f=some none from n];rfl
structure Meth(K:Az)(C:A7)(m:Str)(f:A7):Prop where
 at_:Ct K (.ref C) m=some (some (.ref f))
 fn:Hq K (.ref f)=true
 kp:Dr K (.ref f)=true
section
variable{X:Cx}{pins:List (A7×Obj)}{σ:St}{H:Hp}{s:A6}{a C dx:A7}{fs:List (Str×V)}{f:Str}{v:V}{A:Bi}{E:A1->A6->Prop}
theorem getattr_ok{b:Bool}{Q:A1->A6->Prop}(I:Inv X pins σ H s)(e:H a=some (.ins C dx fs))(c:Cls X.K C)(n:NoAttr X.K C f)(l:fs.lookup f=some v)
  (h:∀u s',Inv X pins σ H s'->RelV v u->Q u s'):wpAny (model X.prog X.w) A (getAttr (.ref a) f b) Q E s:=by
 obtain⟨mA,O,r,_,_,_⟩:=zeH I.hok e;obtain⟨u,hu,ru⟩:=RelO.some_of (v:=v) (o:=mA f) (by rw[<-l];exact r f);exact get_map I.kIn O (c.get f) c.hd n hu (handed_of ru) (h u _ (I.tok _) ru)
theorem zel{m:Str}{g:A7}{pl:Sem Bool}{Q:A1×List A1->A6->Prop}(I:Inv X pins σ H s)(e:H a=some (.ins C dx fs))(c:Cls X.K C)(k:Meth X.K C m g)(l:fs.lookup m=none)
  (h:Q (.ref g,[.ref a]) s):wpAny (model X.prog X.w) A (getMethod (.ref a) m pl) Q E s:=by
 obtain⟨mA,O,r,_,_,_⟩:=zeH I.hok e;have hn:mA m=none:=RelO.none_of (by rw[<-l];exact r m);exact get_meth I.kIn O (c.get m) k.at_ k.fn hn h
theorem setattr_ok{y:V}{u:A1}{Q:Unit->A6->Prop}(I:Inv X pins σ H s)(e:H a=some (.ins C dx fs))(c:Cls X.K C)(n:NoAttr X.K C f)(hl:fs.length<1000)(ry:RelV y u)
  (h:∀s',Inv X pins σ (upd H a (.ins C dx (putF f y fs))) s'->Q () s'):wpAny (model X.prog X.w) A (setAttr (.ref a) f u) Q E s:=by
 obtain⟨mA,O,r,wi,_,ho⟩:=zeH I.hok e;have hz:(fs.map (·.1)).length<=sizeLine:=by rw[A3,O0];omega
 refine set_map I.kIn O c.sa c.po n.taker c.hd wi hz fun h' O' sb=>h _ ?_;have hd:∃o,h'.get? dx=some o:=let ⟨o,_,_,e',_⟩:=O'.ns;⟨o,e'⟩;refine I.write (x:=a) (e:=dx) (by rw[e];exact Eh) (.inr ho) (fun b q hb z=>(sb.2 b hb).trans z) hd ?_;refine⟨by rw[zag O.ne];exact ho,?_,O.ne,O'.obj,_,O'.ns,fun g=>?_,fun g hg=>?_⟩
 ·have:=zdQ f y fs;omega
 ·show RelO ((putF f y fs).lookup g) (if g=f then some u else mA g);rw[zdP];by_cases q:g=f
  ·rw[if_pos q,if_pos q];exact ry
  ·rw[if_neg q,if_neg q];exact r g
 ·by_cases q:g=f
  ·rw[q];exact(zdR f y fs).1
  ·refine(zdR f y fs).2 g (wi g fun z=>hg ?_);show(if g=f then some u else mA g)=none;rw[if_neg q];exact z
theorem Inv.made(I:Inv X pins σ H s):Inv X pins σ (upd (upd H s.heap.objs.size (.own (s.heap.objs.size+1))) (s.heap.objs.size+1) (.ins C s.heap.objs.size []))
  {s with heap:=(s.heap.push Ds).push (Ei C s.heap.objs.size)}:=by
 have e1:(s.heap.push Ds).get? s.heap.objs.size=some Ds:=Ba s.heap rfl;have e2:((s.heap.push Ds).push (Ei C s.heap.objs.size)).get? (s.heap.objs.size+1)=some (Ei C s.heap.objs.size):=by
  have:=Ba (s.heap.push Ds) (o:=Ei C s.heap.objs.size) rfl;rwa[Fc] at this
 have e3:(s.heap.push Ds).Ns s.heap.objs.size (fun _=>none):=⟨Ds,#[],_,e1,rfl,(fun e he=>absurd he (by simp)),fun _=>rfl⟩;have I1:=I.laid (a:=s.heap.objs.size) (o:=.own (s.heap.objs.size+1)) (h':=s.heap.push Ds) (t':=s.toks) (fun b u q=>Ae _ q) (Ac _) ⟨_,e1⟩;refine I1.laid (a:=s.heap.objs.size+1) (o:=.ins C s.heap.objs.size []) (t':=s.toks) (fun b u q=>Ae _ q) (P7 (Fc _ _)) ?_;have ne:s.heap.objs.size≠s.heap.objs.size+1:=Br (Et _);refine⟨by rw[zag ne,zad],Bz _,ne,e2,fun _=>none,(Heap.Ns1.of_empty e3).at fun o q=>Ae _ q,fun _=>Eh,fun y hy=>absurd rfl hy⟩
theorem attr_of{prog:Aw}{w:Bq}{env:Env}{e:Ce}{f:Str}{pos:Pos}{s:A6}{Q:A1->A6->Prop}(hb:attributeBase e f env (eval e env)=eval e env)
  (h:wpAny (model prog w) A (eval e env) (fun o s₁=>wpAny (model prog w) A (getAttr o f true) Q E s₁) E s):wpAny (model prog w) A (eval (.Attribute e f pos) env) Q E s:=
 Attribute_any_ h (by rw[arm_eval_Attribute,hb])
end
noncomputable def tFld(K:Az)(ta:TE)(f:Str):TE:=fun σ H Q=>ta σ H fun x H1=>∃a C dx fs v,x= .ref a/\H1 a=some (.ins C dx fs)/\Cls K C/\NoAttr K C f/\fs.lookup f=some v/\Q v H1
noncomputable def sFld(K:Az)(ta tv:TE)(f:Str):TS:=fun D σ H=>tv σ H fun y H1=>ta σ H1 fun x H2=>∃a C dx fs,x= .ref a/\H2 a=some (.ins C dx fs)/\Cls K C/\NoAttr K C f/\fs.length<1000/\
 D.nx σ (upd H2 a (.ins C dx (putF f y fs)))
section
variable{X:Cx}{o e value:Ce}{f:Str}{pos pos' tpos:Pos}{ta tv:TE}
theorem zcc(he:PE X e ta)(hb:attributeBase e f X.env (eval e X.env)=eval e X.env):PE X (.Attribute e f pos) (tFld X.K ta f):=by
 intro pins s σ H Q I h;refine attr_of hb (thnE (he pins s σ H _ I h) fun u s1 x H1 I1 rx⟨a,C,dx,fs,v,ex,ea,c,n,l,q⟩=>?_);subst ex;obtain rfl:u=Bc a:=rx;exact getattr_ok I1 ea c n l fun u' s2 I2 ru=>⟨v,H1,I2,ru,q⟩
theorem zgR(ha:PE X o ta)(hv:PE X value tv)(hs:swapsWith value (some (.Attribute o f pos')) pos.line X.env=pure false):PS X (.Assign [.Attribute o f pos'] value pos) (sFld X.K ta tv f):=by
 intro pins s σ H D I h;refine plainObj_wpAny_Assign_Attribute (thnE (hv pins s σ H _ I h) fun u s1 y H1 I1 ry q=>thnE (ha pins s1 σ H1 _ I1 q) fun ov s2 x H2 I2 rx⟨a,C,dx,fs,ex,ea,c,n,l,q2⟩=>?_) hs;subst ex;obtain rfl:ov=Bc a:=rx;exact setattr_ok I2 ea c n l ry fun s3 I3=>⟨σ,_,I3,q2⟩
end
section
variable{X:Cx}{pins:List (A7×Obj)}{σ:St}{H:Hp}{s:A6}{A:Bi}{E:A1->A6->Prop}{Q:A1->A6->Prop}{c:A1}{b:Bool}
inductive TyOf(K:Az)(H:Hp):V->A1->Prop where
 |non:TyOf K H .non (.type "NoneType")
 |bl (x:Bool):TyOf K H (.bl x) (.type "bool")
 |int (i:Int):TyOf K H (.int i) (.type "int")
 |str (x:Str):TyOf K H (.str x) (.type "str")
 |flt (x:UInt64):TyOf K H (.flt x) (.type "float")
 |lst {a:A7} {xs:List V} (e:H a=some (.lst xs)):TyOf K H (.ref a) (.type "list")
 |frz {a:A7} {o:Obj} {xs:List V} (e:H a=some (.frz o (.lst xs))):TyOf K H (.ref a) (.type "list")
 |tup {a:A7} {xs:List V} (e:H a=some (.tup xs)):TyOf K H (.ref a) (.type "tuple")
 |dK {a:A7} {kvs:List (Key×V)} (e:H a=some (.dK kvs)):TyOf K H (.ref a) (.type "dict")
 |dT {a:A7} {kvs:List (List Key×V)} (e:H a=some (.dT kvs)):TyOf K H (.ref a) (.type "dict")
 |ins {a C dx:A7} {fs:List (Str×V)} (e:H a=some (.ins C dx fs)) (cl:Cls K C) (ha:Ct K (.ref C) "__class__"=some (some (.builtin "object.__class__")))
   (hn:PySem.W.specialIn K (.builtin "object.__class__") "__get__"=some (some (.builtin "getset_descriptor.__get__"))) (htk:PySem.W.takesIn K (.builtin "object.__class__")=some true)
   (hm:PySem.W.mroIn K C (.type "object")=some true):TyOf K H (.ref a) (.ref C)
theorem isinst_ok{x:V}{u t:A1}(I:Inv X pins σ H s)(rx:RelV x u)(ty:TyOf X.K H x t)(e:Ka X.K t c=some b)(h:∀tk,Q (.bool b) {s with toks:=tk}):
  wpAny (model X.prog X.w) A (call (.builtin "isinstance") [u,c]) Q E s:=by
 cases ty with
 |non=>cases(show u=Em from rx);exact Di PySem.W.kitx_none I.kIn Eh e (fun z=>nomatch z) h
 |bl y=>cases(show u=Gs y from rx);exact Di PySem.W.kitx_bool I.kIn Eh e (fun z=>nomatch z) h
 |int i=>obtain⟨t,q⟩:=(show∃t,u=Ho i t from rx);cases q;exact Di PySem.W.kitx_int I.kIn Eh e (fun z=>nomatch z) h
 |str y=>obtain⟨t,q⟩:=(show∃t,u=Jx y t from rx);cases q;exact Di PySem.W.kitx_str I.kIn Eh e (fun z=>nomatch z) h
 |flt y=>obtain⟨t,q⟩:=(show∃t,u=M7 y t from rx);cases q;exact Di PySem.W.kitx_float I.kIn Eh e (fun z=>nomatch z) h
 |@lst a xs ea=>
  cases(show u=Bc a from rx)
  obtain⟨_,_,n,_,h1⟩:=(show ObjOk X.prog X.w H s.heap a (.lst xs) from I.hok a _ ea);exact Di Mj I.kIn ⟨_,h1,rfl⟩ e (fun z=>nomatch z) h
 |@frz a ob xs ea=>
  cases(show u=Bc a from rx)
  obtain⟨_,_,_,n,_,h1⟩:=(show ObjOk X.prog X.w H s.heap a (.frz ob (.lst xs)) from I.hok a _ ea);exact Di Mj I.kIn ⟨_,h1,rfl⟩ e (fun z=>nomatch z) h
 |@tup a xs ea=>
  cases(show u=Bc a from rx)
  obtain⟨_,_,_,p⟩:=(show ObjOk X.prog X.w H s.heap a (.tup xs) from I.hok a _ ea);obtain⟨o,h1,h2,_⟩:=p;exact Di PySem.W.kitx_tuple I.kIn ⟨o,h1,h2⟩ e (fun z=>nomatch z) h
 |@dK a kvs ea=>
  cases(show u=Bc a from rx)
  obtain⟨_,_,vs,_,p⟩:=(show ObjOk X.prog X.w H s.heap a (.dK kvs) from I.hok a _ ea);obtain⟨o,es,ep,h1,h2,_⟩:=p;exact Di Ml I.kIn ⟨o,h1,h2.1⟩ e (fun z=>nomatch z) h
 |@dT a kvs ea=>
  cases(show u=Bc a from rx)
  obtain⟨_,_,xs,_,o,es,ep,h1,h2,_⟩:=(show ObjOk X.prog X.w H s.heap a (.dT kvs) from I.hok a _ ea);exact Di Ml I.kIn ⟨o,h1,h2.1⟩ e (fun z=>nomatch z) h
 |@ins a C dx fs ea cl ha hn htk hm=>
  cases(show u=Bc a from rx)
  obtain⟨mA,O,_⟩:=zeH I.hok ea;obtain⟨od,J,_⟩:=O.look;exact Di (PySem.W.kitx_own (cl.get _) cl.hd ha hn htk hm) I.kIn J e (fun z=>nomatch z) h
end
structure Room(k:Nat)(A:Bi):Prop where
 hd:A.handled=none
 dp:A.depth+3*k+5<recursionLimit
 un:A.units+16*k+200<cLine
theorem Room.mono{j k:Nat}{A:Bi}(r:Room k A)(h:j<=k):Room j A:=⟨r.hd,by have:=r.dp;omega,by have:=r.un;omega⟩
theorem Room.deeper{k:Nat}{A:Bi}(r:Room (k+1) A)(env:Env):Room k (A.deeper env):=
 ⟨r.hd,by have:=r.dp;show A.depth+1+3*k+5<_;omega,by have:=r.un;show A.units+3+16*k+200<_;omega⟩
theorem make_depth{A:Bi}{C:A7}{us:List A1}{kw:List (Str×A1)}:(A.under (.builtin "type.__call__" ⟨.ref C::us,kw⟩)).depth=A.depth+1:=by
 first|rfl|simp[Lh,Code.weight,Code.isCreation,Code.isGuard,Code.isCaller,P9,M1,guardIds]
theorem make_units{A:Bi}{C:A7}{us:List A1}{kw:List (Str×A1)}:(A.under (.builtin "type.__call__" ⟨.ref C::us,kw⟩)).units=A.units+1:=by
 first|rfl|simp[Lh,Code.cUnits,P9,M1]
theorem Room.make{k:Nat}{A:Bi}(r:Room (k+1) A)(C:A7)(us:List A1)(kw:List (Str×A1)):Room k (A.under (.builtin "type.__call__" ⟨.ref C::us,kw⟩)):=
 ⟨r.hd,by have:=r.dp;rw[make_depth];omega,by have:=r.un;rw[make_units];omega⟩
theorem Room.depth{k:Nat}{A:Bi}(r:Room k A):A.depth<recursionLimit:=by have:=r.dp;omega
theorem Room.units{k:Nat}{A:Bi}(r:Room k A):A.units+64<cLine:=by have:=r.un;omega
noncomputable def tNil:TA:=fun _ H Q=>Q [] H
noncomputable def tCons(ta:TE)(tr:TA):TA:=fun σ H Q=>ta σ H fun x H1=>tr σ H1 fun xs H2=>Q (x::xs) H2
section
variable{X:Cx}{e:Ce}{es:List Ce}{te:TE}{t:TA}{pos:Pos}
theorem zae:PA X [] tNil:=fun _ _ _ _ H Q I h=>Calls.spliced_nil ⟨[],H,I,.nil,h⟩
theorem zaa(ha:PE X e te)(hr:PA X es t)(hs:starEach (e::es) X.env=(false,eval e X.env)::starEach es X.env:=by rfl):PA X (e::es) (tCons te t):=by
 intro pos pins s σ H Q I h;rw[hs];show wpAny _ _ (spliced ((false,eval e X.env)::backTo pos (starEach es X.env))) _ _ s;refine Calls.spliced_cons (thnE (ha pins s σ H _ I h) fun u s1 x H1 I1 r1 q1=>?_);exact thnE (hr pos pins s1 σ H1 _ I1 q1) fun us s2 xs H2 I2 r2 q2=>⟨x::xs,H2,I2,.cons r1 r2,q2⟩
noncomputable def tTup(t:TA):TE:=fun σ H Q=>t σ H fun xs H1=>xs.length<=sizeLine/\∀p,H1 p=none->Q (.ref p) (upd H1 p (.tup xs))
noncomputable def tLst(t:TA):TE:=fun σ H Q=>t σ H fun xs H1=>xs.length<=sizeLine/\∀p,H1 p=none->Q (.ref p) (upd H1 p (.lst xs))
theorem zba{x1}(h:PA X es t):PE X (.Tuple es x1 pos) (tTup t):=by
 intro pins s σ H Q I hq;refine wpAny_Tuple_spliced (thnE (h pos pins s σ H _ I hq) fun us s1 xs H1 I1 r⟨z,q⟩=>⟨by rw[<-r.length];exact z,?_⟩);have hf:H1 s1.heap.objs.size=none:=I1.hok.fresh (Ac _);refine⟨.ref s1.heap.objs.size,upd H1 s1.heap.objs.size (.tup xs),I1.laid (t':=s1.toks) (fun b u e=>Ae _ e) (Ac _) ?_,rfl,q _ hf⟩;exact⟨z,us,r,⟨_,Ba _ rfl,rfl,_,rfl⟩⟩
theorem zaQ(h:PA X es t):PE X (.List es pos) (tLst t):=by
 intro pins s σ H Q I hq;refine wpAny_List_spliced (thnE (h pos pins s σ H _ I hq) fun us s1 xs H1 I1 r⟨z,q⟩=>⟨by rw[<-r.length];exact z,?_⟩);have hf:H1 s1.heap.objs.size=none:=I1.hok.fresh (Ac _);refine⟨.ref s1.heap.objs.size,upd H1 s1.heap.objs.size (.lst xs),I1.laid (t':=s1.toks) (fun b u e=>Ae _ e) (Ac _) ?_,rfl,q _ hf⟩;exact⟨z,us,0,r,Ba _ rfl⟩
end
noncomputable abbrev Sp:=List V->Hp->VK->XK->Prop
noncomputable abbrev CXT:=List Env->Hp->A6->XK->A1->A6->Prop
structure Env0(P:Aw)(w:Bq)(K:Az)(mg:Str->Option A1)(base:C9)(A:Bi)(outer:List Env)(s:A6)(H:Hp):Prop where
 frames:A.frames=some outer
 mod:Mod K mg base
 bs:∀b o,base.get? b=some o->s.heap.get? b=some o/\H b=none
 bsz:base.objs.size<=s.heap.objs.size
 funs:s.heap.FunFrames base outer
 frf:∀b∈frs outer,H b=none
 hok:HOk P w H s.heap
 bare:Hj s.gens
noncomputable def CE(outer:List Env)(P:Aw)(w:Bq)(H:Hp)(s:A6)(Q:VK)(u:A1)(s':A6):Prop:=
 ∃v H',s'.os=s.os/\Hj s'.gens/\Un (frs outer) [] H H' s.heap s'.heap/\HOk P w H' s'.heap/\RelV v u/\Q v H'
noncomputable def CR(CX:CXT)(outer:List Env)(P:Aw)(w:Bq)(H:Hp)(s:A6)(Q:VK)(E:XK)(r:Result)(s':A6):Prop:=
 match r with
 | .ok (.ret u)=>CE outer P w H s Q u s'
 | .ok _=>False
 | .error e=>CX outer H s E e s'
structure FnOk(P:Aw)(w:Bq)(K:Az)(mg:Str->Option A1)(base:C9)(CX:CXT)(k:Nat)(f:A7)(fd:Ep)(ps:List Str)(sp:Sp):Prop where
 len:∀vs H Q E,sp vs H Q E->vs.length=ps.length
 run:∀(A:Bi)(outer:List Env)(s:A6)(H:Hp)(args:Args)(us:List A1)(vs:List V)(Q:VK)(E:XK),Room k A->Env0 P w K mg base A outer s H->Kq s fd args (ps.zip us)->Vals vs us->sp vs H Q E->
  codeAny (model P w) A (.call (.ref f) args) (CR CX outer P w H s Q E) s
theorem Env0.make{P:Aw}{w:Bq}{K:Az}{mg:Str->Option A1}{base:C9}{A:Bi}{outer:List Env}{s:A6}{H:Hp}(e:Env0 P w K mg base A outer s H)(C:A7)(us:List A1)(kw:List (Str×A1)):
  Env0 P w K mg base (A.under (.builtin "type.__call__" ⟨.ref C::us,kw⟩)) outer s H:=⟨by first|exact e.frames|(simpa[Lh,Code.envs,M1,pushEnvs] using e.frames),e.mod,e.bs,e.bsz,e.funs,e.frf,e.hok,e.bare⟩
section
variable{X:Cx}{pins:List (A7×Obj)}{σ:St}{H:Hp}{s s':A6}
theorem Inv.env0(I:Inv X pins σ H s):Env0 X.prog X.w X.K X.mg X.base X.A X.stack s H:=
 ⟨I.ok.frames,I.ok.mod,I.bs,Bm I.ok.bsz I.sz,I.stack,I.stkFree,I.hok,I.bare⟩
theorem Inv.after{Q:VK}{u:A1}(I:Inv X pins σ H s)(h:CE X.stack X.prog X.w H s Q u s'):EP X pins σ Q u s':=by
 obtain⟨v,H',os,bare,un,hok,r,q⟩:=h;obtain⟨hh,g,d,t,os'⟩:=s';obtain rfl:os'=s.os:=os;exact⟨v,H',I.call (h':=hh) (g':=g) (d':=d) (t':=t) (ch:=[]) un hok bare (fun b z=>absurd z (by simp)),r,q⟩
end
noncomputable def tCall(sp:Sp)(dvs:List V)(E:XK)(t:TA):TE:=fun σ H Q=>t σ H fun vs H1=>sp (vs++dvs) H1 Q E
noncomputable def tMeth(C:A7)(m:Str)(sp:Sp)(dvs:List V)(E:XK)(ta:TE)(t:TA):TE:=fun σ H Q=>ta σ H fun x H1=>∃a dx fs,x= .ref a/\H1 a=some (.ins C dx fs)/\fs.lookup m=none/\
 t σ H1 fun vs H2=>sp (x::(vs++dvs)) H2 Q E
noncomputable def tMake(C:A7)(sp:Sp)(dvs:List V)(E:XK)(t:TA):TE:=fun σ H Q=>t σ H fun vs H1=>∀x dx,H1 x=none->H1 dx=none->dx≠x->
 sp (.ref x::(vs++dvs)) (upd (upd H1 dx (.own x)) x (.ins C dx [])) (fun v H2=>v= .non/\Q (.ref x) H2) E
noncomputable def Binds(K:Az)(fd:Ep)(ps:List Str)(ds:List A1):Prop:=
 ∀(s:A6)(us:List A1),K.In s.heap->(us++ds).length=ps.length->Kq s fd ⟨us,[]⟩ (ps.zip (us++ds))
theorem Binds.all{K:Az}{fd:Ep}{ps:List Str}(h:∀us:List A1,us.length=ps.length->bindArgs fd ⟨us,[]⟩=pure (ps.zip us)):Binds K fd ps []:=fun s us _ hl=>by
 rw[Ci] at hl⊢;exact .of_eq (h us hl)
noncomputable def Passes(CX:CXT)(X:Cx)(E:XK):Prop:=∀(pins:List (A7×Obj))(σ:St)(H:Hp)(s:A6)(e:A1)(s':A6),Inv X pins σ H s->CX X.stack H s E e s'->X.xe e s'
section
variable{X:Cx}{CX:CXT}{k:Nat}{f C:A7}{fd:Ep}{ps:List Str}{sp:Sp}{dvs:List V}{ds:List A1}{E:XK}{x m:Str}{p pos apos:Pos}{e o:Ce}{es:List Ce}{ta:TE}{t:TA}
theorem zgN{pins:List (A7×Obj)}{σ:St}{H:Hp}{s:A6}{Q:VK}{us:List A1}{vs:List V}(F:FnOk X.prog X.w X.K X.mg X.base CX k f fd ps sp)(hr:Room k X.A)(hb:Binds X.K fd ps ds)(hd:Vals dvs ds)(hx:Passes CX X E)
  (I:Inv X pins σ H s) (r:Vals vs us) (h:sp (vs++dvs) H Q E):wpAny (model X.prog X.w) X.A (call (.ref f) us) (EP X pins σ Q) X.xe s:=by
 have r2:Vals (vs++dvs) (us++ds):=r.append hd;have hl:(us++ds).length=ps.length:=by rw[<-r2.length];exact F.len _ _ _ _ h
 refine wpAny_call (Kk (F.run X.A X.stack s H ⟨us,[]⟩ (us++ds) (vs++dvs) Q E hr I.env0 (hb s us I.kIn hl) r2 h) fun r s' hq=>?_)
 cases r with
 |error e=>exact hx pins σ H s e s' I hq
 |ok fl=>
  cases fl with
  |ret u=>exact I.after hq
  |next=>exact Eg hq
  |brk=>exact Eg hq
  |cont=>exact Eg hq
theorem zgX(F:FnOk X.prog X.w X.K X.mg X.base CX k f fd ps sp)(hr:Room k X.A)(hg:Gl X x)(hm:X.mg x=some (.ref f))(hk:Dr X.K (.ref f)=true)(hb:Binds X.K fd ps ds)(hd:Vals dvs ds)(hx:Passes CX X E)
  (ha:PA X (e::es) t) (hdb:(x==("__debug__":Str))=false:=by decide) (he:starEach (e::es) X.env=(false,eval e X.env)::starEach es X.env:=by rfl) (hpl:(backTo pos (starEach es X.env)).any (·.1)=false:=by rfl):
  PE X (.Call (.Name x p) (e::es) [] pos) (tCall sp dvs E t):=by
 intro pins s σ H Q I h;refine Hl (zeF I hg hm ?_ hdb);refine M8 (h₀:=X.base) I.ok.mod.kin hk (thnE (ha pos pins s σ H _ I h) fun us s1 vs H1 I1 r q=>⟨I1.kIn,?_⟩) he hpl;exact zgN F hr hb hd hx I1 r q
theorem pe_meth{pl:Sem Bool}(he:PE X o ta)(c:Cls X.K C)(hm:Meth X.K C m f)(F:FnOk X.prog X.w X.K X.mg X.base CX k f fd ps sp)(hr:Room k X.A)(hb:Binds X.K fd ps ds)(hd:Vals dvs ds)(hx:Passes CX X E)(ha:PA X (e::es) t)
  (hst:starEach (e::es) X.env=(false,eval e X.env)::starEach es X.env:=by rfl) (hpl:(backTo pos (starEach es X.env)).any (·.1)=false:=by rfl)
  (ht:eval (.Call (.Attribute o m apos) (e::es) [] pos) X.env=(do
   let ov<-eval o X.env
   standAt apos.atName
   let (f,first)<-holding [ov] (getMethod ov m pl)
   callWith pos f first (backTo pos (starEach (e::es) X.env)) (backToKw pos (keywordEach [] X.env))):=by rfl):
  PE X (.Call (.Attribute o m apos) (e::es) [] pos) (tMeth C m sp dvs E ta t):=by
 intro pins s σ H Q I h;refine Lb (pl:=pl) (thnE (he pins s σ H _ I h) fun u s1 x H1 I1 rx⟨a,dx,fs,ex,ea,l,q⟩=>?_) ht;subst ex;obtain rfl:u=Bc a:=rx;refine zel I1 ea c hm l ?_;refine M8 (first:=[.ref a]) (h₀:=X.base) I.ok.mod.kin hm.kp (thnE (ha pos pins s1 σ H1 _ I1 q) fun us s2 vs H2 I2 r q2=>⟨I2.kIn,?_⟩) hst hpl;exact zgN (us:=.ref a::us) (vs:=.ref a::vs) F hr hb hd hx I2 (.cons rfl r) q2
theorem pe_meth0{pl:Sem Bool}(he:PE X o ta)(c:Cls X.K C)(hm:Meth X.K C m f)(F:FnOk X.prog X.w X.K X.mg X.base CX k f fd ps sp)(hr:Room k X.A)(hb:Binds X.K fd ps ds)(hd:Vals dvs ds)(hx:Passes CX X E)
  (ht:eval (.Call (.Attribute o m apos) [] [] pos) X.env=(do
   let ov<-eval o X.env
   standAt apos.atName
   let (f,first)<-holding [ov] (getMethod ov m pl)
   callWith pos f first (backTo pos (starEach [] X.env)) (backToKw pos (keywordEach [] X.env))):=by rfl):
  PE X (.Call (.Attribute o m apos) [] [] pos) (tMeth C m sp dvs E ta tNil):=by
 intro pins s σ H Q I h;refine Lb (pl:=pl) (thnE (he pins s σ H _ I h) fun u s1 x H1 I1 rx⟨a,dx,fs,ex,ea,l,q⟩=>?_) ht;subst ex;obtain rfl:u=Bc a:=rx;refine zel I1 ea c hm l ?_;exact Lr (first:=[.ref a]) I1.kIn hm.kp (zgN (us:=[.ref a]) (vs:=[.ref a]) F hr hb hd hx I1 (.cons rfl .nil) q)
structure Mk(K:Az)(C f:A7):Prop where
 makes:Jz K C=true
 init:Ct K (.ref C) "__init__"=some (some (.ref f))
 fn:Hq K (.ref f)=true
 kp:Dr K (.ref C)=true
theorem run_make{pins:List (A7×Obj)}{σ:St}{H:Hp}{s:A6}{Q:VK}{us:List A1}{vs:List V}(M:Mk X.K C f)(F:FnOk X.prog X.w X.K X.mg X.base CX k f fd ps sp)(hr:Room (k+1) X.A)(hb:Binds X.K fd ps ds)(hd:Vals dvs ds)
  (hx:Passes CX X E) (I:Inv X pins σ H s) (r:Vals vs us)
  (h:∀x dx,H x=none->H dx=none->dx≠x->sp (.ref x::(vs++dvs)) (upd (upd H dx (.own x)) x (.ins C dx [])) (fun v H2=>v= .non/\Q (.ref x) H2) E):
  wpAny (model X.prog X.w) X.A (call (.ref C) us) (EP X pins σ Q) X.xe s:=by
 have hq:=h (s.heap.objs.size+1) s.heap.objs.size (I.hok.fresh (N0 _)) (I.hok.fresh (Ac _)) (Br (Et _));have I2:=Inv.made (C:=C) I;have r2:Vals (V.ref (s.heap.objs.size+1)::(vs++dvs)) (Bc (s.heap.objs.size+1)::(us++ds)):=.cons rfl (r.append hd);have hl:(Bc (s.heap.objs.size+1)::us++ds).length=ps.length:=by
  have e:=r2.length;rw[F.len _ _ _ _ hq] at e;exact e.symm
 refine wpAny_call (make_map (f:=f) I.kIn M.makes M.init (beq_iff_eq.mp M.fn) (Kk (F.run _ X.stack _ _ ⟨Bc (s.heap.objs.size+1)::us,[]⟩ (Bc (s.heap.objs.size+1)::(us++ds)) _ _ E (hr.make C us [])
  (I2.env0.make C us []) (hb _ (Bc (s.heap.objs.size+1)::us) I2.kIn hl) r2 hq) fun r s' hq'=>?_))
 cases r with
 |error e=>exact hx pins σ _ _ e s' I2 hq'
 |ok fl=>
  cases fl with
  |ret u=>
   obtain⟨v,H',I3,rv,ev,q3⟩:=I2.after hq';subst ev;exact⟨rv,⟨V.ref (s.heap.objs.size+1),H',I3,rfl,q3⟩⟩
  |next=>exact Eg hq'
  |brk=>exact Eg hq'
  |cont=>exact Eg hq'
theorem pe_make0(M:Mk X.K C f)(F:FnOk X.prog X.w X.K X.mg X.base CX k f fd ps sp)(hr:Room (k+1) X.A)(hg:Gl X x)(hm:X.mg x=some (.ref C))(hb:Binds X.K fd ps ds)(hd:Vals dvs ds)(hx:Passes CX X E)
  (hdb:(x==("__debug__":Str))=false:=by decide):PE X (.Call (.Name x p) [] [] pos) (tMake C sp dvs E tNil):=by
 intro pins s σ H Q I h;refine Hl (zeF I hg hm ?_ hdb);exact Lr I.kIn M.kp (run_make (us:=[]) M F hr hb hd hx I .nil h)
end
section
variable{X:Cx}{CX:CXT}{k:Nat}{f C:A7}{fd:Ep}{ps ks:List Str}{sp:Sp}{E:XK}{x m:Str}{p pos apos kpos:Pos}{e o:Ce}{es:List Ce}{kws:List R5}{te ta:TE}{t tk:TA}{nm:Option Str}
variable{g:List A1->List A1->List A1}{gV:List V->List V->List V}
end
structure FnScope(N P:List Str)(sc:Fn):Prop where
 kind:sc.kind= .function
 co:sc.isCoroutine=false
 gen:sc.isGenerator=false
 nd:N.Nodup
 pre:N.take P.length=P
 par:∀x∈P,sc.names.lookup x=some .local\/sc.names.lookup x=some .cell
 nofree:∀y∈sc.names,y.2≠.free
theorem zfn{kindOf:Str->Option J5}{x:Str}:∀{binds:List (Str×A1)}{m:Str->Option A1},(∀v,(x,v)∉binds)->bindL kindOf binds m x=m x
 |[],_,_=>rfl
 | (n,v) :: r,m,h=>by
  unfold bindL;rw[zfn fun w hw=>h w (Ab _ hw)]
  split
  ·have:x≠n:=by rintro rfl;exact h v Aj
   simp[this]
  ·rfl
theorem zfp{kindOf:Str->Option J5}{x:Str}:∀{binds:List (Str×A1)}{m:Str->Option A1},(∀v,(x,v)∉binds)->bindC kindOf binds m x=m x
 |[],_,_=>rfl
 | (n,v) :: r,m,h=>by
  unfold bindC;rw[zfp fun w hw=>h w (Ab _ hw)]
  split
  ·rfl
  ·have:x≠n:=by rintro rfl;exact h v Aj
   simp[this]
theorem zfo{kindOf:Str->Option J5}{x:Str}{v:A1}:∀{P:List Str}{vs:List A1}{i:Nat}{m:Str->Option A1},P.Nodup->P[i]?=some x->vs[i]?=some v->kindOf x=some .local->
  bindL kindOf (P.zip vs) m x=some v
 |[],_,_,_,_,h,_,_=>by simp at h
 |_::_,[],_,_,_,_,h,_=>by simp at h
 |p::P,w::vs,0,m,nd,h1,h2,hk=>by
  simp at h1 h2;subst h1;subst h2;show bindL kindOf ((p,w)::P.zip vs) m p=_;unfold bindL;rw[zfn fun v hv=>(Dw.mp nd).1 (Kg hv).1,if_pos hk];simp
 |p::P,w::vs,i+1,m,nd,h1,h2,hk=>by
  show bindL kindOf ((p,w)::P.zip vs) m x=_;unfold bindL;exact zfo (i:=i) (Dw.mp nd).2 (by simpa using h1) (by simpa using h2) hk
theorem zfq{kindOf:Str->Option J5}{x:Str}{v:A1}:∀{P:List Str}{vs:List A1}{i:Nat}{m:Str->Option A1},P.Nodup->P[i]?=some x->vs[i]?=some v->kindOf x≠some .local->
  bindC kindOf (P.zip vs) m x=some v
 |[],_,_,_,_,h,_,_=>by simp at h
 |_::_,[],_,_,_,_,h,_=>by simp at h
 |p::P,w::vs,0,m,nd,h1,h2,hk=>by
  simp at h1 h2;subst h1;subst h2;show bindC kindOf ((p,w)::P.zip vs) m p=_;unfold bindC;rw[zfp fun v hv=>(Dw.mp nd).1 (Kg hv).1,if_neg hk];simp
 |p::P,w::vs,i+1,m,nd,h1,h2,hk=>by
  show bindC kindOf ((p,w)::P.zip vs) m x=_;unfold bindC;exact zfq (i:=i) (Dw.mp nd).2 (by simpa using h1) (by simpa using h2) hk
noncomputable def start(N:List Str)(vs:List V):St:=vs.map some++C5 (N.length-vs.length) none
noncomputable def cxOf(CX:CXT)(P:Aw)(w:Bq)(K:Az)(mg:Str->Option A1)(base:C9)(N:List Str)(qual:Str)(scope:Fn)(f:A7)(cd:A1)(A:Bi)(outer:List Env)(s:A6)(H:Hp)(E:XK):Cx where
 prog:=P
 w:=w
 K:=K
 mg:=mg
 base:=base
 A:=A.deeper (envOfC qual scope s.heap.objs.size f cd)
 N:=N
 s₀:=s
 H₀:=H
 env:=envOfC qual scope s.heap.objs.size f cd
 outer:=outer
 stack:=envOfC qual scope s.heap.objs.size f cd::outer
 ex:=[]
 calm:=true
 fn:=fun _=>true
 pn:=[]
 xe:=fun e s'=>wpAny (model P w) (A.deeper (envOfC qual scope s.heap.objs.size f cd)) (leaving (envOfC qual scope s.heap.objs.size f cd) e) (fun _ s''=>CX outer H s E e s'') (fun e' s''=>CX outer H s E e' s'') s'
theorem zgm{sc:Fn}{n:Nat}{x:Str}(h:sc.names.lookup x=some .cell):∃c,(cellsFrom n sc.names []).lookup x=some c:=by
 have q:=Kz sc.names n [] (.inl h);exact E2.mp q
theorem inv_start{CX:CXT}{P:Aw}{w:Bq}{K:Az}{mg:Str->Option A1}{base:C9}{N ps:List Str}{qual:Str}{scope:Fn}{f:A7}{cd:A1}{A:Bi}{outer:List Env}{s s1:A6}{H:Hp}{E:XK}{us:List A1}{vs:List V}
  (S:FnScope N ps scope) (hd:A.handled=none) (e0:Env0 P w K mg base A outer s H) (hl:vs.length=ps.length) (r:Vals vs us)
  (x:InCallC s s.heap.objs.size (bindL (envOfC qual scope s.heap.objs.size f cd).kindOf (ps.zip us) fun _=>none) (cellsFrom (s.heap.objs.size+1) scope.names []) (bindC (envOfC qual scope s.heap.objs.size f cd).kindOf (ps.zip us) fun _=>none) s1):
  Inv (cxOf CX P w K mg base N qual scope f cd A outer s H E) [] (start N vs) H s1:=by
 have hpl:ps.length<=N.length:=by have:=congrArg Fb S.pre;rw[Cg] at this;omega
 obtain⟨h1,tk,rfl,hk⟩:=x.done;have noA:∀b:A7,b∉(cxOf CX P w K mg base N qual scope f cd A outer s H E).ex:=fun b z=>absurd (show b∈([]:List A7) from z) (by simp);refine⟨⟨e0.mod,S.kind,rfl,rfl,Ac _,fun y z c h1 h2=>?_,fun y hy=>?_,fun y c _ h=>?_,fun _=>hd,Around.frames_deeper e0.frames,.inr ⟨rfl,rfl⟩,fun b z=>absurd z (noA b),e0.bs,e0.bsz,fun b _ _=>noA b,fun b z=>absurd z (noA b),e0.funs,e0.frf⟩,
  rfl,e0.bare,Un.kept hk,⟨_,x.toInCall.ns,fun i y v h1 h2 h3=>?_⟩,fun y c h=>⟨_,x.cell y c h⟩,e0.hok.fresh (Ac _),fun y c h=>?_,fun p hp=>absurd (show p∈([]:List (A7×Obj)) from hp) (by simp),e0.hok.kept hk,?_⟩
 ·exact name_of_addr x.apart (Ff h1) (Ff h2)
 ·have hy:scope.names.lookup y=some .cell\/scope.names.lookup y=some .free:=hy;rcases hy with hy|hy
  ·exact zgm hy
  ·exact absurd rfl (S.nofree _ (Ff hy))
 ·exact Ex (x.above y c (Ff h))
 ·have hi:i<vs.length:=by
   unfold start at h2;by_cases hi:i<vs.length
   ·exact hi
   ·rw[Cb (by simpa using hi)] at h2;rw[Ln] at h2
    split at h2<;>cases h2
  have ha:vs[i]?=some v:=by
   unfold start at h2;rw[Co (by simpa using hi),Ad] at h2
   cases e:vs[i]? with
   |none=>rw[e] at h2;cases h2
   |some a=>rw[e] at h2;cases h2;rfl
  obtain⟨u,hu,rv⟩:=r.get ha;have hp:ps[i]?=some y:=by
   rw[<-S.pre,Lf (by omega)];exact h1
  have ndP:ps.Nodup:=by rw[<-S.pre];exact S.nd.sublist (Fo _ _)
  refine⟨u,rv,?_⟩;rcases S.par y (Bd hp) with k|k
  ·exact .inl ⟨k,zfo ndP hp hu k⟩
  ·obtain⟨c,e⟩:=zgm (n:=s.heap.objs.size+1) k;refine .inr ⟨.inl k,c,e,?_⟩;have q:=x.cell y c e;rw[zfq ndP hp hu (by show scope.names.lookup y≠_;rw[k];decide)] at q;exact q
 ·exact e0.hok.fresh (Ex (x.above y c (Ff h)))
 ·unfold start;show _=N.length;rw[Af,A3,List.length_replicate];omega
theorem zh8{CX:CXT}{P:Aw}{w:Bq}{K:Az}{mg:Str->Option A1}{base:C9}{k:Nat}{f:A7}{name qual:Str}{params:Arguments}{body:List Cf}{scope:Fn}{dV kV doc pm cdv ct oc:A1}{an od:Option A7}
  {osl:Array (Option A1)} {N ps:List Str} {sp:Sp} (lk:K.lookup f=some ⟨oc,od,.func (D6 name qual params body scope dV kV doc pm an cdv ct),osl⟩) (hcd:Fk K cdv qual=true) (S:FnScope N ps scope)
  (len:∀vs H Q E,sp vs H Q E->vs.length=ps.length)
  (hbody:∀(A:Bi)(outer:List Env)(s:A6)(H:Hp)(vs:List V)(Q:VK)(E:XK),Room k (A.deeper (envOfC qual scope s.heap.objs.size f cdv))->sp vs H Q E->
   ∃t,PSs (cxOf CX P w K mg base N qual scope f cdv A outer s H E) body t/\t {nx:=fun _ H'=>Q .non H',rt:=Q} (start N vs) H):
  FnOk P w K mg base CX (k+1) f (D6 name qual params body scope dV kV doc pm an cdv ct) ps sp:=by
 refine⟨len,fun A outer s H args us vs Q E hr e0 hb r hsp=>?_⟩;have hl:=len _ _ _ _ hsp;have KX:K.In s.heap:=e0.mod.kin.keeps fun b o e=>(e0.bs b o e).1;have lim:s.heap.NoLimit:=e0.mod.nolimit.keeps fun b o e=>(e0.bs b o e).1;have hkind:∀y∈ps.zip us,scope.names.lookup y.1=some .local\/(scope.names.lookup y.1=some .cell/\((cellsFrom (s.heap.objs.size+1) scope.names []).lookup y.1).isSome=true):=fun⟨n,v⟩hy=>by
  rcases S.par n (Kg hy).1 with q|q
  ·exact .inl q
  ·exact .inr ⟨q,Kz _ _ _ (.inl q)⟩
 refine codeAny_call_function hr.depth (KX _ _ lk) rfl S.co S.gen rfl (PySem.W.codeRec_of KX hcd) (hb _ _ _ _ ?_);refine wpAny_newFunctionEnv_cells S.kind hkind fun env he s1 x=>?_;subst he;refine⟨lim.keeps x.toInCall.keep,codeAny_func ?_⟩;obtain⟨t,ht,hq⟩:=hbody A outer s H vs Q E (hr.deeper _) hsp;have I:Inv (cxOf CX P w K mg base N qual scope f cdv A outer s H E) [] (start N vs) H s1:=inv_start S hr.hd e0 hl r x;refine Dq (ht [] s1 (start N vs) H _ I hq) (fun fl s' hs=>?_) fun e s' hs=>hs;have fin:∀{σ':St}{H':Hp}{v:V}{u:A1},Inv (cxOf CX P w K mg base N qual scope f cdv A outer s H E) [] σ' H' s'->RelV v u->Q v H'->CE outer P w H s Q u s':=
  fun{σ' H' v u}J rv q=>⟨v,H',J.os,J.bare,J.base,J.hok,rv,q⟩
 cases fl with
 |ret u=>
  obtain⟨v,σ',H',J,rv,q⟩:=hs;exact fin J rv q
 |next=>
  obtain⟨σ',H',J,q⟩:=hs;exact fin (v:=V.non) (u:=Em) J rfl q
 |brk=>
  obtain⟨_,_,_,q⟩:=hs;exact Eg q
 |cont=>
  obtain⟨_,_,_,q⟩:=hs;exact Eg q
section
variable{X:Cx}{x:Str}{p pos:Pos}{e:Ce}{es:List Ce}{t:TA}{id T:String}{r:List V->Hp->VK->Prop}
noncomputable def tCB(r:List V->Hp->VK->Prop)(t:TA):TE:=fun σ H Q=>t σ H fun vs H1=>r vs H1 Q
theorem zai(hc:CallR X (.builtin id) r)(hg:Gl X x)(hm:X.mg x=none)(hv:bootBuiltins x=some (.builtin id))(ha:PA X (e::es) t)(hn:x≠"__name__":=by decide)(hdb:(x==("__debug__":Str))=false:=by decide)
  (he:starEach (e::es) X.env=(false,eval e X.env)::starEach es X.env:=by rfl) (hpl:(backTo pos (starEach es X.env)).any (·.1)=false:=by rfl):PE X (.Call (.Name x p) (e::es) [] pos) (tCB r t):=by
 intro pins s σ H Q I h;refine Hl (ze6 I hg hm hv ?_ hn hdb);exact Pz (thnE (ha pos pins s σ H _ I h) fun us s1 vs H1 I1 r1 q1=>hc pins s1 σ H1 vs us Q I1 r1 q1) he hpl
theorem zbh(hc:CallR X (.type T) r)(hg:Gl X x)(hm:X.mg x=none)(hv:bootBuiltins x=some (.type T))(ha:PA X (e::es) t)(hn:x≠"__name__":=by decide)(hdb:(x==("__debug__":Str))=false:=by decide)
  (he:starEach (e::es) X.env=(false,eval e X.env)::starEach es X.env:=by rfl) (hpl:(backTo pos (starEach es X.env)).any (·.1)=false:=by rfl):PE X (.Call (.Name x p) (e::es) [] pos) (tCB r t):=by
 intro pins s σ H Q I h;refine Hl (ze6 I hg hm hv ?_ hn hdb);exact G5 (thnE (ha pos pins s σ H _ I h) fun us s1 vs H1 I1 r1 q1=>hc pins s1 σ H1 vs us Q I1 r1 q1) he hpl
end
end L2
namespace HT
open PySem PyProof.Rows
noncomputable def lexLt:List Int->List Int->Bool
 |[],[]=>false
 |[],_::_=>true
 |_::_,[]=>false
 |x::xs,y::ys=>if x=y then lexLt xs ys else decide (x<y)
theorem lexLt_cons(x y:Int)(xs ys:List Int):lexLt (x::xs) (y::ys)=if x=y then lexLt xs ys else decide (x<y):=rfl
theorem lexLt_nil_nil:lexLt [] []=false:=rfl
theorem lexLt_nil_cons(y:Int)(ys:List Int):lexLt [] (y::ys)=true:=rfl
theorem lexLt_cons_nil(x:Int)(xs:List Int):lexLt (x::xs) []=false:=rfl
theorem eqAt_int(A:Bi)(s:A6)(a:Int)(t:Tok)(c:Int)(u:Tok):∃e,Mu A s (.int a t) (.int c u) e/\(e=true↔a=c):=
 ⟨(a==c),La a t c u,by simp⟩
theorem rcLt_int(A:Bi)(s:A6)(a:Int)(t:Tok)(c:Int)(u:Tok)(prog:Aw)(w:Bq)(E:A1->A6->Prop)(Q:A1->A6->Prop)(h:Q (.bool (decide (a<c))) s):
  wpAny (model prog w) A (richCompare .Lt (.int a t) (.int c u)) Q E s:=
 (Km h:wpAny (model prog w) A (compareOp .Lt (.int a t) (.int c u)) Q E s)
section
open PySem.SeqAt
open PySem.AutoSeq1 (wpAny_loadPart')
open PySem.MeetsSeq PySem.MeetsSeq2 PySem.MeetsSeq3
theorem tuple_lt_ints(l b:A7)(items items2:Array A1)(n n2:Nat)(dd dd2:Option A7)(sl sl2:Array (Option A1))(ns ms:List Int)(hi:E4 items.toList ns)(hj:E4 items2.toList ms):
  Meets (Hi.«tuple.__lt__» ⟨[.ref l,.ref b],[]⟩)
   (fun _ R s=>s.heap.get? l=some {cls:=.type "tuple",dict:=dd,data:=.seq items n,slots:=sl}/\s.heap.get? b=some {cls:=.type "tuple",dict:=dd2,data:=.seq items2 n2,slots:=sl2}/\
    R (.ok (.ret (.bool (lexLt ns ms)))) s):=
 .of_wp fun prog w A R s h=>by
  obtain⟨hp,g,d,tk,os⟩:=s;obtain⟨hl,hb,h⟩:=h;have f2:=AutoSeq1.sub_tuple_tuple;have z1:items.size=ns.length:=by rw[<-hi.length];simp
  have z2:items2.size=ms.length:=by rw[<-hj.length];simp
  wp_walk using Pe hl,Pe hb,Gm _ (fun rest b s'=>b.1=none/\s'=⟨hp,g,d,tk,os⟩/\∃(vs ws:List A1)(ns' ms':List Int),rest=vs.zip ws/\
   E4 vs ns'/\E4 ws ms'/\ns'.length+items2.size=ms'.length+items.size/\R (.ok (.ret (.bool (lexLt ns' ms')))) ⟨hp,g,d,tk,os⟩) _
  case turn=>
   rintro⟨y,x⟩rest b s'⟨hb',rfl,vs,ws,ns',ms',hz,hvi,hwi,hlen,hR⟩
   cases hvi with
   |nil=>rw[List.zip_nil_left] at hz;cases hz
   |cons a t hvi'=>
    cases hwi with
    |nil=>rw[List.zip_nil_right] at hz;cases hz
    |cons c u hwi'=>
     rw[Gz] at hz;injection hz with hyx hrest;injection hyx with hy hx;subst hy hx;rw[lexLt_cons] at hR;simp only[At] at hlen;obtain⟨e,he,hiff⟩:=eqAt_int A.in1 ⟨hp,g,d,tk,os⟩ a t c u;refine A0 (he prog w _ _ ?_)
     cases e with
     |true=>
      rw[if_pos (hiff.mp rfl)] at hR
      wp_walk
      exact⟨rfl,rfl,_,_,_,_,hrest,hvi',hwi',by omega,hR⟩
     |false=>
      rw[if_neg (fun q=>absurd (hiff.mpr q) Ah)] at hR;have hri:=rcLt_int A.in1 ⟨hp,g,d,tk,os⟩ a t c u prog w
      wp_walk using hri
      exact⟨_,rfl,by simpa using hR⟩
  case fin=>
   rintro⟨b1,b2⟩s'⟨hb',rfl,vs,ws,ns',ms',hz,hvi,hwi,hlen,hR⟩;simp only at hb';subst hb';have hv:lexLt ns' ms'=decide (items.size<items2.size):=by
    cases hvi with
    |nil=>
     cases hwi with
     |nil=>
      simp only[Im] at hlen;rw[lexLt_nil_nil];exact(decide_eq_false (by omega)).symm
     |cons c u hw=>
      simp only[Im,At] at hlen;rw[lexLt_nil_cons];exact(decide_eq_true (by omega)).symm
    |cons a t hv=>
     cases hwi with
     |nil=>
      simp only[Im,At] at hlen;rw[lexLt_cons_nil];exact(decide_eq_false (by omega)).symm
     |cons c u hw=>
      rw[Gz] at hz
      cases hz
   rw[hv] at hR
   wp_walk
   exact⟨_,rfl,by simpa[Pb] using hR⟩
  case h=>
   exact⟨rfl,rfl,items.toList,items2.toList,ns,ms,rfl,hi,hj,by omega,h⟩
end
section
variable{prog:Aw}{w:Bq}{A:Bi}{E:A1->A6->Prop}{s:A6}
theorem lt_tupInts{l b:A7}{items items2:Array A1}{ns ms:List Int}{Q:A1->A6->Prop}(hl:Jh s.heap l items)(hb:Jh s.heap b items2)(hi:E4 items.toList ns)(hj:E4 items2.toList ms)
  (hu:A.units<cLine) (h:Q (.bool (lexLt ns ms)) s):wpAny (model prog w) A (compareOp .Lt (.ref l) (.ref b)) Q E s:=by
 obtain⟨⟨cls,dd,data,sl⟩,ho,hc,n,hd⟩:=id hl;obtain⟨⟨cls2,dd2,data2,sl2⟩,ho2,hc2,n2,hd2⟩:=id hb;simp only at hc hd hc2 hd2;subst hc hd hc2 hd2;exact richCompare_meets_room (op:=.Lt) ⟨_,ho,rfl⟩ ⟨_,ho2,rfl⟩ Hs L1 (Kt _ _) (tuple_lt_ints l b items items2 n n2 dd dd2 sl sl2 ns ms hi hj)
  ⟨ho,ho2,show Gs (lexLt ns ms)≠Value.notImplemented/\Q (.bool (lexLt ns ms)) s from⟨(fun x=>nomatch x),h⟩⟩ hu
noncomputable def sIx(n d:Nat):Option Int->Nat
 |none=>d
 |some v=>if v<0 then(v+(n:Int)).toNat else min v.toNat n
theorem sIx_none(n d:Nat):sIx n d none=d:=rfl
theorem sIx_nat(n d k:Nat):sIx n d (some (k:Int))=min k n:=by
 show(if(k:Int)<0 then((k:Int)+(n:Int)).toNat else min (k:Int).toNat n)=min k n;rw[if_neg (by omega),Cj]
end
end HT
namespace L2
open PySem PySem.Spec PyProof.Rows
noncomputable abbrev TO:=St->Hp->(Option Int->Hp->Prop)->Prop
noncomputable def PO(X:Cx)(e:Option Ce)(t:TO):Prop:=
 ∀(pins:List (A7×Obj))(s:A6)(σ:St)(H:Hp)(Q:Option Int->Hp->Prop),Inv X pins σ H s->t σ H Q->
  wpAny (model X.prog X.w) X.A (evalPart e X.env) (fun u s'=>∃o H',Inv X pins σ H' s'/\IsPart u o/\Q o H') X.xe s
noncomputable def tNoPart:TO:=fun _ H Q=>Q none H
noncomputable def tPart(t:TE):TO:=fun σ H Q=>t σ H fun x H1=>∃i,x= .int i/\Q (some i) H1
section
variable{X:Cx}{e:Ce}{te:TE}{lo hi:Option Ce}{tl th:TO}{pos p2:Pos}
theorem zgU:PO X none tNoPart:=by
 intro pins s σ H Q I h;rw[Qg];exact Ai ⟨none,H,I,.none,h⟩
theorem zgT(h:PE X e te):PO X (some e) (tPart te):=by
 intro pins s σ H Q I hw;rw[evalPart_some];refine thnE (h pins s σ H _ I hw) fun u s1 x H1 I1 r1 q1=>?_;obtain⟨i,rfl,q⟩:=q1;obtain⟨t,rfl⟩:=r1;exact⟨some i,H1,I1,.int i t,q⟩
noncomputable def SlR(X:Cx)(r:V->Option Int->Option Int->Hp->VK->Prop):Prop:=
 ∀(pins:List (A7×Obj))(s:A6)(σ:St)(H:Hp)(x:V)(v vl vu:A1)(lo hi:Option Int)(sl:A7)(Q:VK),Inv X pins σ H s->RelV x v->s.heap.IsSliceOf sl vl vu .none->IsPart vl lo->IsPart vu hi->r x lo hi H Q->
  ∃T id,typeLookup (.type T) "__getitem__"=pure (some (.builtin id))/\s.TypeIs v T/\wpAny (model X.prog X.w) X.A (getItem v (.ref sl)) (EP X pins σ Q) X.xe s
noncomputable def tSl(r:V->Option Int->Option Int->Hp->VK->Prop)(te:TE)(tl th:TO):TE:=fun σ H Q=>te σ H fun x H1=>tl σ H1 fun l H2=>th σ H2 fun u H3=>r x l u H3 Q
theorem zf6{r:V->Option Int->Option Int->Hp->VK->Prop}(hr:SlR X r)(he:PE X e te)(hl:PO X lo tl)(hu:PO X hi th):PE X (.Subscript e (.Slice lo hi none p2) pos) (tSl r te tl th):=by
 intro pins s σ H Q I h;refine Oe (thnE (he pins s σ H _ I h) fun v s1 x H1 I1 r1 q1=>?_);refine wpAny_Slice (thn (hl pins s1 σ H1 _ I1 q1) fun vl s2⟨l,H2,I2,pl,q2⟩=>thn (hu pins s2 σ H2 _ I2 q2) fun vu s3⟨u,H3,I3,pu,q3⟩=>?_);rw[Qg];refine Ai ?_;have I4:Inv X pins σ H3 {s3 with heap:=s3.heap.push {cls:=.type "slice",data:=.fields #[vl,vu,.none]}}:=I3.kept (t':=s3.toks) fun b ob q=>Ae _ q;obtain⟨T,id,hT,ht,hg⟩:=hr pins {s3 with heap:=s3.heap.push {cls:=.type "slice",data:=.fields #[vl,vu,.none]}} σ H3 x v vl vu l u s3.heap.objs.size Q I4 r1 (Os ..) pl pu q3;show wpAny (model X.prog X.w) X.A (subscriptTail e (.Slice lo hi none p2) v (.ref s3.heap.objs.size)) (EP X pins σ Q) X.xe {s3 with heap:=s3.heap.push {cls:=.type "slice",data:=.fields #[vl,vu,.none]}};exact tail_any (ops:=[.ref s3.heap.objs.size,v]) ht hT hg (by with_unfolding_all rfl)
noncomputable def cutV(xs:List V)(lo hi:Option Int):List V:=(xs.drop (HT.sIx xs.length 0 lo)).take (HT.sIx xs.length xs.length hi-HT.sIx xs.length 0 lo)
theorem cutV_length(xs:List V)(lo hi:Option Int):(cutV xs lo hi).length<=xs.length:=by
 unfold cutV;rw[Cg,G9];omega
end
noncomputable def ixN(n:Nat)(i:Int):Option Nat:=if 0<=i then(if i<n then some i.toNat else none) else if-(n:Int)<=i then some (i+n).toNat else none
noncomputable def atI{α:Type}(xs:List α)(i:Int):Option α:=(ixN xs.length i).bind fun j=>xs[j]?
theorem zg9{n:Nat}{i:Int}{j:Nat}(h:ixN n i=some j):seqIndex? i n=some j/\j<n/\ -(n:Int)<=i/\i<n:=by
 unfold ixN at h;by_cases h0:0<=i
 ·rw[if_pos h0] at h;by_cases h1:i<n
  ·rw[if_pos h1] at h;have e:i.toNat=j:=C1 h;exact⟨by rw[O1 h0 h1,e],by omega,by omega,h1⟩
  ·rw[if_neg h1] at h;cases h
 ·rw[if_neg h0] at h;by_cases h1: -(n:Int)<=i
  ·rw[if_pos h1] at h;have e:(i+n).toNat=j:=C1 h;exact⟨by rw[Nc (by omega) h1,e],by omega,h1,by omega⟩
  ·rw[if_neg h1] at h;cases h
theorem zfD{α:Type}{xs:List α}{i:Int}{v:α}(h:atI xs i=some v):∃j,seqIndex? i xs.length=some j/\xs[j]?=some v/\j<xs.length/\ -(xs.length:Int)<=i/\i<xs.length:=by
 unfold atI at h
 cases e:ixN xs.length i with
 |none=>rw[e] at h;cases h
 |some j=>
  rw[e] at h;obtain⟨h1,h2,h3,h4⟩:=zg9 e;exact⟨j,h1,h,h2,h3,h4⟩
theorem zaB{α:Type}{xs:List α}{j:Nat}{v:α}(h:xs[j]?=some v):atI xs (j:Int)=some v:=by
 have hj:j<xs.length:=(Ag.mp h).1;have e:ixN xs.length (j:Int)=some j:=by
  unfold ixN;rw[if_pos (by omega),if_pos (by omega)];simp
 unfold atI;rw[e];exact h
noncomputable def PlainIx(b:Ce):Prop:=∀o i,subscripted b false o i=operate [o,i] (getItem o i)
noncomputable def IxR(X:Cx)(r:R2):Prop:=
 ∀(value slice:Ce)(pins:List (A7×Obj))(s:A6)(σ:St)(H:Hp)(x y:V)(v u:A1)(Q:VK),Inv X pins σ H s->RelV x v->RelV y u->r x y H Q->
  subscripted slice false v u=operate [v,u] (getItem v u)->wpAny (model X.prog X.w) X.A (subscriptTail value slice v u) (EP X pins σ Q) X.xe s
noncomputable def MtR(X:Cx)(id:String)(r:V->List V->Hp->VK->Prop):Prop:=
 ∀(pins:List (A7×Obj))(s:A6)(σ:St)(H:Hp)(x:V)(xs:List V)(v:A1)(us:List A1)(Q:VK),Inv X pins σ H s->RelV x v->Vals xs us->r x xs H Q->
  wpAny (model X.prog X.w) X.A (call (.builtin id) (v::us)) (EP X pins σ Q) X.xe s
section
variable{X:Cx}{a b:Ce}{ta tb:TE}{pos:Pos}
theorem zar{r:R2}(hr:IxR X r)(ha:PE X a ta)(hb:PE X b tb)(hs:PlainIx b):PE X (.Subscript a b pos) (tOp r ta tb):=by
 intro pins s σ H Q I h;exact Oe (binT ha hb I h fun v u s2 x y H2 I2 rx ry q=>hr a b pins s2 σ H2 x y v u Q I2 rx ry q (hs _ _))
noncomputable def rIxL(K:Az):R2:=fun x y H Q=>∃p xs i v,x= .ref p/\y= .int i/\SqL K H p xs/\atI xs i=some v/\Q v H
noncomputable def rIxT(K:Az):R2:=fun x y H Q=>∃p xs i v,x= .ref p/\y= .int i/\SqT K H p xs/\atI xs i=some v/\Q v H
noncomputable def rIxS:R2:=fun x y H Q=>∃z i c,x= .str z/\y= .int i/\z.length<=sizeLine/\atI z.cps.toList i=some c/\Q (.str ⟨#[c]⟩) H
theorem zaA:IxR X (rIxL X.K):=by
 intro value slice pins s σ H x y v u Q I rx ry h hs;obtain⟨p,xs,i,z,rfl,rfl,hq,he,q⟩:=h
 cases rx
 obtain⟨t,rfl⟩:=ry;obtain⟨its,r,pl,hz⟩:=I.list hq;obtain⟨j,h1,h2,h3,h4,h5⟩:=zfD he;obtain⟨w,ew,rw'⟩:=r.get h2;have hl:=r.length;have hn:=zei;have fin:EP X pins σ Q w s:=⟨z,H,I,rw',q⟩;by_cases h0:0<=i
 ·have hj:i.toNat=j:=by
   rw[O1 h0 h5] at h1;exact C1 h1
  exact item_listR pl.isList h0 (by omega) (by rw[hj];simpa using ew) fin hs
 ·have hj:(i+(its.toArray.size:Int)).toNat=j:=by
   rw[Nc (by omega) h4] at h1;rw[B5,<-hl];exact C1 h1
  exact Nb (x:=w) pl.isList.typeIs Oo.lookup
   (wpAny_getItem_list_neg (Q:=fun r s'=>r=w/\EP X pins σ Q r s') pl.isList (by omega) (by rw[B5]<;>omega) (by omega) (by rw[hj];simpa using ew) ⟨rfl,fin⟩) hs
theorem zav:IxR X (rIxT X.K):=by
 intro value slice pins s σ H x y v u Q I rx ry h hs;obtain⟨p,xs,i,z,rfl,rfl,hq,he,q⟩:=h
 cases rx
 obtain⟨t,rfl⟩:=ry;obtain⟨its,r,pl,hz⟩:=I.tuple hq;obtain⟨j,h1,h2,h3,h4,h5⟩:=zfD he;obtain⟨w,ew,rw'⟩:=r.get h2;have hl:=r.length;have hn:=zei;have fin:EP X pins σ Q w s:=⟨z,H,I,rw',q⟩;exact Nb (x:=w) pl.typeIs slot_tuple_getitem.lookup
  (getItem_tuple (j:=j) (Q:=fun r s'=>r=w/\EP X pins σ Q r s') pl (by omega) (by omega) (by rw[B5,<-hl];exact h1) (by simpa using ew) ⟨rfl,fin⟩) hs
theorem ix_str:IxR X rIxS:=by
 intro value slice pins s σ H x y v u Q I rx ry h hs;obtain⟨z,i,c,rfl,rfl,hz,he,q⟩:=h;obtain⟨t,rfl⟩:=rx;obtain⟨t',rfl⟩:=ry;obtain⟨j,h1,h2,h3,h4,h5⟩:=zfD he;have hl:z.cps.toList.length=z.length:=by simp[Qc]
 rw[hl] at h1 h4 h5;have hn:=zei;exact tail_any (typeIs_str s z t) slot_str_getitem.lookup (getItem_str (c:=c) (by
  have e1:decide (i< -(2 ^ 63:Int))=false:=decide_eq_false (by omega);have e2:decide (i>=2 ^ 63)=false:=decide_eq_false (by omega);rw[e1,e2,Lg]) (by rw[h1];simpa using h2) ⟨.str ⟨#[c]⟩,H,I.tok _,⟨_,rfl⟩,q⟩) hs
theorem mapSeq_set(its:List A1)(n j:Nat)(u:A1):Eo (·.setIfInBounds j u) {cls:=.type "list",data:=.seq its.toArray n}={cls:=.type "list",data:=.seq (its.set j u).toArray n}:=by
 simp[Eo]
theorem Inv.lst{pins:List (A7×Obj)}{σ:St}{H:Hp}{s:A6}{p:A7}{xs:List V}(I:Inv X pins σ H s)(h:H p=some (.lst xs)):
  ∃(its:List A1)(n:Nat),Vals xs its/\s.heap.get? p=some {cls:=.type "list",data:=.seq its.toArray n}/\xs.length<=sizeLine:=by
 obtain⟨z,its,n,r,e⟩:=I.hok p _ h;exact⟨its,n,r,e,z⟩
theorem Inv.lstUpd{pins:List (A7×Obj)}{σ:St}{H:Hp}{s:A6}{p:A7}{xs ys:List V}{its its':List A1}{n n':Nat}{f:Obj->Obj}(I:Inv X pins σ H s)(h:H p=some (.lst xs))
  (ho:s.heap.get? p=some {cls:=.type "list",data:=.seq its.toArray n}) (hf:f {cls:=.type "list",data:=.seq its.toArray n}={cls:=.type "list",data:=.seq its'.toArray n'}) (r:Vals ys its') (hz:ys.length<=sizeLine) (t:Nat):
  Inv X pins σ (upd H p (.lst ys)) {s with heap:=s.heap.update p f,toks:=t}:=by
 have e:(s.heap.update p f).get? p=some {cls:=.type "list",data:=.seq its'.toArray n'}:=by
  rw[Iw f ho (by rw[hf]<;>rfl),hf]
 refine I.write (x:=p) (e:=p) (by rw[h];trivial) (.inl rfl) (fun b u hb q=>(Ib _ _ (E7 hb)).trans q) ⟨_,e⟩ ?_;exact⟨hz,its',n',r,e⟩
noncomputable def rSetL:V->V->V->Hp->(Hp->Prop)->Prop:=fun o i v H Q=>∃p xs k j,o= .ref p/\i= .int k/\H p=some (.lst xs)/\ixN xs.length k=some j/\Q (upd H p (.lst (xs.set j v)))
theorem zfS:PSet X rSetL:=by
 intro pins s σ H o i v ov iv u Q I ro ri rv h;obtain⟨p,xs,k,j,rfl,rfl,hp,hj,q⟩:=h
 cases ro
 obtain⟨t,rfl⟩:=ri;obtain⟨its,n,r,ho,hz⟩:=I.lst hp;obtain⟨h1,h2,h3,h4⟩:=zg9 hj;have hl:=r.length;have hn:=zei;have I':Inv X pins σ (upd H p (.lst (xs.set j v))) {s with heap:=s.heap.update p (Eo (·.setIfInBounds j u))}:=
  I.lstUpd hp ho (mapSeq_set its n j u) (r.set rv j) (by rw[O3];exact hz) s.toks
 by_cases h0:0<=k
 ·have hk:k.toNat=j:=by
   rw[O1 h0 h4] at h1;exact C1 h1
  exact PySem.W.ki_setAt ho h0 (by omega) (by rw[B5,<-hl];exact h4) (by rw[hk];exact⟨_,I',q⟩)
 ·have hk:(k+(its.toArray.size:Int)).toNat=j:=by
   rw[Nc (by omega) h3] at h1;rw[B5,<-hl];exact C1 h1
  exact PySem.W.ki_setBack ho (by omega) (by rw[B5,<-hl];exact h3) (by omega) (by rw[hk];exact⟨_,I',q⟩)
theorem slice_bounds(lo hi:Option Int)(n:Nat):(sliceBounds lo hi none n).1=((HT.sIx n 0 lo:Nat):Int)/\(sliceBounds lo hi none n).2.1=((HT.sIx n n hi:Nat):Int)/\(sliceBounds lo hi none n).2.2=1:=by
 refine⟨?_,?_,rfl⟩
 ·cases lo with
  |none=>simp[sliceBounds,HT.sIx]
  |some i=>
   simp only[sliceBounds,HT.sIx,N5,show(1:Int)>0 by decide,if_true];by_cases h:i<0
   ·simp only[h,if_true]<;>omega
   ·simp only[h,if_false]<;>omega
 ·cases hi with
  |none=>simp[sliceBounds,HT.sIx]
  |some i=>
   simp only[sliceBounds,HT.sIx,N5,show(1:Int)>0 by decide,if_true];by_cases h:i<0
   ·simp only[h,if_true]<;>omega
   ·simp only[h,if_false]<;>omega
theorem slicePick_cut(its:List A1)(lo hi:Option Int):slicePick its.toArray lo hi none=((its.drop (HT.sIx its.length 0 lo)).take (HT.sIx its.length its.length hi-HT.sIx its.length 0 lo)).toArray:=by
 obtain⟨h1,h2,h3⟩:=slice_bounds lo hi its.toArray.size;unfold slicePick;rw[h1,h2,h3];simp only[sliceRange_one,pick_run,B5]<;>rfl
noncomputable def rSlL(K:Az):V->Option Int->Option Int->Hp->VK->Prop:=fun x lo hi H Q=>∃a xs,x= .ref a/\SqL K H a xs/\∀p,H p=none->Q (.ref p) (upd H p (.lst (cutV xs lo hi)))
theorem zgE:SlR X (rSlL X.K):=by
 intro pins s σ H x v vl vu lo hi sl Q I rx hs pl pu h;obtain⟨a,xs,rfl,hx,q⟩:=h
 cases rx
 obtain⟨its,r,ht,hz⟩:=I.list hx;have hlen:=r.length;refine⟨"list",_,Oo.lookup,ht.isList.typeIs,?_⟩;refine wpAny_getItem_list_slice ht.isList hs pl pu .none (by simp) ?_ (by rw[B5]<;>omega);rw[slicePick_cut,<-hlen];refine⟨.ref s.heap.objs.size,_,I.laid (t':=s.toks) (o:=.lst (cutV xs lo hi)) (fun b ob q=>Ae _ q) (Ac _) ?_,rfl,q _ (I.hok.fresh (Ac _))⟩;exact⟨Bm (cutV_length xs lo hi) hz,_,0,(r.drop (HT.sIx xs.length 0 lo)).take (HT.sIx xs.length xs.length hi-HT.sIx xs.length 0 lo),Ba _ rfl⟩
noncomputable def flatV:V->Bool
 | .non=>true
 | .bl _=>true
 | .int _=>true
 | .str _=>true
 |_=>false
noncomputable def eqV:V->V->Bool
 | .non,.non=>true
 | .bl a,.bl b=>a==b
 | .bl a,.int b=>(if a then 1 else 0)==b
 | .int a,.bl b=>a==(if b then 1 else 0)
 | .int a,.int b=>a==b
 | .str a,.str b=>a==b
 |_,_=>false
theorem eqAt_V{A:Bi}{s:A6}{y x:V}{u v:A1}(ry:RelV y u)(rx:RelV x v)(fy:flatV y=true)(fx:flatV x=true):Mu A s u v (eqV y x):=by
 cases y with
 |non=>
  cases ry
  cases x with
  |non=>cases rx;exact Qm _
  |bl b=>cases rx;exact Qp b
  |int b=>obtain⟨t,rfl⟩:=rx;exact Qo b t
  |str b=>obtain⟨t,rfl⟩:=rx;exact Qn b t
  |_=>exact absurd (show false=true from fx) Ah
 |bl a=>
  cases ry
  cases x with
  |non=>cases rx;exact Qt a
  |bl b=>cases rx;exact Ks a b
  |int b=>obtain⟨t,rfl⟩:=rx;exact Qu a b t
  |str b=>obtain⟨t,rfl⟩:=rx;exact Qs a b t
  |_=>exact absurd (show false=true from fx) Ah
 |int a=>
  obtain⟨t',rfl⟩:=ry
  cases x with
  |non=>cases rx;exact Qq a t'
  |bl b=>cases rx;exact Qr a t' b
  |int b=>obtain⟨t,rfl⟩:=rx;exact La a t' b t
  |str b=>obtain⟨t,rfl⟩:=rx;exact L9 a t' b t
  |_=>exact absurd (show false=true from fx) Ah
 |str a=>
  obtain⟨t',rfl⟩:=ry
  cases x with
  |non=>cases rx;exact Qk a t'
  |bl b=>cases rx;exact Ql a t' b
  |int b=>obtain⟨t,rfl⟩:=rx;exact L8 a t' b t
  |str b=>obtain⟨t,rfl⟩:=rx;exact Qj a t' b t
  |_=>exact absurd (show false=true from fx) Ah
 |_=>exact absurd (show false=true from fy) Ah
noncomputable def eqU(x:V)(u:A1):Bool:=match u with
 | .none=>eqV .non x
 | .bool b=>eqV (.bl b) x
 | .int i _=>eqV (.int i) x
 | .str z _=>eqV (.str z) x
 |_=>false
theorem zhS{x y:V}{u:A1}(r:RelV y u)(f:flatV y=true):eqU x u=eqV y x:=by
 cases y with
 |non=>cases r;rfl
 |bl b=>cases r;rfl
 |int i=>obtain⟨t,rfl⟩:=r;rfl
 |str z=>obtain⟨t,rfl⟩:=r;rfl
 |_=>exact absurd (show false=true from f) Ah
theorem zd0{x:V}:∀{xs:List V}{us:List A1},Vals xs us->xs.all flatV=true->us.any (eqU x)=xs.any fun y=>eqV y x
 |_,_,.nil,_=>rfl
 |y::xs,u::us,.cons r t,f=>by
  rw[Ol,Cp] at f;rw[Gc,Gc,zhS r f.1,zd0 t f.2]
theorem zcQ{A:Bi}{s:A6}{x:V}{v:A1}(rx:RelV x v)(fx:flatV x=true):∀{xs:List V}{us:List A1},Vals xs us->xs.all flatV=true->∀u∈us,Mu A s u v (eqU x u)
 |_,_,.nil,_=>fun u hu=>by cases hu
 |y::xs,u::us,.cons r t,f=>fun u' hu=>by
  rw[Ol,Cp] at f;rcases Bo.mp hu with rfl|hu
  ·rw[zhS r f.1];exact eqAt_V r rx f.1 fx
  ·exact zcQ rx fx t f.2 u' hu
noncomputable def inV(x:V)(xs:List V):Bool:=xs.any fun y=>eqV y x
noncomputable def rIn(K:Az)(neg:Bool):R2:=fun x y H Q=>∃p xs,y= .ref p/\(SqL K H p xs\/SqT K H p xs)/\flatV x=true/\xs.all flatV=true/\Q (.bl (if neg then !inV x xs else inV x xs)) H
theorem zdK:OpR X (compareOp .In) (rIn X.K false):=by
 intro pins s σ H x y v u Q I rx ry h;obtain⟨p,xs,rfl,hq,fx,fs,q⟩:=h
 cases ry
 rcases hq with hq|hq
 ·obtain⟨its,r,pl,hz⟩:=I.list hq;refine SeqAt.in_listAt (eqU x) pl.isList (fun w hw=>zcQ rx fx r fs w (by simpa using hw)) ⟨.bl _,H,I,rfl,?_⟩;rw[show its.toArray.any (eqU x)=its.any (eqU x) by simp,zd0 r fs];exact q
 ·obtain⟨its,r,pl,hz⟩:=I.tuple hq;refine SeqAt.in_tupleAt (eqU x) pl (fun w hw=>zcQ rx fx r fs w (by simpa using hw)) ⟨.bl _,H,I,rfl,?_⟩;rw[show its.toArray.any (eqU x)=its.any (eqU x) by simp,zd0 r fs];exact q
theorem zce:OpR X (compareOp .NotIn) (rIn X.K true):=by
 intro pins s σ H x y v u Q I rx ry h;obtain⟨p,xs,rfl,hq,fx,fs,q⟩:=h
 cases ry
 rcases hq with hq|hq
 ·obtain⟨its,r,pl,hz⟩:=I.list hq;refine SeqAt.notIn_listAt (eqU x) pl.isList (fun w hw=>zcQ rx fx r fs w (by simpa using hw)) ⟨.bl _,H,I,rfl,?_⟩;rw[show its.toArray.any (eqU x)=its.any (eqU x) by simp,zd0 r fs];exact q
 ·obtain⟨its,r,pl,hz⟩:=I.tuple hq;refine SeqAt.notIn_tupleAt (eqU x) pl (fun w hw=>zcQ rx fx r fs w (by simpa using hw)) ⟨.bl _,H,I,rfl,?_⟩;rw[show its.toArray.any (eqU x)=its.any (eqU x) by simp,zd0 r fs];exact q
theorem zam:CallR X (.builtin "len") (fun xs H Q=>∃p ys,xs=[.ref p]/\(SqL X.K H p ys\/SqT X.K H p ys)/\Q (.int ys.length) H):=by
 intro pins s σ H xs us Q I r h;obtain⟨p,ys,rfl,hq,q⟩:=h;obtain⟨u,rfl,rx⟩:=zb3 r
 cases rx
 have hn:=zei;rcases hq with hq|hq
 ·obtain⟨its,r',pl,hz⟩:=I.list hq;have hlen:=r'.length;exact Calls.call_len_list pl.isList (by simp only[B5]<;>omega) ⟨.int ys.length,H,I.tok _,⟨s.toks+1,by rw[B5,hlen]⟩,q⟩
 ·obtain⟨its,r',pl,hz⟩:=I.tuple hq;have hlen:=r'.length;exact len_tuple pl (by simp only[B5]<;>omega) ⟨.int ys.length,H,I.tok _,⟨s.toks+1,by rw[B5,hlen]⟩,q⟩
theorem call_len_str:CallR X (.builtin "len") (fun xs H Q=>∃z,xs=[.str z]/\z.length<=sizeLine/\Q (.int z.length) H):=by
 intro pins s σ H xs us Q I r h;obtain⟨z,rfl,hz,q⟩:=h;obtain⟨u,rfl,t,rfl⟩:=zb3 r;have hn:=zei;exact len_str (by omega) ⟨.int z.length,H,I.tok _,⟨_,rfl⟩,q⟩
theorem zbL:CallR X (.type "list") (fun xs H Q=>∃p ys,xs=[.ref p]/\(SqL X.K H p ys\/SqT X.K H p ys)/\∀l,H l=none->Q (.ref l) (upd H l (.lst ys))):=by
 intro pins s σ H xs us Q I r h;obtain⟨p,ys,rfl,hq,q⟩:=h;obtain⟨u,rfl,rx⟩:=zb3 r
 cases rx
 have fin:∀(its:List A1),Vals ys its->ys.length<=sizeLine->∀(h':C9)(c':Nat),(∀b o',s.heap.get? b=some o'->h'.get? b=some o')->
   h'.get? s.heap.objs.size=some {cls:=.type "list",dict:=none,data:=.seq its.toArray c',slots:=#[]}->EP X pins σ Q (.ref s.heap.objs.size) {s with heap:=h'}:=fun its r' hz h' c' kp e=>
  ⟨.ref s.heap.objs.size,_,I.laid (t':=s.toks) kp (Ac _) (show ObjOk X.prog X.w _ h' _ (.lst ys) from⟨hz,its,c',r',e⟩),rfl,q _ (I.hok.fresh (Ac _))⟩
 rcases hq with hq|hq
 ·obtain⟨its,r',pl,hz⟩:=I.list hq;have hlen:=r'.length;obtain⟨o,ho,hc,n,hd⟩:=pl.isList;exact Qh p (.inl rfl) ho hc hd (fun h' c' kp e=>fin its r' hz h' c' kp e) (by simp only[B5]<;>omega)
 ·obtain⟨its,r',pl,hz⟩:=I.tuple hq;have hlen:=r'.length;obtain⟨o,ho,hc,n,hd⟩:=pl;exact Qh p (.inr rfl) ho hc hd (fun h' c' kp e=>fin its r' hz h' c' kp e) (by simp only[B5]<;>omega)
theorem zcT:CallR X (.type "tuple") (fun xs H Q=>∃p ys,xs=[.ref p]/\((SqL X.K H p ys/\∀l,H l=none->Q (.ref l) (upd H l (.tup ys)))\/(SqT X.K H p ys/\Q (.ref p) H))):=by
 intro pins s σ H xs us Q I r h;obtain⟨p,ys,rfl,h⟩:=h;obtain⟨u,rfl,rx⟩:=zb3 r
 cases rx
 rcases h with⟨hq,q⟩|⟨hq,q⟩
 ·obtain⟨its,r',pl,hz⟩:=I.list hq;have hlen:=r'.length;refine call_tuple_list pl.isList (fun h' kp=>?_) (by simp only[B5]<;>omega);have I1:Inv X pins σ H {s with heap:=h'}:=I.kept (t':=s.toks) kp;have I2:Inv X pins σ (upd H h'.objs.size (.tup ys)) {s with heap:=h'.push {cls:=.type "tuple",data:=.seq its.toArray}}:=
   I1.laid (t':=s.toks) (fun b o e=>Ae _ e) (Ac _) (show ObjOk X.prog X.w _ _ _ (.tup ys) from⟨hz,its,r',IsTup.new _ _⟩)
  exact⟨.ref h'.objs.size,_,I2,rfl,q _ (I1.hok.fresh (Ac _))⟩
 ·obtain⟨its,r',pl,hz⟩:=I.tuple hq;exact call_tuple_same pl ⟨.ref p,H,I,rfl,q⟩
noncomputable def tyV(K:Az)(T:String)(x:V)(H:Hp):Prop:=match x with
 | .str _=>T="str"
 | .int _=>T="int"
 | .ref p=>(T="list"/\∃xs,SqL K H p xs)\/(T="tuple"/\∃o,K.lookup p=some o/\o.cls= .type "tuple"/\o.dict=none)\/
   (T="dict"/\((∃kvs,H p=some (.dK kvs))\/∃kvs,H p=some (.dT kvs)))\/(T="set"/\∃S n,H p=some (.set S n))
 |_=>False
theorem zhE{pins:List (A7×Obj)}{σ:St}{H:Hp}{s:A6}{T:String}{x:V}{v:A1}(I:Inv X pins σ H s)(r:RelV x v)(ty:tyV X.K T x H):
  s.TypeIs v T/\∀a,v= .ref a->∃ob,s.heap.get? a=some ob/\ob.dict=none:=by
 cases x with
 |str z=>
  obtain⟨t,rfl⟩:=r
  cases(show T="str" from ty)
  exact⟨typeIs_str s z t,fun _ e=>nomatch e⟩
 |int i=>
  obtain⟨t,rfl⟩:=r
  cases(show T="int" from ty)
  exact⟨Od s i t,fun _ e=>nomatch e⟩
 |ref p=>
  cases r
  rcases ty with⟨rfl,xs,hq⟩|⟨rfl,o,hk,hc,hd⟩|⟨rfl,hk⟩|⟨rfl,S,n,hk⟩
  ·obtain⟨its,_,pl,_⟩:=I.list hq;refine⟨pl.isList.typeIs,fun a e=>?_⟩
   cases e
   obtain⟨o,n,e,c,hd,_⟩:=pl;exact⟨o,e,hd⟩
  ·refine⟨⟨o,I.kIn p o hk,hc⟩,fun a e=>?_⟩
   cases e
   exact⟨o,I.kIn _ o hk,hd⟩
  ·have z:∃o,s.heap.get? p=some o/\o.ExactDict:=by
    rcases hk with⟨kvs,hk⟩|⟨kvs,hk⟩
    ·obtain⟨_,_,_,_,o,_,_,e,ex,_⟩:=I.hok p _ hk;exact⟨o,e,ex⟩
    ·obtain⟨_,_,_,_,o,_,_,e,ex,_⟩:=I.hok p _ hk;exact⟨o,e,ex⟩
   obtain⟨o,e,ex⟩:=z;refine⟨⟨o,e,ex.1⟩,fun a e2=>?_⟩
   cases e2
   exact⟨o,e,ex.2.1⟩
  ·obtain⟨o,_,_,_,e,ex,_⟩:=I.hok p _ hk;refine⟨⟨o,e,ex.1⟩,fun a e2=>?_⟩
   cases e2
   exact⟨o,e,ex.2.1⟩
 |_=>exact Eg ty
noncomputable def tBM0(K:Az)(T:String)(r:V->List V->Hp->VK->Prop)(to:TE):TE:=fun σ H Q=>to σ H fun x H1=>tyV K T x H1/\r x [] H1 Q
noncomputable def tBM(K:Az)(T:String)(r:V->List V->Hp->VK->Prop)(to:TE)(t:TA):TE:=fun σ H Q=>to σ H fun x H1=>tyV K T x H1/\t σ H1 fun xs H2=>r x xs H2 Q
variable{o e:Ce}{es:List Ce}{to:TE}{t:TA}{name:Str}{apos cpos:Pos}{T id:String}{r:V->List V->Hp->VK->Prop}
theorem pe_bm0(pa:PlainAttrs T)(slot:Slot T name id)(hty:typeOf (.builtin id)=pure (.type "method_descriptor"))(hm:MtR X id r)(ho:PE X o to)
  (hbase:attributeBase o name X.env (eval o X.env)=eval o X.env:=by rfl) (hline:(apos.endLine==cpos.line)=true:=by rfl):PE X (.Call (.Attribute o name apos) [] [] cpos) (tBM0 X.K T r to):=by
 intro pins s σ H Q I h;refine wpAny_Call_method0_late hbase hline (thnE (ho pins s σ H _ I h) fun v s1 x H1 I1 r1⟨ty,q1⟩=>?_);obtain⟨h1,h2⟩:=zhE I1 r1 ty;exact⟨T,id,pa,slot,hty,h1,h2,Lo rfl (PySem.evalArgs_none (hm pins s1 σ H1 x [] v [] Q I1 r1 .nil q1))⟩
theorem zcd(pa:PlainAttrs T)(slot:Slot T name id)(hty:typeOf (.builtin id)=pure (.type "method_descriptor"))(hm:MtR X id r)(ho:PE X o to)(ha:PA X (e::es) t)
  (hbase:attributeBase o name X.env (eval o X.env)=eval o X.env:=by rfl)
  (hfew:((backTo cpos (starEach (e::es) X.env)).all (fun x=> !x.1)&&(backToKw cpos (keywordEach [] X.env)).all (fun x=>x.1.isSome)
   &&decide ((e::es).length+([]:List R5).length+(if([]:List R5).isEmpty then 0 else 1)<30))=true:=by rfl)
  (hline:(apos.endLine==cpos.line)=true:=by rfl) (hs:starEach (e::es) X.env=(false,eval e X.env)::starEach es X.env:=by rfl) (hplain:(backTo cpos (starEach es X.env)).any (·.1)=false:=by rfl):
  PE X (.Call (.Attribute o name apos) (e::es) [] cpos) (tBM X.K T r to t):=by
 intro pins s σ H Q I h;refine wpAny_Call_method_late hbase hfew hline rfl (thnE (ho pins s σ H _ I h) fun v s1 x H1 I1 r1⟨ty,q1⟩=>?_);obtain⟨h1,h2⟩:=zhE I1 r1 ty;refine⟨T,id,pa,slot,hty,h1,h2,?_⟩;have hA:=ha cpos pins s1 σ H1 _ I1 q1;rw[hs] at hA⊢;refine Lo (by show(false||(backTo cpos (starEach es X.env)).any (·.1))=false;rw[hplain]<;>rfl) (Mg ?_);exact thn hA fun us s2⟨vs,H2,I2,r2,q2⟩=>hm pins s2 σ H2 x vs v us Q I2 r1 r2 q2
end
noncomputable def MtM(X:Cx)(id:String)(r:V->List V->Hp->VK->Prop):Prop:=
 ∀(pins:List (A7×Obj))(s:A6)(σ:St)(H:Hp)(x:V)(xs:List V)(v:A1)(us:List A1)(Q:VK),Inv X pins σ H s->RelV x v->Vals xs us->r x xs H Q->
  wpAny (model X.prog X.w) X.A (call (.builtin id) (v::us)) (EP X pins σ Q) X.xe s
theorem Vals.one:∀{x:V}{us:List A1},Vals [x] us->∃u,us=[u]/\RelV x u
 |_,_,.cons r .nil=>⟨_,rfl,r⟩
theorem Vals.zero:∀{us:List A1},Vals [] us->us=[]
 |_,.nil=>rfl
theorem Vals.dropLast{xs:List V}{us:List A1}(h:Vals xs us):Vals xs.dropLast us.dropLast:=by
 induction h with
 |nil=>exact .nil
 |cons r t ih=>
  cases t with
  |nil=>exact .nil
  |cons q t'=>exact .cons r ih
theorem Vals.rep{xs:List V}{us:List A1}(h:Vals xs us):∀k:Nat,Vals (C5 k xs).flatten (C5 k us).flatten
 |0=>.nil
 |k+1=>by
  rw[Ec,Ec,Fq,Fq];exact Vals.append h (Vals.rep h k)
theorem erase_last{α:Type}(l:List α):l.eraseIdx (l.length-1)=l.dropLast:=by
 induction l with
 |nil=>rfl
 |cons a r ih=>
  cases r with
  |nil=>rfl
  |cons b r=>
   have e:(a::b::r).length-1=((b::r).length-1)+1:=by
    have h1:(a::b::r).length=r.length+2:=rfl;have h2:(b::r).length=r.length+1:=rfl;omega
   rw[e,List.eraseIdx_cons_succ,ih]
   all_goals rfl
theorem zfe(its:List A1):∀(k:Nat)(acc:List A1),
  Ku (fun x1 x2=>x1++x2) acc.toArray (C5 k its.toArray)=(acc++(C5 k its).flatten).toArray
 |0,acc=>by simp
 |k+1,acc=>by
  have e:acc.toArray++its.toArray=(acc++its).toArray:=by simp
  have e2:(acc++its)++(C5 k its).flatten=acc++(C5 (k+1) its).flatten:=by
   rw[Ec,Fq,Av]
  rw[<-e2,<-zfe its k (acc++its),<-e,Ec,Io]
section
variable{X:Cx}{pins:List (A7×Obj)}{σ:St}{H:Hp}{s:A6}{l b:A7}{xs ys zs:List V}
theorem Inv.lset{its its':List A1}{n:Nat}{f:Array A1->Array A1}{t':Nat}(I:Inv X pins σ H s)(hH:H l=some (.lst xs))
  (e:s.heap.get? l=some {cls:=.type "list",data:=.seq its.toArray n}) (hf:f its.toArray=its'.toArray) (hv:Vals ys its') (hz:ys.length<=sizeLine):
  Inv X pins σ (upd H l (.lst ys)) {s with heap:=s.heap.update l (Eo f),toks:=t'}:=by
 have q:=Qy e f;rw[hf] at q;refine I.write (x:=l) (e:=l) (by rw[hH];exact trivial) (.inl rfl) (fun b' u hb hu=>(Ib s.heap (Eo f) (E7 hb)).trans hu) ⟨_,q⟩ ?_;exact⟨hz,its',_,hv,q⟩
theorem Inv.lnew{its:List A1}{t':Nat}(I:Inv X pins σ H s)(hv:Vals ys its)(hz:ys.length<=sizeLine):
  Inv X pins σ (upd H s.heap.objs.size (.lst ys)) {s with heap:=s.heap.push {cls:=.type "list",data:=.seq its.toArray},toks:=t'}:=
 I.laid (fun _ _ q=>Ae _ q) (Ac _) ⟨hz,its,0,hv,Ba _ rfl⟩
theorem Inv.fresh(I:Inv X pins σ H s):H s.heap.objs.size=none:=I.hok.fresh (Ac _)
theorem Inv.lstM(I:Inv X pins σ H s)(hH:H l=some (.lst xs)):xs.length<=sizeLine/\∃(its:List A1)(n:Nat),Vals xs its/\xs.length=its.length/\s.heap.get? l=some {cls:=.type "list",data:=.seq its.toArray n}:=by
 obtain⟨z,its,n,r,e⟩:=I.hok l _ hH;exact⟨z,its,n,r,r.length,e⟩
theorem notLongL{n:Nat}(h:n<=sizeLine):Gj n=false:=by
 unfold Gj;exact decide_eq_false (by omega)
end
section
variable{X:Cx}
noncomputable def rAppend:V->List V->Hp->VK->Prop:=fun x vs H Q=>∃l xs y,x= .ref l/\vs=[y]/\H l=some (.lst xs)/\xs.length<sizeLine/\Q .non (upd H l (.lst (xs++[y])))
theorem zaE:MtM X "list.append" rAppend:=by
 intro pins s σ H x vs v us Q I rx rv h;obtain⟨l,xs,y,rfl,rfl,hH,hz,q⟩:=h
 cases rx
 obtain⟨u,rfl,ru⟩:=rv.one;obtain⟨z,its,n,r,hl,e⟩:=I.lstM hH;refine Ja F.slot_list_append ⟨_,e,rfl⟩ F.entry_list_append (F.args_list_append_2 _ _) (PySem.list_append l its.toArray n u (by rw[B5];omega)) ⟨e,?_⟩;refine⟨.non,_,I.lset (its':=its++[u]) hH e (by simp) (r.append (.cons ru .nil)) ?_,rfl,q⟩;rw[Af,Bx];omega
noncomputable def rPop:V->List V->Hp->VK->Prop:=fun x vs H Q=>∃l xs y,x= .ref l/\vs=[]/\H l=some (.lst xs)/\xs[xs.length-1]?=some y/\Q y (upd H l (.lst xs.dropLast))
theorem mt_pop:MtM X "list.pop" rPop:=by
 intro pins s σ H x vs v us Q I rx rv h;obtain⟨l,xs,y,rfl,rfl,hH,hy,q⟩:=h
 cases rx
 have hus:=rv.zero;subst hus;obtain⟨z,its,n,r,hl,e⟩:=I.lstM hH;obtain⟨u,hu,ru⟩:=r.get hy;have hy':its.toArray[its.toArray.size-1]?=some u:=by
  show its.toArray[its.length-1]?=some u;rw[<-Ck,<-hl];exact hu
 refine Ja F.slot_list_pop ⟨_,e,rfl⟩ F.entry_list_pop (F.args_list_pop_1 _) (MeetsSeq.list_pop_last l its.toArray n u hy' (by rw[B5];omega)) ⟨e,?_⟩;refine⟨y,_,I.lset (its':=its.dropLast) hH e ?_ r.dropLast ?_,ru,q⟩
 ·show its.toArray.eraseIdxIfInBounds (its.toArray.size-1)=its.dropLast.toArray;rw[B5,List.eraseIdxIfInBounds_toArray,erase_last]
 ·rw[Mp];omega
noncomputable def rCat:R2:=fun x y H Q=>∃l b xs zs,x= .ref l/\y= .ref b/\H l=some (.lst xs)/\H b=some (.lst zs)/\xs.length+zs.length<=sizeLine/\∀p,H p=none->Q (.ref p) (upd H p (.lst (xs++zs)))
theorem zf9:OpR X (binaryOp .Add) rCat:=by
 intro pins s σ H x y v u Q I rx ry h;obtain⟨l,b,xs,zs,rfl,rfl,hH,hB,hz,q⟩:=h
 cases rx
 cases ry
 obtain⟨z,its,n,r,hl,e⟩:=I.lstM hH;obtain⟨z2,its2,n2,r2,hl2,e2⟩:=I.lstM hB;refine PySem.P.add_list e e2 ?_ (by rw[B5,B5];omega);have ea:its.toArray++its2.toArray=(its++its2).toArray:=by simp
 rw[ea];exact⟨.ref _,_,I.lnew (t':=s.toks) (r.append r2) (by rw[Af];omega),rfl,q _ I.fresh⟩
noncomputable def rRep:R2:=fun x y H Q=>∃l k xs,x= .ref l/\y= .int k/\H l=some (.lst xs)/\ -(2 ^ 63)<=k/\k<2 ^ 63/\xs.length*k.toNat<=sizeLine/\
 ∀p,H p=none->Q (.ref p) (upd H p (.lst (C5 k.toNat xs).flatten))
theorem len_rep{α:Type}(xs:List α)(k:Nat):(C5 k xs).flatten.length=k*xs.length:=by
 induction k with
 |zero=>simp
 |succ k ih=>rw[Ec,Fq,Af,ih,M9,Ik]
theorem op_rep:OpR X (binaryOp .Mult) rRep:=by
 intro pins s σ H x y v u Q I rx ry h;obtain⟨l,k,xs,rfl,rfl,hH,h1,h2,hz,q⟩:=h
 cases rx
 obtain⟨t,rfl⟩:=ry;obtain⟨z,its,n,r,hl,e⟩:=I.lstM hH;have hlen:its.toArray.size*k.toNat<=sizeLine:=by rw[B5,<-hl];exact hz
 have hcap:¬its.toArray.size*k.toNat>(2 ^ 63-1) / 8:=by
  have:(sizeLine:Nat)<=(2 ^ 63-1) / 8:=by decide
  omega
 have hfit:¬(!Builtin.List.listFitsIndex k)=true:=by
  rw[fitsIndex_both h1 h2];exact Ah
 have hlong:¬Gj (its.toArray.size*k.toNat)=true:=by
  rw[notLongL hlen];exact Ah
 have hnew:Ku (fun x1 x2=>x1++x2) #[] (C5 (if its.toArray.isEmpty=true then 0 else k.toNat) its.toArray)=(C5 k.toNat its).flatten.toArray:=by
  have f0:∀m:Nat,Ku (fun x1 x2=>x1++x2) #[] (C5 m its.toArray)=(C5 m its).flatten.toArray:=fun m=>by
   have:=zfe its m [];rw[Gh] at this;exact this
  rw[f0]
  cases its with
  |nil=>simp
  |cons a r'=>rw[if_neg (by simp)]
 refine wpAny_binaryOp_repeat_ref (T:="list") (U:="int") (by decide) ⟨_,e,rfl⟩ (fun s'=>Od s' k t) noFill_list_mul F.fills_int_mul F.slot_int_rmul repeat_list F.slot_int_index.lookup
  (Ja F.slot_int_rmul (Od s k t) F.entry_int_rmul (F.args_int_rmul_2 _ _) (int___rmul___int_list k t l its.toArray n)
   ⟨e,rfl,⟨_,e,rfl⟩,Ja F.slot_list_mul ⟨_,e,rfl⟩ F.entry_list_mul (F.args_list_mul_2 _ _) (Ra l its.toArray n k t hfit hcap hlong) ⟨e,?_⟩⟩)
 rw[hnew];exact⟨.ref _,_,I.lnew (t':=s.toks) (r.rep k.toNat) (by rw[len_rep,Mb];exact hz),rfl,q _ I.fresh⟩
end
section
variable{prog:Aw}{w:Bq}{A:Bi}{E:A1->A6->Prop}{s:A6}
end
section
variable{X:Cx}
end
section
variable{κ:Type}[DecidableEq κ]
noncomputable def valV(kvs:List (κ×V))(k:κ):Option V:=(kvs.find? fun kv=>decide (kv.1=k)).map (·.2)
noncomputable def putK(kvs:List (κ×V))(k:κ)(v:V):List (κ×V):=
 if(kvs.any fun kv=>decide (kv.1=k))=true then kvs.map (fun kv=>if kv.1=k then(kv.1,v) else kv) else kvs++[(k,v)]
theorem za5{p:κ×V}{r:List (κ×V)}{k:κ}(e:p.1=k):valV (p::r) k=some p.2:=by simp[valV,Ez,e]
theorem zaZ{p:κ×V}{r:List (κ×V)}{k:κ}(e:¬p.1=k):valV (p::r) k=valV r k:=by simp[valV,Ez,e]
theorem zbu(k:κ):∀kvs:List (κ×V),(kvs.any fun kv=>decide (kv.1=k))=(valV kvs k).isSome
 |[]=>rfl
 |p::r=>by
  rw[Gc];by_cases e:p.1=k
  ·simp only[za5 e,decide_eq_true e,Bool.true_or,Option.isSome_some]
  ·rw[zaZ e,decide_eq_false e,Bool.false_or];exact zbu k r
theorem zfL(k j:κ)(y:V):∀kvs:List (κ×V),valV (kvs.map fun kv=>if kv.1=k then(kv.1,y) else kv) j=(valV kvs j).map fun x=>if j=k then y else x
 |[]=>rfl
 |p::r=>by
  have ih:=zfL k j y r;rw[An];by_cases h:p.1=k
  ·rw[if_pos h];by_cases e:p.1=j
   ·rw[za5 (p:=(p.1,y)) e,za5 e,Cu,if_pos (e.symm.trans h)]
   ·rw[zaZ (p:=(p.1,y)) e,zaZ e,ih]
  ·rw[if_neg h];by_cases e:p.1=j
   ·rw[za5 (p:=p) e,za5 e,Cu,if_neg (fun z=>h (e.trans z))]
   ·rw[zaZ (p:=p) e,zaZ e,ih]
theorem zeR(k j:κ)(y:V):∀kvs:List (κ×V),valV kvs k=none->valV (kvs++[(k,y)]) j=if j=k then some y else valV kvs j
 |[],_=>by
  by_cases e:k=j
  ·rw[if_pos e.symm];exact za5 (p:=(k,y)) e
  ·rw[if_neg (fun z=>e z.symm)];exact zaZ (p:=(k,y)) e
 |p::r,hn=>by
  rw[K5];have hk:¬p.1=k:=fun z=>by rw[za5 z] at hn;cases hn
  rw[zaZ hk] at hn;have ih:=zeR k j y r hn;by_cases e:p.1=j
  ·rw[za5 e,za5 e,if_neg (fun z=>hk (e.trans z))]
  ·rw[zaZ e,zaZ e,ih]
theorem valV_put(kvs:List (κ×V))(k j:κ)(y:V):valV (putK kvs k y) j=if j=k then some y else valV kvs j:=by
 unfold putK;by_cases a:(kvs.any fun kv=>decide (kv.1=k))=true
 ·rw[if_pos a,zfL];rw[zbu] at a;by_cases e:j=k
  ·obtain⟨x,hx⟩:=E2.mp a;rw[if_pos e,e,hx,Cu,if_pos rfl]
  ·rw[if_neg e]
   cases valV kvs j with
   |none=>rfl
   |some x=>rw[Cu,if_neg e]
 ·rw[if_neg a];refine zeR k j y kvs ?_;rw[zbu] at a
  cases q:valV kvs k with
  |none=>rfl
  |some x=>rw[q] at a;exact(a rfl).elim
theorem zcy(kvs:List (κ×V))(k:κ)(v:V):(putK kvs k v).length<=kvs.length+1:=by
 unfold putK
 split
 ·rw[A3];omega
 ·rw[Af,At,Im];omega
theorem zew{kvs:List (κ×V)}{k:κ}(v:V)(h:valV kvs k=none):putK kvs k v=kvs++[(k,v)]:=by
 unfold putK;rw[zbu,h];exact if_neg (by decide)
theorem RelO.isSome_eq{o:Option V}{u:Option A1}(r:RelO o u):o.isSome=u.isSome:=by
 cases o with
 |none=>cases u with
  |none=>rfl
  |some _=>exact(show False from r).elim
 |some _=>cases u with
  |none=>exact(show False from r).elim
  |some _=>rfl
theorem KV.val{kvs:List (κ×V)}{vs:List (κ×A1)}(r:KV kvs vs)(k:κ):RelO (valV kvs k) (valueAt vs k):=by
 unfold KV at r
 induction r with
 |nil=>exact Eh
 |@cons p q ps qs h t ih=>
  obtain⟨h1,h2⟩:=h;by_cases e:p.1=k
  ·have e':q.1=k:=h1.symm.trans e;have b:valueAt (q::qs) k=some q.2:=by simp[valueAt,Ez,e']
   rw[za5 e,b];exact h2
  ·have e':¬q.1=k:=fun z=>e (h1.trans z);have b:valueAt (q::qs) k=valueAt qs k:=by simp[valueAt,Ez,e']
   rw[zaZ e,b];exact ih
theorem KV.any{kvs:List (κ×V)}{vs:List (κ×A1)}(r:KV kvs vs)(k:κ):(kvs.any fun kv=>decide (kv.1=k))=vs.any fun kv=>decide (kv.1=k):=by
 unfold KV at r
 induction r with
 |nil=>rfl
 |cons h t ih=>rw[Gc,Gc,ih,h.1]
theorem KV.repl{kvs:List (κ×V)}{vs:List (κ×A1)}(r:KV kvs vs)(k:κ){y:V}{u:A1}(ry:RelV y u):
  KV (kvs.map fun kv=>if kv.1=k then(kv.1,y) else kv) (vs.map fun kv=>if kv.1=k then(kv.1,u) else kv):=by
 unfold KV at r⊢
 induction r with
 |nil=>exact .nil
 |@cons p q ps qs h t ih=>
  rw[An,An];refine .cons ?_ ih;obtain⟨h1,h2⟩:=h;by_cases e:p.1=k
  ·rw[if_pos e,if_pos (h1.symm.trans e)];exact⟨h1,ry⟩
  ·rw[if_neg e,if_neg (fun z=>e (h1.trans z))];exact⟨h1,h2⟩
theorem KV.put{kvs:List (κ×V)}{vs:List (κ×A1)}(r:KV kvs vs)(k:κ){y:V}{u:A1}(ry:RelV y u):KV (putK kvs k y) (stored vs k u):=by
 unfold putK stored;rw[r.any k];by_cases e:(vs.any fun kv=>decide (kv.1=k))=true
 ·rw[if_pos e,if_pos e];exact r.repl k ry
 ·rw[if_neg e,if_neg e];exact Ej r ⟨rfl,ry⟩
theorem KV.length{kvs:List (κ×V)}{vs:List (κ×A1)}(r:KV kvs vs):kvs.length=vs.length:=Bw r
end
theorem zg8{P:Aw}{w:Bq}{k:Key}{u:A1}(r:RelV (kV k) u):(mixKind P w).is k u=true:=by
 cases k with
 |inl i=>obtain⟨t,e⟩:=(show∃t,u=Ho i t from r);subst e;exact mixKind_int P w i t
 |inr x=>obtain⟨t,e⟩:=(show∃t,u=Jx x t from r);subst e;exact mixKind_str P w x t
theorem ze8{P:Aw}{w:Bq}:∀{ks:List Key}{us:List A1},Vals (ks.map kV) us->ItemsAre (mixKind P w) ks us
 |[],_,r=>by rw[Fd] at r;cases r;exact .nil
 |k::ks,_,r=>by
  rw[An] at r
  cases r with
  |cons h t=>exact .cons (zg8 h) (ze8 t)
noncomputable abbrev KT(H:Hp):List (List Key×V)->List (List Key×A7×A1)->Prop:=Bv fun p q=>p.1=q.1/\H q.2.1=some (.tup (p.1.map kV))/\RelV p.2 q.2.2
theorem KT.val{H:Hp}{kvs:List (List Key×V)}{xs:List (List Key×A7×A1)}(r:KT H kvs xs)(k:List Key):RelO (valV kvs k) ((atKey xs k).map (·.2)):=by
 induction r with
 |nil=>exact Eh
 |@cons p q ps qs h t ih=>
  obtain⟨h1,_,h2⟩:=h;by_cases e:p.1=k
  ·have e':q.1=k:=h1.symm.trans e;have b:atKey (q::qs) k=some q.2:=by simp[atKey,Ez,e']
   rw[za5 e,b];exact h2
  ·have e':¬q.1=k:=fun z=>e (h1.trans z);have b:atKey (q::qs) k=atKey qs k:=by simp[atKey,Ez,e']
   rw[zaZ e,b];exact ih
theorem KT.repl{H:Hp}{kvs:List (List Key×V)}{xs:List (List Key×A7×A1)}(r:KT H kvs xs)(k:List Key){y:V}{u:A1}(ry:RelV y u):
  KT H (kvs.map fun kv=>if kv.1=k then(kv.1,y) else kv) (xs.map (putAt k u)):=by
 induction r with
 |nil=>exact .nil
 |@cons p q ps qs h t ih=>
  rw[An,An];refine .cons ?_ ih;obtain⟨h1,h2,h3⟩:=h;unfold putAt;by_cases e:p.1=k
  ·rw[if_pos e,if_pos (h1.symm.trans e)];exact⟨h1,h2,ry⟩
  ·rw[if_neg e,if_neg (fun z=>e (h1.trans z))];exact⟨h1,h2,h3⟩
theorem KT.put{H:Hp}{kvs:List (List Key×V)}{xs:List (List Key×A7×A1)}(r:KT H kvs xs)(k:List Key){b:A7}{y:V}{u:A1}(hb:H b=some (.tup (k.map kV)))(ry:RelV y u):
  KT H (putK kvs k y) (storedH xs k b u):=by
 have e:(kvs.any fun kv=>decide (kv.1=k))=(atKey xs k).isSome:=by
  rw[zbu,(r.val k).isSome_eq,Hd]
 unfold putK storedH;rw[e];by_cases q:(atKey xs k).isSome=true
 ·rw[if_pos q,if_pos q];exact r.repl k ry
 ·rw[if_neg q,if_neg q];exact Ej r ⟨rfl,hb,ry⟩
theorem KT.keeps{H H':Hp}{kvs:List (List Key×V)}{xs:List (List Key×A7×A1)}(r:KT H kvs xs)(ht:∀b ys,H b=some (.tup ys)->H' b=some (.tup ys)):KT H' kvs xs:=
 Bv.mapP r fun _ _ z=>⟨z.1,ht _ _ z.2.1,z.2.2⟩
section
variable{P:Aw}{w:Bq}{H:Hp}{h:C9}{a:A7}
theorem zh5{u:HO}(ok:HOk P w H h)(e:Rd H a u):ObjOk P w H h a u:=e.ok ok
theorem zfB{kvs:List (Key×V)}(ok:HOk P w H h)(e:Rd H a (.dK kvs)):kvs.length<=sizeLine/\(a==sysModules)=false/\∃vs,KV kvs vs/\h.DictOf (mixKind P w) a vs:=
 show ObjOk P w H h a (.dK kvs) from zh5 ok e
theorem zia{kvs:List (Key×V)}(ok:HOk P w H h)(e:H a=some (.dK kvs)):kvs.length<=sizeLine/\(a==sysModules)=false/\∃vs,KV kvs vs/\h.DictOf (mixKind P w) a vs:=zfB ok (.inl e)
theorem zdS{ks:List Key}(ok:HOk P w H h)(e:H a=some (.tup (ks.map kV))):(tupleKind (mixKind P w)).is h ks a:=by
 obtain⟨_,its,r,o,h1,h2,n,h3⟩:=(show ObjOk P w H h a (.tup (ks.map kV)) from ok a _ e);exact⟨o,its.toArray,n,h1,h2,h3,by simpa using ze8 r⟩
theorem zhq{kvs:List (List Key×V)}(ok:HOk P w H h)(e:Rd H a (.dT kvs)):kvs.length<=sizeLine/\(a==sysModules)=false/\
  ∃xs,KT H kvs xs/\h.DictOfH (tupleKind (mixKind P w)) a xs:=by
 obtain⟨z,y,xs,r,o,es,ep,h1,h2,h3,h4,h5⟩:=(show ObjOk P w H h a (.dT kvs) from zh5 ok e);refine⟨z,y,xs,r,o,es,ep,h1,h2,h3,h4,fun x hx=>?_,h5⟩;have all:∀{l:List (List Key×V)}{m:List (List Key×A7×A1)},KT H l m->∀x∈m,(tupleKind (mixKind P w)).is h x.1 x.2.1:=by
  intro l m q
  induction q with
  |nil=>intro x hx;exact nomatch hx
  |@cons p q ps qs hq t ih=>
   intro x hx;rcases Bo.mp hx with e|hx
   ·subst e;exact zdS ok (by rw[<-hq.1];exact hq.2.1)
   ·exact ih x hx
 exact all r x hx
theorem zh9{kvs:List (List Key×V)}(ok:HOk P w H h)(e:H a=some (.dT kvs)):kvs.length<=sizeLine/\(a==sysModules)=false/\
  ∃xs,KT H kvs xs/\h.DictOfH (tupleKind (mixKind P w)) a xs:=zhq ok (.inl e)
end
noncomputable def DGet(H:Hp)(a:A7)(y:V)(r:Option V):Prop:=
 (∃kvs k,Rd H a (.dK kvs)/\y=kV k/\r=valV kvs k)\/∃kvs k b,Rd H a (.dT kvs)/\y= .ref b/\H b=some (.tup (k.map kV))/\r=valV kvs k
noncomputable def DPut(H:Hp)(a:A7)(y v:V)(H':Hp):Prop:=
 (∃kvs k,H a=some (.dK kvs)/\y=kV k/\kvs.length<sizeLine/\H'=upd H a (.dK (putK kvs k v)))\/
 ∃kvs k b,H a=some (.dT kvs)/\y= .ref b/\H b=some (.tup (k.map kV))/\kvs.length<sizeLine/\H'=upd H a (.dT (putK kvs k v))
theorem DGet.k{H:Hp}{a:A7}{kvs:List (Key×V)}{k:Key}(e:H a=some (.dK kvs)):DGet H a (kV k) (valV kvs k):=.inl ⟨kvs,k,.inl e,rfl,rfl⟩
theorem DGet.t{H:Hp}{a b:A7}{kvs:List (List Key×V)}{k:List Key}(e:H a=some (.dT kvs))(eb:H b=some (.tup (k.map kV))):DGet H a (.ref b) (valV kvs k):=.inr ⟨kvs,k,b,.inl e,rfl,eb,rfl⟩
theorem DPut.k{H:Hp}{a:A7}{kvs:List (Key×V)}{k:Key}{v:V}(e:H a=some (.dK kvs))(hl:kvs.length<sizeLine):DPut H a (kV k) v (upd H a (.dK (putK kvs k v))):=.inl ⟨kvs,k,e,rfl,hl,rfl⟩
theorem DPut.t{H:Hp}{a b:A7}{kvs:List (List Key×V)}{k:List Key}{v:V}(e:H a=some (.dT kvs))(eb:H b=some (.tup (k.map kV)))(hl:kvs.length<sizeLine):
  DPut H a (.ref b) v (upd H a (.dT (putK kvs k v))):=.inr ⟨kvs,k,b,e,rfl,eb,hl,rfl⟩
section
variable{X:Cx}{pins:List (A7×Obj)}{σ:St}{H:Hp}{s:A6}{a:A7}{y v:V}{u r:A1}{o:Option V}{A:Bi}{E:A1->A6->Prop}
theorem Inv.big(I:Inv X pins σ H s):sysModules<s.heap.objs.size:=by
 have h:mainGlobals<s.heap.objs.size:=(I.mod.glob.keeps I.bk).lt;exact Gu (by decide) h
theorem d_getItem{Q:A1->A6->Prop}(hu:A.units+1<cLine)(I:Inv X pins σ H s)(g:DGet H a y (some v))(ry:RelV y u)(h:∀w' s',Inv X pins σ H s'->RelV v w'->Q w' s'):
  wpAny (model X.prog X.w) A (getItem (.ref a) u) Q E s:=by
 rcases g with⟨kvs,k,e,ey,l⟩|⟨kvs,k,b,e,ey,eb,l⟩
 ·subst ey;obtain⟨z,hd,vs,rel,dd⟩:=zfB I.hok e;obtain⟨w',hw,rw'⟩:=RelO.some_of (v:=v) (o:=valueAt vs k) (by rw[l];exact rel.val k);exact wpAny_getItem_of (zg8 ry) dd.mapOf hw (h w' _ (I.tok _) rw')
 ·subst ey
  cases(show u=Bc b from ry)
  obtain⟨z,hd,xs,rel,dd⟩:=zhq I.hok e;obtain⟨w',hw,rw'⟩:=RelO.some_of (v:=v) (o:=(atKey xs k).map (·.2)) (by rw[l];exact rel.val k);obtain⟨p,hp,hp2⟩:=Lc.mp hw;refine Ob (Hm hu) (zdS I.hok eb) dd hp ?_;rw[hp2];exact h w' _ (I.tok _) rw'
theorem d_in{Q:A1->A6->Prop}(hu:A.units+1<cLine)(I:Inv X pins σ H s)(g:DGet H a y o)(ry:RelV y u)(h:∀s',Inv X pins σ H s'->Q (.bool o.isSome) s'):
  wpAny (model X.prog X.w) A (compareOp .In u (.ref a)) Q E s:=by
 rcases g with⟨kvs,k,e,ey,l⟩|⟨kvs,k,b,e,ey,eb,l⟩
 ·subst ey;obtain⟨z,hd,vs,rel,dd⟩:=zfB I.hok e;refine wpAny_in_of (zg8 ry) hd dd.mapOf ?_;rw[<-(rel.val k).isSome_eq,<-l];exact h _ (I.tok _)
 ·subst ey
  cases(show u=Bc b from ry)
  obtain⟨z,hd,xs,rel,dd⟩:=zhq I.hok e;refine wpAny_in_heap (Hm hu) (zdS I.hok eb) hd dd ?_;have q:=(rel.val k).isSome_eq;rw[Hd] at q;rw[<-q,<-l];exact h _ (I.tok _)
theorem d_notIn{Q:A1->A6->Prop}(hu:A.units+1<cLine)(I:Inv X pins σ H s)(g:DGet H a y o)(ry:RelV y u)(h:∀s',Inv X pins σ H s'->Q (.bool (!o.isSome)) s'):
  wpAny (model X.prog X.w) A (compareOp .NotIn u (.ref a)) Q E s:=by
 rcases g with⟨kvs,k,e,ey,l⟩|⟨kvs,k,b,e,ey,eb,l⟩
 ·subst ey;obtain⟨z,hd,vs,rel,dd⟩:=zfB I.hok e;refine wpAny_notIn_of (zg8 ry) hd dd.mapOf ?_;rw[<-(rel.val k).isSome_eq,<-l];exact h _ (I.tok _)
 ·subst ey
  cases(show u=Bc b from ry)
  obtain⟨z,hd,xs,rel,dd⟩:=zhq I.hok e;refine Ot (Hm hu) (zdS I.hok eb) hd dd ?_;have q:=(rel.val k).isSome_eq;rw[Hd] at q;rw[<-q,<-l];exact h _ (I.tok _)
theorem zeK{h':C9}{t':Nat}{ob:HO}(I:Inv X pins σ H s)(mu:Mut (H a))(hs:Fw a s.heap h')(he:∃q,h'.get? a=some q)(new:ObjOk X.prog X.w (upd H a ob) h' a ob):
  Inv X pins σ (upd H a ob) {s with heap:=h',toks:=t'}:=
 I.write (x:=a) (e:=a) mu (.inl rfl) (fun b q hb z=>(hs.2 b hb).trans z) he new
theorem zhU{P:Aw}{w:Bq}{H':Hp}{h':C9}{kvs:List (Key×V)}{vs:List (Key×A1)}(z:kvs.length<=sizeLine)(hd:(a==sysModules)=false)(rel:KV kvs vs)(dd:h'.DictOf (mixKind P w) a vs):
  ObjOk P w H' h' a (.dK kvs):=⟨z,hd,vs,rel,dd⟩
theorem d_setItem{H':Hp}{Q:Unit->A6->Prop}(hu:A.units+1<cLine)(I:Inv X pins σ H s)(g:DPut H a y v H')(ry:RelV y u)(rv:RelV v r)(h:∀s',Inv X pins σ H' s'->Q () s'):
  wpAny (model X.prog X.w) A (setItem (.ref a) u r) Q E s:=by
 rcases g with⟨kvs,k,e,ey,l,eH⟩|⟨kvs,k,b,e,ey,eb,l,eH⟩
 ·subst ey eH;obtain⟨z,hd,vs,rel,dd⟩:=zia I.hok e;have hz:vs.length<=sizeLine:=by rw[<-rel.length];exact z
  have hl:(putK kvs k v).length<=sizeLine:=by have:=zcy kvs k v;omega
  refine wpAny_setItem_pairs (hsz:=hz) (zg8 ry) dd fun h' dd' hs=>h _ ?_;have he:∃q,h'.get? a=some q:=let ⟨q,_,_,hq,_⟩:=dd';⟨q,hq⟩;exact zeK I (by rw[e];exact Eh) hs he (zhU hl hd (rel.put k rv) dd')
 ·subst ey eH
  cases(show u=Bc b from ry)
  obtain⟨z,hd,xs,rel,dd⟩:=zh9 I.hok e;have hz:xs.length<=sizeLine:=by rw[<-Bw rel];exact z
  have hl:(putK kvs k v).length<=sizeLine:=by have:=zcy kvs k v;omega
  refine Oa (hsz:=hz) (Hm hu) (zdS I.hok eb) dd fun h' dd' hs=>h _ ?_;obtain⟨q,es,ep,hq,h2,h3,h4,_,h5⟩:=dd';refine zeK I (by rw[e];exact Eh) hs ⟨q,hq⟩ ⟨hl,hd,_,(rel.put k eb rv).keeps fun c ys ec=>?_,q,es,ep,hq,h2,h3,h4,h5⟩;rw[zag (zh0 ec e (fun z=>nomatch z))];exact ec
end
section
variable{X:Cx}{pins:List (A7×Obj)}{σ:St}{H:Hp}{s:A6}{a:A7}{kvs:List (Key×V)}{k:Key}{u:A1}{A:Bi}{E:A1->A6->Prop}
theorem d_len{Q:A1->A6->Prop}(I:Inv X pins σ H s)(e:Rd H a (.dK kvs))(h:∀t s',Inv X pins σ H s'->Q (.int kvs.length t) s'):wpAny (model X.prog X.w) A (call (.builtin "len") [.ref a]) Q E s:=by
 obtain⟨z,hd,vs,rel,dd⟩:=zfB I.hok e;refine call_len_dict hd dd (by rw[<-rel.length];rw[O0] at z;omega) ?_;rw[<-rel.length];exact h _ _ (I.tok _)
end
noncomputable def NoSl(i:Ce):Prop:=∀ov iv,subscripted i false ov iv=operate [ov,iv] (getItem ov iv)
theorem zgD{prog:Aw}{w:Bq}{A:Bi}{E:A1->A6->Prop}{s:A6}{env:Env}{value slice:Ce}{pos:Pos}{T id:String}{Q:A1->A6->Prop}
  (hl:typeLookup (.type T) "__getitem__"=pure (some (.builtin id))) (hs:NoSl slice)
  (h:wpAny (model prog w) A (eval value env) (fun o s₁=>wpAny (model prog w) A (eval slice env) (fun i s₂=>s₂.TypeIs o T/\wpAny (model prog w) A (getItem o i) Q E s₂) E s₁) E s):
  wpAny (model prog w) A (eval (.Subscript value slice pos) env) Q E s:=by
 refine Oe (Dq h (fun o s₁ h₁=>Dq h₁ (fun i s₂ h₂=>?_) fun _ _ x=>x) fun _ _ x=>x);obtain⟨hT,h₂⟩:=h₂;unfold subscriptTail;refine A0 ?_;rw[getitemInPython_of_ne hT.not_modules];refine A0 (Hb hT hl ?_);have fin:wpAny (model prog w) A (subscripted slice false o i) (fun r s₃=>wpAny (model prog w) A (letTemporaryGo value o r>>=fun _=>pure r) Q E s₃) E s₂:=by
  rw[hs o i];exact wpAny_operating (Dq h₂ (fun r s₃ h₃=>A0 (wpAny_letTemporaryGo (Ai h₃))) fun _ _ x=>x)
 first
  |exact Ai (A0 fin)
  |exact A0 (Ai (A0 fin))
  |exact A0 fin
theorem dict_typeIs{X:Cx}{pins:List (A7×Obj)}{σ:St}{H:Hp}{s:A6}{a:A7}{y:V}{o:Option V}(I:Inv X pins σ H s)(g:DGet H a y o):s.TypeIs (.ref a) "dict":=by
 rcases g with⟨kvs,k,e,_,_⟩|⟨kvs,k,b,e,_,_,_⟩
 ·obtain⟨_,_,vs,_,dd⟩:=zfB I.hok e;exact dd.typeIs
 ·obtain⟨_,_,xs,_,dd⟩:=zhq I.hok e;exact dd.typeIs
noncomputable def tDGet(td ty:TE):TE:=fun σ H Q=>td σ H fun x H1=>ty σ H1 fun y H2=>∃a v,x= .ref a/\DGet H2 a y (some v)/\Q v H2
noncomputable def tDIn(ty td:TE):TE:=fun σ H Q=>ty σ H fun y H1=>td σ H1 fun x H2=>∃a o,x= .ref a/\DGet H2 a y o/\Q (.bl o.isSome) H2
noncomputable def tDNotIn(ty td:TE):TE:=fun σ H Q=>ty σ H fun y H1=>td σ H1 fun x H2=>∃a o,x= .ref a/\DGet H2 a y o/\Q (.bl (!o.isSome)) H2
noncomputable def sDPut(td ty tv:TE):TS:=fun D σ H=>tv σ H fun v H1=>td σ H1 fun x H2=>ty σ H2 fun y H3=>∃a H4,x= .ref a/\DPut H3 a y v H4/\D.nx σ H4
section
variable{X:Cx}{o i e value:Ce}{pos pos' tpos:Pos}{td ty tv:TE}
theorem zdH(hu:X.A.units+1<cLine)(ho:PE X o td)(hi:PE X i ty)(hs:NoSl i):PE X (.Subscript o i pos) (tDGet td ty):=by
 intro pins s σ H Q I h;refine zgD Kf.lookup hs (thnE (ho pins s σ H _ I h) fun u s1 x H1 I1 rx q1=>thnE (hi pins s1 σ H1 _ I1 q1) fun iv s2 y H2 I2 ry⟨a,v,ex,g,q2⟩=>?_);subst ex;obtain rfl:u=Bc a:=rx;exact⟨dict_typeIs I2 g,d_getItem hu I2 g ry fun w' s3 I3 rw'=>⟨v,H2,I3,rw',q2⟩⟩
theorem zgY(hu:X.A.units+1<cLine)(hi:PE X i ty)(ho:PE X o td):PC X .In i o (tDIn ty td):=by
 intro pins s σ H Q I h;refine thnE (hi pins s σ H _ I h) fun iv s1 y H1 I1 ry q1=>thnE (ho pins s1 σ H1 _ I1 q1) fun u s2 x H2 I2 rx⟨a,ov,ex,g,q2⟩=>?_;subst ex;obtain rfl:u=Bc a:=rx;exact d_in hu I2 g ry fun s3 I3=>⟨.bl ov.isSome,H2,I3,rfl,q2⟩
theorem zdI(hu:X.A.units+1<cLine)(hi:PE X i ty)(ho:PE X o td):PC X .NotIn i o (tDNotIn ty td):=by
 intro pins s σ H Q I h;refine thnE (hi pins s σ H _ I h) fun iv s1 y H1 I1 ry q1=>thnE (ho pins s1 σ H1 _ I1 q1) fun u s2 x H2 I2 rx⟨a,ov,ex,g,q2⟩=>?_;subst ex;obtain rfl:u=Bc a:=rx;exact d_notIn hu I2 g ry fun s3 I3=>⟨.bl (!ov.isSome),H2,I3,rfl,q2⟩
theorem zc2(hu:X.A.units+1<cLine)(ho:PE X o td)(hi:PE X i ty)(hv:PE X value tv)(hs:swapsWith value (some (.Subscript o i pos')) pos.line X.env=pure false):
  PS X (.Assign [.Subscript o i pos'] value pos) (sDPut td ty tv):=by
 intro pins s σ H D I h;refine Na (thnE (hv pins s σ H _ I h) fun r s1 v H1 I1 rv q1=>thnE (ho pins s1 σ H1 _ I1 q1) fun u s2 x H2 I2 rx q2=>thnE (hi pins s2 σ H2 _ I2 q2) fun iv s3 y H3 I3 ry⟨a,H4,ex,g,q3⟩=>?_) hs;subst ex;obtain rfl:u=Bc a:=rx;exact d_setItem hu I3 g ry rv fun s4 I4=>⟨σ,H4,I4,q3⟩
end
theorem dk_empty{P:Aw}{w:Bq}{H:Hp}(h:C9)(hb:sysModules<h.objs.size):ObjOk P w H (h.push {cls:=.type "dict",data:=.dict #[]}) h.objs.size (.dK []):=
 ⟨Bz _,beq_eq_false_iff_ne.mpr (E7 (Br hb)),[],.nil,Qe h⟩
theorem zgl{P:Aw}{w:Bq}{H:Hp}(h:C9)(hb:sysModules<h.objs.size):ObjOk P w H (h.push {cls:=.type "dict",data:=.dict #[]}) h.objs.size (.dT []):=
 ⟨Bz _,beq_eq_false_iff_ne.mpr (E7 (Br hb)),[],.nil,_,#[],0,Ba _ rfl,⟨rfl,rfl,rfl⟩,rfl,rfl,Dm⟩
noncomputable def tDNewK:TE:=fun _ H Q=>∀p,H p=none->Q (.ref p) (upd H p (.dK []))
noncomputable def tDNewT:TE:=fun _ H Q=>∀p,H p=none->Q (.ref p) (upd H p (.dT []))
section
variable{X:Cx}{pos:Pos}
theorem zdj:PE X (.Dict [] [] pos) tDNewK:=fun pins s σ H Q I h=>
 Ou ⟨.ref s.heap.objs.size,_,I.laid (a:=s.heap.objs.size) (o:=.dK []) (t':=s.toks) (fun _ _ q=>Ae _ q) (Ac _) (dk_empty s.heap I.big),rfl,h _ (I.hok.fresh (Ac _))⟩
theorem zf7:PE X (.Dict [] [] pos) tDNewT:=fun pins s σ H Q I h=>
 Ou ⟨.ref s.heap.objs.size,_,I.laid (a:=s.heap.objs.size) (o:=.dT []) (t':=s.toks) (fun _ _ q=>Ae _ q) (Ac _) (zgl s.heap I.big),rfl,h _ (I.hok.fresh (Ac _))⟩
end
section
variable{X:Cx}{pins:List (A7×Obj)}{σ:St}{H:Hp}{s:A6}{a:A7}{y d:V}{u r:A1}{o:Option V}{A:Bi}{E:A1->A6->Prop}
end
section
variable{X:Cx}{o e f:Ce}{apos cpos:Pos}{td ty tx:TE}
end
section
variable{X:Cx}{pins:List (A7×Obj)}{σ:St}{H:Hp}{s:A6}{a:A7}{kvs:List (Key×V)}{A:Bi}{E:A1->A6->Prop}
theorem d_copyOf{Q:A1->A6->Prop}(I:Inv X pins σ H s)(e:Rd H a (.dK kvs))(h:∀p s',H p=none->Inv X pins σ (upd H p (.dK kvs)) s'->Q (.ref p) s'):wpAny (model X.prog X.w) A (call (.type "dict") [.ref a]) Q E s:=by
 obtain⟨z,hd,vs,rel,dd⟩:=zfB I.hok e;refine kt_call_dict hd dd (by rw[<-rel.length];exact z) fun h' dd' hs=>?_;refine h _ _ (I.hok.fresh (Ac _)) (I.laid (a:=s.heap.objs.size) (o:=.dK kvs) (t':=s.toks) (fun b q hq=>?_) (Ac _) (zhU z (beq_eq_false_iff_ne.mpr (E7 (Br I.big))) rel dd'));exact(hs.2 b (Br (Au hq))).trans (Ae _ hq)
end
section
variable{X:Cx}{pins:List (A7×Obj)}{σ:St}{H:Hp}{s:A6}{a:A7}{y:V}{u:A1}{A:Bi}{E:A1->A6->Prop}
end
end L2
namespace Att
open PySem PySem.W PySem.Calls PyProof.Rows
theorem ints_of_wellAll{P:Qd}{h:C9}:∀(ns:List Int)(vs:List A1),WellAll P h vs (ns.map WData.int)->E4 vs ns:=by
 intro ns
 induction ns with
 |nil=>
  intro vs w;rw[Fd] at w
  cases w
  exact .nil
 |cons n ns ih=>
  intro vs w;rw[An] at w
  cases w with
  |cons a b=>
   cases a
   exact .cons _ _ (ih _ b)
theorem script_of{l:OpenLaw}{n:Nat}(hn:l.most=some n){P:Qd}{h:C9}{args:List WData}{vals:List A1}
  (hpre:l.row.toRowW.claim.pre args=true) (hwl:WellAll P h vals args):
  ∃a vs ns,vals=[Bc a]/\args=[WData.list (ns.map WData.int)]/\h.get? a=some {cls:=.type "list",data:=.seq vs.toArray}/\E4 vs ns/\ns.length<=n:=by
 have hsh:WShape.hasAll [] args [.list .int]=true:=(pre_splitW hpre).1;have hc:l.pre.holds [] {args:=args}=true:=(pre_splitW hpre).2;obtain⟨d,r,rfl,h1,h2⟩:=hasAllW_cons hsh;obtain rfl:=hasAllW_nil h2;obtain⟨xs,rfl,h3⟩:=hasW_list h1;obtain⟨ns,rfl⟩:=items_int h3;have hlen:ns.length<=n:=by
  unfold OpenLaw.pre at hc;have h4:(WTm.not (.lt (.lit (.int (n:Int))) (.len (.arg 0)))).holds [] {args:=[.list (ns.map .int)]}=true:=by
   have h4:=(holds_andW hc).1;rw[hn] at h4;exact h4
  have h5:=condW_of h4 (w_not (w_lt w_lit (w_len_list (w_arg rfl))));rw[A3] at h5;refine Kb fun q=>?_;have q':(n:Int)<((ns.length:Nat):Int):=by omega
  first
   | (rw [decide_eq_true q'] at h5; exact absurd h5 (by decide))
   | (simp at h5; omega)
 cases hwl with
 |cons w1 w2=>
  cases w2
  cases w1 with
  |list ho hall=>exact⟨_,_,ns,rfl,rfl,ho,ints_of_wellAll ns _ hall,hlen⟩
theorem post_true(l:OpenLaw)(args:List WData):l.row.toRowW.claim.post args (.bool true) args=true:=
 postW_of (r:=l.row.toRowW) (X:=(true==true))
  (show WShape.has [] (.bool true) .bool=true by first|rfl|decide|simp[WShape.has,WShape.arms,WShape.armsAll])
  (show(WTm.eq .res (.lit (.bool true))).value [] {args:=args,res:=some (.bool true),after:=args}=some (.bool (true==true)) from w_eq_bool (w_res rfl) w_lit) rfl
theorem attach_call{l:OpenLaw}{n:Nat}{q:Aw}{loose:List Str}{XP:(Str->Option A1)->C9->Prop}{YP:Bq->C9->Prop}{d:DefRec}
  (hn:l.most=some n) (hdf:d.params.defaults=[])
  (call:∀(w:Bq)(s₀ s₁:A6)(mg mb:Str->Option A1)(fa:A7)(o:Obj)(pm cd doc:A1)(a:A7)(vs:List A1)(ns:List Int),
   Ground q loose [] XP w s₀ mg mb s₁.heap->YP w s₁.heap->
   s₁.heap.get? fa=some o->o.data= .func (docDef d.name d.params d.body d.scope pm cd doc)->s₁.heap.CodeRec cd d.name->mg d.name=some (.ref fa)->
   s₁.heap.get? a=some {cls:=.type "list",data:=.seq vs.toArray}->E4 vs ns->ns.length<=n->s₁.gens=#[]->
   codeAny (model l.prog w) callerA (.call (.ref fa) ⟨[.ref a],[]⟩) (fun r s'=>r= .ok (.ret (.bool true))/\OldK s₁.heap s'.heap/\s'.os=s₁.os/\Hj s'.gens) s₁):
  WalkO q loose XP YP l.row.toRowW d [] (fun f vs=>Mw f vs):=by
 intro w s₀ s₁ mg mb G Y fa o pm cd doc dV kV ho hd hcd hD hmg hg args vals as hpre hlay hrd hwl hlo;obtain rfl:dV= .none:=Dflts.none hD hdf;obtain rfl:kV= .none:=Dflts.noKw hD;obtain⟨a,vs,ns,rfl,rfl,hobj,hints,hlen⟩:=script_of hn hpre hwl;refine enter_call (Kk (call w s₀ s₁ mg mb fa o pm cd doc a vs ns G Y ho (fd_plain hd) hcd hmg hobj hints hlen hg) fun r s' hq=>?_);obtain⟨rfl,h2,h3,h4⟩:=hq;exact⟨.inl ⟨.bool true,.bool true,[],rfl,fun _=>rfl,.bool true,post_true l _,fun _=>⟨Ge,fun _ hm=>(nomatch hm)⟩⟩,h2,h3,h4⟩
section
variable{prog:Aw}{w:Bq}{A:Bi}{E:A1->A6->Prop}{s:A6}{K:Frag}
noncomputable def ledger(h:C9)(L d:A7):List (A7×Obj):=(A4 h.objs.size).filterMap fun a=>if a=L\/a=d then none else(h.get? a).map fun o=>(a,o)
end
end Att
namespace L2
open PySem PySem.Spec PyProof.Rows
theorem zcD:∀{vs:List A1}{ns:List Int},E4 vs ns->Vals (ns.map V.int) vs
 |_,_,.nil=>.nil
 |_,_,.cons n t h=>.cons ⟨t,rfl⟩ (zcD h)
noncomputable def Only(H:Hp):Prop:=∀b,H b=none\/∃o xs,H b=some (.frz o (.lst xs))
theorem law_call{P:Aw}{w:Bq}{K:Az}{mg mb:Str->Option A1}{CX:CXT}{k:Nat}{fa a:A7}{fd:Ep}{x:Str}{sp:Sp}{s₁:A6}{vs:List A1}{ns:List Int}
  (KX:K.In s₁.heap) (hns:s₁.heap.Ns mainGlobals mg) (hb:s₁.heap.Ns builtinsNs mb) (hbb:∀x:Str,x≠"__name__"->mb x=bootBuiltins x) (hlim:s₁.heap.NoLimit) (hg:s₁.gens=#[])
  (ha:s₁.heap.get? a=some {cls:=.type "list",data:=.seq vs.toArray}) (hi:E4 vs ns) (hl:ns.length<=sizeLine) (hr:Room k callerA)
  (F:∀base:C9,K.In base->base.Ns mainGlobals mg->FnOk P w K mg base CX k fa fd [x] sp) (hbind:∀(s:A6)(u:A1),Kq s fd ⟨[u],[]⟩ [(x,u)])
  (hsp:∀H:Hp,Only H->SqL K H a (ns.map V.int)->sp [.ref a] H (fun v _=>v= .bl true) fun _ _ _=>False)
  (hCX:∀H e s',CX [] H s₁ (fun _ _ _=>False) e s'->False):
  codeAny (model P w) callerA (.call (.ref fa) ⟨[.ref a],[]⟩) (fun r s'=>r= .ok (.ret (.bool true))/\OldK s₁.heap s'.heap/\s'.os=s₁.os/\Hj s'.gens) s₁:=by
 have rv:=zcD hi;have lenV:=hi.length;have core:∀H:Hp,Only H->SqL K H a (ns.map V.int)->HOk P w H s₁.heap->(∀b,H b≠none->b=a)->(H a≠none->K.lookup a=none)->
   codeAny (model P w) callerA (.call (.ref fa) ⟨[.ref a],[]⟩) (fun r s'=>r= .ok (.ret (.bool true))/\OldK s₁.heap s'.heap/\s'.os=s₁.os/\Hj s'.gens) s₁:=by
  intro H hO hS hok hA hK;have base_of:∀{b:A7}{o:Obj},s₁.heap.get? b=some o->H b=none->(hidT s₁.heap H).get? b=some o:=fun e n=>hidT_get e n;have noA:∀{b:A7}{o:Obj}{es:Array J6}{ep:Nat},s₁.heap.get? b=some o->o.data= .dict es ep->H b=none:=fun{b o es ep}e d=>by
   cases q:H b with
   |none=>rfl
   |some u=>
    have e':b=a:=hA b (by rw[q];simp);subst e';rw[ha] at e;cases e
    have d':Data.seq vs.toArray _=Data.dict es ep:=d
    cases d'
  have nsK:∀{b:A7}{m:Str->Option A1},s₁.heap.Ns b m->(hidT s₁.heap H).Ns b m:=fun{b m}⟨o,es,ep,e,d,r⟩=>⟨o,es,ep,base_of e (noA e d),d,r⟩;have hKb:K.In (hidT s₁.heap H):=fun b o e=>base_of (KX b o e) (by
   cases q:H b with
   |none=>rfl
   |some u=>
    have e':b=a:=hA b (by rw[q];simp);subst e';rw[hK (by rw[q];simp)] at e;cases e)
  have hM:Mod K mg (hidT s₁.heap H):=⟨hKb,nsK hns,⟨mb,nsK hb,hbb⟩,let ⟨mc,h1,h2⟩:=hlim;⟨mc,nsK h1,h2⟩⟩;have e0:Env0 P w K mg (hidT s₁.heap H) callerA [] s₁ H:=⟨rfl,hM,fun b o e=>of_hidT e,P7 (hidT_size _ _),trivial,fun b hb=>absurd (show b∈([]:List A7) from hb) (by simp),hok,.of_eq hg⟩;refine Kk ((F _ hKb (nsK hns)).run callerA [] s₁ H ⟨[.ref a],[]⟩ [.ref a] [.ref a] _ _ hr e0 (hbind s₁ (.ref a)) (.cons rfl .nil) (hsp H hO hS)) fun r s' h=>?_
  cases r with
  |error e=>exact(hCX H e s' h).elim
  |ok fl=>
   cases fl with
   |next=>exact Eg h
   |brk=>exact Eg h
   |cont=>exact Eg h
   |ret u=>
    obtain⟨v,H',os,bare,un,hok',r',q⟩:=h;have q':v= .bl true:=q;subst q';obtain rfl:u=Gs true:=r';refine⟨rfl,OldK.of_keep fun b o e=>?_,os,bare⟩
    cases q:H b with
    |none=>exact un.keep b o e q (by intro z;exact absurd (show b∈([]:List A7) from z) (by simp)) (by simp)
    |some u=>
     rcases hO b with z|⟨ob,xs,z⟩
     ·rw[q] at z;cases z
     ·have z2:=un.frzs b ob _ z;obtain⟨e1,_⟩:=hok b _ z;obtain⟨e2,_⟩:=hok' b _ z2;rw[e] at e1;cases e1
      exact e2
 cases hk:K.lookup a with
 |some o=>
  have e:=KX a o hk;rw[ha] at e
  cases e
  refine core (fun _=>none) (fun _=>.inl rfl) (.inr ⟨_,vs.toArray,_,hk,rfl,rfl,rfl,by rw[B5,lenV];exact hl,by simpa using rv⟩) (fun b u z=>by have z':(none:Option HO)=some u:=z;cases z') (fun b z=>absurd rfl z) fun z=>absurd rfl z
 |none=>
  refine core (fun b=>if b=a then some (.frz {cls:=.type "list",data:=.seq vs.toArray} (.lst (ns.map V.int))) else none) (fun b=>?_) (.inl (.inr ⟨{cls:=.type "list",data:=.seq vs.toArray},if_pos rfl⟩)) (fun b u z=>?_) (fun b z=>?_) fun _=>hk
  ·by_cases hb:b=a
   ·exact .inr ⟨_,_,if_pos hb⟩
   ·exact .inl (if_neg hb)
  ·by_cases hb:b=a
   ·have z':=(if_pos hb).symm.trans z
    cases z'
    subst hb;exact⟨ha,by rw[A3];exact hl,vs,_,rv,ha⟩
   ·have z':=(if_neg hb).symm.trans z
    cases z'
  ·by_cases hb:b=a
   ·exact hb
   ·exact absurd (if_neg hb) z
theorem walk_of{l:K0}{n k:Nat}{q:Aw}{loose:List Str}{XP:(Str->Option A1)->C9->Prop}{YP:Bq->C9->Prop}{d:DefRec}{K:Qd->Az}{CX:Bq->CXT}{sp:Bq->Sp}{x:Str}
  (hn:l.most=some n) (hn2:n<=sizeLine) (hdf:d.params.defaults=[]) (hr:Room k callerA)
  (hY:∀(w:Bq)(h:C9),YP w h->(K w.params).In h)
  (F:∀(w:Bq)(mg:Str->Option A1)(fa:A7)(h:C9),(K w.params).In h->h.Ns mainGlobals mg->mg d.name=some (.ref fa)->
   ∃fd:Ep,(∀(s:A6)(u:A1),Kq s fd ⟨[u],[]⟩ [(x,u)])/\
    ∀base:C9,(K w.params).In base->base.Ns mainGlobals mg->FnOk l.prog w (K w.params) mg base (CX w) k fa fd [x] (sp w))
  (hsp:∀(w:Bq)(H:Hp)(a:A7)(ns:List Int),ns.length<=n->Only H->SqL (K w.params) H a (ns.map V.int)->sp w [.ref a] H (fun v _=>v= .bl true) fun _ _ _=>False)
  (hCX:∀(w:Bq)(H:Hp)(s:A6)(e:A1)(s':A6),CX w [] H s (fun _ _ _=>False) e s'->False):
  Nt q loose XP YP l.row.toRowW d [] (fun f vs=>Mw f vs):=by
 refine Att.attach_call hn hdf fun w s₀ s₁ mg mb fa o pm cd doc a vs ns G Y ho hd hcd hmg hobj hints hlen hg=>?_;have KX:=hY w _ Y;obtain⟨fd,hb,hF⟩:=F w mg fa _ KX G.T.g hmg;exact law_call KX G.T.g G.T.b G.T.builtins G.T.nolimit hg hobj hints (Bm hlen hn2) hr hF hb (fun H hO hS=>hsp w H a ns hlen hO hS) fun H e s'=>hCX w H s₁ e s'
noncomputable def inClass(s:Cf)(j:Nat):Cf:=match s with
 | .ClassDef _ _ _ body _ _ _ _ _ _ _=>body.getD j (.Pass ⟨0,0,0,0⟩)
 |_=>.Pass ⟨0,0,0,0⟩
noncomputable def defArgs(s:Cf):Arguments:=match s with
 | .FunctionDef _ a _ _ _ _ _ _ _ _=>a
 |_=>{posonlyargs:=[],args:=[],vararg:=none,kwonlyargs:=[],kw_defaults:=[],kwarg:=none,defaults:=[]}
noncomputable def defBody(s:Cf):List Cf:=match s with
 | .FunctionDef _ _ b _ _ _ _ _ _ _=>b
 |_=>[]
noncomputable def defScope(s:Cf):Fn:=match s with
 | .FunctionDef _ _ _ _ _ _ sc _ _ _=>sc
 |_=>{kind:=.function,names:=[],isGenerator:=false,isCoroutine:=false}
noncomputable abbrev CX0:CXT:=fun _ _ _ _ _ _=>False
noncomputable abbrev E0:XK:=fun _ _ _=>False
theorem ze2{X:Cx}:Passes CX0 X E0:=fun _ _ _ _ _ _ _ h=>h.elim
structure Fun(K:Az)(x qual:Str)(st:Cf)(f:A7)(fd:Ep):Prop where
 ex:∃(oc:A1)(od:Option A7)(kV doc pm:A1)(an:Option A7)(cdv ct:A1)(osl:Array (Option A1)),
  fd=D6 x qual (defArgs st) (defBody st) (defScope st) .none kV doc pm an cdv ct/\K.lookup f=some ⟨oc,od,.func fd,osl⟩/\Fk K cdv qual=true
 kp:Dr K (.ref f)=true
section
variable{P:Aw}{w:Bq}{K:Az}{mg:Str->Option A1}{base:C9}
theorem Fun.ok{x qual:Str}{st:Cf}{f:A7}{fd:Ep}{N ps:List Str}{k:Nat}{sp:Sp}(F:Fun K x qual st f fd)(S:FnScope N ps (defScope st))(len:∀vs H Q E,sp vs H Q E->vs.length=ps.length)
  (hbody:∀(cdv:A1)(A:Bi)(outer:List Env)(s:A6)(H:Hp)(vs:List V)(Q:VK)(E:XK),Room k (A.deeper (envOfC qual (defScope st) s.heap.objs.size f cdv))->sp vs H Q E->
   ∃t,PSs (cxOf CX0 P w K mg base N qual (defScope st) f cdv A outer s H E).nox (defBody st) t/\t {nx:=fun _ H'=>Q .non H',rt:=Q} (start N vs) H):FnOk P w K mg base CX0 (k+1) f fd ps sp:=by
 obtain⟨oc,od,kV,doc,pm,an,cdv,ct,osl,rfl,lk,hcd⟩:=F.ex;refine zh8 lk hcd S len fun A outer s H vs Q E hr hsp=>?_;obtain⟨t,h,q⟩:=hbody cdv A outer s H vs Q E hr hsp;exact⟨t,h.nox,q⟩
theorem Fun.binds{x qual:Str}{st:Cf}{f:A7}{fd:Ep}{ps:List Str}(F:Fun K x qual st f fd)
  (h:∀(kV doc pm:A1)(an:Option A7)(cdv ct:A1)(us:List A1),us.length=ps.length->bindArgs (D6 x qual (defArgs st) (defBody st) (defScope st) .none kV doc pm an cdv ct) ⟨us,[]⟩=pure (ps.zip us)):Binds K fd ps []:=by
 obtain⟨oc,od,kV,doc,pm,an,cdv,ct,osl,rfl,lk,hcd⟩:=F.ex;exact .all (h kV doc pm an cdv ct)
theorem zhk{x qual:Str}{st:Cf}{f:A7}{oc:A1}{od an:Option A7}{osl:Array (Option A1)}{kV doc pm cdv ct:A1}(l:K.lookup f=some ⟨oc,od,.func (D6 x qual (defArgs st) (defBody st) (defScope st) .none kV doc pm an cdv ct),osl⟩)
  (c:Fk K cdv qual=true) (k:Dr K (.ref f)=true):Fun K x qual st f (D6 x qual (defArgs st) (defBody st) (defScope st) .none kV doc pm an cdv ct):=⟨⟨oc,od,kV,doc,pm,an,cdv,ct,osl,rfl,l,c⟩,k⟩
end
theorem zcS{A:Bi}{k:Nat}(hr:Room k A):A.units+1<cLine:=Nat.lt_of_le_of_lt (Nat.add_le_add_left (by decide:1<=64) _) hr.units
section
variable{X:Cx}
theorem pv(i:Nat){x:Str}{pos:Pos}(hN:X.N[i]?=some x:=by rfl)(hv:Vis X.env.scope x:=by first|exact Ao rfl|exact G6 (Ao rfl)|exact G6 (G6 rfl))(hd:(x==("__debug__":Str))=false:=by decide)
  (hcd:(x==("__classdict__":Str))=false:=by decide):PE X (.Name x pos) (tVar i):=pe_var hN hv hd hcd
theorem zfm:CallR X (.builtin "len") (fun xs H Q=>∃a kvs,xs=[V.ref a]/\H a=some (.dK kvs)/\Q (.int kvs.length) H):=by
 intro pins s σ H xs us Q I r h;obtain⟨a,kvs,rfl,ha,q⟩:=h;obtain⟨u,rfl,ru⟩:=zb3 r
 cases ru
 exact d_len I (.inl ha) fun t s' I'=>⟨.int kvs.length,H,I',⟨t,rfl⟩,q⟩
end
theorem iteF{A B:Prop}(h:B):if false=true then A else B:=by
 rw[if_neg Ah];exact h
theorem iteT{A B:Prop}(h:A):if true=true then A else B:=by
 rw[if_pos rfl];exact h
theorem ite2{c A B:Prop}[Decidable c](h1:c->A)(h2:¬c->B):if c then A else B:=by
 by_cases h:c
 ·rw[if_pos h];exact h1 h
 ·rw[if_neg h];exact h2 h
noncomputable def Same(H H':Hp):Prop:=∀b o,H b=some o->H' b=some o
theorem Same.refl(H:Hp):Same H H:=fun _ _ h=>h
theorem Same.trans{H H1 H2:Hp}(a:Same H H1)(b:Same H1 H2):Same H H2:=fun c o h=>b c o (a c o h)
theorem Same.free{H H':Hp}(e:Same H H'){l:A7}(h:H' l=Of):H l=Of:=by
 cases q:H l with
 |none=>rfl
 |some o=>
  rw[e l o q] at h
  cases h
theorem Same.seq{K:Az}{H H':Hp}{a:A7}{xs:List V}(e:Same H H')(h:SqL K H a xs):SqL K H' a xs:=by
 rcases h with(h|⟨o,h⟩)|h
 ·exact .inl (.inl (e _ _ h))
 ·exact .inl (.inr ⟨o,e _ _ h⟩)
 ·exact .inr h
section
variable{κ:Type}[DecidableEq κ]
theorem zg3:∀{l:List κ}{k:κ},l.Nodup->¬k∈l->(l++[k]).Nodup
 |[],k,_,_=>by simp
 |a::r,k,h,hk=>by
  obtain⟨h1,h2⟩:=Dw.mp h;show(a::(r++[k])).Nodup;refine Dw.mpr ⟨fun m=>?_,zg3 h2 fun m=>hk (Bo.mpr (G6 m))⟩;rcases Ap.mp m with q|q
  ·exact h1 q
  ·exact hk (Bo.mpr (Ao (A9.mp q).symm))
end
theorem zdO{κ β:Type}[BEq κ][LawfulBEq κ]{k:κ}{v:β}:∀{l:List (κ×β)},l.lookup k=some v->(k,v)∈l
 |[],h=>by simp at h
 | (a,b) :: r,h=>by
  rw[Ee] at h
  cases e:k==a with
  |true=>
   rw[e] at h;simp at h;rw[eq_of_beq e,h];exact Aj
  |false=>
   rw[e] at h;exact Ab _ (zdO h)
theorem ze4{κ β:Type}[BEq κ][LawfulBEq κ]{k:κ}{v:β}:∀{l:List (κ×β)},(k,v)∈l->∃w,l.lookup k=some w
 |[],h=>by simp at h
 | (a,b) :: r,h=>by
  rw[Ee]
  cases e:k==a with
  |true=>exact⟨b,rfl⟩
  |false=>
   rcases Bo.mp h with h|h
   ·injection h with h1 h2;rw[h1] at e;simp at e
   ·exact ze4 h
theorem closure_ok{env:Env}{scope:Fn}(h:∀x∈scope.names,x.2= .free->∃c,env.cells.lookup x.1=some c):
  ∃cl,closureFor scope env=pure cl/\(∀x c,(x,c)∈cl->(x,Cr)∈scope.names/\env.cells.lookup x=some c)/\∀x,(x,Cr)∈scope.names->∃c,(x,c)∈cl:=by
 have all:∀(names:List (Str×J5))(acc:List (Str×A7)),(∀x∈names,x.2= .free->∃c,env.cells.lookup x.1=some c)->
   ∃cl:List (Str×A7),(forIn names acc fun(x:Str×J5)(r:List (Str×A7))=>(if(x.2==Cr)=true then do let c<-cellOf env x.1;pure (E6 ((x.1,c)::r)) else pure (E6 r):Sem (ForInStep (List (Str×A7)))))=pure cl/\
    (∀x c,(x,c)∈cl->(x,c)∈acc\/((x,Cr)∈names/\env.cells.lookup x=some c))/\(∀p∈acc,p∈cl)/\∀x,(x,Cr)∈names->∃c,(x,c)∈cl:=by
  intro names
  induction names with
  |nil=>intro acc _;exact⟨acc,rfl,fun x c h=>.inl h,fun p h=>h,fun x h=>by simp at h⟩
  |cons y r ih=>
   intro acc hy;obtain⟨n,k⟩:=y;by_cases hk:k= .free
   ·subst hk;obtain⟨c,hc⟩:=hy (n,.free) Aj rfl;obtain⟨cl,e,h1,h2,h3⟩:=ih ((n,c)::acc) fun x hx=>hy x (Ab _ hx);refine⟨cl,?_,fun x d hd=>?_,fun p hp=>h2 p (Ab _ hp),fun x hx=>?_⟩
    ·rw[Kh];have hcell:cellOf env n=pure c:=by unfold cellOf;rw[hc]
     simp only[beq_self_eq_true,if_true,hcell,pure_bind];exact e
    ·rcases h1 x d hd with q|⟨q1,q2⟩
     ·rcases Bo.mp q with q|q
      ·injection q with q1 q2;subst q1 q2;exact .inr ⟨Aj,hc⟩
      ·exact .inl q
     ·exact .inr ⟨Ab _ q1,q2⟩
    ·rcases Bo.mp hx with q|q
     ·injection q with q1 _;subst q1;exact⟨c,h2 _ Aj⟩
     ·exact h3 x q
   ·obtain⟨cl,e,h1,h2,h3⟩:=ih acc fun x hx=>hy x (Ab _ hx);refine⟨cl,?_,fun x d hd=>(h1 x d hd).imp id fun q=>⟨Ab _ q.1,q.2⟩,h2,fun x hx=>?_⟩
    ·rw[Kh];have hb:(k==Cr)=false:=by simpa using hk
     simp only[hb,Bt,if_false,pure_bind];exact e
    ·rcases Bo.mp hx with q|q
     ·injection q with _ q2;exact absurd q2.symm hk
     ·exact h3 x q
 obtain⟨cl,e,h1,_,h3⟩:=all scope.names [] h;refine⟨cl,?_,fun x c q=>(h1 x c q).resolve_left (by simp),h3⟩;show((forIn scope.names ([]:List (Str×A7)) fun(x:Str×J5)(r:List (Str×A7))=>(if(x.2==Cr)=true then do let c<-cellOf env x.1;pure (E6 ((x.1,c)::r)) else pure (E6 r):Sem (ForInStep (List (Str×A7)))))>>=fun r=>pure r)=pure cl;rw[e];rfl
theorem zbC{env:Env}:∀{names:List (Str×J5)}{x:Str},names.lookup x=some .free->
  (names.map fun(n,k)=>if(k==Cr&&env.scope.kind==.function&&env.kindOf n==some .cell) then(n,J4) else(n,k)).lookup x=some .cell\/
  (names.map fun(n,k)=>if(k==Cr&&env.scope.kind==.function&&env.kindOf n==some .cell) then(n,J4) else(n,k)).lookup x=some .free
 |[],_,h=>by simp at h
 | (n,k) :: r,x,h=>by
  have ih:=@zbC env r x;show Fa x ((if(k==Cr&&env.scope.kind==.function&&env.kindOf n==some .cell)=true then(n,J4) else(n,k))::_)=_\/Fa x ((if(k==Cr&&env.scope.kind==.function&&env.kindOf n==some .cell)=true then(n,J4) else(n,k))::_)=_
  cases hx:x==n with
  |true=>
   simp only[Ee,hx] at h
   cases h
   by_cases hc:(Cr==Cr&&env.scope.kind==.function&&env.kindOf n==some .cell)=true
   ·rw[if_pos hc];simp only[Ee,hx];exact .inl trivial
   ·rw[if_neg hc];simp only[Ee,hx];exact .inr trivial
  |false=>
   simp only[Ee,hx] at h;by_cases hc:(k==Cr&&env.scope.kind==.function&&env.kindOf n==some .cell)=true
   ·rw[if_pos hc];simp only[Ee,hx];exact ih h
   ·rw[if_neg hc];simp only[Ee,hx];exact ih h
noncomputable def cxComp(X:Cx)(scope:Fn)(N:List Str)(cl:List (Str×A7))(C:A7)(s:A6)(H:Hp)(fp:List A7)(pn:List (A7×Obj)):Cx:=
 {X with N:=N,s₀:=s,H₀:=H,env:=compEnvC scope cl C X.env,outer:=X.stack,stack:=X.stack,ex:=fp,fn:=fun _=>false,pn:=pn,xe:=fun _ _=>False}
noncomputable def CapsOk(X:Cx)(scope:Fn):List (Nat×Str)->Prop
 |[]=>True
 |p::r=>(X.N[p.1]?=some p.2/\scope.names.lookup p.2=some .free/\(X.env.scope.names.lookup p.2=some .cell\/X.env.scope.names.lookup p.2=some .free))/\CapsOk X scope r
theorem CapsOk.get{X:Cx}{scope:Fn}:∀{caps:List (Nat×Str)}{j:Nat}{p:Nat×Str},CapsOk X scope caps->caps[j]?=some p->
  X.N[p.1]?=some p.2/\scope.names.lookup p.2=some .free/\(X.env.scope.names.lookup p.2=some .cell\/X.env.scope.names.lookup p.2=some .free)
 |[],_,_,_,h=>by simp at h
 |q::r,0,p,h,e=>by simp at e;subst e;exact h.1
 |q::r,j+1,p,h,e=>CapsOk.get h.2 (by simpa using e)
noncomputable def capSt(own:List Str)(caps:List (Nat×Str))(σ:St):St:=own.map (fun _=>none)++caps.map fun p=>(σ[p.1]?).join
noncomputable def CompW(J:It)(D:A7)(σ0:St)(H1:Hp)(g:TG)(tf:TT)(te:TE)(Q:VK):Prop:=∃W:Nat->Nat->St->Hp->Prop,
 (∃m,W 0 m σ0 (upd H1 D (.lst [])))/\∀i m σ' H',W i m σ' H'->
  (J.stop i H'/\Q (.ref D) H')\/(J.go i H'/\∀x H2,J.yld i H' x H2->g x σ' H2 fun σ2 H3=>tf σ2 H3 fun b H4=>
   if b=true then te σ2 H4 fun v H5=>∃ys,H5 D=some (.lst ys)/\ys.length<sizeLine/\∃m',m'<m/\W (i+1) m' σ2 (upd H5 D (.lst (ys++[v])))
   else∃m',m'<m/\W (i+1) m' σ2 H4)
noncomputable def tComp(wi:TI)(own:List Str)(caps:List (Nat×Str))(g:TG)(tf:TT)(te:TE):TE:=fun σ H Q=>wi σ H fun J H1=>∀D,H1 D=none->CompW J D (capSt own caps σ) H1 g tf te Q
noncomputable def PTs(X:Cx)(ifs:List Ce)(t:TT):Prop:=
 ∀(pins:List (A7×Obj))(s:A6)(σ:St)(H:Hp)(Q:Bool->Hp->Prop),Inv X pins σ H s->t σ H Q->wpAny (model X.prog X.w) X.A (forIn ifs true fun c r=>if r=true then do let ok<-isTrue c X.env (eval c X.env);pure (E6 ok) else pure (E6 r)) (TP X pins σ Q) X.xe s
noncomputable def tTrue:TT:=fun _ H Q=>Q true H
theorem za7{X:Cx}:PTs X [] tTrue:=fun _ _ _ H _ I h=>wpAny_tests_nil ⟨H,I,h⟩
theorem zby{X:Cx}{c:Ce}{t:TT}(h:PT X c t):PTs X [c] t:=fun pins s σ H Q I hw=>wpAny_tests_one (h pins s σ H Q I hw)
theorem comp_loop{prog:Aw}{w:Bq}{A:Bi}{R:Result->A6->Prop}{s:A6}{elt target iter:Ce}{ifs:List Ce}{scope:Fn}{pos:Pos}{it acc:A1}{env:Env}(I:Nat->A6->Prop)
  (turn:∀n s,I n s->wpAny (model prog w) A (pyNext it) (fun r s₁=>match r with
   |none=>R (.ok .next) s₁
   |some v=>wpAny (model prog w) A (letOwnedTupleGo target it v) (fun _ s₁'=>wpAny (model prog w) A (assign target env v) (fun _ s₂=>
     wpAny (model prog w) A (forIn ifs true fun c r=>if r=true then do let ok<-isTrue c env (eval c env);pure (E6 ok) else pure (E6 r)) (fun ok s₃=>
      if ok=true then wpAny (model prog w) A (eval elt env) (fun x s₄=>
       wpAny (model prog w) A (call (.builtin "list.append") [acc,x]) (fun _ s₅=>∃m,m<n/\I m s₅) (fun _ _=>False) s₄) (fun _ _=>False) s₃
      else∃m,m<n/\I m s₃) (fun _ _=>False) s₂) (fun _ _=>False) s₁') (fun _ _=>False) s₁) (fun _ _=>False) s)
  (n:Nat) (h:I n s):
  codeAny (model prog w) A (.compLoop (.ListComp elt [⟨target,iter,ifs,0⟩] scope pos) 0 it acc env) R s:=by
 refine codeAny_loop rfl I (fun n s hI=>?_) n h;show wpAny _ A ((compTurn (.ListComp elt [⟨target,iter,ifs,0⟩] scope pos) 0 it acc env).onRaise (fun x=>do noteFrame x env;theTreesLotGoes x)) _ _ s;refine wpAny_noted ?_;rw[compTurn_list];refine A0 (K3 (A0 (Dq (turn n s hI) (fun r s₁ h₁=>?_) fun _ _ h'=>h'.elim)))
 cases r with
 |none=>exact Ai h₁
 |some v=>
  refine A0 (Dq h₁ (fun _ s₁' h₁'=>?_) fun _ _ h'=>h'.elim);refine A0 (Dq h₁' (fun _ s₂ h₂=>A0 (Dq h₂ (fun ok s₃ h₃=>?_) fun _ _ h'=>h'.elim)) fun _ _ h'=>h'.elim)
  cases ok with
  |false=>exact Ai ⟨rfl,h₃⟩
  |true=>
   exact A0 (A0 (Dq h₃ (fun x s₄ h₄=>A0 (Dq h₄ (fun _ s₅ h₅=>Ai (Ai ⟨rfl,h₅⟩)) fun _ _ h'=>h'.elim)) fun _ _ h'=>h'.elim))
section
variable{X:Cx}{pins:List (A7×Obj)}{σ:St}
theorem comp_ok{H2:Hp}{s2:A6}{fp:List A7}{scope:Fn}{N:List Str}{cl:List (Str×A7)}{C:A7}(I2:Inv X pins σ H2 s2)(f2:∀b∈fp,FpOk X pins H2 b)(hC:s2.heap.objs.size<C)
  (hfs:∀b∈fp,b<s2.heap.objs.size) (hkind:scope.kind= .function) (hcl:∀x c,cl.lookup x=some c->X.env.cells.lookup x=some c)
  (hhas:∀x,((relabel scope X.env).names.lookup x=some .cell\/(relabel scope X.env).names.lookup x=some .free)->∃c,cl.lookup x=some c):
  (cxComp X scope N cl C s2 H2 fp (X.pn++pins)).Ok where
 mod:=I2.ok.mod
 kind:=hkind
 glob:=I2.ok.glob
 blt:=I2.ok.blt
 above:=Ex hC
 inj:=fun x y c h1 h2=>I2.ok.inj x y c (hcl x c h1) (hcl y c h2)
 has:=hhas
 cab:=fun _ _ h _=>by cases h
 hd:=I2.ok.hd
 frames:=I2.ok.frames
 stk:=.inl rfl
 exf:=fun b hb=>⟨Br (Gu (hfs b hb) hC),fun x c e=>(f2 b hb).2.2.2.2.1 x c (hcl x c e)⟩
 bs:=I2.bs
 bsz:=Bm I2.ok.bsz I2.sz
 noex:=fun b o e hb=>by
  rcases(f2 b hb).2.2.2.1 with z|z
  ·exact I2.ok.noex b o e z
  ·exact absurd (Ak (Au e) (Bm I2.ok.bsz z)) (E5 _)
 exfs:=fun b hb z=>(Bo.mp (I2.stkSub b z)).elim (f2 b hb).2.1 (f2 b hb).2.2.1
 funs:=I2.stack
 frf:=I2.stkFree
theorem comp_start{H2:Hp}{s2:A6}{fp:List A7}{scope:Fn}{own:List Str}{caps:List (Nat×Str)}{cl:List (Str×A7)}{D C:A7}{h1:C9}{tk:Nat}{m:Str->Option A1}
  (I2:Inv X pins σ H2 s2) (f2:∀b∈fp,FpOk X pins H2 b) (hC:@Eq Nat C (s2.heap.objs.size+1)) (hD:@Eq Nat D s2.heap.objs.size)
  (hfs:∀b∈fp,b<s2.heap.objs.size) (hkind:scope.kind= .function) (hcl:∀x c,cl.lookup x=some c->X.env.cells.lookup x=some c)
  (hhas:∀x,((relabel scope X.env).names.lookup x=some .cell\/(relabel scope X.env).names.lookup x=some .free)->∃c,cl.lookup x=some c)
  (hcap:CapsOk X scope caps) (hns:h1.Ns C m) (old:∀b o,s2.heap.get? b=some o->h1.get? b=some o) (hlst:∃n,h1.get? D=some {cls:=.type "list",data:=.seq #[] n}):
  Inv (cxComp X scope (own++caps.map (·.2)) cl C s2 H2 fp (X.pn++pins)) [] (capSt own caps σ) (upd H2 D (.lst [])) {s2 with heap:=h1,toks:=tk}:=by
 have hCs:s2.heap.objs.size<C:=by omega
 have hDn:H2 D=none:=I2.hok.fresh (by omega);have hCn:H2 C=none:=I2.hok.fresh (by omega);have hCD:C≠D:=by show¬@Eq Nat C D;omega
 have hDs:s2.heap.objs.size<=D:=by show @LE.le Nat _ s2.heap.objs.size D;omega
 have new:ObjOk X.prog X.w (upd H2 D (.lst [])) h1 D (.lst []):=let ⟨n,e⟩:=hlst;⟨Bz _,[],n,.nil,e⟩;refine⟨comp_ok I2 f2 hCs hfs hkind hcl hhas,rfl,I2.bare,Un.laid old hDs hDn,⟨m,hns,fun i x v e1 e2 e3=>?_⟩,fun x c e=>?_,?_,fun x c e=>?_,fun p hp=>?_,I2.hok.laid old hDs new,?_⟩
 ·--a captured name
  have e2':(capSt own caps σ)[i]?=some (some v):=e2;unfold capSt at e2';by_cases hi:i<own.length
  ·rw[Co (by simpa using hi),Ad] at e2'
   cases q:own[i]? with
   |none=>rw[q] at e2';cases e2'
   |some y=>rw[q] at e2';cases e2'
  ·have hle:own.length<=i:=Kb hi;rw[Cb (by simpa using hle),Ad,A3] at e2';have e1':(own++caps.map (·.2))[i]?=some x:=e1;rw[Cb hle,Ad] at e1'
   cases q:caps[i-own.length]? with
   |none=>rw[q] at e2';cases e2'
   |some p=>
    rw[q] at e2' e1';have ex:p.2=x:=C1 e1';have ev:(σ[p.1]?).join=some v:=C1 e2';obtain⟨hN,hf,hv⟩:=hcap.get q;have hσ:σ[p.1]?=some (some v):=by
     cases r:σ[p.1]? with
     |none=>rw[r] at ev;cases ev
     |some y=>rw[r] at ev;rw[show y=some v from ev]
    obtain⟨mX,_,hl⟩:=I2.loc;obtain⟨u,ru,lk⟩:=hl p.1 p.2 v hN hσ (.inr hv);subst ex;refine⟨u,ru,.inr ⟨zbC hf,?_⟩⟩;rcases lk with⟨k,_⟩|⟨_,c,e,z⟩
    ·have k':X.env.scope.names.lookup p.2=some .local:=k;rw[k'] at hv;rcases hv with z|z<;>cases z
    ·obtain⟨c',e'⟩:=hhas p.2 (zbC hf);have e2:=hcl p.2 c' e';rw[e] at e2
     cases e2
     obtain⟨o,ho,hd⟩:=z;exact⟨c,e',o,old c o ho,hd⟩
 ·obtain⟨v,o,ho,hd⟩:=I2.cell x c (hcl x c e);exact⟨v,o,old c o ho,hd⟩
 ·show upd H2 D (.lst []) C=none;rw[zag hCD];exact hCn
 ·obtain⟨v,q⟩:=I2.cell x c (hcl x c e);rw[zag (Br (Ak q.lt hDs))];exact I2.freeC x c (hcl x c e)
 ·have hp':p∈X.pn++pins:=by
   have hp2:p∈(X.pn++pins)++[]:=hp;rwa[Ci] at hp2
  obtain⟨e,n,ne,nf,d⟩:=I2.pin p hp';have lt:=Au e;refine⟨old p.1 p.2 e,by rw[zag (Br (Ak lt hDs))];exact n,?_,fun z=>(Bo.mp (I2.stkSub p.1 z)).elim ne nf,d⟩;exact Br (Gu lt hCs)
 ·show(capSt own caps σ).length=(own++caps.map (·.2)).length;unfold capSt;simp
theorem comp_back{H2 H':Hp}{s2 s':A6}{fp:List A7}{scope:Fn}{N:List Str}{cl:List (Str×A7)}{C:A7}{σ':St}{pn:List (A7×Obj)}(I2:Inv X pins σ H2 s2)(f2:∀b∈fp,FpOk X pins H2 b)
  (J:Inv (cxComp X scope N cl C s2 H2 fp pn) [] σ' H' s'):Inv X pins σ H' s':=
 I2.call' (s':=s') (ch:=fp) J.os J.base J.hok J.bare fun b hb=>⟨(f2 b hb).2.2.2.1,(f2 b hb).2.1,(f2 b hb).2.2.2.2.1,(f2 b hb).2.2.2.2.2⟩
theorem Inv.gone{H:Hp}{s:A6}{C:A7}{h':C9}(I:Inv X pins σ H s)(hs:Fw C s.heap h')(hn:H C=none)(h0:X.s₀.heap.objs.size<=C)(hL:C≠X.env.locals)(h2:∀x c,X.env.cells.lookup x=some c->c≠C)(h3:∀p∈X.pn++pins,p.1≠C):
  Inv X pins σ H {s with heap:=h'}:=I.turned (t':=s.toks) (fun b o hb e=>(hs.2 b hb).trans e) hn hL (.inr h0) h2 h3
end
theorem free_of_relabel{env:Env}{scope:Fn}{x:Str}(hcell:∀y∈scope.names,y.2≠.cell)(h:(relabel scope env).names.lookup x=some .cell\/(relabel scope env).names.lookup x=some .free):(x,Cr)∈scope.names:=by
 have all:∀k,(relabel scope env).names.lookup x=some k->(k= .cell\/k= .free)->(x,Cr)∈scope.names:=by
  intro k e hk;have m:=zdO e;obtain⟨⟨n,j⟩,hm,q⟩:=Aa.mp (show(x,k)∈scope.names.map _ from m);dsimp only at q;by_cases c:(j==Cr&&env.scope.kind==.function&&env.kindOf n==some .cell)=true
  ·rw[if_pos c] at q;injection q with q1 q2;subst q1;have jf:j= .free:=by
    simp only[Cp] at c;exact eq_of_beq c.1.1
   rw[<-jf];exact hm
  ·rw[if_neg c] at q;injection q with q1 q2;subst q1 q2;rcases hk with z|z
   ·exact absurd z (hcell _ hm)
   ·rw[z] at hm;exact hm
 rcases h with h|h
 ·exact all _ h (.inl rfl)
 ·exact all _ h (.inr rfl)
structure Steps(Y:Cx)(tg:Ce)(J:It)(fp:List A7)(it:A7)(tn:Nat->C9->Prop):Prop where
 item:∀(i:Nat)(pins:List (A7×Obj))(s:A6)(σ:St)(H:Hp)(E:A1->A6->Prop),Inv Y pins σ H s->(∀b∈fp,FpOk Y pins H b)->tn i s.heap->J.go i H->
  wpAny (model Y.prog Y.w) Y.A (pyNext (.ref it)) (fun r s1=>∃u,r=some u/\
   wpAny (model Y.prog Y.w) Y.A (letOwnedTupleGo tg (.ref it) u) (fun _ s2=>∃x H',Inv Y pins σ H' s2/\RelV x u/\J.yld i H x H'/\tn (i+1) s2.heap/\∀b∈fp,H' b=none) E s1) E s
 done:∀(i:Nat)(pins:List (A7×Obj))(s:A6)(σ:St)(H:Hp)(E:A1->A6->Prop),Inv Y pins σ H s->(∀b∈fp,FpOk Y pins H b)->tn i s.heap->J.stop i H->
  wpAny (model Y.prog Y.w) Y.A (pyNext (.ref it)) (fun r s1=>r=none/\Inv Y pins σ H s1) E s
structure Trn(P:Aw)(w:Bq)(K:Az)(Z:Cx->Prop)(tg:Ce)(J:It)(fp:List A7)(it:A7)(tn:Nat->C9->Prop):Prop where
 obj:∀i h,tn i h->∀b∈fp,∃o,h.get? b=some o/\∀v,o.data≠.cell v
 keep:∀i h h',tn i h->(∀b∈fp,∀o,h.get? b=some o->h'.get? b=some o)->tn i h'
 steps:∀Y:Cx,Y.prog=P->Y.w=w->Y.K=K->Z Y->Steps Y tg J fp it tn
 self:∀(A:Bi)(i:Nat)(s:A6)(Q:A1->A6->Prop)(E:A1->A6->Prop),tn i s.heap->Q (.ref it) s->wpAny (model P w) A (pyIter (.ref it)) Q E s
noncomputable def PIEq(Z:Cx->Prop)(X:Cx)(pins:List (A7×Obj))(σ:St)(tg:Ce)(R:It->Hp->Prop)(itv:A1)(s2:A6):Prop:=
 ∃(it:A7)(fp:List A7)(tn:Nat->C9->Prop)(J:It)(H':Hp),itv= .ref it/\Inv X pins σ H' s2/\Trn X.prog X.w X.K Z tg J fp it tn/\tn 0 s2.heap/\(∀b∈fp,FpOk X pins H' b)/\R J H'
noncomputable def PIq(Z:Cx->Prop)(X:Cx)(tg iter:Ce)(wi:TI):Prop:=
 ∀(pins:List (A7×Obj))(s:A6)(σ:St)(H:Hp)(R:It->Hp->Prop),Inv X pins σ H s->wi σ H R->
  wpAny (model X.prog X.w) X.A (eval iter X.env) (fun v s1=>wpAny (model X.prog X.w) X.A (pyIter v) (PIEq Z X pins σ tg R) X.xe s1) X.xe s
theorem PI.q{X:Cx}{tg iter:Ce}{wi:TI}(h:PI X tg iter wi):PIq (fun Y=>Y.calm=true) X tg iter wi:=fun pins s σ H R I q=>
 thn (h pins s σ H R I q) fun v s1 h1=>thn h1 fun itv s2 h2=>by
  obtain⟨it,fp,tn,J,H',e,I',T,t0,f,r⟩:=h2;exact⟨it,fp,tn,J,H',e,I',⟨T.obj,T.keep,fun Y hP hw hK hz=>⟨fun i pins s σ H E=>hP▸hw▸T.item Y hP hw hK hz i pins s σ H E,fun i pins s σ H E=>hP▸hw▸T.done Y hP hw hK hz i pins s σ H E⟩,T.self⟩,t0,f,r⟩
section
variable{X:Cx}{elt target iter:Ce}{ifs:List Ce}{scope:Fn}{pos:Pos}{own:List Str}{caps:List (Nat×Str)}{wi:TI}{g:TG}{tf:TT}{te:TE}
structure CompScope(X:Cx)(scope:Fn)(caps:List (Nat×Str)):Prop where
 kind:scope.kind= .function
 cell:(scope.names.all fun y=> !(y.2==.cell))=true
 names:(scope.names.all fun y=> !(y.2==.local)||scope.names.lookup y.1==some .local)=true
 free:(scope.names.all fun y=> !(y.2==.free)||(X.env.scope.names.lookup y.1==some .cell||X.env.scope.names.lookup y.1==some .free))=true
 caps:CapsOk X scope caps
theorem zfi{use:Option (A1->Sem Unit)}{R:A1->A6->Prop}{pins:List (A7×Obj)}{σ:St}{s:A6}{H:Hp}{Q:VK}(Z:Cx->Prop)(hc:∀cl C s H fp pins,Z (cxComp X scope (own++caps.map (·.2)) cl C s H fp (X.pn++pins)))(S:CompScope X scope caps)(hi:PIq Z X target iter wi)
  (hg:∀cl C s H fp pn,PG (cxComp X scope (own++caps.map (·.2)) cl C s H fp pn) target g)
  (ht:∀cl C s H fp pn,PTs (cxComp X scope (own++caps.map (·.2)) cl C s H fp pn) ifs tf)
  (he:∀cl C s H fp pn,PE (cxComp X scope (own++caps.map (·.2)) cl C s H fp pn) elt te)
  (I:Inv X pins σ H s) (h:tComp wi own caps g tf te σ H Q)
  (fin:∀D C H' s' m,Inv X pins σ H' s'->s'.heap.Ns C m->H' C=none->X.s₀.heap.objs.size<=C->C≠X.env.locals->(∀x c,X.env.cells.lookup x=some c->c≠C)->(∀p∈X.pn++pins,p.1≠C)->Q (.ref D) H'->
   compPost (model X.prog X.w) X.A X.xe use R (.ref D) C (.ok .next) s')
  (hs:∀x,foldedSetIterable iter X.env x=pure x):
  wpAny (model X.prog X.w) X.A (comprehension (.ListComp elt [⟨target,iter,ifs,0⟩] scope pos) scope X.env (firstIterPos [⟨target,iter,ifs,0⟩] pos) (newList []) false (eval iter X.env) use) R X.xe s:=by
 have hcell:∀y∈scope.names,y.2≠.cell:=fun y hy z=>by
  have:=Da.mp S.cell y hy;rw[z] at this;cases this
 have hnames:∀y∈scope.names,y.2= .local->scope.names.lookup y.1=some .local:=fun y hy z=>by
  have:=Da.mp S.names y hy;rw[z] at this;simpa using this
 have hfree:∀y∈scope.names,y.2= .free->X.env.scope.names.lookup y.1=some .cell\/X.env.scope.names.lookup y.1=some .free:=fun y hy z=>by
  have:=Da.mp S.free y hy;rw[z] at this;simpa using this
 obtain⟨cl,hclos,hcl0,hcl1⟩:=closure_ok (env:=X.env) (scope:=scope) fun y hy z=>I.ok.has y.1 (hfree y hy z);have hcl:∀x c,cl.lookup x=some c->X.env.cells.lookup x=some c:=fun x c e=>(hcl0 x c (zdO e)).2;have hhas:∀x,((relabel scope X.env).names.lookup x=some .cell\/(relabel scope X.env).names.lookup x=some .free)->∃c,cl.lookup x=some c:=fun x hx=>by
  obtain⟨c,hm⟩:=hcl1 x (free_of_relabel hcell hx);exact ze4 hm
 refine wpAny_comprehension_free (g:=⟨target,iter,ifs,0⟩) (gs:=[]) rfl hs hclos S.kind hnames (thn (hi pins s σ H _ I h) fun v s1 h1=>thn h1 fun itv s2 h2=>?_);obtain⟨it,fp,tn,J,H2,e,I2,T,st2,f2,cont⟩:=h2;subst e;obtain⟨W,⟨m0,w0⟩,turn⟩:=cont s2.heap.objs.size (I2.hok.fresh (Ac _));refine Ga (wpAny_newFunctionEnv hcell (by intro y hy;simp at hy) (fun h₁ hns₁ hsb₁=>?_) S.kind);dsimp only at hns₁ hsb₁⊢;generalize hH2:s2.heap.push {cls:=.type "list",dict:=none,data:=.seq ([]:List A1).toArray}=HL at hns₁ hsb₁⊢;have hC:HL.objs.size=s2.heap.objs.size+1:=by rw[<-hH2,Fc]
 have hfs:∀b∈fp,b<s2.heap.objs.size:=fun b hb=>let ⟨_,e,_⟩:=T.obj 0 _ st2 b hb;Au e;have old:∀b o,s2.heap.get? b=some o->h₁.get? b=some o:=fun b o e=>
  hsb₁.extBut b o (by rw[hC];exact Br (G3 (Au e))) (Ae _ (hH2▸Ae _ e))
 have hlst:∃n,h₁.get? s2.heap.objs.size=some {cls:=.type "list",data:=.seq #[] n}:=⟨_,hsb₁.extBut _ _ (by rw[hC];exact Br (Et _)) (Ae _ (hH2▸Ba _ rfl))⟩;have I4:Inv (cxComp X scope (own++caps.map (·.2)) cl HL.objs.size s2 H2 fp (X.pn++pins)) [] (capSt own caps σ) (upd H2 s2.heap.objs.size (.lst [])) {s2 with heap:=h₁,toks:=s2.toks+([]:List (Str×A1)).length}:=
  comp_start I2 f2 hC rfl hfs S.kind hcl hhas S.caps hns₁ old hlst
 have st4:tn 0 h₁:=T.keep 0 _ _ st2 fun b hb o e=>old b o e;have fr4:∀b∈fp,upd H2 s2.heap.objs.size (.lst []) b=none:=fun b hb=>by
  rw[zag (Br (hfs b hb))];exact(f2 b hb).1
 have hCs:s2.heap.objs.size<HL.objs.size:=by rw[hC];exact Et _
 have loop:codeAny (model X.prog X.w) X.A (.compLoop (.ListComp elt [⟨target,iter,ifs,0⟩] scope pos) 0 (.ref it) (.ref s2.heap.objs.size) (compEnvC scope cl HL.objs.size X.env))
   (compPost (model X.prog X.w) X.A X.xe use R (.ref s2.heap.objs.size) HL.objs.size) {s2 with heap:=h₁,toks:=s2.toks+([]:List (Str×A1)).length}:=by
  refine comp_loop (fun n s'=>∃i σ' H',Inv (cxComp X scope (own++caps.map (·.2)) cl HL.objs.size s2 H2 fp (X.pn++pins)) [] σ' H' s'/\tn i s'.heap/\(∀b∈fp,H' b=none)/\W i n σ' H') ?_ m0 ⟨0,_,_,I4,st4,fr4,w0⟩;have U:=T.steps (cxComp X scope (own++caps.map (·.2)) cl HL.objs.size s2 H2 fp (X.pn++pins)) rfl rfl rfl (hc _ _ _ _ _ _);rintro n s3⟨i,σ3,H3,I3,st3,fr3,w3⟩;have stat:∀{H':Hp},(∀b∈fp,H' b=none)->∀b∈fp,FpOk (cxComp X scope (own++caps.map (·.2)) cl HL.objs.size s2 H2 fp (X.pn++pins)) [] H' b:=fun{H'}hn b hb=>by
   refine⟨hn b hb,(I3.ok.exf b hb).1,I3.ok.exfs b hb,.inl hb,(I3.ok.exf b hb).2,fun p hp=>?_⟩;have hp':p∈X.pn++pins:=by
    have hp2:p∈(X.pn++pins)++[]:=hp;rwa[Ci] at hp2
   exact(f2 b hb).2.2.2.2.2 p hp'
  rcases turn i n σ3 H3 w3 with⟨stop,qn⟩|⟨go,step⟩
  ·refine thn (U.done i [] s3 σ3 H3 _ I3 (stat fr3) st3 stop) fun r s4⟨hr,I4⟩=>?_;subst hr;obtain⟨m,hm,_⟩:=I4.loc;refine fin s2.heap.objs.size HL.objs.size H3 s4 m (comp_back I2 f2 I4) hm I4.free (Bm I2.sz (Ex hCs)) (Ma (Gu I2.lt hCs)) (fun x c e z=>?_) (fun p hp z=>?_) qn
   ·obtain⟨v,q⟩:=I2.cell x c e;exact absurd (Gu q.lt hCs) (by rw[z];exact E5 _)
   ·exact absurd (Gu (Au (I2.pin p hp).1) hCs) (by rw[z];exact E5 _)
  ·refine thn (U.item i [] s3 σ3 H3 _ I3 (stat fr3) st3 go) fun r s4⟨u,hr,h4⟩=>?_;subst hr;refine thn h4 fun _ s5⟨x,H5,I5,r5,y5,st5,fr5⟩=>?_;have I5':=I5.pinned (stat fr5) (T.obj _ _ st5);refine thn (hg cl HL.objs.size s2 H2 fp (X.pn++pins) _ s5 σ3 H5 x u _ I5' r5 (step x H5 y5)) fun _ s6⟨σ6,H6,I6,q6⟩=>?_;refine thn (ht cl HL.objs.size s2 H2 fp (X.pn++pins) _ s6 σ6 H6 _ I6 q6) fun b s7⟨H7,I7,q7⟩=>?_;have again:∀{σ8:St}{H8:Hp}{s8:A6}{m':Nat},Inv (cxComp X scope (own++caps.map (·.2)) cl HL.objs.size s2 H2 fp (X.pn++pins)) ([]++pinsAt fp s5.heap) σ8 H8 s8->m'<n->W (i+1) m' σ8 H8->
     ∃m,m<n/\∃i σ' H',Inv (cxComp X scope (own++caps.map (·.2)) cl HL.objs.size s2 H2 fp (X.pn++pins)) [] σ' H' s8/\tn i s8.heap/\(∀b∈fp,H' b=none)/\W i m σ' H':=fun{σ8 H8 s8 m'}I8 hm w8=>by
    refine⟨m',hm,i+1,σ8,H8,I8.unpinned,T.keep _ _ _ st5 fun b hb o e=>(I8.pin (b,o) (Bl _ (Bl _ (zci hb e)))).1,fun b hb=>?_,w8⟩;obtain⟨o,e,d⟩:=T.obj _ _ st5 b hb;exact(I8.pin (b,o) (Bl _ (Bl _ (zci hb e)))).2.1
   cases b with
   |false=>
    rw[if_neg Ah] at q7⊢;obtain⟨m',hm,w7⟩:=q7;exact again I7 hm w7
   |true=>
    rw[if_pos rfl] at q7⊢;refine thnE (he cl HL.objs.size s2 H2 fp (X.pn++pins) _ s7 σ6 H7 _ I7 q7) fun y s8 v H8 I8 r8⟨ys,hy,hz,m',hm,w8⟩=>?_;refine thn (zaE _ s8 σ6 H8 (.ref s2.heap.objs.size) [v] (.ref s2.heap.objs.size) [y] (fun _ H9=>H9=upd H8 s2.heap.objs.size (.lst (ys++[v]))) I8 rfl (.cons r8 .nil) ⟨_,ys,v,rfl,rfl,hy,hz,rfl⟩) fun z s9⟨_,H9,I9,_,e9⟩=>?_;subst e9;exact again I9 hm w8
 exact codeAny_compStart_list loop (T.self _ 0 _ _ _ st4 loop)
theorem zaL(hc:X.calm=true)(S:CompScope X scope caps)(hi:PI X target iter wi)
  (hg:∀cl C s H fp pn,PG (cxComp X scope (own++caps.map (·.2)) cl C s H fp pn) target g)
  (ht:∀cl C s H fp pn,PTs (cxComp X scope (own++caps.map (·.2)) cl C s H fp pn) ifs tf)
  (he:∀cl C s H fp pn,PE (cxComp X scope (own++caps.map (·.2)) cl C s H fp pn) elt te)
  (hs:∀x,foldedSetIterable iter X.env x=pure x:=by intro _;rfl):PE X (.ListComp elt [⟨target,iter,ifs,0⟩] scope pos) (tComp wi own caps g tf te):=by
 intro pins s σ H Q I h;rw[eval_ListComp];refine zfi (Q:=Q) (fun Y=>Y.calm=true) (fun _ _ _ _ _ _=>hc) S hi.q hg ht he I h (fun D C H' s' m I' hm hn h0 hL h2 h3 q=>?_) hs;exact⟨m,hm,fun h' hs'=>⟨.ref D,H',I'.gone hs' hn h0 hL h2 h3,rfl,q⟩⟩
theorem zey{i:Nat}{x:Str}{pos' spos:Pos}(hN:X.N.Nodup)(hn:X.N[i]?=some x)(hx:Loc X.env.scope x)(hc:X.calm=true)(S:CompScope X scope caps)(hi:PI X target iter wi)
  (hg:∀cl C s H fp pn,PG (cxComp X scope (own++caps.map (·.2)) cl C s H fp pn) target g)
  (ht:∀cl C s H fp pn,PTs (cxComp X scope (own++caps.map (·.2)) cl C s H fp pn) ifs tf)
  (he:∀cl C s H fp pn,PE (cxComp X scope (own++caps.map (·.2)) cl C s H fp pn) elt te)
  (hsw:swapsWith (.ListComp elt [⟨target,iter,ifs,0⟩] scope pos) (some (.Name x pos')) spos.line X.env=pure true:=by rfl)
  (hf:X.fn x=true\/X.env.scope.names.lookup x=some .local:=by first|exact .inl rfl|exact .inr rfl|assumption)
  (hs:∀x,foldedSetIterable iter X.env x=pure x:=by intro _;rfl):PS X (.Assign [.Name x pos'] (.ListComp elt [⟨target,iter,ifs,0⟩] scope pos) spos) (tAsg (tComp wi own caps g tf te) (gName i)):=by
 intro pins s σ H D I h;rw[exec_Assign_Name_used _ _ _ _ hsw];refine A0 (K3 (A0 ?_));show wpAny _ _ (do let _<-comprehension (.ListComp elt [⟨target,iter,ifs,0⟩] scope pos) scope X.env _ (newList []) false (eval iter X.env) (some (assign (.Name x pos') X.env))) _ _ s;refine A0 (Dq (zfi (use:=some (assign (.Name x pos') X.env)) (R:=fun _ s'=>SP X pins D .next s') (Q:=fun v H1=>gName i v σ H1 D.nx) (fun Y=>Y.calm=true) (fun _ _ _ _ _ _=>hc) S hi.q hg ht he I h (fun Dl C H' s' m I' hm hnC h0 hL h2 h3 q=>?_) hs)
  (fun _ s' hq=>Ai (Ai hq)) fun _ _ e=>e)
 show wpAny _ _ (assign (.Name x pos') X.env (.ref Dl)) _ _ s';refine On (zeT I' hN hn hx (show RelV (.ref Dl) (.ref Dl) from rfl) (fun s'' I'' sb=>?_) hf);obtain⟨a,hsb,ha⟩:=sb;have hCa:C≠a:=by
  rcases ha with z|z
  ·rw[z];exact hL
  ·exact E7 (h2 x a z)
 exact⟨m,hm.sameBut hsb hCa,fun h' hs'=>⟨_,H',I''.gone hs' hnC h0 hL h2 h3,q⟩⟩
end
noncomputable def sgn(c:Nat):V:=.str ⟨#[c]⟩
noncomputable def Its(x:Str):It:=⟨fun i _=>i<x.cps.size,fun i H v H'=>H'=H/\∃c,x.cps[i]?=some c/\v=sgn c,fun i _=>i=x.cps.size⟩
theorem zfM{P:Aw}{w:Bq}{K:Az}{tg:Ce}(it:A7)(x:Str)(t:Tok)(ty:String)
  (hty:["enumerate","zip","dict_itemiterator","dict_reverseitemiterator","odict_iterator","itertools.zip_longest","itertools.pairwise"].contains ty=false)
  (W:∀A:Bi,A.handled=none->Walks P w A it [it] [it] x.cps.size (SignAt x) (fun i h=>h.IsStrIter it ty x t i))
  (sf:∀(A:Bi)(i:Nat)(s:A6)(Q:A1->A6->Prop)(E:A1->A6->Prop),s.heap.IsStrIter it ty x t i->Q (.ref it) s->wpAny (model P w) A (pyIter (.ref it)) Q E s):
  Turn P w K tg (Its x) [it] it (fun i h=>h.IsStrIter it ty x t i) where
 mem:=by simp
 obj:=fun i h st b hb=>by
  have e:b=it:=by simpa using hb
  subst e;obtain⟨o,e,c,d⟩:=st;exact⟨o,e,fun v z=>by rw[d] at z;cases z⟩
 keep:=fun i h h' st k=>by
  obtain⟨o,e,r⟩:=st;exact⟨o,k it (by simp) o e,r⟩
 item:=by
  intro X hP hw hK hc i pins s σ H E I hf st hg;subst hP hw hK;obtain⟨f0,f1,f2,f3,f4,f5⟩:=hf it (by simp);refine(W X.A (I.ok.hd hc)).item i s _ _ hg st fun v h' tk hv st' kk=>?_;obtain⟨c,u,hc',rfl⟩:=hv;have I1:Inv X pins σ H {s with heap:=h',toks:=tk}:=I.turned (fun b o hb e=>kk b o (by simpa using hb) e) f0 f1 f3 f4 f5;obtain⟨o,e,cc,d⟩:=id st';exact⟨_,rfl,zhh (s:={s with heap:=h',toks:=tk}) e cc d hty ⟨sgn c,H,I1,⟨u,rfl⟩,⟨rfl,c,hc',rfl⟩,st',fun b hb=>(hf b hb).1⟩⟩
 done:=by
  intro X hP hw hK hc i pins s σ H E I hf st hg;subst hP hw hK;obtain⟨f0,f1,f2,f3,f4,f5⟩:=hf it (by simp);have hi:i=x.cps.size:=hg;subst hi;exact(W X.A (I.ok.hd hc)).done s _ _ st fun h' tk kk=>⟨rfl,I.turned (fun b o hb e=>kk b o (by simpa using hb) e) f0 f1 f3 f4 f5⟩
 self:=fun A i s Q E st h=>sf A i s Q E st h
section
variable{X:Cx}{tg:Ce}
noncomputable def iStr(tl:TE):TI:=fun σ H R=>tl σ H fun v H1=>∃x,v= .str x/\R (Its x) H1
theorem zhK{l:Ce}{tl:TE}(hl:PE X l tl):PI X tg l (iStr tl):=by
 intro pins s σ H R I h;refine thnE (hl pins s σ H _ I h) fun v s1 y H1 I1 r1 q1=>?_;obtain⟨x,e,q⟩:=q1;subst e;obtain⟨t,rfl⟩:=r1;have hf:∀o:Obj,∀b∈[s1.heap.objs.size],FpOk X pins H1 b:=fun o b hb=>by
  have e:b=s1.heap.objs.size:=by simpa using hb
  subst e;exact I1.fpOk (Ac _) (I1.hok.fresh (Ac _))
 cases ha:x.cps.all (· <128)
 ·exact wpAny_pyIter_wide ha ⟨s1.heap.objs.size,[s1.heap.objs.size],_,_,H1,rfl,I1.kept (t':=s1.toks) fun b o e=>Ae _ e,
   zfM _ x t "str_iterator" (by decide) (fun A hA=>Walks.strWide hA _ x t) (fun A i s Q E st h=>wpAny_pyIter_striter_wide st h),⟨_,Ba _ rfl,rfl,rfl⟩,hf default,q⟩
 ·exact wpAny_pyIter_ascii ha ⟨s1.heap.objs.size,[s1.heap.objs.size],_,_,H1,rfl,I1.kept (t':=s1.toks) fun b o e=>Ae _ e,
   zfM _ x t "str_ascii_iterator" (by decide) (fun A hA=>Walks.strAscii hA _ x t) (fun A i s Q E st h=>wpAny_pyIter_striter_ascii st h),⟨_,Ba _ rfl,rfl,rfl⟩,hf default,q⟩
end
structure Gives(J:It)(Ok:Hp->Prop)(L:List V):Prop where
 go:∀i H,Ok H->i<L.length->J.go i H
 yld:∀i H x H',Ok H->J.yld i H x H'->i<L.length->H'=H/\L[i]?=some x
 stop:∀H,Ok H->J.stop L.length H
theorem zaP(lo:Int)(n:Nat):Gives (Itr lo n) (fun _=>True) ((A4 n).map fun i=>V.int (lo+(i:Nat))) where
 go:=fun i H _ h=>by
  have:i<n:=by simpa using h
  exact this
 yld:=fun i H x H' _ y h=>by
  obtain⟨e,rfl⟩:=y;have:i<n:=by simpa using h
  exact⟨e,by simp[this]⟩
 stop:=fun H _=>by
  show n<=_;simp
theorem zfd(x:Str):Gives (Its x) (fun _=>True) (x.cps.toList.map sgn) where
 go:=fun i H _ h=>by
  have:i<x.cps.size:=by simpa using h
  exact this
 yld:=fun i H v H' _ y h=>by
  obtain⟨e,c,hc,rfl⟩:=y;refine⟨e,?_⟩;rw[Ad];simp[hc]
 stop:=fun H _=>by
  show _=x.cps.size;simp
theorem zaj(K:Az)(a:A7)(xs:List V):Gives (Itl K a) (fun H=>SqL K H a xs) xs where
 go:=fun i H q h=>⟨xs,xs[i],q,by simp[h]⟩
 yld:=fun i H v H' q y h=>⟨y.1,y.2 xs q⟩
 stop:=fun H q=>⟨xs,q,Ac _⟩
theorem gives_tup(K:Az)(a:A7)(xs:List V):Gives (Itt K a) (fun H=>SqT K H a xs) xs where
 go:=fun i H q h=>⟨xs,xs[i],q,by simp[h]⟩
 yld:=fun i H v H' q y h=>⟨y.1,y.2 xs q⟩
 stop:=fun H q=>⟨xs,q,Ac _⟩
theorem zbE{J:It}{Ok:Hp->Prop}{L:List V}{g:TG}{tb:TS}{D:Ends}{σ:St}{H:Hp}(G:Gives J Ok L)(Pv:Nat->St->Hp->Prop)(h0:Pv 0 σ H)(hk:∀i σ H,i<=L.length->Pv i σ H->Ok H)
  (hs:∀i x σ H,L[i]?=some x->Pv i σ H->g x σ H fun σ2 H2=>tb {D with nx:=Pv (i+1),ct:=Pv (i+1),bk:=D.nx} σ2 H2) (hd:∀σ H,Pv L.length σ H->D.nx σ H):
  ∃W:Nat->Nat->St->Hp->Prop,(∃m,W 0 m σ H)/\∀i m σ H,W i m σ H->
   (J.stop i H/\D.nx σ H)\/(J.go i H/\∃N:St->Hp->Prop,(∀σ' H',N σ' H'->∃m',m'<m/\W (i+1) m' σ' H')/\∀x H',J.yld i H x H'->g x σ H' fun σ2 H2=>tb {D with nx:=N,ct:=N,bk:=D.nx} σ2 H2):=by
 refine⟨fun i m σ H=>m=L.length-i/\i<=L.length/\Pv i σ H,⟨L.length,by simp,Bz _,h0⟩,?_⟩;rintro i m σ H⟨rfl,hi,p⟩;have q:=hk i σ H hi p;by_cases hlt:i<L.length
 ·refine .inr ⟨G.go i H q hlt,Pv (i+1),fun σ' H' p'=>⟨L.length-(i+1),by omega,rfl,hlt,p'⟩,fun x H' y=>?_⟩;obtain⟨e,yy⟩:=G.yld i H x H' q y hlt;subst e;exact hs i x σ _ yy p
 ·have e:i=L.length:=by omega
  subst e;exact .inl ⟨G.stop H q,hd σ H p⟩
noncomputable def CNext(D:A7)(L:List V)(Pv:Nat->List V->St->Hp->Prop)(i:Nat)(σ2:St)(v:V)(H5:Hp):Prop:=
 ∃ys,H5 D=some (.lst ys)/\ys.length<sizeLine/\∃m',m'<L.length-i/\(m'=L.length-(i+1)/\i+1<=L.length/\∃xs,Pv (i+1) xs σ2 (upd H5 D (.lst (ys++[v]))))
noncomputable def CSkip(L:List V)(Pv:Nat->List V->St->Hp->Prop)(i:Nat)(σ2:St)(H4:Hp):Prop:=
 ∃m',m'<L.length-i/\(m'=L.length-(i+1)/\i+1<=L.length/\∃xs,Pv (i+1) xs σ2 H4)
theorem CNext.of{D:A7}{L:List V}{Pv:Nat->List V->St->Hp->Prop}{i:Nat}{σ2:St}{v:V}{H5:Hp}{xs:List V}(hi:i<L.length)(hL:L.length<=sizeLine)(h5:H5 D=some (.lst xs))(hx:xs.length<=i)(p:Pv (i+1) (xs++[v]) σ2 (upd H5 D (.lst (xs++[v])))):CNext D L Pv i σ2 v H5:=
 ⟨xs,h5,by omega,L.length-(i+1),by omega,rfl,hi,_,p⟩
theorem CSkip.of{L:List V}{Pv:Nat->List V->St->Hp->Prop}{i:Nat}{σ2:St}{H4:Hp}{xs:List V}(hi:i<L.length)(p:Pv (i+1) xs σ2 H4):CSkip L Pv i σ2 H4:=⟨L.length-(i+1),by omega,rfl,hi,_,p⟩
theorem zhv{J:It}{Ok:Hp->Prop}{L:List V}{g:TG}{tf:TT}{te:TE}{D:A7}{σ0:St}{H1:Hp}{Q:VK}(G:Gives J Ok L)(Pv:Nat->List V->St->Hp->Prop)(h0:Pv 0 [] σ0 (upd H1 D (.lst [])))
  (hk:∀i xs σ H,i<=L.length->Pv i xs σ H->Ok H)
  (hs:∀i x xs σ H,i<L.length->L[i]?=some x->Pv i xs σ H->g x σ H fun σ2 H3=>tf σ2 H3 fun b H4=>if b=true then te σ2 H4 fun v H5=>CNext D L Pv i σ2 v H5 else CSkip L Pv i σ2 H4)
  (hd:∀xs σ H,Pv L.length xs σ H->Q (.ref D) H):
  CompW J D σ0 H1 g tf te Q:=by
 refine⟨fun i m σ H=>m=L.length-i/\i<=L.length/\∃xs,Pv i xs σ H,⟨L.length,by simp,Bz _,[],h0⟩,?_⟩;rintro i m σ H⟨rfl,hi,xs,p⟩;have q:=hk i xs σ H hi p;by_cases hlt:i<L.length
 ·refine .inr ⟨G.go i H q hlt,fun x H' y=>?_⟩;obtain⟨e,yy⟩:=G.yld i H x H' q y hlt;subst e;exact hs i x xs σ _ hlt yy p
 ·have e:i=L.length:=by omega
  subst e;exact .inl ⟨G.stop H q,hd xs σ H p⟩
theorem Same.put{H0 H:Hp}{p:A7}{o:HO}(s:Same H0 H)(n:H0 p=none):Same H0 (upd H p o):=fun b u e=>by
 rw[zag (zas e n)];exact s b u e
theorem Same.new{H:Hp}{p:A7}{o:HO}(n:H p=none):Same H (upd H p o):=(Same.refl H).put n
theorem Same.tup{K:Az}{H H':Hp}{a:A7}{xs:List V}(e:Same H H')(h:SqT K H a xs):SqT K H' a xs:=by
 rcases h with(h|⟨o,h⟩)|h
 ·exact .inl (.inl (e _ _ h))
 ·exact .inl (.inr ⟨o,e _ _ h⟩)
 ·exact .inr h
theorem zaH{α:Type}{l:List α}{i:Nat}{x:α}(h:l[i]?=some x):l.take (i+1)=l.take i++[x]:=by
 rw[List.take_add_one,h];rfl
theorem zcv{J:It}{Ok:Hp->Prop}{L:List V}{tf:TT}{te:TE}{D:A7}{σ0 capv:St}{H1:Hp}{Q:VK}(hσ:σ0=none::capv)(G:Gives J Ok L)(hL:L.length<=sizeLine)(hD:H1 D=none)(hOk:∀H,Same H1 H->Ok H)(p:V->Bool)(F:V->V)
  (ht:∀x∈L,∀H R,Same H1 H->(∀H',Same H H'->R (p x) H')->tf (some x::capv) H R)
  (he:∀x∈L,p x=true->∀H R,Same H1 H->(∀H',Same H H'->R (F x) H')->te (some x::capv) H R)
  (hd:∀H,Same H1 H->H D=some (.lst ((L.filter p).map F))->Q (.ref D) H):
  CompW J D σ0 H1 (gName 0) tf te Q:=by
 subst hσ;refine zhv G (fun i xs σ H=>(∃o,σ=o::capv)/\Same H1 H/\H D=some (.lst xs)/\xs=((L.take i).filter p).map F) ⟨⟨none,rfl⟩,Same.new hD,zad,by simp⟩ (fun i xs σ H _ h=>hOk H h.2.1) ?_ ?_
 ·rintro i x xs σ H hi hx⟨⟨o,rfl⟩,s,e,exs⟩;have hm:x∈L:=Bd hx;have hxl:xs.length<=i:=by
   rw[exs,A3];exact Bm (Bu _ _) (by rw[Cg];omega)
  show tf (some x::capv) H _;refine ht x hm H _ s fun H' s'=>?_
  cases hp:p x with
  |true=>
   rw[if_pos rfl];refine he x hm hp H' _ (s.trans s') fun H'' s''=>?_;have e'':H'' D=some (.lst xs):=s'' _ _ (s' _ _ e);refine CNext.of hi hL e'' hxl ⟨⟨some x,rfl⟩,((s.trans s').trans s'').put hD,zad,?_⟩;rw[zaH hx,C0,B1,exs];simp[hp]
  |false=>
   rw[if_neg Ah];refine CSkip.of hi ⟨⟨some x,rfl⟩,s.trans s',s' _ _ e,?_⟩;rw[zaH hx,C0,B1,exs];simp[hp]
 ·rintro xs σ H⟨_,s,e,exs⟩;refine hd H s ?_;rw[e,exs,Cc]
theorem zcC{P:Aw}{w:Bq}{A:Bi}{E:A1->A6->Prop}{s:A6}{a:A7}{its:List A1}{Q:A1->A6->Prop}(hh:A.handled=none)(hl:s.heap.IsList a its.toArray)
  (h:∀(I:A7)(s2:A6),s2={s with heap:=s.heap.push {cls:=.type "list_iterator",data:=.fields #[.ref a,.int 0 0]}}->I=s.heap.objs.size->
   Walks P w A I [I,a] [I] its.length (fun i v=>its[i]?=some v) (fun i h=>h.IsListIter I a i/\h.IsList a its.toArray)->(s2.heap.IsListIter I a 0/\s2.heap.IsList a its.toArray)->(∀b∈[I,a],b<s2.heap.objs.size)->
   (∀h':C9,(∀b o,b∉[I]->s2.heap.get? b=some o->h'.get? b=some o)->∀b o,s.heap.get? b=some o->h'.get? b=some o)->Q (.ref I) s2):
  wpAny (model P w) A (pyIter (.ref a)) Q E s:=by
 have hlt:a<s.heap.objs.size:=by obtain⟨_,e,_⟩:=hl;exact Au e
 refine Om hl (h _ _ rfl rfl ?_ ⟨⟨_,Ba _ rfl,rfl,rfl⟩,hl.push _⟩ (fun b hb=>?_) (fun h' k b o e=>k b o ?_ (Ae _ e)))
 ·have W:=Walks.list (prog:=P) (w:=w) (A:=A) hh s.heap.objs.size a (Br hlt) its.toArray;simpa using W
 ·show b<(s.heap.push _).objs.size;rw[Fc];rcases Bo.mp hb with rfl|hb
  ·exact Et _
  ·have e:b=a:=by simpa using hb
   subst e;exact G3 hlt
 ·intro z;have e2:b=s.heap.objs.size:=by simpa using z
  subst e2;exact absurd (Au e) (E5 _)
theorem zfK{xs:List V}{us:List A1}(r:Vals xs us){i:Nat}{u:A1}(h:us[i]?=some u):∃x,xs[i]?=some x/\RelV x u:=by
 have hi:i<xs.length:=by rw[r.length];exact(Ag.mp h).1
 obtain⟨u',hu,ru⟩:=r.get (x:=xs[i]) (i:=i) (by simp[hi]);rw[h] at hu
 cases hu
 exact⟨_,by simp[hi],ru⟩
theorem range_all_map(bs:List Bool):(A4 bs.length).all (fun i=>bs.getD i false)=bs.all id:=by
 rw[B7,Da,Da];constructor
 ·intro h x hx;obtain⟨i,hi,e⟩:=J9.mp hx;have:=h i (Ay.mpr hi);simp only[A8,hi,getElem?_pos,Dn,e] at this;exact this
 ·intro h i hi;have hi':=Ay.mp hi;simp only[A8,hi',getElem?_pos,Dn];exact h _ (C8 hi')
theorem range_any_map(bs:List Bool):(A4 bs.length).any (fun i=>bs.getD i false)=bs.any id:=by
 rw[B7,Bf,Bf];constructor
 ·rintro⟨i,hi,h⟩;have hi':=Ay.mp hi;simp only[A8,hi',getElem?_pos,Dn] at h;exact⟨_,C8 hi',h⟩
 ·rintro⟨x,hx,h⟩;obtain⟨i,hi,e⟩:=J9.mp hx;refine⟨i,Ay.mpr hi,?_⟩;simp only[A8,hi,getElem?_pos,Dn,e];exact h
section
variable{X:Cx}
theorem zfN{P:Aw}{w:Bq}{A:Bi}{bs:List Bool}{its:List A1}(r:Vals (bs.map V.bl) its):TruthOf P w A (fun i v=>its[i]?=some v) (fun i=>bs.getD i false):=by
 intro i v s Q E hv q;obtain⟨x,hx,rx⟩:=zfK r hv;rw[Ad] at hx
 cases e:bs[i]? with
 |none=>rw[e] at hx;cases hx
 |some b=>
  rw[e] at hx
  cases hx
  cases(show v=Gs b from rx)
  refine D1 ?_;have eb:bs.getD i false=b:=by rw[A8,e];rfl
  rw[<-eb];exact q
theorem zcU(hc:X.calm=true):CallR X (.builtin "all") (fun xs H Q=>∃(a:A7)(bs:List Bool),xs=[V.ref a]/\SqL X.K H a (bs.map V.bl)/\Q (.bl (bs.all id)) H):=by
 intro pins s σ H xs us Q I r h;obtain⟨a,bs,rfl,hq,q⟩:=h;obtain⟨u,rfl,ru⟩:=zb3 r
 cases ru
 obtain⟨its,rv,p,hz⟩:=I.list hq;refine call_all_walk (zcC (A:=X.A.in1) (I.ok.hd hc) p.isList fun It s2 e2 eI W st hf old=>?_);have hl:bs.length=its.length:=by have:=rv.length;rwa[A3] at this
 refine⟨It,_,_,its.length,_,_,_,rfl,W,st,zfN rv,fun h' tk k=>?_⟩;subst e2;rw[<-hl,range_all_map];exact⟨.bl _,H,I.kept (t':=tk) (old h' k),rfl,q⟩
theorem zgn(hc:X.calm=true):CallR X (.builtin "any") (fun xs H Q=>∃(a:A7)(bs:List Bool),xs=[V.ref a]/\SqL X.K H a (bs.map V.bl)/\Q (.bl (bs.any id)) H):=by
 intro pins s σ H xs us Q I r h;obtain⟨a,bs,rfl,hq,q⟩:=h;obtain⟨u,rfl,ru⟩:=zb3 r
 cases ru
 obtain⟨its,rv,p,hz⟩:=I.list hq;refine call_any_walk (zcC (A:=X.A.in1) (I.ok.hd hc) p.isList fun It s2 e2 eI W st hf old=>?_);have hl:bs.length=its.length:=by have:=rv.length;rwa[A3] at this
 refine⟨It,_,_,its.length,_,_,_,rfl,W,st,zfN rv,fun h' tk k=>?_⟩;subst e2;rw[<-hl,range_any_map];exact⟨.bl _,H,I.kept (t':=tk) (old h' k),rfl,q⟩
theorem zdm:∀{ns:List Int}{its:List A1},Vals (ns.map V.int) its->E4 its ns
 |[],_,r=>by rw[Fd] at r;cases r;exact .nil
 |n::ns,_,r=>by
  rw[An] at r
  cases r with
  |cons h t=>
   obtain⟨tk,e⟩:=(show∃t,_=Ho n t from h);subst e;exact .cons n tk (zdm t)
theorem zeG{ns:List Int}{its:List A1}(r:Vals (ns.map V.int) its){i:Nat}{v:A1}(h:its[i]?=some v):∃t,v= .int (ns.getD i 0) t:=by
 obtain⟨x,hx,rx⟩:=zfK r h;rw[Ad] at hx
 cases e:ns[i]? with
 |none=>rw[e] at hx;cases hx
 |some n=>
  rw[e] at hx
  cases hx
  have en:ns.getD i 0=n:=by rw[A8,e];rfl
  rw[en];exact rx
theorem zfk(hc:X.calm=true):CallR X (.builtin "max") (fun xs H Q=>∃(a:A7)(ns:List Int),xs=[V.ref a]/\SqL X.K H a (ns.map V.int)/\0<ns.length/\∀M,M∈ns->(∀n∈ns,n<=M)->Q (.int M) H):=by
 intro pins s σ H xs us Q I r h;obtain⟨a,ns,rfl,hq,hne,q⟩:=h;obtain⟨u,rfl,ru⟩:=zb3 r
 cases ru
 obtain⟨its,rv,p,hz⟩:=I.list hq;have hl:ns.length=its.length:=by have:=rv.length;rwa[A3] at this
 refine call_max_walk (zcC (A:=X.A.in1) (I.ok.hd hc) p.isList fun It s2 e2 eI W st hf old=>?_);refine⟨It,_,_,its.length,_,_,_,rfl,W,st,hf,by omega,CmpOf.ints_gt (fun i=>ns.getD i 0) (fun _ _=>zeG rv),fun v h' tk hv k=>?_⟩;subst e2;obtain⟨t,rfl⟩:=zeG rv hv;obtain⟨h1,h2⟩:=argBest_gt (fun i=>ns.getD i 0) (its.length-1);refine⟨.int _,H,I.kept (t':=tk) (old h' k),⟨t,rfl⟩,q _ ?_ fun n hn=>?_⟩
 ·have hlt:argBest (fun i j=>decide (ns.getD i 0>ns.getD j 0)) (its.length-1)<ns.length:=by omega
  rw[A8,A5 hlt];exact C8 hlt
 ·obtain⟨j,hj,e⟩:=J9.mp hn;have:=h2 j (by omega);have ej:ns.getD j 0=n:=by
   rw[A8,A5 hj,e];rfl
  rw[ej] at this;exact this
theorem zeg(ns:List Int):∀k,k<=ns.length->preSum (fun i=>ns.getD i 0) k=(ns.take k).sum
 |0,_=>rfl
 |k+1,h=>by
  have hk:k<ns.length:=by omega
  rw[preSum,zeg ns k (by omega),zaH (x:=ns[k]) (by simp[hk]),Il];simp[A8,hk]
theorem zfj(hc:X.calm=true):CallR X (.builtin "sum") (fun xs H Q=>∃(a:A7)(ns:List Int),xs=[V.ref a]/\SqL X.K H a (ns.map V.int)/\Q (.int ns.sum) H):=by
 intro pins s σ H xs us Q I r h;obtain⟨a,ns,rfl,hq,q⟩:=h;obtain⟨u,rfl,ru⟩:=zb3 r
 cases ru
 obtain⟨its,rv,p,hz⟩:=I.list hq;have hl:ns.length=its.length:=by have:=rv.length;rwa[A3] at this
 refine call_sum_walkG (zcC (A:=X.A.in1) (I.ok.hd hc) p.isList fun It s2 e2 eI W st hf old=>?_);refine⟨It,_,_,its.length,_,_,(fun i=>ns.getD i 0),rfl,W,st,hf,(fun _ _=>zeG rv),fun h' tk t' k=>?_⟩;subst e2;refine⟨.int _,H,I.kept (t':=tk) (old h' k),⟨t',rfl⟩,?_⟩;rw[<-hl,zeg ns _ (Ac _),Cc];exact q
noncomputable def many(ns:List Int):Nat:=(firstMet (fun i=>ns.getD i 0) ns.length).length
theorem call_set1(hc:X.calm=true):CallR X (.type "set") (fun xs H Q=>∃(a:A7)(ns:List Int),xs=[V.ref a]/\SqL X.K H a (ns.map V.int)/\ns.length+1<scanBound/\∀p,H p=none->Q (.ref p) (upd H p (.set (fun k=>(firstMet (fun i=>ns.getD i 0) ns.length).any (· ==k)) (many ns)))):=by
 intro pins s σ H xs us Q I r h;obtain⟨a,ns,rfl,hq,hb,q⟩:=h;obtain⟨u,rfl,ru⟩:=zb3 r
 cases ru
 obtain⟨its,rv,p,hz⟩:=I.list hq;have hl:ns.length=its.length:=by have:=rv.length;rwa[A3] at this
 have hsz:its.toArray.size=ns.length:=by rw[B5,hl]
 refine call_set_list (items:=its.toArray) (ns:=ns) (I.ok.hd hc) p.isList (by simpa using zdm rv) (by rw[hsz];exact hb) fun h' tk hS k=>?_;rw[hsz] at hS;have I':Inv X pins σ (upd H s.heap.objs.size (.set (fun k=>(firstMet (fun i=>ns.getD i 0) ns.length).any (· ==k)) (many ns))) {s with heap:=h',toks:=tk}:=
  I.laid (fun b o e=>k b o (Au e) e) (Ac _) hS
 exact⟨.ref _,_,I',rfl,q _ (I.hok.fresh (Ac _))⟩
theorem call_lenS:CallR X (.builtin "len") (fun xs H Q=>∃a S n,xs=[V.ref a]/\H a=some (.set S n)/\Q (.int n) H):=by
 intro pins s σ H xs us Q I r h;obtain⟨a,S,n,rfl,hq,q⟩:=h;obtain⟨u,rfl,ru⟩:=zb3 r
 cases ru
 obtain⟨o,es,ep,t,h1,h2,h3,h4,h5,h6,h7,h8⟩:=(show s.heap.SetOf (intKind X.prog X.w) a S n from I.hok a _ hq);have hfit:(es.size:Int)<2 ^ 63:=by
  have:(es.size:Int)<4096:=by unfold scanBound at h6;omega
  exact Int.lt_of_lt_of_le this (by decide)
 exact call_len_set h1 h2 h3 h7 hfit ⟨.int n,H,I.tok _,⟨_,by rw[h8]⟩,q⟩
theorem ze3:OpR X (compareOp .LtE) (fun x y H Q=>∃i j,x= .str i/\y= .str j/\Q (.bl (!decide (j.cps.toList<i.cps.toList))) H):=by
 intro pins s σ H x y v u Q I rx ry h;obtain⟨i,j,rfl,rfl,q⟩:=h;obtain⟨t,rfl⟩:=rx;obtain⟨t',rfl⟩:=ry;exact PySem.P.le_str (zaJ I q rfl)
theorem call_isi{c:A1}{cv:V}(hcv:RelV cv c)(huniq:∀u,RelV cv u->u=c):CallR X (.builtin "isinstance") (fun xs H Q=>∃x t b,xs=[x,cv]/\TyOf X.K H x t/\Ka X.K t c=some b/\Q (.bl b) H):=by
 intro pins s σ H xs us Q I r h;obtain⟨x,t,b,rfl,ty,e,q⟩:=h;obtain⟨u,u',rfl,ru,ru'⟩:=zh3 r;have:=huniq u' ru';subst this;exact isinst_ok I ru ty e fun tk=>⟨.bl b,H,I.tok _,rfl,q⟩
theorem zbe(T:String):CallR X (.builtin "isinstance") (fun xs H Q=>∃x t b,xs=[x,.ty T]/\TyOf X.K H x t/\Ka X.K t (.type T)=some b/\Q (.bl b) H):=call_isi (c:=.type T) (cv:=.ty T) rfl fun _ h=>h
end
section
variable{X:Cx}
noncomputable def tCut(t u:TS):TS:=fun D σ H=>∃M:St->Hp->Prop,t {D with nx:=M} σ H/\∀σ' H',M σ' H'->u D σ' H'
theorem zca{st:Cf}{rest:List Cf}{t u:TS}(h1:PS X st t)(h2:PSs X rest u):PSs X (st::rest) (tCut t u):=by
 intro pins s σ H D I h;obtain⟨M,h,hM⟩:=h;refine Kx (thn (h1 pins s σ H {D with nx:=M} I h) fun f s1 q=>?_)
 cases f with
 |next=>
  obtain⟨σ',H',I',q⟩:=q;exact h2 pins s1 σ' H' D I' (hM σ' H' q)
 |ret v=>exact q
 |brk=>exact q
 |cont=>exact q
theorem zaz{scope:Fn}{N:List Str}{cl:List (Str×A7)}{C:A7}{s:A6}{H:Hp}{fp:List A7}{pn:List (A7×Obj)}(h:N.Nodup):(cxComp X scope N cl C s H fp pn).N.Nodup:=h
theorem zcb{x:Str}{i:Int}{pos:Pos}(hg:Gl X x)(hm:∃t,X.mg x=some (.int i t))(hd:(x==("__debug__":Str))=false:=by decide):PE X (.Name x pos) (tC (.int i)):=by
 obtain⟨t,hm⟩:=hm;exact zgW hg hm ⟨t,rfl⟩ hd
end
theorem ln1{P:List A1->Prop}{p:Str}(h:∀a,P [a]):∀us:List A1,us.length=[p].length->P us
 |[a],_=>h a
theorem ln2{P:List A1->Prop}{p q:Str}(h:∀a b,P [a,b]):∀us:List A1,us.length=[p,q].length->P us
 |[a,b],_=>h a b
theorem ln3{P:List A1->Prop}{p q r:Str}(h:∀a b c,P [a,b,c]):∀us:List A1,us.length=[p,q,r].length->P us
 |[a,b,c],_=>h a b c
theorem ln4{P:List A1->Prop}{p q r s:Str}(h:∀a b c d,P [a,b,c,d]):∀us:List A1,us.length=[p,q,r,s].length->P us
 |[a,b,c,d],_=>h a b c d
structure Callee(P:Aw)(w:Bq)(K:Az)(mg:Str->Option A1)(base:C9)(x:Str)(k:Nat)(ps:List Str)(sp:Sp):Prop where
 ex:∃f fd,FnOk P w K mg base CX0 k f fd ps sp/\mg x=some (.ref f)/\Dr K (.ref f)=true/\Binds K fd ps []/\∃o,K.lookup f=some o/\o.data= .func fd
structure DefAt(K:Az)(mg:Str->Option A1)(x:Str)(st:Cf):Prop where
 ex:∃f fd,Fun K x x st f fd/\mg x=some (.ref f)
theorem def_mk{K:Az}{mg:Str->Option A1}{h:C9}{x:Str}{st:Cf}{f:A7}{oc:A1}{od an:Option A7}{osl:Array (Option A1)}{kV doc pm cdv ct:A1}(X:K.In h)(G:h.Ns mainGlobals mg)
  (a:C4 K mainGlobals x=some (some (.ref f)))
  (l:K.lookup f=some ⟨oc,od,.func (D6 x x (defArgs st) (defBody st) (defScope st) .none kV doc pm an cdv ct),osl⟩)
  (c:Fk K cdv x=true) (k:Dr K (.ref f)=true):DefAt K mg x st:=⟨f,_,zhk l c k,Kl X G a⟩
theorem int_mk{K:Az}{mg:Str->Option A1}{h:C9}{x:Str}{i:Int}{t:Tok}(X:K.In h)(G:h.Ns mainGlobals mg)(a:C4 K mainGlobals x=some (some (.int i t))):∃t,mg x=some (.int i t):=⟨t,Kl X G a⟩
section
variable{P:Aw}{w:Bq}{K:Az}{mg:Str->Option A1}{base:C9}
theorem DefAt.callee{x:Str}{st:Cf}{N ps:List Str}{k:Nat}{sp:Sp}(D:DefAt K mg x st)(S:FnScope N ps (defScope st))
  (hb:∀(kV doc pm:A1)(an:Option A7)(cdv ct:A1)(us:List A1),us.length=ps.length->bindArgs (D6 x x (defArgs st) (defBody st) (defScope st) .none kV doc pm an cdv ct) ⟨us,[]⟩=pure (ps.zip us))
  (len:∀vs H Q E,sp vs H Q E->vs.length=ps.length)
  (hbody:∀(f:A7)(cdv:A1)(A:Bi)(outer:List Env)(s:A6)(H:Hp)(vs:List V)(Q:VK)(E:XK),Room k (A.deeper (envOfC x (defScope st) s.heap.objs.size f cdv))->sp vs H Q E->
   ∃t,PSs (cxOf CX0 P w K mg base N x (defScope st) f cdv A outer s H E).nox (defBody st) t/\t {nx:=fun _ H'=>Q .non H',rt:=Q} (start N vs) H):Callee P w K mg base x (k+1) ps sp:=by
 obtain⟨f,fd,F,m⟩:=D.ex;obtain⟨oc,od,kV,doc,pm,an,cdv,ct,osl,e,lk,hcd⟩:=id F.ex;exact⟨f,fd,F.ok S len (fun cdv A outer s H vs Q E hr h=>hbody f cdv A outer s H vs Q E hr h),m,F.kp,F.binds hb,_,lk,rfl⟩
end
section
variable{X:Cx}{x:Str}{k:Nat}{ps:List Str}{sp:Sp}{p pos:Pos}{e:Ce}{es:List Ce}{t:TA}
theorem zay(C:Callee X.prog X.w X.K X.mg X.base x k ps sp)(hr:Room k X.A)(hg:Gl X x)(ha:PA X (e::es) t)(hdb:(x==("__debug__":Str))=false:=by decide)
  (he:starEach (e::es) X.env=(false,eval e X.env)::starEach es X.env:=by rfl) (hpl:(backTo pos (starEach es X.env)).any (·.1)=false:=by rfl):PE X (.Call (.Name x p) (e::es) [] pos) (tCall sp [] E0 t):=by
 obtain⟨f,fd,F,hm,hk,hb,_⟩:=C.ex;exact zgX F hr hg hm hk hb .nil ze2 ha hdb he hpl
end
structure Bn(mg:Str->Option A1):Prop where
 n_len:mg "len"=none
 n_all:mg "all"=none
 n_any:mg "any"=none
 n_max:mg "max"=none
 n_min:mg "min"=none
 n_sum:mg "sum"=none
 n_sorted:mg "sorted"=none
 n_isinstance:mg "isinstance"=none
 n_int:mg "int"=none
 n_bool:mg "bool"=none
 n_str:mg "str"=none
 n_list:mg "list"=none
 n_tuple:mg "tuple"=none
 n_dict:mg "dict"=none
 n_set:mg "set"=none
 n_range:mg "range"=none
 n_reversed:mg "reversed"=none
 n_repr:mg "repr"=none
 n_abs:mg "abs"=none
 n_enumerate:mg "enumerate"=none
 n_zip:mg "zip"=none
theorem bn_mk{K:Az}{mg:Str->Option A1}{h:C9}(X:K.In h)(G:h.Ns mainGlobals mg)
  (a_len:C4 K mainGlobals "len"=some none)
  (a_all:C4 K mainGlobals "all"=some none)
  (a_any:C4 K mainGlobals "any"=some none)
  (a_max:C4 K mainGlobals "max"=some none)
  (a_min:C4 K mainGlobals "min"=some none)
  (a_sum:C4 K mainGlobals "sum"=some none)
  (a_sorted:C4 K mainGlobals "sorted"=some none)
  (a_isinstance:C4 K mainGlobals "isinstance"=some none)
  (a_int:C4 K mainGlobals "int"=some none)
  (a_bool:C4 K mainGlobals "bool"=some none)
  (a_str:C4 K mainGlobals "str"=some none)
  (a_list:C4 K mainGlobals "list"=some none)
  (a_tuple:C4 K mainGlobals "tuple"=some none)
  (a_dict:C4 K mainGlobals "dict"=some none)
  (a_set:C4 K mainGlobals "set"=some none)
  (a_range:C4 K mainGlobals "range"=some none)
  (a_reversed:C4 K mainGlobals "reversed"=some none)
  (a_repr:C4 K mainGlobals "repr"=some none)
  (a_abs:C4 K mainGlobals "abs"=some none)
  (a_enumerate:C4 K mainGlobals "enumerate"=some none)
  (a_zip:C4 K mainGlobals "zip"=some none)
  :Bn mg:=⟨Bj X G a_len,Bj X G a_all,Bj X G a_any,Bj X G a_max,Bj X G a_min,Bj X G a_sum,Bj X G a_sorted,Bj X G a_isinstance,Bj X G a_int,Bj X G a_bool,Bj X G a_str,Bj X G a_list,Bj X G a_tuple,Bj X G a_dict,Bj X G a_set,Bj X G a_range,Bj X G a_reversed,Bj X G a_repr,Bj X G a_abs,Bj X G a_enumerate,Bj X G a_zip⟩
theorem DefAt.entry{P:Aw}{w:Bq}{K:Az}{mg:Str->Option A1}{x p:Str}{st:Cf}{k:Nat}{sp:Sp}{fa:A7}(D:DefAt K mg x st)(hfa:mg x=some (.ref fa))
  (hb:∀(kV doc pm:A1)(an:Option A7)(cdv ct v:A1),bindArgs (D6 x x (defArgs st) (defBody st) (defScope st) .none kV doc pm an cdv ct) ⟨[v],[]⟩=pure [(p,v)])
  (C:∀base:C9,Callee P w K mg base x k [p] sp):
  ∃fd:Ep,(∀(s:A6)(v:A1),Kq s fd ⟨[v],[]⟩ [(p,v)])/\∀base:C9,K.In base->base.Ns mainGlobals mg->FnOk P w K mg base CX0 k fa fd [p] sp:=by
 obtain⟨f,fd,F,m⟩:=D.ex;rw[m] at hfa
 cases hfa
 obtain⟨oc,od,kV,doc,pm,an,cdv,ct,osl,rfl,lk,hcd⟩:=F.ex;refine⟨_,fun s v=>.of_eq (hb kV doc pm an cdv ct v),fun base _ _=>?_⟩;obtain⟨f',fd',G,m',_,_,o,lo,ed⟩:=(C base).ex;rw[m] at m'
 cases m'
 rw[lk] at lo
 cases lo
 cases ed
 exact G
structure Fly(B:C9)(l:List Env)(x:A7)(c fl:A1)(h:C9):Prop where
 stay:B.StaysIn h
 new:B.get? x=none
 frs:h.FunFrames B l
 obj:∃(oe:Obj)(vs:Array A1)(T:A7)(oT:Obj)(ts:Array A1),h.get? x=some oe/\(oe.cls=c/\oe.dict=none)/\oe.data= .fields vs/\vs[1]?=some (.ref T)/\vs[2]?=some .none/\B.get? T=none/\T≠x/\h.get? T=some oT/\oT.data= .fields ts/\ts[3]?=some fl
structure Fresh(B:C9)(l:List Env)(x:A7)(c:A1)(h:C9):Prop where
 stay:B.StaysIn h
 new:B.get? x=none
 frs:h.FunFrames B l
 obj:∃(oe:Obj)(vs:Array A1),h.get? x=some oe/\(oe.cls=c/\oe.dict=none)/\oe.data= .fields vs/\vs[1]?=some .none/\vs[2]?=some .none
section
variable{M:I0}{A:Bi}{E:A1->A6->Prop}{s:A6}{B:C9}{l outer:List Env}{env:Env}{x L:A7}{c:A1}
theorem dict_mapFields(o:Obj)(f:Array A1->Array A1):(o.mapFields f).dict=o.dict:=by
 unfold Fi
 split<;>rfl
theorem zaO{h:C9}{a b:A7}{o:Obj}{vs:Array A1}{f:Array A1->Array A1}(ha:h.get? a=some o)(hd:o.data= .fields vs):
  (h.update a (Fi f)).get? a=some (o.mapFields f)/\(b≠a->(h.update a (Fi f)).get? b=h.get? b):=
 ⟨Iw _ ha (Mn (Fl hd f)),fun hb=>Ib _ _ (E7 hb)⟩
theorem zff{oe:Obj}{vs:Array A1}{head:A1}{hadNext:Bool}{Q:Unit->A6->Prop}(hfr:A.frames=some (env::outer))(hl:s.heap.FunFrames B (env::outer))(hf:env.frame=some L)
  (st:B.StaysIn s.heap) (nx:B.get? x=none) (hx:s.heap.get? x=some oe) (hc:oe.cls=c/\oe.dict=none) (hd:oe.data= .fields vs) (h2:vs[2]?=some .none)
  (k:∀h',Fly B (env::outer) x c (rawInt L) h'->s.heap.UpToSlots h'->Q () {s with heap:=h'}):
  wpAny M A (do let a<-frameOf env;let pl<-entryPlaceOf L hadNext;let b<-L5 head a .none (rawInt L) .none pl;setField (.ref x) 1 b) Q E s:=by
 have hsz:2<vs.size:=(Gx.mp h2).1;have xnf:x∉(env::outer).filterMap (·.frame):=fun hm=>by
  obtain⟨_,o,ho,hno⟩:=hl.mem hm;rw[hx] at ho
  cases ho
  exact hno vs hd
 refine A0 (wpAny_frameOf_fun hfr hl hf fun g1 so=>A0 (wpAny_entryPlaceOf fun pl hpl=>?_));unfold L5 newFields;refine A0 (Ga ?_ (hpl.sizeOk5 _ _ _ _ _));have hx1:g1.get? x=some oe:=(so.2.1 x xnf).trans hx;have st1:B.StaysIn g1:=fun b o hb=>by
  refine(so.2.1 b fun hm=>?_).trans (st b o hb);have:=(hl.mem hm).1;rw[hb] at this
  cases this
 have big:x<g1.objs.size:=Au hx1;generalize hnew:({cls:=.type "traceback",dict:=none,data:=.fields ([head,.ref L,.none,rawInt L,.none]++(if pl.isEmpty then C5 6 Em else pl)).toArray}:Obj)=tb;have hx2:(g1.push tb).get? x=some oe:=Ae tb hx1;refine Hk hx2 hd (by omega) (k _ ?_ ?_)
 ·have tx:g1.objs.size≠x:=Ma big;obtain⟨e1,e2⟩:=zaO (b:=g1.objs.size) (f:=fun a=>a.setIfInBounds 1 (Bc g1.objs.size)) hx2 hd;have hT:(g1.push tb).get? g1.objs.size=some tb:=Ba g1 (by rw[<-hnew];rfl);refine⟨fun b o hb=>?_,nx,hl.of_keeps fun b o hb hno=>?_,_,_,g1.objs.size,tb,_,e1,⟨(Nu _ _).trans hc.1,(dict_mapFields _ _).trans hc.2⟩,Fl hd _,(by show(vs.setIfInBounds 1 (Bc g1.objs.size))[1]?=_;simp[show 1<vs.size by omega]),?_,st1.fresh,tx,(e2 tx).trans hT,by rw[<-hnew],?_⟩
  ·obtain⟨_,e3⟩:=zaO (b:=b) (f:=fun a=>a.setIfInBounds 1 (Bc g1.objs.size)) hx2 hd;refine(e3 fun z=>?_).trans (Ae tb (st1 b o hb));rw[z,nx] at hb
   cases hb
  ·have bx:b≠x:=fun z=>by
    rw[z,hx] at hb
    cases hb
    exact hno vs hd
   obtain⟨sl,hs⟩:=so.2.2 b o hb;obtain⟨_,e3⟩:=zaO (b:=b) (f:=fun a=>a.setIfInBounds 1 (Bc g1.objs.size)) hx2 hd;exact⟨_,(e3 bx).trans (Ae tb hs),rfl⟩
  ·rw[Array.getElem?_setIfInBounds_ne (by decide)];exact h2
  ·rcases hpl with rfl|⟨_,_,_,_,_,_,_,rfl⟩<;>rfl
 ·intro b o hb hno;have bx:b≠x:=fun z=>by
   rw[z,hx] at hb
   cases hb
   exact hno vs hd
  obtain⟨sl,hs⟩:=so.2.2 b o hb;obtain⟨_,e3⟩:=zaO (b:=b) (f:=fun a=>a.setIfInBounds 1 (Bc g1.objs.size)) hx2 hd;exact⟨sl,(e3 bx).trans (Ae tb hs)⟩
theorem zgj{fl:A1}{Q:Unit->A6->Prop}(F:Fly B l x c fl s.heap)(k:∀h',Fly B l x c .none h'->s.heap.UpToSlots h'->Q () {s with heap:=h'}):wpAny M A (setFlight (.ref x) none) Q E s:=by
 obtain⟨oe,vs,T,oT,ts,hx,hc,hd,h1,h2,nT,tx,hT,dT,h3⟩:=F.obj;have hsz:3<ts.size:=(Gx.mp h3).1;unfold setFlight;refine A0 (L7 hx hd h1 ?_);rw[if_pos (by simp)];refine Hk hT dT hsz (k _ ?_ ?_)
 ·have e:∀b,b≠T->(s.heap.update T (Fi (·.setIfInBounds 3 ((none:Option A7).elim Em fun f=>rawInt f)))).get? b=s.heap.get? b:=fun b hb=>(zaO hT dT).2 hb;refine⟨fun b o hb=>(e b fun z=>?_).trans (F.stay b o hb),F.new,F.frs.of_keeps fun b o hb hno=>⟨o,(e b fun z=>?_).trans hb,rfl⟩,oe,vs,T,_,_,(e x (E7 tx)).trans hx,hc,hd,h1,h2,nT,tx,(zaO (b:=T) hT dT).1,Fl dT _,by simp[hsz]⟩
  ·rw[z,nT] at hb;cases hb
  ·rw[z,hT] at hb;cases hb;exact hno ts dT
 ·intro b o hb hno;refine⟨o.slots,((zaO hT dT).2 fun z=>?_).trans hb⟩;rw[z,hT] at hb;cases hb;exact hno ts dT
theorem fly_note{Q:Unit->A6->Prop}(hfr:A.frames=some (env::outer))(hf:env.frame=some L)(F:Fly B (env::outer) x c .none s.heap)
  (k:∀h',Fly B (env::outer) x c (rawInt L) h'->s.heap.UpToSlots h'->Q () {s with heap:=h'}):wpAny M A (noteFrame (.ref x) env) Q E s:=by
 obtain⟨oe,vs,T,oT,ts,hx,hc,hd,h1,h2,nT,tx,hT,dT,h3⟩:=F.obj;have hsz:3<ts.size:=(Gx.mp h3).1;unfold noteFrame;simp only[hf];refine A0 (L7 hx hd h1 ?_);rw[if_pos (by simp)];refine A0 (L7 hT dT h3 ?_);rw[if_neg (by simp[rawInt])];refine A0 (Hk hT dT hsz ?_);have e:∀b,b≠T->(s.heap.update T (Fi (·.setIfInBounds 3 Em))).get? b=s.heap.get? b:=fun b hb=>(zaO hT dT).2 hb;have nf:∀b o,s.heap.get? b=some o->(∀vs,o.data≠.fields vs)->b≠T:=fun b o hb hno z=>by
  rw[z,hT] at hb;cases hb;exact hno ts dT
 refine zff hfr (F.frs.of_keeps fun b o hb hno=>⟨o,(e b (nf b o hb hno)).trans hb,rfl⟩) hf (fun b o hb=>(e b fun z=>?_).trans (F.stay b o hb)) F.new ((e x (E7 tx)).trans hx) hc hd h2 fun h' F' u=>k h' F' fun b o hb hno=>?_
 ·rw[z,nT] at hb;cases hb
 ·exact u b o ((e b (nf b o hb hno)).trans hb) hno
theorem fresh_note{Q:Unit->A6->Prop}(hfr:A.frames=some (env::outer))(hf:env.frame=some L)(F:Fresh B (env::outer) x c s.heap)
  (k:∀h',Fly B (env::outer) x c (rawInt L) h'->s.heap.UpToSlots h'->Q () {s with heap:=h'}):wpAny M A (noteFrame (.ref x) env) Q E s:=by
 obtain⟨oe,vs,hx,hc,hd,h1,h2⟩:=F.obj;unfold noteFrame;simp only[hf];refine A0 (L7 hx hd h1 ?_);rw[if_neg (by decide)];exact zff hfr F.frs hf F.stay F.new hx hc hd h2 k
theorem Fly.tail{fl:A1}{h:C9}(F:Fly B (env::outer) x c fl h):Fly B outer x c fl h:=⟨F.stay,F.new,F.frs.2.2,F.obj⟩
theorem fly_leave{Q:Unit->A6->Prop}(hfr:A.frames=some (env::outer))(hf:env.frame=some L)(F:Fly B (env::outer) x c .none s.heap)
  (k:∀h',Fly B outer x c .none h'->s.heap.UpToSlots h'->Q () {s with heap:=h'}):wpAny M A (leaving env (.ref x)) Q E s:=by
 unfold leaving;exact A0 (fly_note hfr hf F fun h1 F1 u1=>zgj (s:={s with heap:=h1}) F1 fun h2 F2 u2=>k h2 F2.tail (u1.trans u2))
theorem fresh_leave{Q:Unit->A6->Prop}(hfr:A.frames=some (env::outer))(hf:env.frame=some L)(F:Fresh B (env::outer) x c s.heap)
  (k:∀h',Fly B outer x c .none h'->s.heap.UpToSlots h'->Q () {s with heap:=h'}):wpAny M A (leaving env (.ref x)) Q E s:=by
 unfold leaving;exact A0 (fresh_note hfr hf F fun h1 F1 u1=>zgj (s:={s with heap:=h1}) F1 fun h2 F2 u2=>k h2 F2.tail (u1.trans u2))
end
section
variable{P:Aw}{w:Bq}
theorem ObjOk.there{H:Hp}{h:C9}{a:A7}{o:HO}(x:ObjOk P w H h a o):∃ob,h.get? a=some ob:=by
 cases o with
 |lst xs=>obtain⟨_,_,_,_,e⟩:=x;exact⟨_,e⟩
 |tup xs=>obtain⟨_,_,_,o,e,_⟩:=x;exact⟨o,e⟩
 |dK kvs=>obtain⟨_,_,_,_,o,_,_,e,_⟩:=x;exact⟨o,e⟩
 |dT kvs=>obtain⟨_,_,_,_,o,_,_,e,_⟩:=x;exact⟨o,e⟩
 |set S n=>obtain⟨o,_,_,_,e,_⟩:=x;exact⟨o,e⟩
 |ins C dx fs=>obtain⟨_,_,_,e,_⟩:=x;exact⟨_,e⟩
 |own y=>exact x
 |xd fs=>obtain⟨_,⟨o,_,_,e,_⟩,_⟩:=x;exact⟨o,e⟩
 |rng lo hi=>obtain⟨_,_,_,e⟩:=x;exact⟨_,e⟩
 |frz ob u=>obtain⟨e,_⟩:=x;exact⟨_,e⟩
 |tbl ps=>exact⟨_,(show h.get? a=some _ from x)⟩
 |met f y=>exact⟨_,(show h.get? a=some _ from x)⟩
 |ext φ=>obtain⟨_,e,_⟩:=x;exact e
noncomputable def CX1(P:Aw)(w:Bq):CXT:=fun outer H s E e s'=>∃(x:A7)(c:A1)(B:C9)(H':Hp),e= .ref x/\Fly B outer x c .none s'.heap/\s'.os=s.os/\Hj s'.gens/\Un (frs outer) [] H H' s.heap s'.heap/\HOk P w H' s'.heap/\H' x=none/\
 (∀b o,H' b=some o->∃ob,B.get? b=some ob)/\(∀b o,s.heap.get? b=some o->b∉frs outer->∃ob,B.get? b=some ob)/\E c none H'
theorem zhl{B h h':C9}{H:Hp}(ok:HOk P w H h)(st:B.StaysIn h)(st':B.StaysIn h')(inB:∀b o,H b=some o->∃ob,B.get? b=some ob):HOk P w H h':=fun a o e=>by
 refine(ok a o e).stay (fun b u hb q=>?_) (fun _ q=>q) fun _ _ q=>q;have⟨ob,hB⟩:∃ob,B.get? b=some ob:=by
  rcases hb with z|z
  ·rw[z];exact inB a o e
  ·exact inB b _ z
 have:=st b ob hB;rw[q] at this
 cases this
 exact st' b _ hB
theorem zhR{B h0 h h':C9}{fs:List A7}{H H':Hp}(u:Un fs [] H H' h0 h)(st:B.StaysIn h)(st':B.StaysIn h')(up:h.UpToSlots h')(inB:∀b o,h0.get? b=some o->b∉fs->∃ob,B.get? b=some ob)
  (hfs:∀b∈fs,∀o,h.get? b=some o->∀vs,o.data≠.fields vs):Un fs [] H H' h0 h' where
 keep:=fun b o e n hb hx=>by
  obtain⟨ob,hB⟩:=inB b o e hb;have q:=u.keep b o e n hb hx;have:=st b ob hB;rw[q] at this
  cases this
  exact st' b _ hB
 slot:=fun b o e n hb hx=>by
  obtain⟨sl,q⟩:=u.slot b o e n hb hx;obtain⟨sl',q'⟩:=up b _ q (hfs b hb _ q);exact⟨sl',q'⟩
 free:=u.free
 there:=fun b o e hx=>by
  by_cases hb:b∈fs
  ·obtain⟨o',q⟩:=u.there b o e hx;obtain⟨sl,q'⟩:=up b o' q (hfs b hb o' q);exact⟨_,q'⟩
  ·obtain⟨ob,hB⟩:=inB b o e hb;exact⟨ob,st' b ob hB⟩
 tups:=u.tups
 frzs:=u.frzs
 tbls:=u.tbls
theorem zgk{B h:C9}{l:List Env}(f:h.FunFrames B l):∀b∈frs l,∀o,h.get? b=some o->∀vs,o.data≠.fields vs:=fun b hb o e vs=>by
 obtain⟨_,o',e',hno⟩:=f.mem hb;rw[e] at e'
 cases e'
 exact hno vs
theorem zd5{X:Cx}{pins:List (A7×Obj)}{σ:St}{H H':Hp}{s:A6}{h':C9}(I:Inv X pins σ H s)(hex:X.ex=[])(u:Un (frs X.stack) [] H H' s.heap h'):Un X.fs [] X.H₀ H' X.s₀.heap h':=by
 have nl:∀b o,X.s₀.heap.get? b=some o->b≠X.env.locals:=fun b o e=>Br (Ak (Au e) I.ok.above);have nst:∀b o,X.s₀.heap.get? b=some o->b∉X.fs->b∉frs X.stack:=fun b o e hb z=>(Bo.mp (I.stkSub b z)).elim (nl b o e) hb;have B:=I.base;rw[hex] at B;refine⟨fun b o e n hb hx=>u.keep b o (B.keep b o e n hb hx) (B.free b o e n hx) (nst b o e hb) hx,fun b o e n hb hx=>?_,fun b o e n hx=>?_,fun b o e hx=>?_,fun b xs e=>u.tups b xs (B.tups b xs e),fun b o v e=>u.frzs b o v (B.frzs b o v e),fun b ps e=>?_⟩
 ·obtain⟨sl,e1⟩:=B.slot b o e n hb hx;obtain⟨sl',e2⟩:=u.any e1 (B.free b o e n hx) hx;exact⟨sl',e2⟩
 ·obtain⟨o',e1⟩:=B.there b o e hx;exact u.free b o' e1 (B.free b o e n hx) hx
 ·obtain⟨o',e1⟩:=B.there b o e hx;exact u.there b o' e1 hx
 ·obtain⟨m1,e1⟩:=B.tbls b ps e;obtain⟨m2,e2⟩:=u.tbls b _ e1;exact⟨m1++m2,by rw[e2,Jn]⟩
theorem zcm{K:Az}{mg:Str->Option A1}{base:C9}{N:List Str}{qual:Str}{scope:Fn}{f:A7}{cd:A1}{A:Bi}{outer:List Env}{s₀:A6}{H₀:Hp}{E:XK}:
  Passes (CX1 P w) (cxOf (CX1 P w) P w K mg base N qual scope f cd A outer s₀ H₀ E) E:=by
 intro pins σ H s e s' I h;obtain⟨x,c,B,H',rfl,F,ho,hg,u,ok,nx,inB,old,q⟩:=h;have hfr:(A.deeper (envOfC qual scope s₀.heap.objs.size f cd)).frames=some (envOfC qual scope s₀.heap.objs.size f cd::outer):=I.ok.frames;have ut:Un (frs outer) [] H₀ H' s₀.heap s'.heap:=zd5 I rfl u;have old':∀b o,s₀.heap.get? b=some o->b∉frs outer->∃ob,B.get? b=some ob:=fun b o e hb=>by
  obtain⟨o',e1⟩:=I.base.there b o e (by show b∉([]:List A7);simp);refine old b o' e1 fun z=>?_;rcases Bo.mp (I.stkSub b z) with z|z
  ·exact absurd (Ak (Au e) I.ok.above) (by rw[z];exact E5 _)
  ·exact hb z
 show wpAny (model P w) _ (leaving _ (.ref x)) _ _ s';refine fly_leave hfr rfl F fun h' F' up=>⟨x,c,B,H',rfl,F',(show s'.os=s₀.os from ho.trans I.os),hg,zhR ut F.stay F'.stay up old' (zgk F.tail.frs),zhl ok F.stay F'.stay inB,nx,inB,old',q⟩
theorem pass_no{X:Cx}{E:XK}(hE:∀c d H,¬E c d H):Passes (CX1 P w) X E:=fun _ _ _ _ _ _ _ h=>by
 obtain⟨_,_,_,_,_,_,_,_,_,_,_,_,_,q⟩:=h;exact(hE _ _ _ q).elim
theorem za8{X:Cx}:Passes (CX1 P w) X E0:=pass_no fun _ _ _ h=>h
theorem raise_out{K:Az}{mg:Str->Option A1}{base:C9}{N:List Str}{qual:Str}{scope:Fn}{f:A7}{cd:A1}{A:Bi}{outer:List Env}{s₀:A6}{H₀:Hp}{E:XK}{pins:List (A7×Obj)}{σ:St}{H:Hp}{s s':A6}{x:A7}{c:A1}{args:List A1}
  (I:Inv (cxOf (CX1 P w) P w K mg base N qual scope f cd A outer s₀ H₀ E) pins σ H s) (hx:Heap.MadeExcOf s.heap s'.heap x c args) (ho:s'.os=s.os) (hg:Hj s'.gens) (q:E c none H):
  (cxOf (CX1 P w) P w K mg base N qual scope f cd A outer s₀ H₀ E).xe (.ref x) s':=by
 have hfr:(A.deeper (envOfC qual scope s₀.heap.objs.size f cd)).frames=some (envOfC qual scope s₀.heap.objs.size f cd::outer):=I.ok.frames;have hin:∀env∈envOfC qual scope s₀.heap.objs.size f cd::outer,∀a,env.frame=some a->a∈frs (envOfC qual scope s₀.heap.objs.size f cd::outer):=fun env he a ha=>Jp.mpr ⟨env,he,ha⟩;have st:(E9 s.heap (frs (envOfC qual scope s₀.heap.objs.size f cd::outer))).StaysIn s'.heap:=fun b o e=>hx.keeps b o (Jb _ e);have nx:(E9 s.heap (frs (envOfC qual scope s₀.heap.objs.size f cd::outer))).get? x=none:=by
  cases e:(E9 s.heap (frs (envOfC qual scope s₀.heap.objs.size f cd::outer))).get? x with
  |none=>rfl
  |some o=>
   have:=Jb _ e;rw[hx.new] at this
   cases this
 have fr0:s.heap.FunFrames (E9 s.heap (frs (envOfC qual scope s₀.heap.objs.size f cd::outer))) (envOfC qual scope s₀.heap.objs.size f cd::outer):=PySem.W.funFrames_hide I.stack hin;obtain⟨t,hobj,_,_⟩:=hx.there;have F:Fresh (E9 s.heap (frs (envOfC qual scope s₀.heap.objs.size f cd::outer))) (envOfC qual scope s₀.heap.objs.size f cd::outer) x c s'.heap:=
  ⟨st,nx,fr0.of_keeps fun b o hb _=>⟨o,hx.keeps b o hb,rfl⟩,_,_,hobj,⟨rfl,rfl⟩,rfl,rfl,rfl⟩
 have inB:∀b o,s.heap.get? b=some o->b∉frs (envOfC qual scope s₀.heap.objs.size f cd::outer)->∃ob,(E9 s.heap (frs (envOfC qual scope s₀.heap.objs.size f cd::outer))).get? b=some ob:=fun b o e hb=>⟨o,Lq _ e hb⟩;have trk:∀b o,H b=some o->∃ob,(E9 s.heap (frs (envOfC qual scope s₀.heap.objs.size f cd::outer))).get? b=some ob:=fun b o e=>by
  have lt:=I.hok.lt e
  cases e2:s.heap.get? b with
  |none=>
   exfalso;have ok:=I.hok b o e;obtain⟨ob,hob⟩:=ok.there;rw[e2] at hob
   cases hob
  |some ob=>
   refine inB b ob e2 fun z=>?_;have:=I.stkFree b z;rw[e] at this
   cases this
 have old:∀b o,s₀.heap.get? b=some o->b∉frs outer->∃ob,(E9 s.heap (frs (envOfC qual scope s₀.heap.objs.size f cd::outer))).get? b=some ob:=fun b o e hb=>by
  obtain⟨o',e1⟩:=I.base.there b o e (by show b∉([]:List A7);simp);refine inB b o' e1 fun z=>?_;rcases Bo.mp (I.stkSub b z) with z|z
  ·exact absurd (Ak (Au e) I.ok.above) (by rw[z];exact E5 _)
  ·exact hb z
 have u0:Un (frs outer) [] H₀ H s₀.heap s.heap:=zd5 I rfl Un.refl;have u1:Un (frs outer) [] H₀ H s₀.heap s'.heap:=u0.trans (Un.kept hx.keeps);have ok1:HOk P w H s'.heap:=I.hok.kept hx.keeps;have nxH:H x=none:=by
  cases e:H x with
  |none=>rfl
  |some o=>
   obtain⟨ob,hob⟩:=(I.hok x o e).there;rw[hx.new] at hob
   cases hob
 show wpAny (model P w) _ (leaving _ (.ref x)) _ _ s';exact fresh_leave hfr rfl F fun h' F' up=>⟨x,c,_,H,rfl,F',(show s'.os=s₀.os from ho.trans I.os),hg,zhR u1 F.stay F'.stay up old (zgk F.frs.2.2),zhl ok1 F.stay F'.stay trk,nxH,trk,old,q⟩
end
section
variable{prog:Aw}{w:Bq}{A:Bi}{E:A1->A6->Prop}{s:A6}
end
section
variable{X:Cx}{tg:Ce}{e:A7}{oe:Obj}
end
section
variable{X:Cx}{k:Nat}{f:A7}{fd:Ep}{ps:List Str}{sp:Sp}{x:Str}{p pos:Pos}{ex:Ce}{es:List Ce}{t:TA}{e:A7}{oe:Obj}
end
section
variable{X:Cx}{pins:List (A7×Obj)}{σ:St}{H:Hp}{s:A6}
end
section
variable{prog:Aw}{w:Bq}{A:Bi}{E:A1->A6->Prop}{s:A6}{K:Az}{x D:A7}{ox:Obj}
end
section
variable{X:Cx}
end
structure Err(K:Az)(mg:Str->Option A1)(x:Str)(C:A7):Prop where
 bound:mg x=some (.ref C)
 exc:Dp K C [.type "ValueError",.type "Exception",.type "BaseException",.type "object"] "ValueError.__new__"=true
theorem err_obj{K:Az}{h:C9}{C:A7}{bmB:List A1}{newId:String}(X:K.In h)(q:Dp K C bmB newId=true):
  ∃bm N nm q bs hdct sn sub ab col dd k0 k1 k2 k3 k5 mN,h.get? C=some (excClassObj nm q C N bs bm hdct sn sub ab col dd k0 k1 k2 k3 k5 newId)/\h.Ns N mN/\mN "__init__"=none/\OwnTail h bmB bm:=by
 unfold Dp at q
 split at q
 ·next dd cd sl ho=>
  split at q
  ·next C' bm k0 k1 k2 k3 n k5 hm hs=>
   simp only[Cp,beq_iff_eq,Fx] at q;obtain⟨⟨⟨⟨⟨r1,r2⟩,hdel⟩,ht⟩,hok⟩,hni⟩:=q;subst r1 r2
   cases cd with
   |mk nm bs mro ns qn hd sn sub ab col del=>
    dsimp only at hm hdel hok hni;subst hm hdel
    cases sl with
    |mk l=>
     simp only at hs;subst hs;exact⟨bm,ns,nm,qn,bs,hd,sn,sub,ab,col,dd,k0,k1,k2,k3,k5,_,X _ _ ho,.of_isNs (PySem.W.isNs_of_in X hok),PySem.W.nsMap_none_of_in X hok hni,PySem.W.tail_of_in X ht⟩
  ·cases q
 ·cases q
noncomputable def tRaise(E:XK)(C:A7)(ta:TA):TS:=fun _ σ H=>ta σ H fun vs H1=>vs.length<=sizeLine/\E (.ref C) none H1
section
variable{P:Aw}{w:Bq}{K:Az}{mg:Str->Option A1}{base:C9}{N:List Str}{qual:Str}{scope:Fn}{f:A7}{cd:A1}{A:Bi}{outer:List Env}{s₀:A6}{H₀:Hp}{E:XK}
theorem zbv{x:Str}{C:A7}{np cpos pos:Pos}{e:Ce}{es:List Ce}{t:TA}(O:Err K mg x C)(hg:Gl (cxOf (CX1 P w) P w K mg base N qual scope f cd A outer s₀ H₀ E) x)
  (ha:PA (cxOf (CX1 P w) P w K mg base N qual scope f cd A outer s₀ H₀ E) (e::es) t) (hd:(x==("__debug__":Str))=false:=by decide)
  (he:starEach (e::es) (envOfC qual scope s₀.heap.objs.size f cd)=(false,eval e (envOfC qual scope s₀.heap.objs.size f cd))::starEach es (envOfC qual scope s₀.heap.objs.size f cd):=by rfl)
  (hpl:(backTo cpos (starEach es (envOfC qual scope s₀.heap.objs.size f cd))).any (·.1)=false:=by rfl):
  PS (cxOf (CX1 P w) P w K mg base N qual scope f cd A outer s₀ H₀ E) (.Raise (some (.Call (.Name x np) (e::es) [] cpos)) none pos) (tRaise E C t):=by
 intro pins s σ H D I h;obtain⟨bm,Nn,nm,q,bs,hdct,sn,sub,ab,col,dd,k0,k1,k2,k3,k5,mN,hC,hN,hni,T⟩:=err_obj I.ok.mod.kin O.exc;refine wpAny_Raise_call_subT (C:=C) (nm:=nm) (q:=q) (N:=Nn) (bs:=bs) (bm:=bm) (hdct:=hdct) (sn:=sn) (sub:=sub) (ab:=ab) (col:=col) (dd:=dd) (k0:=k0) (k1:=k1) (k2:=k2) (k3:=k3) (k5:=k5) (env:=envOfC qual scope s₀.heap.objs.size f cd)
  F.excBase_ValueError (mN:=mN) (T.hasType F.excBase_ValueError.hasBase) (I.ok.hd rfl) ?_ hni (zeF I hg O.bound ⟨rfl,?_⟩ hd)
 ·rw[he];show(false||(backTo cpos (starEach es (envOfC qual scope s₀.heap.objs.size f cd))).any (·.1))=false;rw[hpl];rfl
 ·have g:=ha cpos pins s σ H _ I h;change wpAny _ _ (spliced (backTo cpos (starEach (e::es) (envOfC qual scope s₀.heap.objs.size f cd)))) _ _ s at g;rw[he] at g⊢;refine Mg (thn g fun us s2⟨vs,H1,I1,r,hl,q⟩=>?_);exact⟨rfl,by rw[<-r.length];exact hl,I1.bk _ _ hC,hN.keeps I1.bk,T.keeps I1.bk,fun h' x hx=>raise_out I1 hx rfl I1.bare q⟩
end
structure Callee1(P:Aw)(w:Bq)(K:Az)(mg:Str->Option A1)(base:C9)(x:Str)(k:Nat)(ps:List Str)(sp:Sp):Prop where
 ex:∃f fd,FnOk P w K mg base (CX1 P w) k f fd ps sp/\mg x=some (.ref f)/\Dr K (.ref f)=true/\Binds K fd ps []
structure MethAt(K:Az)(C:A7)(cn m:Str)(st:Cf):Prop where
 ex:∃f fd,Fun K m (cn++A2 "."++m) st f fd/\Meth K C m f
structure Method(P:Aw)(w:Bq)(K:Az)(mg:Str->Option A1)(base:C9)(C:A7)(m:Str)(CX:CXT)(k:Nat)(ps:List Str)(sp:Sp):Prop where
 ex:∃f fd,FnOk P w K mg base CX k f fd ps sp/\Meth K C m f/\Binds K fd ps []
section
variable{P:Aw}{w:Bq}{K:Az}{mg:Str->Option A1}{base:C9}
theorem Fun.ok1{x qual:Str}{st:Cf}{f:A7}{fd:Ep}{N ps:List Str}{k:Nat}{sp:Sp}(F:Fun K x qual st f fd)(S:FnScope N ps (defScope st))(len:∀vs H Q E,sp vs H Q E->vs.length=ps.length)
  (hbody:∀(cdv:A1)(A:Bi)(outer:List Env)(s:A6)(H:Hp)(vs:List V)(Q:VK)(E:XK),Room k (A.deeper (envOfC qual (defScope st) s.heap.objs.size f cdv))->sp vs H Q E->
   ∃t,PSs (cxOf (CX1 P w) P w K mg base N qual (defScope st) f cdv A outer s H E) (defBody st) t/\t {nx:=fun _ H'=>Q .non H',rt:=Q} (start N vs) H):FnOk P w K mg base (CX1 P w) (k+1) f fd ps sp:=by
 obtain⟨oc,od,kV,doc,pm,an,cdv,ct,osl,rfl,lk,hcd⟩:=F.ex;exact zh8 lk hcd S len fun A outer s H vs Q E hr hsp=>hbody cdv A outer s H vs Q E hr hsp
theorem DefAt.callee1{x:Str}{st:Cf}{N ps:List Str}{k:Nat}{sp:Sp}(D:DefAt K mg x st)(S:FnScope N ps (defScope st))
  (hb:∀(kV doc pm:A1)(an:Option A7)(cdv ct:A1)(us:List A1),us.length=ps.length->bindArgs (D6 x x (defArgs st) (defBody st) (defScope st) .none kV doc pm an cdv ct) ⟨us,[]⟩=pure (ps.zip us))
  (len:∀vs H Q E,sp vs H Q E->vs.length=ps.length)
  (hbody:∀(f:A7)(cdv:A1)(A:Bi)(outer:List Env)(s:A6)(H:Hp)(vs:List V)(Q:VK)(E:XK),Room k (A.deeper (envOfC x (defScope st) s.heap.objs.size f cdv))->sp vs H Q E->
   ∃t,PSs (cxOf (CX1 P w) P w K mg base N x (defScope st) f cdv A outer s H E) (defBody st) t/\t {nx:=fun _ H'=>Q .non H',rt:=Q} (start N vs) H):Callee1 P w K mg base x (k+1) ps sp:=by
 obtain⟨f,fd,F,m⟩:=D.ex;exact⟨f,fd,F.ok1 S len (fun cdv A outer s H vs Q E hr h=>hbody f cdv A outer s H vs Q E hr h),m,F.kp,F.binds hb⟩
theorem MethAt.meth1{cn m:Str}{C:A7}{st:Cf}{N ps:List Str}{k:Nat}{sp:Sp}(D:MethAt K C cn m st)(S:FnScope N ps (defScope st))
  (hb:∀(kV doc pm:A1)(an:Option A7)(cdv ct:A1)(us:List A1),us.length=ps.length->bindArgs (D6 m (cn++A2 "."++m) (defArgs st) (defBody st) (defScope st) .none kV doc pm an cdv ct) ⟨us,[]⟩=pure (ps.zip us))
  (len:∀vs H Q E,sp vs H Q E->vs.length=ps.length)
  (hbody:∀(f:A7)(cdv:A1)(A:Bi)(outer:List Env)(s:A6)(H:Hp)(vs:List V)(Q:VK)(E:XK),Room k (A.deeper (envOfC (cn++A2 "."++m) (defScope st) s.heap.objs.size f cdv))->sp vs H Q E->
   ∃t,PSs (cxOf (CX1 P w) P w K mg base N (cn++A2 "."++m) (defScope st) f cdv A outer s H E) (defBody st) t/\t {nx:=fun _ H'=>Q .non H',rt:=Q} (start N vs) H):Method P w K mg base C m (CX1 P w) (k+1) ps sp:=by
 obtain⟨f,fd,F,m⟩:=D.ex;exact⟨f,fd,F.ok1 S len (fun cdv A outer s H vs Q E hr h=>hbody f cdv A outer s H vs Q E hr h),m,F.binds hb⟩
theorem MethAt.meth0{cn m:Str}{C:A7}{st:Cf}{N ps:List Str}{k:Nat}{sp:Sp}(D:MethAt K C cn m st)(S:FnScope N ps (defScope st))
  (hb:∀(kV doc pm:A1)(an:Option A7)(cdv ct:A1)(us:List A1),us.length=ps.length->bindArgs (D6 m (cn++A2 "."++m) (defArgs st) (defBody st) (defScope st) .none kV doc pm an cdv ct) ⟨us,[]⟩=pure (ps.zip us))
  (len:∀vs H Q E,sp vs H Q E->vs.length=ps.length)
  (hbody:∀(f:A7)(cdv:A1)(A:Bi)(outer:List Env)(s:A6)(H:Hp)(vs:List V)(Q:VK)(E:XK),Room k (A.deeper (envOfC (cn++A2 "."++m) (defScope st) s.heap.objs.size f cdv))->sp vs H Q E->
   ∃t,PSs (cxOf CX0 P w K mg base N (cn++A2 "."++m) (defScope st) f cdv A outer s H E).nox (defBody st) t/\t {nx:=fun _ H'=>Q .non H',rt:=Q} (start N vs) H):Method P w K mg base C m CX0 (k+1) ps sp:=by
 obtain⟨f,fd,F,m⟩:=D.ex;exact⟨f,fd,F.ok S len (fun cdv A outer s H vs Q E hr h=>hbody f cdv A outer s H vs Q E hr h),m,F.binds hb⟩
end
section
variable{X:Cx}{x m:Str}{k:Nat}{ps:List Str}{sp:Sp}{p pos apos:Pos}{o e:Ce}{es:List Ce}{ta:TE}{t:TA}{E:XK}{C:A7}{CX:CXT}
theorem zcO(F:Callee1 X.prog X.w X.K X.mg X.base x k ps sp)(hr:Room k X.A)(hx:Passes (CX1 X.prog X.w) X E)(hg:Gl X x)(ha:PA X (e::es) t)(hdb:(x==("__debug__":Str))=false:=by decide)
  (he:starEach (e::es) X.env=(false,eval e X.env)::starEach es X.env:=by rfl) (hpl:(backTo pos (starEach es X.env)).any (·.1)=false:=by rfl):PE X (.Call (.Name x p) (e::es) [] pos) (tCall sp [] E t):=by
 obtain⟨f,fd,F,hm,hk,hb⟩:=F.ex;exact zgX F hr hg hm hk hb .nil hx ha hdb he hpl
theorem zgV{pl:Sem Bool}(he:PE X o ta)(c:Cls X.K C)(F:Method X.prog X.w X.K X.mg X.base C m CX k ps sp)(hr:Room k X.A)(hx:Passes CX X E)(ha:PA X (e::es) t)
  (hst:starEach (e::es) X.env=(false,eval e X.env)::starEach es X.env:=by rfl) (hpl:(backTo pos (starEach es X.env)).any (·.1)=false:=by rfl)
  (ht:eval (.Call (.Attribute o m apos) (e::es) [] pos) X.env=(do
   let ov<-eval o X.env
   standAt apos.atName
   let (f,first)<-holding [ov] (getMethod ov m pl)
   callWith pos f first (backTo pos (starEach (e::es) X.env)) (backToKw pos (keywordEach [] X.env))):=by rfl):
  PE X (.Call (.Attribute o m apos) (e::es) [] pos) (tMeth C m sp [] E ta t):=by
 obtain⟨f,fd,F,hm,hb⟩:=F.ex;exact pe_meth he c hm F hr hb .nil hx ha hst hpl ht
theorem pe_mt0{pl:Sem Bool}(he:PE X o ta)(c:Cls X.K C)(F:Method X.prog X.w X.K X.mg X.base C m CX k ps sp)(hr:Room k X.A)(hx:Passes CX X E)
  (ht:eval (.Call (.Attribute o m apos) [] [] pos) X.env=(do
   let ov<-eval o X.env
   standAt apos.atName
   let (f,first)<-holding [ov] (getMethod ov m pl)
   callWith pos f first (backTo pos (starEach [] X.env)) (backToKw pos (keywordEach [] X.env))):=by rfl):
  PE X (.Call (.Attribute o m apos) [] [] pos) (tMeth C m sp [] E ta tNil):=by
 obtain⟨f,fd,F,hm,hb⟩:=F.ex;exact pe_meth0 he c hm F hr hb .nil hx ht
end
section
variable{X:Cx}
noncomputable def gLst(K:Az)(n:Nat)(t:TGs):TG:=fun v σ H Q=>∃a xs,v= .ref a/\SqL K H a xs/\xs.length=n/\t xs σ H Q
theorem zf5{es:List Ce}{k:Nat}{t:TGs}{n:Nat}{pos:Pos}(hc:X.calm=true)(h:PGs X es t)
  (hn:(assignEach es X.env).length=n:=by rfl) (hst:(assignEach es X.env).findIdx? (·.1)=none:=by rfl):PG X (.Tuple es k pos) (gLst X.K n t):=by
 intro pins s σ H v u Q I r hw;obtain⟨a,xs,e1,hq,hl,hw⟩:=hw;subst e1
 cases r
 obtain⟨its,rv,p,hz⟩:=I.list hq;rw[Q1];refine A0 (K3 ?_);unfold unpack;have hsz:(assignEach es X.env).length=its.toArray.size:=by simp[hn,<-hl,rv.length]
 rw[hsz,hst];refine A0 (Dy (PySem.W.kun_itemsOf (I.ok.hd hc) p.isList fun h' hx=>?_));have I1:Inv X pins σ H {s with heap:=h'}:=I.kept (t':=s.toks) fun b o e=>hx b o (Br (Au e)) e;exact h pins _ σ H xs _ Q I1 (by simpa using rv) hw
end
mutual
inductive VD(K:Az)(H:Hp):V->Ih->Prop
 |non:VD K H .non .none
 |bl (b:Bool):VD K H (.bl b) (.bool b)
 |int (i:Int):VD K H (.int i) (.int i)
 |str (x:Str):VD K H (.str x) (.str x)
 |lst {a:A7} {xs:List V} {ds:List Ih}:SqL K H a xs->VDs K H xs ds->VD K H (.ref a) (.list ds)
 |tup {a:A7} {xs:List V} {ds:List Ih}:SqT K H a xs->VDs K H xs ds->VD K H (.ref a) (.tuple ds)
inductive VDs(K:Az)(H:Hp):List V->List Ih->Prop
 |nil:VDs K H [] []
 |cons {x:V} {d:Ih} {xs:List V} {ds:List Ih}:VD K H x d->VDs K H xs ds->VDs K H (x::xs) (d::ds)
end
theorem VDs.map{K:Az}{H:Hp}{α:Type}{f:α->V}{g:α->Ih}:∀{l:List α},(∀x∈l,VD K H (f x) (g x))->VDs K H (l.map f) (l.map g)
 |[],_=>.nil
 |x::l,h=>.cons (h x Aj) (VDs.map fun y hy=>h y (Ab _ hy))
section
variable{X:Cx}{pins:List (A7×Obj)}{σ:St}{H:Hp}{s:A6}
mutual
theorem VD.reads(I:Inv X pins σ H s):∀{v:V}{d:Ih}{u:A1},VD X.K H v d->RelV v u->∃as,Reads s.heap u d as
 |_,_,_,.non,r=>by cases r;exact⟨_,.none⟩
 |_,_,_,.bl b,r=>by cases r;exact⟨_,.bool b⟩
 |_,_,_,.int i,r=>by obtain⟨t,rfl⟩:=r;exact⟨_,.int i t⟩
 |_,_,_,.str x,r=>by obtain⟨t,rfl⟩:=r;exact⟨_,.str x t⟩
 |_,_,_,.lst hq hs,r=>by
  cases r
  obtain⟨its,rv,⟨o,n,e,c,_,d⟩,_⟩:=I.list hq;obtain⟨as,ra⟩:=VDs.reads I hs rv;exact⟨_,.list e c d (by simpa using ra)⟩
 |_,_,_,.tup hq hs,r=>by
  cases r
  obtain⟨its,rv,⟨o,e,c,n,d⟩,_⟩:=I.tuple hq;obtain⟨as,ra⟩:=VDs.reads I hs rv;exact⟨_,.tuple e c d (by simpa using ra)⟩
theorem VDs.reads(I:Inv X pins σ H s):∀{vs:List V}{ds:List Ih}{us:List A1},VDs X.K H vs ds->Vals vs us->∃as,ReadsAll s.heap us ds as
 |_,_,_,.nil,r=>by cases r;exact⟨_,.nil⟩
 |_,_,_,.cons h hs,r=>by
  cases r with
  |cons r rr=>
   obtain⟨a1,r1⟩:=VD.reads I h r;obtain⟨a2,r2⟩:=VDs.reads I hs rr;exact⟨_,.cons r1 r2⟩
end
end
section
variable{X:Cx}
noncomputable def rEqD(K:Az)(neg:Bool):R2:=fun x y H Q=>∃d e,VD K H x d/\VD K H y e/\El d=true/\El e=true/\Q (.bl (if neg then !PyData.eqv d e else Dt d e)) H
theorem op_eqD(hu:X.A.units+64<cLine):OpR X (compareOp .Eq) (rEqD X.K false):=by
 intro pins s σ H x y v u Q I rx ry h;obtain⟨d,e,hd,he,s1,s2,q⟩:=h;obtain⟨a1,r1⟩:=hd.reads I rx;obtain⟨a2,r2⟩:=he.reads I ry;exact eq_dataH r1 r2 s1 s2 hu ⟨.bl _,H,I,rfl,q⟩
theorem zgZ(hu:X.A.units+64<cLine):OpR X (compareOp .NotEq) (rEqD X.K true):=by
 intro pins s σ H x y v u Q I rx ry h;obtain⟨d,e,hd,he,s1,s2,q⟩:=h;obtain⟨a1,r1⟩:=hd.reads I rx;obtain⟨a2,r2⟩:=he.reads I ry;exact ne_dataH r1 r2 s1 s2 hu ⟨.bl _,H,I,rfl,q⟩
theorem zeQ:∀{xs:List Str}{us:List A1},Qx us xs->Vals (xs.map V.str) us
 |_,_,.nil=>.nil
 |_,_,.cons _ t r=>.cons ⟨t,rfl⟩ (zeQ r)
theorem sorted_fin{pins:List (A7×Obj)}{σ:St}{H:Hp}{s:A6}{Q:VK}{vs:List A1}{out:Array A1}{ys:List V}(I:Inv X pins σ H s)(hl:ys.length<=sizeLine)(r:Vals ys out.toList)
  (q:Q (.ref (s.heap.objs.size+1)) (upd H (s.heap.objs.size+1) (.lst ys))):EP X pins σ Q (.ref (s.heap.objs.size+1)) {s with heap:=sortedAll s.heap vs out}:=by
 obtain⟨e,he⟩:=sortedAll_at s.heap vs out;exact⟨.ref (s.heap.objs.size+1),_,I.laid (t':=s.toks) (fun b o=>sortedAll_old) (N0 _) (show ObjOk X.prog X.w _ _ _ (.lst ys) from⟨hl,out.toList,e,r,by simpa using he⟩),rfl,q⟩
theorem zcf:CallR X (.builtin "sorted") (fun xs H Q=>∃(a:A7)(ns:List Int),xs=[V.ref a]/\SqL X.K H a (ns.map V.int)/\ns.length<64/\∀p(ns':List Int),H p=none->ns'.Perm ns->ns'.Pairwise (· <= ·)->Q (.ref p) (upd H p (.lst (ns'.map V.int)))):=by
 intro pins s σ H xs us Q I r h;obtain⟨a,ns,rfl,hq,hb,q⟩:=h;obtain⟨u,rfl,ru⟩:=zb3 r
 cases ru
 obtain⟨its,rv,p,hz⟩:=I.list hq;have hl:ns.length=its.length:=by have:=rv.length;rwa[A3] at this
 refine sorted_ints p.isList (zdm rv) (by omega) fun out ns' a1 a2 a3=>?_;exact sorted_fin I (by rw[A3,a2.length_eq];exact Bm (Ex hb) (by decide)) (zcD a1) (q _ ns' (I.hok.fresh (N0 _)) a2 a3)
end
theorem zd7:∀{l:List A1}{ss:List Str},l.length=ss.length->(∀(j:Nat)(v:A1)(x:Str),l[j]?=some v->ss[j]?=some x->∃t,v= .str x t)->Qx l ss
 |[],[],_,_=>.nil
 |v::l,x::ss,hl,h=>by
  obtain⟨t,rfl⟩:=h 0 v x rfl rfl;exact .cons _ _ (zd7 (by simpa using hl) fun j u y e1 e2=>h (j+1) u y (by simpa using e1) (by simpa using e2))
theorem KV.get{κ:Type}:∀{a:List (κ×V)}{b:List (κ×A1)}{i:Nat}{k:κ}{x:A1},KV a b->b[i]?=some (k,x)->∃v,a[i]?=some (k,v)/\RelV v x
 |[],_,_,_,_,h,e=>by cases h;simp at e
 | (k',v') :: a,_,i,k,x,h,e=>by
  cases h with
  |cons r rr=>
   cases i with
   |zero=>
    simp at e;obtain⟨r1,r2⟩:=r;simp only at r1;rw[e] at r1 r2;exact⟨v',by rw[r1];rfl,r2⟩
   |succ i=>exact KV.get (i:=i) rr (by simpa using e)
section
variable{X:Cx}
theorem call_sortedD(hc:X.calm=true):CallR X (.builtin "sorted") (fun xs H Q=>∃(a:A7)(kvs:List (Key×V))(ss:List Str),xs=[V.ref a]/\Rd H a (.dK kvs)/\kvs.map (·.1)=ss.map Dh/\ss.length<64/\
  ∀p(ss':List Str),H p=none->ss'.Perm ss->sortedS ss'=true->Q (.ref p) (upd H p (.lst (ss'.map V.str)))):=by
 intro pins s σ H xs us Q I r h;obtain⟨a,kvs,ss,rfl,hq,hk,h64,q⟩:=h;obtain⟨u,rfl,ru⟩:=zb3 r
 cases ru
 obtain⟨hz,lo,vs,kv,hD⟩:=(show ObjOk X.prog X.w H s.heap a (.dK kvs) from hq.ok I.hok);obtain⟨ep,hat⟩:=hD.dictAt;have hlen:vs.length=ss.length:=by
  have e1:=kv.length;have e2:=congrArg Fb hk;rw[A3,A3] at e2;omega
 have big64:(64:Nat)<=sizeLine:=by decide
 refine Fe O2 Nd Ng (Nh _) ?_;unfold Hi.«sorted»;refine A0 (m:=checkCount "sorted" 1 1 _) (Ai ?_);refine A0 (J3 (A:=X.A.in1) (Jr (knd:=mixKind X.prog X.w) (kvs:=vs) (ep:=ep) lo) (I.ok.hd hc) hat (by omega) fun h' tk acc hkeep hacc=>?_);have hl:acc.toList.length=vs.length:=by rw[Ax];exact hacc.1
 have hS:Qx acc.toList ss:=by
  refine zd7 (by omega) fun j v x e1 e2=>?_;obtain⟨k,y,e3,hk2⟩:=hacc.2 j v (by rw[<-Ck];exact e1);obtain⟨v',e4,_⟩:=kv.get e3;have e5:(kvs.map (·.1))[j]?=some k:=by rw[Ad,e4];rfl
  rw[hk,Ad,e2] at e5;have e6:Dh x=k:=C1 e5;subst e6;rcases zaG (show keyIs (Dh x) v=true from hk2) with⟨i,t,e,_⟩|⟨y,t,e,e7⟩
  ·cases e
  ·cases e;exact⟨t,e7⟩
 refine A0 (Ie ?_ (by rw[hl];omega));have hoL:(h'.push (seqObj "list" acc.toList.toArray 0)).get? h'.objs.size=some (seqObj "list" acc.toList.toArray 0):=Ba _ rfl;refine A0 (Dy (E8 M4 ⟨_,hoL,rfl⟩ Lj (list_sort_treeK strKind_oneLt hoL hS.keysOf (fun v₁ v₂ rest e=>keyKind_strs (by rw[<-e];exact hS)) (by omega) fun st' hp hs=>⟨_,rfl,?_⟩) (M6 _)));obtain⟨ss',a1,a2,a3⟩:=sorted_out_str hS hp hs;refine Ai ⟨_,rfl,?_⟩;obtain⟨e,he⟩:=Mt (out:=(arrOf st').map (·.2)) hoL;have I1:Inv X pins σ H {s with heap:=h',toks:=tk}:=I.kept hkeep;have I2:=Inv.laid (o:=.lst (ss'.map V.str)) (a:=h'.objs.size) (h':=sortedHeap (h'.push (seqObj "list" acc.toList.toArray 0)) h'.objs.size acc.toList ((arrOf st').map (·.2))) (t':=tk) I1 (fun b o hb=>by
  have lt:=Au hb;rw[M3 (Br lt) (by rw[Fc];exact G3 lt)];exact Ae _ hb) (Ac _) (show ObjOk X.prog X.w _ _ _ (.lst (ss'.map V.str)) from⟨by rw[A3,a2.length_eq];omega,_,e,zeQ a1,by rw[Mi];exact he⟩)
 exact⟨.ref h'.objs.size,_,I2,rfl,q _ ss' (I1.hok.fresh (Ac _)) a2 a3⟩
end
section
variable{X:Cx}{pins:List (A7×Obj)}{σ:St}{H:Hp}{s:A6}{a:A7}{kvs:List (Key×V)}
end
theorem kV_rel{k:Key}{v:A1}(h:keyIs k v=true):RelV (kV k) v:=by
 rcases zaG h with⟨i,t,rfl,rfl⟩|⟨x,t,rfl,rfl⟩
 ·exact⟨t,rfl⟩
 ·exact⟨t,rfl⟩
section
variable{X:Cx}{tg:Ce}
end
section
variable{X:Cx}{f:Str}{k k':Nat}{ps:List Str}{spf:A7->A1->Sp}{p pos:Pos}{e:Ce}{es:List Ce}{t:TA}{x:A7}{c:A1}{ox:Obj}{pn:List (A7×Obj)}{vs:Array A1}
end
structure Maker(P:Aw)(w:Bq)(K:Az)(mg:Str->Option A1)(base:C9)(x:Str)(C:A7)(CX:CXT)(k:Nat)(ps:List Str)(sp:Sp):Prop where
 ex:∃f fd,Mk K C f/\FnOk P w K mg base CX k f fd ps sp/\mg x=some (.ref C)/\Binds K fd ps []
theorem pe_mk0{X:Cx}{x:Str}{C:A7}{CX:CXT}{k:Nat}{ps:List Str}{sp:Sp}{E:XK}{p pos:Pos}(M:Maker X.prog X.w X.K X.mg X.base x C CX k ps sp)(hr:Room (k+1) X.A)(hx:Passes CX X E)(hg:Gl X x)(hdb:(x==("__debug__":Str))=false:=by decide):
  PE X (.Call (.Name x p) [] [] pos) (tMake C sp [] E tNil):=by
 obtain⟨f,fd,M,F,m,b⟩:=M.ex;exact pe_make0 M F hr hg m b .nil hx hdb
section
variable{Y:Cx}
theorem op_notIn_seq'(K:Az)(h:Y.K=K):OpR Y (compareOp .NotIn) (rIn K true):=by subst h;exact zce
theorem zcj(K:Az)(h:Y.K=K):IxR Y (rIxL K):=by subst h;exact zaA
theorem zbT(K:Az)(h:Y.K=K):IxR Y (rIxT K):=by subst h;exact zav
theorem call_len_seq'(K:Az)(h:Y.K=K):CallR Y (.builtin "len") (fun xs H Q=>∃p ys,xs=[.ref p]/\(SqL K H p ys\/SqT K H p ys)/\Q (.int ys.length) H):=by subst h;exact zam
end
noncomputable def isStar:Ce->Bool
 | .Starred _ _=>true
 |_=>false
theorem star_cons{e:Ce}(es:List Ce)(env:Env)(h:isStar e=false):starEach (e::es) env=(false,eval e env)::starEach es env:=by
 cases e<;>first|rfl|cases h
structure QA(X:Cx)(es:List Ce)(t:TA):Prop where h:PA X es t
structure QE(X:Cx)(e:Ce)(t:TE):Prop where h:PE X e t
section
variable{X:Cx}{e:Ce}{es:List Ce}{te:TE}{t:TA}{pos:Pos}
theorem qe(h:PE X e te):QE X e te:=⟨h⟩
theorem zaW:QA X [] tNil:=⟨zae⟩
theorem zah(ha:QE X e te)(hr:QA X es t)(h:isStar e=false:=by rfl):QA X (e::es) (tCons te t):=⟨zaa ha.h hr.h (star_cons es X.env h)⟩
theorem zbm{k}(h:QA X es t):QE X (.Tuple es k pos) (tTup t):=⟨zba h.h⟩
theorem zdF(h:QA X es t):QE X (.List es pos) (tLst t):=⟨zaQ h.h⟩
end
structure QS(X:Cx)(st:Cf)(t:TS):Prop where h:PS X st t
structure QSs(X:Cx)(st:List Cf)(t:TS):Prop where h:PSs X st t
section
variable{X:Cx}{st:Cf}{rest:List Cf}{t u:TS}{a b e:Ce}{ta tb te:TE}{pos:Pos}
theorem qs(h:PS X st t):QS X st t:=⟨h⟩
theorem zgP(h:QS X st t):QSs X [st] t:=⟨zaf h.h⟩
theorem qe_ix{r:R2}(hr:IxR X r)(ha:QE X a ta)(hb:QE X b tb)(hs:PlainIx b):QE X (.Subscript a b pos) (tOp r ta tb):=⟨zar hr ha.h hb.h hs⟩
theorem zhY{op:Operator}{r:R2}(ho:OpR X (binaryOp op) r)(ha:QE X a ta)(hb:QE X b tb):QE X (.BinOp a op b pos) (tOp r ta tb):=⟨zax ho ha.h hb.h⟩
theorem zbp(h:QS X st t)(hr:QSs X rest u):QSs X (st::rest) (tSeq t u):=⟨zac h.h hr.h⟩
theorem qss_cut(h:QS X st t)(hr:QSs X rest u):QSs X (st::rest) (tCut t u):=⟨zca h.h hr.h⟩
theorem zhI(h:QE X e te):QS X (.Return (some e) pos) (tRet te):=⟨zal h.h⟩
theorem zcN{i:Nat}{x:Str}{pos':Pos}(hN:X.N.Nodup)(hi:X.N[i]?=some x)(hx:Loc X.env.scope x)(he:QE X e te)(hs:swapsWith e (some (.Name x pos')) pos.line X.env=pure false:=by rfl)(hf:X.fn x=true\/X.env.scope.names.lookup x=some .local:=by first|exact .inl rfl|exact .inr rfl|assumption):
  QS X (.Assign [.Name x pos'] e pos) (tAsg te (gName i)):=⟨zan hN hi hx he.h hs hf⟩
end
theorem DefAt.calleeQ{P:Aw}{w:Bq}{K:Az}{mg:Str->Option A1}{base:C9}{x:Str}{st:Cf}{N ps:List Str}{k:Nat}{sp:Sp}(D:DefAt K mg x st)(S:FnScope N ps (defScope st))
  (hb:∀(kV doc pm:A1)(an:Option A7)(cdv ct:A1)(us:List A1),us.length=ps.length->bindArgs (D6 x x (defArgs st) (defBody st) (defScope st) .none kV doc pm an cdv ct) ⟨us,[]⟩=pure (ps.zip us))
  (len:∀vs H Q E,sp vs H Q E->vs.length=ps.length)
  (hbody:∀(f:A7)(cdv:A1)(A:Bi)(outer:List Env)(s:A6)(H:Hp)(vs:List V)(Q:VK)(E:XK),Room k (A.deeper (envOfC x (defScope st) s.heap.objs.size f cdv))->sp vs H Q E->
   ∃t,QSs (cxOf CX0 P w K mg base N x (defScope st) f cdv A outer s H E).nox (defBody st) t/\t {nx:=fun _ H'=>Q .non H',rt:=Q} (start N vs) H):Callee P w K mg base x (k+1) ps sp:=
 D.callee S hb len fun f cdv A outer s H vs Q E hr h=>let ⟨t,q,r⟩:=hbody f cdv A outer s H vs Q E hr h;⟨t,q.h,r⟩
theorem pe_cls{X:Cx}{x:Str}{C:A7}{pos:Pos}(hg:Gl X x)(hm:X.mg x=some (.ref C))(hd:(x==("__debug__":Str))=false:=by decide):PE X (.Name x pos) (tC (.ref C)):=zgW (v:=.ref C) hg hm rfl hd
section
variable{K:Az}{C D CE:A7}{oc:A1}{od:Option A7}{cd:ClassData}{sl:Array (Option A1)}{b:Bool}
end
theorem zcR{H:Hp}{p l:A7}{ys:List V}{o:HO}(h:H l=some (.lst ys))(n:H p=none):upd H p o l=some (.lst ys):=by rw[zag (zas h n)];exact h
theorem zhX{ns:List Int}{k:Int}(h0:0<=k)(h:k<(ns.length:Int)):atI (ns.map V.int) k=some (V.int (ns.getD k.toNat 0)):=by
 have hk:k.toNat<ns.length:=by omega
 have e:((k.toNat:Nat):Int)=k:=by omega
 rw[<-e];refine zaB ?_;rw[Ad,A8,Cj,A5 hk];rfl
theorem getD_big{ns:List Int}{k:Int}(h:¬k<(ns.length:Int)):ns.getD k.toNat 0=0:=by
 rw[A8,Cm (by omega)];rfl
theorem zcX{x:Str}:x.cps.toList.length=x.length:=by simp[Qc]
theorem zaS:1000<=sizeLine:=by decide
theorem big{n:Nat}(h:n<=1000):n<=sizeLine:=Bm h zaS
theorem bigr{n:Nat}(h:Nat.ble n 1000=true):n<=sizeLine:=big (Mo h)
theorem p2:(0:Int)<2:=by decide
theorem p6:(0:Int)<6:=by decide
theorem len_app(x y:Str):(x++y).length=x.length+y.length:=by
 have:=congrArg Fb (L0 x y);rw[Af,zcX,zcX,zcX] at this;exact this
theorem zeE(c:Nat):(⟨#[c]⟩:Str).length=1:=rfl
theorem dec_ii{a b:Int}:decide (V.int a=V.int b)=decide (a=b):=by
 rw[decide_eq_decide];exact⟨fun h=>by injection h,fun h=>by rw[h]⟩
theorem zbr{i n:Nat}{lo:Int}{x:V}(h:((A4 n).map fun i=>V.int (lo+((i:Nat):Int)))[i]?=some x):i<n/\x=V.int (lo+((i:Nat):Int)):=by
 have hi:i<n:=by
  have:=(Ag.mp h).1;simpa using this
 rw[Ad,Cn hi] at h
 cases h
 exact⟨hi,rfl⟩
noncomputable def small(c:Nat):Bool:=decide (97<=c)&&decide (c<=122)
noncomputable def isName(x:Str):Bool:=(decide (1<=x.length)&&decide (x.length<=6))&&x.cps.toList.all small
noncomputable def abc:Str:=A2 "abcdefghijklmnopqrstuvwxyz"
theorem zeO:abc.cps.toList=(A4 26).map (97+ ·):=by decide+kernel
theorem zfF:abc.length=26:=by decide+kernel
theorem abc_at{k:Int}(h0:0<=k)(h:k<26):∃c,atI abc.cps.toList k=some c/\small c=true:=by
 have e:((k.toNat:Nat):Int)=k:=by omega
 refine⟨97+k.toNat,?_,?_⟩
 ·rw[<-e];refine zaB ?_;rw[zeO,Ad,Cn (by omega),Cj];rfl
 ·unfold small;rw[decide_eq_true (by omega:97<=97+k.toNat),decide_eq_true (by omega:97+k.toNat<=122)];rfl
theorem zg4{x:Str}(h1:1<=x.length)(h2:x.length<=6)(h3:x.cps.toList.all small=true):isName x=true:=by
 unfold isName;rw[decide_eq_true h1,decide_eq_true h2,h3];rfl
theorem name_one{c:Nat}(h:small c=true):isName ⟨#[c]⟩=true:=zg4 (by rw[zeE];decide) (by rw[zeE];decide) (by simp[h])
theorem name_len{x:Str}(h:isName x=true):1<=x.length/\x.length<=6:=by
 unfold isName at h;simp only[Cp,decide_eq_true_eq] at h;exact h.1
theorem app_list(x y:Str):(x++y).cps.toList=x.cps.toList++y.cps.toList:=L0 x y
theorem zdk{α:Type}[DecidableEq α]:∀{l m:List α},l.Nodup->(∀x∈l,x∈m)->l.length<=m.length
 |[],_,_,_=>Bz _
 |x::l,m,hn,h=>by
  have hx:=h x Aj;have hn:=Dw.mp hn;have ih:=zdk (m:=m.erase x) hn.2 fun y hy=>(List.mem_erase_of_ne (fun z:y=x=>hn.1 (by rw[<-z];exact hy))).mpr (h y (Ab _ hy));have e:=Le hx;have:=Lw hx;rw[At];omega
theorem zha(x:Str)(us:List Str):inV (V.str x) (us.map V.str)=decide (x∈us):=by
 unfold inV;rw[Gq,B7,Bf,decide_eq_true_eq];constructor
 ·rintro⟨y,hy,e⟩;have e':(y==x)=true:=e;rw[<-eq_of_beq e'];exact hy
 ·intro h;exact⟨x,h,beq_self_eq_true x⟩
theorem zfg(us:List Str):(us.map V.str).all flatV=true:=by
 rw[Gr,Da];intro x _;rfl
theorem spare_some(us:List Str)(h:us.length<=25):∃c∈abc.cps.toList,(⟨#[c]⟩:Str)∉us:=by
 apply D7;intro hn;have hall:∀y∈abc.cps.toList.map (fun c=>(⟨#[c]⟩:Str)),y∈us:=fun y hy=>by
  obtain⟨c,hc,rfl⟩:=Aa.mp hy;exact D7 fun z=>hn ⟨c,hc,z⟩
 have nd:(abc.cps.toList.map (fun c=>(⟨#[c]⟩:Str))).Nodup:=by
  rw[zeO,As];decide+kernel
 have:=zdk nd hall;rw[A3,zcX,zfF] at this;omega
theorem abc_small{c:Nat}(h:c∈abc.cps.toList):small c=true:=by
 rw[zeO] at h;obtain⟨i,hi,rfl⟩:=Aa.mp h;have:=Ay.mp hi;unfold small;rw[decide_eq_true (by omega:97<=97+i),decide_eq_true (by omega:97+i<=122)];rfl
theorem zdV:∀(ns acc:List Int),(ns.foldl Hn acc).length<=acc.length+ns.length/\(acc.Nodup->((ns.foldl Hn acc).length=acc.length+ns.length↔(acc++ns).Nodup))
 |[],acc=>⟨by simp,fun h=>by simp[h]⟩
 |n::ns,acc=>by
  rw[Io];by_cases hm:n∈acc
  ·have e:Hn acc n=acc:=by
    unfold Hn;rw[if_pos (Bf.mpr ⟨n,hm,by simp⟩)]
   rw[e];have ih:=zdV ns acc;refine⟨by have:=ih.1;rw[At];omega,fun _=>⟨fun z=>?_,fun z=>?_⟩⟩
   ·have:=ih.1;rw[At] at z;omega
   ·exact absurd rfl ((Cy.mp z).2.2 n hm n Aj)
  ·have e:Hn acc n=acc++[n]:=by
    unfold Hn;rw[if_neg];intro z;obtain⟨x,hx,ex⟩:=Bf.mp z;have:x=n:=by simpa using ex
    subst this;exact hm hx
   rw[e];have ih:=zdV ns (acc++[n]);rw[Af,Bx,Av] at ih;refine⟨by have:=ih.1;rw[At];omega,fun h=>?_⟩;have hn:(acc++[n]).Nodup:=by
    refine Cy.mpr ⟨h,by simp,fun a ha b hb=>?_⟩;have:b=n:=by simpa using hb
    subst this;intro z;subst z;exact hm ha
   have:=ih.2 hn;rw[At];rw[show acc.length+(ns.length+1)=acc.length+1+ns.length by omega];exact this
theorem many_eq(ns:List Int):many ns=(ns.foldl Hn []).length:=by
 unfold many firstMet;congr 2;apply Ft;intro i;rw[Ad];by_cases h:i<ns.length
 ·rw[Cn h];simp[A8,h]
 ·rw[Cm (by simpa using h),Cm (by simpa using h)];rfl
theorem many_nodup(ns:List Int):many ns=ns.length↔ns.Nodup:=by
 rw[many_eq];have:=(zdV ns []).2 Dm;simpa using this
noncomputable def inR(t:Int):Bool:=decide (0<=t)&&decide (t<=7)
noncomputable def areTeeth(ts:List Int):Bool:=decide (0∈ts)&&(decide (many ts=ts.length)&&ts.all inR)
theorem in_zero(ts:List Int):inV (V.int 0) (ts.map V.int)=decide (0∈ts):=by
 unfold inV;rw[Gq,B7,Bf,decide_eq_true_eq];constructor
 ·rintro⟨x,hx,e⟩;have:x=0:=by
   have e':(x==0)=true:=e;exact eq_of_beq e'
  rw[<-this];exact hx
 ·intro h;exact⟨0,h,rfl⟩
theorem zh1(ts:List Int):(ts.map V.int).all flatV=true:=by
 rw[Gr,Da];intro x _;rfl
noncomputable def KindsL(G:A7->Prop)(H:Hp):List V->List (Str×List Int)->Prop
 |[],[]=>True
 |v::vs,k::ks=>(∃q t,v= .ref q/\H q=some (.lst [.str k.1,.ref t])/\H t=some (.lst (k.2.map V.int))/\G q/\G t)/\KindsL G H vs ks
 |_,_=>False
theorem KindsL.mono{G G':A7->Prop}{H H':Hp}(s:∀a o,G a->H a=some o->H' a=some o)(g:∀a,G a->G' a):∀{vs:List V}{ks:List (Str×List Int)},KindsL G H vs ks->KindsL G' H' vs ks
 |[],[],_=>trivial
 |_::_,_::_,⟨⟨q,t,e,h1,h2,g1,g2⟩,r⟩=>⟨⟨q,t,e,s _ _ g1 h1,s _ _ g2 h2,g _ g1,g _ g2⟩,KindsL.mono s g r⟩
 |[],_::_,h=>h.elim
 |_::_,[],h=>h.elim
theorem KindsL.same{G:A7->Prop}{H H':Hp}{vs:List V}{ks:List (Str×List Int)}(s:Same H H')(h:KindsL G H vs ks):KindsL G H' vs ks:=h.mono (fun a o _ e=>s a o e) fun _ g=>g
theorem KindsL.upd{G:A7->Prop}{H:Hp}{p:A7}{o:HO}{vs:List V}{ks:List (Str×List Int)}(h:KindsL G H vs ks)(n:¬G p):KindsL G (upd H p o) vs ks:=h.mono (fun a u g e=>by rw[zag (fun z:a=p=>n (by rw[<-z];exact g))];exact e) fun _ g=>g
theorem KindsL.snoc{G:A7->Prop}{H:Hp}{q t:A7}{k:Str×List Int}(h1:H q=some (.lst [.str k.1,.ref t]))(h2:H t=some (.lst (k.2.map V.int)))(g1:G q)(g2:G t):∀{vs:List V}{ks:List (Str×List Int)},KindsL G H vs ks->KindsL G H (vs++[.ref q]) (ks++[k])
 |[],[],_=>⟨⟨q,t,rfl,h1,h2,g1,g2⟩,trivial⟩
 |_::_,_::_,⟨a,b⟩=>⟨a,KindsL.snoc h1 h2 g1 g2 b⟩
 |[],_::_,x=>x.elim
 |_::_,[],x=>x.elim
theorem KindsL.length{G:A7->Prop}{H:Hp}:∀{vs:List V}{ks:List (Str×List Int)},KindsL G H vs ks->vs.length=ks.length
 |[],[],_=>rfl
 |_::_,_::_,⟨_,b⟩=>by rw[At,At,KindsL.length b]
 |[],_::_,x=>x.elim
 |_::_,[],x=>x.elim
theorem KindsL.get{G:A7->Prop}{H:Hp}:∀{vs:List V}{ks:List (Str×List Int)}{i:Nat}{v:V},KindsL G H vs ks->vs[i]?=some v->∃k q t,ks[i]?=some k/\v= .ref q/\H q=some (.lst [.str k.1,.ref t])/\H t=some (.lst (k.2.map V.int))
 |[],[],_,_,_,e=>by simp at e
 |_::_,k::_,0,_,⟨⟨q,t,e,h1,h2,_⟩,_⟩,z=>by
  simp at z;subst z;exact⟨k,q,t,rfl,e,h1,h2⟩
 |_::_,_::_,i+1,_,⟨_,b⟩,z=>by
  obtain⟨k,q,t,h⟩:=KindsL.get (i:=i) b (by simpa using z);exact⟨k,q,t,by simpa using h⟩
 |[],_::_,_,_,x,_=>x.elim
 |_::_,[],_,_,x,_=>x.elim
noncomputable def GT(ts:List Int):Prop:=∃f:Nat->Bool,ts=((A4 8).filter f).map (fun i=>((i:Nat):Int))/\f 0=true
structure Drawn(G:A7->Prop)(H:Hp)(vs:List V)(ks:List (Str×List Int)):Prop where
 rows:KindsL G H vs ks
 nd:(ks.map (·.1)).Nodup
 good:∀k∈ks,isName k.1=true/\GT k.2
theorem Drawn.same{G:A7->Prop}{H H':Hp}{vs:List V}{ks:List (Str×List Int)}(d:Drawn G H vs ks)(s:Same H H'):Drawn G H' vs ks:=⟨d.rows.same s,d.nd,d.good⟩
theorem Drawn.upd{G:A7->Prop}{H:Hp}{p:A7}{o:HO}{vs:List V}{ks:List (Str×List Int)}(d:Drawn G H vs ks)(n:¬G p):Drawn G (upd H p o) vs ks:=⟨d.rows.upd n,d.nd,d.good⟩
theorem Drawn.any{G:A7->Prop}{H:Hp}{vs:List V}{ks:List (Str×List Int)}(d:Drawn G H vs ks):Drawn (fun _=>True) H vs ks:=⟨d.rows.mono (fun _ _ _ e=>e) fun _ _=>trivial,d.nd,d.good⟩
theorem Drawn.snoc{G:A7->Prop}{H:Hp}{vs:List V}{ks:List (Str×List Int)}{q t:A7}{k:Str×List Int}(d:Drawn G H vs ks)(h1:H q=some (.lst [.str k.1,.ref t]))(h2:H t=some (.lst (k.2.map V.int)))(g1:G q)(g2:G t)(hn:k.1∉ks.map (·.1))(hk:isName k.1=true/\GT k.2):Drawn G H (vs++[.ref q]) (ks++[k]):=by
 refine⟨KindsL.snoc h1 h2 g1 g2 d.rows,?_,fun x hx=>?_⟩
 ·rw[B1];refine Cy.mpr ⟨d.nd,by simp,fun a ha b hb=>?_⟩;have e:b=k.1:=by simpa using hb
  rw[e];exact fun z=>hn (z▸ha)
 ·rcases Ap.mp hx with z|z
  ·exact d.good x z
  ·rw[A9.mp z];exact hk
noncomputable abbrev Combs:=List (Str×List Int)
noncomputable def cGet(cs:Combs)(x:Str):Option (List Int):=(cs.find? fun c=>decide (c.1=x)).map (·.2)
noncomputable def cPut(cs:Combs)(x:Str)(ts:List Int):Combs:=if(cs.any fun c=>decide (c.1=x))=true then cs.map (fun c=>if c.1=x then(c.1,ts) else c) else cs++[(x,ts)]
noncomputable def canon(ts:List Int):List Int:=((A4 8).filter fun i=>decide (((i:Nat):Int)∈ts)).map fun i=>((i:Nat):Int)
theorem zhO(f:Nat->Bool):(((A4 8).filter f).map fun i=>((i:Nat):Int)).Pairwise (· < ·):=by
 rw[C7];refine Bp Cv ?_;refine Er ?_ (D9 (n:=8));intro a b h;omega
theorem zeM(ts:List Int):(canon ts).Pairwise (· < ·):=zhO _
theorem mem_canon{ts:List Int}{t:Int}:t∈canon ts↔t∈ts/\0<=t/\t<=7:=by
 unfold canon;simp only[Aa,Aq,Ay,decide_eq_true_eq];constructor
 ·rintro⟨i,⟨hi,hm⟩,rfl⟩;exact⟨hm,by omega,by omega⟩
 ·rintro⟨hm,h0,h7⟩;refine⟨t.toNat,⟨by omega,?_⟩,by omega⟩;rwa[show((t.toNat:Nat):Int)=t by omega]
theorem zaU{l:List Int}(h:l.Pairwise (· < ·)):l.Nodup:=h.imp fun h=>by omega
theorem zcz(ts:List Int):(canon ts).Nodup:=zaU (zeM ts)
theorem zbx{a b:List Int}(hp:a.Perm b)(ha:a.Pairwise (· <= ·))(hb:b.Pairwise (· <= ·)):a=b:=
 hp.eq_of_pairwise (fun x y _ _ h1 h2=>Int.le_antisymm h1 h2) ha hb
theorem zdp{ns ts:List Int}(hp:ns.Perm ts)(hs:ns.Pairwise (· <= ·))(hn:ts.Nodup)(hr:∀t∈ts,0<=t/\t<=7):ns=canon ts:=by
 refine zbx (hp.trans ?_) hs ((zeM ts).imp fun h=>by omega);rw[D5 hn (zcz ts)];intro t;rw[mem_canon];exact⟨fun h=>⟨h,hr t h⟩,fun h=>h.1⟩
theorem zeI{ts:List Int}(h:GT ts):ts.Pairwise (· < ·):=by
 obtain⟨f,rfl,_⟩:=h;exact zhO f
theorem zbF{ts:List Int}(h:GT ts):∀t∈ts,0<=t/\t<=7:=by
 obtain⟨f,rfl,_⟩:=h;intro t ht;obtain⟨i,hi,rfl⟩:=Aa.mp ht;have:=Ay.mp (Aq.mp hi).1;omega
theorem zbU{ts:List Int}(h:GT ts):(0:Int)∈ts:=by
 obtain⟨f,rfl,h0⟩:=h;exact Aa.mpr ⟨0,Aq.mpr ⟨by decide,h0⟩,rfl⟩
theorem zgi{ts:List Int}(h0:(0:Int)∈ts):GT (canon ts):=⟨_,rfl,decide_eq_true h0⟩
theorem gt_eq{ts:List Int}(h:GT ts):canon ts=ts:=by
 symm;refine zdp (K2 _) ((zeI h).imp fun h=>by omega) (zaU (zeI h)) (zbF h)
theorem zhg{ts:List Int}(h:GT ts):ts.length<=8:=by
 obtain⟨f,rfl,_⟩:=h;rw[A3];exact Bm (Bu _ _) (by simp)
theorem canon_len(ts:List Int):(canon ts).length<=8:=by
 unfold canon;rw[A3];exact Bm (Bu _ _) (by simp)
theorem inR_iff{t:Int}:inR t=true↔0<=t/\t<=7:=by unfold inR;simp
theorem teeth_iff{ts:List Int}:areTeeth ts=true↔(0:Int)∈ts/\ts.Nodup/\∀t∈ts,0<=t/\t<=7:=by
 unfold areTeeth;simp only[Cp,decide_eq_true_eq,many_nodup,Da,inR_iff]
theorem zds{ts:List Int}(hn:ts.Nodup)(hr:∀t∈ts,0<=t/\t<=7):ts.length<=8:=by
 have:ts.length<=(canon ts).length:=zdk hn fun x hx=>mem_canon.mpr ⟨hx,hr x hx⟩;have:=canon_len ts;omega
theorem gt_teeth{ts:List Int}(h:GT ts):areTeeth ts=true:=teeth_iff.mpr ⟨zbU h,zaU (zeI h),zbF h⟩
structure Good(cs:Combs):Prop where
 len:cs.length<=8
 nd:(cs.map (·.1)).Nodup
 ok:∀c∈cs,isName c.1=true/\GT c.2
theorem good_nil:Good []:=⟨by decide,Dm,by simp⟩
theorem zbM{cs:Combs}{x:Str}{ts:List Int}(h:cGet cs x=some ts):(x,ts)∈cs:=by
 unfold cGet at h;obtain⟨c,hc,rfl⟩:=Lc.mp h;have h1:=Ek hc;have h2:c.1=x:=by simpa using Ip hc
 rw[<-h2];exact h1
theorem get_none{cs:Combs}{x:Str}:cGet cs x=none↔x∉cs.map (·.1):=by
 unfold cGet;rw[Option.map_eq_none_iff,Ha];simp only[decide_eq_true_eq,Aa,not_exists,not_and]
theorem zfE{cs:Combs}{x:Str}:(cs.any fun c=>decide (c.1=x))=(cGet cs x).isSome:=by
 rw[B7,Bf,Option.isSome_iff_ne_none,ne_eq,get_none,R8,Aa];simp
theorem zdn{c:Str×List Int}{cs:Combs}{x:Str}:cGet (c::cs) x=if c.1=x then some c.2 else cGet cs x:=by
 unfold cGet;rw[Ez];by_cases h:c.1=x
 ·simp[h]
 ·simp[h]
theorem zgQ{cs:Combs}{x:Str}{ts:List Int}(h:cGet cs x=none):cPut cs x ts=cs++[(x,ts)]:=by
 unfold cPut;rw[zfE,h];rfl
theorem zfw{cs:Combs}{x:Str}{ts us:List Int}(h:cGet cs x=some us):cPut cs x ts=cs.map (fun c=>if c.1=x then(c.1,ts) else c):=by
 unfold cPut;rw[zfE,h];rfl
theorem put_keys{cs:Combs}{x:Str}{ts us:List Int}(h:cGet cs x=some us):(cPut cs x ts).map (·.1)=cs.map (·.1):=by
 rw[zfw h,As];apply Be;intro c _;show(if c.1=x then(c.1,ts) else c).1=c.1
 split<;>rfl
theorem Good.put{cs:Combs}{x:Str}{ts:List Int}(g:Good cs)(hx:isName x=true)(ht:GT ts)(hl:cs.length<8\/(cGet cs x).isSome=true):Good (cPut cs x ts):=by
 cases e:cGet cs x with
 |none=>
  rw[zgQ e];refine⟨?_,?_,?_⟩
  ·rw[e] at hl;rw[Af,Bx];rcases hl with h|h
   ·omega
   ·cases h
  ·rw[B1];exact zg3 g.nd (get_none.mp e)
  ·intro c hc;rcases Ap.mp hc with h|h
   ·exact g.ok c h
   ·rw[A9.mp h];exact⟨hx,ht⟩
 |some us=>
  refine⟨?_,by rw[put_keys e];exact g.nd,?_⟩
  ·rw[zfw e,A3];exact g.len
  ·rw[zfw e];intro c hc;obtain⟨c0,h0,rfl⟩:=Aa.mp hc
   split
   ·exact⟨(g.ok c0 h0).1,ht⟩
   ·exact g.ok c0 h0
noncomputable def KvR(G:A7->Prop)(H:Hp):List (Key×V)->Combs->Prop:=Bv fun kv c=>∃t,kv=(Dh c.1,V.ref t)/\H t=some (.lst (c.2.map V.int))/\G t
noncomputable def DictR(G:A7->Prop)(H:Hp)(d:A7)(cs:Combs):Prop:=G d/\∃kvs,H d=some (.dK kvs)/\KvR G H kvs cs
theorem KvR.mono{G G':A7->Prop}{H H':Hp}{kvs:List (Key×V)}{cs:Combs}(s:∀a o,G a->H a=some o->H' a=some o)(g:∀a,G a->G' a)(h:KvR G H kvs cs):KvR G' H' kvs cs:=
 Lu (fun _ _⟨t,e,h1,g1⟩=>⟨t,e,s _ _ g1 h1,g _ g1⟩) h
theorem DictR.mono{G G':A7->Prop}{H H':Hp}{d:A7}{cs:Combs}(s:∀a o,G a->H a=some o->H' a=some o)(g:∀a,G a->G' a)(h:DictR G H d cs):DictR G' H' d cs:=
 let ⟨g0,kvs,e,r⟩:=h
 ⟨g _ g0,kvs,s _ _ g0 e,r.mono s g⟩
theorem KvR.keys{G:A7->Prop}{H:Hp}:∀{kvs:List (Key×V)}{cs:Combs},KvR G H kvs cs->kvs.map (·.1)=(cs.map (·.1)).map Dh
 |_,_,.nil=>rfl
 |_,_,.cons ⟨t,e,_⟩ r=>by
  subst e;show _::_=_::_;rw[show Hr _ _=_ from KvR.keys r]
theorem KvR.val{G:A7->Prop}{H:Hp}{x:Str}:∀{kvs:List (Key×V)}{cs:Combs},KvR G H kvs cs->
  (cGet cs x=none/\valV kvs (Dh x)=none)\/∃ts t,cGet cs x=some ts/\valV kvs (Dh x)=some (.ref t)/\H t=some (.lst (ts.map V.int))/\G t
 |_,_,.nil=>.inl ⟨rfl,rfl⟩
 |_,_,.cons (b:=c) ⟨t,e,h1,g1⟩ r=>by
  subst e;by_cases h:c.1=x
  ·refine .inr ⟨c.2,t,by rw[zdn,if_pos h],za5 (by rw[h]),h1,g1⟩
  ·have hn:¬((Dh c.1:Key)=Dh x):=fun z=>h (Lk z);rcases KvR.val (x:=x) r with⟨e1,e2⟩|⟨ts,t',e1,e2,e3⟩
   ·exact .inl ⟨by rw[zdn,if_neg h];exact e1,by rw[zaZ hn];exact e2⟩
   ·exact .inr ⟨ts,t',by rw[zdn,if_neg h];exact e1,by rw[zaZ hn];exact e2,e3⟩
theorem KvR.some{G:A7->Prop}{H:Hp}{kvs:List (Key×V)}{cs:Combs}{x:Str}(r:KvR G H kvs cs):(valV kvs (Dh x)).isSome=(cGet cs x).isSome:=by
 rcases r.val (x:=x) with⟨e1,e2⟩|⟨ts,t',e1,e2,e3⟩
 ·rw[e1,e2];rfl
 ·rw[e1,e2];rfl
theorem KvR.map{G:A7->Prop}{H:Hp}{x:Str}{t:A7}{ts:List Int}(h1:H t= .some (.lst (ts.map V.int)))(g1:G t):∀{kvs:List (Key×V)}{cs:Combs},KvR G H kvs cs->
  KvR G H (kvs.map fun kv=>if kv.1=Dh x then(kv.1,V.ref t) else kv) (cs.map fun c=>if c.1=x then(c.1,ts) else c)
 |_,_,.nil=>.nil
 |_,_,.cons (b:=c) ⟨t',e,h2,g2⟩ r=>by
  subst e;refine .cons ?_ (KvR.map h1 g1 r);dsimp only;by_cases hx:c.1=x
  ·rw[if_pos hx,if_pos (by rw[hx])];exact⟨t,rfl,h1,g1⟩
  ·rw[if_neg hx,if_neg (fun z=>hx (Lk z))];exact⟨t',rfl,h2,g2⟩
theorem KvR.put{G:A7->Prop}{H:Hp}{kvs:List (Key×V)}{cs:Combs}{x:Str}{t:A7}{ts:List Int}(r:KvR G H kvs cs)(h1:H t= .some (.lst (ts.map V.int)))(g1:G t):KvR G H (putK kvs (Dh x) (.ref t)) (cPut cs x ts):=by
 unfold putK cPut;rw[zbu,zfE,r.some]
 split
 ·exact r.map h1 g1
 ·exact Ej r ⟨t,rfl,h1,g1⟩
noncomputable abbrev PastR(G:A7->Prop)(H:Hp):List V->List Combs->Prop:=Bv fun v cs=>∃d,v= .ref d/\DictR G H d cs
structure Bk(C:A7)(G:A7->Prop)(H:Hp)(b l:A7)(cs:Combs)(past:List Combs):Prop where
 live:∀x,G x->H x≠none
 nb:¬G b
 nl:¬G l
 ins:∃dx d,H b=some (.ins C dx [("combs",.ref d),("past",.ref l)])/\DictR G H d cs
 lst:∃vs,H l=some (.lst vs)/\PastR G H vs past
 good:Good cs
 goods:∀p∈past,Good p
 few:past.length<=300
theorem Bk.move{C:A7}{G:A7->Prop}{H H':Hp}{b l:A7}{cs:Combs}{past:List Combs}(B:Bk C G H b l cs past)(s:∀a o,G a\/a=b\/a=l->H a=some o->H' a=some o):Bk C G H' b l cs past:=by
 have s':∀a o,G a->H a=some o->H' a=some o:=fun a o g e=>s a o (.inl g) e;obtain⟨dx,d,e1,r1⟩:=B.ins;obtain⟨vs,e2,r2⟩:=B.lst;refine⟨fun x g=>?_,B.nb,B.nl,⟨dx,d,s _ _ (.inr (.inl rfl)) e1,r1.mono s' fun _ g=>g⟩,⟨vs,s _ _ (.inr (.inr rfl)) e2,?_⟩,B.good,B.goods,B.few⟩
 ·have:=B.live x g
  cases e:H x with
  |none=>exact absurd e this
  |some o=>rw[s' x o g e];simp
 ·exact Lu (fun _ _⟨d,e,r⟩=>⟨d,e,r.mono s' fun _ g=>g⟩) r2
theorem Bk.same{C:A7}{G:A7->Prop}{H H':Hp}{b l:A7}{cs:Combs}{past:List Combs}(B:Bk C G H b l cs past)(s:Same H H'):Bk C G H' b l cs past:=B.move fun a o _ e=>s a o e
theorem Bk.liveB{C:A7}{G:A7->Prop}{H:Hp}{b l:A7}{cs:Combs}{past:List Combs}(B:Bk C G H b l cs past):H b≠none/\H l≠none:=by
 obtain⟨dx,d,e1,r1⟩:=B.ins;obtain⟨vs,e2,r2⟩:=B.lst;exact⟨by rw[e1];simp,by rw[e2];simp⟩
structure Mv(b l:A7)(G G':A7->Prop)(H H':Hp):Prop where
 keep:∀a o,H a=some o->a≠b->a≠l->H' a=some o
 on:∀a,H a≠none->H' a≠none
 new:∀a,G' a->G a\/H a=none
theorem ze5{H H':Hp}(s:Same H H'):∀a,H a≠none->H' a≠none:=fun a h=>by
 cases e:H a with
 |none=>exact absurd e h
 |some o=>rw[s a o e];simp
theorem Mv.ofSame{b l:A7}{G:A7->Prop}{H H':Hp}(s:Same H H'):Mv b l G G H H':=⟨fun a o e _ _=>s a o e,ze5 s,fun _ g=>.inl g⟩
theorem Mv.trans{b l:A7}{G G1 G2:A7->Prop}{H H1 H2:Hp}(m:Mv b l G G1 H H1)(m':Mv b l G1 G2 H1 H2):Mv b l G G2 H H2:=by
 refine⟨fun a o e n1 n2=>m'.keep a o (m.keep a o e n1 n2) n1 n2,fun a h=>m'.on a (m.on a h),fun a g=>?_⟩;rcases m'.new a g with g1|e
 ·exact m.new a g1
 ·refine .inr ?_
  cases q:H a with
  |none=>rfl
  |some o=>exact absurd e (m.on a (by rw[q];simp))
noncomputable def Deed(ea:Nat->A7)(C:A7)(G:A7->Prop)(H:Hp)(b l:A7)(cs:Combs)(past:List Combs)(Q:VK)(E:XK):Except Nat Combs->Prop
 | .error j=>∀H',Same H H'->E (.ref (ea j)) none H'
 | .ok cs'=>∀H' G',Mv b l G G' H H'->Bk C G' H' b l cs' (past++[cs])->Q (.int ((past.length:Int)+1)) H'
theorem Deed.from{ea:Nat->A7}{C:A7}{G:A7->Prop}{H H1:Hp}{b l:A7}{cs:Combs}{past:List Combs}{Q:VK}{E:XK}{r:Except Nat Combs}(d:Deed ea C G H b l cs past Q E r)(s:Same H H1):Deed ea C G H1 b l cs past Q E r:=by
 cases r with
 |error j=>exact fun H' s'=>d H' (s.trans s')
 |ok cs'=>exact fun H' G' m B=>d H' G' ((Mv.ofSame s).trans m) B
noncomputable def full(past:List Combs)(cs':Combs):Except Nat Combs:=if 300<=past.length then .error 9 else .ok cs'
noncomputable def putD(cs:Combs)(past:List Combs)(x:Str)(ts:List Int):Except Nat Combs:=
 if isName x=false then .error 0 else if areTeeth ts=false then .error 1 else if(cGet cs x).isSome=true then .error 2 else if 8<=cs.length then .error 3 else full past (cPut cs x (canon ts))
theorem call_dictD{X:Cx}:CallR X (.type "dict") (fun xs H Q=>∃a kvs,xs=[V.ref a]/\Rd H a (.dK kvs)/\∀p,H p=none->Q (.ref p) (upd H p (.dK kvs))):=by
 intro pins s σ H xs us Q I r h;obtain⟨a,kvs,rfl,ha,q⟩:=h;obtain⟨u,rfl,ru⟩:=zb3 r
 cases ru
 exact d_copyOf I ha fun p s' np I'=>⟨.ref p,_,I',rfl,q p np⟩
noncomputable def sle(a b:Str):Prop:=a.cps.toList<=b.cps.toList
theorem sle_iff{a b:Str}:sle a b↔ltCps b.cps.toList a.cps.toList=false:=by
 unfold sle;rw[ltCps_eq,decide_eq_false_iff_not,List.not_lt]
theorem sle_trans{a b c:Str}(h1:sle a b)(h2:sle b c):sle a c:=Oj h1 h2
theorem sle_antisymm{a b:Str}(h1:sle a b)(h2:sle b a):a=b:=by
 have:=List.le_antisymm h1 h2
 cases a;cases b
 simp only at this;rw[Str.mk.injEq,<-Nq];exact this
theorem zee:∀{l:List Str}{p:Str},risingS p l=true->(p::l).Pairwise sle
 |[],p,_=>by simp
 |x::r,p,h=>by
  simp only[risingS,Cp,Fx] at h;have ih:=zee h.2;have hpx:sle p x:=sle_iff.mpr h.1;refine Jo.mpr ⟨fun y hy=>?_,ih⟩;rcases Bo.mp hy with rfl|hm
  ·exact hpx
  ·exact sle_trans hpx ((Jo.mp ih).1 y hm)
theorem zeb{l:List Str}(h:sortedS l=true):l.Pairwise sle:=by
 cases l with
 |nil=>exact Ge
 |cons x r=>exact zee h
theorem strs_same{a b:List Str}(hp:a.Perm b)(ha:sortedS a=true)(hb:sortedS b=true):a=b:=
 hp.eq_of_pairwise (fun _ _ _ _ h1 h2=>sle_antisymm h1 h2) (zeb ha) (zeb hb)
theorem zdZ{α:Type}{xs:List α}{k:Int}{v:α}(h0:0<=k)(h:xs[k.toNat]?=some v):atI xs k=some v:=by
 have e:((k.toNat:Nat):Int)=k:=by omega
 rw[<-e];exact zaB h
noncomputable def valErr:List A1:=[.type "ValueError",.type "Exception",.type "BaseException",.type "object"]
structure BookAt(K:Az)(C:A7):Prop where
 cls:Cls K C
 nc:NoAttr K C "combs"
 np:NoAttr K C "past"
noncomputable def bookChk(K:Az)(C:A7):Bool:=Fz K C Qi&&(Gy K C&&(Jk K C&&(Ct K (.ref C) "__setattr__"==some (some (.builtin "object.__setattr__"))&&(Ct K (.ref C) "combs"==some none&&Ct K (.ref C) "past"==some none))))
theorem book_of{K:Az}{C:A7}(h:bookChk K C=true):BookAt K C:=by
 unfold bookChk at h;simp only[Cp,beq_iff_eq] at h;obtain⟨h1,h2,h3,h4,h5,h6⟩:=h;exact⟨⟨h1,h2,h3,h4⟩,h5,h6⟩
theorem meth_mk{K:Az}{C:A7}{cn m:Str}{st:Cf}{f:A7}{oc:A1}{od an:Option A7}{osl:Array (Option A1)}{kV doc pm cdv ct:A1}(a:Ct K (.ref C) m=some (some (.ref f)))
  (l:K.lookup f=some ⟨oc,od,.func (D6 m (cn++A2 "."++m) (defArgs st) (defBody st) (defScope st) .none kV doc pm an cdv ct),osl⟩) (c:Fk K cdv (cn++A2 "."++m)=true) (k:Dr K (.ref f)=true) (i:Hq K (.ref f)=true):MethAt K C cn m st:=
 ⟨f,_,zhk l c k,a,i,k⟩
structure InitAt(K:Az)(mg:Str->Option A1)(C:A7)(x qual:Str)(st:Cf):Prop where
 ex:∃f fd,Mk K C f/\Fun K "__init__" qual st f fd
 m:mg x=some (.ref C)
theorem init_mk{K:Az}{mg:Str->Option A1}{C:A7}{x qual:Str}{st:Cf}{f:A7}{oc:A1}{od an:Option A7}{osl:Array (Option A1)}{kV doc pm cdv ct:A1}(hm:mg x=some (.ref C))(a:Ct K (.ref C) "__init__"=some (some (.ref f)))
  (l:K.lookup f=some ⟨oc,od,.func (D6 "__init__" qual (defArgs st) (defBody st) (defScope st) .none kV doc pm an cdv ct),osl⟩) (c:Fk K cdv qual=true) (k:Dr K (.ref f)=true) (i:Hq K (.ref f)=true) (k2:Dr K (.ref C)=true) (mk:Jz K C=true):InitAt K mg C x qual st:=
 ⟨⟨f,_,⟨mk,a,i,k2⟩,zhk l c k⟩,hm⟩
theorem ref_mk{K:Az}{mg:Str->Option A1}{h:C9}{x:Str}{f:A7}(X:K.In h)(G:h.Ns mainGlobals mg)(a:C4 K mainGlobals x=some (some (.ref f))):mg x=some (.ref f):=Kl X G a
theorem at_last{α:Type}(l:List α)(a:α):atI (l++[a]) (-1)=some a:=by
 unfold atI ixN;rw[if_neg (by decide),if_pos (by rw[Af,Bx];omega)];have e:((-1:Int)+(((l++[a]).length:Nat):Int)).toNat=l.length:=by rw[Af,Bx];omega
 rw[e];simp
section
variable{X:Cx}
end
section
variable{X:Cx}{T id:String}{name:Str}{r:V->List V->Hp->VK->Prop}{o e:Ce}{es:List Ce}{to:TE}{t:TA}{apos cpos:Pos}
end
noncomputable def pw(t:Int):Int:=2 ^ t.toNat
noncomputable def worth(ts:List Int):Int:=(ts.map pw).sum
noncomputable def aheadOf(n:Int):List Int:=((A4 7).filter fun d=>n.toNat.testBit d).map fun i=>((i:Nat):Int)
noncomputable def meets(ah ts:List Int):Bool:=ts.any fun t=>decide (t∈ah)
noncomputable def afterOf(ah ts:List Int):List Int:=((canon (ah++ts)).filter fun d=>decide (0<d)).map fun d=>d-1
theorem zeP:worth []=0:=rfl
theorem za4(t:Int)(ts:List Int):worth (t::ts)=pw t+worth ts:=rfl
theorem zc6(a b:List Int):worth (a++b)=worth a+worth b:=by
 induction a with
 |nil=>simp[worth]
 |cons t a ih=>rw[K5,za4,za4,ih];omega
theorem worth_perm{a b:List Int}(h:a.Perm b):worth a=worth b:=by
 induction h with
 |nil=>rfl
 |cons x _ ih=>rw[za4,za4,ih]
 |swap x y l=>simp only[za4];omega
 |trans _ _ h1 h2=>exact h1.trans h2
theorem pw_pos(t:Int):0<pw t:=by unfold pw;exact Int.pow_pos (by decide)
theorem zfH(ts:List Int):0<=worth ts:=by
 induction ts with
 |nil=>exact Do _
 |cons t ts ih=>rw[za4];have:=pw_pos t;omega
noncomputable def bitSum(f:Nat->Bool):Nat->Nat
 |0=>0
 |k+1=>2 ^ k*(if f k then 1 else 0)+bitSum f k
theorem zcA(f:Nat->Bool)(k:Nat):bitSum f (k+1)=2 ^ k*(if f k then 1 else 0)+bitSum f k:=rfl
theorem zcV(f:Nat->Bool):∀k,bitSum f k<2 ^ k
 |0=>O7
 |k+1=>by
  have:=zcV f k;rw[zcA];rw[P6]
  cases f k
  ·simp;omega
  ·simp;omega
theorem zbV(f:Nat->Bool)(i:Nat):∀k,(bitSum f k).testBit i=(decide (i<k)&&f i)
 |0=>by simp[bitSum]
 |k+1=>by
  rw[zcA,Nat.testBit_two_pow_mul_add _ (zcV f k),zbV f i k];by_cases h:i<k
  ·rw[if_pos h,decide_eq_true h,decide_eq_true (show i<k+1 by omega)]
  ·rw[if_neg h];by_cases e:i=k
   ·subst e;rw[G0,decide_eq_true (Et i)]
    cases f i<;>rfl
   ·rw[decide_eq_false (show¬i<k+1 by omega),Fy]
    cases f k
    ·exact Gb _
    ·show(1:Nat).testBit (i-k)=false;rw[Bool.eq_false_iff];exact fun z=>absurd (Nat.testBit_one_eq_true_iff_self_eq_zero.mp z) (by omega)
theorem zcg(f:Nat->Bool):∀k,worth (((A4 k).filter f).map fun i=>((i:Nat):Int))=((bitSum f k:Nat):Int)
 |0=>rfl
 |k+1=>by
  rw[Cw,C0,B1,zc6,zcg f k,zcA]
  cases h:f k
  ·simp[h,worth]
  ·simp only[h,By,F0,if_true,An,Fd,za4,zeP];unfold pw;rw[Cj]
   push_cast
   omega
theorem zdX{f:Nat->Bool}{k:Nat}(i:Nat):(worth (((A4 k).filter f).map fun i=>((i:Nat):Int))).toNat.testBit i=(decide (i<k)&&f i):=by
 rw[zcg,Cj,zbV]
theorem ahead_worth(f:Nat->Bool):aheadOf (worth (((A4 7).filter f).map fun i=>((i:Nat):Int)))=((A4 7).filter f).map fun i=>((i:Nat):Int):=by
 unfold aheadOf;congr 1;refine Ea fun i hi=>?_;rw[zdX,decide_eq_true (Ay.mp hi),F4]
theorem zbo{n:Int}(h0:0<=n)(h1:n<128):worth (aheadOf n)=n:=by
 unfold aheadOf;rw[zcg];have:bitSum (fun d=>n.toNat.testBit d) 7=n.toNat:=by
  refine Je fun i=>?_;rw[zbV];by_cases h:i<7
  ·rw[decide_eq_true h,F4]
  ·rw[decide_eq_false h,Fy];symm;refine Ii (Ak (show n.toNat<2 ^ 7 by omega) (Jc (by decide) (by omega)))
 rw[this];omega
theorem mem_ahead{n t:Int}:t∈aheadOf n↔0<=t/\t<=6/\n.toNat.testBit t.toNat=true:=by
 unfold aheadOf;simp only[Aa,Aq,Ay];constructor
 ·rintro⟨i,⟨hi,hb⟩,rfl⟩;exact⟨by omega,by omega,by simpa using hb⟩
 ·rintro⟨h0,h6,hb⟩;exact⟨t.toNat,⟨by omega,hb⟩,by omega⟩
theorem meets_false{ah ts:List Int}:meets ah ts=false↔∀t∈ts,t∉ah:=by
 unfold meets;simp[Np]
theorem zfs{n:Int}{ts:List Int}(h0:0<=n)(h1:n<128)(g:GT ts):E3 n (worth ts)=0↔meets (aheadOf n) ts=false:=by
 have hb:E3 n (worth ts)=((n.toNat&&& (worth ts).toNat:Nat):Int):=by
  unfold E3;rw[decide_eq_true h0,decide_eq_true (zfH ts)]
 rw[hb,meets_false];obtain⟨f,rfl,_⟩:=g;constructor
 ·intro h t ht ha;obtain⟨t0,t6,tb⟩:=mem_ahead.mp ha;obtain⟨i,hi,rfl⟩:=Aa.mp ht;obtain⟨hr,hf⟩:=Aq.mp hi;have z:(n.toNat&&& (worth (((A4 8).filter f).map fun i=>((i:Nat):Int))).toNat)=0:=by omega
  have z:=congrArg (fun m=>m.testBit i) z;simp only[O8,zdX,Gb] at z;rw[Cj] at tb;rw[tb,hf,decide_eq_true (Ay.mp hr)] at z;exact absurd z (by decide)
 ·intro h;have z:(n.toNat&&& (worth (((A4 8).filter f).map fun i=>((i:Nat):Int))).toNat)=0:=by
   refine Je fun i=>?_;rw[O8,zdX,Gb]
   cases e:n.toNat.testBit i with
   |false=>rfl
   |true=>
    have hi:i<7:=by
     apply D7;intro hn;have:=Ii (Ak (show n.toNat<2 ^ 7 by omega) (Jc (by decide) (show 7<=i by omega)));rw[this] at e;exact absurd e (by decide)
    cases ef:f i with
    |false=>simp
    |true=>
     exfalso;refine h (i:Int) (Aa.mpr ⟨i,Aq.mpr ⟨Ay.mpr (by omega),ef⟩,rfl⟩) (mem_ahead.mpr ⟨by omega,by omega,?_⟩);rwa[Cj]
  omega
theorem worth_half(l:List Int)(h:∀t∈l,0<=t):worth l=2*worth ((l.filter fun d=>decide (0<d)).map fun d=>d-1)+((l.count 0:Nat):Int):=by
 induction l with
 |nil=>rfl
 |cons t l ih=>
  have ih:=ih fun x hx=>h x (Ab _ hx);have t0:=h t Aj;rw[za4,By,Gi];by_cases e:t=0
  ·subst e;rw[ih];simp[pw];omega
  ·have hp:0<t:=by omega
   have:pw t=2*pw (t-1):=by
    unfold pw;rw[show t.toNat=(t-1).toNat+1 by omega,Int.pow_succ];omega
   rw[if_pos (decide_eq_true hp),An,za4,this,ih];rw[if_neg (by simpa using e)];omega
theorem zgo{ah ts:List Int}:∀d∈afterOf ah ts,0<=d/\d<=6:=by
 intro d hd;obtain⟨x,hx,rfl⟩:=Aa.mp hd;obtain⟨hc,hp⟩:=Aq.mp hx;have:=(mem_canon.mp hc).2;have:=of_decide_eq_true hp;omega
theorem zdr(ah ts:List Int):(afterOf ah ts).Pairwise (· < ·):=by
 unfold afterOf;rw[C7];exact((zeM (ah++ts)).sublist Cv).imp fun h=>by omega
theorem zcB(n:Int):(aheadOf n).Nodup:=by
 refine zaU ?_;unfold aheadOf;rw[C7];refine Bp Cv (Er ?_ (D9 (n:=7)));intro a b h;omega
theorem zd2{ah ts:List Int}(ha:ah.Nodup)(hr:∀t∈ah,0<=t/\t<=6)(ht:ts.Nodup)(hr':∀t∈ts,0<=t/\t<=7)(hm:meets ah ts=false):worth (afterOf ah ts)=(worth ah+worth ts) / 2:=by
 have hn:(ah++ts).Nodup:=Cy.mpr ⟨ha,ht,fun a h1 b h2 e=>meets_false.mp hm b h2 (e▸h1)⟩;have hp:(canon (ah++ts)).Perm (ah++ts):=by
  rw[D5 (zcz _) hn];intro t;rw[mem_canon];refine⟨fun h=>h.1,fun h=>⟨h,?_⟩⟩;rcases Ap.mp h with z|z
  ·have:=hr t z;omega
  ·exact hr' t z
 have hw:=worth_half (canon (ah++ts)) fun t h=>(mem_canon.mp h).2.1;rw[worth_perm hp,zc6] at hw;have hc:=List.nodup_iff_count.mp (zcz (ah++ts)) 0;unfold afterOf;omega
theorem za1{n:Int}:∀t∈aheadOf n,0<=t/\t<=6:=fun t h=>⟨(mem_ahead.mp h).1,(mem_ahead.mp h).2.1⟩
theorem zd4{n:Int}(h0:0<=n):(0:Int)∈aheadOf n↔n%2=1:=by
 rw[mem_ahead];have:n.toNat.testBit 0=decide (n.toNat%2=1):=Nat.testBit_zero _;rw[show(0:Int).toNat=0 from rfl,this,decide_eq_true_eq];omega
noncomputable def stepsOf(cs:Combs)(n:Int):List (Str×Int):=if n%2=1 then[("",n / 2)] else(cs.filter fun c=>decide (Builtin.bitAnd n (worth c.2)=0)).map fun c=>(c.1,(n+worth c.2) / 2)
noncomputable def goesOf(cs:Combs)(ah:List Int):List (Str×List Int):=if(0:Int)∈ah then[("",afterOf ah [])] else(cs.filter fun c=> !meets ah c.2).map fun c=>(c.1,afterOf ah c.2)
theorem zd9{cs:Combs}{n:Int}(h0:0<=n)(h1:n<128)(g:∀c∈cs,GT c.2):(goesOf cs (aheadOf n)).map (fun p=>(p.1,worth p.2))=stepsOf cs n:=by
 unfold goesOf stepsOf;by_cases e:n%2=1
 ·rw[if_pos e,if_pos ((zd4 h0).mpr e),An,Fd,zd2 (zcB n) za1 Dm (by simp) (by rfl),zbo h0 h1,zeP,Int.add_zero]
 ·rw[if_neg e,if_neg fun z=>e ((zd4 h0).mp z),As];have hf:(cs.filter fun c=> !meets (aheadOf n) c.2)=cs.filter fun c=>decide (E3 n (worth c.2)=0):=by
   refine Ea fun c hc=>?_;rw[B7,decide_eq_true_eq,zfs h0 h1 (g c hc),Fx]
  rw[hf];refine Be fun c hc=>?_;obtain⟨hc,hz⟩:=Aq.mp hc;have gc:=g c hc;show(c.1,worth (afterOf (aheadOf n) c.2))=_;rw[zd2 (zcB n) za1 (zaU (zeI gc)) (zbF gc) ((zfs h0 h1 gc).mp (of_decide_eq_true hz)),zbo h0 h1]
theorem steps_lt{cs:Combs}{n:Int}(h0:0<=n)(h1:n<128)(g:∀c∈cs,GT c.2):∀p∈stepsOf cs n,0<=p.2/\p.2<128:=by
 rw[<-zd9 h0 h1 g];intro p hp;obtain⟨q,hq,rfl⟩:=Aa.mp hp;have:∃a b,q.2=afterOf a b:=by
  unfold goesOf at hq
  split at hq
  ·rw[A9.mp hq];exact⟨_,_,rfl⟩
  ·obtain⟨c,_,rfl⟩:=Aa.mp hq;exact⟨_,_,rfl⟩
 obtain⟨a,b,e⟩:=this;show 0<=worth q.2/\worth q.2<128;rw[e];refine⟨zfH _,?_⟩;have hs:afterOf a b=((A4 7).filter fun i=>decide (((i:Nat):Int)∈afterOf a b)).map fun i=>((i:Nat):Int):=by
  refine zbx ?_ ((zdr a b).imp fun h=>by omega) ?_
  ·rw[D5 (zaU (zdr a b))]
   ·intro t;simp only[Aa,Aq,Ay,decide_eq_true_eq];constructor
    ·intro h;have:=zgo t h;exact⟨t.toNat,⟨by omega,by rwa[show((t.toNat:Nat):Int)=t by omega]⟩,by omega⟩
    ·rintro⟨i,⟨_,h⟩,rfl⟩;exact h
   ·refine zaU ?_;rw[C7];refine Bp Cv (Er ?_ (D9 (n:=7)));intro a b h;omega
  ·rw[C7];refine Bp Cv (Er ?_ (D9 (n:=7)));intro a b h;omega
 rw[hs,zcg];have:=zcV (fun i=>decide (((i:Nat):Int)∈afterOf a b)) 7;omega
noncomputable def StepsR(H:Hp):List V->List (Str×Int)->Prop
 |[],[]=>True
 |v::vs,s::ss=>(∃q,v= .ref q/\H q=some (.tup [.str s.1,.int s.2]))/\StepsR H vs ss
 |_,_=>False
theorem StepsR.mono{H H':Hp}(m:∀q xs,H q=some (.tup xs)->H' q=some (.tup xs)):∀{vs:List V}{ss:List (Str×Int)},StepsR H vs ss->StepsR H' vs ss
 |[],[],_=>trivial
 |_::_,_::_,⟨⟨q,e,h⟩,r⟩=>⟨⟨q,e,m q _ h⟩,r.mono m⟩
 |[],_::_,x=>x.elim
 |_::_,[],x=>x.elim
theorem StepsR.length{H:Hp}:∀{vs:List V}{ss:List (Str×Int)},StepsR H vs ss->vs.length=ss.length
 |[],[],_=>rfl
 |_::_,_::_,⟨_,r⟩=>by rw[At,At,r.length]
 |[],_::_,x=>x.elim
 |_::_,[],x=>x.elim
theorem StepsR.snoc{H:Hp}{q:A7}{s:Str×Int}(hq:H q=some (.tup [.str s.1,.int s.2])):∀{vs:List V}{ss:List (Str×Int)},StepsR H vs ss->StepsR H (vs++[.ref q]) (ss++[s])
 |[],[],_=>⟨⟨q,rfl,hq⟩,trivial⟩
 |_::_,_::_,⟨a,r⟩=>⟨a,r.snoc hq⟩
 |[],_::_,x=>x.elim
 |_::_,[],x=>x.elim
theorem StepsR.get{H:Hp}{i:Nat}{s:Str×Int}:∀{vs:List V}{ss:List (Str×Int)},StepsR H vs ss->ss[i]?=some s->∃q,vs[i]?=some (.ref q)/\H q=some (.tup [.str s.1,.int s.2]):=by
 induction i with
 |zero=>
  intro vs ss r e
  match vs,ss,r with
  |[],[],_=>simp at e
  |v::_,x::_,⟨⟨q,ev,h⟩,_⟩=>
   simp at e;subst e;exact⟨q,by rw[ev];rfl,h⟩
 |succ i ih=>
  intro vs ss r e
  match vs,ss,r with
  |[],[],_=>simp at e
  |v::vs,x::ss,⟨_,r⟩=>
   obtain⟨q,e1,e2⟩:=ih r (by simpa using e);exact⟨q,by simpa using e1,e2⟩
noncomputable def byNames(cs:Combs)(nm:List Str):Combs:=nm.map fun x=>(x,(cGet cs x).getD [])
theorem byNames_snoc{cs:Combs}{nm:List Str}{x:Str}{ts:List Int}(h:cGet cs x=some ts):byNames cs (nm++[x])=byNames cs nm++[(x,ts)]:=by
 unfold byNames;rw[B1,An,Fd,h];rfl
theorem zd8{cs:Combs}{c:Str×List Int}{n:Int}(h:¬n%2=1):stepsOf (cs++[c]) n=stepsOf cs n++if Builtin.bitAnd n (worth c.2)=0 then[(c.1,(n+worth c.2) / 2)] else[]:=by
 unfold stepsOf;rw[if_neg h,if_neg h,C0,B1];congr 1;by_cases e:E3 n (worth c.2)=0
 ·rw[if_pos e,By,if_pos (decide_eq_true e)];rfl
 ·rw[if_neg e,By,if_neg (by simpa using e)];rfl
theorem steps_nil{n:Int}(h:¬n%2=1):stepsOf [] n=[]:=by
 unfold stepsOf;rw[if_neg h];rfl
theorem zeU{cs:Combs}{n:Int}(h:n%2=1):stepsOf cs n=[((Str.ofString "":Str),n / 2)]:=by
 unfold stepsOf;exact if_pos h
theorem steps_len{cs:Combs}{n:Int}(h:¬n%2=1):(stepsOf cs n).length<=cs.length:=by
 unfold stepsOf;rw[if_neg h,A3];exact Bu _ _
theorem zhb(t:Int)(ts:List Int):inV (V.int t) (ts.map V.int)=decide (t∈ts):=by
 unfold inV;rw[Gq,B7,Bf,decide_eq_true_eq];constructor
 ·rintro⟨x,hx,e⟩;have:x=t:=by
   have e':(x==t)=true:=e;exact eq_of_beq e'
  rw[<-this];exact hx
 ·intro h;exact⟨t,h,beq_self_eq_true t⟩
theorem after_canon{ah ts ns:List Int}(ha:ah.Nodup)(hr:∀t∈ah,0<=t/\t<=6)(ht:ts.Nodup)(hr':∀t∈ts,0<=t/\t<=7)(hm:meets ah ts=false)(hp:ns.Perm (ah++ts))(hs:ns.Pairwise (· <= ·)):ns=canon (ah++ts):=by
 refine zdp hp hs (Cy.mpr ⟨ha,ht,fun a h1 b h2 e=>meets_false.mp hm b h2 (e▸h1)⟩) fun t h=>?_;rcases Ap.mp h with z|z
 ·have:=hr t z;omega
 ·exact hr' t z
noncomputable def GoesR(H:Hp):List V->List (Str×List Int)->Prop
 |[],[]=>True
 |v::vs,s::ss=>(∃q t,v= .ref q/\H q=some (.tup [.str s.1,.ref t])/\H t=some (.tup (s.2.map V.int)))/\GoesR H vs ss
 |_,_=>False
theorem GoesR.mono{H H':Hp}(m:∀q xs,H q=some (.tup xs)->H' q=some (.tup xs)):∀{vs:List V}{ss:List (Str×List Int)},GoesR H vs ss->GoesR H' vs ss
 |[],[],_=>trivial
 |_::_,_::_,⟨⟨q,t,e,h,h2⟩,r⟩=>⟨⟨q,t,e,m q _ h,m t _ h2⟩,r.mono m⟩
 |[],_::_,x=>x.elim
 |_::_,[],x=>x.elim
theorem GoesR.length{H:Hp}:∀{vs:List V}{ss:List (Str×List Int)},GoesR H vs ss->vs.length=ss.length
 |[],[],_=>rfl
 |_::_,_::_,⟨_,r⟩=>by rw[At,At,r.length]
 |[],_::_,x=>x.elim
 |_::_,[],x=>x.elim
theorem GoesR.snoc{H:Hp}{q t:A7}{s:Str×List Int}(hq:H q=some (.tup [.str s.1,.ref t]))(ht:H t=some (.tup (s.2.map V.int))):∀{vs:List V}{ss:List (Str×List Int)},GoesR H vs ss->GoesR H (vs++[.ref q]) (ss++[s])
 |[],[],_=>⟨⟨q,t,rfl,hq,ht⟩,trivial⟩
 |_::_,_::_,⟨a,r⟩=>⟨a,r.snoc hq ht⟩
 |[],_::_,x=>x.elim
 |_::_,[],x=>x.elim
theorem GoesR.get{H:Hp}{i:Nat}{s:Str×List Int}:∀{vs:List V}{ss:List (Str×List Int)},GoesR H vs ss->ss[i]?=some s->∃q t,vs[i]?=some (.ref q)/\H q=some (.tup [.str s.1,.ref t])/\H t=some (.tup (s.2.map V.int)):=by
 induction i with
 |zero=>
  intro vs ss r e
  match vs,ss,r with
  |[],[],_=>simp at e
  |v::_,x::_,⟨⟨q,t,ev,h,h2⟩,_⟩=>
   simp at e;subst e;exact⟨q,t,by rw[ev];rfl,h,h2⟩
 |succ i ih=>
  intro vs ss r e
  match vs,ss,r with
  |[],[],_=>simp at e
  |v::vs,x::ss,⟨_,r⟩=>
   obtain⟨q,t,e1,e2⟩:=ih r (by simpa using e);exact⟨q,t,by simpa using e1,e2⟩
theorem goes_in{cs:Combs}{ah:List Int}(h:(0:Int)∈ah):goesOf cs ah=[((A2 "":Str),afterOf ah [])]:=by
 unfold goesOf;exact if_pos h
theorem goes_nil{ah:List Int}(h:(0:Int)∉ah):goesOf [] ah=[]:=by
 unfold goesOf;rw[if_neg h];rfl
theorem zfa{cs:Combs}{c:Str×List Int}{ah:List Int}(h:(0:Int)∉ah):goesOf (cs++[c]) ah=goesOf cs ah++if meets ah c.2=true then[] else[(c.1,afterOf ah c.2)]:=by
 unfold goesOf;rw[if_neg h,if_neg h,C0,B1];congr 1;by_cases e:meets ah c.2=true
 ·rw[if_pos e,By,if_neg (by rw[e];decide)];rfl
 ·rw[if_neg e,By,if_pos (by simpa using e)];rfl
end L2
namespace L2
open PySem PySem.Spec PyProof.Rows PySem.W
structure LtOk(n:Nat)(lt:Nat->Nat->Bool):Prop where
 tr:∀{a b c},lt a b=true->lt b c=true->lt a c=true
 tot:∀{a b},a<n->b<n->a≠b->lt a b=false->lt b a=true
 irr:∀a,lt a a=false
noncomputable abbrev gd(p:Array Nat)(i:Nat):Nat:=p.getD i 0
section
variable{n:Nat}{lt:Nat->Nat->Bool}{cmp:Nat->Nat->(Bool->A6->Prop)->A6->Prop}{s:A6}
variable(L:LtOk n lt)(hc:∀i j C,i<n->j<n->i≠j->C (lt i j) s->cmp i j C s)
include L hc
omit hc L in
omit hc L in
omit hc L in
end
end L2
namespace L2
open PySem PySem.Spec PyProof.Rows PySem.W
open AutoSeq1 (wpAny_loadPart')
open MeetsSeq MeetsSeq2 MeetsSeq3
section
variable{prog:Aw}{w:Bq}{A:Bi}{E:A1->A6->Prop}{s:A6}
end
noncomputable def kd(ks:List (Str×List Int))(i:Nat):Str×List Int:=ks.getD i (A2 "",[])
section
variable{X:Cx}
end
noncomputable def intsChk:List A1->List Int->Bool
 |[],[]=>true
 | .int i _::r,k::s=>decide (i=k)&&intsChk r s
 |_,_=>false
theorem zge:∀{us:List A1}{ns:List Int},intsChk us ns=true->Vals (ns.map V.int) us
 |[],[],_=>.nil
 | .int i t::r,k::s,h=>by
  simp only[intsChk,Cp,decide_eq_true_eq] at h;obtain⟨rfl,h⟩:=h;exact .cons ⟨t,rfl⟩ (zge h)
 |[],_::_,h=>by cases h
noncomputable def tupChk(K:Az)(a:A7)(ns:List Int):Bool:=match K.lookup a with
 |some o=>(o.cls==.type "tuple")&&match o.data with
  | .seq its _=>intsChk its.toList ns&&decide (its.size<=1000)
  |_=>false
 |none=>false
theorem tup_chk{K:Az}{a:A7}{ns:List Int}(h:tupChk K a ns=true)(H:Hp):SqT K H a (ns.map V.int):=by
 unfold tupChk at h
 split at h
 ·rename_i o e;rw[Cp] at h;obtain⟨hc,h⟩:=h
  split at h
  ·rename_i its n ed;rw[Cp] at h;exact .inr ⟨o,its,n,e,eq_of_beq hc,ed,big (of_decide_eq_true h.2),zge h.1⟩
  ·cases h
 ·cases h
end L2
namespace L2
open PySem PySem.Spec PyProof.Rows
theorem zhu{J:It}{Ok:Hp->Prop}{L:List V}{tf:TT}{te:TE}{D:A7}{σ0 capv:St}{H1:Hp}{Q:VK}(hσ:σ0=none::capv)(G:Gives J Ok L)(hL:L.length<=sizeLine)(hD:H1 D=none)(hOk:∀H,Same H1 H->Ok H)(p:Nat->Bool)(Rel:Hp->Nat->V->Prop)
  (hm:∀H H' i v,Same H H'->Rel H i v->Rel H' i v) (hw:∀H i v l l',v≠.ref D->H D=some (.lst l)->Rel H i v->Rel (upd H D (.lst l')) i v)
  (ht:∀(i:Nat)x,L[i]?=some x->∀H R,Same H1 H->(∀H',Same H H'->R (p i) H')->tf (some x::capv) H R)
  (he:∀(i:Nat)x,L[i]?=some x->p i=true->∀H R,Same H1 H->H D≠none->(∀H' v,Same H H'->v≠.ref D->Rel H' i v->R v H')->te (some x::capv) H R)
  (hd:∀H ys,Same H1 H->H D=some (.lst ys)->Bv (fun i y=>y≠.ref D/\Rel H i y) ((A4 L.length).filter p) ys->Q (.ref D) H):
  CompW J D σ0 H1 (gName 0) tf te Q:=by
 subst hσ;refine zhv G (fun i xs σ H=>(∃o,σ=o::capv)/\Same H1 H/\H D=some (.lst xs)/\Bv (fun i y=>y≠.ref D/\Rel H i y) ((A4 i).filter p) xs) ⟨⟨none,rfl⟩,Same.new hD,zad,.nil⟩ (fun i xs σ H _ h=>hOk H h.2.1) ?_ ?_
 ·rintro i x xs σ H hi hx⟨⟨o,rfl⟩,s,e,hr⟩;show tf (some x::capv) H _;refine ht i x hx H _ s fun H' s'=>?_;have hxl:xs.length<=i:=by
   rw[<-Bw hr];exact Bm (Bu _ _) (by rw[Am];omega)
  have efil:(A4 (i+1)).filter p=(A4 i).filter p++if p i=true then[i] else[]:=by
   rw[Cw,C0];congr 1;rw[By,F0]
  cases hp:p i with
  |true=>
   rw[if_pos rfl];refine he i x hx hp H' _ (s.trans s') (by rw[s' _ _ e];exact nofun) fun H2 v s2 hv rv=>?_;have e2:=s2 _ _ (s' _ _ e);refine CNext.of hi hL e2 hxl ⟨⟨some x,rfl⟩,((s.trans s').trans s2).put hD,zad,?_⟩;rw[efil,if_pos hp];exact Ej (Bv.mapP hr fun j y z=>⟨z.1,hw _ _ _ _ _ z.1 e2 (hm _ _ _ _ (s'.trans s2) z.2)⟩) ⟨hv,hw _ _ _ _ _ hv e2 rv⟩
  |false=>
   rw[if_neg Ah];refine CSkip.of (xs:=xs) hi ⟨⟨some x,rfl⟩,s.trans s',s' _ _ e,?_⟩;rw[efil,if_neg (by rw[hp];exact Ah),Ci];exact Bv.mapP hr fun j y z=>⟨z.1,hm _ _ _ _ s' z.2⟩
 ·rintro xs σ H⟨_,s,e,hr⟩;exact hd H xs s e hr
theorem Bv.at{α β:Type}{R:α->β->Prop}:∀{l:List α}{m:List β}{i:Nat}{x:α},Bv R l m->l[i]?=some x->∃y,m[i]?=some y/\R x y
 |_,_,i,x,.nil,h=>by simp at h
 |_,_,0,x,.cons h r,e=>by
  simp at e;subst e;exact⟨_,rfl,h⟩
 |_,_,i+1,x,.cons h r,e=>by
  obtain⟨y,e1,e2⟩:=Bv.at (i:=i) r (by simpa using e);exact⟨y,by simpa using e1,e2⟩
theorem zbK{J:It}{Ok:Hp->Prop}{L:List V}{tf:TT}{te:TE}{D:A7}{σ0 capv:St}{H1:Hp}{Q:VK}(hσ:σ0=none::capv)(G:Gives J Ok L)(hL:L.length<=sizeLine)(hD:H1 D=none)(hOk:∀H,Same H1 H->Ok H)(p:Nat->Bool)(F:Nat->V)(hF:∀i,i<L.length->p i=true->F i≠.ref D)
  (ht:∀(i:Nat)x,L[i]?=some x->∀H R,Same H1 H->(∀H',Same H H'->R (p i) H')->tf (some x::capv) H R)
  (he:∀(i:Nat)x,L[i]?=some x->p i=true->∀H R,Same H1 H->(∀H',Same H H'->R (F i) H')->te (some x::capv) H R)
  (hd:∀H,Same H1 H->H D=some (.lst (((A4 L.length).filter p).map F))->Q (.ref D) H):
  CompW J D σ0 H1 (gName 0) tf te Q:=by
 refine zhu hσ G hL hD hOk p (fun _ i v=>v=F i) (fun _ _ _ _ _ h=>h) (fun _ _ _ _ _ _ _ h=>h) ht (fun i x hx hp H R s _ h=>he i x hx hp H R s fun H' s'=>h H' _ s' (hF i (Ag.mp hx).1 hp) rfl) fun H ys s e pr=>hd H s ?_;rw[e];have:∀{l:List Nat}{m:List V},Bv (fun i y=>y≠.ref D/\y=F i) l m->m=l.map F:=by
  intro l m q
  induction q with
  |nil=>rfl
  |cons h _ ih=>rw[An,<-ih,h.2]
 rw[this pr]
noncomputable def nmSort(cs:Combs):List Str:=(cs.map (·.1)).mergeSort fun a b=>decide (a.cps.toList<=b.cps.toList)
theorem zg2(cs:Combs):(nmSort cs).Perm (cs.map (·.1)):=List.mergeSort_perm _ _
theorem nm_sorted(cs:Combs):sortedS (nmSort cs)=true:=by
 refine sortedS_of_pairwise _ ?_;have h:=List.pairwise_mergeSort (le:=fun a b:Str=>decide (a.cps.toList<=b.cps.toList)) (fun a b c h1 h2=>decide_eq_true (Oj (of_decide_eq_true h1) (of_decide_eq_true h2))) (fun a b=>by
  rcases List.le_total a.cps.toList b.cps.toList with h|h
  ·rw[decide_eq_true h];rfl
  ·rw[decide_eq_true h,M2]) (cs.map (·.1))
 exact h.imp fun{a b}h=>sle_iff.mp (show a.cps.toList<=b.cps.toList from of_decide_eq_true h)
noncomputable def srt(cs:Combs):Combs:=byNames cs (nmSort cs)
theorem zbj{cs:Combs}(nd:(cs.map (·.1)).Nodup){c:Str×List Int}(h:c∈cs):cGet cs c.1=some c.2:=by
 induction cs with
 |nil=>cases h
 |cons d cs ih=>
  rw[zdn];rw[An,Dw] at nd;rcases Bo.mp h with rfl|h
  ·exact if_pos rfl
  ·rw[if_neg (fun z:d.1=c.1=>nd.1 (z▸Aa.mpr ⟨c,h,rfl⟩))];exact ih nd.2 h
theorem by_same{cs ks:Combs}(nd:(cs.map (·.1)).Nodup)(p:ks.Perm cs):byNames cs (ks.map (·.1))=ks:=by
 unfold byNames;rw[As]
 conv=>rhs;rw[<-Gd ks]
 refine Be fun k hk=>?_;show(k.1,(cGet cs k.1).getD [])=k;rw[zbj nd (p.mem_iff.mp hk)];rfl
theorem zbQ{cs:Combs}(nd:(cs.map (·.1)).Nodup):(srt cs).Perm cs:=by
 have h:(byNames cs (nmSort cs)).Perm (byNames cs (cs.map (·.1))):=(zg2 cs).map _;rw[by_same nd (K2 _)] at h;exact h
noncomputable def stp(C:Combs)(s:Nat):List (Str×Int):=stepsOf C (s:Int)
noncomputable def nxtRow(C:Combs)(r:List Bool):List Bool:=(A4 128).map fun s=>(stp C s).any fun p=>r.getD p.2.toNat false
noncomputable def rowAt(C:Combs):Nat->List Bool
 |0=>C5 128 true
 |k+1=>nxtRow C (rowAt C k)
theorem zaN(C:Combs):∀k,(rowAt C k).length=128
 |0=>by simp[rowAt]
 |k+1=>by simp[rowAt,nxtRow]
noncomputable abbrev tr(r:List Bool)(s:Nat):Bool:=r.getD s false
theorem zeq{C:Combs}{r:List Bool}{s:Nat}(h:s<128):tr (nxtRow C r) s=(stp C s).any fun p=>tr r p.2.toNat:=by
 unfold tr nxtRow;rw[A8,Ad,Cn h];rfl
theorem zgy{C:Combs}{s:Nat}(h:s<128):tr (rowAt C 0) s=true:=by
 unfold tr rowAt;rw[A8,Ln,if_pos h];rfl
noncomputable def GC(C:Combs):Prop:=∀c∈C,GT c.2
theorem zbN{C:Combs}(g:GC C){s:Nat}(h:s<128){p:Str×Int}(hp:p∈stp C s):0<=p.2/\p.2.toNat<128:=by
 have:=steps_lt (n:=(s:Int)) (by omega) (by omega) g p hp;omega
theorem zfv{C:Combs}(g:GC C):∀k s,s<128->tr (rowAt C (k+1)) s=true->tr (rowAt C k) s=true
 |0,s,h,_=>zgy h
 |k+1,s,h,e=>by
  rw[show rowAt C (k+1+1)=nxtRow C (rowAt C (k+1)) from rfl,zeq h] at e;rw[show rowAt C (k+1)=nxtRow C (rowAt C k) from rfl,zeq h];obtain⟨p,hp,e⟩:=Bf.mp e;exact Bf.mpr ⟨p,hp,zfv g k _ (zbN g h hp).2 e⟩
theorem count_less{a b:List Bool}(hl:a.length=b.length)(hm:∀s,tr a s=true->tr b s=true)(hn:a≠b):a.count true<b.count true:=by
 induction a generalizing b with
 |nil=>
  cases b with
  |nil=>exact absurd rfl hn
  |cons _ _=>simp at hl
 |cons x a ih=>
  cases b with
  |nil=>simp at hl
  |cons y b=>
   have hm':∀s,tr a s=true->tr b s=true:=fun s h=>hm (s+1) h;have h0:x=true->y=true:=fun h=>hm 0 h;have hl':a.length=b.length:=by simpa using hl
   have le:a.count true<=b.count true:=by
    by_cases e:a=b
    ·rw[e];exact Ac _
    ·exact Ex (ih hl' hm' e)
   rw[Gi,Gi];by_cases e:a=b
   ·subst e
    cases x with
    |true=>rw[h0 rfl] at hn;exact absurd rfl hn
    |false=>
     cases y with
     |false=>exact absurd rfl hn
     |true=>simp
   ·have:=ih hl' hm' e
    cases x with
    |true=>rw[h0 rfl];simp;omega
    |false=>simp;omega
theorem tr_out{C:Combs}{k s:Nat}(h:¬s<128):tr (rowAt C k) s=false:=by
 unfold tr;rw[A8,Cm (by rw[zaN];omega)];rfl
theorem row_less{C:Combs}(g:GC C){k:Nat}(h:rowAt C (k+1)≠rowAt C k):(rowAt C (k+1)).count true<(rowAt C k).count true:=by
 refine count_less (by rw[zaN,zaN]) (fun s e=>?_) h;by_cases hs:s<128
 ·exact zfv g k s hs e
 ·rw[tr_out hs] at e;cases e
theorem zbg(lo:Int)(n:Nat):((A4 n).map fun i=>V.int (lo+((i:Nat):Int))).length=n:=by rw[A3,Am]
theorem at0{x y:V}:atI [x,y] 0=some x:=show atI [x,y] ((0:Nat):Int)=_ from zaB rfl
theorem at1{x y:V}:atI [x,y] 1=some y:=show atI [x,y] ((1:Nat):Int)=_ from zaB rfl
theorem zcZ{C:Combs}(h8:C.length<=8)(s:Nat):(stp C s).length<=8:=by
 unfold stp;by_cases e:(s:Int)%2=1
 ·rw[zeU e];exact Mo rfl
 ·exact Bm (steps_len e) h8
theorem zdg{α:Type}{ws:List α}{m:Nat}{x:α}(hl:ws.length=m+1)(h:ws[m]?=some x):atI ws (-1)=some x:=by
 have hne:ws≠[]:=fun z=>by rw[z] at hl;simp at hl
 have e:ws=ws.dropLast++[ws.getLast hne]:=(Ki hne).symm;have e2:ws.getLast hne=x:=by
  rw[Lm];have:ws[m]?=some (ws[ws.length-1]'(by omega)):=by rw[A5 (by omega)];congr 2;omega
  rw[h] at this;exact(C1 this).symm
 rw[e,e2];exact at_last _ _
theorem eqv_bools(a b:List Bool):Dt (.list (a.map Hc)) (.list (b.map Hc))=decide (a=b):=by
 rw[Dt]
 induction a generalizing b with
 |nil=>cases b with
  |nil=>simp[Ew]
  |cons y b=>simp[Ew]
 |cons x a ih=>cases b with
  |nil=>simp[Ew]
  |cons y b=>
   rw[An,An,Ew,ih b]
   cases x<;>cases y<;>simp[Dt]
theorem zc7(a:List Bool):El (.list (a.map Hc))=true:=by
 have h1:C6 (a.map Hc)=true:=by
  induction a with
  |nil=>rfl
  |cons x a ih=>rw[An,C6,ih];cases x<;>rfl
 have h2:∀a:List Bool,Dj (a.map Hc)=0:=by
  intro a
  induction a with
  |nil=>rfl
  |cons x a ih=>rw[An,Dj,ih];rfl
 simp[El,F6,Gg,h1,h2]
theorem zfJ{K:Az}{H:Hp}{a:A7}{bs:List Bool}(h:H a=some (.lst (bs.map V.bl))):VD K H (.ref a) (.list (bs.map Hc)):=.lst (SqL.of h) (VDs.map fun x _=>.bl x)
noncomputable def RowsR(H:Hp)(ws:List V)(C:Combs)(m:Nat):Prop:=ws.length=m+1/\∀i:Nat,i<=m->∃q,ws[i]?=some (.ref q)/\H q=some (.lst ((rowAt C i).map V.bl))
theorem RowsR.same{H H':Hp}{ws:List V}{C:Combs}{m:Nat}(r:RowsR H ws C m)(s:Same H H'):RowsR H' ws C m:=⟨r.1,fun i h=>let ⟨q,a,b⟩:=r.2 i h;⟨q,a,s _ _ b⟩⟩
theorem RowsR.ne{H:Hp}{ws:List V}{C:Combs}{m:Nat}(r:RowsR H ws C m){p q:A7}{bs:List Bool}(hp:H p=some (.lst ws))(hq:H q=some (.lst (bs.map V.bl))):q≠p:=fun z=>by
 rw[z,hp] at hq;obtain⟨qa,e,_⟩:=r.2 0 (Bz _);injection hq with hq;injection hq with hq;rw[hq,Ad] at e
 cases h:bs[0]? with
 |none=>rw[h] at e;cases e
 |some b=>rw[h] at e;cases e
theorem RowsR.snoc{H:Hp}{ws:List V}{C:Combs}{m:Nat}(r:RowsR H ws C m){p q:A7}(hp:H p=some (.lst ws))(hq:H q=some (.lst ((rowAt C (m+1)).map V.bl))):RowsR (upd H p (.lst (ws++[.ref q]))) (ws++[.ref q]) C (m+1):=by
 refine⟨by rw[Af,r.1];rfl,fun i hi=>?_⟩;by_cases e:i=m+1
 ·subst e;exact⟨q,by rw[Cb (by rw[r.1];omega),r.1];simp,by rw[zag (r.ne hp hq)];exact hq⟩
 ·obtain⟨qa,e1,e2⟩:=r.2 i (by omega);exact⟨qa,by rw[Co (by rw[r.1];omega)];exact e1,by rw[zag (r.ne hp e2)];exact e2⟩
theorem zgu:∀{xs:List V}{us:List A1},xs.length=us.length->(∀(j:Nat)x u,xs[j]?=some x->us[j]?=some u->RelV x u)->Vals xs us
 |[],[],_,_=>.nil
 |x::xs,u::us,hl,h=>.cons (h 0 x u rfl rfl) (zgu (by simpa using hl) fun j y z e1 e2=>h (j+1) y z (by simpa using e1) (by simpa using e2))
section
variable{X:Cx}
theorem call_listD(hc:X.calm=true):CallR X (.type "list") (fun xs H Q=>∃(a:A7)(kvs:List (Key×V)),xs=[V.ref a]/\Rd H a (.dK kvs)/\∀l,H l=none->Q (.ref l) (upd H l (.lst (kvs.map fun kv=>kV kv.1)))):=by
 intro pins s σ H xs us Q I r h;obtain⟨a,kvs,rfl,hq,q⟩:=h;obtain⟨u,rfl,ru⟩:=zb3 r
 cases ru
 obtain⟨hz,lo,vs,kv,hD⟩:=(show ObjOk X.prog X.w H s.heap a (.dK kvs) from hq.ok I.hok);obtain⟨ep,hat⟩:=hD.dictAt;have hlen:=kv.length;refine PySem.W.kdl_call (Jr (knd:=mixKind X.prog X.w) (kvs:=vs) (ep:=ep) lo) (I.ok.hd hc) hat (by omega) fun h' tk acc c' hk hS hacc=>?_;refine⟨.ref s.heap.objs.size,_,I.laid (t':=tk) hk (Ac _) (show ObjOk X.prog X.w _ h' _ (.lst (kvs.map fun kv=>kV kv.1)) from⟨by rw[A3];exact hz,acc.toList,c',zgu ?_ ?_,by simpa using hS⟩),rfl,q _ (I.hok.fresh (Ac _))⟩
 ·have e:=hacc.1;rw[A3,Ax];exact hlen.trans e.symm
 ·intro j x u e1 e2;obtain⟨k,y,e3,hk2⟩:=hacc.2 j u (by rw[<-Ck];exact e2);obtain⟨v',e4,_⟩:=kv.get e3;rw[Ad,e4] at e1
  cases e1
  exact kV_rel hk2
noncomputable def rIndexB:V->List V->Hp->VK->Prop:=fun x vs H Q=>∃(l:A7)(bs:List Bool)(j:Nat),x= .ref l/\vs=[.bl true]/\H l=some (.lst (bs.map V.bl))/\bs.length<=1000/\bs[j]?=some true/\(∀m,m<j->bs[m]?=some false)/\Q (.int (j:Int)) H
theorem mt_indexB:MtM X "list.index" rIndexB:=by
 intro pins s σ H x vs v us Q I rx rv h;obtain⟨l,bs,j,rfl,rfl,hH,hb,hj,hno,q⟩:=h
 cases rx
 obtain⟨u,rfl,ru⟩:=rv.one
 cases ru
 obtain⟨z,its,n,r,hl,e⟩:=I.lstM hH;rw[A3] at hl;have hjl:=(Ag.mp hj).1;have it:∀m(b:Bool),bs[m]?=some b->its[m]?=some (Gs b):=fun m b hm=>by
  obtain⟨w,e1,e2⟩:=r.get (i:=m) (x:=.bl b) (by rw[Ad,hm];rfl)
  cases e2
  exact e1
 refine Ja F.slot_list_index ⟨_,e,rfl⟩ F.entry_list_index (F.args_list_index_2 _ _) (SeqAt.list_indexAt l its.toArray n none #[] (.bool true) (fun y=>match y with| .bool b=>b==true|_=>false) j (by rw[B5];omega) (by omega) ?_ ?_) ⟨e,fun y hy=>?_,⟨.int _,H,I.tok _,⟨_,rfl⟩,q⟩⟩
 ·have:=it j true hj;simp[A5 (show j<its.length by omega)] at this;simp[this]
 ·intro m hm hlt;have:=it m false (hno m hlt);simp[A5 (show m<its.length by omega)] at this;simp[this]
 ·obtain⟨m,hm,em⟩:=Dv (show y∈its by simpa using hy);have hb':bs[m]?=some (bs[m]'(by omega)):=A5 _;have:=it m _ hb';rw[A5 hm,em] at this;rw[C1 this];exact Ks _ _
end
theorem zaD:∀(n:Nat)(l:List Nat),l.Nodup->(∀x∈l,x<n)->l.length<=n
 |0,[],_,_=>Ac _
 |0,x::l,_,h=>absurd (h x Aj) (by omega)
 |n+1,l,nd,h=>by
  by_cases hn:n∈l
  ·have e:=Le hn;have:=zaD n (l.erase n) (nd.erase n) (fun x hx=>by
    have h1:=h x (List.mem_of_mem_erase hx);have h2:x≠n:=((Qw nd).mp hx).1;omega)
   omega
  ·have:=zaD n l nd (fun x hx=>by
    have h1:=h x hx;have h2:x≠n:=fun z=>hn (z▸hx);omega)
   omega
noncomputable def nx(C:Combs)(row:List Bool)(s:Nat):Option (Str×Int):=(stp C s).find? fun p=>tr row p.2.toNat
noncomputable def wk(C:Combs)(row:List Bool)(s:Nat):Nat->Nat
 |0=>s
 |i+1=>((nx C row (wk C row s i)).map (·.2.toNat)).getD 0
noncomputable def wn(C:Combs)(row:List Bool)(s i:Nat):Str:=((nx C row (wk C row s i)).map (·.1)).getD (A2 "")
theorem zh6{C:Combs}{row:List Bool}(g:GC C)(hr:nxtRow C row=row){s:Nat}(hs:s<128)(ht:tr row s=true):∃p,nx C row s=some p/\p∈stp C s/\0<=p.2/\p.2.toNat<128/\tr row p.2.toNat=true:=by
 rw[<-hr,zeq hs] at ht
 cases e:nx C row s with
 |none=>
  have:=Ha.mp e;obtain⟨p,hp,hq⟩:=Bf.mp ht;exact absurd hq (this p hp)
 |some p=>
  have hm:p∈stp C s:=Ek e;exact⟨p,rfl,hm,(zbN g hs hm).1,(zbN g hs hm).2,by have:=Ip e;exact this⟩
theorem zgt{C:Combs}{row:List Bool}(g:GC C)(hr:nxtRow C row=row){s:Nat}(hs:s<128)(ht:tr row s=true):∀i,wk C row s i<128/\tr row (wk C row s i)=true
 |0=>⟨hs,ht⟩
 |i+1=>by
  obtain⟨h1,h2⟩:=zgt g hr hs ht i;obtain⟨p,e,_,_,h4,h5⟩:=zh6 g hr h1 h2;have:wk C row s (i+1)=p.2.toNat:=by
   show((nx C row (wk C row s i)).map (·.2.toNat)).getD 0=_;rw[e];rfl
  rw[this];exact⟨h4,h5⟩
theorem zgs{C:Combs}{row:List Bool}(g:GC C)(hr:nxtRow C row=row){s:Nat}(hs:s<128)(ht:tr row s=true)(i:Nat):nx C row (wk C row s i)=some (wn C row s i,(wk C row s (i+1):Int)):=by
 obtain⟨h1,h2⟩:=zgt g hr hs ht i;obtain⟨p,e,_,h3,h4,h5⟩:=zh6 g hr h1 h2;have a:wn C row s i=p.1:=by unfold wn;rw[e];rfl
 have b:wk C row s (i+1)=p.2.toNat:=by
  show((nx C row (wk C row s i)).map (·.2.toNat)).getD 0=_;rw[e];rfl
 rw[e,a,b,show((p.2.toNat:Nat):Int)=p.2 by omega]
theorem zhD{C:Combs}{row:List Bool}(g:GC C)(hr:nxtRow C row=row){s:Nat}(hs:s<128)(ht:tr row s=true)(i:Nat):(wn C row s i,(wk C row s (i+1):Int))∈stp C (wk C row s i):=Ek (zgs g hr hs ht i)
noncomputable def seenK(f:Nat->Nat)(i:Nat):List (Key×V):=(A4 i).map fun j=>(Db ((f j:Nat):Int),V.int (j:Int))
theorem seenK_succ(f:Nat->Nat)(i:Nat):seenK f (i+1)=seenK f i++[(Db ((f i:Nat):Int),V.int (i:Int))]:=by
 unfold seenK;rw[Cw,B1];rfl
theorem zeW(f:Nat->Nat)(i:Nat):(seenK f i).length=i:=by unfold seenK;rw[A3,Am]
theorem zdv(f:Nat->Nat)(i x:Nat):valV (seenK f i) (Db (x:Int))=((A4 i).find? fun j=>decide (f j=x)).map fun(j:Nat)=>V.int (j:Int):=by
 unfold valV seenK;have e:(fun j:Nat=>decide ((Db ((f j:Nat):Int):Key)=Db (x:Int)))=fun j=>decide (f j=x):=funext fun j=>by
  rw[decide_eq_decide];constructor
  ·intro h;injection h with h;omega
  ·intro h;rw[h]
 rw[List.find?_map,Option.map_map];show Mm (fun j:Nat=>V.int (j:Int)) (List.find? (fun j:Nat=>decide ((Db ((f j:Nat):Int):Key)=Db (x:Int))) (A4 i))=_;rw[e]
noncomputable def LaysR(H:Hp)(vs:List V)(n:Nat->Str)(i:Nat):Prop:=Bv (fun(j:Nat)(v:V)=>∃q,v= .ref q/\H q=some (.tup [.int (j:Int),.str (n j)])) ((A4 i).filter fun j=>decide (n j≠A2 "")) vs
theorem LaysR.mono{H H':Hp}{vs:List V}{n:Nat->Str}{i:Nat}(m:∀q xs,H q=some (.tup xs)->H' q=some (.tup xs))(r:LaysR H vs n i):LaysR H' vs n i:=Bv.mapP r fun _ _⟨q,a,b⟩=>⟨q,a,m _ _ b⟩
theorem LaysR.skip{H:Hp}{vs:List V}{n:Nat->Str}{i:Nat}(r:LaysR H vs n i)(h:n i=A2 ""):LaysR H vs n (i+1):=by
 unfold LaysR;rw[Cw,C0,By,if_neg (by simpa using h),F0,Ci];exact r
theorem LaysR.snoc{H:Hp}{vs:List V}{n:Nat->Str}{i:Nat}{q:A7}(r:LaysR H vs n i)(h:n i≠A2 "")(hq:H q=some (.tup [.int (i:Int),.str (n i)])):LaysR H (vs++[.ref q]) n (i+1):=by
 unfold LaysR;rw[Cw,C0,By,if_pos (by simpa using h),F0];exact Ej r ⟨q,rfl,hq⟩
theorem LaysR.len{H:Hp}{vs:List V}{n:Nat->Str}{i:Nat}(r:LaysR H vs n i):vs.length<=i:=by
 rw[<-Bw r];exact Bm (Bu _ _) (by rw[Am];omega)
theorem zdC{C:Combs}{m:Nat}(h:nxtRow C (rowAt C m)=rowAt C m):∀k,rowAt C (m+k)=rowAt C m
 |0=>rfl
 |k+1=>by
  show nxtRow C (rowAt C (m+k))=_;rw[zdC h k,h]
theorem row_same{C:Combs}{m m':Nat}(h:nxtRow C (rowAt C m)=rowAt C m)(h':nxtRow C (rowAt C m')=rowAt C m'):rowAt C m=rowAt C m':=by
 rcases Mc m m' with e|e
 ·rw[show m'=m+(m'-m) by omega,zdC h]
 ·rw[show m=m'+(m-m') by omega,zdC h']
noncomputable def LineD(C:Combs)(sp:Nat)(f:Nat->Nat)(nm:Nat->Str):Prop:=∃m s0 start n:Nat,nxtRow C (rowAt C m)=rowAt C m/\s0<128/\tr (rowAt C m) s0=true/\(∀j,j<s0->tr (rowAt C m) j=false)/\start<n/\n<=128/\wk C (rowAt C m) s0 n=wk C (rowAt C m) s0 start/\((A4 n).map (wk C (rowAt C m) s0)).Nodup/\
 sp=n-start/\f=(fun k=>wk C (rowAt C m) s0 (start+k))/\nm=fun k=>wn C (rowAt C m) s0 (start+k)
noncomputable def StuckD(C:Combs)(m:Nat):Prop:=nxtRow C (rowAt C m)=rowAt C m/\∀s,s<128->tr (rowAt C m) s=false
theorem LineD.span{C:Combs}{sp:Nat}{f:Nat->Nat}{nm:Nat->Str}(h:LineD C sp f nm):1<=sp/\sp<=128/\f sp=f 0:=by
 obtain⟨m',s0,st,n,a1,a2,a3,a4,a5,a6,a7,a8,rfl,rfl,rfl⟩:=h;refine⟨by omega,by omega,?_⟩;show wk C _ s0 (st+(n-st))=wk C _ s0 (st+0);rw[show st+(n-st)=n by omega,a7];rfl
theorem LineD.step{C:Combs}(g:GC C){sp:Nat}{f:Nat->Nat}{nm:Nat->Str}(h:LineD C sp f nm)(k:Nat):f k<128/\(nm k,(f (k+1):Int))∈stp C (f k):=by
 obtain⟨m',s0,st,n,a1,a2,a3,a4,a5,a6,a7,a8,rfl,rfl,rfl⟩:=h;exact⟨(zgt g a1 a2 a3 _).1,zhD g a1 a2 a3 (st+k)⟩
noncomputable def cntD(C:Combs)(m s:Nat):Nat:=((A4 (m+1)).filter fun i=>tr (rowAt C i) s).length
theorem zgz{C:Combs}(g:GC C){s:Nat}(hs:s<128){i:Nat}:∀k,tr (rowAt C (i+k)) s=true->tr (rowAt C i) s=true
 |0,h=>h
 |k+1,h=>zgz g hs k (zfv g (i+k) s hs h)
theorem zc4{α:Type}(js:List α)(p:α->Bool)(d:α):((A4 js.length).filter fun i=>p (js.getD i d)).map (fun i=>js.getD i d)=js.filter p:=by
 induction js with
 |nil=>rfl
 |cons x js ih=>
  rw[At,Ia,By,By,Dx];show _=if p x=true then x::js.filter p else js.filter p
  have e:Hr (fun i=>(x::js).getD i d) (Hr Qz (P8 ((fun i=>p ((x::js).getD i d))∘Qz) (A4 js.length)))=js.filter p:=by
   rw[As,<-ih];rfl
  by_cases h:p x=true
  ·rw[if_pos (by simpa using h),if_pos h,An,e];rfl
  ·rw[if_neg (by simpa using h),if_neg h,e]
theorem range_cut(n st:Nat)(h:st<=n)(P:Nat->Bool):((((A4 n).filter P).filter fun j=>decide (st<=j)).map fun j=>j-st)=(A4 (n-st)).filter fun k=>P (st+k):=by
 have e:A4 n=A4 st++(A4 (n-st)).map fun k=>st+k:=by
  rw[<-Fp];congr 1;omega
 rw[N8,e,C0,B1];have h1:(A4 st).filter (fun a=>decide (st<=a)&&P a)=[]:=by
  rw[Ev];intro a ha;have:=Ay.mp ha;simp;intro z;omega
 rw[h1,Fd,Gh,Dx,As];have h2:((fun j=>j-st)∘fun k=>st+k)=id:=funext fun k=>by show st+k-st=k;omega
 rw[h2,Gd];refine Ea fun k _=>?_;show(decide (st<=st+k)&&P (st+k))=P (st+k);rw[decide_eq_true (by omega),F4]
section
variable{prog:Aw}{w:Bq}{A:Bi}{E:A1->A6->Prop}{s:A6}{d it:A7}{o:Obj}{es:Array J6}{ep i:Nat}
theorem zhn(ho:s.heap.get? d=some o)(hc:o.ExactDict):s.TypeIs (.ref d) "dict":=⟨o,ho,hc.1⟩
theorem zhp{Q:A1->A6->Prop}(hd:(d==sysModules)=false)(ho:s.heap.get? d=some o)(hc:o.ExactDict)(hdat:o.data= .dict es ep)
  (hQ:Q (.ref s.heap.objs.size) {s with heap:=s.heap.push {cls:=.type "dict_keyiterator",data:=.fields #[.ref d,.int 0 0,.int es.size 0,.int ep 0]}}):wpAny (model prog w) A (pyIter (.ref d)) Q E s:=by
 have hT:=zhn ho hc;refine wpAny_pyIter_slot hT F.slot_dict_iter (E8 F.slot_dict_iter hT F.entry_dict_iter (show wpAny _ _ (Hi.«dict.__iter__» _) _ _ _ from ?_) (F.args_dict_iter_1 _));unfold Hi.«dict.__iter__»;refine A0 ?_;unfold Q6;refine A0 (wpAny_notOrdered_dict hT (show wpAny _ _ (pure (Bc d)) _ _ s from Ai (show wpAny _ _ (Kd d>>=_) _ _ s from ?_)));unfold Kd;rw[if_neg (by rw[hd];exact Ah)];refine A0 (Ai (A0 (Ht ho hdat (A0 (Li ho hdat (A0 (Ga (Ai ⟨_,rfl,"dict_keyiterator",_,⟨_,Ba _ rfl,rfl⟩,F.slot_dict_keyiterator_next.lookup,?_⟩))))))));simpa[rawInt] using hQ
theorem zho{Q:Option A1->A6->Prop}(hit:s.heap.IsKeyIter it d i es.size ep)(hod:s.heap.get? d=some o)(hdd:o.data= .dict es ep)(hlt:i<es.size)
  (hQ:∀h',h'.IsKeyIter it d (i+1) es.size ep->Fw it s.heap h'->Q (some es[i].key) {s with heap:=h'}):wpAny (model prog w) A (pyNext (.ref it)) Q E s:=by
 obtain⟨oi,hi,hc,hd⟩:=id hit;have hown:Ic "dict_keyiterator"=false:=by decide
 unfold pyNext;refine A0 (K4 (Iz (name:=A2 "__next__") hit.typeIs F.slot_dict_keyiterator_next (E8 F.slot_dict_keyiterator_next hit.typeIs F.entry_dict_keyiterator_next ?_ (F.args_dict_keyiterator_next_1 _))));refine A0 (Ai (A0 (A0 ?_)))
 first|refine A0 (F5 hit.typeIs (Ai (A0 (Jq hi hd ?_))))|refine A0 (Fm hit.typeIs (Ai (A0 (Jq hi hd ?_))))
 simp only[hown,Bt,if_false];show wpAny _ _ (if(Bc d==Em)=true then _ else _) _ _ s;rw[if_neg (show¬((Bc d==Em)=true) from Ah)];refine A0 (Ai (A0 (Ht hod hdd ?_)));rw[if_neg (by simp)];refine A0 (Ai (A0 (Li hod hdd ?_)));rw[if_neg (by simp)];refine Ai ?_;simp only[show¬((i:Int)<0) from by omega,if_false,Cj,He hlt];refine A0 ?_
 first|refine A0 (F5 hit.typeIs (Ai (A0 (Ji hit.typeIs ?_))))|refine A0 (Fm hit.typeIs (Ai (A0 (Ji hit.typeIs ?_))))
 have hit':(s.heap.update it (Fi (·.setIfInBounds 1 (rawInt ((i:Int)+1))))).IsKeyIter it d (i+1) es.size ep:=⟨_,Iw _ hi (Mn (Fl hd _)),(Nu ..).trans hc,by rw[Fl hd];simp[rawInt]⟩;refine(show wpAny _ _ (setField (.ref it) 1 (rawInt ((i:Int)+1))>>=_) _ _ s from A0 (Hk hi hd (by simp) (A0 (Dy (A0 (Ji (s:={s with heap:=s.heap.update it (Fi (·.setIfInBounds 1 (rawInt ((i:Int)+1))))}) hit'.typeIs ?_))))));show wpAny _ _ (pure es[i].key) _ _ _;exact Ai (Ai ⟨_,rfl,Ai (hQ _ hit' (Ko ..))⟩)
theorem zhT{Q:Option A1->A6->Prop}(hh:A.handled=none)(hit:s.heap.IsKeyIter it d i es.size ep)(hod:s.heap.get? d=some o)(hdd:o.data= .dict es ep)(hge:es.size<=i)
  (hQ:∀h',Heap.ExtBut it s.heap h'->Q none {s with heap:=h'}):wpAny (model prog w) A (pyNext (.ref it)) Q E s:=by
 obtain⟨oi,hi,hc,hd⟩:=id hit;have hown:Ic "dict_keyiterator"=false:=by decide
 unfold pyNext;refine A0 (K4 (Iz (name:=A2 "__next__") hit.typeIs F.slot_dict_keyiterator_next (E8 F.slot_dict_keyiterator_next hit.typeIs F.entry_dict_keyiterator_next ?_ (F.args_dict_keyiterator_next_1 _))));refine A0 (Ai (A0 (A0 ?_)))
 first|refine A0 (F5 hit.typeIs (Ai (A0 (Jq hi hd ?_))))|refine A0 (Fm hit.typeIs (Ai (A0 (Jq hi hd ?_))))
 simp only[hown,Bt,if_false];show wpAny _ _ (if(Bc d==Em)=true then _ else _) _ _ s;rw[if_neg (show¬((Bc d==Em)=true) from Ah)];refine A0 (Ai (A0 (Ht hod hdd ?_)));rw[if_neg (by simp)];refine A0 (Ai (A0 (Li hod hdd ?_)));rw[if_neg (by simp)];refine Ai ?_;simp only[show¬((i:Int)<0) from by omega,if_false,Cj,Array.getElem?_eq_none hge];refine A0 ?_
 first|refine A0 (F5 hit.typeIs (Ai ?_))|refine A0 (Fm hit.typeIs (Ai ?_))
 refine(show wpAny _ _ (setField (.ref it) 0 .none>>=_) _ _ s from A0 (Hk hi hd (by simp) (show wpAny _ _ (newExc (.type "StopIteration") []>>=_) _ _ _ from A0 ?_)));simp only[newExc,newTuple];refine A0 (Ga ?_ (by size_fits));refine A0 (m:=firstArgMember _ _) (wpAny_of_eq (a:=Em) (by first|rfl|(simp only[firstArgMember];rfl)) (Ga ?_ (by size_fits)));simp only[raiseNew];refine A0 (wpAny_handled ?_);rw[show A.in1.handled=none from hh];refine A0 (Ai (wpAny_throw ?_));refine A0 (Iy (T:="StopIteration") (b:=true) ⟨_,Ba _ rfl,rfl⟩ isSubtype_stop ?_);exact Ai (hQ _ (((Ko ..).extBut.push _).push _))
end
theorem Bv.rev{α β:Type}{R:α->β->Prop}:∀{l:List α}{m:List β}{i:Nat}{y:β},Bv R l m->m[i]?=some y->∃x,l[i]?=some x/\R x y
 |_,_,i,x,.nil,h=>by simp at h
 |_,_,0,x,.cons h r,e=>by
  simp at e;subst e;exact⟨_,rfl,h⟩
 |_,_,i+1,x,.cons h r,e=>by
  obtain⟨y,e1,e2⟩:=Bv.rev (i:=i) r (by simpa using e);exact⟨y,by simpa using e1,e2⟩
section
variable{X:Cx}{pins:List (A7×Obj)}{σ:St}{H:Hp}{s:A6}{a:A7}{kvs:List (List Key×V)}
theorem Inv.freezeT(I:Inv X pins σ H s)(h:H a=some (.dT kvs)):∃o,s.heap.get? a=some o/\Inv X pins σ (upd H a (.frz o (.dT kvs))) s:=by
 have ok:=(show ObjOk X.prog X.w H s.heap a (.dT kvs) from I.hok a _ h);obtain⟨o,ho⟩:=ok.there;refine⟨o,ho,?_⟩;have:=Inv.write (x:=a) (e:=a) (o:=.frz o (.dT kvs)) (h':=s.heap) (t':=s.toks) I (by rw[h];trivial) (.inl rfl) (fun _ _ _ q=>q) ⟨o,ho⟩ ⟨ho,ok.stay (fun _ _ _ q=>q) (fun b q=>by rw[zag (fun z=>by rw[z,h] at q;cases q)];exact q) fun b xs q=>by rw[zag (fun z=>by rw[z,h] at q;cases q)];exact q⟩;exact this
theorem Inv.unfreezeT{o:Obj}(I:Inv X pins σ H s)(h:H a=some (.frz o (.dT kvs)))(h0:∀o u,X.H₀ a≠some (.frz o u)):Inv X pins σ (upd H a (.dT kvs)) s:=by
 have nn:∀b,H b=none->b≠a:=fun b q z=>by rw[z,h] at q;cases q
 obtain⟨ho,ok⟩:=(show ObjOk X.prog X.w H s.heap a (.frz o (.dT kvs)) from I.hok a _ h);have own:∀b y,H b=some (.own y)->upd H a (.dT kvs) b=some (.own y):=fun b y q=>by rw[zag (fun z=>by rw[z,h] at q;cases q)];exact q
 have tups:∀b xs,H b=some (.tup xs)->upd H a (.dT kvs) b=some (.tup xs):=fun b y q=>by rw[zag (fun z=>by rw[z,h] at q;cases q)];exact q
 refine⟨I.ok,I.os,I.bare,⟨I.base.keep,I.base.slot,fun b u q n hx=>?_,I.base.there,fun b xs q=>tups b xs (I.base.tups b xs q),fun b u v q=>?_,fun b ps q=>?_⟩,I.loc,I.cell,?_,fun y c e=>?_,fun p hp=>?_,fun b u q=>?_,I.len⟩
 ·have:=I.base.free b u q n hx;rw[zag (nn b this)];exact this
 ·have q':=I.base.frzs b u v q;rw[zag (fun z=>h0 _ _ (z▸q))];exact q'
 ·obtain⟨m,e⟩:=I.base.tbls b ps q;exact⟨m,by rw[zag (fun z=>by rw[z,h] at e;cases e)];exact e⟩
 ·rw[zag (nn _ I.free)];exact I.free
 ·rw[zag (nn _ (I.freeC y c e))];exact I.freeC y c e
 ·obtain⟨e1,e2,e3,e4,e5⟩:=I.pin p hp;exact⟨e1,by rw[zag (nn _ e2)];exact e2,e3,e4,e5⟩
 ·by_cases hb:b=a
  ·subst hb;rw[zad] at q
   cases q
   exact ok.stay (fun _ _ _ q=>q) (fun c q=>own c _ q) tups
  ·rw[zag hb] at q;exact(I.hok b u q).stay (fun _ _ _ q=>q) (fun c q=>own c _ q) tups
end
noncomputable def IttD(a:A7)(o:Obj)(kvs:List (List Key×V)):It:=⟨fun i H=>H a=some (.frz o (.dT kvs))/\i<kvs.length,fun i H v H'=>H'=H/\∃k y b,kvs[i]?=some (k,y)/\v= .ref b/\H b=some (.tup (k.map kV)),fun i H=>H a=some (.frz o (.dT kvs))/\kvs.length<=i⟩
theorem zfA{X:Cx}{pins:List (A7×Obj)}{σ:St}{H:Hp}{s:A6}{a:A7}{o:Obj}{kvs:List (List Key×V)}{es:Array J6}{ep:Nat}(I:Inv X pins σ H s)(h:H a=some (.frz o (.dT kvs)))(hd:o.data= .dict es ep):
  s.heap.get? a=some o/\(a==sysModules)=false/\o.ExactDict/\es.size=kvs.length/\∀i(hi:i<es.size),∃k y b,kvs[i]?=some (k,y)/\es[i].key= .ref b/\H b=some (.tup (k.map kV)):=by
 obtain⟨ho,hz,lo,xs,kt,o',es',ep',ho',c,d,r,_⟩:=(show ObjOk X.prog X.w H s.heap a (.frz o (.dT kvs)) from I.hok a _ h);rw[ho] at ho'
 cases ho'
 rw[hd] at d
 cases d
 have hl:=Bw kt;have hl2:es.size=xs.length:=by rw[<-Ax,r,A3]
 refine⟨ho,lo,c,by omega,fun i hi=>?_⟩;have e1:es.toList[i]?=some es[i]:=by simp[hi]
 rw[r,Ad] at e1
 cases ex:xs[i]? with
 |none=>rw[ex] at e1;cases e1
 |some x=>
  rw[ex] at e1;obtain⟨p,ep,h1,h2,h3⟩:=Bv.rev kt ex;refine⟨p.1,p.2,x.2.1,ep,?_,h2⟩;rw[<-C1 e1];rfl
theorem turn_dictT{P:Aw}{w:Bq}{K:Az}{tg:Ce}(a it:A7)(o:Obj)(kvs:List (List Key×V))(es:Array J6)(ep:Nat)(hd:o.data= .dict es ep):
  Turn P w K tg (IttD a o kvs) [it] it (fun i h=>h.IsKeyIter it a i es.size ep) where
 mem:=by simp
 obj:=fun i h st b hb=>by
  have e:b=it:=by simpa using hb
  subst e;obtain⟨o,e,c,d⟩:=st;exact⟨o,e,fun v z=>by rw[d] at z;cases z⟩
 keep:=fun i h h' st k=>by
  obtain⟨o,e,r⟩:=st;exact⟨o,k it (by simp) o e,r⟩
 item:=by
  intro X hP hw hK hc i pins s σ H E I hf st hg;subst hP hw hK;obtain⟨hz,hi⟩:=hg;obtain⟨ho,lo,hex,hsz,hk⟩:=zfA I hz hd;obtain⟨f0,f1,f2,f3,f4,f5⟩:=hf it (by simp);obtain⟨k,y,b,e1,e2,e3⟩:=hk i (by omega);refine zho st ho hd (by omega) fun h' st' sb=>?_;have I1:Inv X pins σ H {s with heap:=h'}:=I.turned (t':=s.toks) (fun b o hb e=>(sb.2 b hb).trans e) f0 f1 f3 f4 f5;obtain⟨o',e,c,d⟩:=id st';refine⟨_,rfl,zhh (s:={s with heap:=h'}) e c d (by decide) ⟨.ref b,H,I1,e2,⟨rfl,k,y,b,e1,rfl,e3⟩,st',fun b hb=>(hf b hb).1⟩⟩
 done:=by
  intro X hP hw hK hc i pins s σ H E I hf st hg;subst hP hw hK;obtain⟨hz,hi⟩:=hg;obtain⟨ho,lo,hex,hsz,hk⟩:=zfA I hz hd;obtain⟨f0,f1,f2,f3,f4,f5⟩:=hf it (by simp);exact zhT (I.ok.hd hc) st ho hd (by omega) fun h' eb=>⟨rfl,I.turned (t':=s.toks) (fun b o hb e=>eb b o hb e) f0 f1 f3 f4 f5⟩
 self:=fun A i s Q E st h=>by
  obtain⟨o,e,c,d⟩:=st;exact Nz ⟨o,e,c,d⟩ h
section
variable{X:Cx}{tg:Ce}
noncomputable def iDicT(i:Nat):TI:=fun σ H R=>∃a o kvs,σ[i]?=some (some (.ref a))/\H a=some (.frz o (.dT kvs))/\R (IttD a o kvs) H
theorem pi_dicT{i:Nat}{x:Str}{np:Pos}(hx:PE X (.Name x np) (tVar i)):PI X tg (.Name x np) (iDicT i):=by
 intro pins s σ H R I h;obtain⟨a,o,kvs,hσ,ha,q⟩:=h;refine thnE (hx pins s σ H (fun v H1=>v= .ref a/\H1=H) I ⟨_,hσ,rfl,rfl⟩) fun v s1 y H1 I1 r1⟨e1,e2⟩=>?_;subst e1 e2
 cases r1
 obtain⟨ho,_,_,_,_,o',es,ep,ho',_,d,_⟩:=(show ObjOk X.prog X.w H1 s1.heap a (.frz o (.dT kvs)) from I1.hok a _ ha);rw[ho] at ho'
 cases ho'
 obtain⟨_,lo,hex,hsz,_⟩:=zfA I1 ha d;refine zhp lo ho hex d ?_;refine⟨s1.heap.objs.size,[s1.heap.objs.size],_,_,H1,rfl,I1.kept (t':=s1.toks) fun b o e=>Ae _ e,turn_dictT a _ o kvs es ep d,?_,fun b hb=>?_,q⟩
 ·exact⟨_,Ba _ rfl,rfl,rfl⟩
 ·have e:b=s1.heap.objs.size:=by simpa using hb
  subst e;exact I1.fpOk (Ac _) (I1.hok.fresh (Ac _))
noncomputable def DfrzT(a:A7)(o:Obj)(kvs:List (List Key×V))(D:Ends):Ends:={nx:=fun σ H=>H a=some (.frz o (.dT kvs))/\D.nx σ (upd H a (.dT kvs)),rt:=fun v H=>H a=some (.frz o (.dT kvs))/\D.rt v (upd H a (.dT kvs)),bk:=fun σ H=>H a=some (.frz o (.dT kvs))/\D.bk σ (upd H a (.dT kvs)),ct:=fun σ H=>H a=some (.frz o (.dT kvs))/\D.ct σ (upd H a (.dT kvs))}
noncomputable def tForT(i:Nat)(g:TG)(tb:TS):TS:=fun D σ H=>∃a kvs,σ[i]?=some (some (.ref a))/\H a=some (.dT kvs)/\∀o,∃W:Nat->Nat->St->Hp->Prop,(∃m,W 0 m σ (upd H a (.frz o (.dT kvs))))/\∀j m σ H,W j m σ H->
 ((IttD a o kvs).stop j H/\(DfrzT a o kvs D).nx σ H)\/((IttD a o kvs).go j H/\∃N:St->Hp->Prop,(∀σ' H',N σ' H'->∃m',m'<m/\W (j+1) m' σ' H')/\
  ∀x H',(IttD a o kvs).yld j H x H'->g x σ H' fun σ2 H2=>tb {DfrzT a o kvs D with nx:=N,ct:=N,bk:=(DfrzT a o kvs D).nx} σ2 H2)
theorem ps_forT{i:Nat}{x:Str}{body:List Cf}{g:TG}{tb:TS}{np pos:Pos}(hp:P4 (model X.prog X.w) X.A X.env X.xe)(hc:X.calm=true)(hx:PE X (.Name x np) (tVar i))(hg:PG X tg g)(hb:PSs X body tb)
  (hs:∀y,foldedSetIterable (.Name x np) X.env y=pure y:=by intro _;rfl):PS X (.For tg (.Name x np) body [] pos) (tForT i g tb):=by
 intro pins s σ H D I h;obtain⟨a,kvs,hσ,ha,h⟩:=h;obtain⟨o,ho,I1⟩:=I.freezeT ha;have h0:∀o u,X.H₀ a≠some (.frz o u):=fun o' u z=>by
  have:=I.base.frzs a o' u z;rw[ha] at this
  cases this
 refine Dq (za0 hp hc (pi_dicT hx) hg hb hs pins s σ (upd H a (.frz o (.dT kvs))) (DfrzT a o kvs D) I1 ⟨a,o,kvs,hσ,zad,h o⟩) (fun f s' q=>?_) fun _ _ z=>z
 cases f with
 |next=>obtain⟨σ',H',J,e,q⟩:=q;exact⟨σ',_,J.unfreezeT e h0,q⟩
 |brk=>obtain⟨σ',H',J,e,q⟩:=q;exact⟨σ',_,J.unfreezeT e h0,q⟩
 |cont=>obtain⟨σ',H',J,e,q⟩:=q;exact⟨σ',_,J.unfreezeT e h0,q⟩
 |ret u=>obtain⟨v,σ',H',J,r,e,q⟩:=q;exact⟨v,σ',_,J.unfreezeT e h0,r,q⟩
end
section
variable{prog:Aw}{w:Bq}{A:Bi}{E:A1->A6->Prop}{s:A6}{d:A7}{o:Obj}{es:Array J6}{ep:Nat}
theorem ed_len{Q:A1->A6->Prop}(hd:(d==sysModules)=false)(ho:s.heap.get? d=some o)(hc:o.ExactDict)(hdat:o.data= .dict es ep)(hfit:(es.size:Int)<2 ^ 63)(h:Q (.int es.size (s.toks+1)) {s with toks:=s.toks+1+1}):wpAny (model prog w) A (call (.builtin "len") [.ref d]) Q E s:=by
 have hT:=zhn ho hc;refine Fe kind_len plain_len entry_len (args_len1 _) (show wpAny _ _ (Hi.«len» _) _ _ _ from ?_);unfold Hi.«len»;refine A0 (m:=oneArg "len" _) (Ai ?_);refine A0 (m:=callSpecial? (.ref d) (A2 "__len__")) (Iz (name:=A2 "__len__") hT F.slot_dict_len (E8 F.slot_dict_len hT F.entry_dict_len (show wpAny _ _ (dictSize d>>=_) _ _ s from ?_) (F.args_dict_len_1 _)));unfold dictSize;refine A0 (A0 (Ht ho hdat (Ai (show wpAny _ _ (Q5 d>>=_) _ _ s from A0 (wpAny_pendingCount_other hd (Pd ?_))))));show wpAny _ _ _ _ _ {s with toks:=s.toks+1};refine A0 (Dy (Ai (A0 (wpAny_letGo ?_))));show wpAny _ _ (if((es.size+0:Nat):Int)<0 then _ else _) _ _ _;rw[if_neg (by omega)];show wpAny _ _ (if((es.size+0:Nat):Int)>=2 ^ 63 then _ else _) _ _ _;rw[if_neg (by omega)];exact A0 (wpAny_mkInt (Ai ⟨_,rfl,h⟩))
end
noncomputable def kI(ns:List Int):List Key:=ns.map Db
theorem kI_V(ns:List Int):(kI ns).map kV=ns.map V.int:=by unfold kI;rw[As];rfl
theorem zde:∀{a b:List Int},kI a=kI b->a=b
 |[],[],_=>rfl
 |[],_::_,h=>by cases h
 |_::_,[],h=>by cases h
 |x::a,y::b,h=>by
  unfold kI at h;rw[An,An] at h;injection h with h1 h2;injection h1 with h1;rw[h1,zde h2]
section
variable{X:Cx}
theorem zfl:CallR X (.builtin "len") (fun xs H Q=>∃(a:A7)(kvs:List (List Key×V)),xs=[V.ref a]/\H a=some (.dT kvs)/\Q (.int kvs.length) H):=by
 intro pins s σ H xs us Q I r h;obtain⟨a,kvs,rfl,ha,q⟩:=h;obtain⟨u,rfl,ru⟩:=zb3 r
 cases ru
 obtain⟨hz,lo,xs,kt,o,es,ep,ho,c,d,e,_⟩:=(show ObjOk X.prog X.w H s.heap a (.dT kvs) from I.hok a _ ha);have hl:=Bw kt;have hl2:es.size=xs.length:=by rw[<-Ax,e,A3]
 have hz2:sizeLine<2 ^ 62:=by decide
 refine ed_len lo ho c d (by omega) ⟨.int _,H,I.tok _,⟨_,rfl⟩,?_⟩;rw[show es.size=kvs.length by omega];exact q
end
theorem steps_perm{C C':Combs}(p:C.Perm C')(n:Int):(stepsOf C n).Perm (stepsOf C' n):=by
 unfold stepsOf
 split
 ·exact K2 _
 ·exact(p.filter _).map _
theorem any_perm{α:Type}{l l':List α}(p:l.Perm l')(f:α->Bool):l.any f=l'.any f:=by
 rw[B7,Bf,Bf];exact⟨fun⟨x,h,e⟩=>⟨x,p.mem_iff.mp h,e⟩,fun⟨x,h,e⟩=>⟨x,p.mem_iff.mpr h,e⟩⟩
theorem fold_max(l:List Int)(a:Int):(∀x∈l,x<=l.foldl max a)/\a<=l.foldl max a/\(l.foldl max a=a\/l.foldl max a∈l):=by
 induction l generalizing a with
 |nil=>exact⟨by simp,Do _,.inl rfl⟩
 |cons x l ih=>
  obtain⟨h1,h2,h3⟩:=ih (max a x);rw[Io];refine⟨fun y hy=>?_,by omega,?_⟩
  ·rcases Bo.mp hy with rfl|hy
   ·omega
   ·exact h1 y hy
  ·rcases h3 with h|h
   ·rcases Int.le_total a x with z|z
    ·exact .inr (by rw[h,Int.max_eq_right z];exact Aj)
    ·exact .inl (by rw[h,Int.max_eq_left z])
   ·exact .inr (Ab _ h)
theorem zd1{a b:Nat}(ha:a<128)(hb:b<128)(h:aheadOf (a:Int)=aheadOf (b:Int)):a=b:=by
 have h1:=zbo (n:=(a:Int)) (by omega) (by omega);have h2:=zbo (n:=(b:Int)) (by omega) (by omega);rw[h,h2] at h1;omega
noncomputable def akey(s:Nat):List Key:=kI (aheadOf (s:Int))
theorem zdq{a b:Nat}(ha:a<128)(hb:b<128)(h:akey a=akey b):a=b:=zd1 ha hb (zde h)
theorem valV_mem{κ:Type}[DecidableEq κ]{kvs:List (κ×V)}{k:κ}:(valV kvs k).isSome=true↔k∈kvs.map (·.1):=by
 rw[<-zbu,Bf,Aa];constructor
 ·rintro⟨x,hx,e⟩;exact⟨x,hx,of_decide_eq_true e⟩
 ·rintro⟨x,hx,e⟩;exact⟨x,hx,decide_eq_true e⟩
theorem zgv{κ:Type}[DecidableEq κ]:∀{kvs:List (κ×V)}{i:Nat}{k:κ}{v:V},(kvs.map (·.1)).Nodup->kvs[i]?=some (k,v)->valV kvs k=some v
 |[],_,_,_,_,h=>by simp at h
 |p::kvs,0,k,v,nd,h=>by
  simp at h;subst h;exact za5 rfl
 |p::kvs,i+1,k,v,nd,h=>by
  rw[An,Dw] at nd;have h':kvs[i]?=some (k,v):=by simpa using h
  rw[zaZ (fun z=>nd.1 (z▸Aa.mpr ⟨(k,v),Bd h',rfl⟩))];exact zgv nd.2 h'
theorem za6{ks:Combs}{s:Nat}(hs:s<128)(g:GC ks):(goesOf ks (aheadOf (s:Int))).map (fun p=>(p.1,worth p.2))=stp ks s:=zd9 (by omega) (by omega) g
theorem zbw{ks:Combs}{s:Nat}(hs:s<128)(g:GC ks){p:Str×List Int}(hp:p∈goesOf ks (aheadOf (s:Int))):(worth p.2).toNat<128/\0<=worth p.2/\kI p.2=akey (worth p.2).toNat/\(p.1,worth p.2)∈stp ks s:=by
 have hm:(p.1,worth p.2)∈stp ks s:=by rw[<-za6 hs g];exact Aa.mpr ⟨p,hp,rfl⟩
 have hlt:=zbN g hs hm;refine⟨hlt.2,hlt.1,?_,hm⟩;have:∃a b,p.2=afterOf a b:=by
  unfold goesOf at hp
  split at hp
  ·rw[A9.mp hp];exact⟨_,_,rfl⟩
  ·obtain⟨c,_,rfl⟩:=Aa.mp hp;exact⟨_,_,rfl⟩
 obtain⟨a,b,e⟩:=this;unfold akey;rw[show(((worth p.2).toNat:Nat):Int)=worth p.2 by have:=hlt.1;show _=_;omega];congr 1;rw[e];have hs:afterOf a b=((A4 7).filter fun i=>decide (((i:Nat):Int)∈afterOf a b)).map fun i=>((i:Nat):Int):=by
  refine zbx ?_ ((zdr a b).imp fun h=>by omega) ?_
  ·rw[D5 (zaU (zdr a b))]
   ·intro t;simp only[Aa,Aq,Ay,decide_eq_true_eq];constructor
    ·intro h;have:=zgo t h;exact⟨t.toNat,⟨by omega,by rwa[show((t.toNat:Nat):Int)=t by omega]⟩,by omega⟩
    ·rintro⟨i,⟨_,h⟩,rfl⟩;exact h
   ·refine zaU ?_;rw[C7];refine Bp Cv (Er ?_ (D9 (n:=7)));intro a b h;omega
  ·rw[C7];refine Bp Cv (Er ?_ (D9 (n:=7)));intro a b h;omega
 rw[hs];exact(ahead_worth _).symm
theorem forT_g{a:A7}{o:Obj}{kvs:List (List Key×V)}{g:TG}{tb:TS}{D:Ends}{σ:St}{H:Hp}(Pv:Nat->St->Hp->Prop)(h0:Pv 0 σ H)(hk:∀i σ H,Pv i σ H->H a=some (.frz o (.dT kvs)))
  (hs:∀i k y b σ H,kvs[i]?=some (k,y)->H b=some (.tup (k.map kV))->Pv i σ H->g (.ref b) σ H fun σ2 H2=>tb {D with nx:=Pv (i+1),ct:=Pv (i+1),bk:=D.nx} σ2 H2) (hd:∀σ H,Pv kvs.length σ H->D.nx σ H):
  ∃W:Nat->Nat->St->Hp->Prop,(∃m,W 0 m σ H)/\∀j m σ H,W j m σ H->((IttD a o kvs).stop j H/\D.nx σ H)\/((IttD a o kvs).go j H/\∃N:St->Hp->Prop,(∀σ' H',N σ' H'->∃m',m'<m/\W (j+1) m' σ' H')/\
   ∀x H',(IttD a o kvs).yld j H x H'->g x σ H' fun σ2 H2=>tb {D with nx:=N,ct:=N,bk:=D.nx} σ2 H2):=by
 refine⟨fun j m σ H=>m=kvs.length-j/\j<=kvs.length/\Pv j σ H,⟨_,rfl,Bz _,h0⟩,?_⟩;rintro j m σ H⟨rfl,hj,p⟩;by_cases hlt:j<kvs.length
 ·refine .inr ⟨⟨hk _ _ _ p,hlt⟩,Pv (j+1),fun σ' H' p'=>⟨kvs.length-(j+1),by omega,rfl,hlt,p'⟩,?_⟩;rintro x H'⟨rfl,k,y,b,e1,rfl,e3⟩;exact hs j k y b σ _ e1 e3 p
 ·have e:j=kvs.length:=by omega
  subst e;exact .inl ⟨⟨hk _ _ _ p,Ac _⟩,hd σ H p⟩
theorem comp_x2{K:Az}{J:It}{Ok:Hp->Prop}{L:List V}{tf:TT}{te:TE}{D:A7}{σ0 capv:St}{H1:Hp}{Q:VK}(hσ:σ0=none::none::capv)(G:Gives J Ok L)(hL:L.length<=sizeLine)(hD:H1 D=none)(hOk:∀H,Same H1 H->Ok H)(X Y:Nat->V)(hXY:∀(i:Nat)x,L[i]?=some x->∃q,x= .ref q/\H1 q=some (.tup [X i,Y i]))(p:Nat->Bool)(Rel:Hp->Nat->V->Prop)
  (hm:∀H H' i v,Same H H'->Rel H i v->Rel H' i v) (hw:∀H i v l l',v≠.ref D->H D=some (.lst l)->Rel H i v->Rel (upd H D (.lst l')) i v)
  (ht:∀i,i<L.length->∀H R,Same H1 H->(∀H',Same H H'->R (p i) H')->tf (some (X i)::some (Y i)::capv) H R)
  (he:∀i,i<L.length->p i=true->∀H R,Same H1 H->H D≠none->(∀H' v,Same H H'->v≠.ref D->Rel H' i v->R v H')->te (some (X i)::some (Y i)::capv) H R)
  (hd:∀H ys,Same H1 H->H D=some (.lst ys)->Bv (fun i y=>y≠.ref D/\Rel H i y) ((A4 L.length).filter p) ys->Q (.ref D) H):
  CompW J D σ0 H1 (gTup K 2 (gCons (gName 0) (gCons (gName 1) gNil))) tf te Q:=by
 subst hσ;refine zhv G (fun i xs σ H=>(∃o1 o2,σ=o1::o2::capv)/\Same H1 H/\H D=some (.lst xs)/\Bv (fun i y=>y≠.ref D/\Rel H i y) ((A4 i).filter p) xs) ⟨⟨none,none,rfl⟩,Same.new hD,zad,.nil⟩ (fun i xs σ H _ h=>hOk H h.2.1) ?_ ?_
 ·rintro i x xs σ H hi hx⟨⟨o1,o2,rfl⟩,s,e,hr⟩;obtain⟨qx,rfl,hqx⟩:=hXY i x hx;refine⟨qx,[X i,Y i],rfl,SqT.of (s _ _ hqx),rfl,_,_,rfl,_,_,rfl,rfl,?_⟩;show tf (some (X i)::some (Y i)::capv) H _;refine ht i hi H _ s fun H' s'=>?_;have hxl:xs.length<=i:=by
   rw[<-Bw hr];exact Bm (Bu _ _) (by rw[Am];omega)
  have efil:(A4 (i+1)).filter p=(A4 i).filter p++if p i=true then[i] else[]:=by
   rw[Cw,C0];congr 1;rw[By,F0]
  cases hp:p i with
  |true=>
   rw[if_pos rfl];refine he i hi hp H' _ (s.trans s') (by rw[s' _ _ e];exact nofun) fun H2 v s2 hv rv=>?_;have e2:=s2 _ _ (s' _ _ e);refine CNext.of hi hL e2 hxl ⟨⟨_,_,rfl⟩,((s.trans s').trans s2).put hD,zad,?_⟩;rw[efil,if_pos hp];exact Ej (Bv.mapP hr fun j y z=>⟨z.1,hw _ _ _ _ _ z.1 e2 (hm _ _ _ _ (s'.trans s2) z.2)⟩) ⟨hv,hw _ _ _ _ _ hv e2 rv⟩
  |false=>
   rw[if_neg Ah];refine CSkip.of (xs:=xs) hi ⟨⟨_,_,rfl⟩,s.trans s',s' _ _ e,?_⟩;rw[efil,if_neg (by rw[hp];exact Ah),Ci];exact Bv.mapP hr fun j y z=>⟨z.1,hm _ _ _ _ s' z.2⟩
 ·rintro xs σ H⟨_,s,e,hr⟩;exact hd H xs s e hr
theorem comp_i2{K:Az}{J:It}{Ok:Hp->Prop}{L:List V}{tf:TT}{te:TE}{D:A7}{σ0 capv:St}{H1:Hp}{Q:VK}(hσ:σ0=none::none::capv)(G:Gives J Ok L)(hL:L.length<=sizeLine)(hD:H1 D=none)(hOk:∀H,Same H1 H->Ok H)(X Y:Nat->V)(hXY:∀(i:Nat)x,L[i]?=some x->∃q,x= .ref q/\H1 q=some (.tup [X i,Y i]))(p:Nat->Bool)(F:Nat->V)(hF:∀i,i<L.length->p i=true->F i≠.ref D)
  (ht:∀i,i<L.length->∀H R,Same H1 H->(∀H',Same H H'->R (p i) H')->tf (some (X i)::some (Y i)::capv) H R)
  (he:∀i,i<L.length->p i=true->∀H R,Same H1 H->(∀H',Same H H'->R (F i) H')->te (some (X i)::some (Y i)::capv) H R)
  (hd:∀H,Same H1 H->H D=some (.lst (((A4 L.length).filter p).map F))->Q (.ref D) H):
  CompW J D σ0 H1 (gTup K 2 (gCons (gName 0) (gCons (gName 1) gNil))) tf te Q:=by
 refine comp_x2 hσ G hL hD hOk X Y hXY p (fun _ i v=>v=F i) (fun _ _ _ _ _ h=>h) (fun _ _ _ _ _ _ _ h=>h) ht (fun i hi hp H R s _ h=>he i hi hp H R s fun H' s'=>h H' _ s' (hF i hi hp) rfl) fun H ys s e pr=>hd H s ?_;rw[e];have:∀{l:List Nat}{m:List V},Bv (fun i y=>y≠.ref D/\y=F i) l m->m=l.map F:=by
  intro l m q
  induction q with
  |nil=>rfl
  |cons h _ ih=>rw[An,<-ih,h.2]
 rw[this pr]
theorem GoesR.nth{H:Hp}{vs:List V}{gs:List (Str×List Int)}(r:GoesR H vs gs){i:Nat}{x:V}(h:vs[i]?=some x):∃q t,x= .ref q/\H q=some (.tup [.str (gs.getD i ("",[])).1,.ref t])/\H t=some (.tup ((gs.getD i ("",[])).2.map V.int))/\i<gs.length:=by
 have hi:i<gs.length:=by rw[<-r.length];exact(Ag.mp h).1
 obtain⟨q,t,e1,e2,e3⟩:=r.get (A5 hi);rw[h] at e1
 cases e1
 refine⟨q,t,rfl,?_,?_,hi⟩
 ·rw[A8,A5 hi];exact e2
 ·rw[A8,A5 hi];exact e3
noncomputable def tupY(H:Hp)(vs:List V)(i:Nat):V:=match vs[i]? with
 |some (.ref q)=>match H q with
  |some (.tup [_,y])=>y
  |_=>.non
 |_=>.non
theorem zgw{H:Hp}{vs:List V}{i:Nat}{q:A7}{x y:V}(h1:vs[i]?=some (.ref q))(h2:H q=some (.tup [x,y])):tupY H vs i=y:=by
 unfold tupY;rw[h1];simp only[h2]
theorem pg_tup'{X:Cx}{pos:Pos}(K:Az)(hK:X.K=K){es:List Ce}{k:Nat}{t:TGs}{n:Nat}(hc:X.calm=true)(h:PGs X es t)
  (hn:(assignEach es X.env).length=n:=by rfl) (hst:(assignEach es X.env).findIdx? (·.1)=none:=by rfl):PG X (.Tuple es k pos) (gTup K n t):=by
 subst hK;exact zdG hc h hn hst
noncomputable def ind(b:Bool):Nat:=if b=true then 1 else 0
noncomputable def sumR(n:Nat)(g:Nat->Nat):Nat:=((A4 n).map g).sum
theorem zeS(g:Nat->Nat):sumR 0 g=0:=rfl
theorem za9(n:Nat)(g:Nat->Nat):sumR (n+1) g=sumR n g+g n:=by
 unfold sumR;rw[Cw,B1,Il];simp
theorem zd6{n:Nat}{g h:Nat->Nat}(e:∀i,i<n->g i=h i):sumR n g=sumR n h:=by
 unfold sumR;congr 1;exact Be fun i hi=>e i (Ay.mp hi)
theorem zfP{n:Nat}{g:Nat->Nat}(e:∀i,i<n->g i=0):sumR n g=0:=by
 induction n with
 |zero=>rfl
 |succ n ih=>rw[za9,ih fun i hi=>e i (by omega),e n (by omega)]
theorem sumR_add(n:Nat)(g h:Nat->Nat):sumR n (fun i=>g i+h i)=sumR n g+sumR n h:=by
 induction n with
 |zero=>rfl
 |succ n ih=>rw[za9,za9,za9,ih];omega
theorem sumR_swap(n m:Nat)(g:Nat->Nat->Nat):sumR n (fun i=>sumR m (g i))=sumR m fun j=>sumR n fun i=>g i j:=by
 induction n with
 |zero=>exact(zfP fun _ _=>rfl).symm
 |succ n ih=>
  rw[za9,ih,<-sumR_add];exact zd6 fun j _=>by rw[za9]
theorem sumR_one{n j0:Nat}{p:Nat->Bool}{g:Nat->Nat}(hj:j0<n)(hp:∀j,j<n->(p j=true↔j=j0)):sumR n (fun j=>if p j=true then g j else 0)=g j0:=by
 induction n with
 |zero=>omega
 |succ n ih=>
  rw[za9];by_cases e:j0=n
  ·subst e;rw[zfP fun i hi=>if_neg (fun z=>by have:=(hp i (by omega)).mp z;omega),if_pos ((hp j0 (by omega)).mpr rfl),Fg]
  ·rw[ih (by omega) fun j hj'=>hp j (by omega),if_neg (fun z=>e ((hp n (by omega)).mp z).symm),Gv]
theorem mod_cancel{a b t n:Nat}(h:(a+t)%n=(b+t)%n):a%n=b%n:=by
 have h1:=Is (a+t) n;have h2:=Is (b+t) n;rcases Mc a b with z|z
 ·obtain⟨m,hm⟩:=Oh (N1 (c:=n) (show a+t<=b+t by omega));have:b=a+n*m:=by rw[<-hm,Mz] at h2;omega
  rw[this,Ld]
 ·obtain⟨m,hm⟩:=Oh (N1 (c:=n) (show b+t<=a+t by omega));have:a=b+n*m:=by rw[<-hm,Mz] at h1;omega
  rw[this,Ld]
theorem round_one{sp t K:Nat}(hsp:1<=sp)(hK:t<=K){g:Nat->Nat}(per:∀k,g (k+sp)=g k):sumR sp (fun j=>if decide ((j+t)%sp=K%sp)=true then g j else 0)=g (K-t):=by
 have per2:∀n k,g (k+n*sp)=g k:=by
  intro n
  induction n with
  |zero=>intro k;simp
  |succ n ih=>intro k;rw[M9,<-Du,per,ih]
 have hm:g (K-t)=g ((K-t)%sp):=by
  have:=per2 ((K-t) / sp) ((K-t)%sp);rw[<-this];congr 1;have:=Nat.mod_add_div (K-t) sp;rw[Mb] at this;exact this.symm
 rw[hm];refine sumR_one (Ij _ (by omega)) fun j hj=>?_;rw[decide_eq_true_eq];constructor
 ·intro h;have h1:(j+t)%sp=((K-t)+t)%sp:=by rw[Nat.sub_add_cancel hK];exact h
  have h2:j%sp=(K-t)%sp:=mod_cancel h1;rw[Es hj] at h2;exact h2
 ·intro h;rw[h,Kn,Js hK]
structure Tile(sp:Nat)(al ta:Nat->Nat->Bool):Prop where
 pos:1<=sp
 pa:∀k d,al (k+sp) d=al k d
 pt:∀k d,ta (k+sp) d=ta k d
 la:∀k d,7<=d->al k d=false
 lt:∀k d,8<=d->ta k d=false
 one:∀k,ind (al k 0)+ind (ta k 0)=1
 step:∀k d,ind (al (k+1) d)=ind (al k (d+1))+ind (ta k (d+1))
namespace Tile
variable{sp:Nat}{al ta:Nat->Nat->Bool}
theorem back(T:Tile sp al ta)(k:Nat):∀n d,ind (al (k+n) d)=ind (al k (d+n))+sumR n fun i=>ind (ta (k+i) (d+n-i))
 |0,d=>by simp[zeS]
 |n+1,d=>by
  rw[<-Du,T.step,T.back k n (d+1),za9];rw[show d+1+n=d+(n+1) by omega,show d+(n+1)-n=d+1 by omega];omega
theorem back8(T:Tile sp al ta)(M d:Nat):ind (al (M+8) d)=sumR 8 fun i=>ind (ta (M+i) (d+8-i)):=by
 rw[T.back M 8 d,T.la M (d+8) (by omega)];show 0+_=_;rw[Fg]
theorem under(T:Tile sp al ta){r:Nat}(hr:r<sp):sumR sp (fun j=>sumR 8 fun t=>if decide ((j+t)%sp=r)=true then ind (ta j t) else 0)=1:=by
 rw[sumR_swap];have h8:8<=8*sp:=by have:=T.pos;omega
 have e:∀t,t<8->sumR sp (fun j=>if decide ((j+t)%sp=r)=true then ind (ta j t) else 0)=ind (ta (r+8*sp-t) t):=fun t ht=>by
  have:=round_one (t:=t) (K:=r+8*sp) T.pos (by omega) (g:=fun j=>ind (ta j t)) (fun k=>by show ind (ta (k+sp) t)=ind (ta k t);rw[T.pt]);rw[Nat.add_mul_mod_self_right,Es hr] at this;exact this
 rw[zd6 e];have h1:=T.one (r+8*sp);obtain⟨M,hM⟩:∃M,r+8*sp=M+8:=⟨r+8*sp-8,by omega⟩;rw[hM] at h1⊢;rw[T.back8] at h1;have h9:=T.lt M 8 (by omega);simp only[za9,zeS,Fg,Gv,K1] at h1⊢;rw[h9] at h1;have z:ind false=0:=rfl;rw[z] at h1;rw[show M+8-1=M+7 by omega,show M+8-2=M+6 by omega,show M+8-3=M+5 by omega,show M+8-4=M+4 by omega,show M+8-5=M+3 by omega,show M+8-6=M+2 by omega,show M+8-7=M+1 by omega];rw[show 8-1=7 by omega,show 8-2=6 by omega,show 8-3=5 by omega,show 8-4=4 by omega,show 8-5=3 by omega,show 8-6=2 by omega,show 8-7=1 by omega] at h1;omega
end Tile
theorem zfI{C:Combs}{row:List Bool}{s0 st n:Nat}(h:wk C row s0 n=wk C row s0 st):∀j,wk C row s0 (n+j)=wk C row s0 (st+j)
 |0=>h
 |j+1=>by
  show((nx C row (wk C row s0 (n+j))).map (·.2.toNat)).getD 0=((nx C row (wk C row s0 (st+j))).map (·.2.toNat)).getD 0;rw[zfI h j]
theorem LineD.per{C:Combs}{sp:Nat}{f:Nat->Nat}{nm:Nat->Str}(h:LineD C sp f nm)(k:Nat):f (k+sp)=f k/\nm (k+sp)=nm k:=by
 obtain⟨m',s0,st,n,a1,a2,a3,a4,a5,a6,a7,a8,rfl,rfl,rfl⟩:=h;have e:wk C (rowAt C m') s0 (st+(k+(n-st)))=wk C (rowAt C m') s0 (st+k):=by
  rw[show st+(k+(n-st))=n+k by omega];exact zfI a7 k
 refine⟨e,?_⟩;show wn C _ s0 (st+(k+(n-st)))=wn C _ s0 (st+k);unfold wn;rw[e]
theorem LineD.go{C:Combs}(g:GC C){sp:Nat}{f:Nat->Nat}{nm:Nat->Str}(h:LineD C sp f nm)(k:Nat):
  ((0:Int)∈aheadOf (f k:Int)/\nm k=A2 ""/\aheadOf (f (k+1):Int)=afterOf (aheadOf (f k:Int)) [])\/((0:Int)∉aheadOf (f k:Int)/\∃c∈C,nm k=c.1/\meets (aheadOf (f k:Int)) c.2=false/\aheadOf (f (k+1):Int)=afterOf (aheadOf (f k:Int)) c.2):=by
 obtain⟨hlt,hm⟩:=h.step g k;rw[<-za6 hlt g] at hm;obtain⟨p,hp,e⟩:=Aa.mp hm;obtain⟨_,k2,k3,_⟩:=zbw hlt g hp;injection e with e1 e2;have e3:p.2=aheadOf (f (k+1):Int):=by
  have:=zde k3;rw[this,e2];congr 1
 unfold goesOf at hp;by_cases h0:(0:Int)∈aheadOf (f k:Int)
 ·rw[if_pos h0] at hp;have hp:=A9.mp hp;refine .inl ⟨h0,?_,?_⟩
  ·rw[<-e1,hp]
  ·rw[<-e3,hp]
 ·rw[if_neg h0] at hp;obtain⟨c,hc,rfl⟩:=Aa.mp hp;obtain⟨hc1,hc2⟩:=Aq.mp hc;exact .inr ⟨h0,c,hc1,e1.symm,by simpa using hc2,e3.symm⟩
noncomputable def tkOf(C:Combs)(x:Str):List Int:=(cGet C x).getD []
theorem zbk{ah ts:List Int}(ha:∀t∈ah,0<=t/\t<=6)(ht:∀t∈ts,0<=t/\t<=7)(d:Nat):(d:Int)∈afterOf ah ts↔((d+1:Nat):Int)∈ah\/((d+1:Nat):Int)∈ts:=by
 unfold afterOf;rw[Aa];constructor
 ·rintro⟨y,hy,e⟩;obtain⟨h1,h2⟩:=Aq.mp hy;have h3:=(mem_canon.mp h1).1;rw[show((d+1:Nat):Int)=y by omega];exact Ap.mp h3
 ·intro h;refine⟨((d+1:Nat):Int),Aq.mpr ⟨mem_canon.mpr ⟨Ap.mpr h,?_⟩,decide_eq_true (by omega)⟩,by omega⟩;rcases h with h|h
  ·have:=ha _ h;omega
  ·exact ht _ h
theorem LineD.tile{C:Combs}(g:GC C)(nd:(C.map (·.1)).Nodup)(ne:∀c∈C,c.1≠A2 ""){sp:Nat}{f:Nat->Nat}{nm:Nat->Str}(h:LineD C sp f nm):
  Tile sp (fun k d=>decide ((d:Int)∈aheadOf (f k:Int))) (fun k t=>decide ((t:Int)∈tkOf C (nm k))):=by
 have hnone:cGet C (A2 "")=none:=get_none.mpr fun z=>by
  obtain⟨c,hc,e⟩:=Aa.mp z;exact ne c hc e
 have hin:∀k t,t∈tkOf C (nm k)->0<=t/\t<=7:=fun k t ht=>by
  unfold tkOf at ht
  cases e:cGet C (nm k) with
  |none=>rw[e] at ht;cases ht
  |some ts=>rw[e] at ht;exact zbF (g _ (zbM e)) t ht
 refine⟨h.span.1,fun k d=>by rw[(h.per k).1],fun k d=>by rw[(h.per k).2],fun k d hd=>?_,fun k d hd=>?_,fun k=>?_,fun k d=>?_⟩
 ·exact decide_eq_false fun z=>by have:=(mem_ahead.mp z).2.1;omega
 ·exact decide_eq_false fun z=>by have:=(hin k _ z).2;omega
 ·rcases h.go g k with⟨h0,e1,_⟩|⟨h0,c,hc,e1,_⟩
  ·have:(0:Int)∉tkOf C (nm k):=by unfold tkOf;rw[e1,hnone];exact nofun
   rw[decide_eq_true (show((0:Nat):Int)∈_ from h0),decide_eq_false (show¬((0:Nat):Int)∈_ from this)];rfl
  ·have:(0:Int)∈tkOf C (nm k):=by unfold tkOf;rw[e1,zbj nd hc];exact zbU (g c hc)
   rw[decide_eq_false (show¬((0:Nat):Int)∈_ from h0),decide_eq_true (show((0:Nat):Int)∈_ from this)];rfl
 ·rcases h.go g k with⟨h0,e1,e2⟩|⟨h0,c,hc,e1,hmt,e2⟩
  ·have:((d+1:Nat):Int)∉tkOf C (nm k):=by unfold tkOf;rw[e1,hnone];exact nofun
   rw[e2,decide_eq_false this];have:=zbk (ah:=aheadOf (f k:Int)) (ts:=[]) za1 (by simp) d;have e:decide ((d:Int)∈afterOf (aheadOf (f k:Int)) [])=decide (((d+1:Nat):Int)∈aheadOf (f k:Int)):=by
    rw[decide_eq_decide,this];simp
   rw[e];rfl
  ·have ht:tkOf C (nm k)=c.2:=by unfold tkOf;rw[e1,zbj nd hc];rfl
   rw[e2,ht];have hm:=zbk (ah:=aheadOf (f k:Int)) (ts:=c.2) za1 (zbF (g c hc)) d;have hx:=meets_false.mp hmt;by_cases b1:((d+1:Nat):Int)∈aheadOf (f k:Int)
   ·have b2:((d+1:Nat):Int)∉c.2:=fun z=>hx _ z b1;rw[decide_eq_true (hm.mpr (.inl b1)),decide_eq_true b1,decide_eq_false b2];rfl
   ·by_cases b2:((d+1:Nat):Int)∈c.2
    ·rw[decide_eq_true (hm.mpr (.inr b2)),decide_eq_false b1,decide_eq_true b2];rfl
    ·rw[decide_eq_false (fun z=>by rcases hm.mp z with z|z;exact b1 z;exact b2 z),decide_eq_false b1,decide_eq_false b2];rfl
theorem tk_list{C:Combs}(g:GC C)(x:Str):tkOf C x=((A4 8).filter fun(t:Nat)=>decide ((t:Int)∈tkOf C x)).map fun i=>((i:Nat):Int):=by
 cases e:cGet C x with
 |none=>
  have:tkOf C x=[]:=by unfold tkOf;rw[e];rfl
  rw[this];simp
 |some ts=>
  have:tkOf C x=ts:=by unfold tkOf;rw[e];rfl
  rw[this];obtain⟨fb,rfl,_⟩:=g _ (zbM e);congr 1;refine Ea fun t ht=>?_;rw[B7,decide_eq_true_eq,Aa];constructor
  ·intro h;exact⟨t,Aq.mpr ⟨ht,h⟩,rfl⟩
  ·rintro⟨i,hi,e⟩;have:i=t:=by omega
   rw[<-this];exact(Aq.mp hi).2
theorem zen(fb:Nat->Bool)(q:Nat->Nat)(r:Nat):∀n,(((A4 n).filter fb).map q).count r=sumR n fun t=>if decide (q t=r)=true then ind (fb t) else 0
 |0=>rfl
 |n+1=>by
  rw[Cw,C0,B1,Fv,zen fb q r n,za9];congr 1;rw[By,F0]
  cases e:fb n with
  |false=>simp[ind]
  |true=>
   by_cases h:q n=r
   ·simp[h,ind]
   ·simp[h,ind]
theorem sum_flat(l:List Nat)(g:Nat->List Nat)(r:Nat):(l.flatMap g).count r=(l.map fun a=>(g a).count r).sum:=by
 induction l with
 |nil=>rfl
 |cons a l ih=>rw[Fs,Fv,An,Dk,ih]
theorem tk_perm{C C':Combs}(p:C.Perm C')(nd:(C.map (·.1)).Nodup)(x:Str):cGet C x=cGet C' x:=by
 have nd':(C'.map (·.1)).Nodup:=(p.map _).nodup_iff.mp nd
 cases e:cGet C x with
 |none=>
  symm;rw[get_none] at e⊢;exact fun z=>e ((p.map _).mem_iff.mpr z)
 |some ts=>exact(zbj nd' (p.mem_iff.mp (zbM e))).symm
noncomputable def remOf(ks:Combs)(nm:Nat->Str)(sp j:Nat):List Nat:=(tkOf ks (nm j)).map fun t=>(((j:Int)+t)%(sp:Int)).toNat
noncomputable def laid(nm:Nat->Str)(sp:Nat):List Nat:=(A4 sp).filter fun j=>decide (nm j≠A2 "")
theorem sum_filter{l:List Nat}{p:Nat->Bool}{h:Nat->Nat}(e:∀x∈l,p x=false->h x=0):((l.filter p).map h).sum=(l.map h).sum:=by
 induction l with
 |nil=>rfl
 |cons x l ih=>
  rw[By];have ih:=ih fun y hy=>e y (Ab _ hy)
  cases hp:p x with
  |true=>rw[if_pos rfl,An,An,Dk,Dk,ih]
  |false=>rw[if_neg Ah,An,Dk,ih,e x Aj hp,Fg]
theorem int_mod(j t sp:Nat):((((j:Int)+(t:Int))%(sp:Int)).toNat)=(j+t)%sp:=by
 rw[show(j:Int)+(t:Int)=((j+t:Nat):Int) by omega,<-O4,Cj]
theorem zc1{ks:Combs}(g:GC ks)(nm:Nat->Str)(sp j:Nat):remOf ks nm sp j=((List.range 8).filter fun(t:Nat)=>decide ((t:Int)∈tkOf ks (nm j))).map fun t=>(j+t)%sp:=by
 unfold remOf
 conv=>lhs;rw[tk_list g (nm j)]
 rw[As];exact Be fun t _=>int_mod j t sp
theorem over_one{ks:Combs}(g:GC ks)(nd:(ks.map (·.1)).Nodup)(ne:∀c∈ks,c.1≠A2 ""){sp:Nat}{f:Nat->Nat}{nm:Nat->Str}(h:LineD ks sp f nm){r:Nat}(hr:r<sp):((laid nm sp).flatMap (remOf ks nm sp)).count r=1:=by
 have T:=h.tile g nd ne;rw[sum_flat];unfold laid;rw[sum_filter]
 ·have e:(List.range sp).map (fun j=>(remOf ks nm sp j).count r)=(List.range sp).map fun j=>sumR 8 fun t=>if decide ((j+t)%sp=r)=true then ind (decide ((t:Int)∈tkOf ks (nm j))) else 0:=by
   refine Be fun j _=>?_;rw[zc1 g,zen]
  rw[e];exact T.under hr
 ·intro j _ hj;have hj:nm j=A2 "":=by simpa using hj
  have:tkOf ks (nm j)=[]:=by
   unfold tkOf;rw[hj,get_none.mpr fun z=>by obtain⟨c,hc,e⟩:=Aa.mp z;exact ne c hc e];rfl
  unfold remOf;rw[this];rfl
theorem KindsL.getG{G:A7->Prop}{H:Hp}:∀{vs:List V}{ks:List (Str×List Int)}{i:Nat}{v:V},KindsL G H vs ks->vs[i]?=some v->∃k q t,ks[i]?=some k/\v= .ref q/\H q=some (.lst [.str k.1,.ref t])/\H t=some (.lst (k.2.map V.int))/\G t
 |[],[],_,_,_,e=>by simp at e
 |_::_,k::_,0,_,⟨⟨q,t,e,h1,h2,g1,g2⟩,_⟩,z=>by
  simp at z;subst z;exact⟨k,q,t,rfl,e,h1,h2,g2⟩
 |_::_,_::_,i+1,_,⟨_,b⟩,z=>by
  obtain⟨k,q,t,h⟩:=KindsL.getG (i:=i) b (by simpa using z);exact⟨k,q,t,by simpa using h⟩
 |[],_::_,_,_,x,_=>x.elim
 |_::_,[],_,_,x,_=>x.elim
theorem KindsL.live{G:A7->Prop}{H:Hp}:∀{vs:List V}{ks:List (Str×List Int)},KindsL G H vs ks->KindsL (fun x=>H x≠none) H vs ks
 |[],[],_=>trivial
 |_::_,_::_,⟨⟨q,t,e,h1,h2,_,_⟩,r⟩=>⟨⟨q,t,e,h1,h2,(show H q≠none by rw[h1];exact nofun),(show H t≠none by rw[h2];exact nofun)⟩,KindsL.live r⟩
 |[],_::_,x=>x.elim
 |_::_,[],x=>x.elim
theorem Drawn.live{G:A7->Prop}{H:Hp}{vs:List V}{ks:List (Str×List Int)}(d:Drawn G H vs ks):Drawn (fun x=>H x≠none) H vs ks:=⟨d.rows.live,d.nd,d.good⟩
noncomputable abbrev gallopS:Bool->Keyed->Array Keyed->Nat->Nat->Nat->StateT SortSt Sem (Option Nat):=sortPriv%PySem.Builtin.gallop
structure Ranks(prog:Aw)(w:Bq)(A:Bi)(E:A1->A6->Prop)(s:A6)(kd:F8)(S:B0->Prop)(rk:B0->Int):Prop where
 ask:∀{x y:B0}{st:C2}{Q:Option Bool->C2->Prop},S x->S y->kindOf st=kd->Q (some (decide (rk x<rk y))) st->wpS (model prog w) A E s (lt' x y) Q st
section
variable{prog:Aw}{w:Bq}{A:Bi}{E:A1->A6->Prop}{s:A6}{kd:F8}{S:B0->Prop}{rk:B0->Int}
noncomputable def kAt(rk:B0->Int)(arr:Array B0)(i:Nat):Int:=match arr[i]? with
 |some x=>rk x
 |none=>0
theorem za3{arr:Array B0}{i:Nat}(h:i<arr.size):kAt rk arr i=rk arr[i]:=by unfold kAt;rw[He h]
theorem zaM{arr:Array B0}{i:Nat}{Q:B0->C2->Prop}{st:C2}(h:i<arr.size)(q:Q arr[i] st):wpS (model prog w) A E s (elem' arr i) Q st:=by
 rw[elem'_eq,He h];exact Ar q
noncomputable def Up2(rk:B0->Int)(arr:Array B0)(lo hi:Nat):Prop:=∀i j,lo<=i->i<=j->j<hi->kAt rk arr i<=kAt rk arr j
theorem zbO(C:Ranks prog w A E s kd S rk){left:Bool}{key:B0}{arr:Array B0}{b n hint:Nat}{Q:Option Nat->C2->Prop}{st:C2}(hk:S key)(hS:∀i(h:i<arr.size),b<=i->i<b+n->S arr[i])(sz:b+n<=arr.size)(hh:hint<n)(up:Up2 rk arr b (b+n))(hst:kindOf st=kd)
  (q:∀k,k<=n->(∀i,i<k->(if left=true then kAt rk arr (b+i)<rk key else kAt rk arr (b+i)<=rk key))->(∀i,k<=i->i<n->(if left=true then rk key<=kAt rk arr (b+i) else rk key<kAt rk arr (b+i)))->Q (some k) st):
  wpS (model prog w) A E s (gallopS left key arr b n hint) Q st:=by
 obtain⟨P,hP⟩:∃P:Nat->Bool,P=fun i=>if left=true then decide (kAt rk arr (b+i)<rk key) else decide (kAt rk arr (b+i)<=rk key):=⟨_,rfl⟩
 have mono:∀i j,i<=j->j<n->P j=true->P i=true:=fun i j hij hj h=>by
  have:=up (b+i) (b+j) (by omega) (by omega) (by omega);rw[hP] at h⊢;dsimp only at h⊢
  cases left
  ·simp at h⊢;omega
  ·simp at h⊢;omega
 have q':∀k,k<=n->(∀i,i<k->P i=true)->(∀i,k<=i->i<n->P i=false)->Q (some k) st:=fun k h1 h2 h3=>by
  refine q k h1 (fun i hi=>?_) (fun i h4 h5=>?_)
  ·have:=h2 i hi;rw[hP] at this
   cases left<;>simpa using this
  ·have:=h3 i h4 h5;rw[hP] at this
   cases left<;>simpa using this
 have bey:∀i,i<n->∀(Q':Option Bool->C2->Prop),Q' (some (P i)) st->wpS (model prog w) A E s (do
   let x<-elem' arr (b+i)
   if left=true then lt' x key else do
    let r<-lt' key x
    pure (Mm (fun x=> !x) r)) Q' st:=fun i hi Q' h=>by
  refine Al (zaM (by omega) ?_);have hSi:=hS (b+i) (by omega) (by omega) (by omega);have e:=za3 (rk:=rk) (show b+i<arr.size by omega)
  cases hl:left with
  |true=>
   rw[if_pos rfl];refine C.ask hSi hk hst ?_;rw[hP,hl] at h;simpa[e] using h
  |false=>
   rw[if_neg Ah];refine Al (C.ask hk hSi hst (Ar ?_));rw[hP,hl] at h;have e2:(!decide (rk key<rk arr[b+i]))=decide (kAt rk arr (b+i)<=rk key):=by
    rw[e,<-decide_not,decide_eq_decide];omega
   show Q' (some (!decide (rk key<rk arr[b+i]))) st;rw[e2];simpa using h
 have bin:∀lo hi,lo<=hi->hi<=n->(∀i,i<lo->P i=true)->(∀i,hi<=i->i<n->P i=false)->∀(F:Nat->Option (Option Nat)×Nat×Nat->StateT C2 Sem (ForInStep (Option (Option Nat)×Nat×Nat))),
   (∀x lo hi,lo<hi->hi<=n->∀R:ForInStep (Option (Option Nat)×Nat×Nat)->C2->Prop,R (.yield (none,if P (lo+(hi-lo) / 2)=true then(lo+(hi-lo) / 2+1,hi) else(lo,lo+(hi-lo) / 2))) st->wpS (model prog w) A E s (F x (none,lo,hi)) R st)->
   (∀x lo hi,hi<=lo->∀R:ForInStep (Option (Option Nat)×Nat×Nat)->C2->Prop,R (.done (none,lo,hi)) st->wpS (model prog w) A E s (F x (none,lo,hi)) R st)->
   wpS (model prog w) A E s (forIn [:n] (none,lo,hi) F) (fun c st'=>st'=st/\∃k,c.1=none/\c.2.2=k/\k<=n/\(∀i,i<k->P i=true)/\(∀i,k<=i->i<n->P i=false)) st:=fun lo hi h1 h2 h3 h4 F f1 f2=>by
  refine D0 (I:=fun x c st'=>st'=st/\∃lo hi,c=(none,lo,hi)/\lo<=hi/\hi<=n/\hi-lo+x<=n/\(∀i,i<lo->P i=true)/\(∀i,hi<=i->i<n->P i=false)) ?_ ?_ ⟨rfl,lo,hi,rfl,h1,h2,by omega,h3,h4⟩
  ·rintro x c st' _ hx⟨rfl,lo,hi,rfl,a1,a2,a3,a4,a5⟩;by_cases e:lo<hi
   ·refine f1 x lo hi e a2 _ ?_;dsimp only
    cases hm:P (lo+(hi-lo) / 2) with
    |true=>exact⟨rfl,lo+(hi-lo) / 2+1,hi,rfl,by omega,a2,by omega,fun i hi'=>mono i (lo+(hi-lo) / 2) (by omega) (by omega) hm,a5⟩
    |false=>
     refine⟨rfl,lo,lo+(hi-lo) / 2,rfl,by omega,by omega,by omega,a4,fun i h6 h7=>?_⟩
     cases hz:P i with
     |false=>rfl
     |true=>rw[mono _ i h6 h7 hz] at hm;cases hm
   ·exact f2 x lo hi (by omega) _ ⟨rfl,hi,rfl,rfl,a2,fun i hi'=>a4 i (by omega),a5⟩
  ·rintro c st'⟨rfl,lo,hi,rfl,a1,a2,a3,a4,a5⟩;exact⟨rfl,hi,rfl,rfl,a2,fun i hi'=>a4 i (by omega),a5⟩
 refine Al (bey hint hh _ ?_);dsimp only
 cases hr:P hint with
 |true=>
  rw[if_pos rfl];refine Al (Ef (D0 (I:=fun x c st'=>st'=st/\∃la off,c=(none,la,off)/\la<off/\x+1<=off/\hint+la<n/\P (hint+la)=true) (Q:=fun c st'=>st'=st/\∃la off,c=(none,la,off)/\la<off/\hint+la<n/\P (hint+la)=true/\(n-hint<=off\/(off<n-hint/\P (hint+off)=false))) ?step ?fin ⟨rfl,0,1,rfl,by omega,by omega,by omega,hr⟩) ?post)
  case fin=>
   rintro c st'⟨rfl,la,off,rfl,a1,a2,a3,a4⟩;exact⟨rfl,la,off,rfl,a1,a3,a4,.inl (by omega)⟩
  case step=>
   rintro x c st' _ hx⟨rfl,la,off,rfl,a1,a2,a3,a4⟩;dsimp only;by_cases e:off>=n-hint
   ·rw[if_pos e];exact Ar ⟨rfl,la,off,rfl,a1,a3,a4,.inl e⟩
   ·rw[if_neg e];refine Al (bey (hint+off) (by omega) _ ?_);dsimp only
    cases hm:P (hint+off) with
    |true=>
     rw[if_neg (by decide)];exact Ar ⟨rfl,off,2*off+1,rfl,by omega,by omega,by omega,hm⟩
    |false=>
     rw[if_pos (by decide)];exact Ar ⟨rfl,la,off,rfl,a1,a3,a4,.inr ⟨by omega,hm⟩⟩
  case post=>
   rintro c st'⟨rfl,la,off,rfl,a1,a3,a4,a5⟩;dsimp only;refine Al (Ef (bin (hint+la+1) (hint+min off (n-hint)) (by omega) (by omega) (fun i hi=>mono i (hint+la) (by omega) a3 a4) (fun i h6 h7=>?_) _ (fun x lo hi h1 h2 R hR=>?_) fun x lo hi h1 R hR=>?_) (by rintro⟨r,lo',hi'⟩st2⟨rfl,k,e1,e2,h1,h2,h3⟩;dsimp only at e1 e2⊢;subst e1 e2;exact Ar (q' _ h1 h2 h3)))
   ·rcases a5 with z|⟨z1,z2⟩
    ·omega
    ·cases hz:P i with
     |false=>rfl
     |true=>rw[mono (hint+off) i (by omega) h7 hz] at z2;cases z2
   ·dsimp only;rw[if_neg (by omega)];refine Al (bey _ (by omega) _ ?_);dsimp only
    cases hm:P (lo+(hi-lo) / 2) with
    |true=>rw[if_pos rfl];rw[hm,if_pos rfl] at hR;exact Ar hR
    |false=>rw[if_neg Ah];rw[hm,if_neg Ah] at hR;exact Ar hR
   ·dsimp only;rw[if_pos h1];exact Ar hR
 |false=>
  rw[if_neg Ah];refine Al (Ef (D0 (I:=fun x c st'=>st'=st/\∃la off,c=(none,la,off)/\la<off/\x+1<=off/\la<=hint/\P (hint-la)=false) (Q:=fun c st'=>st'=st/\∃la off,c=(none,la,off)/\la<off/\la<=hint/\P (hint-la)=false/\(hint+1<=off\/(off<hint+1/\P (hint-off)=true))) ?step ?fin ⟨rfl,0,1,rfl,by omega,by omega,by omega,hr⟩) ?post)
  case fin=>
   rintro c st'⟨rfl,la,off,rfl,a1,a2,a3,a4⟩;exact⟨rfl,la,off,rfl,a1,a3,a4,.inl (by omega)⟩
  case step=>
   rintro x c st' _ hx⟨rfl,la,off,rfl,a1,a2,a3,a4⟩;dsimp only;by_cases e:off>=hint+1
   ·rw[if_pos e];exact Ar ⟨rfl,la,off,rfl,a1,a3,a4,.inl e⟩
   ·rw[if_neg e];refine Al (bey (hint-off) (by omega) _ ?_);dsimp only
    cases hm:P (hint-off) with
    |true=>
     rw[if_pos rfl];exact Ar ⟨rfl,la,off,rfl,a1,a3,a4,.inr ⟨by omega,hm⟩⟩
    |false=>
     rw[if_neg Ah];exact Ar ⟨rfl,off,2*off+1,rfl,by omega,by omega,by omega,hm⟩
  case post=>
   rintro c st'⟨rfl,la,off,rfl,a1,a3,a4,a5⟩;dsimp only;refine Al (Ef (bin (hint+1-min off (hint+1)) (hint-la) (by omega) (by omega) (fun i hi=>?_) (fun i h6 h7=>?_) _ (fun x lo hi h1 h2 R hR=>?_) fun x lo hi h1 R hR=>?_) (by rintro⟨r,lo',hi'⟩st2⟨rfl,k,e1,e2,h1,h2,h3⟩;dsimp only at e1 e2⊢;subst e1 e2;exact Ar (q' _ h1 h2 h3)))
   ·rcases a5 with z|⟨z1,z2⟩
    ·omega
    ·exact mono i (hint-off) (by omega) (by omega) z2
   ·cases hz:P i with
    |false=>rfl
    |true=>rw[mono (hint-la) i h6 h7 hz] at a4;cases a4
   ·dsimp only;rw[if_neg (by omega)];refine Al (bey _ (by omega) _ ?_);dsimp only
    cases hm:P (lo+(hi-lo) / 2) with
    |true=>rw[if_pos rfl];rw[hm,if_pos rfl] at hR;exact Ar hR
    |false=>rw[if_neg Ah];rw[hm,if_neg Ah] at hR;exact Ar hR
   ·dsimp only;rw[if_pos h1];exact Ar hR
end
noncomputable abbrev Srt(rk:B0->Int)(l:List B0):Prop:=l.Pairwise fun x y=>rk x<=rk y
structure MI(rk:B0->Int)(la lb out:List B0)(ia ib:Nat):Prop where
 perm:out.Perm (la.take ia++lb.take ib)
 srt:Srt rk out
 low:∀x∈out,(∀y∈la.drop ia,rk x<=rk y)/\∀y∈lb.drop ib,rk x<=rk y
noncomputable def MFin(rk:B0->Int)(la lb res:List B0):Prop:=res.Perm (la++lb)/\Srt rk res
section
variable{rk:B0->Int}{la lb out:List B0}{ia ib:Nat}
theorem zbd{l:List B0}{i:Nat}(h:i<l.length):l.drop i=l[i]::l.drop (i+1):=Hf h
theorem zet{l:List B0}(s:Srt rk l){i:Nat}(h:i<l.length):∀y∈l.drop (i+1),rk l[i]<=rk y:=by
 have:=Bp (Fu i l) s;rw[zbd h] at this;exact(Jo.mp this).1
theorem MI.pushA(m:MI rk la lb out ia ib)(sa:Srt rk la)(h:ia<la.length)(hb:∀y∈lb.drop ib,rk la[ia]<=rk y):MI rk la lb (out++[la[ia]]) (ia+1) ib:=by
 have hd:=zbd h;refine⟨?_,?_,fun x hx=>?_⟩
 ·rw[Cs h];have:=m.perm.append_right [la[ia]];refine this.trans ?_;rw[Av,Av];exact Dg _ E1
 ·refine C3.mpr ⟨m.srt,by simp,fun x hx y hy=>?_⟩;rw[A9.mp hy];exact(m.low x hx).1 _ (by rw[hd];exact Aj)
 ·rcases Ap.mp hx with z|z
  ·exact⟨fun y hy=>(m.low x z).1 y (by rw[hd];exact Ab _ hy),(m.low x z).2⟩
  ·rw[A9.mp z];exact⟨zet sa h,hb⟩
theorem MI.pushB(m:MI rk la lb out ia ib)(sb:Srt rk lb)(h:ib<lb.length)(ha:∀y∈la.drop ia,rk lb[ib]<=rk y):MI rk la lb (out++[lb[ib]]) ia (ib+1):=by
 have hd:=zbd h;refine⟨?_,?_,fun x hx=>?_⟩
 ·rw[Cs h];have:=m.perm.append_right [lb[ib]];rwa[Av] at this
 ·refine C3.mpr ⟨m.srt,by simp,fun x hx y hy=>?_⟩;rw[A9.mp hy];exact(m.low x hx).2 _ (by rw[hd];exact Aj)
 ·rcases Ap.mp hx with z|z
  ·exact⟨(m.low x z).1,fun y hy=>(m.low x z).2 y (by rw[hd];exact Ab _ hy)⟩
  ·rw[A9.mp z];exact⟨ha,zet sb h⟩
theorem MI.moreA(sa:Srt rk la):∀{k ia:Nat}{out:List B0},MI rk la lb out ia ib->ia+k<=la.length->(∀i(h:i<la.length),ia<=i->i<ia+k->∀y∈lb.drop ib,rk la[i]<=rk y)->MI rk la lb (out++(la.drop ia).take k) (ia+k) ib
 |0,ia,out,m,_,_=>by simpa using m
 |k+1,ia,out,m,h,hy=>by
  have m1:=m.pushA sa (by omega) (hy ia (by omega) (Ac _) (by omega));have m2:=MI.moreA sa (k:=k) m1 (by omega) fun i hi h1 h2=>hy i hi (by omega) (by omega);rw[zbd (show ia<la.length by omega),Go];rw[Av,Md,show ia+1+k=ia+(k+1) by omega] at m2;exact m2
theorem MI.moreB(sb:Srt rk lb):∀{k ib:Nat}{out:List B0},MI rk la lb out ia ib->ib+k<=lb.length->(∀i(h:i<lb.length),ib<=i->i<ib+k->∀y∈la.drop ia,rk lb[i]<=rk y)->MI rk la lb (out++(lb.drop ib).take k) ia (ib+k)
 |0,ib,out,m,_,_=>by simpa using m
 |k+1,ib,out,m,h,hy=>by
  have m1:=m.pushB sb (by omega) (hy ib (by omega) (Ac _) (by omega));have m2:=MI.moreB sb (k:=k) m1 (by omega) fun i hi h1 h2=>hy i hi (by omega) (by omega);rw[zbd (show ib<lb.length by omega),Go];rw[Av,Md,show ib+1+k=ib+(k+1) by omega] at m2;exact m2
theorem MI.restA(m:MI rk la lb out ia lb.length)(sa:Srt rk la):MFin rk la lb (out++la.drop ia):=by
 refine⟨?_,C3.mpr ⟨m.srt,Bp (Fu _ _) sa,fun x hx y hy=>(m.low x hx).1 y hy⟩⟩;have:=m.perm.append_right (la.drop ia);rw[Cc] at this;refine this.trans ?_;rw[Av];refine(Dg _ E1).trans ?_;rw[<-Av,Cd]
theorem MI.restB(m:MI rk la lb out la.length ib)(sb:Srt rk lb):MFin rk la lb (out++lb.drop ib):=by
 refine⟨?_,C3.mpr ⟨m.srt,Bp (Fu _ _) sb,fun x hx y hy=>(m.low x hx).2 y hy⟩⟩;have:=m.perm.append_right (lb.drop ib);rw[Cc,Av,Cd] at this;exact this
theorem MI.restBA(m:MI rk la lb out ia ib)(sa:Srt rk la)(sb:Srt rk lb)(h:∀x∈lb.drop ib,∀y∈la.drop ia,rk x<=rk y):MFin rk la lb (out++lb.drop ib++la.drop ia):=by
 refine⟨?_,C3.mpr ⟨C3.mpr ⟨m.srt,Bp (Fu _ _) sb,fun x hx y hy=>(m.low x hx).2 y hy⟩,Bp (Fu _ _) sa,fun x hx y hy=>?_⟩⟩
 ·have:=m.perm.append_right (lb.drop ib++la.drop ia);rw[<-Av] at this;refine this.trans ?_;rw[Av,<-Av (lb.take ib),Cd];refine(Dg _ E1).trans ?_;rw[<-Av,Cd]
 ·rcases Ap.mp hx with z|z
  ·exact(m.low x z).1 y hy
  ·exact h x z y hy
end
theorem zaR(a:Array B0)(i j:Nat):(a.extract i j).toList=(a.toList.drop i).take (j-i):=by simp
theorem zaV(a:Array B0)(i:Nat):(a.extract i).toList=a.toList.drop i:=by
 rw[zaR];exact D8 (by simp)
noncomputable def Like(st st':C2):Prop:=kindOf st'=kindOf st/\arrOf st'=arrOf st/\pendingOf st'=pendingOf st/\failedOf st'=failedOf st
theorem Like.refl(st:C2):Like st st:=⟨rfl,rfl,rfl,rfl⟩
noncomputable abbrev mergeLoS:Array Keyed->Array Keyed->StateT SortSt Sem (Array Keyed):=sortPriv%PySem.Builtin.mergeLo
theorem zhB{rk:B0->Int}{arr:Array B0}(s:Srt rk arr.toList){lo hi:Nat}(h:hi<=arr.size):Up2 rk arr lo hi:=fun i j _ hij hj=>by
 rw[za3 (show i<arr.size by omega),za3 (show j<arr.size by omega)];by_cases e:i=j
 ·subst e;exact Do _
 ·have:=Df.mp s i j (by simpa using(show i<arr.size by omega)) (by simpa using(show j<arr.size by omega)) (by omega);simpa using this
theorem zau(a:Array B0){i:Nat}(h:i<a.size):a.toList[i]'(by simpa using h)=a[i]:=by simp
theorem zcx{l:List B0}{i:Nat}{y:B0}(h:y∈l.drop i):∃j,∃hj:j<l.length,i<=j/\l[j]=y:=by
 obtain⟨j,hj,e⟩:=Dv h;rw[G9] at hj;rw[Jv] at e;exact⟨i+j,by omega,by omega,e⟩
theorem zdi{rk:B0->Int}{l:List B0}(s:Srt rk l){i:Nat}(h:i<l.length):∀y∈l.drop i,rk l[i]<=rk y:=fun y hy=>by
 rw[zbd h] at hy;rcases Bo.mp hy with rfl|z
 ·exact Do _
 ·exact zet s h y z
theorem zaq{M:I0}{A:Bi}{E:A1->A6->Prop}{s:A6}{σ α:Type}{c:Prop}[Decidable c]{x y:StateT σ Sem α}{Q:α->σ->Prop}{st:σ}(h1:c->wpS M A E s x Q st)(h2:¬c->wpS M A E s y Q st):wpS M A E s (if c then x else y) Q st:=by
 by_cases h:c
 ·rw[if_pos h];exact h1 h
 ·rw[if_neg h];exact h2 h
theorem zfG{M:I0}{A:Bi}{E:A1->A6->Prop}{s:A6}{σ α:Type}{c:Prop}[Decidable c]{x y:StateT σ Sem α}{Q:α->σ->Prop}{st:σ}(h2:¬c->wpS M A E s y Q st)(h1:c->wpS M A E s x Q st):wpS M A E s (if c then x else y) Q st:=zaq h1 h2
theorem zgF{X G:Prop}(k:X->G)(h:X):G:=k h
theorem zbn{M:I0}{A:Bi}{E:A1->A6->Prop}{s:A6}{f:C2->C2}{Q:PUnit->C2->Prop}{st:C2}(hf:Like st (f st))(h:∀st',Like st st'->Q ⟨⟩ st'):wpS M A E s (modify f:StateT C2 Sem PUnit) Q st:=K7 (h _ hf)
theorem Like.trans{a b c:C2}(h:Like a b)(k:Like b c):Like a c:=⟨k.1.trans h.1,k.2.1.trans h.2.1,k.2.2.1.trans h.2.2.1,k.2.2.2.trans h.2.2.2⟩
section
variable{prog:Aw}{w:Bq}{A:Bi}{E:A1->A6->Prop}{s:A6}{kd:F8}{S:B0->Prop}{rk:B0->Int}
theorem mergeLo_ok(C:Ranks prog w A E s kd S rk){a b:Array B0}{Q:Array B0->C2->Prop}{st:C2}(ha:0<a.size)(hb:0<b.size)(sa:Srt rk a.toList)(sb:Srt rk b.toList)(Sa:∀i(h:i<a.size),S a[i])(Sb:∀i(h:i<b.size),S b[i])(h0:∀y∈a.toList,rk b[0]<=rk y)(hl:∀y∈b.toList,rk y<=rk (a[a.size-1]'(by omega)))(hst:kindOf st=kd)
  (q:∀res st',Like st st'->MFin rk a.toList b.toList res.toList->Q res st'):wpS (model prog w) A E s (mergeLoS a b) Q st:=by
 have la:a.toList.length=a.size:=Ax;have lb:b.toList.length=b.size:=Ax;have m0:MI rk a.toList b.toList [b[0]] 0 1:=by
  have mm:MI rk a.toList b.toList [] 0 0:=⟨by simp,Ge,fun x hx=>by cases hx⟩;have:=mm.pushB sb (by omega) (by rw[Kv,zau b hb];exact h0);rw[zau b hb] at this;exact this
 have lastA:∀ib,∀x∈b.toList.drop ib,∀ia,ia+1=a.size->∀y∈a.toList.drop ia,rk x<=rk y:=fun ib x hx ia e y hy=>by
  obtain⟨j,hj,h1,e2⟩:=zcx hy;have:j=a.size-1:=by omega
  subst this;rw[<-e2,zau a (by omega)];exact hl x (List.mem_of_mem_drop hx)
 have doneA:∀{out:List B0}{ia ib:Nat},MI rk a.toList b.toList out ia ib->ib=b.size->MFin rk a.toList b.toList (out++a.toList.drop ia++b.toList.drop ib):=fun m e=>by
  subst e;rw[<-lb] at m⊢;rw[Ny,Ci];exact m.restA sa
 have doneB:∀{out:List B0}{ia ib:Nat},MI rk a.toList b.toList out ia ib->ia=a.size->MFin rk a.toList b.toList (out++a.toList.drop ia++b.toList.drop ib):=fun m e=>by
  subst e;rw[<-la] at m⊢;rw[Ny,Ci];exact m.restB sb
 refine Al (Ix (Gk ⟨rfl,?_⟩));dsimp only;refine Al (zaM hb ?_);refine zaq (fun e1=>?_) (fun e1=>?_)
 ·have e1:1=b.size:=by simpa using e1
  refine Ar (q _ st (Like.refl st) ?_);have:=doneA m0 e1;simp only[B9,Ch,zaV];exact this
 refine zaq (fun e2=>?_) (fun e2=>?_)
 ·have e2:0+1=a.size:=by simpa using e2
  refine Ar (q _ st (Like.refl st) ?_);have:=m0.restBA sa sb (fun x hx y hy=>lastA 1 x hx 0 e2 y hy);simp only[B9,Ch,zaV];exact this
 have e1:¬1=b.size:=by simpa using e1
 have e2:¬0+1=a.size:=by simpa using e2
 refine Al (Hg ?_);refine Al (Ef (D0 (I:=fun x c st'=>Like st st'/\∃(out:Array B0)(ia ib g:Nat),c=(none,out,ia,ib,g)/\MI rk a.toList b.toList out.toList ia ib/\ia+1<a.size/\ib<b.size/\x<ia+ib) (Q:=fun c st'=>Like st st'/\∃res:Array B0,c.1=some res/\MFin rk a.toList b.toList res.toList) ?step ?fin ⟨Like.refl st,_,_,_,_,rfl,m0,by omega,by omega,by omega⟩) ?post)
 case fin=>
  rintro c st'⟨_,out,ia,ib,g,rfl,_,h1,h2,h3⟩;omega
 case post=>
  rintro⟨r,out,ia,ib,g⟩st'⟨hL,res,e,hf⟩;dsimp only at e⊢;subst e;exact Ar (q res st' hL hf)
 case step=>
  rintro x c st1 _ hx⟨hL,out,ia,ib,g,rfl,m,h1,h2,h3⟩;dsimp only;have hk1:kindOf st1=kd:=hL.1.trans hst;refine Al (Ef (D0 (I:=fun y c st'=>st'=st1/\∃(out:Array B0)(ia ib ac bc:Nat),c=(none,out,ia,ib,ac,bc)/\MI rk a.toList b.toList out.toList ia ib/\ia+1<a.size/\ib<b.size/\x<ia+ib/\(0<y->x+1<ia+ib)) (Q:=fun c st'=>st'=st1/\((∃res:Array B0,c.1=some res/\MFin rk a.toList b.toList res.toList)\/∃(out:Array B0)(ia ib ac bc:Nat),c=(none,out,ia,ib,ac,bc)/\MI rk a.toList b.toList out.toList ia ib/\ia+1<a.size/\ib<b.size/\x+1<ia+ib)) ?step ?fin ⟨rfl,_,_,_,_,_,rfl,m,h1,h2,h3,by omega⟩) ?post)
  case fin=>
   rintro c st'⟨rfl,out,ia,ib,ac,bc,rfl,m,h1,h2,h3,h4⟩;exact⟨rfl,.inr ⟨out,ia,ib,ac,bc,rfl,m,h1,h2,h4 (by omega)⟩⟩
  case step=>
   rintro y c st' _ hy⟨rfl,out,ia,ib,ac,bc,rfl,m,h1,h2,h3,h4⟩;dsimp only;refine Al (zaM h2 (Al (zaM (show ia<a.size by omega) (Al (C.ask (Sb _ h2) (Sa _ (by omega)) hk1 ?_)))));dsimp only;refine zaq (fun hw=>?_) (fun hw=>?_)
   ·have hw:rk b[ib]<rk a[ia]:=by simpa using hw
    have m':=m.pushB sb (by omega) (fun y hy=>by
     have:=zdi sa (show ia<a.toList.length by omega) y hy;rw[zau a (by omega)] at this;rw[zau b h2];omega)
    rw[zau b h2] at m';refine Al (zaM h2 ?_);refine zaq (fun e=>?_) (fun e=>?_)
    ·have e:ib+1=b.size:=by simpa using e
     refine Ar ⟨rfl,.inl ⟨_,rfl,?_⟩⟩;have:=doneA m' e;simp only[B9,Ch,zaV];exact this
    have e:¬ib+1=b.size:=by simpa using e
    refine zaq (fun _=>Ar ⟨rfl,.inr ⟨_,_,_,_,_,rfl,by simpa using m',h1,by omega,by omega⟩⟩) (fun _=>Ar ⟨rfl,_,_,_,_,_,rfl,by simpa using m',h1,by omega,by omega,by omega⟩)
   ·have hw:rk a[ia]<=rk b[ib]:=by simpa using hw
    have m':=m.pushA sa (by omega) (fun y hy=>by
     have:=zdi sb (show ib<b.toList.length by omega) y hy;rw[zau b h2] at this;rw[zau a (by omega)];omega)
    rw[zau a (by omega)] at m';refine Al (zaM (show ia<a.size by omega) ?_);refine zaq (fun e=>?_) (fun e=>?_)
    ·have e:ia+1+1=a.size:=by simpa using e
     refine Ar ⟨rfl,.inl ⟨_,rfl,?_⟩⟩;have:=m'.restBA sa sb (fun x hx y hy=>lastA _ x hx _ e y hy);simp only[B9,Ch,zaV];exact this
    have e:¬ia+1+1=a.size:=by simpa using e
    refine zaq (fun _=>Ar ⟨rfl,.inr ⟨_,_,_,_,_,rfl,by simpa using m',by omega,h2,by omega⟩⟩) (fun _=>Ar ⟨rfl,_,_,_,_,_,rfl,by simpa using m',by omega,h2,by omega,by omega⟩)
  case post=>
   rintro⟨r,out,ia,ib,ac,bc⟩st'⟨rfl,hres|⟨out',ia',ib',ac',bc',e,m,h1,h2,h3⟩⟩
   ·obtain⟨res,e,hf⟩:=hres;dsimp only at e⊢;subst e;exact Ar ⟨hL,res,rfl,hf⟩
   cases e
   dsimp only;refine Al (Ix (Gk ⟨rfl,?_⟩));refine Al (Ef (D0 (I:=fun y c st'=>Like st st'/\∃(out:Array B0)(ia ib g ac bc:Nat),c=(none,out,ia,ib,g,ac,bc)/\MI rk a.toList b.toList out.toList ia ib/\ia+1<a.size/\ib<b.size/\x+1<ia+ib) (Q:=fun c st'=>Like st st'/\((∃res:Array B0,c.1=some res/\MFin rk a.toList b.toList res.toList)\/∃(out:Array B0)(ia ib g ac bc:Nat),c=(none,out,ia,ib,g,ac,bc)/\MI rk a.toList b.toList out.toList ia ib/\ia+1<a.size/\ib<b.size/\x+1<ia+ib)) ?step ?fin ⟨hL,_,_,_,_,_,_,rfl,m,h1,h2,h3⟩) ?post)
   case fin=>
    rintro c st'⟨hL2,h⟩;exact⟨hL2,.inr h⟩
   case post=>
    rintro⟨r,out,ia,ib,g,ac,bc⟩st2⟨hL2,hres|⟨out',ia',ib',g',ac',bc',e,m,h1,h2,h3⟩⟩
    ·obtain⟨res,e,hf⟩:=hres;dsimp only at e⊢;subst e;exact Ar ⟨hL2,res,rfl,hf⟩
    cases e
    dsimp only;exact Al (zbn ⟨rfl,rfl,rfl,rfl⟩ fun st3 hL3=>Ar ⟨hL2.trans hL3,_,_,_,_,rfl,m,h1,h2,h3⟩)
   case step=>
    rintro y c st2 _ hy⟨hL2,out,ia,ib,g,ac,bc,rfl,m,h1,h2,h3⟩;dsimp only;apply zgF
    ·intro R;refine zaq (fun h0=>Al (zbn ⟨rfl,rfl,rfl,rfl⟩ ?_)) (fun h0=>Al (zbn ⟨rfl,rfl,rfl,rfl⟩ ?_))
     ·clear h0;generalize g-1=g';revert g';exact R
     ·exact R g
    intro g' st3 hL3;have hL4:=hL2.trans hL3;have hk3:kindOf st3=kd:=hL4.1.trans hst;refine Al (zaM h2 ?_);refine Al (zbO C (Sb _ h2) (fun i h _ _=>Sa i h) (by omega) (by omega) (zhB sa (by omega)) hk3 fun k j1 j2 j3=>?_);dsimp only;simp only[Bt,if_false] at j2 j3;have mA:=m.moreA sa (k:=k) (by omega) (fun i hi g1 g2 y hy=>by
     have h5:=j2 (i-ia) (by omega);rw[show ia+(i-ia)=i by omega,za3 (by omega)] at h5;have h6:=zdi sb (show ib<b.toList.length by omega) y hy;rw[zau b h2] at h6;rw[zau a (by omega)];omega)
    have gtB:∀y∈a.toList.drop (ia+k),rk b[ib]<=rk y:=fun y hy=>by
     obtain⟨j,hj,g1,e⟩:=zcx hy;have h5:=j3 (j-ia) (by omega) (by omega);rw[show ia+(j-ia)=j by omega,za3 (by omega)] at h5;rw[<-e,zau a (by omega)];omega
    have ex:(a.extract ia (ia+k)).toList=(a.toList.drop ia).take k:=by rw[zaR,Cz]
    rw[<-ex,<-B9] at mA;have f12:∀(_:¬(ia+k+1==a.size)=true)(_:¬(ia+k==a.size)=true),ia+k+1<a.size:=fun e5 e6=>by
     have e5:¬ia+k+1=a.size:=by simpa using e5
     have e6:¬ia+k=a.size:=by simpa using e6
     omega
    have f32:x+1<ia+k+ib:=by omega
    apply zgF
    ·intro R;refine zfG (fun k0=>?b2) (fun k0=>zaq (fun e=>?x2) (fun e5=>zaq (fun e=>?y2) (fun e6=>?a2)))
     rotate_right
     have h12:=f12 e5 e6;have h32:=f32;clear e5 e6 k0;have mA':=mA;have gtB':=gtB;generalize out++a.extract ia (ia+k)=out2 at mA'⊢;generalize ia+k=ia2 at mA' gtB' h12 h32⊢;revert out2 ia2;exact R
     ·have e7:k=0:=by omega
      have gtB2:=gtB;rw[e7,Gv] at gtB2;exact R out ia m gtB2 h1 h3
     ·have e:ia+k+1=a.size:=by simpa using e
      refine Ar ⟨hL4,.inl ⟨_,rfl,?_⟩⟩;have:=mA.restBA sa sb (fun x hx y hy=>lastA _ x hx _ e y hy);simp only[B9,zaV] at this⊢;exact this
     ·have e:ia+k=a.size:=by simpa using e
      refine Ar ⟨hL4,.inl ⟨_,rfl,?_⟩⟩;have:=doneB mA e;simp only[B9,zaV] at this⊢;exact this
    intro out2 ia2 mA gtB h12 h32;have mB:=mA.pushB sb (by omega) (fun y hy=>by rw[zau b h2];exact gtB y hy);rw[zau b h2] at mB;refine Al (zaM h2 ?_);refine zaq (fun e=>?_) (fun e=>?_)
    ·have e:ib+1=b.size:=by simpa using e
     refine Ar ⟨hL4,.inl ⟨_,rfl,?_⟩⟩;have:=doneA mB e;simp only[B9,Ch,zaV];exact this
    have e8:¬ib+1=b.size:=by simpa using e
    have hia2:ia2<a.size:=by omega
    have hb4:ib+1<b.size:=by omega
    have h34:x+1<ia2+(ib+1):=by omega
    rw[<-Ch] at mB;generalize out2.push b[ib]=out4 at mB⊢;generalize ib+1=ib4 at mB hb4 h34⊢;refine Al (zaM hia2 ?_);refine Al (zbO C (Sa _ hia2) (fun i h _ _=>Sb i h) (by omega) (by omega) (zhB sb (by omega)) hk3 fun k2 j4 j5 j6=>?_);dsimp only;simp only[if_true] at j5 j6;have mC:=mB.moreB sb (k:=k2) (by omega) (fun i hi g1 g2 y hy=>by
     have h5:=j5 (i-ib4) (by omega);rw[show ib4+(i-ib4)=i by omega,za3 (by omega)] at h5;have h6:=zdi sa (show ia2<a.toList.length by omega) y hy;rw[zau a hia2] at h6;rw[zau b (by omega)];omega)
    have leA:∀y∈b.toList.drop (ib4+k2),rk a[ia2]<=rk y:=fun y hy=>by
     obtain⟨j,hj,g1,e⟩:=zcx hy;have h5:=j6 (j-ib4) (by omega) (by omega);rw[show ib4+(j-ib4)=j by omega,za3 (by omega)] at h5;rw[<-e,zau b (by omega)];omega
    have ex2:(b.extract ib4 (ib4+k2)).toList=(b.toList.drop ib4).take k2:=by rw[zaR,Cz]
    rw[<-ex2,<-B9] at mC;have f22:∀(_:¬(ib4+k2==b.size)=true),ib4+k2<b.size:=fun e5=>by
     have e5:¬ib4+k2=b.size:=by simpa using e5
     omega
    have f33:x+1<ia2+(ib4+k2):=by omega
    apply zgF
    ·intro R;refine zfG (fun k1=>?b3) (fun k1=>zaq (fun e=>?x3) (fun e5=>?a3))
     rotate_right
     have h22:=f22 e5;have h33:=f33;clear e5 k1;have mC':=mC;have leA':=leA;generalize out4++b.extract ib4 (ib4+k2)=out3 at mC'⊢;generalize ib4+k2=ib2 at mC' leA' h22 h33⊢;revert out3 ib2;exact R
     ·have e7:k2=0:=by omega
      have leA2:=leA;rw[e7,Gv] at leA2;exact R out4 ib4 mB leA2 hb4 h34
     ·have e:ib4+k2=b.size:=by simpa using e
      refine Ar ⟨hL4,.inl ⟨_,rfl,?_⟩⟩;have:=doneA mC e;simp only[B9,Ch,zaV] at this⊢;exact this
    intro out3 ib2 mC leA h22 h33;have mD:=mC.pushA sa (by omega) (fun y hy=>by rw[zau a hia2];exact leA y hy);rw[zau a hia2,<-Ch] at mD;refine Al (zaM hia2 ?_);refine zaq (fun e=>?_) (fun e=>?_)
    ·have e:ia2+1+1=a.size:=by simpa using e
     refine Ar ⟨hL4,.inl ⟨_,rfl,?_⟩⟩;have:=mD.restBA sa sb (fun x hx y hy=>lastA _ x hx _ e y hy);simp only[B9,Ch,zaV] at this⊢;exact this
    have e9:¬ia2+1+1=a.size:=by simpa using e
    exact zaq (fun _=>Ar ⟨hL4,.inr ⟨_,_,_,_,_,_,rfl,mD,by omega,h22,by omega⟩⟩) (fun _=>Ar ⟨hL4,_,_,_,_,_,_,rfl,mD,by omega,h22,by omega⟩)
end
structure HI(rk:B0->Int)(la lb out:List B0)(na nb:Nat):Prop where
 perm:out.Perm (la.drop na++lb.drop nb)
 srt:out.Pairwise fun x y=>rk y<=rk x
 high:∀x∈out,(∀y∈la.take na,rk y<=rk x)/\∀y∈lb.take nb,rk y<=rk x
section
variable{rk:B0->Int}{la lb out:List B0}{na nb:Nat}
theorem zbB{l:List B0}{n:Nat}{y:B0}(h:y∈l.take n):∃j,∃hj:j<l.length,j<n/\l[j]=y:=by
 obtain⟨j,hj,e⟩:=Dv h;rw[Cg] at hj;rw[Ju] at e;exact⟨j,by omega,by omega,e⟩
theorem zea{l:List B0}(s:Srt rk l){n:Nat}(h0:0<n)(h:n<=l.length):∀y∈l.take n,rk y<=rk (l[n-1]'(by omega)):=fun y hy=>by
 obtain⟨j,hj,h1,rfl⟩:=zbB hy;by_cases e:j=n-1
 ·subst e;exact Do _
 ·exact Df.mp s j (n-1) hj (by omega) (by omega)
theorem zcE{l:List B0}{m n:Nat}(h:m<=n){y:B0}(hy:y∈l.take m):y∈l.take n:=by
 have:l.take m=(l.take n).take m:=by rw[List.take_take,Ir h]
 rw[this] at hy;exact J8 hy
theorem HI.pushA(m:HI rk la lb out na nb)(sa:Srt rk la)(h0:0<na)(h:na<=la.length)(hb:∀y∈lb.take nb,rk y<=rk (la[na-1]'(by omega))):HI rk la lb (out++[la[na-1]'(by omega)]) (na-1) nb:=by
 have hd:la.drop (na-1)=la[na-1]'(by omega)::la.drop na:=by
  have:=zbd (l:=la) (i:=na-1) (by omega);rwa[Js h0] at this
 have hm:la[na-1]'(by omega)∈la.take na:=by
  rw[L3];exact⟨na-1,by omega,rfl⟩
 refine⟨?_,C3.mpr ⟨m.srt,by simp,fun x hx y hy=>?_⟩,fun x hx=>?_⟩
 ·rw[hd,K5];exact(m.perm.append_right _).trans E1
 ·rw[A9.mp hy];exact(m.high x hx).1 _ hm
 ·rcases Ap.mp hx with z|z
  ·exact⟨fun y hy=>(m.high x z).1 y (zcE (by omega) hy),(m.high x z).2⟩
  ·rw[A9.mp z];exact⟨fun y hy=>zea sa h0 h y (zcE (by omega) hy),hb⟩
theorem HI.pushB(m:HI rk la lb out na nb)(sb:Srt rk lb)(h0:0<nb)(h:nb<=lb.length)(ha:∀y∈la.take na,rk y<=rk (lb[nb-1]'(by omega))):HI rk la lb (out++[lb[nb-1]'(by omega)]) na (nb-1):=by
 have hd:lb.drop (nb-1)=lb[nb-1]'(by omega)::lb.drop nb:=by
  have:=zbd (l:=lb) (i:=nb-1) (by omega);rwa[Js h0] at this
 have hm:lb[nb-1]'(by omega)∈lb.take nb:=by
  rw[L3];exact⟨nb-1,by omega,rfl⟩
 refine⟨?_,C3.mpr ⟨m.srt,by simp,fun x hx y hy=>?_⟩,fun x hx=>?_⟩
 ·rw[hd];refine(m.perm.append_right _).trans ?_;rw[Av];refine Dg _ ?_;exact E1
 ·rw[A9.mp hy];exact(m.high x hx).2 _ hm
 ·rcases Ap.mp hx with z|z
  ·exact⟨(m.high x z).1,fun y hy=>(m.high x z).2 y (zcE (by omega) hy)⟩
  ·rw[A9.mp z];exact⟨ha,fun y hy=>zea sb h0 h y (zcE (by omega) hy)⟩
theorem HI.moreA(m:HI rk la lb out na nb)(sa:Srt rk la)(h:na<=la.length):∀{d p:Nat},p+d=na->(∀i(h:i<la.length),p<=i->i<na->∀y∈lb.take nb,rk y<=rk la[i])->HI rk la lb (out++((la.drop p).take d).reverse) p nb
 |0,p,e,_=>by
  have:p=na:=by omega
  subst this;simpa using m
 |d+1,p,e,hy=>by
  have m1:=HI.moreA m sa h (d:=d) (p:=p+1) (by omega) fun i hi h1 h2=>hy i hi (by omega) h2;have m2:=m1.pushA sa (by omega) (by omega) (hy (p+1-1) (by omega) (by omega) (by omega));rw[zbd (show p<la.length by omega),Go,No,<-Av];simpa only[Nl] using m2
theorem HI.moreB(m:HI rk la lb out na nb)(sb:Srt rk lb)(h:nb<=lb.length):∀{d p:Nat},p+d=nb->(∀i(h:i<lb.length),p<=i->i<nb->∀y∈la.take na,rk y<=rk lb[i])->HI rk la lb (out++((lb.drop p).take d).reverse) na p
 |0,p,e,_=>by
  have:p=nb:=by omega
  subst this;simpa using m
 |d+1,p,e,hy=>by
  have m1:=HI.moreB m sb h (d:=d) (p:=p+1) (by omega) fun i hi h1 h2=>hy i hi (by omega) h2;have m2:=m1.pushB sb (by omega) (by omega) (hy (p+1-1) (by omega) (by omega) (by omega));rw[zbd (show p<lb.length by omega),Go,No,<-Av];simpa only[Nl] using m2
theorem HI.rev(m:HI rk la lb out na nb):Srt rk out.reverse:=List.pairwise_reverse.mpr m.srt
theorem HI.restAB(m:HI rk la lb out na nb)(sa:Srt rk la)(sb:Srt rk lb)(h:∀x∈la.take na,∀y∈lb.take nb,rk x<=rk y):MFin rk la lb (la.take na++lb.take nb++out.reverse):=by
 refine⟨?_,C3.mpr ⟨C3.mpr ⟨Bp (Fo _ _) sa,Bp (Fo _ _) sb,h⟩,m.rev,fun x hx y hy=>?_⟩⟩
 ·refine(Dg _ ((Nm out).trans m.perm)).trans ?_;have e:la.take na++lb.take nb++(la.drop na++lb.drop nb)=la.take na++(lb.take nb++la.drop na)++lb.drop nb:=by simp
  rw[e];refine(Hh _ (Dg _ E1)).trans ?_;rw[<-Av,Cd,Av,Cd]
 ·have:=m.high y (Nw.mp hy);rcases Ap.mp hx with z|z
  ·exact this.1 x z
  ·exact this.2 x z
theorem HI.restBA(m:HI rk la lb out na nb)(sa:Srt rk la)(sb:Srt rk lb)(h:∀x∈lb.take nb,∀y∈la.take na,rk x<=rk y):MFin rk la lb (lb.take nb++la.take na++out.reverse):=by
 refine⟨?_,C3.mpr ⟨C3.mpr ⟨Bp (Fo _ _) sb,Bp (Fo _ _) sa,h⟩,m.rev,fun x hx y hy=>?_⟩⟩
 ·refine(Dg _ ((Nm out).trans m.perm)).trans ?_;have e:lb.take nb++la.take na++(la.drop na++lb.drop nb)=lb.take nb++la++lb.drop nb:=by
   have:=Cd na la;rw[Av,<-Av (la.take na),this,<-Av]
  rw[e];refine(Hh _ E1).trans ?_;rw[Av,Cd]
 ·have:=m.high y (Nw.mp hy);rcases Ap.mp hx with z|z
  ·exact this.2 x z
  ·exact this.1 x z
end
theorem zaI(a:Array B0)(n:Nat):(a.extract 0 n).toList=a.toList.take n:=by
 rw[zaR,Kv,K1]
noncomputable abbrev mergeHiS:Array Keyed->Array Keyed->StateT SortSt Sem (Array Keyed):=sortPriv%PySem.Builtin.mergeHi
section
variable{prog:Aw}{w:Bq}{A:Bi}{E:A1->A6->Prop}{s:A6}{kd:F8}{S:B0->Prop}{rk:B0->Int}
theorem mergeHi_ok(C:Ranks prog w A E s kd S rk){a b:Array B0}{Q:Array B0->C2->Prop}{st:C2}(ha:0<a.size)(hb:0<b.size)(sa:Srt rk a.toList)(sb:Srt rk b.toList)(Sa:∀i(h:i<a.size),S a[i])(Sb:∀i(h:i<b.size),S b[i])(h0:∀y∈a.toList,rk b[0]<=rk y)(hl:∀y∈b.toList,rk y<=rk (a[a.size-1]'(by omega)))(hst:kindOf st=kd)
  (q:∀res st',Like st st'->MFin rk a.toList b.toList res.toList->Q res st'):wpS (model prog w) A E s (mergeHiS a b) Q st:=by
 have la:a.toList.length=a.size:=Ax;have lb:b.toList.length=b.size:=Ax;have m0:HI rk a.toList b.toList [a[a.size-1]'(by omega)] (a.size-1) b.size:=by
  have mm:HI rk a.toList b.toList [] a.size b.size:=⟨by rw[<-la,<-lb];simp,Ge,fun x hx=>by cases hx⟩;have:=mm.pushA sa ha (by omega) (fun y hy=>by rw[zau a (by omega)];exact hl y (J8 hy));rw[zau a (by omega)] at this;exact this
 have firstB:∀nb,nb=1->∀na,∀x∈b.toList.take nb,∀y∈a.toList.take na,rk x<=rk y:=fun nb e na x hx y hy=>by
  subst e;obtain⟨j,hj,h1,e2⟩:=zbB hx;have:j=0:=by omega
  subst this;rw[<-e2,zau b hb];exact h0 y (J8 hy)
 have doneA:∀{out:List B0}{na nb:Nat},HI rk a.toList b.toList out na nb->na=0->MFin rk a.toList b.toList (a.toList.take na++b.toList.take nb++out.reverse):=fun m e=>by
  subst e;exact m.restAB sa sb (fun x hx=>by simp at hx)
 have doneB:∀{out:List B0}{na nb:Nat},HI rk a.toList b.toList out na nb->nb=0->MFin rk a.toList b.toList (a.toList.take na++b.toList.take nb++out.reverse):=fun m e=>by
  subst e;exact m.restAB sa sb (fun x _ y hy=>by simp at hy)
 refine Al (Ix (Gk ⟨rfl,?_⟩));dsimp only;refine Al (zaM (by omega) ?_);refine zaq (fun e1=>?_) (fun e1=>?_)
 ·have e1:a.size-1=0:=by simpa using e1
  refine Ar (q _ st (Like.refl st) ?_);have:=doneA m0 e1;simp only[B9,Cq,zaI];exact this
 refine zaq (fun e2=>?_) (fun e2=>?_)
 ·have e2:b.size=1:=by simpa using e2
  refine Ar (q _ st (Like.refl st) ?_);have:=m0.restBA sa sb (fun x hx y hy=>firstB _ e2 _ x hx y hy);simp only[B9,Cq,zaI];exact this
 have e1:¬a.size-1=0:=by simpa using e1
 have e2:¬b.size=1:=by simpa using e2
 refine Al (Hg ?_);refine Al (Ef (D0 (I:=fun x c st'=>Like st st'/\∃(out:Array B0)(na nb g:Nat),c=(none,na,nb,out,g)/\HI rk a.toList b.toList out.toList na nb/\0<na/\na<=a.size/\1<nb/\nb<=b.size/\x+na+nb<a.size+b.size) (Q:=fun c st'=>Like st st'/\∃res:Array B0,c.1=some res/\MFin rk a.toList b.toList res.toList) ?step ?fin ⟨Like.refl st,_,_,_,_,rfl,m0,by omega,by omega,by omega,by omega,by omega⟩) ?post)
 case fin=>
  rintro c st'⟨_,out,na,nb,g,rfl,_,h1,h2,h3,h4,h5⟩;omega
 case post=>
  rintro⟨r,na,nb,out,g⟩st'⟨hL,res,e,hf⟩;dsimp only at e⊢;subst e;exact Ar (q res st' hL hf)
 case step=>
  rintro x c st1 _ hx⟨hL,out,na,nb,g,rfl,m,h1,h1',h2,h2',h3⟩;dsimp only;have hk1:kindOf st1=kd:=hL.1.trans hst;refine Al (Ef (D0 (I:=fun y c st'=>st'=st1/\∃(out:Array B0)(na nb ac bc:Nat),c=(none,na,nb,out,ac,bc)/\HI rk a.toList b.toList out.toList na nb/\0<na/\na<=a.size/\1<nb/\nb<=b.size/\x+na+nb<a.size+b.size/\(0<y->x+1+na+nb<a.size+b.size)) (Q:=fun c st'=>st'=st1/\((∃res:Array B0,c.1=some res/\MFin rk a.toList b.toList res.toList)\/∃(out:Array B0)(na nb ac bc:Nat),c=(none,na,nb,out,ac,bc)/\HI rk a.toList b.toList out.toList na nb/\0<na/\na<=a.size/\1<nb/\nb<=b.size/\x+1+na+nb<a.size+b.size)) ?step ?fin ⟨rfl,_,_,_,_,_,rfl,m,h1,h1',h2,h2',h3,by omega⟩) ?post)
  case fin=>
   rintro c st'⟨rfl,out,na,nb,ac,bc,rfl,m,h1,h1',h2,h2',h3,h4⟩;exact⟨rfl,.inr ⟨out,na,nb,ac,bc,rfl,m,h1,h1',h2,h2',h4 (by omega)⟩⟩
  case step=>
   rintro y c st' _ hy⟨rfl,out,na,nb,ac,bc,rfl,m,h1,h1',h2,h2',h3,h4⟩;dsimp only;have ib:nb-1<b.size:=by omega
   have ia:na-1<a.size:=by omega
   refine Al (zaM ib (Al (zaM ia (Al (C.ask (Sb _ ib) (Sa _ ia) hk1 ?_)))));dsimp only;refine zaq (fun hw=>?_) (fun hw=>?_)
   ·have hw:rk b[nb-1]<rk a[na-1]:=by simpa using hw
    have m':=m.pushA sa h1 (by omega) (fun y hy=>by
     have:=zea sb (show 0<nb by omega) (by omega) y hy;rw[zau b ib] at this;rw[zau a ia];omega)
    rw[zau a ia,<-Ch] at m';refine Al (zaM ia ?_);refine zaq (fun e=>?_) (fun e=>?_)
    ·have e:na-1=0:=by simpa using e
     refine Ar ⟨rfl,.inl ⟨_,rfl,?_⟩⟩;have:=doneA m' e;simp only[B9,Cq,zaI];exact this
    have e:¬na-1=0:=by simpa using e
    refine zaq (fun _=>Ar ⟨rfl,.inr ⟨_,_,_,_,_,rfl,m',by omega,by omega,h2,h2',by omega⟩⟩) (fun _=>Ar ⟨rfl,_,_,_,_,_,rfl,m',by omega,by omega,h2,h2',by omega,by omega⟩)
   ·have hw:rk a[na-1]<=rk b[nb-1]:=by simpa using hw
    have m':=m.pushB sb (by omega) (by omega) (fun y hy=>by
     have:=zea sa h1 (by omega) y hy;rw[zau a ia] at this;rw[zau b ib];omega)
    rw[zau b ib,<-Ch] at m';refine Al (zaM ib ?_);refine zaq (fun e=>?_) (fun e=>?_)
    ·have e:nb-1=1:=by simpa using e
     refine Ar ⟨rfl,.inl ⟨_,rfl,?_⟩⟩;have:=m'.restBA sa sb (fun x hx y hy=>firstB _ e _ x hx y hy);simp only[B9,Cq,zaI];exact this
    have e:¬nb-1=1:=by simpa using e
    refine zaq (fun _=>Ar ⟨rfl,.inr ⟨_,_,_,_,_,rfl,m',h1,h1',by omega,by omega,by omega⟩⟩) (fun _=>Ar ⟨rfl,_,_,_,_,_,rfl,m',h1,h1',by omega,by omega,by omega,by omega⟩)
  case post=>
   rintro⟨r,na,nb,out,ac,bc⟩st'⟨rfl,hres|⟨out',na',nb',ac',bc',e,m,h1,h1',h2,h2',h3⟩⟩
   ·obtain⟨res,e,hf⟩:=hres;dsimp only at e⊢;subst e;exact Ar ⟨hL,res,rfl,hf⟩
   cases e
   dsimp only;refine Al (Ix (Gk ⟨rfl,?_⟩));refine Al (Ef (D0 (I:=fun y c st'=>Like st st'/\∃(out:Array B0)(na nb g ac bc:Nat),c=(none,na,nb,out,g,ac,bc)/\HI rk a.toList b.toList out.toList na nb/\0<na/\na<=a.size/\1<nb/\nb<=b.size/\x+1+na+nb<a.size+b.size) (Q:=fun c st'=>Like st st'/\((∃res:Array B0,c.1=some res/\MFin rk a.toList b.toList res.toList)\/∃(out:Array B0)(na nb g ac bc:Nat),c=(none,na,nb,out,g,ac,bc)/\HI rk a.toList b.toList out.toList na nb/\0<na/\na<=a.size/\1<nb/\nb<=b.size/\x+1+na+nb<a.size+b.size)) ?step ?fin ⟨hL,_,_,_,_,_,_,rfl,m,h1,h1',h2,h2',h3⟩) ?post)
   case fin=>
    rintro c st'⟨hL2,h⟩;exact⟨hL2,.inr h⟩
   case post=>
    rintro⟨r,na,nb,out,g,ac,bc⟩st2⟨hL2,hres|⟨out',na',nb',g',ac',bc',e,m,h1,h1',h2,h2',h3⟩⟩
    ·obtain⟨res,e,hf⟩:=hres;dsimp only at e⊢;subst e;exact Ar ⟨hL2,res,rfl,hf⟩
    cases e
    dsimp only;exact Al (zbn ⟨rfl,rfl,rfl,rfl⟩ fun st3 hL3=>Ar ⟨hL2.trans hL3,_,_,_,_,rfl,m,h1,h1',h2,h2',by omega⟩)
   case step=>
    rintro y c st2 _ hy⟨hL2,out,na,nb,g,ac,bc,rfl,m,h1,h1',h2,h2',h3⟩;dsimp only;have ib:nb-1<b.size:=by omega
    refine zaq (fun _=>Al (zbn ⟨rfl,rfl,rfl,rfl⟩ fun st3 hL3=>?_)) (fun _=>Al (zbn ⟨rfl,rfl,rfl,rfl⟩ fun st3 hL3=>?_))
    all_goals
     have hL4:=hL2.trans hL3;have hk3:kindOf st3=kd:=hL4.1.trans hst;refine Al (zaM ib ?_);refine Al (zbO C (Sb _ ib) (fun i h _ _=>Sa i h) (by omega) (by omega) (zhB sa (by omega)) hk3 fun p j1 j2 j3=>?_);dsimp only;simp only[Bt,if_false,Fg] at j2 j3;have mA:=m.moreA sa (by omega) (d:=na-p) (p:=p) (by omega) (fun i hi g1 g2 y hy=>by
      have h5:=j3 i g1 g2;rw[za3 (by omega)] at h5;have h6:=zea sb (show 0<nb by omega) (by omega) y hy;rw[zau b ib] at h6;rw[zau a (by omega)];omega)
     have leB:∀y∈a.toList.take p,rk y<=rk b[nb-1]:=fun y hy=>by
      obtain⟨j,hj,g1,e⟩:=zbB hy;have h5:=j2 j g1;rw[za3 (by omega)] at h5;rw[<-e,zau a (by omega)];exact h5
     rw[<-zaR,<-Cq,<-B9] at mA;refine zaq (fun k0=>?_) (fun k0=>?_)
     rotate_left
     have mA:=m;have h12:=h1;have h12':=h1';have h32:=h3;have e7:p=na:=by omega
     rw[e7] at leB⊢;generalize out=out2 at mA⊢;generalize na=na2 at mA leB h12 h12' h32⊢
     rotate_left
     refine zaq (fun e=>?_) (fun e=>?_)
     ·have e:p=0:=by simpa using e
      refine Ar ⟨hL4,.inl ⟨_,rfl,?_⟩⟩;have:=doneA mA e;simp only[B9,Cq,zaI] at this⊢;exact this
     have e5:¬p=0:=by simpa using e
     have h12:0<p:=by omega
     have h12':p<=a.size:=by omega
     have h32:x+1+p+nb<a.size+b.size:=by omega
     generalize out++(a.extract p na).reverse=out2 at mA⊢;generalize na-p=kk at k0⊢;generalize p=na2 at mA leB h12 h12' h32⊢
    all_goals
     have mB:=mA.pushB sb (by omega) (by omega) (fun y hy=>by rw[zau b ib];exact leB y hy);rw[zau b ib,<-Ch] at mB;refine Al (zaM ib ?_);refine zaq (fun e=>?_) (fun e=>?_)
     ·have e:nb-1=1:=by simpa using e
      refine Ar ⟨hL4,.inl ⟨_,rfl,?_⟩⟩;have:=mB.restBA sa sb (fun x hx y hy=>firstB _ e _ x hx y hy);simp only[B9,Cq,zaI];exact this
     have e8:¬nb-1=1:=by simpa using e
     have hia2:na2-1<a.size:=by omega
     refine Al (zaM hia2 ?_);refine Al (zbO C (Sa _ hia2) (fun i h _ _=>Sb i h) (by omega) (by omega) (zhB sb (by omega)) hk3 fun p2 j4 j5 j6=>?_);dsimp only;simp only[if_true,Fg] at j5 j6;have mC:=mB.moreB sb (by omega) (d:=nb-1-p2) (p:=p2) (by omega) (fun i hi g1 g2 y hy=>by
      have h5:=j6 i g1 g2;rw[za3 (by omega)] at h5;have h6:=zea sa h12 (by omega) y hy;rw[zau a hia2] at h6;rw[zau b (by omega)];omega)
     have leA:∀y∈b.toList.take p2,rk y<=rk a[na2-1]:=fun y hy=>by
      obtain⟨j,hj,g1,e⟩:=zbB hy;have h5:=j5 j g1;rw[za3 (by omega)] at h5;rw[<-e,zau b (by omega)];omega
     rw[<-zaR,<-Cq,<-B9] at mC;refine zaq (fun k1=>?_) (fun k1=>?_)
     rotate_left
     have mC:=mB;have h22:1<nb-1:=by omega
     have h22':nb-1<=b.size:=by omega
     have h33:x+1+na2+(nb-1)<a.size+b.size:=by omega
     have e7:p2=nb-1:=by omega
     rw[e7] at leA⊢;generalize out2.push b[nb-1]=out3 at mC⊢;generalize nb-1=nb2 at mC leA h22 h22' h33⊢
     rotate_left
     refine zaq (fun e=>?_) (fun e=>?_)
     ·have e:p2=1:=by simpa using e
      refine Ar ⟨hL4,.inl ⟨_,rfl,?_⟩⟩;have:=mC.restBA sa sb (fun x hx y hy=>firstB _ e _ x hx y hy);simp only[B9,Cq,zaI] at this⊢;exact this
     have e5:¬p2=1:=by simpa using e
     refine zaq (fun e=>?_) (fun e=>?_)
     ·have e:p2=0:=by simpa using e
      refine Ar ⟨hL4,.inl ⟨_,rfl,?_⟩⟩;have:=doneB mC e;simp only[B9,Cq,zaI] at this⊢;exact this
     have e6:¬p2=0:=by simpa using e
     have h22:1<p2:=by omega
     have h22':p2<=b.size:=by omega
     have h33:x+1+na2+p2<a.size+b.size:=by omega
     generalize out2.push b[nb-1]++(b.extract p2 (nb-1)).reverse=out3 at mC⊢;generalize nb-1-p2=kk2 at k1⊢;generalize p2=nb2 at mC leA h22 h22' h33⊢
    all_goals
     have mD:=mC.pushA sa h12 (by omega) (fun y hy=>by rw[zau a hia2];exact leA y hy);rw[zau a hia2,<-Ch] at mD;refine Al (zaM hia2 ?_);refine zaq (fun e=>?_) (fun e=>?_)
     ·have e:na2-1=0:=by simpa using e
      refine Ar ⟨hL4,.inl ⟨_,rfl,?_⟩⟩;have:=doneA mD e;simp only[B9,Cq,zaI] at this⊢;exact this
     have e9:¬na2-1=0:=by simpa using e
     exact zaq (fun _=>Ar ⟨hL4,.inr ⟨_,_,_,_,_,_,rfl,mD,by omega,by omega,h22,h22',by omega⟩⟩) (fun _=>Ar ⟨hL4,_,_,_,_,_,_,rfl,mD,by omega,by omega,h22,h22',by omega⟩)
end
theorem zbb{rk:B0->Int}{xs ys:Array B0}{i j:Nat}(h:xs[i]?=ys[j]?):kAt rk xs i=kAt rk ys j:=by unfold kAt;rw[h]
theorem zc3{rk:B0->Int}{xs:Array B0}{i j:Nat}(hj:j<=xs.size)(k:Nat):kAt rk (mirror xs i j ((j-i) / 2)) k=if i<=k/\k<j then kAt rk xs (i+j-1-k) else kAt rk xs k:=by
 have e:=O5 (i:=i) hj k;by_cases h:i<=k/\k<j
 ·rw[if_pos h] at e⊢;exact zbb e
 ·rw[if_neg h] at e⊢;exact zbb e
theorem zbD{rk:B0->Int}{xs:Array B0}{i j:Nat}(hj:j<=xs.size)(h:∀k,i<=k->k<j->kAt rk xs k=kAt rk xs (j-1))(k:Nat):kAt rk (mirror xs i j ((j-i) / 2)) k=kAt rk xs k:=by
 rw[zc3 hj];by_cases e:i<=k/\k<j
 ·rw[if_pos e,h _ (by omega) (by omega),h k e.1 e.2]
 ·rw[if_neg e]
theorem zej{rk:B0->Int}{xs:Array B0}{src d:Nat}(hs:src<xs.size)(hd:d<=src)(k:Nat):kAt rk (bubble xs src d) k=if k=src-d then kAt rk xs src else if src-d<k/\k<=src then kAt rk xs (k-1) else kAt rk xs k:=by
 have e:=Pg hs d hd k;by_cases h:k=src-d
 ·rw[if_pos h] at e⊢;exact zbb e
 ·rw[if_neg h] at e⊢;by_cases h2:src-d<k/\k<=src
  ·rw[if_pos h2] at e⊢;exact zbb e
  ·rw[if_neg h2] at e⊢;exact zbb e
structure Chg(lo hi:Nat)(st st':C2):Prop where
 kind:kindOf st'=kindOf st
 pend:pendingOf st'=pendingOf st
 fail:failedOf st'=failedOf st
 perm:(arrOf st').Perm (arrOf st)
 out:∀i,(i<lo\/hi<=i)->(arrOf st')[i]?=(arrOf st)[i]?
theorem Chg.refl{lo hi:Nat}(st:C2):Chg lo hi st st:=⟨rfl,rfl,rfl,G8 _,fun _ _=>rfl⟩
theorem Chg.size{lo hi:Nat}{st st':C2}(h:Chg lo hi st st'):(arrOf st').size=(arrOf st).size:=h.perm.size_eq
theorem Chg.trans{lo hi:Nat}{a b c:C2}(h:Chg lo hi a b)(k:Chg lo hi b c):Chg lo hi a c:=⟨k.kind.trans h.kind,k.pend.trans h.pend,k.fail.trans h.fail,k.perm.trans h.perm,fun i hi=>(k.out i hi).trans (h.out i hi)⟩
theorem Chg.wide{lo hi lo' hi':Nat}{a b:C2}(h:Chg lo hi a b)(h1:lo'<=lo)(h2:hi<=hi'):Chg lo' hi' a b:=⟨h.kind,h.pend,h.fail,h.perm,fun i hi=>h.out i (by omega)⟩
theorem Chg.mirror{lo hi i j:Nat}{st st':C2}(h:Chg lo hi st st')(hi':lo<=i)(hj:j<=hi)(hs:j<=(arrOf st').size):Chg lo hi st (setArr st' (mirror (arrOf st') i j ((j-i) / 2))):=
 h.trans ⟨rfl,rfl,rfl,mirror_perm _ _ _ _,fun k hk=>by
  show(Py (arrOf st') i j ((j-i) / 2))[k]?=_;rw[O5 hs,if_neg (by omega)]⟩
theorem Chg.bubble{lo hi src d:Nat}{st st':C2}(h:Chg lo hi st st')(h1:lo+d<=src)(h2:src<hi)(hs:src<(arrOf st').size):Chg lo hi st (setArr st' (bubble (arrOf st') src d)):=
 h.trans ⟨rfl,rfl,rfl,bubble_perm _ _ _,fun k hk=>by
  show(Q0 (arrOf st') src d)[k]?=_;rw[Pg hs _ (by omega),if_neg (by omega),if_neg (by omega)]⟩
theorem zcl{S:B0->Prop}{a b:Array B0}(p:b.Perm a)(h:∀x∈a.toList,S x):∀x∈b.toList,S x:=fun x hx=>h x ((Gw.mp p).mem_iff.mp hx)
theorem zhA{S:B0->Prop}{a:Array B0}(h:∀x∈a.toList,S x)(i:Nat)(hi:i<a.size):S a[i]:=h _ (by simp)
theorem Up2.more{rk:B0->Int}{arr:Array B0}{lo hi:Nat}(u:Up2 rk arr lo hi)(h:lo<hi)(e:kAt rk arr (hi-1)<=kAt rk arr hi):Up2 rk arr lo (hi+1):=fun i j h1 h2 h3=>by
 by_cases ej:j=hi
 ·by_cases ei:i=hi
  ·rw[ei,ej];exact Do _
  ·have:=u i (hi-1) h1 (by omega) (by omega);rw[ej];omega
 ·exact u i j h1 h2 (by omega)
noncomputable def Dn2(rk:B0->Int)(arr:Array B0)(lo hi:Nat):Prop:=∀i j,lo<=i->i<=j->j<hi->kAt rk arr j<=kAt rk arr i
theorem Dn2.more{rk:B0->Int}{arr:Array B0}{lo hi:Nat}(u:Dn2 rk arr lo hi)(h:lo<hi)(e:kAt rk arr hi<=kAt rk arr (hi-1)):Dn2 rk arr lo (hi+1):=fun i j h1 h2 h3=>by
 by_cases ej:j=hi
 ·by_cases ei:i=hi
  ·rw[ei,ej];exact Do _
  ·have:=u i (hi-1) h1 (by omega) (by omega);rw[ej];omega
 ·exact u i j h1 h2 (by omega)
theorem Dn2.like{rk:B0->Int}{arr arr':Array B0}{lo hi:Nat}(u:Dn2 rk arr lo hi)(h:∀k,kAt rk arr' k=kAt rk arr k):Dn2 rk arr' lo hi:=fun i j h1 h2 h3=>by
 rw[h,h];exact u i j h1 h2 h3
section
variable{prog:Aw}{w:Bq}{A:Bi}{E:A1->A6->Prop}{s:A6}{kd:F8}{S:B0->Prop}{rk:B0->Int}
theorem zg6(C:Ranks prog w A E s kd S rk){i j:Nat}{st:C2}{Q:Option Bool->C2->Prop}(hS:∀x∈(arrOf st).toList,S x)(hk:kindOf st=kd)(hi:i<(arrOf st).size)(hj:j<(arrOf st).size)(q:Q (some (decide (kAt rk (arrOf st) i<kAt rk (arrOf st) j))) st):wpS (model prog w) A E s (ltAt' i j) Q st:=by
 rw[ltAt'_eq];refine Al (Hg (Al (zaM hi (Al (zaM hj (C.ask (zhA hS i hi) (zhA hS j hj) hk ?_))))));rw[za3 hi,za3 hj] at q;exact q
theorem zhz(C:Ranks prog w A E s kd S rk){st:C2}{lo a nrem:Nat}(hS:∀x∈(arrOf st).toList,S x)(hk:kindOf st=kd)(hn:lo+nrem<=(arrOf st).size)(ha:1<=a)(han:a<=nrem)(u:Up2 rk (arrOf st) lo (lo+a)){F:Nat->Option (Option Nat)×Nat->StateT C2 Sem (ForInStep (Option (Option Nat)×Nat))}
  (f:∀x n R,lo+n<(arrOf st).size->1<=n->(if kAt rk (arrOf st) (lo+n)<kAt rk (arrOf st) (lo+n-1) then R (R6 (none,n)) st else R (E6 (none,n+1)) st)->wpS (model prog w) A E s (F x (none,n)) R st):
  wpS (model prog w) A E s (forIn [a:nrem] (none,a) F) (fun c st'=>st'=st/\∃n,c=(none,n)/\a<=n/\n<=nrem/\Up2 rk (arrOf st) lo (lo+n)/\(n=nrem\/kAt rk (arrOf st) (lo+n)<kAt rk (arrOf st) (lo+n-1))) st:=by
 refine D0 (I:=fun x c st'=>st'=st/\c=(none,x)/\Up2 rk (arrOf st) lo (lo+x)) ?step ?fin ⟨rfl,rfl,u⟩
 case fin=>
  rintro c st'⟨rfl,rfl,u'⟩;rw[show max a nrem=nrem by omega] at u'⊢;exact⟨rfl,nrem,rfl,han,Ac _,u',.inl rfl⟩
 case step=>
  rintro x c st' hax hxn⟨rfl,rfl,u'⟩;refine f x x _ (by omega) (by omega) ?_;by_cases hl:kAt rk (arrOf st') (lo+x)<kAt rk (arrOf st') (lo+x-1)
  ·rw[if_pos hl];exact⟨rfl,x,rfl,hax,by omega,u',.inr hl⟩
  ·rw[if_neg hl];exact⟨rfl,rfl,by have:=u'.more (by omega) (by omega);rwa[show lo+x+1=lo+(x+1) by omega] at this⟩
theorem countRun_ok(C:Ranks prog w A E s kd S rk){st:C2}{lo nrem:Nat}{Q:Option Nat->C2->Prop}(hS:∀x∈(arrOf st).toList,S x)(hk:kindOf st=kd)(hn:lo+nrem<=(arrOf st).size)(h1:1<=nrem)
  (q:∀m st',Chg lo (lo+nrem) st st'->1<=m->m<=nrem->Up2 rk (arrOf st') lo (lo+m)->Q (some m) st'):wpS (model prog w) A E s (countRun' lo nrem) Q st:=by
 rw[countRun'_eq];have asc1:∀{st1:C2},Chg lo (lo+nrem) st st1->∀{i j:Nat}{R:Option Bool->C2->Prop},i<(arrOf st).size->j<(arrOf st).size->R (some (decide (kAt rk (arrOf st1) i<kAt rk (arrOf st1) j))) st1->wpS (model prog w) A E s (ltAt' i j) R st1:=fun{st1}c i j R hi hj r=>
  zg6 C (zcl c.perm hS) (c.kind.trans hk) (by rw[c.size];exact hi) (by rw[c.size];exact hj) r
 refine Al (Ef (zhz C hS hk hn (Ac 1) h1 (fun i j a b c=>by rw[show i=j by omega];exact Do _) fun x n R b1 b2 r=>?_) ?_)
 ·refine Al (asc1 (Chg.refl st) (by omega) (by omega) ?_);dsimp only;refine zaq (fun e=>?_) (fun e=>?_)
  ·rw[if_pos (by simpa using e)] at r;exact Ar r
  ·rw[if_neg (by simpa using e)] at r;exact Ar r
 rintro⟨r,n⟩st0⟨e0,n',e,hn1,hn2,u,hor⟩
 cases e
 rw[e0];clear e0 st0;dsimp only;refine zaq (fun e=>Ar (q n _ (Chg.refl _) hn1 hn2 u)) (fun e=>?_);have e:¬n=nrem:=by simpa using e
 have hlt:=hor.resolve_left e;refine zaq (fun g=>?_) (fun g=>?_);refine Al (asc1 (Chg.refl st) (by omega) (by omega) ?_);dsimp only;refine zaq (fun _=>Ar (q n _ (Chg.refl _) hn1 hn2 u)) (fun ng=>?_);have ng:kAt rk (arrOf st) (lo+n-1)<=kAt rk (arrOf st) lo:=by simpa using ng
 have all:∀k,lo<=k->k<lo+n->kAt rk (arrOf st) k=kAt rk (arrOf st) (lo+n-1):=fun k a b=>by
  have a1:=u lo k (Ac _) a b;have a2:=u k (lo+n-1) a (by omega) (by omega);omega
 refine Al (L6 ?_);have c1:=(Chg.refl (lo:=lo) (hi:=lo+nrem) st).mirror (i:=lo) (j:=lo+n) (Ac _) (by omega) (by omega);have d1:Dn2 rk (arrOf (setArr st (mirror (arrOf st) lo (lo+n) ((lo+n-lo) / 2)))) lo (lo+(n+1)):=by
  refine Dn2.like (arr:=arrOf st) ?_ (zbD (by omega) all);have d0:Dn2 rk (arrOf st) lo (lo+n):=fun i j a b c=>by rw[all i a (by omega),all j (by omega) c];exact Do _
  exact d0.more (by omega) (by omega)
 generalize setArr st (mirror (arrOf st) lo (lo+n) ((lo+n-lo) / 2))=st1 at c1 d1⊢
 rotate_left
 have c1:=Chg.refl (lo:=lo) (hi:=lo+nrem) st;have d1:Dn2 rk (arrOf st) lo (lo+(n+1)):=by
  have d0:Dn2 rk (arrOf st) lo (lo+n):=fun i j a b c=>by rw[show i=j by omega];exact Do _
  exact d0.more (by omega) (by omega)
 obtain⟨st1,hh⟩:∃st1,st1=st:=⟨_,rfl⟩;have c1:Chg lo (lo+nrem) st st1:=by rw[hh];exact c1
 have d1:Dn2 rk (arrOf st1) lo (lo+(n+1)):=by rw[hh];exact d1
 rw[<-hh];clear hh
 all_goals
  refine Al (Ix (Gk ⟨rfl,?_⟩));refine Al (Ef (D0 (I:=fun x c st'=>∃neq,c=(none,x,neq)/\Chg lo (lo+nrem) st st'/\Dn2 rk (arrOf st') lo (lo+x)/\neq+1<=x/\∀i,lo+x-(neq+1)<=i->i<lo+x->kAt rk (arrOf st') i=kAt rk (arrOf st') (lo+x-1))
   (Q:=fun c st'=>∃m neq,c=(none,m,neq)/\Chg lo (lo+nrem) st st'/\n+1<=m/\m<=nrem/\Dn2 rk (arrOf st') lo (lo+m)/\neq+1<=m/\∀i,lo+m-(neq+1)<=i->i<lo+m->kAt rk (arrOf st') i=kAt rk (arrOf st') (lo+m-1)) ?step ?fin ⟨0,rfl,c1,d1,by omega,fun i a b=>by congr 1;omega⟩) ?post)
  case fin=>
   rintro c st'⟨neq,rfl,a1,a2,a3,a4⟩;rw[show max (n+1) nrem=nrem by omega] at a2 a3 a4⊢;exact⟨nrem,neq,rfl,a1,by omega,Ac _,a2,a3,a4⟩
  case step=>
   rintro x c st' hx1 hx2⟨neq,rfl,a1,a2,a3,a4⟩;dsimp only;have sz:=a1.size;refine Al (asc1 a1 (by omega) (by omega) ?_);dsimp only;refine zaq (fun e1=>?_) (fun e1=>?_)
   ·have e1:kAt rk (arrOf st') (lo+x)<kAt rk (arrOf st') (lo+x-1):=by simpa using e1
    have d2:Dn2 rk (arrOf st') lo (lo+(x+1)):=a2.more (by omega) (by omega);refine zaq (fun e2=>Al (L6 (Ar ?_))) (fun e2=>Ar ?_)
    ·exact⟨0,rfl,a1.mirror (by omega) (by omega) (by omega),d2.like (zbD (by omega) a4),by omega,fun i a b=>by congr 1;omega⟩
    ·exact⟨0,rfl,a1,d2,by omega,fun i a b=>by congr 1;omega⟩
   ·have e1:kAt rk (arrOf st') (lo+x-1)<=kAt rk (arrOf st') (lo+x):=by simpa using e1
    refine Al (asc1 a1 (by omega) (by omega) ?_);dsimp only;refine zaq (fun e2=>Ar ?_) (fun e2=>Ar ?_)
    ·exact⟨x,neq,rfl,a1,hx1,by omega,a2,a3,a4⟩
    ·have e2:kAt rk (arrOf st') (lo+x)<=kAt rk (arrOf st') (lo+x-1):=by simpa using e2
     refine⟨neq+1,rfl,a1,a2.more (by omega) e2,by omega,fun i a b=>?_⟩;rw[show lo+(x+1)-1=lo+x by omega];by_cases ei:i=lo+x
     ·rw[ei]
     ·rw[a4 i (by omega) (by omega)];omega
  case post=>
   rintro⟨r,m,neq⟩st'⟨m',neq',e2,a1,am,am2,a2,a3,a4⟩
   cases e2
   dsimp only;have sz:=a1.size;refine zaq (fun g2=>?_) (fun g2=>?_);refine Al (L6 ?_);have a5:=a1.mirror (i:=lo+m-(neq+1)) (j:=lo+m) (by omega) (by omega) (by omega);have a6:Dn2 rk (arrOf (setArr st' (mirror (arrOf st') (lo+m-(neq+1)) (lo+m) ((lo+m-(lo+m-(neq+1))) / 2)))) lo (lo+m):=a2.like (zbD (by omega) a4);generalize setArr st' (mirror (arrOf st') (lo+m-(neq+1)) (lo+m) ((lo+m-(lo+m-(neq+1))) / 2))=st2 at a5 a6⊢
   rotate_left
   have a5:=a1;have a6:=a2;clear a1 a2 a3 a4;generalize st'=st2 at a5 a6⊢
   all_goals
    have sz2:=a5.size;have a7:=a5.mirror (i:=lo) (j:=lo+m) (Ac _) (by omega) (by omega);have a8:Up2 rk (arrOf (setArr st2 (mirror (arrOf st2) lo (lo+m) ((lo+m-lo) / 2)))) lo (lo+m):=fun i j b1 b2 b3=>by
     show kAt rk (mirror (arrOf st2) lo (lo+m) ((lo+m-lo) / 2)) i<=kAt rk (mirror (arrOf st2) lo (lo+m) ((lo+m-lo) / 2)) j;rw[zc3 (by omega),zc3 (by omega),if_pos (by omega),if_pos (by omega)];exact a6 _ _ (by omega) (by omega) (by omega)
    refine Al (L6 ?_);generalize setArr st2 (mirror (arrOf st2) lo (lo+m) ((lo+m-lo) / 2))=st3 at a7 a8⊢;have sz3:=a7.size;refine Al (Ef (zhz C (zcl a7.perm hS) (a7.kind.trans hk) (by omega) (show 1<=m by omega) (by omega) a8 fun x n R b1 b2 r=>?_) ?_)
    ·refine Al (asc1 a7 (by omega) (by omega) ?_);dsimp only;refine zaq (fun e=>?_) (fun e=>?_)
     ·rw[if_pos (by simpa using e)] at r;exact Ar r
     ·rw[if_neg (by simpa using e)] at r;exact Ar r
    rintro⟨r,k⟩st4⟨e0,k',ek,b1,b2,b3,_⟩
    cases ek
    rw[e0];exact Ar (q k _ a7 (by omega) b2 b3)
theorem binSort_ok(C:Ranks prog w A E s kd S rk){st:C2}{lo n ok:Nat}{Q:Bool->C2->Prop}(hS:∀x∈(arrOf st).toList,S x)(hk:kindOf st=kd)(hn:lo+n<=(arrOf st).size)(hok:ok<=n)(u:Up2 rk (arrOf st) lo (lo+ok))
  (q:∀st',Chg lo (lo+n) st st'->Up2 rk (arrOf st') lo (lo+n)->Q true st'):wpS (model prog w) A E s (binarySort' lo n ok) Q st:=by
 rw[binarySort'_eq];refine Al (Ef (D0 (I:=fun k c st'=>c=(none,())/\Chg lo (lo+n) st st'/\Up2 rk (arrOf st') lo (lo+min k n)) (Q:=fun c st'=>c=(none,())/\Chg lo (lo+n) st st'/\Up2 rk (arrOf st') lo (lo+n)) ?step ?fin ?init) ?post)
 case post=>
  rintro c st'⟨rfl,a,b⟩;exact Ar (q st' a b)
 case init=>
  refine⟨rfl,Chg.refl _,fun i j a b c=>?_⟩;by_cases h1:ok=0
  ·rw[show i=j by omega];exact Do _
  ·exact u i j a b (by omega)
 case fin=>
  rintro c st'⟨rfl,a,b⟩;refine⟨rfl,a,?_⟩;rwa[show min (max (max ok 1) n) n=n by omega] at b
 case step=>
  rintro k c st' hk1 hk2⟨rfl,a,b⟩;rw[show min k n=k by omega] at b;have sz:=a.size;refine Al (Ef (D0 (I:=fun x c st''=>st''=st'/\∃l r,c=(none,l,r)/\l<=r/\r<=k/\r-l<=k-x/\(∀i,i<l->kAt rk (arrOf st') (lo+i)<=kAt rk (arrOf st') (lo+k))/\(∀i,r<=i->i<k->kAt rk (arrOf st') (lo+k)<kAt rk (arrOf st') (lo+i)))
   (Q:=fun c st''=>st''=st'/\∃l r,c=(none,l,r)/\l<=k/\(∀i,i<l->kAt rk (arrOf st') (lo+i)<=kAt rk (arrOf st') (lo+k))/\(∀i,l<=i->i<k->kAt rk (arrOf st') (lo+k)<kAt rk (arrOf st') (lo+i))) ?istep ?ifin ⟨rfl,0,k,rfl,by omega,by omega,by omega,fun i hi=>by omega,fun i h1 h2=>by omega⟩) ?ipost)
  case ifin=>
   rintro c st''⟨rfl,l,r,rfl,b1,b2,b3,b4,b5⟩;exact⟨rfl,l,r,rfl,by omega,b4,fun i h1 h2=>b5 i (by omega) h2⟩
  case istep=>
   rintro x c st'' _ hx⟨rfl,l,r,rfl,b1,b2,b3,b4,b5⟩;dsimp only;refine zaq (fun e=>Ar ⟨rfl,l,r,rfl,by omega,b4,fun i h1 h2=>b5 i (by omega) h2⟩) (fun e=>?_);refine Al (zg6 C (zcl a.perm hS) (a.kind.trans hk) (by omega) (by omega) ?_);dsimp only;refine zaq (fun e1=>Ar ?_) (fun e1=>Ar ?_)
   ·have e1:kAt rk (arrOf st'') (lo+k)<kAt rk (arrOf st'') (lo+(l+r) / 2):=by simpa using e1
    refine⟨rfl,l,(l+r) / 2,rfl,by omega,by omega,by omega,b4,fun i h1 h2=>?_⟩;have:=b (lo+(l+r) / 2) (lo+i) (by omega) (by omega) (by omega);omega
   ·have e1:kAt rk (arrOf st'') (lo+(l+r) / 2)<=kAt rk (arrOf st'') (lo+k):=by simpa using e1
    refine⟨rfl,(l+r) / 2+1,r,rfl,by omega,by omega,by omega,fun i h1=>?_,b5⟩;have:=b (lo+i) (lo+(l+r) / 2) (by omega) (by omega) (by omega);omega
  case ipost=>
   rintro⟨r0,l,r⟩st''⟨e0,l',r',e,b2,b4,b5⟩
   cases e
   rw[e0];dsimp only;rw[moveDown'_eq];refine Al (K7 (Ar ⟨rfl,a.bubble (by omega) (by omega) (by omega),?_⟩));rw[show min (k+1) n=k+1 by omega];intro i j h1 h2 h3;show kAt rk (bubble (arrOf st') (lo+k) (lo+k-(lo+l))) i<=kAt rk (bubble (arrOf st') (lo+k) (lo+k-(lo+l))) j;rw[zej (by omega) (by omega),zej (by omega) (by omega),show lo+k-(lo+k-(lo+l))=lo+l by omega];by_cases e1:i=lo+l
   ·rw[if_pos e1];by_cases e2:j=lo+l
    ·rw[if_pos e2];exact Do _
    ·rw[if_neg e2,if_pos (by omega)];have:=b5 (j-1-lo) (by omega) (by omega);rw[show lo+(j-1-lo)=j-1 by omega] at this;omega
   ·rw[if_neg e1];by_cases e3:lo+l<i/\i<=lo+k
    ·rw[if_pos e3,if_neg (by omega),if_pos (by omega)];exact b _ _ (by omega) (by omega) (by omega)
    ·rw[if_neg e3];by_cases e2:j=lo+l
     ·rw[if_pos e2];have:=b4 (i-lo) (by omega);rwa[show lo+(i-lo)=i by omega] at this
     ·rw[if_neg e2];by_cases e4:lo+l<j/\j<=lo+k
      ·rw[if_pos e4];exact b _ _ (by omega) (by omega) (by omega)
      ·rw[if_neg e4];exact b _ _ (by omega) (by omega) (by omega)
end
theorem wpS_setSt{M:I0}{A:Bi}{E:A1->A6->Prop}{s:A6}{σ:Type}{x:σ}{Q:PUnit->σ->Prop}{st:σ}(h:Q ⟨⟩ x):wpS M A E s (set x:StateT σ Sem PUnit) Q st:=by
 unfold wpS;rw[StateT.run_set];exact Ai ⟨rfl,h⟩
theorem wpS_setLike{M:I0}{A:Bi}{E:A1->A6->Prop}{s:A6}{x:C2}{Q:PUnit->C2->Prop}{st:C2}(h:∀st',kindOf st'=kindOf x->arrOf st'=arrOf x->pendingOf st'=pendingOf x->failedOf st'=failedOf x->Q ⟨⟩ st'):wpS M A E s (set x:StateT C2 Sem PUnit) Q st:=wpS_setSt (h x rfl rfl rfl rfl)
noncomputable abbrev seg(l:List B0)(lo n:Nat):List B0:=(l.drop lo).take n
theorem mem_seg{l:List B0}{lo n:Nat}{y:B0}(h:y∈seg l lo n):∃j,∃hj:j<l.length,lo<=j/\j<lo+n/\l[j]=y:=by
 obtain⟨j,hj,h1,e⟩:=zbB h;rw[G9] at hj;rw[Jv] at e;exact⟨lo+j,by omega,by omega,by omega,e⟩
theorem seg_split(l:List B0)(lo m n:Nat):seg l lo (m+n)=seg l lo m++seg l (lo+m) n:=by
 unfold seg;rw[Oi,Kw]
theorem seg_whole(l:List B0)(lo n:Nat):l=l.take lo++seg l lo n++l.drop (lo+n):=by
 unfold seg
 conv=>lhs;rw[<-Cd lo l,<-Cd n (l.drop lo)]
 rw[Kw,Av]
theorem zev{rk:B0->Int}{arr:Array B0}{lo hi:Nat}(u:Up2 rk arr lo hi)(h:hi<=arr.size):Srt rk (seg arr.toList lo (hi-lo)):=by
 refine Df.mpr fun i j hi1 hj hij=>?_;have l1:(seg arr.toList lo (hi-lo)).length<=hi-lo:=List.length_take_le _ _;have:=u (lo+i) (lo+j) (by omega) (by omega) (by omega);rw[za3 (by omega),za3 (by omega)] at this;simpa[seg,Ju,Jv] using this
theorem up_seg{rk:B0->Int}{arr:Array B0}{P L R:List B0}(e:arr.toList=P++L++R)(s:Srt rk L):Up2 rk arr P.length (P.length+L.length):=by
 have hz:arr.size=P.length+L.length+R.length:=by
  rw[<-Ax,e,Af,Af]
 intro i j h1 h2 h3;have g:∀k(hk:P.length<=k)(hk2:k<P.length+L.length),kAt rk arr k=rk (L[k-P.length]'(by omega)):=fun k hk hk2=>by
  rw[za3 (by omega),<-zau arr (by omega)];congr 1;have:arr.toList[k]?=some (L[k-P.length]'(by omega)):=by
   rw[e,Co (by rw[Af];omega),Cb hk,A5 (by omega)]
  rw[A5 (by rw[Ax];omega)] at this;exact C1 this
 rw[g i h1 (by omega),g j (by omega) h3];by_cases eij:i=j
 ·subst eij;exact Do _
 ·exact Df.mp s _ _ (by omega) (by omega) (by omega)
theorem zfr(base:Nat):∀(l:List B0)(n:Nat)(arr:Array B0),base+n+l.length<=arr.size->
  ((l.zipIdx n).foldl (fun(a:Array B0)(x:B0×Nat)=>a.setIfInBounds (base+x.2) x.1) arr).toList=arr.toList.take (base+n)++l++arr.toList.drop (base+n+l.length)
 |[],n,arr,h=>by simp
 |x::l,n,arr,h=>by
  rw[At] at h;rw[List.zipIdx_cons,Io,zfr base l (n+1) _ (by rw[Array.size_setIfInBounds];omega)];dsimp only;rw[Kr];have hb:base+n<arr.toList.length:=by rw[Ax];omega
  have e1:(arr.toList.set (base+n) x).take (base+(n+1))=arr.toList.take (base+n)++[x]:=by
   rw[show base+(n+1)=base+n+1 by omega,Cs (by rw[O3];exact hb),List.getElem_set_self,List.take_set_of_le (Ac _)]
  have e2:(arr.toList.set (base+n) x).drop (base+(n+1)+l.length)=arr.toList.drop (base+n+(x::l).length):=by
   rw[List.drop_set_of_lt (by omega),At];congr 1;omega
  rw[e1,e2];simp
noncomputable abbrev Pend:=Array (Nat×Nat×Nat)
theorem pend_at{p:Pend}{pre post:List (Nat×Nat×Nat)}{x y:Nat×Nat×Nat}(e:p.toList=pre++x::y::post):p[pre.length]?=some x/\p[pre.length+1]?=some y:=by
 constructor
 ·rw[<-Ck,e];simp
 ·rw[<-Ck,e];simp
theorem pend_new{p:Pend}{pre post:List (Nat×Nat×Nat)}{x y z:Nat×Nat×Nat}(e:p.toList=pre++x::y::post):((p.setIfInBounds pre.length z).eraseIdxIfInBounds (pre.length+1)).toList=pre++z::post:=by
 rw[Array.toList_eraseIdxIfInBounds,Kr,e];simp[List.eraseIdx_append_of_length_le]
theorem back_out{arr arr':Array B0}{b:Nat}{M:List B0}(e:arr'.toList=arr.toList.take b++M++arr.toList.drop (b+M.length))(h:b+M.length<=arr.size):∀i,(i<b\/b+M.length<=i)->arr'[i]?=arr[i]?:=fun i hi=>by
 rw[<-Ck,<-Ck,e];have lb:(arr.toList.take b).length=b:=by rw[Cg,Ax];omega
 rcases hi with z|z
 ·rw[Co (by rw[Af];omega),Co (by omega),Lf z]
 ·rw[Cb (by rw[Af];omega),List.getElem?_drop,Af,lb];congr 1;omega
theorem zcW{M:I0}{A:Bi}{E:A1->A6->Prop}{s:A6}{f:C2->C2}{Q:PUnit->C2->Prop}{st:C2}(h:∀st',kindOf st'=kindOf (f st)->arrOf st'=arrOf (f st)->pendingOf st'=pendingOf (f st)->failedOf st'=failedOf (f st)->Q ⟨⟩ st'):wpS M A E s (modify f:StateT C2 Sem PUnit) Q st:=K7 (h _ rfl rfl rfl rfl)
section
variable{prog:Aw}{w:Bq}{A:Bi}{E:A1->A6->Prop}{s:A6}{kd:F8}{S:B0->Prop}{rk:B0->Int}
structure Mrg(rk:B0->Int)(lo hi:Nat)(st st':C2)(p':List (Nat×Nat×Nat)):Prop where
 kind:kindOf st'=kindOf st
 fail:failedOf st'=failedOf st
 pend:(pendingOf st').toList=p'
 perm:(arrOf st').Perm (arrOf st)
 out:∀i,(i<lo\/hi<=i)->(arrOf st')[i]?=(arrOf st)[i]?
 up:Up2 rk (arrOf st') lo hi
theorem mergeAt_ok(C:Ranks prog w A E s kd S rk){st:C2}{sa na p1 nb p2:Nat}{pre post:List (Nat×Nat×Nat)}{Q:Bool->C2->Prop}(hS:∀x∈(arrOf st).toList,S x)(hk:kindOf st=kd)(hf:failedOf st=none)(hp:(pendingOf st).toList=pre++(sa,na,p1)::(sa+na,nb,p2)::post)(h1:0<na)(h2:0<nb)(hz:sa+na+nb<=(arrOf st).size)(ua:Up2 rk (arrOf st) sa (sa+na))(ub:Up2 rk (arrOf st) (sa+na) (sa+na+nb))
  (q:∀st',Mrg rk sa (sa+na+nb) st st' (pre++(sa,na+nb,p1)::post)->Q true st'):wpS (model prog w) A E s (mergeAt' pre.length) Q st:=by
 obtain⟨g1,g2⟩:=pend_at hp;have hn:=pend_new (z:=(sa,na+nb,p1)) hp;refine Al (Hg ?_);dsimp only;unfold pendingOf at g1 g2;rw[g1,g2];dsimp only;refine Al (wpS_setLike fun st1 k1 a1 q1 f1=>?_);have k1:kindOf st1=kindOf st:=k1;have a1:arrOf st1=arrOf st:=a1;have f1:failedOf st1=failedOf st:=f1;have q1:(pendingOf st1).toList=pre++(sa,na+nb,p1)::post:=by rw[q1];exact hn
 have hk1:kindOf st1=kd:=k1.trans hk;have same:Up2 rk (arrOf st) sa (sa+na+nb)->Q true st1:=fun u=>q st1 ⟨k1,f1,q1,a1▸G8 _,fun i _=>by rw[a1],by rw[a1];exact u⟩;have hA:=zhA hS;have i1:sa+na<(arrOf st).size:=by omega
 refine Al (zaM i1 ?_);refine Al (zbO C (arr:=arrOf st) (hA _ i1) (fun i h _ _=>hA i h) (by omega) (by omega) ua hk1 fun k j1 j2 j3=>?_);dsimp only;simp only[Bt,if_false,<-za3 (rk:=rk) i1] at j2 j3;refine zaq (fun e=>Ar (same ?_)) (fun e=>?_)
 ·have e:na-k=0:=by simpa using e
  intro i j b1 b2 b3;by_cases e1:j<sa+na
  ·exact ua i j b1 b2 e1
  by_cases e2:sa+na<=i
  ·exact ub i j e2 b2 b3
  have a2:=j2 (i-sa) (by omega);rw[show sa+(i-sa)=i by omega] at a2;have a3:=ub (sa+na) j (Ac _) (by omega) b3;omega
 have e:¬na-k=0:=by simpa using e
 have hidx:sa+k+(na-k)-1=sa+na-1:=by omega
 rw[hidx];have i2:sa+na-1<(arrOf st).size:=by omega
 refine Al (zaM i2 ?_);refine Al (zbO C (arr:=arrOf st) (hA _ i2) (fun i h _ _=>hA i h) (by omega) (by omega) ub hk1 fun m j4 j5 j6=>?_);dsimp only;simp only[if_true,<-za3 (rk:=rk) i2] at j5 j6;refine zaq (fun e0=>Ar (same ?_)) (fun e0=>?_)
 ·have e0:m=0:=by simpa using e0
  intro i j b1 b2 b3;by_cases e1:j<sa+na
  ·exact ua i j b1 b2 e1
  by_cases e2:sa+na<=i
  ·exact ub i j e2 b2 b3
  have a2:=j6 (j-(sa+na)) (by omega) (by omega);rw[show sa+na+(j-(sa+na))=j by omega] at a2;have a3:=ua i (sa+na-1) b1 (by omega) (by omega);omega
 have e0:¬m=0:=by simpa using e0
 have lL:(arrOf st).toList.length=(arrOf st).size:=Ax;have xl:((arrOf st).extract (sa+k) (sa+na)).toList=seg (arrOf st).toList (sa+k) (na-k):=by rw[zaR,show sa+na-(sa+k)=na-k by omega]
 have yl:((arrOf st).extract (sa+na) (sa+na+m)).toList=seg (arrOf st).toList (sa+na) m:=by rw[zaR,Cz]
 have xs:((arrOf st).extract (sa+k) (sa+na)).size=na-k:=by rw[N4];omega
 have ys:((arrOf st).extract (sa+na) (sa+na+m)).size=m:=by rw[N4];omega
 have srtX:Srt rk (seg (arrOf st).toList (sa+k) (na-k)):=by
  have:=zev (lo:=sa+k) (hi:=sa+na) (fun i j b1 b2 b3=>ua i j (by omega) b2 b3) (by omega);rwa[show sa+na-(sa+k)=na-k by omega] at this
 have srtY:Srt rk (seg (arrOf st).toList (sa+na) m):=by
  have:=zev (lo:=sa+na) (hi:=sa+na+m) (fun i j b1 b2 b3=>ub i j (by omega) b2 (by omega)) (by omega);rwa[Cz] at this
 have atSeg:∀{lo n:Nat}{y:B0},y∈seg (arrOf st).toList lo n->∃j,lo<=j/\j<lo+n/\j<(arrOf st).size/\rk y=kAt rk (arrOf st) j:=fun{lo n y}hy=>by
  obtain⟨j,hj,b1,b2,b3⟩:=mem_seg hy;have hj2:j<(arrOf st).size:=by omega
  refine⟨j,b1,b2,hj2,?_⟩;rw[<-b3,za3 hj2,zau _ hj2]
 have cX:∀y∈seg (arrOf st).toList (sa+k) (na-k),kAt rk (arrOf st) (sa+na)<=rk y/\rk y<=kAt rk (arrOf st) (sa+na-1):=fun y hy=>by
  obtain⟨j,b1,b2,b3,b4⟩:=atSeg hy;have a2:=j3 (j-sa) (by omega) (by omega);rw[show sa+(j-sa)=j by omega] at a2;have a3:=ua j (sa+na-1) (by omega) (by omega) (by omega);omega
 have cY:∀y∈seg (arrOf st).toList (sa+na) m,kAt rk (arrOf st) (sa+na)<=rk y/\rk y<=kAt rk (arrOf st) (sa+na-1):=fun y hy=>by
  obtain⟨j,b1,b2,b3,b4⟩:=atSeg hy;have a2:=j5 (j-(sa+na)) (by omega);rw[show sa+na+(j-(sa+na))=j by omega] at a2;have a3:=ub (sa+na) j (by omega) (by omega) (by omega);omega
 have fin:∀(res:Array B0)(st2:C2),Like st1 st2->MFin rk ((arrOf st).extract (sa+k) (sa+na)).toList ((arrOf st).extract (sa+na) (sa+na+m)).toList res.toList->∀st3,kindOf st3=kindOf st2->arrOf st3=Ku (fun(a:Array B0)(x:B0×Nat)=>a.setIfInBounds (sa+k+x.2) x.1) (arrOf st2) res.toList.zipIdx->pendingOf st3=pendingOf st2->failedOf st3=failedOf st2->Mrg rk sa (sa+na+nb) st st3 (pre++(sa,na+nb,p1)::post):=fun res st2 hL hM st3 k3 a3 q3 f3=>by
  rw[xl,yl] at hM;have lM:res.toList.length=na-k+m:=by
   rw[hM.1.length_eq,Af,<-xl,<-yl,Ax,Ax,xs,ys]
  rw[hL.2.1,a1] at a3;have b3:=congrArg Lp a3;rw[zfr (sa+k) res.toList 0 (arrOf st) (by omega),Gv] at b3;have ew:(arrOf st).toList=(arrOf st).toList.take (sa+k)++(seg (arrOf st).toList (sa+k) (na-k)++seg (arrOf st).toList (sa+na) m)++(arrOf st).toList.drop (sa+k+res.toList.length):=by
   rw[lM];have:=seg_whole (arrOf st).toList (sa+k) (na-k+m);rwa[seg_split,show sa+k+(na-k)=sa+na by omega] at this
  refine⟨k3.trans (hL.1.trans k1),f3.trans (hL.2.2.2.trans f1),by rw[q3,hL.2.2.1,q1],?_,fun i hi=>back_out b3 (by omega) i (by omega),?_⟩
  ·refine Gw.mpr ?_;rw[b3]
   conv=>rhs;rw[ew]
   exact Hh _ (Dg _ hM.1)
  ·have e1:(arrOf st).toList.take (sa+k)=(arrOf st).toList.take sa++seg (arrOf st).toList sa k:=Oi;have e2:(arrOf st).toList.drop (sa+k+res.toList.length)=seg (arrOf st).toList (sa+na+m) (nb-m)++(arrOf st).toList.drop (sa+na+nb):=by
    rw[lM,show sa+k+(na-k+m)=sa+na+m by omega];unfold seg
    conv=>lhs;rw[<-Cd (nb-m) ((arrOf st).toList.drop (sa+na+m))]
    rw[Kw,show sa+na+m+(nb-m)=sa+na+nb by omega]
   have e3:(arrOf st3).toList=(arrOf st).toList.take sa++(seg (arrOf st).toList sa k++res.toList++seg (arrOf st).toList (sa+na+m) (nb-m))++(arrOf st).toList.drop (sa+na+nb):=by
    rw[b3,e1,e2];simp
   have cM:∀y∈res.toList,kAt rk (arrOf st) (sa+na)<=rk y/\rk y<=kAt rk (arrOf st) (sa+na-1):=fun y hy=>by
    rcases Ap.mp (hM.1.mem_iff.mp hy) with z|z
    ·exact cX y z
    ·exact cY y z
   have cA:∀y∈seg (arrOf st).toList sa k,rk y<=kAt rk (arrOf st) (sa+na):=fun y hy=>by
    obtain⟨j,b1,b2,b3,b4⟩:=atSeg hy;have a2:=j2 (j-sa) (by omega);rw[show sa+(j-sa)=j by omega] at a2;omega
   have cB:∀y∈seg (arrOf st).toList (sa+na+m) (nb-m),kAt rk (arrOf st) (sa+na-1)<=rk y/\kAt rk (arrOf st) (sa+na)<=rk y:=fun y hy=>by
    obtain⟨j,b1,b2,b3,b4⟩:=atSeg hy;have a2:=j6 (j-(sa+na)) (by omega) (by omega);rw[show sa+na+(j-(sa+na))=j by omega] at a2;have a3:=ub (sa+na) j (by omega) (by omega) (by omega);omega
   have sA:Srt rk (seg (arrOf st).toList sa k):=by
    have:=zev (lo:=sa) (hi:=sa+k) (fun i j b1 b2 b3=>ua i j (by omega) b2 (by omega)) (by omega);rwa[Cz] at this
   have sB:Srt rk (seg (arrOf st).toList (sa+na+m) (nb-m)):=by
    have:=zev (lo:=sa+na+m) (hi:=sa+na+nb) (fun i j b1 b2 b3=>ub i j (by omega) b2 (by omega)) (by omega);rwa[show sa+na+nb-(sa+na+m)=nb-m by omega] at this
   have sAll:Srt rk (seg (arrOf st).toList sa k++res.toList++seg (arrOf st).toList (sa+na+m) (nb-m)):=by
    refine C3.mpr ⟨C3.mpr ⟨sA,hM.2,fun x hx y hy=>Mf (cA x hx) (cM y hy).1⟩,sB,fun x hx y hy=>?_⟩;rcases Ap.mp hx with z|z
    ·exact Mf (cA x z) (cB y hy).2
    ·exact Mf (cM x z).2 (cB y hy).1
   have:=up_seg e3 sAll;have l1:((arrOf st).toList.take sa).length=sa:=by rw[Cg];omega
   have l2:(seg (arrOf st).toList sa k++res.toList++seg (arrOf st).toList (sa+na+m) (nb-m)).length=na+nb:=by
    rw[Af,Af,lM];unfold seg;rw[Cg,Cg,G9,G9];omega
   rwa[l1,l2,<-Du] at this
 have x0:0<((arrOf st).extract (sa+k) (sa+na)).size:=by omega
 have y0:0<((arrOf st).extract (sa+na) (sa+na+m)).size:=by omega
 have hX:Srt rk ((arrOf st).extract (sa+k) (sa+na)).toList:=by rw[xl];exact srtX
 have hY:Srt rk ((arrOf st).extract (sa+na) (sa+na+m)).toList:=by rw[yl];exact srtY
 have SX:∀i(h:i<((arrOf st).extract (sa+k) (sa+na)).size),S ((arrOf st).extract (sa+k) (sa+na))[i]:=fun i h=>by rw[G7];exact hA _ _
 have SY:∀i(h:i<((arrOf st).extract (sa+na) (sa+na+m)).size),S ((arrOf st).extract (sa+na) (sa+na+m))[i]:=fun i h=>by rw[G7];exact hA _ _
 have Y0:rk (((arrOf st).extract (sa+na) (sa+na+m))[0]'y0)=kAt rk (arrOf st) (sa+na):=by
  rw[za3 i1,G7];rfl
 have XL:rk (((arrOf st).extract (sa+k) (sa+na))[((arrOf st).extract (sa+k) (sa+na)).size-1]'(by omega))=kAt rk (arrOf st) (sa+na-1):=by
  rw[za3 i2,G7];congr 2;rw[xs];omega
 have hh0:∀y∈((arrOf st).extract (sa+k) (sa+na)).toList,rk (((arrOf st).extract (sa+na) (sa+na+m))[0]'y0)<=rk y:=fun y hy=>by
  rw[xl] at hy;rw[Y0];exact(cX y hy).1
 have hhl:∀y∈((arrOf st).extract (sa+na) (sa+na+m)).toList,rk y<=rk (((arrOf st).extract (sa+k) (sa+na))[((arrOf st).extract (sa+k) (sa+na)).size-1]'(by omega)):=fun y hy=>by
  rw[yl] at hy;rw[XL];exact(cY y hy).2
 refine zaq (fun _=>Al (mergeLo_ok C x0 y0 hX hY SX SY hh0 hhl hk1 fun res st2 hL hM=>Al (zcW fun st3 k3 a3 q3 f3=>?_))) (fun _=>Al (mergeHi_ok C x0 y0 hX hY SX SY hh0 hhl hk1 fun res st2 hL hM=>Al (zcW fun st3 k3 a3 q3 f3=>?_)))
 all_goals
  have r:=fin res st2 hL hM st3 k3 a3 q3 f3;have fl:failedOf st3=none:=r.fail.trans hf;refine Al (Hg ?_);unfold failedOf at fl;rw[fl];exact Ar (q st3 r)
end
noncomputable def Stk(rk:B0->Int)(arr:Array B0):List (Nat×Nat×Nat)->Nat->Nat->Prop
 |[],a,e=>a=e
 |x::r,a,e=>x.1=a/\0<x.2.1/\Up2 rk arr a (a+x.2.1)/\Stk rk arr r (a+x.2.1) e
section
variable{rk:B0->Int}{arr arr':Array B0}
theorem Stk.le:∀{l:List (Nat×Nat×Nat)}{a e:Nat},Stk rk arr l a e->a+l.length<=e
 |[],a,e,h=>by have h:a=e:=h;simp;omega
 |x::r,a,e,⟨h1,h2,h3,h4⟩=>by have:=Stk.le h4;rw[At];omega
theorem Stk.congr:∀{l:List (Nat×Nat×Nat)}{a e:Nat},(∀i,a<=i->i<e->kAt rk arr' i=kAt rk arr i)->Stk rk arr l a e->Stk rk arr' l a e
 |[],a,e,_,h=>h
 |x::r,a,e,hc,⟨h1,h2,h3,h4⟩=>by
  have:=Stk.le h4;refine⟨h1,h2,fun i j b1 b2 b3=>?_,Stk.congr (fun i b1 b2=>hc i (by omega) b2) h4⟩;rw[hc i b1 (by omega),hc j (by omega) (by omega)];exact h3 i j b1 b2 b3
theorem Stk.split:∀{l m:List (Nat×Nat×Nat)}{a e:Nat},Stk rk arr (l++m) a e->∃b,Stk rk arr l a b/\Stk rk arr m b e
 |[],m,a,e,h=>⟨a,rfl,h⟩
 |x::r,m,a,e,⟨h1,h2,h3,h4⟩=>by
  obtain⟨b,g1,g2⟩:=Stk.split h4;exact⟨b,⟨h1,h2,h3,g1⟩,g2⟩
theorem Stk.join:∀{l m:List (Nat×Nat×Nat)}{a b e:Nat},Stk rk arr l a b->Stk rk arr m b e->Stk rk arr (l++m) a e
 |[],m,a,b,e,h,k=>by have h:a=b:=h;rw[h];exact k
 |x::r,m,a,b,e,⟨h1,h2,h3,h4⟩,k=>⟨h1,h2,h3,Stk.join h4 k⟩
theorem Stk.mod{f:Nat×Nat×Nat->Nat×Nat×Nat}(hf:∀x,(f x).1=x.1/\(f x).2.1=x.2.1):∀{l:List (Nat×Nat×Nat)}{i a e:Nat},Stk rk arr l a e->Stk rk arr (l.modify i f) a e
 |[],i,a,e,h=>by cases i<;>simpa[List.modify_nil] using h
 |x::r,0,a,e,⟨h1,h2,h3,h4⟩=>by
  show Stk rk arr (f x::r) a e;refine⟨(hf x).1.trans h1,?_,?_,?_⟩
  ·rw[(hf x).2];exact h2
  ·rw[(hf x).2];exact h3
  ·rw[(hf x).2];exact h4
 |x::r,i+1,a,e,⟨h1,h2,h3,h4⟩=>⟨h1,h2,h3,Stk.mod hf h4⟩
theorem two_at{α:Type}{l:List α}{i:Nat}(h:i+1<l.length):∃pre x y post,l=pre++x::y::post/\pre.length=i:=by
 refine⟨l.take i,l[i]'(by omega),l[i+1],l.drop (i+2),?_,by rw[Cg];omega⟩
 conv=>lhs;rw[<-Cd i l]
 rw[Hf (show i<l.length by omega),Hf h]
end
section
variable{prog:Aw}{w:Bq}{A:Bi}{E:A1->A6->Prop}{s:A6}{kd:F8}{S:B0->Prop}{rk:B0->Int}
structure Stg(rk:B0->Int)(kd:F8)(a₀:Array B0)(st:C2)(e:Nat):Prop where
 kind:kindOf st=kd
 fail:failedOf st=none
 perm:(arrOf st).Perm a₀
 stk:Stk rk (arrOf st) (pendingOf st).toList 0 e
 le:e<=a₀.size
theorem zdN(C:Ranks prog w A E s kd S rk){a₀:Array B0}{st:C2}{i e:Nat}{Q:Bool->C2->Prop}(hS:∀x∈a₀.toList,S x)(g:Stg rk kd a₀ st e)(hi:i+1<(pendingOf st).size)
  (q:∀st',Stg rk kd a₀ st' e->(pendingOf st').size+1=(pendingOf st).size->(∀j,e<=j->(arrOf st')[j]?=(arrOf st)[j]?)->Q true st'):wpS (model prog w) A E s (mergeAt' i) Q st:=by
 obtain⟨pre,⟨sa,na,p1⟩,⟨sb,nb,p2⟩,post,hp,rfl⟩:=two_at (l:=(pendingOf st).toList) (i:=i) (by rw[Ax];exact hi);have hs:=g.stk;rw[hp] at hs;obtain⟨b,s1,e1,n1,u1,e2,n2,u2,s2⟩:=hs.split;dsimp only at e1 n1 u1 e2 n2 u2 s2;subst e1 e2;have sz:=g.perm.size_eq;have l2:=s2.le;have le:=g.le;refine mergeAt_ok C (zcl g.perm hS) g.kind g.fail hp n1 n2 (by omega) u1 u2 fun st' m=>?_;refine q st' ⟨m.kind.trans g.kind,m.fail.trans g.fail,m.perm.trans g.perm,?_,g.le⟩ ?_ fun j hj=>m.out j (.inr (by omega))
 ·rw[m.pend];refine Stk.join (b:=sa) (s1.congr fun i b1 b2=>zbb (m.out i (.inl b2))) ⟨rfl,by show 0<na+nb;omega,?_,?_⟩
  ·have:=m.up;show Up2 rk _ sa (sa+(na+nb));rwa[<-Du]
  ·show Stk rk _ post (sa+(na+nb)) e;rw[<-Du];exact s2.congr fun i b1 b2=>zbb (m.out i (.inr b1))
 ·rw[<-Ax,<-Ax,m.pend,hp,Af,Af,At,At,At];omega
theorem zdt(C:Ranks prog w A E s kd S rk){st:C2}{Q:Unit->C2->Prop}(hS:∀x∈(arrOf st).toList,S x)(hk:kindOf st=kd)(hf:failedOf st=none)(hp:pendingOf st=#[])(h2:2<=(arrOf st).size)
  (q:∀st',(arrOf st').Perm (arrOf st)->failedOf st'=none->Up2 rk (arrOf st') 0 (arrOf st).size->Q () st'):wpS (model prog w) A E s sortRuns' Q st:=by
 rw[sortRuns'_eq];refine Al (Hg ?_);dsimp only;obtain⟨a₀,ha⟩:∃a,a=arrOf st:=⟨_,rfl⟩;have g0:Stg rk kd a₀ st 0:=⟨hk,hf,ha▸G8 _,by rw[hp];exact rfl,Bz _⟩;rw[<-ha] at hS h2⊢;rw[<-ha] at q;refine Al (Ef (D0 (I:=fun x c st'=>∃lo,c=(none,lo)/\Stg rk kd a₀ st' lo/\(x<=lo\/lo=a₀.size)) (Q:=fun c st'=>∃lo,c=(none,lo)/\Stg rk kd a₀ st' lo/\lo=a₀.size) ?step ?fin ⟨0,rfl,g0,.inl (Bz _)⟩) ?post)
 case fin=>
  rintro c st'⟨lo,rfl,g,h⟩;have:=g.le;exact⟨lo,rfl,g,by omega⟩
 case step=>
  rintro x c st1 _ hx⟨lo,rfl,g,hlo⟩;dsimp only;have gle:=g.le;refine zaq (fun e=>Ar ⟨lo,rfl,g,by omega⟩) (fun e=>?_);have sz:=g.perm.size_eq;refine Al (countRun_ok C (zcl g.perm hS) g.kind (by omega) (by omega) fun n st2 c2 n1 n2 u2=>?_);have keep:∀{st2:C2},Chg lo a₀.size st1 st2->Stg rk kd a₀ st2 lo:=fun c2=>⟨c2.kind.trans g.kind,c2.fail.trans g.fail,c2.perm.trans g.perm,by rw[c2.pend];exact g.stk.congr fun i b1 b2=>zbb (c2.out i (.inl b2)),g.le⟩;have c2':Chg lo a₀.size st1 st2:=c2.wide (Ac _) (by omega);have g2:=keep c2';have sz2:=g2.perm.size_eq;dsimp only;refine zaq (fun hm=>Al (Ix (Gk ⟨rfl,Al (binSort_ok C (zcl g2.perm hS) g2.kind (by omega) (by omega) u2 fun st3 c3 u3=>?_)⟩))) (fun hm=>?_);simp only[En,Bt,if_false];have g3:=keep (c2'.trans (c3.wide (Ac _) (by omega)));generalize hn3:min (a₀.size-lo) (minRun' a₀.size a₀.size 0)=n3 at u3⊢;have n31:1<=n3:=by omega
  have n32:lo+n3<=a₀.size:=by omega
  rotate_left
  have g3:=g2;have u3:=u2;have n31:=n1;have n32:lo+n<=a₀.size:=by omega
  clear c2 c2' u2 g2 n2 n1 hm sz2;generalize st2=st3 at g3 u3⊢;generalize n=n3 at u3 n31 n32⊢
  all_goals
   have push:∀{st4:C2},Stg rk kd a₀ st4 lo->Up2 rk (arrOf st4) lo (lo+n3)->Stg rk kd a₀ (setPending st4 ((pendingOf st4).push (lo,n3,0))) (lo+n3):=fun{st4}g4 u4=>⟨g4.kind,g4.fail,g4.perm,by
    show Stk rk (arrOf st4) ((pendingOf st4).push (lo,n3,0)).toList 0 (lo+n3);rw[Ch];exact g4.stk.join ⟨rfl,n31,u4,rfl⟩,n32⟩
   refine Al (Hg ?_)
   cases hb:(pendingOf st3).back? with
   |none=>exact Al (K7 (Ar ⟨lo+n3,rfl,push g3 u3,by omega⟩))
   |some t=>
    obtain⟨s1,n1',pp⟩:=t;dsimp only;refine Al (Ef (D0 (I:=fun _ c st'=>c=(none,())/\Stg rk kd a₀ st' lo/\Up2 rk (arrOf st') lo (lo+n3)) (Q:=fun c st'=>c=(none,())/\Stg rk kd a₀ st' lo/\Up2 rk (arrOf st') lo (lo+n3)) ?_ (fun _ _ h=>h) ⟨rfl,g3,u3⟩) ?_)
    ·rintro y c st4 _ _⟨rfl,g4,u4⟩;refine Al (Hg ?_);by_cases hps:(pendingOf st4).size>1
     ·rw[if_pos hps]
      cases hq:(pendingOf st4)[(pendingOf st4).size-2]? with
      |none=>exact Ar ⟨rfl,g4,u4⟩
      |some t=>
       obtain⟨t1,t2,older⟩:=t;dsimp only;refine zaq (fun _=>Ar ⟨rfl,g4,u4⟩) (fun _=>Al (zdN C hS g4 (by omega) fun st5 g5 _ o5=>?_));simp only[En,Bt,if_false];refine Ar ⟨rfl,g5,fun i j b1 b2 b3=>?_⟩;rw[zbb (o5 i b1),zbb (o5 j (by omega))];exact u4 i j b1 b2 b3
     ·rw[if_neg hps];exact Ar ⟨rfl,g4,u4⟩
    ·rintro c st4⟨rfl,g4,u4⟩;dsimp only;refine Al (zcW fun st5 k5 a5 q5 f5=>Al (K7 (Ar ⟨lo+n3,rfl,push (st4:=st5) ?_ ?_,by omega⟩)))
     ·refine⟨k5.trans g4.kind,f5.trans g4.fail,by rw[a5];exact g4.perm,?_,g4.le⟩;rw[a5,q5];show Stk rk (arrOf st4) ((pendingOf st4).modify _ _).toList 0 lo;rw[Array.toList_modify];refine Stk.mod ?_ g4.stk;exact fun x=>⟨rfl,rfl⟩
     ·rw[a5];exact u4
 case post=>
  rintro c st1⟨lo,rfl,g,rfl⟩;dsimp only;have l1:=g.stk.le;rw[Ax] at l1;refine Al (Ef (D0 (I:=fun x c st'=>c=(none,())/\Stg rk kd a₀ st' a₀.size/\((pendingOf st').size<=1\/(pendingOf st').size+x<=a₀.size)) (Q:=fun c st'=>c=(none,())/\Stg rk kd a₀ st' a₀.size/\(pendingOf st').size<=1) ?_ ?_ ⟨rfl,g,.inr (by omega)⟩) ?_)
  ·rintro x c st2 _ hx⟨rfl,g2,hp2⟩;refine Al (Hg ?_);refine zaq (fun e=>Ar ⟨rfl,g2,e⟩) (fun e=>?_);refine Al (zdN C hS g2 ?_ fun st5 g5 z5 o5=>?_)
   ·by_cases hb:Option.any (fun x=>decide (x<Option.elim (pendingOf st2)[(pendingOf st2).size-2+1]? 0 fun x=>x.2.1)) (if(pendingOf st2).size-2>0 then Mm (fun x=>x.2.1) (pendingOf st2)[(pendingOf st2).size-2-1]? else none)=true
    ·rw[if_pos hb];omega
    ·rw[if_neg hb];omega
   ·simp only[En,Bt,if_false];exact Ar ⟨rfl,g5,by omega⟩
  ·rintro c st2⟨rfl,g2,hp2⟩;exact⟨rfl,g2,by omega⟩
  ·rintro c st2⟨rfl,g2,hp2⟩;refine Ar (q st2 g2.perm g2.fail ?_);have hs:=g2.stk;have hl:(pendingOf st2).toList.length<=1:=by rw[Ax];exact hp2
   match hm:(pendingOf st2).toList,hs,hl with
   |[],hs,_=>have hs:0=a₀.size:=hs;omega
   |[x],⟨b1,b2,b3,b4⟩,_=>
    have b4:0+x.2.1=a₀.size:=b4;rwa[b4] at b3
end
end L2
namespace L2
open PySem PySem.Spec PyProof.Rows PySem.W
noncomputable def rkI:B0->Int:=fun k=>numOf k.1
section
variable{prog:Aw}{w:Bq}{A:Bi}{E:A1->A6->Prop}{s:A6}
theorem ranks_int:Ranks prog w A E s oneType' (fun k=>∃n t,k.1= .int n t) rkI:=⟨fun{x y st Q}hx hy hk q=>by
 obtain⟨x1,x2⟩:=x;obtain⟨y1,y2⟩:=y;obtain⟨n,t,e⟩:=hx;obtain⟨m,u,e2⟩:=hy;dsimp only at e e2;subst e e2;rw[lt'_eq];refine Al (Hg ?_);rw[hk,Qa];exact Al (Ix (K4 (oneLt_int ⟨rfl,Ar q⟩)))⟩
theorem sortI{a:A7}{vs:List A1}{ns:List Int}{n:Nat}{P:Nj->A6->Prop}(ho:s.heap.get? a=some (seqObj "list" vs.toArray n))(hI:E4 vs ns)(hb:vs.length<=sizeLine)
  (q:∀(out:Array A1)(ns':List Int),E4 out.toList ns'->ns'.Perm ns->ns'.Pairwise (· <= ·)->P (.done (.ret .none)) {s with heap:=sortedHeap s.heap a vs out}):
  wpAny (model prog w) A (Hi.«list.sort» ⟨[.ref a],[]⟩) P E s:=by
 have fin:∀st':C2,(arrOf st').Perm (pairsOf vs)->Up2 rkI (arrOf st') 0 (pairsOf vs).size->P (.done (.ret .none)) {s with heap:=sortedHeap s.heap a vs ((arrOf st').map (·.2))}:=fun st' hp hs=>by
  obtain⟨ns',b1,b2,b3⟩:=sorted_out hI hp (fun i j hij hj=>hs i j (Bz _) hij hj);exact q _ ns' b1 b2 b3
 rw[Pf];have hlt:=Au ho;obtain⟨e1,o1⟩:∃e,(s.heap.update a (Eo fun _=>(#[]:Array A1))).get? a=some (seqObj "list" #[] e):=⟨_,Ph ho fun _=>#[]⟩;have hz:vs.toArray.size=vs.length:=B5;refine A0 (Nf ho rfl (A0 (Gp ho rfl (A0 (Hv o1 rfl (A0 (Q8 (A0 (Ie (Dy ?_) (Bz _))) (by show vs.length<=_;omega))))) (by rw[hz];omega) (Bz _))));have o6:(((s.heap.update a (Eo fun _=>(#[]:Array A1))).push (seqObj "tuple" vs.toArray 0)).push (seqObj "list" #[] 0)).get? a=some (seqObj "list" #[] e1):=Ae _ (Ae _ o1);show wpAny (model prog w) A _ P E {s with heap:=((s.heap.update a (Eo fun _=>(#[]:Array A1))).push (seqObj "tuple" vs.toArray 0)).push (seqObj "list" #[] 0)};dsimp only;by_cases h2:vs.toArray.size<2
 ·rw[if_pos h2,if_pos h2];refine A0 (Ai ?_);rw[Ni];refine A0 (Ai ?_);dsimp only;refine A0 (Hv o6 rfl (A0 (Gp o6 rfl ?_ (Bz _) (by rw[J7];show(pairsOf vs).size<=_;rw[Fh];omega))));simp only[bne_self_eq_false,Bt,if_false];refine Ai (fin (Ke general' (vs.toArray.zip vs.toArray) #[] 7 none) (G8 _) fun i j _ hij hj=>?_);rw[Fh] at hj;rw[show i=j by omega];exact Do _
 ·rw[if_neg h2,if_neg h2];have hkk:keyKind' vs.toArray=pure oneType':=by
   match vs,hI,h2 with
   |[],_,h2=>simp at h2
   |[_],_,h2=>simp at h2
   |v₁::v₂::r,hI,_=>exact keyKind_ints hI
  rw[hkk];refine A0 (Ai ?_);refine A0 (Dq (zdt (ranks_int (E:=E)) (st:=Ke oneType' (vs.toArray.zip vs.toArray) #[] 7 none) (Q:=fun _ st'=>(arrOf st').Perm (pairsOf vs)/\failedOf st'=none/\Up2 rkI (arrOf st') 0 (pairsOf vs).size) hI.intKeys rfl rfl rfl (by show 2<=(pairsOf vs).size;rw[Fh];omega) fun st' c1 c2 c3=>⟨c1,c2,c3⟩) ?_ fun _ _ e=>e);rintro⟨⟨⟩,st'⟩s'⟨rfl,hp,hf,hs⟩;dsimp only;refine A0 (Hv o6 rfl (A0 (Gp o6 rfl ?_ (Bz _) (by rw[J7,hp.size_eq,Fh];omega))));rw[hf];simp only[bne_self_eq_false,Bt,if_false];exact Ai (fin st' hp hs)
end
theorem zek:∀{l:List A1}{ns:List Int},l.length=ns.length->(∀(j:Nat)(v:A1)(x:Int),l[j]?=some v->ns[j]?=some x->∃t,v= .int x t)->E4 l ns
 |[],[],_,_=>.nil
 |v::l,x::ns,hl,h=>by
  obtain⟨t,rfl⟩:=h 0 v x rfl rfl;exact .cons _ _ (zek (by simpa using hl) fun j u y e1 e2=>h (j+1) u y (by simpa using e1) (by simpa using e2))
section
variable{X:Cx}
theorem call_sortedDI(hc:X.calm=true):CallR X (.builtin "sorted") (fun xs H Q=>∃(a:A7)(kvs:List (Key×V))(ns:List Int),xs=[V.ref a]/\Rd H a (.dK kvs)/\kvs.map (·.1)=ns.map Db/\ns.length<=4096/\
  ∀p(ns':List Int),H p=none->ns'.Perm ns->ns'.Pairwise (· <= ·)->Q (.ref p) (upd H p (.lst (ns'.map V.int)))):=by
 intro pins s σ H xs us Q I r h;obtain⟨a,kvs,ns,rfl,hq,hk,hb,q⟩:=h;obtain⟨u,rfl,ru⟩:=zb3 r
 cases ru
 obtain⟨hz,lo,vs,kv,hD⟩:=(show ObjOk X.prog X.w H s.heap a (.dK kvs) from hq.ok I.hok);obtain⟨ep,hat⟩:=hD.dictAt;have hlen:vs.length=ns.length:=by
  have e1:=kv.length;have e2:=congrArg Fb hk;rw[A3,A3] at e2;omega
 have big:(4096:Nat)<=sizeLine:=by decide
 refine Fe O2 Nd Ng (Nh _) ?_;unfold Hi.«sorted»;refine A0 (m:=checkCount "sorted" 1 1 _) (Ai ?_);refine A0 (J3 (A:=X.A.in1) (Jr (knd:=mixKind X.prog X.w) (kvs:=vs) (ep:=ep) lo) (I.ok.hd hc) hat (by omega) fun h' tk acc hkeep hacc=>?_);have hl:acc.toList.length=vs.length:=by rw[Ax];exact hacc.1
 have hS:E4 acc.toList ns:=by
  refine zek (by omega) fun j v x e1 e2=>?_;obtain⟨k,y,e3,hk2⟩:=hacc.2 j v (by rw[<-Ck];exact e1);obtain⟨v',e4,_⟩:=kv.get e3;have e5:(kvs.map (·.1))[j]?=some k:=by rw[Ad,e4];rfl
  rw[hk,Ad,e2] at e5;have e6:Db x=k:=C1 e5;subst e6;rcases zaG (show keyIs (Db x) v=true from hk2) with⟨i,t,e,e7⟩|⟨y,t,e,e7⟩
  ·cases e;exact⟨t,e7⟩
  ·cases e
 refine A0 (Ie ?_ (by rw[hl];omega));have hoL:(h'.push (seqObj "list" acc.toList.toArray 0)).get? h'.objs.size=some (seqObj "list" acc.toList.toArray 0):=Ba _ rfl;refine A0 (Dy (E8 M4 ⟨_,hoL,rfl⟩ Lj (sortI hoL hS (by omega) fun out ns' a1 a2 a3=>⟨_,rfl,?_⟩) (M6 _)));refine Ai ⟨_,rfl,?_⟩;obtain⟨e,he⟩:=Mt (out:=out) hoL;have I1:Inv X pins σ H {s with heap:=h',toks:=tk}:=I.kept hkeep;have I2:=Inv.laid (o:=.lst (ns'.map V.int)) (a:=h'.objs.size) (h':=sortedHeap (h'.push (seqObj "list" acc.toList.toArray 0)) h'.objs.size acc.toList out) (t':=tk) I1 (fun b o hb=>by
  have lt:=Au hb;rw[M3 (Br lt) (by rw[Fc];exact G3 lt)];exact Ae _ hb) (Ac _) (show ObjOk X.prog X.w _ _ _ (.lst (ns'.map V.int)) from⟨by rw[A3,a2.length_eq];omega,_,e,zcD a1,by rw[Mi];exact he⟩)
 exact⟨.ref h'.objs.size,_,I2,rfl,q _ ns' (I1.hok.fresh (Ac _)) a2 a3⟩
end
end L2
namespace L2
open PySem PySem.Spec PyProof.Rows
noncomputable def behN(C:Combs)(l:List Nat):List Nat:=(A4 128).filter fun s=>l.any fun t=>(stp C t).any fun p=>decide (p.2.toNat=s)
noncomputable def rowN(C:Combs):Nat->List Nat
 |0=>[0]
 |k+1=>behN C (rowN C k)
theorem beh_mem{C:Combs}{l:List Nat}{s:Nat}:s∈behN C l↔s<128/\∃t∈l,∃p∈stp C t,p.2.toNat=s:=by
 unfold behN;rw[Aq,Ay];constructor
 ·rintro⟨h,e⟩;obtain⟨t,ht,e⟩:=Bf.mp e;obtain⟨p,hp,e⟩:=Bf.mp e;exact⟨h,t,ht,p,hp,of_decide_eq_true e⟩
 ·rintro⟨h,t,ht,p,hp,e⟩;exact⟨h,Bf.mpr ⟨t,ht,Bf.mpr ⟨p,hp,decide_eq_true e⟩⟩⟩
theorem zhW(C:Combs)(l:List Nat):(behN C l).Pairwise (· < ·):=Bp Cv D9
theorem zhy(C:Combs)(l:List Nat):(behN C l).length<=128:=by
 have:=Bu (fun s=>l.any fun t=>(stp C t).any fun p=>decide (p.2.toNat=s)) (A4 128);rwa[Am] at this
theorem zdD(C:Combs):∀k,(∀s∈rowN C k,s<128)/\(rowN C k).length<=128
 |0=>⟨fun s h=>by rw[show rowN C 0=[0] from rfl,A9] at h;omega,by show 1<=128;decide⟩
 |k+1=>⟨fun s h=>(beh_mem.mp h).1,zhy C _⟩
theorem beh_keys{C:Combs}(g:GC C){l:List Nat}(hl:∀t∈l,t<128){rs:List Int}(nd:rs.Nodup)(hm:∀n,n∈rs↔∃t∈l,∃p∈stp C t,p.2=n):rs.Perm ((behN C l).map fun s=>((s:Nat):Int)):=by
 refine(D5 nd ?_).mpr fun n=>?_
 ·refine zaU ?_;rw[C7];exact(zhW C l).imp fun h=>by omega
 ·rw[hm,Aa];constructor
  ·rintro⟨t,ht,p,hp,rfl⟩;have:=zbN g (hl t ht) hp;exact⟨p.2.toNat,beh_mem.mpr ⟨this.2,t,ht,p,hp,rfl⟩,by omega⟩
  ·rintro⟨s,hs,rfl⟩;obtain⟨h1,t,ht,p,hp,e⟩:=beh_mem.mp hs;have:=zbN g (hl t ht) hp;exact⟨t,ht,p,hp,by omega⟩
theorem beh_sorted(C:Combs)(l:List Nat):((behN C l).map fun s=>((s:Nat):Int)).Pairwise (· <= ·):=by
 rw[C7];exact(zhW C l).imp fun h=>by omega
theorem zf3{C:Combs}:∀{k s j:Nat},s∈rowN C k->tr (rowAt C j) s=true->tr (rowAt C (j+k)) 0=true
 |0,s,j,h,e=>by rw[show rowN C 0=[0] from rfl,A9] at h;rwa[h] at e
 |k+1,s,j,h,e=>by
  obtain⟨h1,t,ht,p,hp,e2⟩:=beh_mem.mp h;have:tr (rowAt C (j+1)) t=true:=by
   show tr (nxtRow C (rowAt C j)) t=true;rw[zeq ((zdD C k).1 t ht)];exact Bf.mpr ⟨p,hp,by rw[e2];exact e⟩
  have:=zf3 ht this;rwa[show j+1+k=j+(k+1) by omega] at this
theorem zf2{C:Combs}(g:GC C){m k:Nat}(h:tr (rowAt C m) 0=false)(hk:rowN C k≠[]):k<m:=by
 rcases Nat.lt_or_ge k m with z|z
 ·exact z
 ·obtain⟨s,hs⟩:=List.exists_mem_of_ne_nil _ hk;have:=zf3 hs (zgy ((zdD C k).1 s hs));rw[Fg,show k=m+(k-m) by omega] at this;rw[zgz g (by decide) _ this] at h
  cases h
noncomputable def RowsN(H:Hp)(ws:List V)(C:Combs)(m:Nat):Prop:=ws.length=m+1/\∀i:Nat,i<=m->∃q,ws[i]?=some (.ref q)/\H q=some (.lst ((rowN C i).map fun s=>V.int (s:Nat)))
theorem RowsN.same{H H':Hp}{ws:List V}{C:Combs}{m:Nat}(r:RowsN H ws C m)(s:Same H H'):RowsN H' ws C m:=⟨r.1,fun i h=>let ⟨q,a,b⟩:=r.2 i h;⟨q,a,s _ _ b⟩⟩
theorem RowsN.ne{H:Hp}{ws:List V}{C:Combs}{m:Nat}(r:RowsN H ws C m){p q:A7}{bs:List Nat}(hp:H p=some (.lst ws))(hq:H q=some (.lst (bs.map fun s=>V.int (s:Nat)))):q≠p:=fun z=>by
 rw[z,hp] at hq;obtain⟨qa,e,_⟩:=r.2 0 (Bz _);injection hq with hq;injection hq with hq;rw[hq,Ad] at e
 cases h:bs[0]? with
 |none=>rw[h] at e;cases e
 |some b=>rw[h] at e;cases e
theorem RowsN.snoc{H:Hp}{ws:List V}{C:Combs}{m:Nat}(r:RowsN H ws C m){p q:A7}(hp:H p=some (.lst ws))(hq:H q=some (.lst ((rowN C (m+1)).map fun s=>V.int (s:Nat)))):RowsN (upd H p (.lst (ws++[.ref q]))) (ws++[.ref q]) C (m+1):=by
 refine⟨by rw[Af,r.1];rfl,fun i hi=>?_⟩;by_cases e:i=m+1
 ·subst e;exact⟨q,by rw[Cb (by rw[r.1];omega),r.1];simp,by rw[zag (r.ne hp hq)];exact hq⟩
 ·obtain⟨qa,e1,e2⟩:=r.2 i (by omega);exact⟨qa,by rw[Co (by rw[r.1];omega)];exact e1,by rw[zag (r.ne hp e2)];exact e2⟩
theorem ze0{κ:Type}[DecidableEq κ](kvs:List (κ×V))(k:κ)(v:V):(putK kvs k v).map (·.1)=if k∈kvs.map (·.1) then kvs.map (·.1) else kvs.map (·.1)++[k]:=by
 unfold putK;by_cases h:(kvs.any fun kv=>decide (kv.1=k))=true
 ·rw[if_pos h,if_pos (valV_mem.mp (by rw[<-zbu];exact h)),As];refine Be fun kv _=>?_;show(if kv.1=k then(kv.1,v) else kv).1=kv.1
  split<;>rfl
 ·rw[if_neg h,if_neg (fun z=>h (by rw[zbu];exact valV_mem.mpr z)),B1];rfl
noncomputable def GrL(H:Hp)(kvs:List (List Key×V))(ks:Combs)(L:List Nat):Prop:=Bv (fun(s:Nat)(kv:List Key×V)=>kv.1=akey s/\∃q vs,kv.2= .ref q/\H q=some (.lst vs)/\GoesR H vs (goesOf ks (aheadOf (s:Int)))) L kvs
theorem GrL.mono{H H':Hp}{kvs:List (List Key×V)}{ks:Combs}{L:List Nat}(r:GrL H kvs ks L)(m:∀kv∈kvs,∀q vs,kv.2= .ref q->H q=some (.lst vs)->H' q=some (.lst vs))(mt:∀q xs,H q=some (.tup xs)->H' q=some (.tup xs)):GrL H' kvs ks L:=by
 induction r with
 |nil=>exact .nil
 |cons h _ ih=>
  obtain⟨a,q,vs,b,c,d⟩:=h;exact .cons ⟨a,q,vs,b,m _ Aj q vs b c,d.mono mt⟩ (ih fun kv hkv=>m kv (Ab _ hkv))
theorem GrL.same{H H':Hp}{kvs:List (List Key×V)}{ks:Combs}{L:List Nat}(r:GrL H kvs ks L)(s:Same H H'):GrL H' kvs ks L:=r.mono (fun _ _ _ _ _ e=>s _ _ e) fun _ _ e=>s _ _ e
theorem GrL.len{H:Hp}{kvs:List (List Key×V)}{ks:Combs}{L:List Nat}(r:GrL H kvs ks L):kvs.length=L.length:=(Bw r).symm
theorem GrL.keys{H:Hp}{kvs:List (List Key×V)}{ks:Combs}{L:List Nat}(r:GrL H kvs ks L):kvs.map (·.1)=L.map akey:=by
 induction r with
 |nil=>rfl
 |cons h _ ih=>rw[An,An,ih,h.1]
theorem akeys_nd{L:List Nat}(nd:L.Nodup)(lt:∀s∈L,s<128):(L.map akey).Nodup:=by
 rw[F9,C7];rw[F9] at nd;exact Gf (fun{a b}ha hb hab e=>hab (zdq (lt a ha) (lt b hb) e)) nd
theorem GrL.val{H:Hp}{kvs:List (List Key×V)}{ks:Combs}{L:List Nat}(r:GrL H kvs ks L)(nd:L.Nodup)(lt:∀s∈L,s<128){s:Nat}(hs:s∈L):∃q vs,valV kvs (akey s)=some (.ref q)/\H q=some (.lst vs)/\GoesR H vs (goesOf ks (aheadOf (s:Int))):=by
 obtain⟨i,hi,rfl⟩:=Dv hs;obtain⟨kv,e1,e2,q,vs,e3,e4,e5⟩:=Bv.at r (A5 hi);refine⟨q,vs,?_,e4,e5⟩;rw[<-e3];exact zgv (by rw[r.keys];exact akeys_nd nd lt) (by rw[e1,<-e2])
theorem GrL.has{H:Hp}{kvs:List (List Key×V)}{ks:Combs}{L:List Nat}(r:GrL H kvs ks L)(lt:∀s∈L,s<128){s:Nat}(hs:s<128):(valV kvs (akey s)).isSome=decide (s∈L):=by
 rw[B7,valV_mem,r.keys,decide_eq_true_eq,Aa];exact⟨fun⟨j,hj,e⟩=>zdq (lt j hj) hs e▸hj,fun h=>⟨s,h,rfl⟩⟩
theorem GrL.snoc{H:Hp}{kvs:List (List Key×V)}{ks:Combs}{L:List Nat}{s:Nat}{q:A7}{vs:List V}(r:GrL H kvs ks L)(h1:H q=some (.lst vs))(h2:GoesR H vs (goesOf ks (aheadOf (s:Int)))):GrL H (kvs++[(akey s,.ref q)]) ks (L++[s]):=Ej r ⟨rfl,q,vs,rfl,h1,h2⟩
noncomputable def ClsS(C:Combs)(L:List Nat):Prop:=(∀s∈L,s<128)/\∀s∈L,∀p∈stp C s,p.2.toNat∈L
theorem akeysL_kI(L:List Nat):L.map akey=(L.map fun(s:Nat)=>aheadOf (s:Int)).map kI:=by rw[As];rfl
theorem zh2{C:Combs}(g:GC C){row:List Bool}(hr:nxtRow C row=row){s:Nat}(hs:s<128)(ht:tr row s=true)(k:Nat):
  ((0:Int)∈aheadOf (wk C row s k:Int)/\wn C row s k=A2 ""/\aheadOf (wk C row s (k+1):Int)=afterOf (aheadOf (wk C row s k:Int)) [])\/((0:Int)∉aheadOf (wk C row s k:Int)/\∃c∈C,wn C row s k=c.1/\meets (aheadOf (wk C row s k:Int)) c.2=false/\aheadOf (wk C row s (k+1):Int)=afterOf (aheadOf (wk C row s k:Int)) c.2):=by
 have hlt:=(zgt g hr hs ht k).1;have hm:=zhD g hr hs ht k;rw[<-za6 hlt g] at hm;obtain⟨p,hp,e⟩:=Aa.mp hm;obtain⟨_,k2,k3,_⟩:=zbw hlt g hp;injection e with e1 e2;have e3:p.2=aheadOf (wk C row s (k+1):Int):=by
  have:=zde k3;rw[this,e2];congr 1
 unfold goesOf at hp;by_cases h0:(0:Int)∈aheadOf (wk C row s k:Int)
 ·rw[if_pos h0] at hp;have hp:=A9.mp hp;refine .inl ⟨h0,?_,?_⟩
  ·rw[<-e1,hp]
  ·rw[<-e3,hp]
 ·rw[if_neg h0] at hp;obtain⟨c,hc,rfl⟩:=Aa.mp hp;obtain⟨hc1,hc2⟩:=Aq.mp hc;exact .inr ⟨h0,c,hc1,e1.symm,by simpa using hc2,e3.symm⟩
structure Walk(al ta:Nat->Nat->Bool):Prop where
 al0:∀d,al 0 d=false
 al7:∀k d,7<=d->al k d=false
 ta8:∀k t,8<=t->ta k t=false
 one:∀k,ind (al k 0)+ind (ta k 0)=1
 next:∀k d,ind (al (k+1) d)=ind (al k (d+1))+ind (ta k (d+1))
theorem wk_walk{C:Combs}(g:GC C)(nd:(C.map (·.1)).Nodup)(ne:∀c∈C,c.1≠A2 ""){row:List Bool}(hr:nxtRow C row=row)(ht:tr row 0=true):
  Walk (fun k d=>decide ((d:Int)∈aheadOf (wk C row 0 k:Int))) (fun k t=>decide ((t:Int)∈tkOf C (wn C row 0 k))):=by
 have hnone:cGet C (A2 "")=none:=get_none.mpr fun z=>by
  obtain⟨c,hc,e⟩:=Aa.mp z;exact ne c hc e
 have hin:∀k t,t∈tkOf C (wn C row 0 k)->0<=t/\t<=7:=fun k t ht=>by
  unfold tkOf at ht
  cases e:cGet C (wn C row 0 k) with
  |none=>rw[e] at ht;cases ht
  |some ts=>rw[e] at ht;exact zbF (g _ (zbM e)) t ht
 have go:=fun k=>zh2 g hr (show 0<128 by decide) ht k;refine⟨fun d=>?_,fun k d hd=>?_,fun k d hd=>?_,fun k=>?_,fun k d=>?_⟩
 ·have e:aheadOf ((wk C row 0 0:Nat):Int)=[]:=(by decide:aheadOf ((0:Nat):Int)=[]);show decide ((d:Int)∈aheadOf ((wk C row 0 0:Nat):Int))=false;rw[e];exact decide_eq_false nofun
 ·exact decide_eq_false fun z=>by have:=(mem_ahead.mp z).2.1;omega
 ·exact decide_eq_false fun z=>by have:=(hin k _ z).2;omega
 ·rcases go k with⟨h0,e1,_⟩|⟨h0,c,hc,e1,_⟩
  ·have:(0:Int)∉tkOf C (wn C row 0 k):=by unfold tkOf;rw[e1,hnone];exact nofun
   rw[decide_eq_true (show((0:Nat):Int)∈_ from h0),decide_eq_false (show¬((0:Nat):Int)∈_ from this)];rfl
  ·have:(0:Int)∈tkOf C (wn C row 0 k):=by unfold tkOf;rw[e1,zbj nd hc];exact zbU (g c hc)
   rw[decide_eq_false (show¬((0:Nat):Int)∈_ from h0),decide_eq_true (show((0:Nat):Int)∈_ from this)];rfl
 ·rcases go k with⟨h0,e1,e2⟩|⟨h0,c,hc,e1,hmt,e2⟩
  ·have:((d+1:Nat):Int)∉tkOf C (wn C row 0 k):=by unfold tkOf;rw[e1,hnone];exact nofun
   rw[e2,decide_eq_false this];have:=zbk (ah:=aheadOf (wk C row 0 k:Int)) (ts:=[]) za1 (by simp) d;have e:decide ((d:Int)∈afterOf (aheadOf (wk C row 0 k:Int)) [])=decide (((d+1:Nat):Int)∈aheadOf (wk C row 0 k:Int)):=by
    rw[decide_eq_decide,this];simp
   rw[e];rfl
  ·have ht:tkOf C (wn C row 0 k)=c.2:=by unfold tkOf;rw[e1,zbj nd hc];rfl
   rw[e2,ht];have hm:=zbk (ah:=aheadOf (wk C row 0 k:Int)) (ts:=c.2) za1 (zbF (g c hc)) d;have hx:=meets_false.mp hmt;by_cases b1:((d+1:Nat):Int)∈aheadOf (wk C row 0 k:Int)
   ·have b2:((d+1:Nat):Int)∉c.2:=fun z=>hx _ z b1;rw[decide_eq_true (hm.mpr (.inl b1)),decide_eq_true b1,decide_eq_false b2];rfl
   ·by_cases b2:((d+1:Nat):Int)∈c.2
    ·rw[decide_eq_true (hm.mpr (.inr b2)),decide_eq_false b1,decide_eq_true b2];rfl
    ·rw[decide_eq_false (fun z=>by rcases hm.mp z with z|z;exact b1 z;exact b2 z),decide_eq_false b1,decide_eq_false b2];rfl
noncomputable def ov(al:Nat->Nat->Bool)(i p:Nat):Nat:=if p<i then 1 else ind (al i (p-i))
section
variable{al ta:Nat->Nat->Bool}
theorem Walk.step(W:Walk al ta)(i p:Nat):ov al (i+1) p=ov al i p+if i<=p then ind (ta i (p-i)) else 0:=by
 unfold ov;rcases Nat.lt_trichotomy p i with h|h|h
 ·rw[if_pos (by omega),if_pos h,if_neg (by omega)]
 ·subst h;rw[if_pos (by omega),if_neg (by omega),if_pos (Ac _),G0,W.one]
 ·rw[if_neg (by omega),if_neg (by omega),if_pos (by omega),show p-i=(p-(i+1))+1 by omega];exact W.next i (p-(i+1))
theorem Walk.zero(W:Walk al ta)(p:Nat):ov al 0 p=0:=by
 unfold ov;rw[if_neg (by omega),W.al0];rfl
theorem ov_le(al:Nat->Nat->Bool)(i p:Nat):ov al i p<=1:=by
 unfold ov ind
 repeat' split
 all_goals omega
noncomputable def cn(nm:Nat->Str)(i:Nat):Nat:=(laid nm i).length
theorem zfC(nm:Nat->Str)(i:Nat):cn nm (i+1)=cn nm i+if nm i≠A2 "" then 1 else 0:=by
 unfold cn laid;rw[Cw,C0,Af,By,F0];by_cases h:nm i≠A2 ""
 ·rw[if_pos (by simpa using h),if_pos h];rfl
 ·rw[if_neg (by simpa using h),if_neg h];rfl
theorem zhw(nm:Nat->Str)(i:Nat):∀k,cn nm i<=cn nm (i+k)
 |0=>Ac _
 |k+1=>by
  have:=zhw nm i k;rw[<-Du,zfC];omega
theorem Walk.same(W:Walk al ta){nm:Nat->Str}(hn:∀i t,nm i=A2 ""->ta i t=false):∀{i k:Nat},cn nm i=cn nm (i+k)->∀p,ov al (i+k) p=ov al i p
 |i,0,_,p=>rfl
 |i,k+1,h,p=>by
  have h1:=zhw nm i k;have h2:=zfC nm (i+k);rw[<-Du] at h⊢;have e:nm (i+k)=A2 "":=by
   apply D7;intro z;rw[if_pos z] at h2;omega
  rw[W.step,W.same hn (by rw[if_neg (by simpa using e)] at h2;omega)]
  split
  ·rw[hn _ _ e];rfl
  ·rfl
theorem Walk.same'(W:Walk al ta){nm:Nat->Str}(hn:∀i t,nm i=A2 ""->ta i t=false){i j:Nat}(h:cn nm i=cn nm j)(p:Nat):ov al i p=ov al j p:=by
 rcases Mc i j with z|z
 ·obtain⟨k,rfl⟩:=Eb z;exact(W.same hn h p).symm
 ·obtain⟨k,rfl⟩:=Eb z;exact W.same hn h.symm p
end
theorem laid_at{nm:Nat->Str}{i n:Nat}(h:i<n)(hp:nm i≠A2 ""):(laid nm n)[cn nm i]?=some i:=by
 unfold cn laid;have e:A4 n=A4 i++i::(A4 (n-i-1)).map fun k=>i+1+k:=by
  have h1:A4 n=A4 ((i+1)+(n-i-1)):=by congr 1;omega
  rw[h1,Fp,Cw,Av];rfl
 rw[e,C0,By,if_pos (by simpa using hp),Cb (Ac _),G0];rfl
theorem laid_nd(nm:Nat->Str)(n:Nat):(laid nm n).Nodup:=Nv.sublist Cv
theorem laid_idx{nm:Nat->Str}{n q j:Nat}(h:(laid nm n)[q]?=some j):j<n/\nm j≠A2 ""/\cn nm j=q:=by
 obtain⟨h1,h2⟩:=Aq.mp (Bd h);have h1:=Ay.mp h1;have h2:nm j≠A2 "":=of_decide_eq_true h2;refine⟨h1,h2,?_⟩;have:=laid_at h1 h2;exact(Jw (Ag.mp this).1 (laid_nd nm n)).mp (by rw[this,h])
theorem laid_up(nm:Nat->Str)(n:Nat):(laid nm n).Pairwise (· < ·):=Bp Cv D9
theorem laid_more{nm:Nat->Str}{st n k:Nat}(hst:st<=n)(per:∀j,st<=j->nm (j+k*(n-st))=nm j):laid nm (st+(k+1)*(n-st))=laid nm (st+k*(n-st))++((laid nm n).filter fun j=>decide (st<=j)).map fun j=>j+k*(n-st):=by
 have e1:st+(k+1)*(n-st)=(st+k*(n-st))+(n-st):=by rw[M9];omega
 have e2:(laid nm n).filter (fun j=>decide (st<=j))=((A4 (n-st)).filter fun i=>decide (nm (st+i)≠A2 "")).map fun i=>st+i:=by
  unfold laid;have e:A4 n=A4 st++(A4 (n-st)).map fun i=>st+i:=by
   rw[<-Fp];congr 1;omega
  rw[N8,e,C0];have h1:(A4 st).filter (fun a=>decide (st<=a)&&decide (nm a≠A2 ""))=[]:=by
   rw[Ev];intro a ha;have:=Ay.mp ha;simp;intro z;omega
  rw[h1,Gh,Dx];congr 1;refine Ea fun i _=>?_;show(decide (st<=st+i)&&decide (nm (st+i)≠A2 ""))=_;rw[decide_eq_true (by omega),F4]
 rw[e2,e1];unfold laid;rw[Fp,C0,Dx,As];congr 1;have h3:((fun j=>decide (nm j≠A2 ""))∘fun i=>st+k*(n-st)+i)=fun i=>decide (nm (st+i)≠A2 ""):=funext fun i=>by
  show decide (nm (st+k*(n-st)+i)≠_)=_;rw[show st+k*(n-st)+i=(st+i)+k*(n-st) by omega,per _ (by omega)]
 rw[h3];refine Be fun i _=>?_;show st+k*(n-st)+i=st+i+k*(n-st);omega
noncomputable def PL(H:Hp)(vs:List V)(nm:Nat->Str)(L:List Nat):Prop:=Bv (fun(j:Nat)(v:V)=>∃q,v= .ref q/\H q=some (.tup [.int (j:Int),.str (nm j)])) L vs
theorem PL.mono{H H':Hp}{vs:List V}{nm:Nat->Str}{L:List Nat}(m:∀q xs,H q=some (.tup xs)->H' q=some (.tup xs))(r:PL H vs nm L):PL H' vs nm L:=Bv.mapP r fun _ _⟨q,a,b⟩=>⟨q,a,m _ _ b⟩
theorem PL.lays{H:Hp}{vs:List V}{nm:Nat->Str}{n:Nat}:PL H vs nm (laid nm n)↔LaysR H vs nm n:=Iff.rfl
theorem zg5{n j:Nat}(f:Nat->V)(v:V)(h:j<n):((A4 n).map f).set j v=(A4 n).map fun p=>if p=j then v else f p:=by
 refine Ft fun i=>?_;rw[List.getElem?_set,Ad,A3,Am];by_cases e:j=i
 ·subst e;rw[if_pos rfl,if_pos h,Ad,Cn h,Cu,if_pos rfl]
 ·rw[if_neg e,Ad];by_cases hi:i<n
  ·rw[Cn hi,Cu,Cu,if_neg (fun z=>e z.symm)]
  ·rw[Cm (by rw[Am];omega)];rfl
theorem count_teeth{ts:List Int}(nd:ts.Nodup)(h0:∀t∈ts,0<=t)(i p:Nat):(ts.map fun t=>i+t.toNat).count p=if i<=p then ind (decide (((p-i:Nat):Int)∈ts)) else 0:=by
 have nd2:(ts.map fun t=>i+t.toNat).Nodup:=by
  rw[F9,C7];rw[F9] at nd;refine Gf (fun{a b}ha hb hab e=>hab ?_) nd;have:=h0 a ha;have:=h0 b hb;omega
 have hm:p∈(ts.map fun t=>i+t.toNat)↔i<=p/\((p-i:Nat):Int)∈ts:=by
  rw[Aa];constructor
  ·rintro⟨t,ht,rfl⟩;have:=h0 t ht;exact⟨by omega,by rw[show((i+t.toNat-i:Nat):Int)=t by omega];exact ht⟩
  ·rintro⟨h,ht⟩;exact⟨_,ht,by omega⟩
 rw[nd2.count];by_cases h:i<=p
 ·rw[if_pos h];by_cases h2:((p-i:Nat):Int)∈ts
  ·rw[if_pos (hm.mpr ⟨h,h2⟩),decide_eq_true h2];rfl
  ·rw[if_neg (fun z=>h2 (hm.mp z).2),decide_eq_false h2];rfl
 ·rw[if_neg h,if_neg (fun z=>h (hm.mp z).1)]
end L2
namespace L2
open PySem PySem.Spec PyProof.Rows PySem.W
noncomputable def lexR:Nat->List Int->Nat
 |0,_=>0
 |_+1,[]=>0
 |n+1,x::xs=>(x.toNat+1)*9 ^ n+lexR n xs
noncomputable def Smalls(ns:List Int):Prop:=ns.length<=8/\∀x∈ns,0<=x/\x<=7
theorem zfx:∀(n:Nat)(l:List Int),(∀x∈l,0<=x/\x<=7)->lexR n l<9 ^ n
 |0,_,_=>O7
 |n+1,[],_=>My (by decide)
 |n+1,x::l,h=>by
  have i:=zfx n l fun y hy=>h y (Ab _ hy);have hx:=h x Aj;show(x.toNat+1)*9 ^ n+lexR n l<9 ^ (n+1);rw[P6];have:(x.toNat+1)*9 ^ n<=8*9 ^ n:=Jd _ (by omega);omega
theorem zeD:∀(n:Nat)(a b:List Int),a.length<=n->b.length<=n->(∀x∈a,0<=x/\x<=7)->(∀x∈b,0<=x/\x<=7)->(lexR n a<lexR n b↔HT.lexLt a b=true)/\(lexR n a=lexR n b->a=b)
 |0,[],[],_,_,_,_=>⟨by rw[HT.lexLt_nil_nil];simp[lexR],fun _=>rfl⟩
 |0,_::_,_,h,_,_,_=>absurd h (by simp)
 |0,_,_::_,_,h,_,_=>absurd h (by simp)
 |n+1,[],[],_,_,_,_=>⟨by rw[HT.lexLt_nil_nil];simp[lexR],fun _=>rfl⟩
 |n+1,[],y::b,_,_,_,_=>by
  have p:0<9 ^ n:=My (by decide);have:0<(y.toNat+1)*9 ^ n:=Q2 (by omega) p;rw[HT.lexLt_nil_cons];refine⟨?_,?_⟩
  ·show 0<(y.toNat+1)*9 ^ n+lexR n b↔_;exact⟨fun _=>rfl,fun _=>by omega⟩
  ·show 0=(y.toNat+1)*9 ^ n+lexR n b->_;intro h;omega
 |n+1,x::a,[],_,_,_,_=>by
  have p:0<9 ^ n:=My (by decide);have:0<(x.toNat+1)*9 ^ n:=Q2 (by omega) p;rw[HT.lexLt_cons_nil];refine⟨?_,?_⟩
  ·show(x.toNat+1)*9 ^ n+lexR n a<0↔_;exact⟨fun h=>by omega,fun h=>by cases h⟩
  ·show(x.toNat+1)*9 ^ n+lexR n a=0->_;intro h;omega
 |n+1,x::a,y::b,ha,hb,sa,sb=>by
  have i:=zeD n a b (by simpa using ha) (by simpa using hb) (fun z hz=>sa z (Ab _ hz)) (fun z hz=>sb z (Ab _ hz));have la:=zfx n a fun z hz=>sa z (Ab _ hz);have lb:=zfx n b fun z hz=>sb z (Ab _ hz);have hx:=sa x Aj;have hy:=sb y Aj;rw[HT.lexLt_cons];show((x.toNat+1)*9 ^ n+lexR n a<(y.toNat+1)*9 ^ n+lexR n b↔_)/\((x.toNat+1)*9 ^ n+lexR n a=(y.toNat+1)*9 ^ n+lexR n b->_);rcases Int.lt_trichotomy x y with h|h|h
  ·have:(x.toNat+1+1)*9 ^ n<=(y.toNat+1)*9 ^ n:=Jd _ (by omega);rw[Q3 (x.toNat+1) 1] at this;rw[if_neg (by omega),decide_eq_true h];exact⟨⟨fun _=>rfl,fun _=>by omega⟩,fun z=>by omega⟩
  ·subst h;rw[if_pos rfl];refine⟨⟨fun z=>i.1.mp (by omega),fun z=>?_⟩,fun z=>?_⟩
   ·have:=i.1.mpr z;omega
   ·rw[i.2 (by omega)]
  ·have:(y.toNat+1+1)*9 ^ n<=(x.toNat+1)*9 ^ n:=Jd _ (by omega);rw[Q3 (y.toNat+1) 1] at this;rw[if_neg (by omega),decide_eq_false (by omega)];exact⟨⟨fun z=>by omega,fun z=>by cases z⟩,fun z=>by omega⟩
section
variable{prog:Aw}{w:Bq}{A:Bi}{E:A1->A6->Prop}{s:A6}
theorem sortR{a:A7}{vs:List A1}{n:Nat}{P:Nj->A6->Prop}(rk:B0->Int)(S:B0->Prop)(ho:s.heap.get? a=some (seqObj "list" vs.toArray n))(hS:∀v∈vs,S (v,v))(hb:vs.length<=sizeLine)
  (hk:2<=vs.length->∀h':C9,(∀b o,b≠a->s.heap.get? b=some o->h'.get? b=some o)->∃kd:F8,(∀Q:F8->A6->Prop,Q kd {s with heap:=h'}->wpAny (model prog w) A (keyKind' vs.toArray) Q E {s with heap:=h'})/\Ranks prog w A E {s with heap:=h'} kd S rk)
  (q:∀out:List A1,out.Perm vs->out.Pairwise (fun x y=>rk (x,x)<=rk (y,y))->P (.done (.ret .none)) {s with heap:=sortedHeap s.heap a vs out.toArray}):
  wpAny (model prog w) A (Hi.«list.sort» ⟨[.ref a],[]⟩) P E s:=by
 have hpl:(pairsOf vs).toList=vs.map fun v=>(v,v):=by
  unfold pairsOf;rw[Array.toList_zip];simp[List.zip_eq_zipWith,List.zipWith_self]
 have fin:∀st':C2,(arrOf st').Perm (pairsOf vs)->Up2 rk (arrOf st') 0 (pairsOf vs).size->P (.done (.ret .none)) {s with heap:=sortedHeap s.heap a vs ((arrOf st').map (·.2))}:=fun st' hp hs=>by
  have hp':(arrOf st').toList.Perm (vs.map fun v=>(v,v)):=by rw[<-hpl];exact Gw.mp hp
  have hx:∀x∈(arrOf st').toList,x=(x.2,x.2):=fun x hx=>by
   obtain⟨v,_,rfl⟩:=Aa.mp (hp'.mem_iff.mp hx);rfl
  have e:(arrOf st').map (·.2)=((arrOf st').toList.map (·.2)).toArray:=by
   refine Nq.mp ?_;rw[Array.toList_map]
  rw[e];refine q _ ?_ ?_
  ·have:=hp'.map (·.2);rw[As] at this;have e2:vs.map ((fun x:B0=>x.2)∘fun v=>(v,v))=vs:=by
    conv=>rhs;rw[<-Gd vs]
    rfl
   rw[e2] at this;exact this
  ·rw[C7,Df];intro i j hi hj hij;have hz:(arrOf st').size=(pairsOf vs).size:=hp.size_eq;rw[Ax] at hi hj;have:=hs i j (Bz _) (by omega) (by omega);rw[za3 hi,za3 hj] at this;have e1:=hx _ (C8 (l:=(arrOf st').toList) (n:=i) (by rw[Ax];exact hi));have e2:=hx _ (C8 (l:=(arrOf st').toList) (n:=j) (by rw[Ax];exact hj));rw[<-e1,<-e2];simpa using this
 rw[Pf];have hlt:=Au ho;obtain⟨e1,o1⟩:∃e,(s.heap.update a (Eo fun _=>(#[]:Array A1))).get? a=some (seqObj "list" #[] e):=⟨_,Ph ho fun _=>#[]⟩;have hz:vs.toArray.size=vs.length:=B5;refine A0 (Nf ho rfl (A0 (Gp ho rfl (A0 (Hv o1 rfl (A0 (Q8 (A0 (Ie (Dy ?_) (Bz _))) (by show vs.length<=_;omega))))) (by rw[hz];omega) (Bz _))));have o6:(((s.heap.update a (Eo fun _=>(#[]:Array A1))).push (seqObj "tuple" vs.toArray 0)).push (seqObj "list" #[] 0)).get? a=some (seqObj "list" #[] e1):=Ae _ (Ae _ o1);have keep:∀b o,b≠a->s.heap.get? b=some o->(((s.heap.update a (Eo fun _=>(#[]:Array A1))).push (seqObj "tuple" vs.toArray 0)).push (seqObj "list" #[] 0)).get? b=some o:=fun b o hb e=>
  Ae _ (Ae _ (by rw[Heap.get?_update_ne _ _ _ _ hb];exact e))
 show wpAny (model prog w) A _ P E {s with heap:=((s.heap.update a (Eo fun _=>(#[]:Array A1))).push (seqObj "tuple" vs.toArray 0)).push (seqObj "list" #[] 0)};dsimp only;by_cases h2:vs.toArray.size<2
 ·rw[if_pos h2,if_pos h2];refine A0 (Ai ?_);rw[Ni];refine A0 (Ai ?_);dsimp only;refine A0 (Hv o6 rfl (A0 (Gp o6 rfl ?_ (Bz _) (by rw[J7];show(pairsOf vs).size<=_;rw[Fh];omega))));simp only[bne_self_eq_false,Bt,if_false];refine Ai (fin (Ke general' (vs.toArray.zip vs.toArray) #[] 7 none) (G8 _) fun i j _ hij hj=>?_);rw[Fh] at hj;rw[show i=j by omega];exact Do _
 ·rw[if_neg h2,if_neg h2];obtain⟨kd,hkk,hrk⟩:=hk (by omega) _ keep;refine A0 (hkk _ ?_);refine A0 (Dq (zdt hrk (st:=Ke kd (vs.toArray.zip vs.toArray) #[] 7 none) (Q:=fun _ st'=>(arrOf st').Perm (pairsOf vs)/\failedOf st'=none/\Up2 rk (arrOf st') 0 (pairsOf vs).size) ?_ rfl rfl rfl (by show 2<=(pairsOf vs).size;rw[Fh];omega) fun st' c1 c2 c3=>⟨c1,c2,c3⟩) ?_ fun _ _ e=>e)
  ·intro x hx;have hx:x∈(pairsOf vs).toList:=hx;rw[hpl] at hx;obtain⟨v,hv,rfl⟩:=Aa.mp hx;exact hS v hv
  rintro⟨⟨⟩,st'⟩s'⟨rfl,hp,hf,hs⟩;dsimp only;refine A0 (Hv o6 rfl (A0 (Gp o6 rfl ?_ (Bz _) (by rw[J7,hp.size_eq,Fh];omega))));rw[hf];simp only[bne_self_eq_false,Bt,if_false];exact Ai (fin st' hp hs)
end
section
variable{prog:Aw}{w:Bq}{A:Bi}{E:A1->A6->Prop}{s:A6}
theorem zgd{fin:Bool}{Q:Bool->A6->Prop}{X Y:Nat}(hf:fin=decide (X<Y)):∀{xs ys:List A1}{ns ms:List Int}(i:Nat),E4 xs ns->E4 ys ms->ns.length+Y=ms.length+X->Q (HT.lexLt ns ms) s->KatLex prog w A true fin Q (xs.zip ys) i s
 |_,_,_,_,i,.nil,.nil,hl,q=>by
  rw[HT.lexLt_nil_nil] at q;refine kat_nil ?_;rw[hf,decide_eq_false (by simp at hl;omega)];exact q
 |_,_,_,_,i,.nil,.cons c u hw,hl,q=>by
  rw[HT.lexLt_nil_cons] at q;refine kat_nil ?_;rw[hf,decide_eq_true (by simp at hl;omega)];exact q
 |_,_,_,_,i,.cons a t hv,.nil,hl,q=>by
  rw[HT.lexLt_cons_nil] at q;refine kat_nil ?_;rw[hf,decide_eq_false (by simp at hl;omega)];exact q
 |_,_,_,_,i,.cons a t hv,.cons c u hw,hl,q=>by
  rw[HT.lexLt_cons] at q;rw[Gz];obtain⟨e,he,hiff⟩:=HT.eqAt_int A s a t c u;refine kat_cons (he prog w _ _ ?_)
  cases e with
  |true=>
   rw[if_pos (hiff.mp rfl)] at q;exact kat_yes (zgd hf (i+1) hv hw (by simp at hl;omega) q)
  |false=>
   rw[if_neg (fun z=>absurd (hiff.mpr z) Ah)] at q;refine kat_no ?_;rw[F4]
   cases hi:(i==0) with
   |true=>exact oneLt_int q
   |false=>exact kat_one _ _ (Km q)
noncomputable def TKind(kd:F8):Prop:=kd=tuples' true\/kd=general'\/kd=oneType'
theorem keyLt_tup{kd:F8}(hkd:TKind kd){l b:A7}{items items2:Array A1}{ns ms:List Int}{Q:Bool->A6->Prop}(hl:Jh s.heap l items)(hb:Jh s.heap b items2)(hi:E4 items.toList ns)(hj:E4 items2.toList ms)
  (hu:A.units<cLine) (q:Q (HT.lexLt ns ms) s):wpAny (model prog w) A (keyLt' kd (.ref l) (.ref b)) Q E s:=by
 rcases hkd with rfl|rfl|rfl
 ·obtain⟨o,ho,_,n,hd⟩:=hl;obtain⟨o2,ho2,_,n2,hd2⟩:=hb;refine kat_lt ho hd ho2 hd2 (zgd rfl 0 hi hj ?_ q);have:=hi.length;have:=hj.length;simp at *;omega
 ·show wpAny _ _ (oneLt' false (.ref l) (.ref b)) _ _ _;exact kat_one _ _ (HT.lt_tupInts hl hb hi hj hu q)
 ·rw[Qa,oneLt'_eq];simp only[if_true];refine A0 (wpAny_cRoomFor hu ?_);obtain⟨⟨cls,dd,data,sl⟩,ho,hc,n,hd⟩:=id hl;obtain⟨⟨cls2,dd2,data2,sl2⟩,ho2,hc2,n2,hd2⟩:=id hb;simp only at hc hd hc2 hd2;subst hc hd hc2 hd2;refine A0 (wpAny_callSpecialIfBound?_slot (T:="tuple") ⟨_,ho,rfl⟩ Hs (Ja Hs ⟨_,ho,rfl⟩ L1 (Kt _ _) (HT.tuple_lt_ints l b items items2 n n2 dd dd2 sl sl2 ns ms hi hj) ⟨ho,ho2,?_⟩));exact D1 q
noncomputable def TupS(h:C9)(f:A7->List Int)(k:B0):Prop:=∃a items,k.1= .ref a/\Jh h a items/\E4 items.toList (f a)/\Smalls (f a)
noncomputable def rkT(f:A7->List Int)(k:B0):Int:=match k.1 with
 | .ref a=>((lexR 8 (f a):Nat):Int)
 |_=>0
theorem ranks_tup{kd:F8}(hkd:TKind kd)(hu:A.units<cLine)(f:A7->List Int){h0:C9}(hk:∀a items,Jh h0 a items->Jh s.heap a items):Ranks prog w A E s kd (TupS h0 f) (rkT f):=⟨fun{x y st Q}hx hy he q=>by
 obtain⟨x1,x2⟩:=x;obtain⟨y1,y2⟩:=y;obtain⟨a,items,e,ta,ia,sa⟩:=hx;obtain⟨b,items2,e2,tb,ib,sb⟩:=hy;dsimp only at e e2;subst e e2;rw[lt'_eq];refine Al (Hg ?_);rw[he];have hq:decide (rkT f (.ref a,x2)<rkT f (.ref b,y2))=HT.lexLt (f a) (f b):=by
  have:=(zeD 8 (f a) (f b) sa.1 sb.1 sa.2 sb.2).1;show decide (((lexR 8 (f a):Nat):Int)<((lexR 8 (f b):Nat):Int))=_;rw[B7,decide_eq_true_eq,<-this];omega
 rw[hq] at q;exact Al (Ix (K4 (keyLt_tup hkd (hk _ _ ta) (hk _ _ tb) ia ib hu ⟨rfl,Ar q⟩)))⟩
noncomputable def IsFirst(h:C9)(v:A1)(f:Option A1):Prop:=∃a o xs n,v= .ref a/\h.get? a=some o/\o.cls= .type "tuple"/\o.data= .seq xs n/\f=xs[0]?
theorem zcY{M:I0}:∀(vs:List A1)(fs:List (Option A1)){Q:List (Option A1)->A6->Prop},Bv (IsFirst s.heap) vs fs->Q fs s->wpAny M A (vs.mapM firstOfTuple') Q E s
 |_,_,_,.nil,h=>by rw[List.mapM_nil];exact Ai h
 |_,_,Q,.cons (l₁:=vs) (l₂:=fs) r t,h=>by
  obtain⟨a,o,xs,n,rfl,ho,hc,hd,rfl⟩:=r;rw[List.mapM_cons];refine A0 ?_;rw[kas_first_eq];refine A0 (Looks.here (show Looks M s.heap (typeOf (.ref a)) o.cls from(Looks.ld ho).andThen .now) ?_);rw[hc,if_neg (by first|decide|simp)];refine A0 (Nf ho hd (Ai ?_));exact A0 (zcY vs fs (Q:=fun bs s'=>wpAny M A (pure (xs[0]?::bs)) Q E s') t (Ai h))
theorem tup_kind{M:I0}{vs:List A1}(hv:∀v∈vs,∃a items ns,v= .ref a/\Jh s.heap a items/\E4 items.toList ns)(h2:2<=vs.length):∃kd,TKind kd/\∀Q:F8->A6->Prop,Q kd s->wpAny M A (keyKind' vs.toArray) Q E s:=by
 obtain⟨fs,pf⟩:∃fs,Bv (IsFirst s.heap) vs fs:=by
  clear h2
  induction vs with
  |nil=>exact⟨[],.nil⟩
  |cons v vs ih=>
   obtain⟨fs,pf⟩:=ih fun u hu=>hv u (Ab _ hu);obtain⟨a,items,ns,rfl,⟨o,ho,hc,n,hd⟩,_⟩:=hv v Aj;exact⟨_::fs,.cons ⟨a,o,items,n,rfl,ho,hc,hd,rfl⟩ pf⟩
 by_cases hall:fs.toArray.all (fun x=>x.isSome)=true
 ·have kt:∃gs,KatTups s.heap vs gs/\gs.length=vs.length/\∀g∈gs,∃i t,g=Ho i t:=by
   have hall':∀x∈fs,x.isSome=true:=by simpa using hall
   clear h2 hall
   induction pf with
   |nil=>exact⟨[],.nil,rfl,by simp⟩
   |@cons v f vs fs r t ih=>
    obtain⟨gs,g1,g2,g3⟩:=ih (fun u hu=>hv u (Ab _ hu)) fun x hx=>hall' x (Ab _ hx);obtain⟨a,o,xs,n,rfl,ho,hc,hd,rfl⟩:=r;obtain⟨a',items,ns,e,⟨o',ho',hc',n',hd'⟩,hI⟩:=hv _ Aj
    cases e
    rw[ho] at ho'
    cases ho'
    rw[hd] at hd';injection hd' with e1 e2;subst e1;obtain⟨g,hg⟩:=E2.mp (hall' _ Aj);obtain⟨t',e3⟩:=hI.int_at 0 g (by rw[Ck];exact hg);exact⟨g::gs,.cons ho hc hd hg g1,by rw[At,g2,At],fun u hu=>by
     rcases Bo.mp hu with rfl|hu
     ·exact⟨_,_,e3⟩
     ·exact g3 u hu⟩
  obtain⟨gs,g1,g2,g3⟩:=kt;refine⟨tuples' true,.inl rfl,fun Q q=>kat_kind (T:=.type "int") g1 (by omega) (fun v hv=>?_) (by decide) (by
   have:(Eu "int" !=Eu "tuple")=true:=by decide
   rw[this];exact q)⟩
  obtain⟨i,t,rfl⟩:=g3 v hv;exact .now
 ·have hne:¬(fs.toArray.all (fun x=>x.isSome)=true):=hall;by_cases hfst:(fs.toArray[0]?.bind id).isSome=true
  ·refine⟨general',.inr (.inl rfl),fun Q q=>?_⟩;rw[kat_kind_eq,Jt,map_eq_pure_bind];refine A0 (A0 (zcY vs _ pf (Ai ?_)));rw[if_neg hne,if_pos hfst];exact Ai q
  ·refine⟨oneType',.inr (.inr rfl),fun Q q=>?_⟩;rw[kat_kind_eq,Jt,map_eq_pure_bind];refine A0 (A0 (zcY vs _ pf (Ai ?_)));rw[if_neg hne,if_neg hfst];rw[oneTypeOnly'_eq,Jt,map_eq_pure_bind];refine A0 (A0 (A0 (kas_mapM (r:=Eu "tuple") _ (fun v hv' Q' hq=>?_) (Ai ?_))))
   ·obtain⟨a,items,ns,rfl,⟨o,ho,hc,n,hd⟩,_⟩:=hv v hv';refine Looks.here (show Looks M s.heap (typeOf (.ref a)) o.cls from(Looks.ld ho).andThen .now) ?_;rw[hc];exact hq
   ·obtain⟨v₁,rest,rfl⟩:∃v₁ rest,vs=v₁::rest:=by
     match vs,h2 with
     |v₁::rest,_=>exact⟨v₁,rest,rfl⟩
    have hall2:((Hr (fun _=>Eu "tuple") (v₁::rest)).toArray.all fun x=>x==Eu "tuple")=true:=by
     simp only[List.all_toArray,Gr,Da];intro _ _;show(Eu "tuple"==Eu "tuple")=true;decide
    have h0:(Hr (fun _=>Eu "tuple") (v₁::rest)).toArray[0]?=some (Eu "tuple"):=by simp
    rw[h0];simp only[hall2,if_true];exact Ai (Ai q)
end
section
variable{prog:Aw}{w:Bq}{A:Bi}{E:A1->A6->Prop}{s:A6}{d:A7}{o:Obj}{es:Array J6}{ep:Nat}
theorem ed_walks(hh:A.handled=none)(I:A7)(hne:d≠I)(hdat:o.data= .dict es ep):Walks prog w A I [I,d] [I] es.size (fun i v=>∃e,es[i]?=some e/\v=e.key) (fun i h=>h.IsKeyIter I d i es.size ep/\h.get? d=some o) where
 sub:=fun b hb=>by simp at hb;simp[hb]
 frame:=fun _ _ _ st hk=>⟨st.1.at fun o e=>hk I (by simp) o e,hk d (by simp) _ st.2⟩
 item:=fun i s Q E hi st hQ=>by
  refine zho st.1 st.2 hdat hi fun h' hit' hs'=>?_;exact hQ _ h' s.toks ⟨es[i],by simp[hi],rfl⟩ ⟨hit',by rw[hs'.2 d hne];exact st.2⟩ fun b o hb e=>hs'.extBut b o (fun h=>hb (by simp[h])) e
 done:=fun s Q E st hQ=>zhT hh st.1 st.2 hdat (Ac _) fun h' he'=>hQ h' s.toks fun b o hb e=>he' b o (fun h=>hb (by simp[h])) e
 self:=fun _ _ _ _ st hQ=>Nz st.1 hQ
theorem kdl_ed(lo:(d==sysModules)=false)(hc:o.ExactDict)(hdat:o.data= .dict es ep):KdlSrc prog w "dict" d d es.size (fun i v=>∃e,es[i]?=some e/\v=e.key) (fun h=>h.get? d=some o) where
 type:=fun s hm=>⟨o,hm,hc.1⟩
 there:=fun _ hm=>⟨Au hm,Au hm⟩
 keep:=fun _ _ hm hk=>hk d (.inl rfl) _ hm
 notList:=by decide
 notTuple:=by decide
 hint:=fun _ _ s _ hm hq=>kdl_hint_dict (s:=s) ⟨o,hm,hc.1⟩ hq
 iter:=fun _ _ hh hm=>⟨_,_,(fun _ _ hq=>zhp lo hm hc hdat hq),ed_walks hh _ (Br (Au hm)) hdat,⟨⟨_,Ba _ rfl,rfl,rfl⟩,Ae _ hm⟩⟩
end
noncomputable def tupF(H:Hp)(b:A7):List Int:=match H b with
 |some (.tup xs)=>xs.map fun v=>match v with| .int i=>i|_=>0
 |_=>[]
theorem zgx{H:Hp}{b:A7}{ns:List Int}(h:H b=some (.tup (ns.map V.int))):tupF H b=ns:=by
 unfold tupF;rw[h];show(ns.map V.int).map _=ns;rw[As];exact List.map_id'' (fun _=>rfl) ns
noncomputable def adr:A1->A7
 | .ref b=>b
 |_=>0
noncomputable def TupsR(H:Hp)(nss:List (List Int))(ws:List V):Prop:=Bv (fun(ns:List Int)(v:V)=>∃q,v= .ref q/\H q=some (.tup (ns.map V.int))) nss ws
section
variable{X:Cx}
theorem call_sortedDT(hc:X.calm=true)(hu:X.A.units+64<cLine):CallR X (.builtin "sorted") (fun xs H Q=>∃(a:A7)(kvs:List (List Key×V))(nss:List (List Int)),xs=[V.ref a]/\Rd H a (.dT kvs)/\kvs.map (·.1)=nss.map kI/\(∀ns∈nss,Smalls ns)/\nss.length<=4096/\
  ∀p(nss':List (List Int))(ws:List V),H p=none->nss'.Perm nss->nss'.Pairwise (fun x y=>lexR 8 x<=lexR 8 y)->TupsR H nss' ws->Q (.ref p) (upd H p (.lst ws))):=by
 intro pins s σ H xs us Q I r h;obtain⟨a,kvs,nss,rfl,hq,hk,hsm,hb,q⟩:=h;obtain⟨u,rfl,ru⟩:=zb3 r
 cases ru
 obtain⟨hz,lo,xs,pr,o,es,ep,ho,hex,hdat,hes,hnd⟩:=(show ObjOk X.prog X.w H s.heap a (.dT kvs) from hq.ok I.hok);have hlx:kvs.length=xs.length:=Bw pr;have hle:es.size=xs.length:=by rw[<-Ax,hes,A3]
 have hlen:xs.length=nss.length:=by
  have e2:=congrArg Fb hk;rw[A3,A3] at e2;omega
 have big:(4096:Nat)<=sizeLine:=by decide
 refine Fe O2 Nd Ng (Nh _) ?_;unfold Hi.«sorted»;refine A0 (m:=checkCount "sorted" 1 1 _) (Ai ?_);refine A0 (J3 (A:=X.A.in1) (kdl_ed (ep:=ep) lo hex hdat) (I.ok.hd hc) ho (by omega) fun h' tk acc hkeep hacc=>?_);have hl:acc.toList.length=xs.length:=by rw[Ax,<-hle];exact hacc.1
 have hrow:∀(j:Nat)v,acc.toList[j]?=some v->∃b ns items,v= .ref b/\nss[j]?=some ns/\H b=some (.tup (ns.map V.int))/\Jh s.heap b items/\E4 items.toList ns:=by
  intro j v e1;obtain⟨e,e2,e3⟩:=hacc.2 j v (by rw[<-Ck];exact e1);rw[<-Ck,hes,Ad] at e2
  cases hx:xs[j]? with
  |none=>rw[hx] at e2;cases e2
  |some x=>
   rw[hx] at e2
   cases e2
   obtain⟨kv,e4,e5,e6,_⟩:=Bv.rev pr hx;have e7:(kvs.map (·.1))[j]?=some kv.1:=by rw[Ad,e4];rfl
   rw[hk,Ad] at e7
   cases hn:nss[j]? with
   |none=>rw[hn] at e7;cases e7
   |some ns=>
    rw[hn] at e7;have e7:kI ns=kv.1:=C1 e7;rw[<-e7,kI_V] at e6;obtain⟨_,its,rv,it⟩:=(show ObjOk X.prog X.w H s.heap x.2.1 (.tup (ns.map V.int)) from I.hok _ _ e6);exact⟨_,ns,its.toArray,e3,rfl,e6,it,by simpa using zdm rv⟩
 have hmem:∀v∈acc.toList,∃b items,v= .ref b/\Jh s.heap b items/\E4 items.toList (tupF H b)/\Smalls (tupF H b)/\H b=some (.tup ((tupF H b).map V.int)):=fun v hv=>by
  obtain⟨j,hj,e⟩:=Dv hv;obtain⟨b,ns,items,rfl,e1,e2,e3,e4⟩:=hrow j v (by rw[A5 hj,e]);have:=zgx e2;rw[<-this] at e1 e2 e4;exact⟨b,items,rfl,e3,e4,hsm _ (Bd e1),e2⟩
 have hmap:acc.toList.map (fun v=>tupF H (adr v))=nss:=by
  refine Ft fun j=>?_;rw[Ad];by_cases hj:j<acc.toList.length
  ·obtain⟨b,ns,items,e0,e1,e2,_,_⟩:=hrow j _ (A5 hj);rw[A5 hj,e1,Cu,e0];show some (tupF H b)=_;rw[zgx e2]
  ·rw[Cm (by omega),Cm (by omega)];rfl
 refine A0 (Ie ?_ (by rw[hl];omega));have hoL:(h'.push (seqObj "list" acc.toList.toArray 0)).get? h'.objs.size=some (seqObj "list" acc.toList.toArray 0):=Ba _ rfl;refine A0 (Dy (E8 M4 ⟨_,hoL,rfl⟩ Lj (sortR (rkT (tupF H)) (TupS s.heap (tupF H)) hoL (fun v hv=>?_) (by omega) (fun h2 h3 hk3=>?_) fun out a2 a3=>⟨_,rfl,?_⟩) (M6 _)))
 ·obtain⟨b,items,rfl,e3,e4,e5,_⟩:=hmem v hv;exact⟨b,items,rfl,e3,e4,e5⟩
 ·have kp:∀a items,Jh s.heap a items->Jh h3 a items:=fun b items it=>by
   obtain⟨o',e1,e2⟩:=it;exact⟨o',hk3 b _ (Br (Au (hkeep _ _ e1))) (Ae _ (hkeep _ _ e1)),e2⟩
  obtain⟨kd,k1,k2⟩:=tup_kind (M:=model X.prog X.w) (A:=X.A.in1.in1) (E:=fun e s'=>_) (s:={s with heap:=h3,toks:=tk}) (vs:=acc.toList) (fun v hv=>by
   obtain⟨b,items,rfl,e3,e4,_⟩:=hmem v hv;exact⟨b,items,_,rfl,kp _ _ e3,e4⟩) h2
  exact⟨kd,k2,ranks_tup (s:={s with heap:=h3,toks:=tk}) k1 (by show X.A.units+1+1<cLine;omega) (tupF H) kp⟩
 ·refine Ai ⟨_,rfl,?_⟩;obtain⟨e,he⟩:=Mt (out:=out.toArray) hoL;have I1:Inv X pins σ H {s with heap:=h',toks:=tk}:=I.kept hkeep;have hvo:Vals (out.map fun v=>V.ref (adr v)) out:=by
   have:∀v∈out,∃b,v= .ref b:=fun v hv=>by
    obtain⟨b,_,e,_⟩:=hmem v (a2.mem_iff.mp hv);exact⟨b,e⟩
   clear a2 a3 he
   induction out with
   |nil=>exact .nil
   |cons v out ih=>
    obtain⟨b,rfl⟩:=this v Aj;exact .cons rfl (ih fun u hu=>this u (Ab _ hu))
  have I2:=Inv.laid (o:=.lst (out.map fun v=>V.ref (adr v))) (a:=h'.objs.size) (h':=sortedHeap (h'.push (seqObj "list" acc.toList.toArray 0)) h'.objs.size acc.toList out.toArray) (t':=tk) I1 (fun b o hb=>by
   have lt:=Au hb;rw[M3 (Br lt) (by rw[Fc];exact G3 lt)];exact Ae _ hb) (Ac _) (show ObjOk X.prog X.w _ _ _ (.lst (out.map fun v=>V.ref (adr v))) from⟨by rw[A3,a2.length_eq];omega,out,e,hvo,he⟩)
  refine⟨.ref h'.objs.size,_,I2,rfl,q _ (out.map fun v=>tupF H (adr v)) _ (I1.hok.fresh (Ac _)) ?_ ?_ ?_⟩
  ·rw[<-hmap];exact a2.map _
  ·rw[C7];refine Gf (fun{x y}hx hy h=>?_) a3;obtain⟨b,_,rfl,_⟩:=hmem x (a2.mem_iff.mp hx);obtain⟨c,_,rfl,_⟩:=hmem y (a2.mem_iff.mp hy);have h:((lexR 8 (tupF H b):Nat):Int)<=((lexR 8 (tupF H c):Nat):Int):=h;show lexR 8 (tupF H b)<=lexR 8 (tupF H c);omega
  ·have hm:∀v∈out,H (adr v)=some (.tup ((tupF H (adr v)).map V.int)):=fun v hv=>by
    obtain⟨b,_,rfl,_,_,_,e⟩:=hmem v (a2.mem_iff.mp hv);exact e
   clear a2 a3 he hvo I2
   induction out with
   |nil=>exact .nil
   |cons v out ih=>exact .cons ⟨_,rfl,hm v Aj⟩ (ih fun u hu=>hm u (Ab _ hu))
end
section
variable{X:Cx}
end
theorem behN_perm{C C':Combs}(p:C.Perm C')(l:List Nat):behN C l=behN C' l:=by
 unfold behN;refine Ea fun s _=>?_;congr 1;funext t;exact any_perm (steps_perm p _) _
theorem zeZ{C C':Combs}(p:C.Perm C'):∀k,rowN C k=rowN C' k
 |0=>rfl
 |k+1=>by
  show behN C (rowN C k)=behN C' (rowN C' k);rw[zeZ p k,behN_perm p]
theorem zdu(s:Nat):Smalls (aheadOf (s:Int)):=by
 refine⟨?_,fun x hx=>by have:=za1 x hx;omega⟩;unfold aheadOf;rw[A3];exact Bm (Bu _ _) (by rw[Am];decide)
end L2
set_option maxHeartbeats 4000000
namespace L2
open PySem PySem.Spec PyProof.Rows PySem.W
section
variable{prog:Aw}{w:Bq}{A:Bi}{E:A1->A6->Prop}{s:A6}
end
noncomputable def storeAll(kvs:List (Key×A1)):List (Key×A1):=kvs.foldl (fun m p=>stored m p.1 p.2) []
section
variable{prog:Aw}{w:Bq}{A:Bi}{E:A1->A6->Prop}{s:A6}
end
section
variable{prog:Aw}{w:Bq}{A:Bi}{E:A1->A6->Prop}{s:A6}
end
section
variable{X:Cx}
end
end L2
namespace L2
open PySem PySem.Spec PyProof.Rows
section
variable{X:Cx}{pins:List (A7×Obj)}{σ:St}{H:Hp}{s:A6}{h':C9}
end
end L2
namespace Att
open PySem PySem.W PySem.Calls PyProof.Rows
end Att
namespace L2
open PySem PySem.Spec PyProof.Rows
section
variable{X:Cx}
end
theorem zaY{s d:Nat}(hs:s<128):((d:Nat):Int)∈aheadOf (s:Int)↔s.testBit d=true:=by
 rw[mem_ahead];constructor
 ·rintro⟨_,_,h⟩;simpa using h
 ·intro h;refine⟨by omega,K6 fun z=>?_,by simpa using h⟩;have h7:7<=d:=by omega
  rw[Ii (Ak hs (show 128<=2 ^ d from Jc (n:=2) (by decide) h7))] at h
  cases h
theorem zdY{a b:Nat}(h:∀d,a.testBit d=b.testBit d):a=b:=Je h
noncomputable def StB(C:Combs)(s:Nat)(x:Str)(n:Nat):Prop:=(s.testBit 0=true/\x=A2 ""/\∀d,n.testBit d=s.testBit (d+1))\/(s.testBit 0=false/\∃c∈C,x=c.1/\(∀d:Nat,s.testBit d=true->(d:Int)∉c.2)/\∀d,n.testBit d=(s.testBit (d+1)||decide (((d+1:Nat):Int)∈c.2)))
theorem zfc{C:Combs}(g:GC C){s:Nat}(hs:s<128){p:Str×List Int}(hp:p∈goesOf C (aheadOf (s:Int))):∃m:Nat,m<128/\worth p.2=(m:Int)/\StB C s p.1 m:=by
 obtain⟨k1,k2,k3,_⟩:=zbw hs g hp;refine⟨(worth p.2).toNat,k1,by omega,?_⟩;have e:=zde k3;generalize (worth p.2).toNat=m at k1 e;unfold goesOf at hp;by_cases h0:(0:Int)∈aheadOf (s:Int)
 ·rw[if_pos h0] at hp;have hp:=A9.mp hp;refine .inl ⟨(zaY hs).mp h0,by rw[hp],fun d=>?_⟩;rw[B7,<-zaY k1,<-zaY hs,<-e,hp,zbk za1 (by simp)];simp
 ·rw[if_neg h0] at hp;obtain⟨c,hc,rfl⟩:=Aa.mp hp;obtain⟨hc1,hc2⟩:=Aq.mp hc;have hm:meets (aheadOf (s:Int)) c.2=false:=by simpa using hc2
  refine .inr ⟨?_,c,hc1,rfl,fun d hd z=>meets_false.mp hm _ z ((zaY hs).mpr hd),fun d=>?_⟩
  ·cases z:s.testBit 0 with
   |false=>rfl
   |true=>exact absurd ((zaY hs).mpr z) h0
  ·rw[B7,<-zaY k1,Kj,decide_eq_true_eq,<-zaY hs,<-e];exact zbk za1 (zbF (g c hc1)) d
theorem zes{C:Combs}(g:GC C){s n:Nat}(hs:s<128){x:Str}:(x,(n:Int))∈stp C s↔n<128/\StB C s x n:=by
 rw[<-za6 hs g,Aa];constructor
 ·rintro⟨p,hp,e⟩;obtain⟨m,m1,m2,m3⟩:=zfc g hs hp;injection e with e1 e2;have:m=n:=by omega
  subst this;exact⟨m1,e1▸m3⟩
 ·rintro⟨hn,h⟩;have key:∀p∈goesOf C (aheadOf (s:Int)),p.1=x->(∀m,worth p.2=(m:Nat)->StB C s p.1 m->m=n)->∃p∈goesOf C (aheadOf (s:Int)),(p.1,worth p.2)=(x,(n:Int)):=fun p hp e1 e2=>by
   obtain⟨m,_,m2,m3⟩:=zfc g hs hp;exact⟨p,hp,by rw[e1,m2,e2 m m2 m3]⟩
  rcases h with⟨h0,rfl,hb⟩|⟨h0,c,hc,rfl,hx,hb⟩
  ·refine key (A2 "",afterOf (aheadOf (s:Int)) []) ?_ rfl fun m _ hm=>?_
   ·unfold goesOf;rw[if_pos (show(0:Int)∈aheadOf (s:Int) from(zaY hs).mpr h0)];exact A9.mpr rfl
   ·rcases hm with⟨_,_,hb'⟩|⟨h0',_⟩
    ·exact zdY fun d=>by rw[hb,hb']
    ·rw[h0] at h0';cases h0'
  ·have n0:(0:Int)∉aheadOf (s:Int):=fun z=>by
    have:=(zaY (d:=0) hs).mp z;rw[h0] at this;cases this
   have hp:(c.1,afterOf (aheadOf (s:Int)) c.2)∈goesOf C (aheadOf (s:Int)):=by
    unfold goesOf;rw[if_neg n0];refine Aa.mpr ⟨c,Aq.mpr ⟨hc,?_⟩,rfl⟩;have:meets (aheadOf (s:Int)) c.2=false:=meets_false.mpr fun t ht z=>by
     have h1:=za1 t z;obtain⟨d,rfl⟩:=M0 h1.1;exact hx d ((zaY hs).mp z) ht
    rw[this];rfl
   obtain⟨k1,k2,k3,_⟩:=zbw hs g hp;have e:=zde k3;refine⟨_,hp,?_⟩;have e2:(worth (afterOf (aheadOf (s:Int)) c.2)).toNat=n:=by
    refine zdY fun d=>?_;rw[B7,<-zaY k1,hb,Kj,decide_eq_true_eq,<-zaY hs];dsimp only at e⊢;rw[<-e];exact zbk za1 (zbF (g c hc)) d
   dsimp only at k2 e2⊢;rw[<-e2,show(((worth (afterOf (aheadOf (s:Int)) c.2)).toNat:Nat):Int)=worth (afterOf (aheadOf (s:Int)) c.2) by omega]
noncomputable def hit(C:Combs)(x:Nat×Str)(q:Nat):Bool:=decide (x.1<=q)&&decide (((q-x.1:Nat):Int)∈tkOf C x.2)
noncomputable def cov(C:Combs)(l:List (Nat×Str))(q:Nat):Nat:=(l.map fun x=>ind (hit C x q)).sum
theorem zdo(C:Combs)(l:List (Nat×Str))(x:Nat×Str)(q:Nat):cov C (l++[x]) q=cov C l q+ind (hit C x q):=by
 unfold cov;rw[B1,Il];simp
noncomputable def chs(C:Combs):Nat->List (List (Nat×Str))
 |0=>[[]]
 |p+1=>(chs C p).flatMap fun r=>r::C.map fun c=>r++[(p,c.1)]
noncomputable def OkC(C:Combs)(l:List (Nat×Str))(p:Nat):Prop:=(∀q,q<p->cov C l q=1)/\∀q,q<p+8->cov C l q<=1
noncomputable def shp(C:Combs)(l:List (Nat×Str))(p:Nat):Nat:=bitSum (fun d=>decide (cov C l (p+d)=1)) 7
theorem zeL{C:Combs}:∀{p:Nat}{l:List (Nat×Str)},l∈chs C p->∀x∈l,x.1<p/\x.2∈C.map (·.1)
 |0,l,h,x,hx=>by
  rw[A9.mp (show l∈[[]] from h)] at hx
  cases hx
 |p+1,l,h,x,hx=>by
  obtain⟨r,hr,h⟩:=Ed.mp h;rcases Bo.mp h with rfl|h
  ·have:=zeL hr x hx;exact⟨by omega,this.2⟩
  ·obtain⟨c,hc,rfl⟩:=Aa.mp h;rcases Ap.mp hx with z|z
   ·have:=zeL hr x z;exact⟨by omega,this.2⟩
   ·rw[A9.mp z];exact⟨Et _,Aa.mpr ⟨c,hc,rfl⟩⟩
theorem tk_in{C:Combs}(g:GC C){x:Str}{t:Int}(h:t∈tkOf C x):0<=t/\t<=7:=by
 unfold tkOf at h
 cases e:cGet C x with
 |none=>rw[e] at h;cases h
 |some ts=>rw[e] at h;exact zbF (g _ (zbM e)) t h
theorem zfO{α:Type}{l:List α}{f:α->Nat}(h:∀x∈l,f x=0):(l.map f).sum=0:=by
 induction l with
 |nil=>rfl
 |cons a l ih=>
  rw[An,Dk,h a Aj,ih fun x hx=>h x (Ab _ hx)]
theorem zc5{C:Combs}(g:GC C){p:Nat}{l:List (Nat×Str)}(h:l∈chs C p){q:Nat}(hq:p+7<=q):cov C l q=0:=zfO fun x hx=>by
 have:=(zeL h x hx).1;unfold hit;rw[decide_eq_false (show¬((q-x.1:Nat):Int)∈tkOf C x.2 from fun z=>by have:=(tk_in g z).2;omega),Bool.and_false];rfl
theorem zeV(C:Combs)(l:List (Nat×Str))(p:Nat):shp C l p<128:=zcV _ 7
theorem zbf{C:Combs}(g:GC C){p:Nat}{l:List (Nat×Str)}(h:l∈chs C p)(d:Nat):(shp C l p).testBit d=decide (cov C l (p+d)=1):=by
 unfold shp;rw[zbV];by_cases hd:d<7
 ·rw[decide_eq_true hd,F4]
 ·rw[decide_eq_false hd,Fy,zc5 g h (by omega)];rfl
theorem zhe{C:Combs}(nd:(C.map (·.1)).Nodup){c:Str×List Int}(hc:c∈C)(p d:Nat):hit C (p,c.1) (p+d)=decide ((d:Int)∈c.2):=by
 unfold hit tkOf;rw[zbj nd hc];simp
theorem hit_below{C:Combs}{p q:Nat}{x:Str}(h:q<p):hit C (p,x) q=false:=by
 unfold hit;rw[decide_eq_false (show¬p<=q by omega),Fy]
theorem zg1{C:Combs}{p:Nat}{l:List (Nat×Str)}(hl:l∈chs C p)(g:GC C):OkC C l (p+1)↔OkC C l p/\cov C l p=1:=by
 constructor
 ·rintro⟨h1,h2⟩;exact⟨⟨fun q hq=>h1 q (by omega),fun q hq=>h2 q (by omega)⟩,h1 p (by omega)⟩
 ·rintro⟨⟨h1,h2⟩,h3⟩;refine⟨fun q hq=>?_,fun q hq=>?_⟩
  ·by_cases e:q=p
   ·rw[e];exact h3
   ·exact h1 q (by omega)
  ·by_cases e:q<p+8
   ·exact h2 q e
   ·rw[zc5 g hl (by omega)];omega
theorem zg0{C:Combs}{p:Nat}{l:List (Nat×Str)}(hl:l∈chs C p)(g:GC C)(nd:(C.map (·.1)).Nodup){c:Str×List Int}(hc:c∈C):OkC C (l++[(p,c.1)]) (p+1)↔OkC C l p/\cov C l p=0/\∀d:Nat,cov C l (p+d)=1->(d:Int)∉c.2:=by
 have e1:∀q,q<p->cov C (l++[(p,c.1)]) q=cov C l q:=fun q hq=>by rw[zdo,hit_below hq];rfl
 have e2:∀d,cov C (l++[(p,c.1)]) (p+d)=cov C l (p+d)+ind (decide ((d:Int)∈c.2)):=fun d=>by rw[zdo,zhe nd hc]
 have h0:(0:Int)∈c.2:=zbU (g c hc);have e0:cov C (l++[(p,c.1)]) p=cov C l p+1:=by
  have:=e2 0;rw[decide_eq_true (show((0:Nat):Int)∈c.2 from h0)] at this;exact this
 constructor
 ·rintro⟨h1,h2⟩;have hp:=h1 p (by omega);refine⟨⟨fun q hq=>by rw[<-e1 q hq];exact h1 q (by omega),fun q hq=>?_⟩,by omega,fun d hd z=>?_⟩
  ·by_cases e:q<p
   ·rw[<-e1 q e];exact h2 q (by omega)
   ·have:=h2 q (by omega);have e3:=e2 (q-p);rw[show p+(q-p)=q by omega] at e3;omega
  ·have e3:=e2 d;rw[hd,decide_eq_true z] at e3;have hd8:d<=7:=by have:=(zbF (g c hc) _ z).2;omega
   have:=h2 (p+d) (by omega);rw[e3] at this;exact absurd this (by decide)
 ·rintro⟨⟨h1,h2⟩,h3,h4⟩;refine⟨fun q hq=>?_,fun q hq=>?_⟩
  ·by_cases e:q=p
   ·rw[e,e0,h3]
   ·rw[e1 q (by omega)];exact h1 q (by omega)
  ·by_cases e:q<p
   ·rw[e1 q e];exact h2 q (by omega)
   ·have e3:=e2 (q-p);rw[show p+(q-p)=q by omega] at e3;have hle:cov C l q<=1:=by
     by_cases e':q<p+8
     ·exact h2 q e'
     ·rw[zc5 g hl (by omega)];omega
    rw[e3];by_cases z:((q-p:Nat):Int)∈c.2
    ·have:cov C l q≠1:=fun y=>h4 (q-p) (by rw[show p+(q-p)=q by omega];exact y) z;rw[decide_eq_true z];show cov C l q+1<=1;omega
    ·rw[decide_eq_false z];exact hle
theorem zhx{C:Combs}(g:GC C)(nd:(C.map (·.1)).Nodup):∀(p n:Nat),n∈rowN C p↔∃l∈chs C p,OkC C l p/\shp C l p=n
 |0,n=>by
  show n∈[0]↔∃l∈[[]],OkC C l 0/\shp C l 0=n;have e:shp C [] 0=0:=rfl;have o:OkC C [] 0:=⟨fun q hq=>by omega,fun q _=>Bz _⟩;rw[A9];constructor
  ·rintro rfl;exact⟨[],A9.mpr rfl,o,e⟩
  ·rintro⟨l,hl,_,h⟩;rw[A9.mp hl,e] at h;exact h.symm
 |p+1,n=>by
  have ih:=zhx g nd p;rw[show rowN C (p+1)=behN C (rowN C p) from rfl,beh_mem];have bn:∀l∈chs C p,∀d,(shp C l (p+1)).testBit d=decide (cov C l (p+1+d)=1):=fun l hl d=>zbf g (p:=p+1) (Ed.mpr ⟨l,hl,Aj⟩) d;have bs:∀l∈chs C p,∀c∈C,∀d,(shp C (l++[(p,c.1)]) (p+1)).testBit d=decide (cov C (l++[(p,c.1)]) (p+1+d)=1):=fun l hl c hc d=>zbf g (p:=p+1) (Ed.mpr ⟨l,hl,Ab _ (Aa.mpr ⟨c,hc,rfl⟩)⟩) d;constructor
  ·rintro⟨hn,t,ht,pr,hp,e⟩;have t128:=(zdD C p).1 t ht;obtain⟨l,hl,ol,rfl⟩:=(ih t).mp ht;obtain⟨x,y⟩:=pr;have hy:=(zbN g t128 hp).1;dsimp only at e hy;have:y=(n:Int):=by omega
   subst this;obtain⟨_,hb⟩:=(zes g t128).mp hp;rcases hb with⟨h0,_,hb⟩|⟨h0,c,hc,_,hx,hb⟩
   ·rw[zbf g hl,decide_eq_true_eq] at h0;refine⟨l,Ed.mpr ⟨l,hl,Aj⟩,(zg1 hl g).mpr ⟨ol,h0⟩,zdY fun d=>?_⟩;rw[bn l hl,hb,zbf g hl,show p+1+d=p+(d+1) by omega]
   ·rw[zbf g hl,decide_eq_false_iff_not] at h0;have hz:cov C l p=0:=by have:=ol.2 p (by omega);have h0:¬cov C l p=1:=h0;omega
    refine⟨l++[(p,c.1)],Ed.mpr ⟨l,hl,Ab _ (Aa.mpr ⟨c,hc,rfl⟩)⟩,(zg0 hl g nd hc).mpr ⟨ol,hz,fun d hd=>hx d (by rw[zbf g hl,decide_eq_true hd])⟩,zdY fun d=>?_⟩;rw[bs l hl c hc,hb,zbf g hl,show p+1+d=p+(d+1) by omega,zdo,zhe nd hc];have hx':=hx (d+1);rw[zbf g hl,decide_eq_true_eq] at hx';have hle:cov C l (p+(d+1))<=1:=by
     by_cases e':d+1<8
     ·exact ol.2 _ (by omega)
     ·rw[zc5 g hl (by omega)];omega
    by_cases a:cov C l (p+(d+1))=1
    ·rw[decide_eq_false (hx' a),a];rfl
    ·have a0:cov C l (p+(d+1))=0:=by omega
     by_cases z:((d+1:Nat):Int)∈c.2
     ·rw[decide_eq_true z,a0];rfl
     ·rw[decide_eq_false z,a0];rfl
  ·rintro⟨l',hl',ol',rfl⟩;refine⟨zeV _ _ _,?_⟩;obtain⟨l,hl,h⟩:=Ed.mp hl';rcases Bo.mp h with rfl|h
   ·obtain⟨ol,h0⟩:=(zg1 hl g).mp ol';refine⟨shp C l' p,(ih _).mpr ⟨l',hl,ol,rfl⟩,(A2 "",((shp C l' (p+1):Nat):Int)),(zes g (zeV _ _ _)).mpr ⟨zeV _ _ _,.inl ⟨?_,rfl,fun d=>?_⟩⟩,by simp⟩
    ·rw[zbf g hl];exact decide_eq_true h0
    ·rw[bn l' hl,zbf g hl,show p+1+d=p+(d+1) by omega]
   ·obtain⟨c,hc,rfl⟩:=Aa.mp h;obtain⟨ol,h0,hx⟩:=(zg0 hl g nd hc).mp ol';refine⟨shp C l p,(ih _).mpr ⟨l,hl,ol,rfl⟩,(c.1,((shp C (l++[(p,c.1)]) (p+1):Nat):Int)),(zes g (zeV _ _ _)).mpr ⟨zeV _ _ _,.inr ⟨?_,c,hc,rfl,fun d hd=>?_,fun d=>?_⟩⟩,by simp⟩
    ·rw[zbf g hl];exact decide_eq_false (by rw[show p+0=p from rfl,h0];decide)
    ·rw[zbf g hl,decide_eq_true_eq] at hd;exact hx d hd
    ·rw[bs l hl c hc,zbf g hl,show p+1+d=p+(d+1) by omega,zdo,zhe nd hc];have hx':=hx (d+1);have hle:cov C l (p+(d+1))<=1:=by
      by_cases e':d+1<8
      ·exact ol.2 _ (by omega)
      ·rw[zc5 g hl (by omega)];omega
     by_cases a:cov C l (p+(d+1))=1
     ·rw[decide_eq_false (hx' a),a];rfl
     ·have a0:cov C l (p+(d+1))=0:=by omega
      by_cases z:((d+1:Nat):Int)∈c.2
      ·rw[decide_eq_true z,a0];rfl
      ·rw[decide_eq_false z,a0];rfl
section
variable{P:Aw}{w:Bq}{A:Bi}{E:A1->A6->Prop}{s:A6}
noncomputable def Inner(P:Aw)(w:Bq)(h:C9):List (List Key)->List A1->Prop:=Bv fun k v=>∃b,v= .ref b/\Me (mixKind P w) h k b
noncomputable def IsNest(P:Aw)(w:Bq)(h:C9)(ks:List (List Key))(a:A7):Prop:=∃ob its m,h.get? a=some ob/\ob.cls= .type "tuple"/\ob.data= .seq its m/\Inner P w h ks its.toList
theorem IsNest.type{ks:List (List Key)}{a:A7}(x:IsNest P w s.heap ks a):s.TypeIs (.ref a) "tuple":=by
 obtain⟨ob,_,_,e1,e2,_⟩:=x;exact⟨ob,e1,e2⟩
theorem ze9{h:C9}:∀{x y:List (List Key)}{vs:List A1},Inner P w h x vs->Inner P w h y vs->x=y
 |_,_,_,.nil,.nil=>rfl
 |_,_,_,.cons ⟨b,e,k⟩ r,.cons ⟨c,e',k'⟩ r'=>by
  rw[e] at e'
  cases e'
  rw[k.inj k',ze9 r r']
theorem zgb{h:C9}{a:A7}{x y:List (List Key)}(hx:IsNest P w h x a)(hy:IsNest P w h y a):x=y:=by
 obtain⟨ob,its,m,e1,_,e2,r⟩:=hx;obtain⟨ob',its',m',e1',_,e2',r'⟩:=hy;rw[e1] at e1'
 cases e1'
 rw[e2] at e2'
 cases e2'
 exact ze9 r r'
theorem nest_keeps{h h':C9}{ks:List (List Key)}{a d:A7}{o:Obj}{es:Array J6}{ep:Nat}(x:IsNest P w h ks a)(ho:h.get? d=some o)(hd:o.data= .dict es ep)(hs:Fw d h h'):IsNest P w h' ks a:=by
 obtain⟨ob,its,m,e1,e2,e3,r⟩:=x;refine⟨ob,its,m,?_,e2,e3,Bv.mapP r fun k v⟨b,e,kk⟩=>⟨b,e,kk.keeps ho hd hs⟩⟩;rw[<-e1];refine hs.2 a fun z=>?_;rw[z,ho] at e1
 cases e1
 rw[hd] at e3
 cases e3
noncomputable def nestHash(P:Aw)(w:Bq)(ks:List (List Key)):Int:=reduceHash (F3 (ks.map (tupleKeyHash (mixKind P w))))
noncomputable def nestDraws(ks:List (List Key)):Nat:=(ks.map fun k=>k.length+1).sum+1
theorem nest_hash{ks:List (List Key)}{a:A7}{Q:Int->A6->Prop}(hu:A.units+4<cLine)(hk:IsNest P w s.heap ks a)(q:Q (nestHash P w ks) {s with toks:=s.toks+nestDraws ks}):wpAny (model P w) A (pyHash (.ref a)) Q E s:=by
 have ty:=hk.type;obtain⟨ob,its,m,e1,_,e3,r⟩:=hk;unfold pyHash pyHashByItsType;refine A0 (wpAny_cRoomFor_or (.inr (by omega)) (A0 (Hb ty F.slot_tuple_hash.lookup ?_)));dsimp only;rw[if_neg (by rw[beq_builtin_none];decide)];refine A0 (Hb ty F.slot_tuple_hash.lookup ?_);refine A0 (wpAny_callSpecialIfBoundUnlessNone?_slot ty F.slot_tuple_hash (E8 F.slot_tuple_hash ty F.entry_tuple_hash ?_ (F.args_tuple_hash_1 _)));change wpAny (model P w) A.in1 (Pa (Bc a)>>=fun arr=>_) _ E s;refine A0 (K8 e1 e3 (A0 ?_));rw[<-Jm];refine Gm _ (fun rest(b:Array Int)s'=>∃done left,ks=done++left/\Inner P w s.heap left rest/\b.toList=done.map (tupleKeyHash (mixKind P w))/\s'={s with toks:=s.toks+(done.map fun k=>k.length+1).sum}) _ ?_ ?_ _ _ ⟨[],ks,rfl,r,rfl,rfl⟩
 ·rintro v rest b s'⟨done,left,rfl,hl,hb,rfl⟩
  cases hl with
  |@cons k _ ks' _ h1 hl'=>
   obtain⟨c,rfl,hc⟩:=h1;have fin:∃done' left',done++k::ks'=done'++left'/\Inner P w s.heap left' rest/\(b.push (tupleKeyHash (mixKind P w) k)).toList=done'.map (tupleKeyHash (mixKind P w))/\({s with toks:=s.toks+(done.map fun k=>k.length+1).sum+(k.length+1)}:A6)={s with toks:=s.toks+(done'.map fun k=>k.length+1).sum}:=
    ⟨done++[k],ks',by simp,hl',by simp[hb],by simp[Du]⟩
   refine A0 (wpAny_pyHash_tuple (knd:=mixKind P w) (s:={s with toks:=s.toks+(done.map fun k=>k.length+1).sum}) (by rw[Ky];omega) hc ?_)
   first
    |exact Ai fin
    |exact A0 (Ai (Ai fin))
 ·rintro b s'⟨done,left,rfl,hl,hb,rfl⟩
  cases hl
  rw[Ci] at q;change wpAny (model P w) A.in1 (retInt (F3 b.toList)) _ E _;rw[hb];refine Pd ?_;unfold nestHash reduceHash at q;unfold nestDraws at q;rw[<-Du] at q;change wpAny (model P w) A (if(decide (-(2:Int) ^ 63<=F3 (done.map (tupleKeyHash (mixKind P w))))&&decide (F3 (done.map (tupleKeyHash (mixKind P w)))<2 ^ 63))=true then _ else _) Q E _
  split
  ·rename_i c;rw[if_pos c] at q;exact Ai q
  ·rename_i c;rw[if_neg c] at q;exact A0 (Gk (Ai q))
theorem nest_eq_tree{x y:List (List Key)}{a b:A7}{R:Nj->A6->Prop}(hu:A.units<cLine)(hx:IsNest P w s.heap x a)(hy:IsNest P w s.heap y b)(q:R (.done (.ret (.bool (decide (x=y))))) s):
  wpAny (model P w) A (Hi.«tuple.__eq__» ⟨[.ref a,.ref b],[]⟩) R E s:=by
 have ty:=hy.type;obtain⟨oa,xs,na,a1,_,a3,ra⟩:=hx;obtain⟨ob,ys,nb,b1,_,b3,rb⟩:=hy;change wpAny (model P w) A (isInstance (Bc b) (.type "tuple")>>=fun c=>_) R E s;refine A0 (Iy ty Jj ?_);simp only[En,Bt,if_false];refine A0 (K8 a1 a3 (A0 (K8 b1 b3 (A0 ?_))));refine Gm _ (fun rest r s'=>r.1=none/\s'=s/\∃x' y' xs' ys',rest=List.zip xs' ys'/\Inner P w s.heap x' xs'/\Inner P w s.heap y' ys'/\(x'=y'↔x=y)/\(xs'.length=ys'.length↔xs.size=ys.size)) _ ?_ ?_ _ _ ⟨rfl,rfl,x,y,xs.toList,ys.toList,rfl,ra,rb,Iff.rfl,by simp⟩
 ·rintro⟨u,v⟩rest r s'⟨hr,rfl,x',y',xs',ys',hz,hx',hy',hd,hl⟩
  cases hx' with
  |nil=>simp at hz
  |@cons k1 u' x2 xs2 h1 t1=>
   cases hy' with
   |nil=>simp at hz
   |@cons k2 v' y2 ys2 h2 t2=>
    rw[Gz] at hz;injection hz with hz1 hz2;injection hz1 with z1 z2;subst z1 z2 hz2;obtain⟨c1,rfl,g1⟩:=h1;obtain⟨c2,rfl,g2⟩:=h2;refine A0 (wpAny_eqBool_tuple hu g1 g2 ?_);by_cases e:k1=k2
    ·subst e;rw[decide_eq_true rfl];simp only[En,Bt,if_false];exact Ai ⟨rfl,rfl,x2,y2,xs2,ys2,rfl,t1,t2,by rw[<-hd];simp,by rw[<-hl];simp⟩
    ·rw[decide_eq_false e];simp only[Bool.not_false,if_true];have ne:¬x=y:=fun z=>by
      have:=hd.mpr z;injection this with z1 _;exact e z1
     rw[decide_eq_false ne] at q;exact A0 (Ai (Ai (Ai q)))
 ·rintro⟨r1,r2⟩s'⟨hr,rfl,x',y',xs',ys',hz,hx',hy',hd,hl⟩;dsimp only at hr;subst hr;refine Ai ?_;have e:(xs.size==ys.size)=decide (x=y):=by
   rw[B7,beq_iff_eq,decide_eq_true_eq,<-hd,<-hl]
   cases hx' with
   |nil=>cases hy' with
    |nil=>simp
    |cons _ _=>simp
   |cons _ _=>cases hy' with
    |nil=>simp
    |cons _ _=>simp at hz
  change R (.done (.ret (.bool (xs.size==ys.size)))) s';rw[e];exact q
theorem nest_eq{x y:List (List Key)}{a b:A7}{Q:Bool->A6->Prop}(hu:A.units+4<cLine)(hx:IsNest P w s.heap x a)(hy:IsNest P w s.heap y b)(q:Q (decide (x=y)) s):wpAny (model P w) A (eqBool (.ref a) (.ref b)) Q E s:=by
 unfold eqBool
 try with_reducible refine Dy ?_
 change wpAny (model P w) A (if(Bc a==Bc b)=true then _ else _) Q E s;by_cases e:(Bc a==Bc b)=true
 ·rw[if_pos e];have e':=eq_of_beq e
  cases e'
  rw[decide_eq_true (zgb hx hy)] at q;exact A0 (Gk (Ai q))
 ·rw[if_neg e];exact A0 (wpAny_richCompare_same_room (op:=.Eq) hx.type hy.type F.slot_tuple_eq (E8 F.slot_tuple_eq hx.type F.entry_tuple_eq (nest_eq_tree (by rw[Ky];omega) hx hy ⟨_,rfl,(fun z=>nomatch z),D1 q⟩) (F.args_tuple_eq_2 _ _)) (by omega))
theorem tup_quiet{M:I0}{n:Nat}{ks:List Key}{a:A7}{Q:Bool->A6->Prop}(hk:Me (mixKind P w) s.heap ks a)(q:Q true s):wpAny M A (eqIsQuiet (n+1) (.ref a)) Q E s:=by
 have ty:=hk.typeIs;obtain⟨ob,its,m,e1,_,e3,r⟩:=hk;unfold eqIsQuiet;refine A0 (Hb ty F.slot_tuple_eq.lookup ?_);change wpAny M A (isInstance (Bc a) (.type "tuple")>>=fun c=>_) Q E s;refine A0 (Iy ty Jj ?_);simp only[En,Bt,if_false];refine A0 (Q7 e1 e3 (A0 ?_));change wpAny M A (forIn its _ _) _ E s;rw[<-Jm];refine Gm _ (fun rest r s'=>r.1=none/\s'=s/\∀v∈rest,carriedByValue v=true) _ ?_ ?_ _ _ ⟨rfl,rfl,r.byValue⟩
 ·rintro v rest r s'⟨_,rfl,hv⟩;rw[eqIsQuiet_byValue _ (hv v Aj)];refine A0 (Ai ?_);simp only[En,Bt,if_false];exact Ai ⟨rfl,rfl,fun u hu'=>hv u (Ab _ hu')⟩
 ·rintro⟨r1,r2⟩s'⟨hr,rfl,_⟩;dsimp only at hr;subst hr;exact Ai q
theorem nest_quiet{M:I0}{ks:List (List Key)}{a:A7}{Q:Bool->A6->Prop}(hk:IsNest P w s.heap ks a)(q:Q true s):wpAny M A (eqIsQuiet 8 (.ref a)) Q E s:=by
 have ty:=hk.type;obtain⟨ob,its,m,e1,_,e3,r⟩:=hk;unfold eqIsQuiet;refine A0 (Hb ty F.slot_tuple_eq.lookup ?_);change wpAny M A (isInstance (Bc a) (.type "tuple")>>=fun c=>_) Q E s;refine A0 (Iy ty Jj ?_);simp only[En,Bt,if_false];refine A0 (Q7 e1 e3 (A0 ?_));change wpAny M A (forIn its _ _) _ E s;rw[<-Jm];have hall:∀v∈its.toList,∃k b,v= .ref b/\Me (mixKind P w) s.heap k b:=fun v hv=>by
  obtain⟨i,hi⟩:=Iv.mp hv;obtain⟨k,_,b,e,hk⟩:=Bv.rev r hi;exact⟨k,b,e,hk⟩
 refine Gm _ (fun rest r s'=>r.1=none/\s'=s/\∀v∈rest,∃k b,v= .ref b/\Me (mixKind P w) s.heap k b) _ ?_ ?_ _ _ ⟨rfl,rfl,hall⟩
 ·rintro v rest r s'⟨_,rfl,hv⟩;obtain⟨k,b,rfl,hk⟩:=hv v Aj;refine A0 (tup_quiet (n:=6) hk ?_);simp only[En,Bt,if_false];exact Ai ⟨rfl,rfl,fun u hu'=>hv u (Ab _ hu')⟩
 ·rintro⟨r1,r2⟩s'⟨hr,rfl,_⟩;dsimp only at hr;subst hr;exact Ai q
end
noncomputable def nestKind(P:Aw)(w:Bq):HeapKind P w (List (List Key)) where
 is:=IsNest P w
 hash:=nestHash P w
 draws:=nestDraws
 room:=fun A=>A.units+4<cLine
 inj:=zgb
 keeps:=nest_keeps
 pyHash:=nest_hash
 eqBool:=nest_eq
 quiet:=nest_quiet
noncomputable def NestAt(H:Hp)(b:A7)(ks:List (List Key)):Prop:=∃ws,H b=some (.tup ws)/\Bv (fun(k:List Key)(v:V)=>∃c,v= .ref c/\H c=some (.tup (k.map kV))) ks ws
noncomputable abbrev NX:=List (List Key)×A7×V
noncomputable def nestIn(P:Aw)(w:Bq)(a:A7)(xs:List NX)(h:C9):Prop:=xs.length<=sizeLine/\(a==sysModules)=false/\∃ys:List (List (List Key)×A7×A1),Bv (fun(p:NX)(q:List (List Key)×A7×A1)=>p.1=q.1/\p.2.1=q.2.1/\RelV p.2.2 q.2.2) xs ys/\
 ∃o es ep,h.get? a=some o/\o.ExactDict/\o.data= .dict es ep/\es.toList=ys.map (entryOfKey (nestKind P w))/\(ys.map (·.1)).Nodup
noncomputable def DN(P:Aw)(w:Bq)(a:A7)(xs:List NX):HO:=.ext (nestIn P w a xs)
noncomputable def nks(xs:List NX):List (List (List Key)):=xs.map (·.1)
noncomputable def hasN(l:List (List (List Key)))(ks:List (List Key)):Bool:=l.any fun z=>decide (z=ks)
theorem hasN_iff{l:List (List (List Key))}{ks:List (List Key)}:hasN l ks=true↔ks∈l:=by
 unfold hasN;rw[Bf];exact⟨fun⟨x,h1,h2⟩=>of_decide_eq_true h2▸h1,fun h=>⟨ks,h,decide_eq_true rfl⟩⟩
theorem zgh{l:List (List (List Key))}{ks:List (List Key)}(h:ks∉l):hasN l ks=false:=by
 cases e:hasN l ks with
 |false=>rfl
 |true=>exact absurd (hasN_iff.mp e) h
noncomputable def KeysN(H:Hp)(xs:List NX):Prop:=∀x∈xs,NestAt H x.2.1 x.1
noncomputable def NDict(P:Aw)(w:Bq)(H:Hp)(a:A7)(xs:List NX):Prop:=((xs=[]/\H a=some (.dK []))\/H a=some (DN P w a xs))/\KeysN H xs
theorem NestAt.same{H H':Hp}{b:A7}{ks:List (List Key)}(n:NestAt H b ks)(m:∀q xs,H q=some (.tup xs)->H' q=some (.tup xs)):NestAt H' b ks:=by
 obtain⟨ws,e,r⟩:=n;exact⟨ws,m _ _ e,Bv.mapP r fun _ _⟨c,e1,e2⟩=>⟨c,e1,m _ _ e2⟩⟩
theorem KeysN.same{H H':Hp}{xs:List NX}(n:KeysN H xs)(m:∀q xs,H q=some (.tup xs)->H' q=some (.tup xs)):KeysN H' xs:=fun x hx=>(n x hx).same m
section
variable{P:Aw}{w:Bq}{H:Hp}{h:C9}{a b:A7}{xs:List NX}{ks:List (List Key)}
theorem NDict.same{H':Hp}(n:NDict P w H a xs)(sm:Same H H'):NDict P w H' a xs:=⟨n.1.imp (fun z=>⟨z.1,sm _ _ z.2⟩) fun z=>sm _ _ z,n.2.same fun _ _ e=>sm _ _ e⟩
theorem zeB(ok:HOk P w H h)(n:NestAt H b ks):IsNest P w h ks b:=by
 obtain⟨ws,e,r⟩:=n;obtain⟨_,its,rv,o,h1,h2,m,h3⟩:=(show ObjOk P w H h b (.tup ws) from ok b _ e);refine⟨o,its.toArray,m,h1,h2,h3,?_⟩;have:∀{ks:List (List Key)}{ws:List V}{its:List A1},Bv (fun(k:List Key)(v:V)=>∃c,v= .ref c/\H c=some (.tup (k.map kV))) ks ws->Vals ws its->Inner P w h ks its:=by
  intro ks ws its r
  induction r generalizing its with
  |nil=>intro rv;cases rv;exact .nil
  |cons q _ ih=>
   intro rv
   cases rv with
   |cons rv1 rv2=>
    obtain⟨c,rfl,ec⟩:=q;exact .cons ⟨c,rv1,zdS ok ec⟩ (ih rv2)
 simpa using this r rv
theorem zdl(ok:HOk P w H h)(n:NDict P w H a xs):xs.length<=sizeLine/\(a==sysModules)=false/\∃ys,Bv (fun(p:NX)(q:List (List Key)×A7×A1)=>p.1=q.1/\p.2.1=q.2.1/\RelV p.2.2 q.2.2) xs ys/\h.DictOfH (nestKind P w) a ys:=by
 obtain⟨n1,n2⟩:=n;rcases n1 with⟨rfl,e⟩|e
 ·obtain⟨_,hd,vs,rel,o,es,ep,h1,h2,h3,_,h4,_⟩:=zia ok e
  cases rel
  refine⟨Bz _,hd,[],.nil,o,es,ep,h1,h2,h3,?_,fun x hx=>absurd hx List.not_mem_nil,Dm⟩;generalize es.toList=l at h4⊢
  cases h4
  rfl
 ·obtain⟨⟨z,hd,ys,r,o,es,ep,h1,h2,h3,h4,h5⟩,_,_⟩:=(show ObjOk P w H h a (DN P w a xs) from ok a _ e);refine⟨z,hd,ys,r,o,es,ep,h1,h2,h3,h4,fun y hy=>?_,h5⟩;obtain⟨i,hi⟩:=Iv.mp hy;obtain⟨x,hx,e1,e2,_⟩:=Bv.rev r hi;have:=zeB ok (n2 x (Bd hx));rw[e1,e2] at this;exact this
theorem zh7{ys:List (List (List Key)×A7×A1)}(r:Bv (fun(p:NX)(q:List (List Key)×A7×A1)=>p.1=q.1/\p.2.1=q.2.1/\RelV p.2.2 q.2.2) xs ys):ys.map (·.1)=nks xs:=by
 unfold nks
 induction r with
 |nil=>rfl
 |cons q _ ih=>rw[An,An,ih,q.1]
theorem zeo{ys:List (List (List Key)×A7×A1)}{ks:List (List Key)}:(atKey ys ks).isSome=hasN (ys.map (·.1)) ks:=by
 unfold atKey;rw[Hd,B7,List.find?_isSome,hasN_iff,Aa];exact⟨fun⟨x,h1,h2⟩=>⟨x,h1,of_decide_eq_true h2⟩,fun⟨x,h1,h2⟩=>⟨x,h1,decide_eq_true h2⟩⟩
end
section
variable{X:Cx}{pins:List (A7×Obj)}{σ:St}{H:Hp}{s:A6}{a b:A7}{xs:List NX}{ks:List (List Key)}{A:Bi}{E:A1->A6->Prop}
theorem n_notIn{Q:A1->A6->Prop}(hu:A.units+5<cLine)(I:Inv X pins σ H s)(n:NDict X.prog X.w H a xs)(hb:NestAt H b ks)(q:∀s',Inv X pins σ H s'->Q (.bool (!hasN (nks xs) ks)) s'):
  wpAny (model X.prog X.w) A (compareOp .NotIn (.ref b) (.ref a)) Q E s:=by
 obtain⟨z,hd,ys,r,dd⟩:=zdl I.hok n;refine Ot (knd:=nestKind X.prog X.w) (show A.in1.units+4<cLine by rw[Ky];omega) (zeB I.hok hb) hd dd ?_;rw[zeo,zh7 r];exact q _ (I.tok _)
theorem n_getItem{Q:A1->A6->Prop}{c:A7}{v:V}(hu:A.units+5<cLine)(I:Inv X pins σ H s)(n:NDict X.prog X.w H a xs)(hb:NestAt H b ks)(hm:(ks,c,v)∈xs)(q:∀w' s',Inv X pins σ H s'->RelV v w'->Q w' s'):
  wpAny (model X.prog X.w) A (getItem (.ref a) (.ref b)) Q E s:=by
 obtain⟨z,hd,ys,r,dd⟩:=zdl I.hok n;obtain⟨i,hi⟩:=Iv.mp hm;obtain⟨⟨k',c',v'⟩,hy,e1,e2,rv⟩:=Bv.at r hi;dsimp only at e1 e2 rv;subst e1 e2;obtain⟨_,_,_,_,_,_,_,_,nd⟩:=id dd;refine Ob (knd:=nestKind X.prog X.w) (show A.in1.units+4<cLine by rw[Ky];omega) (zeB I.hok hb) dd (atKey_of_get nd hy) (q _ _ (I.tok _) rv)
theorem n_setItem{Q:Unit->A6->Prop}{v:V}{u:A1}(hu:A.units+5<cLine)(I:Inv X pins σ H s)(n:NDict X.prog X.w H a xs)(hb:NestAt H b ks)(hn:ks∉nks xs)(hl:xs.length<sizeLine)(rv:RelV v u)
  (q:∀s',Inv X pins σ (upd H a (DN X.prog X.w a (xs++[(ks,b,v)]))) s'->Q () s'):wpAny (model X.prog X.w) A (setItem (.ref a) (.ref b) u) Q E s:=by
 have mu:Mut (H a):=by
  rcases n.1 with⟨_,e⟩|e<;>rw[e]<;>exact Eh
 obtain⟨z,hd,ys,r,dd⟩:=zdl I.hok n;have e0:atKey ys ks=none:=by
  have:=zeo (ys:=ys) (ks:=ks);rw[zh7 r,zgh hn] at this
  cases e:atKey ys ks with
  |none=>rfl
  |some y=>rw[e] at this;cases this
 refine Oa (knd:=nestKind X.prog X.w) (hsz:=by rw[<-Bw r];omega) (show A.in1.units+4<cLine by rw[Ky];omega) (zeB I.hok hb) dd fun h' dd' hs=>q _ ?_;obtain⟨o,es,ep,h1,h2,h3,h4,_,h5⟩:=dd';have fin:nestIn X.prog X.w a (xs++[(ks,b,v)]) h':=by
  refine⟨by rw[Af,Bx];omega,hd,_,?_,o,es,ep,h1,h2,h3,h4,h5⟩;rw[storedH_new e0];exact Ej r ⟨rfl,rfl,rv⟩
 refine zeK I mu hs ⟨o,h1⟩ ⟨fin,⟨o,h1⟩,fun g1 g2 x hx=>?_⟩;obtain⟨y1,y2,ys',y3,o',es',ep',y4,y5⟩:=x;exact⟨y1,y2,ys',y3,o',es',ep',hx _ y4,y5⟩
theorem n_type(I:Inv X pins σ H s)(n:NDict X.prog X.w H a xs):s.TypeIs (.ref a) "dict":=by
 obtain⟨_,_,ys,_,dd⟩:=zdl I.hok n;exact dd.typeIs
end
noncomputable def tNNotIn(P:Aw)(w:Bq)(ty td:TE):TE:=fun σ H Q=>ty σ H fun y H1=>td σ H1 fun x H2=>∃a b xs ks,x= .ref a/\y= .ref b/\NDict P w H2 a xs/\NestAt H2 b ks/\Q (.bl (!hasN (nks xs) ks)) H2
noncomputable def tNGet(P:Aw)(w:Bq)(td ty:TE):TE:=fun σ H Q=>td σ H fun x H1=>ty σ H1 fun y H2=>∃a b c xs ks v,x= .ref a/\y= .ref b/\NDict P w H2 a xs/\NestAt H2 b ks/\(ks,c,v)∈xs/\Q v H2
noncomputable def sNPut(P:Aw)(w:Bq)(td ty tv:TE):TS:=fun D σ H=>tv σ H fun v H1=>td σ H1 fun x H2=>ty σ H2 fun y H3=>∃a b xs ks,x= .ref a/\y= .ref b/\NDict P w H3 a xs/\NestAt H3 b ks/\ks∉nks xs/\xs.length<sizeLine/\D.nx σ (upd H3 a (DN P w a (xs++[(ks,b,v)])))
section
variable{X:Cx}{o i e value:Ce}{pos pos' tpos:Pos}{td ty tv:TE}
theorem pc_nnotin(hu:X.A.units+64<cLine)(hi:PE X i ty)(ho:PE X o td):PC X .NotIn i o (tNNotIn X.prog X.w ty td):=by
 intro pins s σ H Q I h;refine thnE (hi pins s σ H _ I h) fun iv s1 y H1 I1 ry q1=>thnE (ho pins s1 σ H1 _ I1 q1) fun u s2 x H2 I2 rx⟨a,b,xs,ks,ex,ey,n,hb,q2⟩=>?_;subst ex ey
 cases(show u=Bc a from rx)
 cases(show iv=Bc b from ry)
 exact n_notIn (by omega) I2 n hb fun s3 I3=>⟨.bl _,H2,I3,rfl,q2⟩
theorem pe_nget(hu:X.A.units+64<cLine)(ho:PE X o td)(hi:PE X i ty)(hs:NoSl i):PE X (.Subscript o i pos) (tNGet X.prog X.w td ty):=by
 intro pins s σ H Q I h;refine zgD Kf.lookup hs (thnE (ho pins s σ H _ I h) fun u s1 x H1 I1 rx q1=>thnE (hi pins s1 σ H1 _ I1 q1) fun iv s2 y H2 I2 ry⟨a,b,c,xs,ks,v,ex,ey,n,hb,hm,q2⟩=>?_);subst ex ey
 cases(show u=Bc a from rx)
 cases(show iv=Bc b from ry)
 exact⟨n_type I2 n,n_getItem (by omega) I2 n hb hm fun w' s3 I3 rw'=>⟨v,H2,I3,rw',q2⟩⟩
theorem ps_nput(hu:X.A.units+64<cLine)(ho:PE X o td)(hi:PE X i ty)(hv:PE X value tv)(hs:swapsWith value (some (.Subscript o i pos')) pos.line X.env=pure false):PS X (.Assign [.Subscript o i pos'] value pos) (sNPut X.prog X.w td ty tv):=by
 intro pins s σ H D I h;refine Na (thnE (hv pins s σ H _ I h) fun r s1 v H1 I1 rv q1=>thnE (ho pins s1 σ H1 _ I1 q1) fun u s2 x H2 I2 rx q2=>thnE (hi pins s2 σ H2 _ I2 q2) fun iv s3 y H3 I3 ry⟨a,b,xs,ks,ex,ey,n,hb,hn,hl,q3⟩=>?_) hs;subst ex ey
 cases(show u=Bc a from rx)
 cases(show iv=Bc b from ry)
 exact n_setItem (by omega) I3 n hb hn hl rv fun s4 I4=>⟨σ,_,I4,q3⟩
noncomputable def rInT(K:Az):R2:=fun x y H Q=>∃d es,VD K H x d/\VD K H y (.tuple es)/\d.canLay0=true/\C6 es=true/\d.depth<=50/\Q (.bl (es.any fun e=>Dt e d)) H
theorem op_inT(hu:X.A.units+64<cLine):OpR X (compareOp .In) (rInT X.K):=by
 intro pins s σ H x y v u Q I rx ry h;obtain⟨d,es,hd,he,c1,c2,dp,q⟩:=h;obtain⟨a1,r1⟩:=hd.reads I rx;obtain⟨a2,r2⟩:=he.reads I ry;exact SeqAt.in_tuple_reads r2 r1 c2 c1 (by have:=Nat.min_le_right (Dj es) d.depth;omega) ⟨.bl _,H,I,rfl,q⟩
theorem call_max1'(K:Az)(hK:X.K=K)(hc:X.calm=true):CallR X (.builtin "max") (fun xs H Q=>∃(a:A7)(ns:List Int),xs=[V.ref a]/\SqL K H a (ns.map V.int)/\0<ns.length/\∀M,M∈ns->(∀n∈ns,n<=M)->Q (.int M) H):=hK▸zfk hc
end
noncomputable def tDisp1T(tk tv:TE):TE:=fun σ H Q=>∀p,H p=none->tk σ (upd H p (.dT [])) fun x H1=>tv σ H1 fun y H2=>∃k b,H2 p=some (.dT [])/\x= .ref b/\H2 b=some (.tup (k.map kV))/\Q (.ref p) (upd H2 p (.dT [(k,y)]))
theorem pe_disp1T{X:Cx}{pos:Pos}{k v:Ce}{tk tv:TE}(hu:X.A.units+1<cLine)(hk:PE X k tk)(hv:PE X v tv):PE X (.Dict [some k] [v] pos) (tDisp1T tk tv):=by
 intro pins s σ H Q I q;have hn:=I.hok.fresh (Ac s.heap.objs.size);have I1:=I.laid (a:=s.heap.objs.size) (o:=.dT []) (h':=s.heap.push {cls:=.type "dict",data:=.dict #[]}) (t':=s.toks) (fun _ _ q=>Ae _ q) (Ac _) (zgl s.heap I.big);refine wpAny_Dict_any rfl rfl (by simp) (show 1<=15 by decide) (pairTrees_cons_walk (thnE (hk pins _ σ _ _ I1 (q _ hn)) fun u s1 x H1 J1 rx q1=>thnE (hv pins s1 σ H1 _ J1 q1) fun r s2 y H2 J2 ry⟨kk,b,hp,ex,hb,q2⟩=>pairTrees_nil_walk ?_));subst ex
 cases(show u=Bc b from rx)
 unfold PySem.storeAll;rw[Kh];obtain⟨z,hd,xs,rel,dd⟩:=zh9 J2.hok hp
 cases rel
 refine A0 (A0 (wpAny_dictSet_heap (knd:=tupleKind (mixKind X.prog X.w)) (hsz:=Bz _) (by show X.A.units<cLine;omega) (zdS J2.hok hb) dd fun h' dd' hs=>Ai ?_));dsimp only;rw[List.forIn_nil];refine Ai ⟨.ref s.heap.objs.size,_,?_,rfl,q2⟩;obtain⟨o,es,ep,h1,h2,h3,h4,_,h5⟩:=dd';refine zeK J2 (by rw[hp];exact Eh) hs ⟨o,h1⟩ ⟨show 1<=sizeLine from Bm (by decide) zaS,hd,_,.cons ⟨rfl,?_,ry⟩ .nil,o,es,ep,h1,h2,h3,h4,h5⟩;rw[zag (zh0 hb hp (fun z=>nomatch z))];exact hb
section
variable{X:Cx}{o i e value:Ce}{pos pos' tpos:Pos}{td ty tv:TE}
theorem pc_nnotin'(P:Aw)(w:Bq)(hP:X.prog=P)(hw:X.w=w)(hu:X.A.units+64<cLine)(hi:PE X i ty)(ho:PE X o td):PC X .NotIn i o (tNNotIn P w ty td):=by subst hP hw;exact pc_nnotin hu hi ho
theorem pe_nget'(P:Aw)(w:Bq)(hP:X.prog=P)(hw:X.w=w)(hu:X.A.units+64<cLine)(ho:PE X o td)(hi:PE X i ty)(hs:NoSl i):PE X (.Subscript o i pos) (tNGet P w td ty):=by subst hP hw;exact pe_nget hu ho hi hs
theorem ps_nput'(P:Aw)(w:Bq)(hP:X.prog=P)(hw:X.w=w)(hu:X.A.units+64<cLine)(ho:PE X o td)(hi:PE X i ty)(hv:PE X value tv)(hs:swapsWith value (some (.Subscript o i pos')) pos.line X.env=pure false):PS X (.Assign [.Subscript o i pos'] value pos) (sNPut P w td ty tv):=by subst hP hw;exact ps_nput hu ho hi hv hs
end
noncomputable def st1(C:Combs)(s t:Nat):Prop:=∃p∈stp C s,p.2.toNat=t
noncomputable def rch(C:Combs)(s:Nat):Nat->Nat->Prop
 |0,t=>t=s
 |n+1,t=>∃u,rch C s n u/\st1 C u t
theorem zhG{C:Combs}(g:GC C){s t:Nat}(hs:s<128)(h:st1 C s t):t<128:=by
 obtain⟨p,hp,rfl⟩:=h;exact(zbN g hs hp).2
theorem zdE{C:Combs}(g:GC C){s:Nat}(hs:s<128):∀{n t:Nat},rch C s n t->t<128
 |0,t,h=>by rw[show t=s from h];exact hs
 |n+1,t,⟨u,h1,h2⟩=>zhG g (zdE g hs h1) h2
theorem zb9{C:Combs}{s m u:Nat}(h:rch C s m u):∀{n t:Nat},rch C u n t->rch C s (m+n) t
 |0,t,h2=>by rw[show t=u from h2];exact h
 |n+1,t,⟨v,h1,h2⟩=>⟨v,zb9 h h1,h2⟩
theorem zcM{C:Combs}{s m:Nat}:∀{n t:Nat},rch C s (m+n) t->∃u,rch C s m u/\rch C u n t
 |0,t,h=>⟨t,h,rfl⟩
 |n+1,t,⟨v,h1,h2⟩=>by
  obtain⟨u,a,b⟩:=zcM h1;exact⟨u,a,v,b,h2⟩
theorem zb8{C:Combs}(g:GC C):∀{k t:Nat},t∈rowN C k↔rch C 0 k t
 |0,t=>A9
 |k+1,t=>by
  rw[show rowN C (k+1)=behN C (rowN C k) from rfl,beh_mem];constructor
  ·rintro⟨_,u,hu,p,hp,e⟩;exact⟨u,(zb8 g).mp hu,p,hp,e⟩
  ·rintro⟨u,hu,h⟩;exact⟨zhG g (zdE g (by decide) hu) h,u,(zb8 g).mpr hu,h⟩
noncomputable def Fil(C:Combs)(n:Nat):Prop:=rch C 0 n 0
theorem fil_zero(C:Combs):Fil C 0:=rfl
theorem fil_add{C:Combs}{m n:Nat}(h1:Fil C m)(h2:Fil C n):Fil C (m+n):=zb9 h1 h2
theorem zhm{C:Combs}{m:Nat}(h:Fil C m):∀k,Fil C (k*m)
 |0=>by rw[P5];exact fil_zero C
 |k+1=>by rw[Iu];exact fil_add (zhm h k) h
theorem zgO{C:Combs}{s:Nat}:∀{n t:Nat},rch C s n t->∃f:Nat->Nat,f n=t/\∀i,i<=n->rch C s i (f i)/\rch C (f i) (n-i) t
 |0,t,h=>⟨fun _=>t,rfl,fun i hi=>by
  have:i=0:=by omega
  subst this;exact⟨h,rfl⟩⟩
 |n+1,t,⟨u,h1,h2⟩=>by
  obtain⟨f,e,hf⟩:=zgO h1;refine⟨fun i=>if i<=n then f i else t,if_neg (by omega),fun i hi=>?_⟩;dsimp only;by_cases z:i<=n
  ·rw[if_pos z];refine⟨(hf i z).1,?_⟩;rw[show n+1-i=n-i+1 by omega];exact⟨u,(hf i z).2,h2⟩
  ·rw[if_neg z];have:i=n+1:=by omega
   subst this;rw[G0];exact⟨⟨u,h1,h2⟩,rfl⟩
theorem twice{f:Nat->Nat}(h:∀i,i<=128->f i<128):∃i j,i<j/\j<=128/\f i=f j:=by
 refine D7 fun z=>?_;have nd:((A4 129).map f).Nodup:=by
  rw[Q4,C7,Df];intro i j hi hj hij e;rw[N7,N7] at e;rw[Am] at hj;exact z ⟨i,j,hij,by omega,e⟩
 have:=zaD 128 _ nd (fun x hx=>by
  obtain⟨i,hi,rfl⟩:=Aa.mp hx;exact h i (by have:=Ay.mp hi;omega))
 rw[A3,Am] at this;omega
theorem fil_small{C:Combs}(g:GC C):∀(n:Nat),Fil C n->1<=n->∃m,1<=m/\m<=128/\Fil C m:=by
 intro n
 induction n using Nat.strongRecOn with
 |_ n ih=>
  intro h h1;by_cases hn:n<=128
  ·exact⟨n,h1,hn,h⟩
  obtain⟨f,e,hf⟩:=zgO h;obtain⟨i,j,hij,hj,ef⟩:=twice (f:=f) fun i hi=>zdE g (by decide) (hf i (by omega)).1;have a:=(hf i (by omega)).1;have b:=(hf j (by omega)).2;rw[<-ef] at b;exact ih (i+(n-j)) (by omega) (zb9 a b) (by omega)
noncomputable def HR(C:Combs)(k s:Nat):Prop:=rch C 0 k s/\∃n,rch C s n 0
theorem hr_zero(C:Combs)(s:Nat):HR C 0 s↔s=0:=⟨fun h=>h.1,fun h=>⟨h,0,h.symm⟩⟩
theorem zfz{C:Combs}(k t:Nat):HR C (k+1) t↔(∃s,HR C k s/\st1 C s t)/\∃n,rch C t n 0:=by
 constructor
 ·rintro⟨⟨u,h1,h2⟩,n,h3⟩;have h4:rch C u 1 t:=⟨u,rfl,h2⟩;exact⟨⟨u,⟨h1,1+n,zb9 h4 h3⟩,h2⟩,n,h3⟩
 ·rintro⟨⟨u,⟨h1,_⟩,h2⟩,h3⟩;exact⟨⟨u,h1,h2⟩,h3⟩
theorem zhd{C:Combs}{k:Nat}:HR C k 0↔Fil C k:=⟨fun h=>h.1,fun h=>⟨h,0,rfl⟩⟩
theorem zhc{C:Combs}{i j:Nat}(h:∀s,HR C i s↔HR C j s):∀k s,HR C (i+k) s↔HR C (j+k) s
 |0,s=>h s
 |k+1,s=>by
  have ih:=zhc h k;rw[<-Du,<-Du,zfz,zfz];constructor
  ·rintro⟨⟨u,h1,h2⟩,h3⟩;exact⟨⟨u,(ih u).mp h1,h2⟩,h3⟩
  ·rintro⟨⟨u,h1,h2⟩,h3⟩;exact⟨⟨u,(ih u).mpr h1,h2⟩,h3⟩
theorem hr_turn{C:Combs}{t:Nat}(h:Fil C t){k s:Nat}(hk:HR C k s):HR C (t+k) s:=⟨zb9 h hk.1,hk.2⟩
open Classical in
theorem zgf{C:Combs}(g:GC C){M:Nat}(nd:∀i j,i<j->j<=M->¬∀s,HR C i s↔HR C j s):M<=16512:=by
 refine K6 fun big=>?_;by_cases ht:∃t,1<=t/\t<=128/\Fil C t
 ·obtain⟨t,t1,t2,hf⟩:=ht
  let A:Nat->List Nat:=fun j=>(A4 128).filter fun s=>decide (HR C (j*t) s)
  have less:∀j,j<129->(A j).length<(A (j+1)).length:=fun j hj=>by
   have hm:∀s,HR C (j*t) s->HR C ((j+1)*t) s:=fun s h=>by
    rw[Iu,Ik];exact hr_turn hf h
   have hle:(j+1)*t<=129*128:=Og (by omega) t2;have hne:¬∀s,HR C (j*t) s↔HR C ((j+1)*t) s:=nd _ _ (by rw[Iu];omega) (by omega);have ex:∃s,HR C ((j+1)*t) s/\¬HR C (j*t) s:=D7 fun z=>hne fun s=>⟨hm s,fun h=>D7 fun y=>z ⟨s,h,y⟩⟩;obtain⟨s,h1,h2⟩:=ex;have hs:s<128:=zdE g (by decide) h1.1;have sub:∀x∈s::A j,x∈A (j+1):=fun x hx=>by
    rcases Bo.mp hx with rfl|hx
    ·exact Aq.mpr ⟨Ay.mpr hs,decide_eq_true h1⟩
    ·obtain⟨a,b⟩:=Aq.mp hx;exact Aq.mpr ⟨a,decide_eq_true (hm x (of_decide_eq_true b))⟩
   have n1:(s::A j).Nodup:=Dw.mpr ⟨fun z=>h2 (of_decide_eq_true (Aq.mp z).2),Nv.sublist Cv⟩;have:=zdk n1 sub;rw[At] at this;omega
  have up:∀j,j<=129->j<=(A j).length:=fun j=>by
   induction j with
   |zero=>exact fun _=>Bz _
   |succ j ih=>exact fun h=>by have:=ih (by omega);have:=less j (by omega);omega
  have h1:=up 129 (by omega);have h2:(A 129).length<=128:=Bm (Bu _ _) (by rw[Am];exact Ac _);omega
 ·have none:∀k,1<=k->∀s,¬HR C k s:=fun k hk s⟨h1,n,h2⟩=>by
   obtain⟨m,a,b,c⟩:=fil_small g (k+n) (zb9 h1 h2) (by omega);exact ht ⟨m,a,b,c⟩
  exact nd 1 2 (by omega) (by omega) fun s=>⟨fun h=>absurd h (none 1 (by omega) s),fun h=>absurd h (none 2 (by omega) s)⟩
theorem zck(C:Combs)(P:Nat×Str->Bool)(q:Nat):∀l:List (Nat×Str),cov C (l.filter P) q=(l.map fun x=>if P x=true then ind (hit C x q) else 0).sum
 |[]=>rfl
 |x::l=>by
  have ih:=zck C P q l;rw[By,An,Dk,<-ih]
  split
  ·unfold cov;rw[An,Dk]
  ·rw[Fg]
theorem cov_app(C:Combs)(l m:List (Nat×Str))(q:Nat):cov C (l++m) q=cov C l q+cov C m q:=by
 unfold cov;rw[B1,Il]
noncomputable def inOrder(l:List (Nat×Str))(p:Nat):List (Nat×Str):=(A4 p).flatMap fun j=>l.filter fun x=>decide (x.1=j)
theorem zdf(l:List (Nat×Str))(p:Nat):inOrder l (p+1)=inOrder l p++l.filter fun x=>decide (x.1=p):=by
 unfold inOrder;rw[Cw,N3];simp
theorem zgC{α:Type}(f g:α->Nat):∀l:List α,(l.map f).sum+(l.map g).sum=(l.map fun x=>f x+g x).sum
 |[]=>rfl
 |a::l=>by
  have:=zgC f g l;simp only[An,Dk];omega
theorem zgB{α:Type}{f g:α->Nat}{l:List α}(h:∀x∈l,f x=g x):(l.map f).sum=(l.map g).sum:=by
 rw[Be h]
theorem zdW(C:Combs)(l:List (Nat×Str))(q:Nat):∀p,cov C (inOrder l p) q=cov C (l.filter fun x=>decide (x.1<p)) q
 |0=>by
  rw[Ev.mpr (fun x _=>by rw[decide_eq_true_eq];omega)];rfl
 |p+1=>by
  rw[zdf,cov_app,zdW C l q p,zck,zck,zck,zgC];refine zgB fun x _=>?_;by_cases h1:x.1<p
  ·rw[decide_eq_true h1,decide_eq_false (show¬x.1=p by omega),decide_eq_true (show x.1<p+1 by omega)];rfl
  ·by_cases h2:x.1=p
   ·rw[decide_eq_false h1,decide_eq_true h2,decide_eq_true (show x.1<p+1 by omega)];simp
   ·rw[decide_eq_false h1,decide_eq_false h2,decide_eq_false (show¬x.1<p+1 by omega)];rfl
noncomputable def Lay(C:Combs)(l:List (Nat×Str)):Prop:=∀x∈l,x.2∈C.map (·.1)
theorem zhC{C:Combs}(nd:(C.map (·.1)).Nodup){x:Str}(h:x∈C.map (·.1)):∃c∈C,c.1=x/\tkOf C x=c.2:=by
 obtain⟨c,hc,rfl⟩:=Aa.mp h;exact⟨c,hc,rfl,by unfold tkOf;rw[zbj nd hc];rfl⟩
theorem zgg{C:Combs}(g:GC C)(nd:(C.map (·.1)).Nodup){x:Nat×Str}(h:x.2∈C.map (·.1)):hit C x x.1=true:=by
 obtain⟨c,hc,e,e2⟩:=zhC nd h;unfold hit;rw[e2,decide_eq_true (Ac _),G0,decide_eq_true (show((0:Nat):Int)∈c.2 from zbU (g c hc))];rfl
theorem cov_one{C:Combs}{l:List (Nat×Str)}{x:Nat×Str}(hx:x∈l){q:Nat}(h:hit C x q=true):1<=cov C l q:=by
 induction l with
 |nil=>cases hx
 |cons y l ih=>
  unfold cov;rw[An,Dk];rcases Bo.mp hx with rfl|hx
  ·rw[h];show 1<=1+_;omega
  ·have:=ih hx;unfold cov at this;omega
theorem filter_cov{C:Combs}(g:GC C)(nd:(C.map (·.1)).Nodup){l:List (Nat×Str)}(hl:Lay C l)(j:Nat):(l.filter fun x=>decide (x.1=j)).length<=cov C l j:=by
 induction l with
 |nil=>exact Bz _
 |cons y l ih=>
  have ih:=ih fun x hx=>hl x (Ab _ hx);unfold cov at ih⊢;rw[An,Dk,By];by_cases e:y.1=j
  ·have:=zgg g nd (hl y Aj);rw[e] at this;rw[if_pos (decide_eq_true e),At,this];show _<=1+_;omega
  ·rw[if_neg (by rw[decide_eq_true_eq];exact e)];omega
theorem zdT{C:Combs}(g:GC C)(nd:(C.map (·.1)).Nodup){l:List (Nat×Str)}(hl:Lay C l):∀p,(∀q,q<p->cov C l q<=1)->inOrder l p∈chs C p
 |0,_=>A9.mpr rfl
 |p+1,h=>by
  have ih:=zdT g nd hl p fun q hq=>h q (by omega);have h1:=Bm (filter_cov g nd hl p) (h p (by omega));rw[zdf];refine Ed.mpr ⟨_,ih,?_⟩
  cases e:l.filter fun x=>decide (x.1=p) with
  |nil=>rw[Ci];exact Aj
  |cons x m=>
   rw[e,At] at h1;have hm:m=[]:=Kc (by omega);subst hm;have hx:x∈l.filter fun x=>decide (x.1=p):=by rw[e];exact A9.mpr rfl
   obtain⟨h2,h3⟩:=Aq.mp hx;obtain⟨c,hc,ec⟩:=Aa.mp (hl x h2);refine Ab _ (Aa.mpr ⟨c,hc,?_⟩);rw[ec,<-of_decide_eq_true h3]
noncomputable def Cover(C:Combs)(l:List (Nat×Str))(n:Nat):Prop:=∀q,cov C l q=if q<n then 1 else 0
theorem Cover.below{C:Combs}(g:GC C)(nd:(C.map (·.1)).Nodup){l:List (Nat×Str)}{n:Nat}(hl:Lay C l)(h:Cover C l n){x:Nat×Str}(hx:x∈l){q:Nat}(hq:hit C x q=true):q<n:=by
 have h1:=cov_one hx hq;rw[h q] at h1;by_cases z:q<n
 ·exact z
 ·rw[if_neg z] at h1;omega
theorem zfR{C:Combs}(g:GC C){l:List (Nat×Str)}{n:Nat}(hl:l∈chs C n):(OkC C l n/\shp C l n=0)↔Cover C l n:=by
 constructor
 ·rintro⟨⟨h1,h2⟩,h3⟩q;by_cases z:q<n
  ·rw[if_pos z];exact h1 q z
  ·rw[if_neg z];have h4:=zbf g hl (q-n);rw[h3,Gb,show n+(q-n)=q by omega] at h4;have h5:=of_decide_eq_false h4.symm;by_cases y:q<n+8
   ·have:=h2 q y;omega
   ·exact zc5 g hl (by omega)
 ·intro h;refine⟨⟨fun q hq=>by rw[h q,if_pos hq],fun q _=>by rw[h q];split<;>omega⟩,zdY fun d=>?_⟩;rw[zbf g hl,h,if_neg (by omega),Gb];rfl
theorem zfh{C:Combs}(g:GC C)(nd:(C.map (·.1)).Nodup){n:Nat}:Fil C n↔∃l,Lay C l/\Cover C l n:=by
 unfold Fil;rw[<-zb8 g,zhx g nd];constructor
 ·rintro⟨l,hl,h⟩;exact⟨l,fun x hx=>(zeL hl x hx).2,(zfR g hl).mp h⟩
 ·rintro⟨l,hl,h⟩;have hi:=zdT g nd hl n fun q hq=>by rw[h q];split<;>omega
  have hc:Cover C (inOrder l n) n:=fun q=>by
   rw[zdW,<-h q,Bs.mpr];intro x hx;exact decide_eq_true (h.below g nd hl hx (zgg g nd (hl x hx)))
  exact⟨inOrder l n,hi,(zfR g hi).mpr hc⟩
noncomputable def mxT(ts:List Int):Int:=ts.foldl max 0
noncomputable def turnT(ts:List Int):List Int:=canon (ts.map fun t=>mxT ts-t)
noncomputable def turnC(C:Combs):Combs:=C.map fun c=>(c.1,turnT c.2)
theorem zdM{ts:List Int}(g:GT ts):mxT ts∈ts/\(∀t∈ts,t<=mxT ts)/\0<=mxT ts/\mxT ts<=7:=by
 obtain⟨h1,h2,h3⟩:=fold_max ts 0;have hm:mxT ts∈ts:=by
  rcases h3 with z|z
  ·unfold mxT;rw[z];exact zbU g
  ·exact z
 exact⟨hm,h1,h2,(zbF g _ hm).2⟩
theorem zcP{ts:List Int}(g:GT ts){t:Int}:t∈turnT ts↔mxT ts-t∈ts:=by
 obtain⟨h1,h2,h3,h4⟩:=zdM g;unfold turnT;rw[mem_canon,Aa];constructor
 ·rintro⟨⟨u,hu,rfl⟩,_⟩;rw[show mxT ts-(mxT ts-u)=u by omega];exact hu
 ·intro h;have:=h2 _ h;have:=zbF g _ h;exact⟨⟨_,h,by omega⟩,by omega,by omega⟩
theorem zdU{ts:List Int}(g:GT ts):GT (turnT ts):=zgi (Aa.mpr ⟨mxT ts,(zdM g).1,by omega⟩)
theorem mx_turn{ts:List Int}(g:GT ts):mxT (turnT ts)=mxT ts:=by
 obtain⟨h1,h2,h3,h4⟩:=zdM g;obtain⟨k1,k2,k3,k4⟩:=zdM (zdU g);have a:mxT ts∈turnT ts:=(zcP g).mpr (by rw[Int.sub_self];exact zbU g);have b:=k2 _ a;have c:=zbF g _ ((zcP g).mp k1);omega
theorem lt_ext{a b:List Int}(ha:a.Pairwise (· < ·))(hb:b.Pairwise (· < ·))(h:∀t,t∈a↔t∈b):a=b:=
 zbx ((D5 (zaU ha) (zaU hb)).mpr h) (ha.imp fun h=>by omega) (hb.imp fun h=>by omega)
theorem turn_turn{ts:List Int}(g:GT ts):turnT (turnT ts)=ts:=by
 refine lt_ext (zeI (zdU (zdU g))) (zeI g) fun t=>?_;rw[zcP (zdU g),zcP g,mx_turn g,show mxT ts-(mxT ts-t)=t by omega]
theorem zbP(C:Combs):(turnC C).map (·.1)=C.map (·.1):=by
 unfold turnC;rw[As];rfl
theorem zep{C:Combs}(g:GC C):GC (turnC C):=fun c hc=>by
 obtain⟨d,hd,rfl⟩:=Aa.mp hc;exact zdU (g d hd)
theorem turnC_turnC{C:Combs}(g:GC C):turnC (turnC C)=C:=by
 unfold turnC;rw[As]
 conv=>rhs;rw[<-Gd C]
 refine Be fun c hc=>?_;show(c.1,turnT (turnT c.2))=c;rw[turn_turn (g c hc)]
theorem tk_turn{C:Combs}(nd:(C.map (·.1)).Nodup){x:Str}(h:x∈C.map (·.1)):tkOf (turnC C) x=turnT (tkOf C x):=by
 obtain⟨c,hc,rfl,e⟩:=zhC nd h;have nd':((turnC C).map (·.1)).Nodup:=by rw[zbP];exact nd
 have hc':(c.1,turnT c.2)∈turnC C:=Aa.mpr ⟨c,hc,rfl⟩;rw[e];unfold tkOf;rw[zbj nd' hc'];rfl
noncomputable def mir(C:Combs)(n:Nat)(x:Nat×Str):Nat×Str:=(n-1-x.1-(mxT (tkOf C x.2)).toNat,x.2)
theorem hit_mir{C:Combs}(g:GC C)(nd:(C.map (·.1)).Nodup){n:Nat}{x:Nat×Str}(h:x.2∈C.map (·.1))(hin:x.1+(mxT (tkOf C x.2)).toNat<n)(q:Nat):hit (turnC C) (mir C n x) q=(decide (q<n)&&hit C x (n-1-q)):=by
 obtain⟨c,hc,e,e2⟩:=zhC nd h;have gc:=g c hc;obtain⟨h1,h2,h3,h4⟩:=zdM gc;unfold hit mir;dsimp only;rw[e2] at hin;rw[tk_turn nd h,e2];rw[B7,Cp,Cp,Cp,decide_eq_true_eq,decide_eq_true_eq,decide_eq_true_eq,decide_eq_true_eq,decide_eq_true_eq,zcP gc];constructor
 ·rintro⟨a,b⟩;have b1:=zbF gc _ b;refine⟨by omega,by omega,?_⟩;rw[show((n-1-q-x.1:Nat):Int)=mxT c.2-((q-(n-1-x.1-(mxT c.2).toNat):Nat):Int) by omega];exact b
 ·rintro⟨a,b,d⟩;have d1:=h2 _ d;refine⟨by omega,?_⟩;rw[show mxT c.2-((q-(n-1-x.1-(mxT c.2).toNat):Nat):Int)=((n-1-q-x.1:Nat):Int) by omega];exact d
theorem cover_in{C:Combs}(g:GC C)(nd:(C.map (·.1)).Nodup){l:List (Nat×Str)}{n:Nat}(hl:Lay C l)(h:Cover C l n){x:Nat×Str}(hx:x∈l):x.1+(mxT (tkOf C x.2)).toNat<n:=by
 obtain⟨c,hc,e,e2⟩:=zhC nd (hl x hx);obtain⟨h1,_,h3,_⟩:=zdM (g c hc);refine h.below g nd hl hx ?_;unfold hit;rw[e2,decide_eq_true (by omega),decide_eq_true]
 ·rfl
 ·rw[show((x.1+(mxT c.2).toNat-x.1:Nat):Int)=mxT c.2 by omega];exact h1
theorem cover_mir{C:Combs}(g:GC C)(nd:(C.map (·.1)).Nodup){l:List (Nat×Str)}{n:Nat}(hl:Lay C l)(h:Cover C l n):Lay (turnC C) (l.map (mir C n))/\Cover (turnC C) (l.map (mir C n)) n:=by
 refine⟨fun y hy=>?_,fun q=>?_⟩
 ·obtain⟨x,hx,rfl⟩:=Aa.mp hy;rw[zbP];exact hl x hx
 ·have e:cov (turnC C) (l.map (mir C n)) q=(l.map fun x=>ind (decide (q<n)&&hit C x (n-1-q))).sum:=by
   unfold cov;rw[As];refine zgB fun x hx=>?_;show ind (hit (turnC C) (mir C n x) q)=_;rw[hit_mir g nd (hl x hx) (cover_in g nd hl h hx)]
  rw[e];by_cases z:q<n
  ·rw[if_pos z,decide_eq_true z];have:=h (n-1-q);rw[if_pos (by omega)] at this;exact this
  ·rw[if_neg z,decide_eq_false z];exact zfO fun _ _=>rfl
theorem fil_turn{C:Combs}(g:GC C)(nd:(C.map (·.1)).Nodup){n:Nat}:Fil (turnC C) n↔Fil C n:=by
 have nd':((turnC C).map (·.1)).Nodup:=by rw[zbP];exact nd
 have one:∀{C:Combs},GC C->(C.map (·.1)).Nodup->Fil C n->Fil (turnC C) n:=fun{C}g nd h=>by
  obtain⟨l,h1,h2⟩:=(zfh g nd).mp h;exact(zfh (zep g) (by rw[zbP];exact nd)).mpr ⟨_,cover_mir g nd h1 h2⟩
 refine⟨fun h=>?_,one g nd⟩;have:=one (zep g) nd' h;rwa[turnC_turnC g] at this
theorem fil_perm{C C':Combs}(g:GC C)(g':GC C')(p:C.Perm C')(n:Nat):Fil C n↔Fil C' n:=by
 unfold Fil;rw[<-zb8 g,<-zb8 g',zeZ p]
noncomputable def Wy(C:Combs):Nat->Nat->Nat
 |0,s=>if s=0 then 1 else 0
 |k+1,s=>((stp C s).map fun p=>Wy C k p.2.toNat).sum
noncomputable def bh(x:Str)(A B:Nat->Nat)(p:Str×Int):Nat:=if p.1=x then A p.2.toNat else B p.2.toNat
theorem zgA{α:Type}{l:List α}{f:α->Nat}:0<(l.map f).sum↔∃x∈l,0<f x:=by
 induction l with
 |nil=>simp
 |cons a l ih=>
  rw[An,Dk];constructor
  ·intro h;by_cases z:0<f a
   ·exact⟨a,Aj,z⟩
   ·obtain⟨x,hx,h'⟩:=ih.mp (by omega);exact⟨x,Ab _ hx,h'⟩
  ·rintro⟨x,hx,h⟩;rcases Bo.mp hx with rfl|hx
   ·omega
   ·have:=ih.mpr ⟨x,hx,h⟩;omega
theorem Wy_pos{C:Combs}:∀{k s:Nat},0<Wy C k s↔rch C s k 0
 |0,s=>by
  show 0<(if s=0 then 1 else 0)↔0=s;by_cases h:s=0
  ·rw[if_pos h];exact⟨fun _=>h.symm,fun _=>by omega⟩
  ·rw[if_neg h];exact⟨fun z=>by omega,fun z=>absurd z.symm h⟩
 |k+1,s=>by
  show 0<((stp C s).map fun p=>Wy C k p.2.toNat).sum↔_;rw[zgA];constructor
  ·rintro⟨p,hp,h⟩;have h1:rch C s 1 p.2.toNat:=⟨s,rfl,p,hp,rfl⟩;have:=zb9 h1 (Wy_pos.mp h);rwa[Ik] at this
  ·intro h;rw[Ik] at h;obtain⟨u,⟨v,e,p,hp,hu⟩,h2⟩:=zcM h;rw[show v=s from e] at hp;subst hu;exact⟨p,hp,Wy_pos.mpr h2⟩
structure Sel(C:Combs)(x:Str)(B:Nat->Nat->Nat):Prop where
 zero:∀s,0<B 0 s->s=0
 succ:∀k s,B (k+1) s=((stp C s).map (bh x (Wy C k) (B k))).sum
noncomputable def ro(C:Combs)(B:Nat->Nat->Nat)(fl:Bool)(k:Nat):Nat->Nat:=if fl=true then Wy C k else B k
noncomputable def sel(C:Combs)(x:Str)(B:Nat->Nat->Nat)(s:Nat)(fl:Bool)(k:Nat):Option (Str×Int):=(stp C s).find? fun p=>decide (0<bh x (Wy C k) (ro C B fl k) p)
noncomputable def fw(C:Combs)(x:Str)(B:Nat->Nat->Nat)(n:Nat):Nat->Nat×Bool
 |0=>(0,false)
 |i+1=>match sel C x B (fw C x B n i).1 (fw C x B n i).2 (n-1-i) with
  |some p=>(p.2.toNat,(fw C x B n i).2||decide (p.1=x))
  |none=>(0,false)
noncomputable def fnm(C:Combs)(x:Str)(B:Nat->Nat->Nat)(n i:Nat):Str:=((sel C x B (fw C x B n i).1 (fw C x B n i).2 (n-1-i)).map (·.1)).getD (A2 "")
theorem zgG(C:Combs)(x:Str):Sel C x (Wy C):=by
 refine⟨fun s h=>?_,fun k s=>?_⟩
 ·have:0<(if s=0 then 1 else 0):=h;by_cases z:s=0
  ·exact z
  ·rw[if_neg z] at this;omega
 ·show((stp C s).map fun p=>Wy C k p.2.toNat).sum=_;refine zgB fun p _=>?_;unfold bh
  split<;>rfl
theorem ro_succ{C:Combs}{x:Str}{B:Nat->Nat->Nat}(S:Sel C x B)(fl:Bool)(k s:Nat):ro C B fl (k+1) s=((stp C s).map (bh x (Wy C k) (ro C B fl k))).sum:=by
 cases fl with
 |false=>exact S.succ k s
 |true=>exact(zgG C x).succ k s
theorem zfT{C:Combs}(g:GC C){x:Str}{B:Nat->Nat->Nat}(S:Sel C x B){s k:Nat}(hs:s<128){fl:Bool}(h:0<ro C B fl (k+1) s):∃p,sel C x B s fl k=some p/\p∈stp C s/\0<=p.2/\p.2.toNat<128/\0<ro C B (fl||decide (p.1=x)) k p.2.toNat:=by
 rw[ro_succ S,zgA] at h;obtain⟨p,hp,h1⟩:=h
 cases e:sel C x B s fl k with
 |none=>
  unfold sel at e;rw[Ha] at e;exact absurd (decide_eq_true h1) (e p hp)
 |some p'=>
  unfold sel at e;have h2:=Ip e;have h3:=Ek e;have h4:=zbN g hs h3;refine⟨p',rfl,h3,h4.1,h4.2,?_⟩;have h5:=of_decide_eq_true h2;unfold bh at h5;by_cases z:p'.1=x
  ·rw[if_pos z] at h5;rw[decide_eq_true z,M2];exact h5
  ·rw[if_neg z] at h5;rw[decide_eq_false z,Lg];exact h5
theorem zhj{C:Combs}(g:GC C){x:Str}{B:Nat->Nat->Nat}(S:Sel C x B){n:Nat}(h:0<B n 0):∀i,i<=n->(fw C x B n i).1<128/\0<ro C B (fw C x B n i).2 (n-i) (fw C x B n i).1
 |0,_=>⟨show 0<128 by decide,h⟩
 |i+1,hi=>by
  obtain⟨h1,h2⟩:=zhj g S h i (by omega);rw[show n-i=n-1-i+1 by omega] at h2;obtain⟨p,e,_,_,p3,p4⟩:=zfT g S h1 h2;have ef:fw C x B n (i+1)=(p.2.toNat,(fw C x B n i).2||decide (p.1=x)):=by
   show(match sel C x B (fw C x B n i).1 (fw C x B n i).2 (n-1-i) with
    |some p=>(p.2.toNat,(fw C x B n i).2||decide (p.1=x))
    |none=>(0,false))=_
   rw[e]
  rw[ef,show n-(i+1)=n-1-i by omega];exact⟨p3,p4⟩
theorem zhi{C:Combs}(g:GC C){x:Str}{B:Nat->Nat->Nat}(S:Sel C x B){n:Nat}(h:0<B n 0){i:Nat}(hi:i<n):sel C x B (fw C x B n i).1 (fw C x B n i).2 (n-1-i)=some (fnm C x B n i,((fw C x B n (i+1)).1:Int))/\(fw C x B n (i+1)).2=((fw C x B n i).2||decide (fnm C x B n i=x))/\(fnm C x B n i,((fw C x B n (i+1)).1:Int))∈stp C (fw C x B n i).1:=by
 obtain⟨h1,h2⟩:=zhj g S h i (by omega);rw[show n-i=n-1-i+1 by omega] at h2;obtain⟨p,e,p1,p2,p3,p4⟩:=zfT g S h1 h2;have ef:fw C x B n (i+1)=(p.2.toNat,(fw C x B n i).2||decide (p.1=x)):=by
  show(match sel C x B (fw C x B n i).1 (fw C x B n i).2 (n-1-i) with
   |some p=>(p.2.toNat,(fw C x B n i).2||decide (p.1=x))
   |none=>(0,false))=_
  rw[e]
 have en:fnm C x B n i=p.1:=by unfold fnm;rw[e];rfl
 have ep:(fnm C x B n i,((fw C x B n (i+1)).1:Int))=p:=by
  rw[en,ef];refine Prod.ext rfl ?_;show((p.2.toNat:Nat):Int)=p.2;omega
 rw[ep,e];exact⟨rfl,by rw[ef,en],p1⟩
theorem fw_end{C:Combs}(g:GC C){x:Str}{B:Nat->Nat->Nat}(S:Sel C x B){n:Nat}(h:0<B n 0):(fw C x B n n).1=0:=by
 have h2:=(zhj g S h n (Ac _)).2;rw[G0] at h2;unfold ro at h2
 split at h2
 ·exact(zgG C x).zero _ h2
 ·exact S.zero _ h2
noncomputable abbrev KB:=List Key×Bool
section
variable{P:Aw}{w:Bq}{A:Bi}{E:A1->A6->Prop}{s:A6}
end
noncomputable abbrev PX:=KB×A7×V
section
variable{P:Aw}{w:Bq}{H:Hp}{h:C9}{a b:A7}{xs:List PX}{k:KB}
end
section
variable{X:Cx}{pins:List (A7×Obj)}{σ:St}{H:Hp}{s:A6}{a b:A7}{xs:List PX}{k:KB}{A:Bi}{E:A1->A6->Prop}
end
section
variable{X:Cx}{o i e f value k v:Ce}{pos pos' apos cpos:Pos}{td ty tv tx tk:TE}
end
section
variable{X:Cx}{pins:List (A7×Obj)}{σ:St}{H:Hp}{s:A6}{a:A7}{u:HO}
end
section
variable{X:Cx}{tg:Ce}
end
section
variable{C:Combs}{x:Str}
end
section
variable{mvs:List PX}{rs:List (Nat×Bool)}{G:Nat×Bool->Nat}
end
section
variable{X:Cx}
end
theorem zhF{C:Combs}(g:GC C){s t:Nat}{x:Str}(hs:s<128)(hm:(x,(t:Int))∈stp C s):
  ((0:Int)∈aheadOf (s:Int)/\x=A2 ""/\aheadOf (t:Int)=afterOf (aheadOf (s:Int)) [])\/((0:Int)∉aheadOf (s:Int)/\∃c∈C,x=c.1/\meets (aheadOf (s:Int)) c.2=false/\aheadOf (t:Int)=afterOf (aheadOf (s:Int)) c.2):=by
 rw[<-za6 hs g] at hm;obtain⟨p,hp,e⟩:=Aa.mp hm;obtain⟨_,k2,k3,_⟩:=zbw hs g hp;injection e with e1 e2;have e3:p.2=aheadOf (t:Int):=by
  have:=zde k3;rw[this,e2];congr 1
 unfold goesOf at hp;by_cases h0:(0:Int)∈aheadOf (s:Int)
 ·rw[if_pos h0] at hp;have hp:=A9.mp hp;refine .inl ⟨h0,?_,?_⟩
  ·rw[<-e1,hp]
  ·rw[<-e3,hp]
 ·rw[if_neg h0] at hp;obtain⟨c,hc,rfl⟩:=Aa.mp hp;obtain⟨hc1,hc2⟩:=Aq.mp hc;exact .inr ⟨h0,c,hc1,e1.symm,by simpa using hc2,e3.symm⟩
theorem path_walk{C:Combs}(g:GC C)(nd:(C.map (·.1)).Nodup)(ne:∀c∈C,c.1≠A2 ""){f:Nat->Nat}{nm:Nat->Str}(h0:f 0=0)(hs:∀i,f i<128/\(nm i,(f (i+1):Int))∈stp C (f i)):
  Walk (fun k d=>decide ((d:Int)∈aheadOf (f k:Int))) (fun k t=>decide ((t:Int)∈tkOf C (nm k))):=by
 have hnone:cGet C (A2 "")=none:=get_none.mpr fun z=>by
  obtain⟨c,hc,e⟩:=Aa.mp z;exact ne c hc e
 have hin:∀k t,t∈tkOf C (nm k)->0<=t/\t<=7:=fun k t ht=>by
  unfold tkOf at ht
  cases e:cGet C (nm k) with
  |none=>rw[e] at ht;cases ht
  |some ts=>rw[e] at ht;exact zbF (g _ (zbM e)) t ht
 have go:=fun k=>zhF g (hs k).1 (hs k).2;refine⟨fun d=>?_,fun k d hd=>?_,fun k d hd=>?_,fun k=>?_,fun k d=>?_⟩
 ·have e:aheadOf ((f 0:Nat):Int)=[]:=by rw[h0];decide
  show decide ((d:Int)∈aheadOf ((f 0:Nat):Int))=false;rw[e];exact decide_eq_false nofun
 ·exact decide_eq_false fun z=>by have:=(mem_ahead.mp z).2.1;omega
 ·exact decide_eq_false fun z=>by have:=(hin k _ z).2;omega
 ·rcases go k with⟨h0,e1,_⟩|⟨h0,c,hc,e1,_⟩
  ·have:(0:Int)∉tkOf C (nm k):=by unfold tkOf;rw[e1,hnone];exact nofun
   rw[decide_eq_true (show((0:Nat):Int)∈_ from h0),decide_eq_false (show¬((0:Nat):Int)∈_ from this)];rfl
  ·have:(0:Int)∈tkOf C (nm k):=by unfold tkOf;rw[e1,zbj nd hc];exact zbU (g c hc)
   rw[decide_eq_false (show¬((0:Nat):Int)∈_ from h0),decide_eq_true (show((0:Nat):Int)∈_ from this)];rfl
 ·rcases go k with⟨h0,e1,e2⟩|⟨h0,c,hc,e1,hmt,e2⟩
  ·have:((d+1:Nat):Int)∉tkOf C (nm k):=by unfold tkOf;rw[e1,hnone];exact nofun
   rw[e2,decide_eq_false this];have:=zbk (ah:=aheadOf (f k:Int)) (ts:=[]) za1 (by simp) d;have e:decide ((d:Int)∈afterOf (aheadOf (f k:Int)) [])=decide (((d+1:Nat):Int)∈aheadOf (f k:Int)):=by
    rw[decide_eq_decide,this];simp
   rw[e];rfl
  ·have ht:tkOf C (nm k)=c.2:=by unfold tkOf;rw[e1,zbj nd hc];rfl
   rw[e2,ht];have hm:=zbk (ah:=aheadOf (f k:Int)) (ts:=c.2) za1 (zbF (g c hc)) d;have hx:=meets_false.mp hmt;by_cases b1:((d+1:Nat):Int)∈aheadOf (f k:Int)
   ·have b2:((d+1:Nat):Int)∉c.2:=fun z=>hx _ z b1;rw[decide_eq_true (hm.mpr (.inl b1)),decide_eq_true b1,decide_eq_false b2];rfl
   ·by_cases b2:((d+1:Nat):Int)∈c.2
    ·rw[decide_eq_true (hm.mpr (.inr b2)),decide_eq_false b1,decide_eq_true b2];rfl
    ·rw[decide_eq_false (fun z=>by rcases hm.mp z with z|z;exact b1 z;exact b2 z),decide_eq_false b1,decide_eq_false b2];rfl
theorem round_walk{C:Combs}(g:GC C)(nd:(C.map (·.1)).Nodup)(ne:∀c∈C,c.1≠A2 ""){f:Nat->Nat}{nm:Nat->Str}{n:Nat}(h1:1<=n)(h0:f 0=0)(hn:f n=0)(hs:∀i,i<n->f i<128/\(nm i,(f (i+1):Int))∈stp C (f i)):
  Walk (fun k d=>decide ((d:Int)∈aheadOf (f (k%n):Int))) (fun k t=>decide ((t:Int)∈tkOf C (nm (k%n)))):=by
 refine path_walk g nd ne (f:=fun k=>f (k%n)) (nm:=fun k=>nm (k%n)) (by rw[Nat.zero_mod];exact h0) fun i=>?_;have hlt:=Ij i (show 0<n by omega);obtain⟨a,b⟩:=hs (i%n) hlt;refine⟨a,?_⟩;have e:f ((i+1)%n)=f (i%n+1):=by
  by_cases z:i%n+1=n
  ·have:(i+1)%n=0:=by
    have:=Is i n;exact Nat.mod_eq_zero_of_dvd ⟨i / n+1,by rw[Mz];omega⟩
   rw[this,z,h0,hn]
  ·have:(i+1)%n=i%n+1:=by
    rw[<-Kn];exact Es (by omega)
   rw[this]
 show(nm (i%n),((f ((i+1)%n):Nat):Int))∈_;rw[e];exact b
theorem rch_none{C:Combs}(g:GC C){k:Nat}(h:rowN C k=[]){n:Nat}(hn:k<=n){t:Nat}:¬rch C 0 n t:=fun z=>by
 obtain⟨d,rfl⟩:=Eb hn;obtain⟨u,h1,_⟩:=zcM z;have:=(zb8 g).mpr h1;rw[h] at this
 cases this
theorem fil_rows{C:Combs}(g:GC C){n:Nat}(h1:1<=n)(h:Fil C n)(k:Nat):rowN C k≠[]:=fun z=>
 rch_none g z (Nat.le_mul_of_pos_right k h1) (zhm h k)
theorem strip_line{C:Combs}{m st n:Nat}(h1:nxtRow C (rowAt C m)=rowAt C m)(h2:tr (rowAt C m) 0=true)(h3:st<n)(h4:n<=128)(h5:wk C (rowAt C m) 0 n=wk C (rowAt C m) 0 st)(h6:((A4 n).map (wk C (rowAt C m) 0)).Nodup):
  LineD C (n-st) (fun k=>wk C (rowAt C m) 0 (st+k)) (fun k=>wn C (rowAt C m) 0 (st+k)):=
 ⟨m,0,st,n,h1,by decide,h2,fun j hj=>by omega,h3,h4,h5,h6,rfl,rfl,rfl⟩
theorem laid_from(nm:Nat->Str){st n:Nat}(h:st<=n):(laid nm n).filter (fun j=>decide (st<=j))=(laid (fun k=>nm (st+k)) (n-st)).map fun k=>st+k:=by
 unfold laid;obtain⟨d,rfl⟩:=Eb h;have e1:((A4 st).filter fun j=>decide (nm j≠A2 "")).filter (fun j=>decide (st<=j))=[]:=Ev.mpr fun j hj z=>by
  have:=Ay.mp (Aq.mp hj).1;have:=of_decide_eq_true z;omega
 have e2:∀l:List Nat,((l.map fun k=>st+k).filter fun j=>decide (st<=j))=l.map fun k=>st+k:=fun l=>Bs.mpr fun j hj=>by
  obtain⟨k,_,rfl⟩:=Aa.mp hj;exact decide_eq_true (by omega)
 rw[Cz,Fp,C0,C0,e1,Gh,Dx,e2];rfl
theorem count_shift{sp st:Nat}(h1:1<=sp){L:List Nat}(hL:∀x∈L,x<sp){r:Nat}(hr:r<sp):(L.map fun x=>(x+st)%sp).count r=L.count ((r+(sp-st%sp))%sp):=by
 have hlt:=Ij st (show 0<sp by omega);have key:∀x,x<sp->((x+st)%sp=r↔x=(r+(sp-st%sp))%sp):=by
  intro x hx;have e1:(x+st)%sp=(x+st%sp)%sp:=by rw[Nat.add_mod,Nat.mod_eq_of_lt hx]
  rw[e1];generalize st%sp=s at hlt;have a:(x+s)%sp=if x+s<sp then x+s else x+s-sp:=by
   split
   ·exact Es ‹_›
   ·rw[Nk (by omega),Es (by omega)]
  have b:(r+(sp-s))%sp=if r+(sp-s)<sp then r+(sp-s) else r+(sp-s)-sp:=by
   split
   ·exact Es ‹_›
   ·rw[Nk (by omega)];by_cases z:r+(sp-s)-sp<sp
    ·exact Es z
    ·omega
  rw[a,b]
  split<;>split<;>omega
 induction L with
 |nil=>rfl
 |cons x L ih=>
  have ih:=ih fun y hy=>hL y (Ab _ hy);have hx:=key x (hL x Aj);rw[An,Gi,Gi,ih];by_cases z:(x+st)%sp=r
  ·rw[if_pos (by simpa using z),if_pos (by simpa using hx.mp z)]
  ·rw[if_neg (by simpa using z),if_neg (by simpa using fun w=>z (hx.mpr w))]
theorem flatMap_map_out{l:List Nat}{f g:Nat->List Nat}{h:Nat->Nat}(e:∀x∈l,f x=(g x).map h):l.flatMap f=(l.flatMap g).map h:=by
 induction l with
 |nil=>rfl
 |cons a l ih=>rw[Fs,Fs,B1,e a Aj,ih fun x hx=>e x (Ab _ hx)]
theorem over_from{ks:Combs}(g:GC ks)(nd:(ks.map (·.1)).Nodup)(ne:∀c∈ks,c.1≠A2 ""){sp st:Nat}{f:Nat->Nat}{nm:Nat->Str}(h:LineD ks sp f fun k=>nm (st+k)){r:Nat}(hr:r<sp):
  (((laid nm (st+sp)).filter fun j=>decide (st<=j)).flatMap (remOf ks nm sp)).count r=1:=by
 have h1:=h.span.1;rw[laid_from nm (Nat.le_add_right st sp),Cz,List.flatMap_map];have e:∀j∈laid (fun k=>nm (st+k)) sp,remOf ks nm sp (st+j)=(remOf ks (fun k=>nm (st+k)) sp j).map fun x=>(x+st)%sp:=fun j _=>by
  rw[zc1 g,zc1 g,As];refine Be fun t _=>?_;show(st+j+t)%sp=((j+t)%sp+st)%sp;rw[Kn];congr 1;omega
 rw[flatMap_map_out e,count_shift h1 _ hr]
 ·exact over_one g nd ne h (Ij _ (by omega))
 ·intro x hx;obtain⟨j,_,hj⟩:=Ed.mp hx;rw[zc1 g] at hj;obtain⟨t,_,rfl⟩:=Aa.mp hj;exact Ij _ (by omega)
theorem pl_congr{H:Hp}{nm nm':Nat->Str}{L:List Nat}:∀{ws:List V},(∀j∈L,nm j=nm' j)->PL H ws nm L->PL H ws nm' L:=fun{ws}e r=>by
 unfold PL at r⊢
 induction r with
 |nil=>exact .nil
 |cons h _ ih=>
  obtain⟨q,e1,e2⟩:=h;exact .cons ⟨q,e1,by rw[<-e _ Aj];exact e2⟩ (ih fun j hj=>e j (Ab _ hj))
theorem lays_congr{H:Hp}{nm nm':Nat->Str}{n:Nat}{ws:List V}(e:∀j,j<n->nm j=nm' j)(r:LaysR H ws nm n):LaysR H ws nm' n:=by
 have el:laid nm n=laid nm' n:=Ea fun j hj=>by rw[e j (Ay.mp hj)]
 refine PL.lays.mp ?_;rw[<-el];exact pl_congr (fun j hj=>e j (Ay.mp (Aq.mp hj).1)) (PL.lays.mpr r)
theorem zhJ{H:Hp}{ws:List V}{nm:Nat->Str}{L:List Nat}(r:PL H ws nm L):∀{l:List Nat},(∀j∈l,j<ws.length)->PL H (l.map fun j=>ws.getD j .non) nm (l.map fun j=>L.getD j 0)
 |[],_=>.nil
 |j::l,h=>by
  have hj:=h j Aj;have hl:=Bw r;obtain⟨y,ey,qa,rfl,e3⟩:=Bv.at r (A5 (show j<L.length by omega));refine .cons ⟨qa,?_,?_⟩ (zhJ r fun i hi=>h i (Ab _ hi))
  ·show ws.getD j .non=_;rw[A8,ey];rfl
  ·show H qa=some (HO.tup [V.int ((L.getD j 0:Nat):Int),V.str (nm (L.getD j 0))]);rw[A8,A5 (show j<L.length by omega)];exact e3
theorem pl_filter{H:Hp}{ws:List V}{nm:Nat->Str}{L:List Nat}(r:PL H ws nm L)(p:Nat->Bool):PL H (((A4 ws.length).filter fun j=>p (L.getD j 0)).map fun j=>ws.getD j .non) nm (L.filter p):=by
 have eT:((A4 ws.length).filter fun j=>p (L.getD j 0)).map (fun j=>L.getD j 0)=L.filter p:=by
  have:=zc4 L p 0;rwa[show L.length=ws.length from Bw r] at this
 rw[<-eT];exact zhJ r fun j hj=>Ay.mp (Aq.mp hj).1
theorem per_min{F:Nat->Bool}{i m:Nat}(him:i<m)(per:∀k,i<=k->F (k+(m-i))=F k)(n:Nat){y e:Int}(hy:y=(i:Int)+((n:Int)-(i:Int))%((m:Int)-(i:Int)))(he:e=if y<(n:Int) then y else(n:Int)):0<=e/\e.toNat<m/\F e.toNat=F n:=by
 have hp:(0:Int)<(m:Int)-(i:Int):=by omega
 have y0:=Fj ((n:Int)-(i:Int)) (show(m:Int)-(i:Int)≠0 by omega);have y1:=Ey ((n:Int)-(i:Int)) hp;by_cases hn:n<i
 ·have:¬y<(n:Int):=by omega
  rw[he,if_neg this];exact⟨by omega,by omega,by rw[Cj]⟩
 ·obtain⟨d,rfl⟩:=Eb (Kb hn);obtain⟨p,rfl⟩:=Eb (Ex him);have e1:((i+d:Nat):Int)-(i:Int)=(d:Nat):=by omega
  have e2:((i+p:Nat):Int)-(i:Int)=(p:Nat):=by omega
  rw[e1,e2,<-O4] at hy;have hd:=Nat.mod_le d p;have hl:=Ij d (show 0<p by omega);have ee:e=((i+d%p:Nat):Int):=by
   rw[he]
   split<;>omega
  rw[ee,Cj];refine⟨by omega,by omega,?_⟩;have pm:∀j,F (i+d%p+j*p)=F (i+d%p):=by
   intro j
   induction j with
   |zero=>rw[P5,Gv]
   |succ j ih=>
    have:=per (i+d%p+j*p) (by omega);rw[Cz] at this;rw[Iu,<-Du,this,ih]
  have:=pm (d / p);rw[<-this];congr 1;have:=Is d p;rw[Mb (d / p) p];omega
end L2
set_option maxHeartbeats 4000000
namespace L2
open PySem PySem.Spec PyProof.Rows PySem.W
open AutoSeq1 (wpAny_loadPart')
open MeetsSeq MeetsSeq2 MeetsSeq3
end L2
set_option maxHeartbeats 4000000
namespace L2
open PySem PySem.Spec PyProof.Rows PySem.W
open AutoSeq1 (wpAny_loadPart')
open MeetsSeq MeetsSeq2 MeetsSeq3
section
variable{prog:Aw}{w:Bq}{A:Bi}{E:A1->A6->Prop}{s:A6}
end
section
variable{X:Cx}
end
end L2
namespace L2
open PySem PySem.Spec PyProof.Rows
end L2
set_option maxHeartbeats 4000000
namespace K35
open PySem L2 PyProof.Rows
noncomputable def top(i:Nat):Cf:=PySem.Challenge.pw_combstrip_k35_whole_fewer_ends.main.body.getD i (.Pass ⟨0,0,0,0⟩)
noncomputable abbrev s__wall:Cf:=top 0
noncomputable abbrev s_shape_steps:Cf:=top 20
noncomputable abbrev s_teeth_worth:Cf:=top 21
noncomputable abbrev s_step_table:Cf:=top 22
noncomputable abbrev s_shapes_behind:Cf:=top 23
noncomputable abbrev s_rows_going_on:Cf:=top 25
noncomputable abbrev s_narrow_row:Cf:=top 26
noncomputable abbrev s_leads_on:Cf:=top 27
noncomputable abbrev s_walk_round:Cf:=top 28
noncomputable abbrev s_first_lasting_step:Cf:=top 29
noncomputable abbrev s_fill_line:Cf:=top 31
noncomputable abbrev s_filled_line:Cf:=top 32
noncomputable abbrev s_places_from:Cf:=top 33
noncomputable abbrev s_is_name:Cf:=top 35
noncomputable abbrev s_is_small_letter:Cf:=top 36
noncomputable abbrev s_are_teeth:Cf:=top 37
noncomputable abbrev s_Book___init__:Cf:=inClass (top 39) 0
noncomputable abbrev s_Book_put:Cf:=inClass (top 39) 1
noncomputable abbrev s_Book_drop:Cf:=inClass (top 39) 2
noncomputable abbrev s_Book_add_tooth:Cf:=inClass (top 39) 3
noncomputable abbrev s_Book_take_off:Cf:=inClass (top 39) 4
noncomputable abbrev s_Book_undo:Cf:=inClass (top 39) 5
noncomputable abbrev s_Book_deeds:Cf:=inClass (top 39) 6
noncomputable abbrev s_Book_names:Cf:=inClass (top 39) 7
noncomputable abbrev s_Book_teeth:Cf:=inClass (top 39) 8
noncomputable abbrev s_Book_check_comb:Cf:=inClass (top 39) 9
noncomputable abbrev s_Book_set_comb:Cf:=inClass (top 39) 10
noncomputable abbrev s_Book_do_deed:Cf:=inClass (top 39) 11
noncomputable abbrev s_first_filling:Cf:=top 41
noncomputable abbrev s_check_length:Cf:=top 42
noncomputable abbrev s_ways_to_close:Cf:=top 43
noncomputable abbrev s_ways_from:Cf:=top 44
noncomputable abbrev s_ways_behind:Cf:=top 45
noncomputable abbrev s_lay_first:Cf:=top 46
noncomputable abbrev s_first_open_step:Cf:=top 47
noncomputable abbrev s_fill_strip:Cf:=top 49
noncomputable abbrev s_filled_strip:Cf:=top 50
noncomputable abbrev s_rows_to_the_end:Cf:=top 51
noncomputable abbrev s_at:Cf:=top 53
noncomputable abbrev s_mixed:Cf:=top 54
noncomputable abbrev s_word:Cf:=top 55
noncomputable abbrev s_spare:Cf:=top 56
noncomputable abbrev s_menu:Cf:=top 57
noncomputable abbrev s_combs:Cf:=top 58
noncomputable abbrev s_book:Cf:=top 59
noncomputable abbrev s_turned:Cf:=top 60
noncomputable abbrev s_after:Cf:=top 61
noncomputable abbrev s_goes:Cf:=top 62
noncomputable abbrev s_graph:Cf:=top 63
noncomputable abbrev s_home:Cf:=top 64
noncomputable abbrev s_fits:Cf:=top 65
noncomputable abbrev s_unrolled:Cf:=top 66
noncomputable abbrev s_teeth:Cf:=top 67
noncomputable abbrev s_coversto:Cf:=top 68
noncomputable abbrev s_whole:Cf:=top 69
noncomputable abbrev s_laying:Cf:=top 70
noncomputable abbrev s_layings:Cf:=top 71
noncomputable abbrev s_stripform:Cf:=top 72
noncomputable abbrev s_lineform:Cf:=top 73
noncomputable abbrev s_lineover:Cf:=top 74
noncomputable abbrev s_ended:Cf:=top 75
noncomputable abbrev s_law:Cf:=top 76
section
variable{P:Aw}{w:Bq}{K:Az}{mg:Str->Option A1}{base:C9}
noncomputable def sp_at(K:Az):Sp:=fun vs H Q _=>∃(a:A7)(ns:List Int)(k:Int),vs=[.ref a,.int k]/\SqL K H a (ns.map V.int)/\0<=k/\Q (.int (ns.getD k.toNat 0)) H
theorem zh4:FnScope ["_law_script","_law_k"] ["_law_script","_law_k"] (defScope s_at):=⟨rfl,rfl,rfl,by decide+kernel,rfl,by decide+kernel,by decide+kernel⟩
theorem ok_at(D:DefAt K mg "_law_at" s_at)(T:Bn mg):Callee P w K mg base "_law_at" 1 ["_law_script","_law_k"] (sp_at K):=by
 refine D.callee zh4 (fun _ _ _ _ _ _=>ln2 fun _ _=>rfl) (fun vs H Q E h=>?_) (fun f cdv A outer s H vs Q E hr h=>?_)
 ·obtain⟨a,ns,k,rfl,_⟩:=h;rfl
 ·obtain⟨a,ns,k,rfl,hS,h0,q⟩:=h;have S:=zh4;refine⟨_,zac (zaF (zao zgp (pv 1) (zai zam rfl T.n_len B6 (zaa (pv 0) zae)) (zat _))
   (zaf (zal (zar zaA (pv 0) (pv 1) (fun _ _=>rfl))))
   (zap))
  (zaf (zal (zab))),?_⟩
  refine⟨_,rfl,_,rfl,_,_,rfl,.inl hS,_,_,rfl,rfl,_,rfl,?_⟩;refine ite2 (fun hc=>?_) (fun hc=>?_)
  ·have hc:=of_decide_eq_true hc;rw[A3] at hc;exact⟨_,rfl,_,rfl,_,_,_,_,rfl,rfl,hS,zhX h0 hc,q⟩
  ·have hc:¬k<(ns.length:Int):=fun z=>hc (decide_eq_true (by rw[A3];exact z));rw[getD_big hc] at q;exact q
noncomputable def mixed(c k:Int):Int:=((c+7919*k+1)*48271%2147483647+104729*k+3)*69621%2147483647
noncomputable def sp_mixed:Sp:=fun vs H Q _=>∃(c k:Int),vs=[.int c,.int k]/\Q (.int (mixed c k)) H
theorem zfX:FnScope ["_law_cell","_law_k","_law_once"] ["_law_cell","_law_k"] (defScope s_mixed):=⟨rfl,rfl,rfl,by decide+kernel,rfl,by decide+kernel,by decide+kernel⟩
theorem ok_mixed(D:DefAt K mg "_law_mixed" s_mixed)(T:Bn mg):Callee P w K mg base "_law_mixed" 1 ["_law_cell","_law_k"] sp_mixed:=by
 refine D.callee zfX (fun _ _ _ _ _ _=>ln2 fun _ _=>rfl) (fun vs H Q E h=>?_) (fun f cdv A outer s H vs Q E hr h=>?_)
 ·obtain⟨c,k,rfl,_⟩:=h;rfl
 ·obtain⟨c,k,rfl,q⟩:=h;have S:=zfX;refine⟨_,zac (zan (i:=2) S.nd rfl (Ao rfl) (zax zbA (zax zdJ (zax zbi (zax zbi (pv 0) (zax zdJ (zab) (pv 1))) (zab)) (zab)) (zab)))
  (zaf (zal (zax zbA (zax zdJ (zax zbi (zax zbi (pv 2) (zax zdJ (zab) (pv 1))) (zab)) (zab)) (zab)))),?_⟩
  refine⟨_,rfl,_,rfl,_,_,rfl,rfl,.inl ⟨by decide,by decide⟩,_,_,rfl,rfl,_,_,rfl,rfl,_,_,rfl,rfl,.inr ⟨by decide,by decide⟩,_,_,rfl,rfl,by show(0:Int)<2147483647;decide,?_⟩;exact⟨_,rfl,_,rfl,_,_,rfl,rfl,.inl ⟨by decide,by decide⟩,_,_,rfl,rfl,_,_,rfl,rfl,_,_,rfl,rfl,.inr ⟨by decide,by decide⟩,_,_,rfl,rfl,by show(0:Int)<2147483647;decide,q⟩
noncomputable def sp_whole:Sp:=fun vs H Q _=>∃(i:Int),vs=[.int i]/\Q (.bl true) H
theorem zfU:FnScope ["_law_found"] ["_law_found"] (defScope s_whole):=⟨rfl,rfl,rfl,by decide+kernel,rfl,by decide+kernel,by decide+kernel⟩
theorem ok_whole(D:DefAt K mg "_law_whole" s_whole)(T:Bn mg):Callee P w K mg base "_law_whole" 1 ["_law_found"] sp_whole:=by
 refine D.callee zfU (fun _ _ _ _ _ _=>ln1 fun _=>rfl) (fun vs H Q E h=>?_) (fun f cdv A outer s H vs Q E hr h=>?_)
 ·obtain⟨i,rfl,_⟩:=h;rfl
 ·obtain⟨i,rfl,q⟩:=h;have S:=zfU;refine⟨_,zaf (zal (zdd (zai (zbe "int") rfl T.n_isinstance De (zaa (pv 0) (zaa (zbt (v:=.ty "int") rfl T.n_int boot_int rfl) zae))) (zeh (pe_not (zai (zbe "bool") rfl T.n_isinstance De (zaa (pv 0) (zaa (zbt (v:=.ty "bool") rfl T.n_bool boot_bool rfl) zae))))))),?_⟩;refine⟨_,rfl,_,_,true,rfl,.int i,rfl,_,rfl,?_⟩;refine iteT ?_;exact⟨_,rfl,_,_,false,rfl,.int i,rfl,_,rfl,q⟩
noncomputable def sp_word:Sp:=fun vs H Q _=>∃(c b:Int),vs=[.int c,.int b]/\(b=26\/b=2)/\∀x:Str,isName x=true->Q (.str x) H
theorem zgH:FnScope ["_law_cell","_law_base","_law_word_here","_law_rest","_law_k"] ["_law_cell","_law_base"] (defScope s_word):=⟨rfl,rfl,rfl,by decide+kernel,rfl,by decide+kernel,by decide+kernel⟩
theorem ok_word(D:DefAt K mg "_law_word" s_word)(T:Bn mg):Callee P w K mg base "_law_word" 1 ["_law_cell","_law_base"] sp_word:=by
 refine D.callee zgH (fun _ _ _ _ _ _=>ln2 fun _ _=>rfl) (fun vs H Q E h=>?_) (fun f cdv A outer s H vs Q E hr h=>?_)
 ·obtain⟨c,b,rfl,_⟩:=h;rfl
 ·obtain⟨c,b,rfl,hb,q⟩:=h;have S:=zgH;have b0:0<b:=by omega
  have b1:b<=26:=by omega
  have m0:=Fj c (show(6:Int)≠0 by decide);have m1:=Ey c p6;refine⟨_,zac (zan (i:=2) S.nd rfl (Ao rfl) (zaK))
  (zac (zan (i:=3) S.nd rfl (Ao rfl) (zax zcw (pv 0) (zab)))
  (zac (za0 Bb rfl (zbs rfl T.n_range (zaa (zax zbi (zab) (zax zbA (pv 0) (zab))) zae)) (zak (i:=4) S.nd rfl (Ao rfl))
   (zac (zan (i:=2) S.nd rfl (Ao rfl) (zax op_add_str (pv 2) (zar ix_str (zaK) (zax zbA (pv 3) (pv 1)) (fun _ _=>rfl))))
   (zaf (zan (i:=3) S.nd rfl (Ao rfl) (zax zcw (pv 3) (pv 1))))))
  (zaf (zal (pv 2))))),?_⟩
  refine⟨_,rfl,_,_,rfl,rfl,⟨p6,by decide⟩,?_⟩;refine⟨_,rfl,_,_,rfl,rfl,p6,_,_,rfl,rfl,_,rfl,?_,?_,?_⟩
  ·show-(2 ^ 62)<=1+c%6;omega
  ·show 1+c%6<2 ^ 62;omega
  refine zbE (zaP 0 (1+c%6).toNat) (fun i σ H'=>H'=H/\∃(x:Str)(r:Int)(x4:Option V),σ=[some (.int c),some (.int b),some (.str x),some (.int r),x4]/\x.length=i/\x.cps.toList.all small=true) ⟨rfl,Str.ofString "",_,_,rfl,by decide,by decide⟩ (fun _ _ _ _ _=>trivial) ?_ ?_
  ·rintro i x σ H2 hx⟨rfl,y,r,x4,rfl,hl,ha⟩;obtain⟨hi,rfl⟩:=zbr hx;obtain⟨ch,hch,hs⟩:=abc_at (k:=r%b) (Int.emod_nonneg _ (by omega)) (by have:=Int.emod_lt_of_pos r b0;omega);refine⟨_,rfl,_,rfl,_,rfl,_,_,rfl,rfl,b0,_,_,_,rfl,rfl,?_,hch,_,_,rfl,rfl,?_,?_⟩
   ·show abc.length<=sizeLine;rw[zfF];decide
   ·rw[zeE];exact big (by omega)
   refine⟨_,rfl,_,rfl,_,_,rfl,rfl,⟨b0,by omega⟩,?_⟩;refine⟨rfl,_,_,_,rfl,by rw[len_app,hl,zeE],?_⟩;rw[app_list,List.all_append,ha];show(true&&[ch].all small)=true;simp[hs]
  ·rintro σ H2⟨rfl,y,r,x4,rfl,hl,ha⟩;rw[A3,Am] at hl;exact⟨_,rfl,q y (zg4 (by omega) (by omega) ha)⟩
noncomputable def sp_spare(K:Az):Sp:=fun vs H Q _=>∃(x:Str)(u:A7)(us:List Str),vs=[.str x,.ref u]/\isName x=true/\SqL K H u (us.map V.str)/\us.length<=25/\∀y H',Same H H'->isName y=true->y∉us->Q (.str y) H'
noncomputable def notUsed(us:List Str)(v:V):Bool:=match v with
 | .str y=> !decide (y∈us)
 |_=>false
theorem zfW:FnScope ["_law_word_here","_law_used"] ["_law_word_here","_law_used"] (defScope s_spare):=⟨rfl,rfl,rfl,by decide+kernel,rfl,by decide+kernel,by decide+kernel⟩
theorem ok_spare(D:DefAt K mg "_law_spare" s_spare)(T:Bn mg):Callee P w K mg base "_law_spare" 1 ["_law_word_here","_law_used"] (sp_spare K):=by
 refine D.callee zfW (fun _ _ _ _ _ _=>ln2 fun _ _=>rfl) (fun vs H Q E h=>?_) (fun f cdv A outer s H vs Q E hr h=>?_)
 ·obtain⟨x,u,us,rfl,_⟩:=h;rfl
 ·obtain⟨x,u,us,rfl,hx,hS,hl,q⟩:=h;have S:=zfW;refine⟨_,zac (zaF (zao zce (pv 0) (pv 1) (by with_unfolding_all rfl))
   (zaf (zal (pv 0)))
   (zap))
  (zaf (zal (zar zaA (zaL (own:=["_law_one"]) (caps:=[(1,"_law_used")]) rfl ⟨rfl,rfl,rfl,rfl,⟨⟨rfl,rfl,.inl rfl⟩,trivial⟩⟩ (zhK (zaK)) (fun _ _ _ _ _ _=>zak (i:=0) (zaz (by decide+kernel)) rfl (Ao rfl)) (fun _ _ _ _ _ _=>zby (zao (op_notIn_seq' K rfl) (pv 0) (pv 1) (by with_unfolding_all rfl))) (fun _ _ _ _ _ _=>pv 0)) (zab) (fun _ _=>rfl)))),?_⟩
  refine⟨_,rfl,_,rfl,_,_,rfl,.inl hS,rfl,zfg us,_,rfl,?_⟩;rw[if_pos rfl,zha];refine ite2 (fun hc=>?_) (fun hc=>?_)
  ·have h0:x∉us:=by simpa using hc
   exact⟨_,rfl,q x H (Same.refl H) hx h0⟩
  ·refine⟨_,rfl,fun D hD=>?_⟩;refine zcv (capv:=[some (.ref u)]) (L:=abc.cps.toList.map sgn) (by rfl) (zfd abc) (by rw[A3,zcX,zfF];decide) hD ?_ (notUsed us) (fun v=>v) ?_ ?_ ?_
   ·exact fun _ _=>trivial
   ·intro v hv H' R s' h;obtain⟨c,hc,rfl⟩:=Aa.mp hv;refine⟨_,rfl,_,rfl,_,_,rfl,.inl (s'.seq hS),rfl,zfg us,_,rfl,?_⟩;rw[if_pos rfl];show R (!inV (V.str ⟨#[c]⟩) (us.map V.str)) H';rw[zha];exact h H' (Same.refl _)
   ·intro v hv hp H' R s' h;exact⟨_,rfl,h H' (Same.refl _)⟩
   ·intro H' s' e;obtain⟨c,hc,hn⟩:=spare_some us hl;have hm:sgn c∈((abc.cps.toList.map sgn).filter (notUsed us)).map fun v=>v:=by
     rw[Lv];exact Aq.mpr ⟨Aa.mpr ⟨c,hc,rfl⟩,by show(!decide ((⟨#[c]⟩:Str)∈us))=true;simp[hn]⟩
    have hall:∀v∈((abc.cps.toList.map sgn).filter (notUsed us)).map fun v=>v,∃d,v=sgn d/\small d=true/\(⟨#[d]⟩:Str)∉us:=fun v hv=>by
     rw[Lv] at hv;obtain⟨h1,h2⟩:=Aq.mp hv;obtain⟨d,hd,rfl⟩:=Aa.mp h1;have h2:(!decide ((⟨#[d]⟩:Str)∈us))=true:=h2;exact⟨d,rfl,abc_small hd,by simpa using h2⟩
    generalize (((abc.cps.toList.map sgn).filter (notUsed us)).map fun v=>v)=l at e hm hall
    cases l with
    |nil=>cases hm
    |cons v l=>
     obtain⟨d,rfl,hs,hd⟩:=hall v Aj;exact⟨_,_,_,_,rfl,rfl,SqL.of e,(show atI (sgn d::l) ((0:Nat):Int)=some (sgn d) from zaB rfl),q _ H' s' (name_one hs) hd⟩
noncomputable def Rows(H:Hp):List V->List (List Int)->Prop
 |[],[]=>True
 |v::vs,r::rs=>(∃p,v= .ref p/\H p=some (.tup (r.map V.int)))/\Rows H vs rs
 |_,_=>False
theorem Rows.same{H H':Hp}(s:Same H H'):∀{vs:List V}{rs:List (List Int)},Rows H vs rs->Rows H' vs rs
 |[],[],_=>trivial
 |_::_,_::_,⟨⟨p,e,h⟩,r⟩=>⟨⟨p,e,s _ _ h⟩,Rows.same s r⟩
 |[],_::_,h=>h.elim
 |_::_,[],h=>h.elim
theorem Rows.snoc{H:Hp}{p:A7}{r:List Int}(h:H p=some (.tup (r.map V.int))):∀{vs:List V}{rs:List (List Int)},Rows H vs rs->Rows H (vs++[.ref p]) (rs++[r])
 |[],[],_=>⟨⟨p,rfl,h⟩,trivial⟩
 |_::_,_::_,⟨a,b⟩=>⟨a,Rows.snoc h b⟩
 |[],_::_,x=>x.elim
 |_::_,[],x=>x.elim
theorem Rows.get{H:Hp}:∀{vs:List V}{rs:List (List Int)}{i:Nat}{r:List Int},Rows H vs rs->rs[i]?=some r->∃p,vs[i]?=some (.ref p)/\H p=some (.tup (r.map V.int))
 |[],[],_,_,_,e=>by simp at e
 |_::_,_::_,0,_,⟨⟨p,e,h⟩,_⟩,z=>by
  simp at z;subst z;exact⟨p,by rw[e];rfl,h⟩
 |_::_,_::_,i+1,_,⟨_,b⟩,z=>Rows.get (i:=i) b (by simpa using z)
 |[],_::_,_,_,x,_=>x.elim
 |_::_,[],_,_,x,_=>x.elim
structure Mr(H0 H:Hp)(vs:List V)(rs:List (List Int)):Prop where
 same:Same H0 H
 rows:Rows H vs rs
theorem Mr.add{H0 H:Hp}{vs:List V}{rs:List (List Int)}(m:Mr H0 H vs rs)(r:List Int){p:A7}(n:H p=none):Mr H0 (upd H p (.tup (r.map V.int))) (vs++[.ref p]) (rs++[r]):=
 ⟨m.same.put (m.same.free n),Rows.snoc zad (m.rows.same (Same.new n))⟩
theorem Mr.lstE{H0 H:Hp}{vs:List V}{rs:List (List Int)}(m:Mr H0 H vs rs){o:HO}{p:A7}(n:H p=none):Mr H0 (upd H p o) vs rs/\upd H p o p=some o:=⟨⟨m.same.put (m.same.free n),m.rows.same (Same.new n)⟩,zad⟩
theorem Mr.lst{H0 H:Hp}{vs:List V}{rs:List (List Int)}(m:Mr H0 H vs rs){o:HO}{p:A7}(n:H p=none):Mr H0 (upd H p o) vs rs:=⟨m.same.put (m.same.free n),m.rows.same (Same.new n)⟩
noncomputable def menuRows:List (List Int):=[[45],[131,133],[193,65],[71,161,99],[77,131,133],[13,49],[153,111,131],[197,131,173,53],[83,125,137,173,243],[185,193,215,87,243],[5],[175,209,67,129,21,229,49,83],[203,243,129,167,153,223,207,243],[197,147,131],[197,131,177],[31,255],[3,3],[119,225,131,109]]
noncomputable def MenuRow(xs:List Int):Prop:=(1<=xs.length/\xs.length<=8)/\∀x∈xs,x%2=1/\0<=x/\x<256
theorem menu_ok{i:Nat}{r:List Int}(h:menuRows[i]?=some r):MenuRow r:=by
 have all:∀r∈menuRows,(1<=r.length/\r.length<=8)/\∀x∈r,x%2=1/\0<=x/\x<256:=by decide
 exact all r (Bd h)
noncomputable def sp_menu:Sp:=fun vs H Q _=>∃(k:Int),vs=[.int k]/\∀p xs H',Same H H'->H' p=some (.tup (xs.map V.int))->MenuRow xs->Q (.ref p) H'
theorem zgI:FnScope ["_law_k","_law_rows"] ["_law_k"] (defScope s_menu):=⟨rfl,rfl,rfl,by decide+kernel,rfl,by decide+kernel,by decide+kernel⟩
theorem ok_menu(D:DefAt K mg "_law_menu" s_menu)(T:Bn mg):Callee P w K mg base "_law_menu" 1 ["_law_k"] sp_menu:=by
 refine D.calleeQ zgI (fun _ _ _ _ _ _=>ln1 fun _=>rfl) (fun vs H Q E h=>?_) (fun f cdv A outer s H vs Q E hr h=>?_)
 ·obtain⟨k,rfl,_⟩:=h;rfl
 ·obtain⟨k,rfl,q⟩:=h;have S:=zgI;refine⟨_,zbp (zcN (i:=1) S.nd rfl (Ao rfl) (zdF (zah (zbm (zah (qe (zab)) (zaW))) (zah (zbm (zah (qe (zab)) (zah (qe (zab)) (zaW)))) (zah (zbm (zah (qe (zab)) (zah (qe (zab)) (zaW)))) (zah (zbm (zah (qe (zab)) (zah (qe (zab)) (zah (qe (zab)) (zaW))))) (zah (zbm (zah (qe (zab)) (zah (qe (zab)) (zah (qe (zab)) (zaW))))) (zah (zbm (zah (qe (zab)) (zah (qe (zab)) (zaW)))) (zah (zbm (zah (qe (zab)) (zah (qe (zab)) (zah (qe (zab)) (zaW))))) (zaW))))))))))
  (zbp (zcN (i:=1) S.nd rfl (Ao rfl) (zhY zf9 (qe (pv 1)) (zdF (zah (zbm (zah (qe (zab)) (zah (qe (zab)) (zah (qe (zab)) (zah (qe (zab)) (zaW)))))) (zah (zbm (zah (qe (zab)) (zah (qe (zab)) (zah (qe (zab)) (zah (qe (zab)) (zah (qe (zab)) (zaW))))))) (zah (zbm (zah (qe (zab)) (zah (qe (zab)) (zah (qe (zab)) (zah (qe (zab)) (zah (qe (zab)) (zaW))))))) (zah (zbm (zah (qe (zab)) (zaW))) (zaW))))))))
  (zbp (zcN (i:=1) S.nd rfl (Ao rfl) (zhY zf9 (qe (pv 1)) (zdF (zah (zbm (zah (qe (zab)) (zah (qe (zab)) (zah (qe (zab)) (zah (qe (zab)) (zah (qe (zab)) (zah (qe (zab)) (zah (qe (zab)) (zah (qe (zab)) (zaW)))))))))) (zah (zbm (zah (qe (zab)) (zah (qe (zab)) (zah (qe (zab)) (zah (qe (zab)) (zah (qe (zab)) (zah (qe (zab)) (zah (qe (zab)) (zah (qe (zab)) (zaW)))))))))) (zaW))))))
  (zbp (zcN (i:=1) S.nd rfl (Ao rfl) (zhY zf9 (qe (pv 1)) (zdF (zah (zbm (zah (qe (zab)) (zah (qe (zab)) (zah (qe (zab)) (zaW))))) (zah (zbm (zah (qe (zab)) (zah (qe (zab)) (zah (qe (zab)) (zaW))))) (zah (zbm (zah (qe (zab)) (zah (qe (zab)) (zaW)))) (zah (zbm (zah (qe (zab)) (zah (qe (zab)) (zaW)))) (zah (zbm (zah (qe (zab)) (zah (qe (zab)) (zah (qe (zab)) (zah (qe (zab)) (zaW)))))) (zaW)))))))))
  (zgP (zhI (qe (zar zaA (pv 1) (zax zbA (pv 0) (zai zam rfl T.n_len B6 (zaa (pv 1) zae))) (fun _ _=>rfl)))))))),?_⟩
  have M:Mr H H [] []:=⟨Same.refl H,trivial⟩;refine⟨bigr rfl,fun a1 na=>?_⟩
  replace M:=M.add [45] na
  clear na;refine⟨bigr rfl,fun a2 na=>?_⟩
  replace M:=M.add [131,133] na
  clear na;refine⟨bigr rfl,fun a3 na=>?_⟩
  replace M:=M.add [193,65] na
  clear na;refine⟨bigr rfl,fun a4 na=>?_⟩
  replace M:=M.add [71,161,99] na
  clear na;refine⟨bigr rfl,fun a5 na=>?_⟩
  replace M:=M.add [77,131,133] na
  clear na;refine⟨bigr rfl,fun a6 na=>?_⟩
  replace M:=M.add [13,49] na
  clear na;refine⟨bigr rfl,fun a7 na=>?_⟩
  replace M:=M.add [153,111,131] na
  clear na;refine⟨bigr rfl,fun b0 nb=>?_⟩;obtain⟨M,e⟩:=M.lstE (o:=.lst [V.ref a1,V.ref a2,V.ref a3,V.ref a4,V.ref a5,V.ref a6,V.ref a7]) nb;clear nb;refine⟨_,rfl,?_⟩;refine⟨bigr rfl,fun a8 na=>?_⟩
  replace M:=M.add [197,131,173,53] na
  replace e:=zcR (o:=.tup (([197,131,173,53]:List Int).map V.int)) e na
  clear na;refine⟨bigr rfl,fun a9 na=>?_⟩
  replace M:=M.add [83,125,137,173,243] na
  replace e:=zcR (o:=.tup (([83,125,137,173,243]:List Int).map V.int)) e na
  clear na;refine⟨bigr rfl,fun a10 na=>?_⟩
  replace M:=M.add [185,193,215,87,243] na
  replace e:=zcR (o:=.tup (([185,193,215,87,243]:List Int).map V.int)) e na
  clear na;refine⟨bigr rfl,fun a11 na=>?_⟩
  replace M:=M.add [5] na
  replace e:=zcR (o:=.tup (([5]:List Int).map V.int)) e na
  clear na;refine⟨bigr rfl,fun b1 nb=>?_⟩;obtain⟨M,e2⟩:=M.lstE (o:=.lst [V.ref a8,V.ref a9,V.ref a10,V.ref a11]) nb
  replace e:=zcR (o:=.lst [V.ref a8,V.ref a9,V.ref a10,V.ref a11]) e nb
  clear nb;refine⟨_,_,_,_,rfl,rfl,e,e2,bigr rfl,fun c1 nc=>?_⟩;obtain⟨M,e⟩:=M.lstE (o:=.lst [V.ref a1,V.ref a2,V.ref a3,V.ref a4,V.ref a5,V.ref a6,V.ref a7,V.ref a8,V.ref a9,V.ref a10,V.ref a11]) nc;clear nc e2;refine⟨_,rfl,?_⟩;refine⟨bigr rfl,fun a12 na=>?_⟩
  replace M:=M.add [175,209,67,129,21,229,49,83] na
  replace e:=zcR (o:=.tup (([175,209,67,129,21,229,49,83]:List Int).map V.int)) e na
  clear na;refine⟨bigr rfl,fun a13 na=>?_⟩
  replace M:=M.add [203,243,129,167,153,223,207,243] na
  replace e:=zcR (o:=.tup (([203,243,129,167,153,223,207,243]:List Int).map V.int)) e na
  clear na;refine⟨bigr rfl,fun b2 nb=>?_⟩;obtain⟨M,e2⟩:=M.lstE (o:=.lst [V.ref a12,V.ref a13]) nb
  replace e:=zcR (o:=.lst [V.ref a12,V.ref a13]) e nb
  clear nb;refine⟨_,_,_,_,rfl,rfl,e,e2,bigr rfl,fun c2 nc=>?_⟩;obtain⟨M,e⟩:=M.lstE (o:=.lst [V.ref a1,V.ref a2,V.ref a3,V.ref a4,V.ref a5,V.ref a6,V.ref a7,V.ref a8,V.ref a9,V.ref a10,V.ref a11,V.ref a12,V.ref a13]) nc;clear nc e2;refine⟨_,rfl,?_⟩;refine⟨bigr rfl,fun a14 na=>?_⟩
  replace M:=M.add [197,147,131] na
  replace e:=zcR (o:=.tup (([197,147,131]:List Int).map V.int)) e na
  clear na;refine⟨bigr rfl,fun a15 na=>?_⟩
  replace M:=M.add [197,131,177] na
  replace e:=zcR (o:=.tup (([197,131,177]:List Int).map V.int)) e na
  clear na;refine⟨bigr rfl,fun a16 na=>?_⟩
  replace M:=M.add [31,255] na
  replace e:=zcR (o:=.tup (([31,255]:List Int).map V.int)) e na
  clear na;refine⟨bigr rfl,fun a17 na=>?_⟩
  replace M:=M.add [3,3] na
  replace e:=zcR (o:=.tup (([3,3]:List Int).map V.int)) e na
  clear na;refine⟨bigr rfl,fun a18 na=>?_⟩
  replace M:=M.add [119,225,131,109] na
  replace e:=zcR (o:=.tup (([119,225,131,109]:List Int).map V.int)) e na
  clear na;refine⟨bigr rfl,fun b3 nb=>?_⟩;obtain⟨M,e2⟩:=M.lstE (o:=.lst [V.ref a14,V.ref a15,V.ref a16,V.ref a17,V.ref a18]) nb
  replace e:=zcR (o:=.lst [V.ref a14,V.ref a15,V.ref a16,V.ref a17,V.ref a18]) e nb
  clear nb;refine⟨_,_,_,_,rfl,rfl,e,e2,bigr rfl,fun c3 nc=>?_⟩;obtain⟨M,e⟩:=M.lstE (o:=.lst [V.ref a1,V.ref a2,V.ref a3,V.ref a4,V.ref a5,V.ref a6,V.ref a7,V.ref a8,V.ref a9,V.ref a10,V.ref a11,V.ref a12,V.ref a13,V.ref a14,V.ref a15,V.ref a16,V.ref a17,V.ref a18]) nc;clear nc e2;have p18:(0:Int)<18:=by decide
  have k0:=Fj k (show(18:Int)≠0 by decide);have k1:=Ey k p18;have hi:(k%18).toNat<menuRows.length:=by
   show(k%18).toNat<18;omega
  obtain⟨p,hp,ht⟩:=Rows.get (rs:=menuRows) M.rows (A5 hi);have ek:(((k%18).toNat:Nat):Int)=k%18:=by omega
  refine⟨_,rfl,_,rfl,_,rfl,_,_,rfl,.inl (SqL.of e),_,_,rfl,rfl,p18,_,_,_,_,rfl,rfl,SqL.of e,?_,q p _ _ M.same ht (menu_ok (A5 hi))⟩;show atI _ (k%18)=_;rw[<-ek];exact zaB hp
theorem p3:(0:Int)<3:=by decide
theorem p14:(0:Int)<14:=by decide
theorem p42:(0:Int)<42:=by decide
theorem zhZ:(0:Int)<128:=by decide
noncomputable def manyL:List Int:=[2,3,1,2,4,3,1,5,2,0,8,7,6,1]
theorem manyL_at{k:Int}(h0:0<=k)(h1:k<14):∃m:Int,atI (manyL.map V.int) k=some (V.int m)/\0<=m/\m<=8:=by
 refine⟨_,zhX h0 (by show k<14;exact h1),?_⟩;have all:∀x∈manyL,0<=x/\x<=8:=by decide
 refine all _ ?_;have hk:k.toNat<manyL.length:=by show k.toNat<14;omega
 rw[A8,A5 hk];exact C8 hk
theorem base_at{k:Int}(h0:0<=k)(h1:k<2):∃b:Int,atI [V.int 26,V.int 2] k=some (V.int b)/\(b=26\/b=2):=by
 rcases(by omega:k=0\/k=1) with h|h<;>subst h
 ·exact⟨26,rfl,.inl rfl⟩
 ·exact⟨2,rfl,.inr rfl⟩
noncomputable def bitOf(b:Int)(v:V):Bool:=match v with
 | .int t=>decide (E3 (b / 2 ^ t.toNat) 1=1)
 |_=>false
noncomputable def sp_combs(K:Az):Sp:=fun vs H Q _=>∃(a:A7)(ns:List Int),vs=[.ref a]/\SqL K H a (ns.map V.int)/\∀p ks vs H',Same H H'->H p=none->H' p=some (.lst vs)->Drawn (fun _=>True) H' vs ks->ks.length<=8->Q (.ref p) H'
theorem zf0:FnScope ["_law_script","_law_head","_law_menu_here","_law_many","_law_found","_law_used","_law_k","_law_cell","_law_bits","_law_word_here"] ["_law_script"] (defScope s_combs):=⟨rfl,rfl,rfl,by decide+kernel,rfl,by decide+kernel,by decide+kernel⟩
theorem ok_combs(D:DefAt K mg "_law_combs" s_combs)(T:Bn mg)(C_at:Callee P w K mg base "_law_at" 1 ["_law_script","_law_k"] (sp_at K))(C_mixed:Callee P w K mg base "_law_mixed" 1 ["_law_cell","_law_k"] sp_mixed)(C_word:Callee P w K mg base "_law_word" 1 ["_law_cell","_law_base"] sp_word)
  (C_spare:Callee P w K mg base "_law_spare" 1 ["_law_word_here","_law_used"] (sp_spare K)) (C_menu:Callee P w K mg base "_law_menu" 1 ["_law_k"] sp_menu):Callee P w K mg base "_law_combs" 2 ["_law_script"] (sp_combs K):=by
 refine D.calleeQ zf0 (fun _ _ _ _ _ _=>ln1 fun _=>rfl) (fun vs H Q E h=>?_) (fun f cdv A outer s H vs Q E hr h=>?_)
 ·obtain⟨a,ns,rfl,_⟩:=h;rfl
 ·obtain⟨a,ns,rfl,hS,q⟩:=h;have S:=zf0;refine⟨_,zbp (zcN (i:=1) S.nd rfl (Ao rfl) (qe (zay C_at (hr.mono (by decide)) rfl (zaa (pv 0) (zaa (zab) zae)))))
  (zbp (zcN (i:=2) S.nd rfl (Ao rfl) (qe (zay C_menu (hr.mono (by decide)) rfl (zaa (zay C_at (hr.mono (by decide)) rfl (zaa (pv 0) (zaa (zab) zae))) zae))))
  (zbp (zcN (i:=3) S.nd rfl (Ao rfl) (qe_ix zaA (zdF (zah (qe (zab)) (zah (qe (zab)) (zah (qe (zab)) (zah (qe (zab)) (zah (qe (zab)) (zah (qe (zab)) (zah (qe (zab)) (zah (qe (zab)) (zah (qe (zab)) (zah (qe (zab)) (zah (qe (zab)) (zah (qe (zab)) (zah (qe (zab)) (zah (qe (zab)) (zaW)))))))))))))))) (qe (zax zbA (zax zcw (pv 1) (zab)) (zab))) (fun _ _=>rfl)))
  (qss_cut (qs (zaF (zao zcn (zax zbA (pv 1) (zab)) (zab) (zat _))
   (zaf (zan (i:=3) S.nd rfl (Ao rfl) (zai zam rfl T.n_len B6 (zaa (pv 2) zae))))
   (zap)))
  (zbp (zcN (i:=4) S.nd rfl (Ao rfl) (zdF (zaW)))
  (zbp (zcN (i:=5) S.nd rfl (Ao rfl) (zdF (zaW)))
  (zbp (qs (za0 Bb rfl (zbs rfl T.n_range (zaa (pv 3) zae)) (zak (i:=6) S.nd rfl (Ao rfl))
   (zac (zan (i:=7) S.nd rfl (Ao rfl) (zay C_at (hr.mono (by decide)) rfl (zaa (pv 0) (zaa (zax zbi (zab) (pv 6)) zae))))
   (zca (zaF (zao zgq (zax zbA (pv 1) (zab)) (zab) (zat _))
    (zaf (zan (i:=7) S.nd rfl (Ao rfl) (zay C_mixed (hr.mono (by decide)) rfl (zaa (pv 7) (zaa (pv 6) zae)))))
    (zap))
   (zac (zan (i:=8) S.nd rfl (G6 rfl) (zax zbi (zax zdJ (zax zbA (pv 7) (zab)) (zab)) (zab)))
   (zca (zaF (zao zcn (zax zbA (pv 1) (zab)) (zab) (zat _))
    (zaf (zan (i:=8) S.nd rfl (G6 rfl) (zar zav (pv 2) (pv 6) (fun _ _=>rfl))))
    (zap))
   (zac (zan (i:=9) S.nd rfl (Ao rfl) (zay C_spare (hr.mono (by decide)) rfl (zaa (zay C_word (hr.mono (by decide)) rfl (zaa (zax zcw (pv 7) (zab)) (zaa (zar zaA (zaQ (zaa (zab) (zaa (zab) zae))) (zax zbA (zax zcw (pv 1) (zab)) (zab)) (fun _ _=>rfl)) zae))) (zaa (pv 5) zae))))
   (zac (zaT (zcd B8 Bh Bg zaE (pv 5) (zaa (pv 9) zae)))
   (zaf (zaT (zcd B8 Bh Bg zaE (pv 4) (zaa (zaQ (zaa (pv 9) (zaa (zaL (own:=["_law_t"]) (caps:=[(8,"_law_bits")]) rfl ⟨rfl,rfl,rfl,rfl,⟨⟨rfl,rfl,.inl rfl⟩,trivial⟩⟩ (zbs rfl T.n_range (zaa (zab) zae)) (fun _ _ _ _ _ _=>zak (i:=0) (zaz (by decide+kernel)) rfl (Ao rfl)) (fun _ _ _ _ _ _=>zby (zao zcn (zax zhN (zax op_shr (pv 1) (pv 0)) (zab)) (zab) (zat _))) (fun _ _ _ _ _ _=>pv 0)) zae))) zae))))))))))))
  (zgP (zhI (qe (pv 4)))))))))),?_⟩
  refine⟨_,rfl,a,ns,0,rfl,hS,by decide,?_⟩;generalize ns.getD (Int.toNat 0) 0=head;refine⟨_,rfl,a,ns,1,rfl,hS,by decide,_,rfl,fun pm xs H1 s1 em hm=>?_⟩;obtain⟨m,hma,hm0,hm8⟩:=manyL_at (k:=head / 3%14) (Int.emod_nonneg _ (by decide)) (Int.emod_lt_of_pos _ p14);refine⟨bigr rfl,fun b nb=>⟨_,rfl,_,_,rfl,rfl,⟨p3,by decide⟩,_,_,rfl,rfl,p14,_,_,_,_,rfl,rfl,SqL.of zad,hma,?_⟩⟩;have s2:Same H (upd H1 b (.lst (manyL.map V.int))):=s1.put (s1.free nb);have em2:upd H1 b (.lst (manyL.map V.int)) pm=some (.tup (xs.map V.int)):=by rw[zag (zas em nb)];exact em
  refine⟨fun σ H'=>Same H H'/\H' pm=some (.tup (xs.map V.int))/\∃m:Int,σ=[some (.ref a),some (.int head),some (.ref pm),some (.int m),none,none,none,none,none,none]/\0<=m/\m<=8/\(head%3=2->m=xs.length),?_,?_⟩
  ·refine⟨_,rfl,_,_,rfl,rfl,p3,rfl,_,rfl,?_⟩;refine ite2 (fun hc=>?_) (fun hc=>?_)
   ·refine⟨_,rfl,_,_,rfl,.inr (SqT.of em2),?_⟩;rw[A3];exact⟨s2,em2,_,rfl,by omega,by have:=hm.1.2;omega,fun _=>rfl⟩
   ·have hc:¬head%3=2:=by simpa using hc
    exact⟨s2,em2,_,rfl,hm0,hm8,fun z=>absurd z hc⟩
  clear s2 em2 hma hm0 hm8 nb b m s1 em H1;rintro σ H1⟨s1,em,m,rfl,hm0,hm8,hm2⟩;refine⟨bigr rfl,fun pf nf=>?_⟩;refine⟨bigr rfl,fun pu nu=>?_⟩;have nfu:pf≠pu:=fun z=>by rw[<-z,zad] at nu;cases nu
  have fH:H pf=none:=s1.free nf;have s2:=(s1.put (o:=.lst []) fH);have uH:H pu=none:=s2.free nu;have s3:=s2.put (o:=.lst []) uH;have em3:upd (upd H1 pf (.lst [])) pu (.lst []) pm=some (.tup (xs.map V.int)):=by
   rw[zag (zas (by rw[zag (zas em nf)];exact em) nu),zag (zas em nf)];exact em
  refine⟨_,rfl,_,rfl,by omega,by omega,?_⟩;refine zbE (zaP 0 m.toNat) (fun i σ H'=>Same H H'/\H' pm=some (.tup (xs.map V.int))/\∃(vs:List V)(ks:List (Str×List Int))(x6 x7 x8 x9:Option V),σ=[some (.ref a),some (.int head),some (.ref pm),some (.int m),some (.ref pf),some (.ref pu),x6,x7,x8,x9]/\
   H' pf=some (.lst vs)/\H' pu=some (.lst ((ks.map (·.1)).map V.str))/\Drawn (fun x=>x≠pf/\x≠pu) H' vs ks/\ks.length=i) ⟨s3,em3,[],[],_,_,_,_,rfl,by rw[zag nfu,zad],by rw[zad];rfl,⟨trivial,Dm,by simp⟩,rfl⟩ (fun _ _ _ _ _=>trivial) ?_ ?_
  ·rintro i x σ H2 hx⟨s2,em2,vs,ks,x6,x7,x8,x9,rfl,ef,eu,dr,hl⟩;obtain⟨hi,rfl⟩:=zbr hx;have hi8:i<8:=by omega
   have hS2:=s2.seq hS;refine⟨_,rfl,_,rfl,_,_,rfl,rfl,a,ns,_,rfl,hS2,?_,?_⟩
   ·show(0:Int)<=1+(0+((i:Nat):Int));omega
   generalize ns.getD (1+(0+((i:Nat):Int))).toNat 0=cell0;refine⟨fun σ H'=>H'=H2/\∃(c:Int),σ=[some (.ref a),some (.int head),some (.ref pm),some (.int m),some (.ref pf),some (.ref pu),some (.int (0+((i:Nat):Int))),some (.int c),x8,x9],?_,?_⟩
   ·refine⟨_,rfl,_,_,rfl,rfl,p3,_,_,rfl,rfl,_,rfl,?_⟩;refine ite2 (fun _=>?_) (fun _=>?_)
    ·exact⟨_,rfl,_,rfl,_,_,rfl,rfl,_,rfl⟩
    ·exact⟨rfl,_,rfl⟩
   rintro σ H3⟨rfl,c,rfl⟩;have c0:=Fj c (show(128:Int)≠0 by decide);have c1:=Ey c zhZ;refine⟨_,rfl,_,_,rfl,rfl,zhZ,_,_,rfl,rfl,.inr ⟨by decide,by decide⟩,_,_,rfl,rfl,?_⟩;refine⟨fun σ H'=>H'=H3/\∃(bt:Int),σ=[some (.ref a),some (.int head),some (.ref pm),some (.int m),some (.ref pf),some (.ref pu),some (.int (0+((i:Nat):Int))),some (.int c),some (.int bt),x9]/\bt%2=1/\0<=bt,?_,?_⟩
   ·refine⟨_,rfl,_,_,rfl,rfl,p3,rfl,_,rfl,?_⟩;refine ite2 (fun hc=>?_) (fun hc=>?_)
    ·have hc:head%3=2:=by simpa using hc
     have hix:i<xs.length:=by have:=hm2 hc;omega
     have hat:atI (xs.map V.int) (0+((i:Nat):Int))=some (V.int xs[i]):=by
      rw[Iq];refine zaB ?_;rw[Ad,A5 hix];rfl
     have:=hm.2 xs[i] (C8 hix);exact⟨_,rfl,_,rfl,_,_,_,_,rfl,rfl,SqT.of em2,hat,rfl,_,rfl,this.1,this.2.1⟩
    ·exact⟨rfl,_,rfl,by omega,by omega⟩
   rintro σ H4⟨rfl,bt,rfl,hb1,hb0⟩;obtain⟨bs,hbs,hb2⟩:=base_at (k:=head / 42%2) (Int.emod_nonneg _ (by decide)) (Int.emod_lt_of_pos _ p2);refine⟨_,rfl,_,_,rfl,rfl,⟨zhZ,by decide⟩,bigr rfl,fun b nb=>⟨_,rfl,_,_,rfl,rfl,⟨p42,by decide⟩,_,_,rfl,rfl,p2,_,_,_,_,rfl,rfl,SqL.of zad,hbs,_,_,rfl,hb2,fun y hy=>?_⟩⟩;have s4:=s2.put (o:=.lst [V.int 26,V.int 2]) (s2.free nb);have t4:Same H4 (upd H4 b (.lst [V.int 26,V.int 2])):=Same.new nb;have eu4:=t4 _ _ eu;refine⟨_,rfl,y,pu,ks.map (·.1),rfl,hy,SqL.of eu4,by rw[A3];omega,fun z H5 s5 hz hzn=>?_⟩;have s5H:=s4.trans s5;have t5:=t4.trans s5;have eu5:=t5 _ _ eu;have ef5:=t5 _ _ ef;have em5:=t5 _ _ em2;have dr5:=dr.same t5;refine⟨_,rfl,.inl ⟨rfl,_,SqL.of eu5⟩,_,rfl,_,_,_,rfl,rfl,eu5,?_,?_⟩
   ·rw[A3,A3];exact Ak (by omega:ks.length<1000) zaS
   have s6:=s5H.put (o:=.lst ((ks.map (·.1)).map V.str++[V.str z])) uH;have dr6:Drawn (fun x=>x≠pf/\x≠pu) (upd H5 pu (.lst ((ks.map (·.1)).map V.str++[V.str z]))) vs ks:=dr5.upd fun z=>z.2 rfl;have em6:upd H5 pu (.lst ((ks.map (·.1)).map V.str++[V.str z])) pm=some (.tup (xs.map V.int)):=by
    rw[zag (fun w=>by rw[w,eu5] at em5;cases em5)];exact em5
   have ef6:upd H5 pu (.lst ((ks.map (·.1)).map V.str++[V.str z])) pf=some (.lst vs):=by rw[zag nfu];exact ef5
   have eu6:upd H5 pu (.lst ((ks.map (·.1)).map V.str++[V.str z])) pu=some (.lst ((ks.map (·.1)).map V.str++[V.str z])):=zad;generalize upd H5 pu (.lst ((ks.map (·.1)).map V.str++[V.str z]))=H6 at s6 dr6 em6 ef6 eu6;refine⟨_,rfl,.inl ⟨rfl,_,SqL.of ef6⟩,_,rfl,_,rfl,by decide,by decide,fun Dc hD=>?_⟩;refine zcv (capv:=[some (.int bt)]) (by rfl) (zaP 0 (8:Int).toNat) (bigr rfl) hD ?_ (bitOf bt) (fun v=>v) ?_ ?_ ?_
   ·exact fun _ _=>trivial
   ·intro v hv H' R s' h;obtain⟨t,ht,rfl⟩:=Aa.mp hv;refine⟨_,rfl,_,rfl,_,_,rfl,rfl,?_,_,_,rfl,rfl,rfl,_,rfl,?_⟩
    ·show(0:Int)<=0+((t:Nat):Int);omega
    rw[dec_ii];exact h H' (Same.refl _)
   ·intro v hv hp H' R s' h;exact⟨_,rfl,h H' (Same.refl _)⟩
   intro H7 s7 e7;have ets:(((((A4 (8:Int).toNat).map fun i=>V.int (0+((i:Nat):Int))).filter (bitOf bt)).map fun v=>v))=(((A4 8).filter fun i=>bitOf bt (.int (0+((i:Nat):Int)))).map fun i=>((i:Nat):Int)).map V.int:=by
    rw[Lv,Dx,As];show Hr _ (P8 _ (A4 8))=_;congr 1;funext i;show V.int (0+((i:Nat):Int))=V.int ((i:Nat):Int);rw[Iq]
   have gt:GT (((A4 8).filter fun i=>bitOf bt (.int (0+((i:Nat):Int)))).map fun i=>((i:Nat):Int)):=by
    refine⟨_,rfl,?_⟩;show decide (E3 (bt / 2 ^ (0+((0:Nat):Int)).toNat) 1=1)=true;rw[bitAnd_m1];apply decide_eq_true;show bt / 1%2=1;rw[Int.ediv_one];exact hb1
   rw[ets] at e7;generalize (((A4 8).filter fun i=>bitOf bt (.int (0+((i:Nat):Int)))).map fun i=>((i:Nat):Int))=ts at e7 gt;refine⟨bigr rfl,fun q' nq=>?_⟩;have t7:Same H6 H7:=s7;have n7:∀{x o},H6 x=some o->x≠Dc:=fun e z=>by rw[z,hD] at e;cases e
   have n8:∀{x o},H7 x=some o->x≠q':=fun e z=>by rw[z,nq] at e;cases e
   have ef8:upd H7 q' (.lst [V.str z,V.ref Dc]) pf=some (.lst vs):=by rw[zag (n8 (t7 _ _ ef6))];exact t7 _ _ ef6
   refine⟨_,_,_,rfl,rfl,ef8,?_,?_⟩
   ·rw[dr6.rows.length];exact Ak (by omega:ks.length<1000) zaS
   have s8:=((s6.trans s7).put (o:=.lst [V.str z,V.ref Dc]) ((s6.trans s7).free nq)).put (o:=.lst (vs++[V.ref q'])) fH;have fq:q'≠pf:=(n8 (t7 _ _ ef6)).symm;have uq:q'≠pu:=(n8 (t7 _ _ eu6)).symm;refine⟨s8,?_,vs++[.ref q'],ks++[(z,ts)],_,_,_,_,rfl,zad,?_,?_,by rw[Af,hl];rfl⟩
   ·have fm:pm≠pf:=fun w=>by rw[w,ef6] at em6;cases em6
    rw[zag fm,zag (n8 (t7 _ _ em6))];exact t7 _ _ em6
   ·rw[zag nfu.symm,zag (n8 (t7 _ _ eu6)),t7 _ _ eu6,B1,B1];rfl
   ·refine Drawn.snoc (q:=q') (t:=Dc) (((dr6.same t7).same (Same.new nq)).upd fun w=>w.1 rfl) ?_ ?_ ⟨fq,uq⟩ ⟨(n7 ef6).symm,(n7 eu6).symm⟩ hzn ⟨hz,gt⟩
    ·rw[zag fq,zad]
    ·rw[zag (n7 ef6).symm,zag (n8 e7)];exact e7
  ·rintro σ H2⟨s2,em2,vs,ks,x6,x7,x8,x9,rfl,ef,eu,dr,hl⟩;rw[A3,Am] at hl;exact⟨_,rfl,q pf ks vs H2 s2 fH ef dr.any (by omega)⟩
theorem zhP{a b:Nat}:([a]<[b])↔a<b:=by
 rw[List.cons_lt_cons_iff];simp
theorem le_a(c:Nat):(!decide ((⟨#[c]⟩:Str).cps.toList<(A2 "a").cps.toList))=decide (97<=c):=by
 have e:(A2 "a").cps.toList=[97]:=by decide+kernel
 rw[e];show(!decide ([c]<[97]))=_;rw[B7];simp only[Fx,decide_eq_false_iff_not,decide_eq_true_eq,zhP];omega
theorem le_z(c:Nat):(!decide ((A2 "z").cps.toList<(⟨#[c]⟩:Str).cps.toList))=decide (c<=122):=by
 have e:(A2 "z").cps.toList=[122]:=by decide+kernel
 rw[e];show(!decide ([122]<[c]))=_;rw[B7];simp only[Fx,decide_eq_false_iff_not,decide_eq_true_eq,zhP];omega
noncomputable def sp_small:Sp:=fun vs H Q _=>∃c:Nat,vs=[sgn c]/\Q (.bl (small c)) H
theorem zbH:FnScope ["sign"] ["sign"] (defScope s_is_small_letter):=⟨rfl,rfl,rfl,by decide+kernel,rfl,by decide+kernel,by decide+kernel⟩
theorem ok_small(D:DefAt K mg "is_small_letter" s_is_small_letter)(T:Bn mg):Callee P w K mg base "is_small_letter" 1 ["sign"] sp_small:=by
 refine D.callee zbH (fun _ _ _ _ _ _=>ln1 fun _=>rfl) (fun vs H Q E h=>?_) (fun f cdv A outer s H vs Q E hr h=>?_)
 ·obtain⟨c,rfl,_⟩:=h;rfl
 ·obtain⟨c,rfl,q⟩:=h;have S:=zbH;refine⟨_,zaf (zal (zf8 ze3 ze3 (zaK) (pv 0) (zaK))),?_⟩;refine⟨_,rfl,_,_,rfl,rfl,_,rfl,?_⟩;rw[le_a];have q':Q (.bl (decide (97<=c)&&decide (c<=122))) H:=q
  cases e:decide (97<=c) with
  |false=>
   rw[if_neg Ah];rw[e] at q';exact q'
  |true=>
   rw[if_pos rfl];refine⟨_,_,rfl,rfl,?_⟩;rw[le_z];rw[e] at q';exact q'
noncomputable def sp_name:Sp:=fun vs H Q _=>∃x:Str,vs=[.str x]/\x.length<=sizeLine/\∀H',Same H H'->Q (.bl (isName x)) H'
theorem zed:FnScope ["text"] ["text"] (defScope s_is_name):=⟨rfl,rfl,rfl,by decide+kernel,rfl,by decide+kernel,by decide+kernel⟩
theorem ok_name(D:DefAt K mg "is_name" s_is_name)(T:Bn mg)(V_MOST_NAME:∃t,mg "MOST_NAME"=some (.int 6 t))(C_is_small_letter:Callee P w K mg base "is_small_letter" 1 ["sign"] sp_small):Callee P w K mg base "is_name" 2 ["text"] sp_name:=by
 refine D.callee zed (fun _ _ _ _ _ _=>ln1 fun _=>rfl) (fun vs H Q E h=>?_) (fun f cdv A outer s H vs Q E hr h=>?_)
 ·obtain⟨c,rfl,_⟩:=h;rfl
 ·obtain⟨x,rfl,hx,q⟩:=h;have S:=zed;refine⟨_,zac (zaF (za2 (zex zez zez (zab) (zai call_len_str rfl T.n_len B6 (zaa (pv 0) zae)) (zcb rfl V_MOST_NAME)))
   (zaf (zal (zbl)))
   (zap))
  (zaf (zal (zai (zcU rfl) rfl T.n_all M5 (zaa (zaL (own:=["sign"]) (caps:=[]) rfl ⟨rfl,rfl,rfl,rfl,trivial⟩ (zhK (pv 0)) (fun _ _ _ _ _ _=>zak (i:=0) (zaz (by decide+kernel)) rfl (Ao rfl)) (fun _ _ _ _ _ _=>za7) (fun _ _ _ _ _ _=>zay C_is_small_letter (hr.mono (by decide)) rfl (zaa (pv 0) zae))) zae)))),?_⟩
  have fin:∀H',Same H H'->(decide (1<=x.length)&&decide (x.length<=6))=false->Q (.bl false) H':=fun H' s' e=>by
   have:=q H' s';unfold isName at this;rw[e] at this;exact this
  refine⟨_,rfl,_,rfl,hx,_,_,rfl,rfl,_,rfl,?_⟩;refine ite2 (fun h1=>?_) (fun h1=>?_)
  ·refine⟨_,_,rfl,rfl,_,rfl,?_⟩;refine ite2 (fun h2=>?_) (fun h2=>?_)
   ·refine fin H (Same.refl H) ?_;have:¬(x.length:Int)<=6:=by simpa using h2
    rw[Mh];exact .inr (decide_eq_false (by omega))
   ·refine⟨_,rfl,_,rfl,fun D hD=>?_⟩;refine zcv (capv:=[]) (L:=x.cps.toList.map sgn) (by rfl) (zfd x) (by rw[A3,zcX];exact hx) hD ?_ (fun _=>true) (fun v=>match v with| .str y=>.bl (small (y.cps.getD 0 0))|_=>.non) ?_ ?_ ?_
    ·exact fun _ _=>trivial
    ·exact fun v hv H' R s' h=>h H' (Same.refl _)
    ·intro v hv _ H' R s' h;obtain⟨c,hc,rfl⟩:=Aa.mp hv;exact⟨_,rfl,c,rfl,h H' (Same.refl _)⟩
    ·intro H' s' e;refine⟨_,x.cps.toList.map small,rfl,?_,?_⟩
     ·refine SqL.of ?_;rw[e];congr 2;rw[Bs.mpr (fun _ _=>rfl),As,As];rfl
     ·have:=q H' s';unfold isName at this;have h3:¬¬(x.length:Int)<=6:=by simpa using h2
      have h1':(1:Int)<=x.length:=by simpa using h1
      rw[decide_eq_true (show 1<=x.length by omega),decide_eq_true (show x.length<=6 by omega)] at this;rw[Gr];exact this
  ·refine⟨_,rfl,?_⟩;refine fin H (Same.refl H) ?_;have h1':¬(1:Int)<=x.length:=by simpa using h1
   rw[Mh];exact .inl (decide_eq_false (by omega))
noncomputable def sp_teeth(K:Az):Sp:=fun vs H Q _=>∃(a:A7)(ts:List Int),vs=[.ref a]/\SqL K H a (ts.map V.int)/\ts.length<=1000/\∀H',Same H H'->Q (.bl (areTeeth ts)) H'
theorem zdc:FnScope ["teeth"] ["teeth"] (defScope s_are_teeth):=⟨rfl,rfl,rfl,by decide+kernel,rfl,by decide+kernel,by decide+kernel⟩
theorem ok_teeth(D:DefAt K mg "are_teeth" s_are_teeth)(T:Bn mg)(V_MOST_TOOTH:∃t,mg "MOST_TOOTH"=some (.int 7 t)):Callee P w K mg base "are_teeth" 1 ["teeth"] (sp_teeth K):=by
 refine D.callee zdc (fun _ _ _ _ _ _=>ln1 fun _=>rfl) (fun vs H Q E h=>?_) (fun f cdv A outer s H vs Q E hr h=>?_)
 ·obtain⟨a,ts,rfl,_⟩:=h;rfl
 ·obtain⟨a,ts,rfl,ha,hl,q⟩:=h;have S:=zdc;unfold areTeeth at q;refine⟨_,zac (zaF (zao zce (zab) (pv 0) (by with_unfolding_all rfl))
   (zaf (zal (zbl)))
   (zap))
  (zac (zaF (zao zdh (zai call_lenS rfl T.n_len B6 (zaa (zbh (call_set1 rfl) rfl T.n_set boot_set (zaa (pv 0) zae)) zae)) (zai zam rfl T.n_len B6 (zaa (pv 0) zae)) (zat _))
   (zaf (zal (zbl)))
   (zap))
  (zaf (zal (zai (zcU rfl) rfl T.n_all M5 (zaa (zaL (own:=["tooth"]) (caps:=[]) rfl ⟨rfl,rfl,rfl,rfl,trivial⟩ (zaw (pv 0)) (fun _ _ _ _ _ _=>zak (i:=0) (zaz (by decide+kernel)) rfl (Ao rfl)) (fun _ _ _ _ _ _=>za7) (fun _ _ _ _ _ _=>zf8 zez zez (zab) (pv 0) (zcb rfl V_MOST_TOOTH))) zae))))),?_⟩
  refine⟨_,rfl,_,_,rfl,.inl ha,rfl,zh1 ts,_,rfl,?_⟩;rw[if_pos rfl,in_zero];refine ite2 (fun hc=>?_) (fun hc=>?_)
  ·have h0:decide (0∈ts)=false:=by simpa using hc
   rw[h0] at q;exact q H (Same.refl H)
  ·have h0:decide (0∈ts)=true:=by simpa using hc
   rw[h0,F4] at q;refine⟨_,rfl,_,ts,rfl,ha,?_,fun p np=>?_⟩
   ·show ts.length+1<4096;omega
   have s1:Same H (upd H p (.set (fun k=>(firstMet (fun i=>ts.getD i 0) ts.length).any (· ==k)) (many ts))):=Same.new np;refine⟨_,_,_,rfl,zad,_,rfl,_,_,rfl,.inl (s1.seq ha),rfl,_,rfl,?_⟩;rw[A3];refine ite2 (fun hm=>?_) (fun hm=>?_)
   ·have h1:¬many ts=ts.length:=fun z=>by simp[z] at hm
    rw[decide_eq_false h1,Fy] at q;exact q _ s1
   ·have h1:many ts=ts.length:=by
     have:(many ts:Int)=(ts.length:Int):=by simpa using hm
     omega
    rw[decide_eq_true h1,F4] at q;refine⟨_,rfl,_,rfl,⟨_,s1.seq ha⟩,fun D hD=>?_⟩;refine zcv (capv:=[]) (L:=ts.map V.int) (by rfl) (zaj K a (ts.map V.int)) (by rw[A3];exact big hl) hD ?_ (fun _=>true) (fun v=>match v with| .int t=>.bl (inR t)|_=>.non) ?_ ?_ ?_
    ·exact fun H' s'=>(s1.trans s').seq ha
    ·exact fun v hv H' R s' h=>h H' (Same.refl _)
    ·intro v hv _ H' R s' h;obtain⟨t,ht,rfl⟩:=Aa.mp hv;have h:=h H' (Same.refl _);have h:R (.bl (decide (0<=t)&&decide (t<=7))) H':=h;refine⟨_,rfl,_,_,rfl,rfl,_,rfl,?_⟩
     cases e:decide (0<=t) with
     |false=>
      rw[e] at h;exact iteF h
     |true=>
      rw[e] at h;exact iteT ⟨_,_,rfl,rfl,h⟩
    ·intro H' s' e;refine⟨_,ts.map inR,rfl,?_,?_⟩
     ·refine SqL.of ?_;rw[e];congr 2;rw[Bs.mpr (fun _ _=>rfl),As,As];rfl
     ·have:=q H' (s1.trans s');rw[Gr];exact this
theorem zbS{d l:V}:([("combs",d),("past",l)]:List (Str×V)).lookup (A2 "combs")=some d:=rfl
theorem zeC{d l:V}:([("combs",d),("past",l)]:List (Str×V)).lookup (A2 "past")=some l:=rfl
theorem putF_combs{y d l:V}:putF (A2 "combs") y [("combs",d),("past",l)]=[(A2 "combs",y),(A2 "past",l)]:=by
 unfold putF;rw[if_pos rfl]
theorem putF_new{y:V}:putF (A2 "combs") y []=[(A2 "combs",y)]:=rfl
theorem putF_past{y d:V}:putF (A2 "past") y [("combs",d)]=[(A2 "combs",d),(A2 "past",y)]:=by
 have h:¬(A2 "combs"=A2 "past"):=by decide+kernel
 unfold putF;rw[if_neg h];rfl
theorem two_len{a b:Str×V}:[a,b].length<1000:=show 2<1000 by decide
noncomputable def sp_check(ea:Nat->A7)(C:A7):Sp:=fun vs H Q E=>∃b l G cs past x,vs=[.ref b,.str x]/\Bk C G H b l cs past/\(if(cGet cs x).isSome=true then Q .non H else E (.ref (ea 4)) none H)
theorem zbJ:FnScope ["self","name"] ["self","name"] (defScope s_Book_check_comb):=⟨rfl,rfl,rfl,by decide+kernel,rfl,by decide+kernel,by decide+kernel⟩
theorem ok_check{ea:Nat->A7}{C:A7}(D:MethAt K C "Book" "check_comb" s_Book_check_comb)(T:Bn mg)(BA:BookAt K C)(O_NoComb:Err K mg "NoComb" (ea 4)):Method P w K mg base C "check_comb" (CX1 P w) 1 ["self","name"] (sp_check ea C):=by
 refine D.meth1 zbJ (fun _ _ _ _ _ _=>ln2 fun _ _=>rfl) (fun vs H Q E h=>?_) (fun f cdv A outer s H vs Q E hr h=>?_)
 ·obtain⟨b,l,G,cs,past,x,rfl,_⟩:=h;rfl
 ·obtain⟨b,l,G,cs,past,x,rfl,B,q⟩:=h;have S:=zbJ;have hu:=zcS hr;obtain⟨dx,d,hb,gd,kvs,hd,kr⟩:=B.ins;refine⟨_,zaf (zaF (zef (zdI hu (pv 1) (zcc (pv 0) rfl)))
   (zaf (zbv O_NoComb rfl (zaa (zaK) zae)))
   (zap)),?_⟩
  refine⟨_,rfl,_,rfl,_,_,_,_,_,rfl,hb,BA.cls,BA.nc,zbS,d,_,rfl,DGet.k (k:=Dh x) hd,_,rfl,?_⟩;rw[kr.some]
  cases e:(cGet cs x).isSome with
  |false=>
   rw[e] at q;exact iteT ⟨bigr rfl,q⟩
  |true=>
   rw[e] at q;exact iteF q
noncomputable def sp_do(ea:Nat->A7)(C:A7):Sp:=fun vs H Q E=>∃b l G cs past d D cs',vs=[.ref b,.ref d]/\Bk C G H b l cs past/\DictR D H d cs'/\Good cs'/\(∀x,D x->x≠b/\x≠l/\H x≠none)/\
 (if 300<=past.length then E (.ref (ea 9)) none H else∀H',(∀a,a≠b->a≠l->H' a=H a)->Bk C (fun a=>G a\/D a) H' b l cs' (past++[cs])->Q (.int ((past.length:Int)+1)) H')
theorem zb7:FnScope ["self","combs"] ["self","combs"] (defScope s_Book_do_deed):=⟨rfl,rfl,rfl,by decide+kernel,rfl,by decide+kernel,by decide+kernel⟩
theorem ok_do{ea:Nat->A7}{C:A7}(D:MethAt K C "Book" "do_deed" s_Book_do_deed)(T:Bn mg)(BA:BookAt K C)(V_MOST_DEEDS:∃t,mg "MOST_DEEDS"=some (.int 300 t))(O_DeedsFull:Err K mg "DeedsFull" (ea 9)):Method P w K mg base C "do_deed" (CX1 P w) 1 ["self","combs"] (sp_do ea C):=by
 refine D.meth1 zb7 (fun _ _ _ _ _ _=>ln2 fun _ _=>rfl) (fun vs H Q E h=>?_) (fun f cdv A outer s H vs Q E hr h=>?_)
 ·obtain⟨b,l,G,cs,past,d,D,cs',rfl,_⟩:=h;rfl
 ·obtain⟨b,l,G,cs,past,d1,Dd,cs',rfl,B,dr,gd',nD,q⟩:=h;have S:=zb7;have hu:=zcS hr;obtain⟨dx,d,hb,dr0⟩:=B.ins;obtain⟨vs,hl,pr⟩:=B.lst;have hlen:=pr.length;have hbl:b≠l:=zh0 hb hl (by intro z;cases z);refine⟨_,zac (zaF (zao zeA (zai zam rfl T.n_len B6 (zaa (zcc (pv 0) rfl) zae)) (zcb rfl V_MOST_DEEDS) (zat _))
   (zaf (zbv O_DeedsFull rfl (zaa (zaK) zae)))
   (zap))
  (zac (zaT (zcd B8 Bh Bg zaE (zcc (pv 0) rfl) (zaa (zcc (pv 0) rfl) zae)))
  (zac (zgR (pv 0) (pv 1) rfl)
  (zaf (zal (zai zam rfl T.n_len B6 (zaa (zcc (pv 0) rfl) zae)))))),?_⟩
  refine⟨_,rfl,_,_,_,_,_,rfl,hb,BA.cls,BA.np,zeC,_,_,rfl,.inl (SqL.of hl),_,_,rfl,rfl,_,rfl,?_⟩;refine ite2 (fun hc=>?_) (fun hc=>?_)
  ·have h300:300<=past.length:=by
    have:(300:Int)<=(vs.length:Int):=by simpa using hc
    omega
   rw[if_pos h300] at q;exact⟨bigr rfl,q⟩
  ·have h300:¬300<=past.length:=by
    have:¬(300:Int)<=(vs.length:Int):=by simpa using hc
    omega
   rw[if_neg h300] at q;refine⟨_,rfl,_,_,_,_,_,rfl,hb,BA.cls,BA.np,zeC,.inl ⟨rfl,_,SqL.of hl⟩,_,rfl,_,_,_,_,_,rfl,hb,BA.cls,BA.nc,zbS,_,_,_,rfl,rfl,hl,?_,?_⟩
   ·exact Ak (by omega:vs.length<1000) zaS
   have hb1:upd H l (.lst (vs++[.ref d])) b=some (.ins C dx [("combs",.ref d),("past",.ref l)]):=by rw[zag hbl];exact hb
   refine⟨_,rfl,_,rfl,_,_,_,_,rfl,hb1,BA.cls,BA.nc,two_len,?_⟩;rw[putF_combs];have hb2:upd (upd H l (.lst (vs++[.ref d]))) b (.ins C dx [("combs",.ref d1),("past",.ref l)]) b=some (.ins C dx [("combs",.ref d1),("past",.ref l)]):=zad;have hl2:upd (upd H l (.lst (vs++[.ref d]))) b (.ins C dx [("combs",.ref d1),("past",.ref l)]) l=some (.lst (vs++[.ref d])):=by rw[zag (E7 hbl),zad]
   have off:∀a,a≠b->a≠l->upd (upd H l (.lst (vs++[.ref d]))) b (.ins C dx [("combs",.ref d1),("past",.ref l)]) a=H a:=fun a n1 n2=>by rw[zag n1,zag n2]
   generalize upd (upd H l (.lst (vs++[.ref d]))) b (.ins C dx [("combs",.ref d1),("past",.ref l)])=H2 at hb2 hl2 off;refine⟨_,rfl,_,_,_,_,_,rfl,hb2,BA.cls,BA.np,zeC,_,_,rfl,.inl (SqL.of hl2),?_⟩;rw[Af,Bx,hlen];have sG:∀a o,G a->H a=some o->H2 a=some o:=fun a o g e=>(off a (fun z=>B.nb (z▸g)) (fun z=>B.nl (z▸g))).trans e;have sD:∀a o,Dd a->H a=some o->H2 a=some o:=fun a o g e=>(off a (nD a g).1 (nD a g).2.1).trans e;refine q H2 off ⟨?_,?_,?_,⟨dx,d1,hb2,dr.mono sD fun _ g=>.inr g⟩,⟨_,hl2,?_⟩,gd',?_,?_⟩
   ·rintro x(g|g)
    ·rw[off x (fun z=>B.nb (z▸g)) (fun z=>B.nl (z▸g))];exact B.live x g
    ·rw[off x (nD x g).1 (nD x g).2.1];exact(nD x g).2.2
   ·rintro(g|g)
    ·exact B.nb g
    ·exact(nD b g).1 rfl
   ·rintro(g|g)
    ·exact B.nl g
    ·exact(nD l g).2.1 rfl
   ·exact Ej (Lu (fun _ _⟨d,e,r⟩=>⟨d,e,r.mono sG fun _ g=>.inl g⟩) pr) ⟨d,rfl,dr0.mono sG fun _ g=>.inl g⟩
   ·intro p hp;rcases Ap.mp hp with z|z
    ·exact B.goods p z
    ·rw[A9.mp z];exact B.good
   ·rw[Af,Bx];omega
noncomputable def sp_deeds(C:A7):Sp:=fun vs H Q _=>∃b l G cs past,vs=[.ref b]/\Bk C G H b l cs past/\Q (.int (past.length:Int)) H
theorem zcL:FnScope ["self"] ["self"] (defScope s_Book_deeds):=⟨rfl,rfl,rfl,by decide+kernel,rfl,by decide+kernel,by decide+kernel⟩
theorem ok_deeds{C:A7}(D:MethAt K C "Book" "deeds" s_Book_deeds)(T:Bn mg)(BA:BookAt K C):Method P w K mg base C "deeds" CX0 1 ["self"] (sp_deeds C):=by
 refine D.meth0 zcL (fun _ _ _ _ _ _=>ln1 fun _=>rfl) (fun vs H Q E h=>?_) (fun f cdv A outer s H vs Q E hr h=>?_)
 ·obtain⟨b,l,G,cs,past,rfl,_⟩:=h;rfl
 ·obtain⟨b,l,G,cs,past,rfl,B,q⟩:=h;have S:=zcL;obtain⟨dx,d,hb,dr0⟩:=B.ins;obtain⟨vs,hl,pr⟩:=B.lst;refine⟨_,zaf (zal (zai zam rfl T.n_len B6 (zaa (zcc (pv 0) rfl) zae))),?_⟩;refine⟨_,rfl,_,_,_,_,_,rfl,hb,BA.cls,BA.np,zeC,_,_,rfl,.inl (SqL.of hl),?_⟩;rw[pr.length];exact q
noncomputable def sp_names(C:A7):Sp:=fun vs H Q _=>∃b l G cs past,vs=[.ref b]/\Bk C G H b l cs past/\∀p(nm:List Str),H p=none->nm.Perm (cs.map (·.1))->sortedS nm=true->Q (.ref p) (upd H p (.lst (nm.map V.str)))
theorem zcK:FnScope ["self"] ["self"] (defScope s_Book_names):=⟨rfl,rfl,rfl,by decide+kernel,rfl,by decide+kernel,by decide+kernel⟩
theorem ok_names{C:A7}(D:MethAt K C "Book" "names" s_Book_names)(T:Bn mg)(BA:BookAt K C):Method P w K mg base C "names" CX0 1 ["self"] (sp_names C):=by
 refine D.meth0 zcK (fun _ _ _ _ _ _=>ln1 fun _=>rfl) (fun vs H Q E h=>?_) (fun f cdv A outer s H vs Q E hr h=>?_)
 ·obtain⟨b,l,G,cs,past,rfl,_⟩:=h;rfl
 ·obtain⟨b,l,G,cs,past,rfl,B,q⟩:=h;have S:=zcK;obtain⟨dx,d,hb,gd,kvs,hd,kr⟩:=B.ins;refine⟨_,zaf (zal (zai (call_sortedD rfl) rfl T.n_sorted Hw (zaa (zcc (pv 0) rfl) zae))),?_⟩;refine⟨_,rfl,_,_,_,_,_,rfl,hb,BA.cls,BA.nc,zbS,d,kvs,cs.map (·.1),rfl,.inl hd,kr.keys,?_,q⟩;rw[A3];have:=B.good.len;omega
noncomputable def sp_bteeth(ea:Nat->A7)(C:A7):Sp:=fun vs H Q E=>∃b l G cs past x,vs=[.ref b,.str x]/\Bk C G H b l cs past/\(match cGet cs x with|some ts=>∀p,H p=none->Q (.ref p) (upd H p (.lst (ts.map V.int)))|none=>E (.ref (ea 4)) none H)
theorem zcJ:FnScope ["self","name"] ["self","name"] (defScope s_Book_teeth):=⟨rfl,rfl,rfl,by decide+kernel,rfl,by decide+kernel,by decide+kernel⟩
theorem ok_bteeth{ea:Nat->A7}{C:A7}(D:MethAt K C "Book" "teeth" s_Book_teeth)(T:Bn mg)(BA:BookAt K C)(M_check_comb:Method P w K mg base C "check_comb" (CX1 P w) 1 ["self","name"] (sp_check ea C)):Method P w K mg base C "teeth" (CX1 P w) 2 ["self","name"] (sp_bteeth ea C):=by
 refine D.meth1 zcJ (fun _ _ _ _ _ _=>ln2 fun _ _=>rfl) (fun vs H Q E h=>?_) (fun f cdv A outer s H vs Q E hr h=>?_)
 ·obtain⟨b,l,G,cs,past,x,rfl,_⟩:=h;rfl
 ·obtain⟨b,l,G,cs,past,x,rfl,B,q⟩:=h;have S:=zcJ;have hu:=zcS hr;have B_cls:=BA.cls;obtain⟨dx,d,hb,gd,kvs,hd,kr⟩:=id B.ins;refine⟨_,zac (zaT (zgV (pv 0) B_cls M_check_comb (hr.mono (by decide)) (by first|exact ze2|exact pass_try|exact zcm|exact za8) (zaa (pv 1) zae)))
  (zaf (zal (zbh zbL rfl T.n_list Gn (zaa (zdH hu (zcc (pv 0) rfl) (pv 1) (fun _ _=>rfl)) zae)))),?_⟩
  refine⟨_,rfl,_,_,_,rfl,hb,rfl,_,rfl,b,l,G,cs,past,x,rfl,B,?_⟩;rcases kr.val (x:=x) with⟨e1,e2⟩|⟨ts,t,e1,e2,e3,e4⟩
  ·rw[e1] at q⊢;exact q
  ·rw[e1] at q⊢;refine iteT ?_;refine⟨_,rfl,_,_,_,_,_,rfl,hb,BA.cls,BA.nc,zbS,_,rfl,d,_,rfl,?_,_,_,rfl,.inl (SqL.of e3),q⟩;rw[<-e2];exact DGet.k (k:=Dh x) hd
noncomputable def sp_init(C:A7):Sp:=fun vs H Q _=>∃b dx,vs=[.ref b]/\H b=some (.ins C dx [])/\∀H' l d,Mv b b (fun _=>False) (fun a=>a=d) H H'->H l=none->H d=none->Bk C (fun a=>a=d) H' b l [] []->Q .non H'
theorem zb1:FnScope ["self"] ["self"] (defScope s_Book___init__):=⟨rfl,rfl,rfl,by decide+kernel,rfl,by decide+kernel,by decide+kernel⟩
theorem ok_init{C:A7}{f:A7}{fd:Ep}(F:Fun K "__init__" "Book.__init__" s_Book___init__ f fd)(T:Bn mg)(BA:BookAt K C):FnOk P w K mg base CX0 1 f fd ["self"] (sp_init C):=by
 refine F.ok zb1 (fun vs H Q E h=>?_) (fun cdv A outer s H vs Q E hr h=>?_)
 ·obtain⟨b,dx,rfl,_⟩:=h;rfl
 ·obtain⟨b,dx,rfl,hb,q⟩:=h;have S:=zb1;refine⟨_,zac (zgR (pv 0) (zdj) rfl)
  (zaf (zgR (pv 0) (zaQ (zae)) rfl)),?_⟩
  refine fun d nd=>?_;have hbd:b≠d:=zas hb nd;have hb1:upd H d (.dK []) b=some (.ins C dx []):=by rw[zag hbd];exact hb
  refine⟨_,rfl,_,_,_,_,rfl,hb1,BA.cls,BA.nc,by decide,?_⟩;rw[putF_new];refine⟨bigr rfl,fun l nl=>?_⟩;have hbl:b≠l:=fun z=>by rw[<-z,zad] at nl;cases nl
  have nl1:upd H d (.dK []) l=none:=by rw[zag (E7 hbl)] at nl;exact nl
  have hdl:d≠l:=fun z=>by rw[<-z,zad] at nl1;cases nl1
  have hln:H l=none:=by rw[zag (E7 hdl)] at nl1;exact nl1
  have hb2:upd (upd (upd H d (.dK [])) b (.ins C dx [(A2 "combs",V.ref d)])) l (.lst []) b=some (.ins C dx [("combs",.ref d)]):=by rw[zag hbl,zad]
  refine⟨_,rfl,_,_,_,_,rfl,hb2,BA.cls,BA.np,(show 1<1000 by decide),?_⟩;rw[putF_past];have hb3:upd (upd (upd (upd H d (.dK [])) b (.ins C dx [(A2 "combs",V.ref d)])) l (.lst [])) b (.ins C dx [(A2 "combs",V.ref d),(A2 "past",V.ref l)]) b=some (.ins C dx [("combs",.ref d),("past",.ref l)]):=zad;have hd3:upd (upd (upd (upd H d (.dK [])) b (.ins C dx [(A2 "combs",V.ref d)])) l (.lst [])) b (.ins C dx [(A2 "combs",V.ref d),(A2 "past",V.ref l)]) d=some (.dK []):=by
   rw[zag (E7 hbd),zag hdl,zag (E7 hbd),zad]
  have hl3:upd (upd (upd (upd H d (.dK [])) b (.ins C dx [(A2 "combs",V.ref d)])) l (.lst [])) b (.ins C dx [(A2 "combs",V.ref d),(A2 "past",V.ref l)]) l=some (.lst []):=by
   rw[zag (E7 hbl),zad]
  have off:∀a o,H a=some o->a≠b->upd (upd (upd (upd H d (.dK [])) b (.ins C dx [(A2 "combs",V.ref d)])) l (.lst [])) b (.ins C dx [(A2 "combs",V.ref d),(A2 "past",V.ref l)]) a=some o:=fun a o e n=>by
   rw[zag n,zag (zas e hln),zag n,zag (zas e nd)];exact e
  generalize upd (upd (upd (upd H d (.dK [])) b (.ins C dx [(A2 "combs",V.ref d)])) l (.lst [])) b (.ins C dx [(A2 "combs",V.ref d),(A2 "past",V.ref l)])=H3 at hb3 hd3 hl3 off;refine q H3 l d ⟨fun a o e n _=>off a o e n,fun a h=>?_,fun a g=>.inr (by rw[g];exact nd)⟩ hln nd ⟨fun x g=>?_,hbd,fun z=>hdl z.symm,⟨dx,d,hb3,rfl,[],hd3,.nil⟩,⟨[],hl3,.nil⟩,good_nil,by simp,by decide⟩
  ·by_cases z:a=b
   ·rw[z,hb3];simp
   ·cases e:H a with
    |none=>exact absurd e h
    |some o=>rw[off a o e z];simp
  ·rw[show x=d from g,hd3];simp
noncomputable def sp_set(ea:Nat->A7)(C:A7):Sp:=fun vs H Q E=>∃b l G cs past x a ts,vs=[.ref b,.str x,.ref a]/\Bk C G H b l cs past/\SqL K H a (ts.map V.int)/\areTeeth ts=true/\isName x=true/\(cs.length<8\/(cGet cs x).isSome=true)/\Deed ea C G H b l cs past Q E (full past (cPut cs x (canon ts)))
theorem zb0:FnScope ["self","name","teeth","combs"] ["self","name","teeth"] (defScope s_Book_set_comb):=⟨rfl,rfl,rfl,by decide+kernel,rfl,by decide+kernel,by decide+kernel⟩
theorem ok_set{ea:Nat->A7}{C:A7}(D:MethAt K C "Book" "set_comb" s_Book_set_comb)(T:Bn mg)(BA:BookAt K C)(M_do_deed:Method P w K mg base C "do_deed" (CX1 P w) 1 ["self","combs"] (sp_do ea C)):Method P w K mg base C "set_comb" (CX1 P w) 2 ["self","name","teeth"] (sp_set (K:=K) ea C):=by
 refine D.meth1 zb0 (fun _ _ _ _ _ _=>ln3 fun _ _ _=>rfl) (fun vs H Q E h=>?_) (fun f cdv A outer s H vs Q E hr h=>?_)
 ·obtain⟨b,l,G,cs,past,x,a,ts,rfl,_⟩:=h;rfl
 ·obtain⟨b,l,G,cs,past,x,a,ts,rfl,B,ha,ht,hx,hn,q⟩:=h;have S:=zb0;have hu:=zcS hr;have B_cls:=BA.cls;obtain⟨t0,tn,tr⟩:=teeth_iff.mp ht;obtain⟨dx,d,hb,gd,kvs,hd,kr⟩:=id B.ins;refine⟨_,zac (zan (i:=3) S.nd rfl (Ao rfl) (zbh call_dictD rfl T.n_dict boot_dict (zaa (zcc (pv 0) rfl) zae)))
  (zac (zc2 hu (pv 3) (pv 1) (zai zcf rfl T.n_sorted Hw (zaa (pv 2) zae)) rfl)
  (zaf (zal (zgV (pv 0) B_cls M_do_deed (hr.mono (by decide)) (by first|exact ze2|exact pass_try|exact zcm|exact za8) (zaa (pv 3) zae))))),?_⟩
  refine⟨_,rfl,_,_,_,_,_,rfl,hb,BA.cls,BA.nc,zbS,d,kvs,rfl,.inl hd,fun p np=>?_⟩;have s1:Same H (upd H p (.dK kvs)):=Same.new np;refine⟨_,rfl,a,ts,rfl,s1.seq ha,?_,fun r ns nr hp hs=>?_⟩
  ·have:=zds tn tr;omega
  have hc:=zdp hp hs tn tr;subst hc;have npr:p≠r:=fun z=>by rw[<-z,zad] at nr;cases nr
  have hr0:H r=none:=s1.free nr;have s2:Same H (upd (upd H p (.dK kvs)) r (.lst ((canon ts).map V.int))):=s1.put hr0;have hp2:upd (upd H p (.dK kvs)) r (.lst ((canon ts).map V.int)) p=some (.dK kvs):=by rw[zag npr,zad]
  have hkl:kvs.length<sizeLine:=by
   have:=kr.length;have:=B.good.len;exact Ak (by omega:kvs.length<1000) zaS
  refine⟨_,rfl,_,rfl,p,_,rfl,DPut.k (k:=Dh x) hp2 hkl,?_⟩;have s3:Same H (upd (upd (upd H p (.dK kvs)) r (.lst ((canon ts).map V.int))) p (.dK (putK kvs (Dh x) (.ref r)))):=s2.put np;have hr3:upd (upd (upd H p (.dK kvs)) r (.lst ((canon ts).map V.int))) p (.dK (putK kvs (Dh x) (.ref r))) r=some (.lst ((canon ts).map V.int)):=by rw[zag (E7 npr),zad]
  have hp3:upd (upd (upd H p (.dK kvs)) r (.lst ((canon ts).map V.int))) p (.dK (putK kvs (Dh x) (.ref r))) p=some (.dK (putK kvs (Dh x) (.ref r))):=zad;generalize upd (upd (upd H p (.dK kvs)) r (.lst ((canon ts).map V.int))) p (.dK (putK kvs (Dh x) (.ref r)))=H3 at s3 hr3 hp3;have B3:=B.same s3;obtain⟨lb,ll⟩:=B.liveB;refine⟨_,rfl,b,dx,_,rfl,s3 _ _ hb,rfl,_,rfl,b,l,G,cs,past,p,fun a=>G a\/a=p\/a=r,cPut cs x (canon ts),rfl,B3,⟨.inr (.inl rfl),_,hp3,?_⟩,B.good.put hx (zgi t0) hn,?_,?_⟩
  ·exact(kr.mono (fun a o _ e=>s3 a o e) fun _ g=>.inl g).put hr3 (.inr (.inr rfl))
  ·rintro y(g|g|g)
   ·exact⟨fun z=>B.nb (z▸g),fun z=>B.nl (z▸g),B3.live y g⟩
   ·subst g;exact⟨fun z=>lb (z▸np),fun z=>ll (z▸np),by rw[hp3];simp⟩
   ·subst g;exact⟨fun z=>lb (z▸hr0),fun z=>ll (z▸hr0),by rw[hr3];simp⟩
  ·unfold full at q;by_cases h3:300<=past.length
   ·rw[if_pos h3] at q⊢;exact q H3 s3
   ·rw[if_neg h3] at q⊢;intro H4 off B4;refine q H4 _ ⟨fun a o e n1 n2=>(off a n1 n2).trans (s3 a o e),fun a h=>?_,fun a g=>?_⟩ B4
    ·obtain⟨lb4,ll4⟩:=B4.liveB;by_cases z:a=b
     ·rw[z];exact lb4
     ·by_cases z2:a=l
      ·rw[z2];exact ll4
      ·rw[off a z z2];exact ze5 s3 a h
    ·rcases g with g|g|g|g
     ·exact .inl g
     ·exact .inl g
     ·rw[g];exact .inr np
     ·rw[g];exact .inr hr0
noncomputable def sp_put(ea:Nat->A7)(C:A7):Sp:=fun vs H Q E=>∃b l G cs past x a ts,vs=[.ref b,.str x,.ref a]/\Bk C G H b l cs past/\SqL K H a (ts.map V.int)/\x.length<=sizeLine/\ts.length<=1000/\Deed ea C G H b l cs past Q E (putD cs past x ts)
theorem zdB:FnScope ["self","name","teeth"] ["self","name","teeth"] (defScope s_Book_put):=⟨rfl,rfl,rfl,by decide+kernel,rfl,by decide+kernel,by decide+kernel⟩
theorem ok_put{ea:Nat->A7}{C:A7}(D:MethAt K C "Book" "put" s_Book_put)(T:Bn mg)(BA:BookAt K C)(V_MOST_COMBS:∃t,mg "MOST_COMBS"=some (.int 8 t))(O_BadName:Err K mg "BadName" (ea 0))(O_BadTeeth:Err K mg "BadTeeth" (ea 1))(O_NameTaken:Err K mg "NameTaken" (ea 2))(O_BookFull:Err K mg "BookFull" (ea 3))
  (C_is_name:Callee P w K mg base "is_name" 2 ["text"] sp_name) (C_are_teeth:Callee P w K mg base "are_teeth" 1 ["teeth"] (sp_teeth K)) (M_set_comb:Method P w K mg base C "set_comb" (CX1 P w) 2 ["self","name","teeth"] (sp_set (K:=K) ea C)):Method P w K mg base C "put" (CX1 P w) 3 ["self","name","teeth"] (sp_put (K:=K) ea C):=by
 refine D.meth1 zdB (fun _ _ _ _ _ _=>ln3 fun _ _ _=>rfl) (fun vs H Q E h=>?_) (fun f cdv A outer s H vs Q E hr h=>?_)
 ·obtain⟨b,l,G,cs,past,x,a,ts,rfl,_⟩:=h;rfl
 ·obtain⟨b,l,G,cs,past,x,a,ts,rfl,B,ha,hxl,htl,q⟩:=h;have S:=zdB;have hu:=zcS hr;have B_cls:=BA.cls;unfold putD at q;refine⟨_,zac (zaF (za2 (zaX (zay C_is_name (hr.mono (by decide)) rfl (zaa (pv 1) zae))))
   (zaf (zbv O_BadName rfl (zaa (zaK) zae)))
   (zap))
  (zac (zaF (za2 (zaX (zay C_are_teeth (hr.mono (by decide)) rfl (zaa (pv 2) zae))))
   (zaf (zbv O_BadTeeth rfl (zaa (zaK) zae)))
   (zap))
  (zac (zaF (zef (zgY hu (pv 1) (zcc (pv 0) rfl)))
   (zaf (zbv O_NameTaken rfl (zaa (zaK) zae)))
   (zap))
  (zac (zaF (zao zeA (zai zfm rfl T.n_len B6 (zaa (zcc (pv 0) rfl) zae)) (zcb rfl V_MOST_COMBS) (zat _))
   (zaf (zbv O_BookFull rfl (zaa (zaK) zae)))
   (zap))
  (zaf (zal (zgV (pv 0) B_cls M_set_comb (hr.mono (by decide)) (by first|exact ze2|exact pass_try|exact zcm|exact za8) (zaa (pv 1) (zaa (pv 2) zae)))))))),?_⟩
  refine⟨_,rfl,x,rfl,hxl,fun H1 s1=>⟨_,rfl,?_⟩⟩
  cases e1:isName x with
  |false=>
   rw[e1,if_pos rfl] at q;exact iteT ⟨bigr rfl,q H1 s1⟩
  |true=>
   rw[e1,if_neg (by decide)] at q;refine iteF ?_;refine⟨_,rfl,a,ts,rfl,s1.seq ha,htl,fun H2 s2=>⟨_,rfl,?_⟩⟩;have s12:=s1.trans s2
   cases e2:areTeeth ts with
   |false=>
    rw[e2,if_pos rfl] at q;exact iteT ⟨bigr rfl,q H2 s12⟩
   |true=>
    rw[e2,if_neg (by decide)] at q;refine iteF ?_;have B2:=B.same s12;obtain⟨dx,d,hb,gd,kvs,hd,kr⟩:=id B2.ins;refine⟨_,rfl,_,rfl,_,_,_,_,_,rfl,hb,BA.cls,BA.nc,zbS,d,_,rfl,DGet.k (k:=Dh x) hd,_,rfl,?_⟩;rw[kr.some]
    cases e3:(cGet cs x).isSome with
    |true=>
     rw[e3,if_pos rfl] at q;exact iteT ⟨bigr rfl,q H2 s12⟩
    |false=>
     rw[e3,if_neg (by decide)] at q;refine iteF ?_;refine⟨_,rfl,_,_,_,_,_,rfl,hb,BA.cls,BA.nc,zbS,_,_,rfl,hd,_,_,rfl,rfl,_,rfl,?_⟩;rw[kr.length];refine ite2 (fun hc=>?_) (fun hc=>?_)
     ·have h8:8<=cs.length:=by
       have:(8:Int)<=(cs.length:Int):=by simpa using hc
       omega
      rw[if_pos h8] at q;exact⟨bigr rfl,q H2 s12⟩
     ·have h8:¬8<=cs.length:=by
       have:¬(8:Int)<=(cs.length:Int):=by simpa using hc
       omega
      rw[if_neg h8] at q;exact⟨_,rfl,b,dx,_,rfl,hb,rfl,_,rfl,_,rfl,b,l,G,cs,past,x,a,ts,rfl,B2,s12.seq ha,e2,e1,.inl (by omega),q.from s12⟩
noncomputable def worths:List Int:=[1,2,4,8,16,32,64,128]
theorem at_worths{t:Int}(h0:0<=t)(h7:t<=7):atI (worths.map V.int) t=some (.int (pw t)):=by
 have:t=0\/t=1\/t=2\/t=3\/t=4\/t=5\/t=6\/t=7:=by omega
 rcases this with h|h|h|h|h|h|h|h<;>subst h<;>rfl
noncomputable def sp_worth(K:Az):Sp:=fun vs H Q _=>∃(a:A7)(ts:List Int),vs=[.ref a]/\SqL K H a (ts.map V.int)/\(∀t∈ts,0<=t/\t<=7)/\ts.length<=1000/\∀H',Same H H'->Q (.int (worth ts)) H'
theorem zcq:FnScope ["teeth"] ["teeth"] (defScope s_teeth_worth):=⟨rfl,rfl,rfl,by decide+kernel,rfl,by decide+kernel,by decide+kernel⟩
theorem ok_worth{tw:A7}(D:DefAt K mg "teeth_worth" s_teeth_worth)(T:Bn mg)(G_TOOTH_WORTH:mg "TOOTH_WORTH"=some (.ref tw))(HTW:∀H,SqT K H tw (worths.map V.int)):Callee P w K mg base "teeth_worth" 1 ["teeth"] (sp_worth K):=by
 refine D.callee zcq (fun _ _ _ _ _ _=>ln1 fun _=>rfl) (fun vs H Q E h=>?_) (fun f cdv A outer s H vs Q E hr h=>?_)
 ·obtain⟨a,ts,rfl,_⟩:=h;rfl
 ·obtain⟨a,ts,rfl,ha,hr7,hl,q⟩:=h;have S:=zcq;refine⟨_,zaf (zal (zai (zfj rfl) rfl T.n_sum boot_sum (zaa (zaL (own:=["tooth"]) (caps:=[]) rfl ⟨rfl,rfl,rfl,rfl,trivial⟩ (zaw (pv 0)) (fun _ _ _ _ _ _=>zak (i:=0) (zaz (by decide+kernel)) rfl (Ao rfl)) (fun _ _ _ _ _ _=>za7) (fun _ _ _ _ _ _=>zar (zbT K rfl) (pe_cls rfl G_TOOTH_WORTH) (pv 0) (fun _ _=>rfl))) zae))),?_⟩;refine⟨_,rfl,_,rfl,⟨_,ha⟩,fun D hD=>?_⟩;refine zcv (capv:=[]) (L:=ts.map V.int) (by rfl) (zaj K a (ts.map V.int)) (by rw[A3];exact big hl) hD ?_ (fun _=>true) (fun v=>match v with| .int t=>.int (pw t)|_=>.non) ?_ ?_ ?_
  ·exact fun H' s'=>s'.seq ha
  ·exact fun v hv H' R s' h=>h H' (Same.refl _)
  ·intro v hv _ H' R s' h;obtain⟨t,ht,rfl⟩:=Aa.mp hv;have h:R (.int (pw t)) H':=h H' (Same.refl _);obtain⟨h0,h7⟩:=hr7 t ht;exact⟨_,rfl,_,_,_,_,rfl,rfl,HTW H',at_worths h0 h7,h⟩
  ·intro H' s' e;refine⟨_,ts.map pw,rfl,?_,q H' s'⟩;refine SqL.of ?_;rw[e];congr 2;rw[Bs.mpr (fun _ _=>rfl),As,As];rfl
noncomputable def sp_steps(ea:Nat->A7)(C:A7):Sp:=fun vs H Q E=>∃b l G cs past n,vs=[.ref b,.int n]/\Bk C G H b l cs past/\
 (if 0<=n/\n<128 then∀p H' ws,Same H H'->H p=none->H' p=some (.lst ws)->(∀nm:List Str,nm.Perm (cs.map (·.1))->sortedS nm=true->StepsR H' ws (stepsOf (byNames cs nm) n))->Q (.ref p) H' else E (.ref (ea 11)) none H)
theorem zcr:FnScope ["book","shape","steps","name","worth"] ["book","shape"] (defScope s_shape_steps):=⟨rfl,rfl,rfl,by decide+kernel,rfl,by decide+kernel,by decide+kernel⟩
theorem ok_steps{ea:Nat->A7}{C:A7}(D:DefAt K mg "shape_steps" s_shape_steps)(T:Bn mg)(BA:BookAt K C)(V_SHAPES:∃t,mg "SHAPES"=some (.int 128 t))(O_BadShape:Err K mg "BadShape" (ea 11))(C_teeth_worth:Callee P w K mg base "teeth_worth" 1 ["teeth"] (sp_worth K))
  (M_names:Method P w K mg base C "names" CX0 1 ["self"] (sp_names C)) (M_teeth:Method P w K mg base C "teeth" (CX1 P w) 2 ["self","name"] (sp_bteeth ea C)):Callee1 P w K mg base "shape_steps" 3 ["book","shape"] (sp_steps ea C):=by
 refine D.callee1 zcr (fun _ _ _ _ _ _=>ln2 fun _ _=>rfl) (fun vs H Q E h=>?_) (fun f cdv A outer s H vs Q E hr h=>?_)
 ·obtain⟨b,l,G,cs,past,n,rfl,_⟩:=h;rfl
 ·obtain⟨b,l,G,cs,past,n,rfl,B,q⟩:=h;have S:=zcr;have hu:=zcS hr;have B_cls:=BA.cls;refine⟨_,zac (zaF (za2 (zex zez zgp (zab) (pv 1) (zcb rfl V_SHAPES)))
   (zaf (zbv O_BadShape rfl (zaa (zaK) zae)))
   (zap))
  (zac (zaF (zao zcn (zax zbA (pv 1) (zab)) (zab) (zat _))
   (zaf (zal (zaQ (zaa (zba (zaa (zaK) (zaa (zax zcw (pv 1) (zab)) zae))) zae))))
   (zap))
  (zac (zan (i:=2) S.nd rfl (Ao rfl) (zaQ (zae)))
  (zac (za0 Ls rfl (zaw (pe_mt0 (pv 0) B_cls M_names (hr.mono (by decide)) (by first|exact ze2|exact pass_try|exact zcm|exact za8))) (zak (i:=3) S.nd rfl (Ao rfl))
   (zac (zan (i:=4) S.nd rfl (Ao rfl) (zay C_teeth_worth (hr.mono (by decide)) rfl (zaa (zgV (pv 0) B_cls M_teeth (hr.mono (by decide)) (by first|exact ze2|exact pass_try|exact zcm|exact za8) (zaa (pv 3) zae)) zae)))
   (zaf (zaF (zao zcn (zax zhN (pv 1) (pv 4)) (zab) (zat _))
    (zaf (zaT (zcd B8 Bh Bg zaE (pv 2) (zaa (zba (zaa (pv 3) (zaa (zax zcw (zax zbi (pv 1) (pv 4)) (zab)) zae))) zae))))
    (zap)))))
  (zaf (zal (pv 2)))))),?_⟩
  refine⟨_,rfl,_,_,rfl,rfl,_,rfl,?_⟩;refine ite2 (fun h0=>?_) (fun h0=>?_)
  rotate_left
  ·have h0:¬(0:Int)<=n:=by simpa using h0
   rw[if_neg (fun z=>h0 z.1)] at q;exact⟨_,rfl,iteT ⟨bigr rfl,q⟩⟩
  have h0:(0:Int)<=n:=by simpa using h0
  refine⟨_,_,rfl,rfl,_,rfl,?_⟩;by_cases h1:n<128
  case neg=>
   rw[if_neg (fun z=>h1 z.2)] at q;rw[decide_eq_false h1];exact iteT ⟨bigr rfl,q⟩
  rw[if_pos ⟨h0,h1⟩] at q;rw[decide_eq_true h1];refine iteF ?_;have p2:(0:Int)<2:=by decide
  refine⟨_,rfl,_,_,rfl,rfl,p2,rfl,_,rfl,?_⟩;refine ite2 (fun hc=>?_) (fun hc=>?_)
  ·have hc:n%2=1:=by simpa using hc
   refine⟨_,rfl,_,_,rfl,rfl,⟨p2,by decide⟩,bigr rfl,fun t nt=>⟨bigr rfl,fun p np=>?_⟩⟩;have s1:Same H (upd H t (.tup [.str "",.int (n / 2)])):=Same.new nt;refine q p _ [.ref t] (s1.trans (Same.new np)) (s1.free np) zad fun nm _ _=>?_;rw[zeU hc];refine⟨⟨t,rfl,?_⟩,trivial⟩;rw[zag (fun z=>by rw[<-z,zad] at np;cases np)];exact zad
  ·have hc:¬n%2=1:=by simpa using hc
   refine⟨bigr rfl,fun pl npl=>?_⟩;have s1:Same H (upd H pl (.lst [])):=Same.new npl;obtain⟨dx,d,hb,_⟩:=id (B.same s1).ins;refine⟨_,rfl,b,dx,_,rfl,hb,rfl,b,l,G,cs,past,rfl,B.same s1,fun pn nm npn hnp hns=>⟨_,rfl,⟨_,SqL.of zad⟩,?_⟩⟩;have nlp:pn≠pl:=fun z=>by rw[z,zad] at npn;cases npn
   have s2:Same H (upd (upd H pl (.lst [])) pn (.lst (nm.map V.str))):=s1.trans (Same.new npn);have hnl:nm.length<=8:=by
    have:=hnp.length_eq;rw[A3] at this;have:=B.good.len;omega
   refine zbE (zaj K pn (nm.map V.str)) (fun i σ Hx=>Same H Hx/\Hx pn=some (.lst (nm.map V.str))/\∃ws x3 x4,σ=[some (.ref b),some (.int n),some (.ref pl),x3,x4]/\Hx pl=some (.lst ws)/\ws.length<=i/\StepsR Hx ws (stepsOf (byNames cs (nm.take i)) n)) ⟨s2,zad,[],_,_,rfl,(by rw[zag nlp.symm];exact zad),Ac _,?_⟩ (fun i σ Hx _ h=>SqL.of h.2.1) ?_ ?_
   ·rw[O9];show StepsR _ [] (stepsOf [] n);rw[steps_nil hc];trivial
   ·rintro i x σ Hx hx⟨sx,hpn,ws,x3,x4,rfl,hpl,hwl,hst⟩;rw[Ad] at hx
    cases hk:nm[i]? with
    |none=>rw[hk] at hx;cases hx
    |some y=>
     rw[hk] at hx
     cases hx
     have hi:i<nm.length:=(Ag.mp hk).1;have hy:y∈cs.map (·.1):=hnp.mem_iff.mp (Bd hk)
     cases hts:cGet cs y with
     |none=>exact absurd hy (get_none.mp hts)
     |some ts=>
      have gts:GT ts:=(B.good.ok _ (zbM hts)).2;obtain⟨dx2,d2,hb2,_⟩:=id (B.same sx).ins;refine⟨_,rfl,b,dx2,_,rfl,hb2,rfl,_,rfl,b,l,G,cs,past,y,rfl,B.same sx,?_⟩;rw[hts];intro p3 np3;refine⟨p3,ts,rfl,SqL.of zad,zbF gts,by have:=zhg gts;omega,fun H4 s4=>?_⟩;have s34:Same Hx H4:=(Same.new np3).trans s4;have eN:byNames cs (nm.take (i+1))=byNames cs (nm.take i)++[(y,ts)]:=by
       rw[zaH hk,byNames_snoc hts]
      refine⟨_,rfl,_,rfl,_,_,rfl,rfl,rfl,_,rfl,?_⟩;refine ite2 (fun hz=>?_) (fun hz=>?_)
      ·have hz:E3 n (worth ts)=0:=by simpa using hz
       refine⟨_,rfl,.inl ⟨rfl,_,SqL.of (s34 _ _ hpl)⟩,_,rfl,_,rfl,_,rfl,_,_,rfl,rfl,_,_,rfl,rfl,⟨p2,by decide⟩,bigr rfl,fun t nt=>?_⟩;have s5:Same Hx (upd H4 t (.tup [.str y,.int ((n+worth ts) / 2)])):=s34.trans (Same.new nt);have nplt:t≠pl:=fun z=>by rw[z,s34 _ _ hpl] at nt;cases nt
       refine⟨pl,_,_,rfl,rfl,s5 _ _ hpl,Ak (by omega:ws.length<1000) zaS,?_⟩;refine⟨(sx.trans s5).put npl,(by rw[zag nlp];exact s5 _ _ hpn),_,_,_,rfl,zad,(by rw[Af,Bx];omega),?_⟩;rw[eN,zd8 hc,if_pos hz];refine StepsR.snoc ?_ (hst.mono fun q' xs hq'=>?_)
       ·rw[zag nplt];exact zad
       ·have:q'≠pl:=fun z=>by rw[z,hpl] at hq';cases hq'
        rw[zag this];exact s5 _ _ hq'
      ·have hz:¬E3 n (worth ts)=0:=by simpa using hz
       refine⟨sx.trans s34,s34 _ _ hpn,ws,_,_,rfl,s34 _ _ hpl,by omega,?_⟩;rw[eN,zd8 hc,if_neg hz,Ci];exact hst.mono fun q' xs hq'=>s34 _ _ hq'
   ·rintro σ Hx⟨sx,hpn,ws,x3,x4,rfl,hpl,hwl,hst⟩;rw[A3,Cc] at hst;refine⟨_,rfl,q pl Hx ws sx npl hpl fun nm' hp' hs'=>?_⟩;rw[strs_same (hp'.trans hnp.symm) hs' hns];exact hst
noncomputable def TabR(H:Hp)(ts:List V)(C:Combs):Prop:=ts.length=128/\∀s:Nat,s<128->∃q ws,ts[s]?=some (.ref q)/\H q=some (.lst ws)/\StepsR H ws (stp C s)
theorem TabR.same{H H':Hp}{ts:List V}{C:Combs}(t:TabR H ts C)(s:Same H H'):TabR H' ts C:=
 ⟨t.1,fun i h=>let ⟨q,ws,a,b,c⟩:=t.2 i h;⟨q,ws,a,s _ _ b,c.mono fun _ _ e=>s _ _ e⟩⟩
noncomputable def sp_table(C:A7):Sp:=fun vs H Q _=>∃b l G cs past,vs=[.ref b]/\Bk C G H b l cs past/\∀p H' ts,Same H H'->H p=none->H' p=some (.lst ts)->TabR H' ts (srt cs)->Q (.ref p) H'
theorem zcG:FnScope ["book"] ["book"] (defScope s_step_table):=⟨rfl,rfl,rfl,by decide+kernel,rfl,by decide+kernel,by decide+kernel⟩
theorem ok_table{ea:Nat->A7}{C:A7}(D:DefAt K mg "step_table" s_step_table)(T:Bn mg)(V_SHAPES:∃t,mg "SHAPES"=some (.int 128 t))(C_shape_steps:Callee1 P w K mg base "shape_steps" 3 ["book","shape"] (sp_steps ea C)):Callee1 P w K mg base "step_table" 4 ["book"] (sp_table C):=by
 refine D.callee1 zcG (fun _ _ _ _ _ _=>ln1 fun _=>rfl) (fun vs H Q E h=>?_) (fun f cdv A outer s H vs Q E hr h=>?_)
 ·obtain⟨b,l,G,cs,past,rfl,_⟩:=h;rfl
 ·obtain⟨b,l,G,cs,past,rfl,B,q⟩:=h;have S:=zcG;refine⟨_,zaf (zal (zaL (own:=["shape"]) (caps:=[(0,"book")]) rfl ⟨rfl,rfl,rfl,rfl,⟨⟨rfl,rfl,.inl rfl⟩,trivial⟩⟩ (zbs rfl T.n_range (zaa (zcb rfl V_SHAPES) zae)) (fun _ _ _ _ _ _=>zak (i:=0) (zaz (by decide+kernel)) rfl (Ao rfl)) (fun _ _ _ _ _ _=>za7) (fun _ _ _ _ _ _=>zcO C_shape_steps (hr.mono (by decide)) (by first|exact pass_try|exact zcm|exact za8) rfl (zaa (pv 1) (zaa (pv 0) zae))))),?_⟩;refine⟨_,rfl,by decide,by decide,fun D hD=>?_⟩;refine zhu (capv:=[some (.ref b)]) (by rfl) (zaP 0 (128:Int).toNat) (by rw[zbg];exact big (by decide)) hD (fun _ _=>trivial) (fun _=>true) (fun H i v=>∃(q:A7)(ws:List V),v= .ref q/\H q=some (.lst ws)/\StepsR H ws (stp (srt cs) i)) ?_ ?_ (fun i x hx H R s' h=>h H (Same.refl _)) ?_ ?_
  ·rintro H H' i v s'⟨qa,ws,e2,e3,e4⟩;exact⟨qa,ws,e2,s' _ _ e3,e4.mono fun _ _ e=>s' _ _ e⟩
  ·rintro H i v l' l'' hv hH⟨qa,ws,e2,e3,e4⟩;subst e2;have hne:qa≠D:=fun z=>hv (by rw[z]);refine⟨qa,ws,rfl,(by rw[zag hne];exact e3),e4.mono fun q' xs e=>?_⟩;rw[zag (fun z=>by rw[z,hH] at e;cases e)];exact e
  ·intro i x hx _ H' R s' hDn h;obtain⟨hi,rfl⟩:=zbr hx;rw[Iq];refine⟨_,rfl,_,rfl,b,l,G,cs,past,((i:Nat):Int),rfl,B.same s',?_⟩;rw[if_pos ⟨by omega,by have:i<128:=hi;omega⟩];intro p H2 ws s2 np hp st;exact h H2 _ s2 (fun z=>hDn (by injection z with z;rw[<-z];exact np)) ⟨p,ws,rfl,hp,st _ (zg2 cs) (nm_sorted cs)⟩
  ·intro H' ys s' hD' pr;rw[zbg,Bs.mpr (fun _ _=>rfl)] at pr;refine q _ H' ys s' hD hD' ⟨by rw[<-Bw pr,Am];rfl,fun i hi=>?_⟩;obtain⟨y,ey,_,qa,ws,rfl,e3,e4⟩:=Bv.at pr (Cn (show i<(128:Int).toNat from hi));exact⟨qa,ws,ey,e3,e4⟩
noncomputable def sp_leads:Sp:=fun vs H Q _=>∃(a r:A7)(ws:List V)(ps:List (Str×Int))(row:List Bool),vs=[.ref a,.ref r]/\H a=some (.lst ws)/\StepsR H ws ps/\ps.length<=1000/\(∀p∈ps,0<=p.2/\p.2.toNat<row.length)/\H r=some (.lst (row.map V.bl))/\∀H',Same H H'->Q (.bl (ps.any fun p=>tr row p.2.toNat)) H'
theorem zeN{row:List Bool}{t:Int}(h0:0<=t)(h:t.toNat<row.length):atI (row.map V.bl) t=some (.bl (tr row t.toNat)):=by
 refine zdZ h0 ?_;rw[Ad,A5 h];simp[tr,h]
theorem any_range{α:Type}(ps:List α)(f:α->Bool)(d:α):((A4 ps.length).map fun i=>f (ps.getD i d)).any (fun b=>b)=ps.any f:=by
 rw[Gq];rw[B7,Bf,Bf];constructor
 ·rintro⟨i,hi,h⟩;have hi:=Ay.mp hi;refine⟨ps[i],C8 hi,?_⟩;have h:f (ps.getD i d)=true:=h;simpa[hi] using h
 ·rintro⟨x,hx,h⟩;obtain⟨i,hi,rfl⟩:=Dv hx;exact⟨i,Ay.mpr hi,by show f (ps.getD i d)=true;simpa[hi] using h⟩
theorem zdz:FnScope ["steps","row"] ["steps","row"] (defScope s_leads_on):=⟨rfl,rfl,rfl,by decide+kernel,rfl,by decide+kernel,by decide+kernel⟩
theorem ok_leads(D:DefAt K mg "leads_on" s_leads_on)(T:Bn mg):Callee P w K mg base "leads_on" 1 ["steps","row"] sp_leads:=by
 refine D.callee zdz (fun _ _ _ _ _ _=>ln2 fun _ _=>rfl) (fun vs H Q E h=>?_) (fun f cdv A outer s H vs Q E hr h=>?_)
 ·obtain⟨a,r,ws,ps,row,rfl,_⟩:=h;rfl
 ·obtain⟨a,r,ws,ps,row,rfl,ha,st,hl,hlt,hrow,q⟩:=h;have S:=zdz;refine⟨_,zaf (zal (zai (zgn rfl) rfl T.n_any boot_any (zaa (zaL (own:=["step"]) (caps:=[(1,"row")]) rfl ⟨rfl,rfl,rfl,rfl,⟨⟨rfl,rfl,.inl rfl⟩,trivial⟩⟩ (zaw (pv 0)) (fun _ _ _ _ _ _=>zak (i:=0) (zaz (by decide+kernel)) rfl (Ao rfl)) (fun _ _ _ _ _ _=>za7) (fun _ _ _ _ _ _=>zar (zcj K rfl) (pv 1) (zar (zbT K rfl) (pv 0) (zab) (fun _ _=>rfl)) (fun _ _=>rfl))) zae))),?_⟩;have hlw:=st.length;refine⟨_,rfl,_,rfl,⟨_,SqL.of ha⟩,fun D hD=>?_⟩;refine zbK (capv:=[some (.ref r)]) (by rfl) (zaj K a ws) (big (by omega)) hD (fun H' s'=>SqL.of (s' _ _ ha)) (fun _=>true) (fun i=>.bl (tr row (ps.getD i ("",0)).2.toNat)) (fun _ _ _=>nofun) (fun i x hx H R s' h=>h H (Same.refl _)) ?_ ?_
  ·intro i x hx _ H' R s' h;have hi:i<ps.length:=by rw[<-hlw];exact(Ag.mp hx).1
   obtain⟨qa,e1,e2⟩:=st.get (A5 hi);rw[hx] at e1
   cases e1
   obtain⟨h0,h1⟩:=hlt ps[i] (C8 hi);refine⟨_,rfl,_,rfl,_,_,_,_,rfl,rfl,SqT.of (s' _ _ e2),at1,_,_,_,_,rfl,rfl,SqL.of (s' _ _ hrow),zeN h0 h1,?_⟩;have:=h H' (Same.refl _);simpa[hi] using this
  ·intro H' s' e;refine⟨_,(A4 ws.length).map fun i=>tr row (ps.getD i ("",0)).2.toNat,rfl,SqL.of ?_,?_⟩
   ·rw[e,Bs.mpr (fun _ _=>rfl),As];rfl
   ·have:=q H' s';rw[<-any_range ps _ ("",0)] at this;rw[hlw];exact this
noncomputable def sp_narrow:Sp:=fun vs H Q _=>∃(a r:A7)(ts:List V)(C:Combs)(row:List Bool),vs=[.ref a,.ref r]/\H a=some (.lst ts)/\TabR H ts C/\GC C/\C.length<=8/\H r=some (.lst (row.map V.bl))/\row.length=128/\∀p H',Same H H'->H p=none->H' p=some (.lst ((nxtRow C row).map V.bl))->Q (.ref p) H'
theorem zcH:FnScope ["table","row"] ["table","row"] (defScope s_narrow_row):=⟨rfl,rfl,rfl,by decide+kernel,rfl,by decide+kernel,by decide+kernel⟩
theorem ok_narrow(D:DefAt K mg "narrow_row" s_narrow_row)(T:Bn mg)(C_leads_on:Callee P w K mg base "leads_on" 1 ["steps","row"] sp_leads):Callee P w K mg base "narrow_row" 2 ["table","row"] sp_narrow:=by
 refine D.callee zcH (fun _ _ _ _ _ _=>ln2 fun _ _=>rfl) (fun vs H Q E h=>?_) (fun f cdv A outer s H vs Q E hr h=>?_)
 ·obtain⟨a,r,ts,C,row,rfl,_⟩:=h;rfl
 ·obtain⟨a,r,ts,C,row,rfl,ha,tb,gc,h8,hrow,hrl,q⟩:=h;have S:=zcH;refine⟨_,zaf (zal (zaL (own:=["steps"]) (caps:=[(1,"row")]) rfl ⟨rfl,rfl,rfl,rfl,⟨⟨rfl,rfl,.inl rfl⟩,trivial⟩⟩ (zaw (pv 0)) (fun _ _ _ _ _ _=>zak (i:=0) (zaz (by decide+kernel)) rfl (Ao rfl)) (fun _ _ _ _ _ _=>za7) (fun _ _ _ _ _ _=>zay C_leads_on (hr.mono (by decide)) rfl (zaa (pv 0) (zaa (pv 1) zae))))),?_⟩;refine⟨_,rfl,_,rfl,⟨_,SqL.of ha⟩,fun D hD=>?_⟩;refine zbK (capv:=[some (.ref r)]) (by rfl) (zaj K a ts) (by rw[tb.1];exact big (by decide)) hD (fun H' s'=>SqL.of (s' _ _ ha)) (fun _=>true) (fun i=>.bl ((stp C i).any fun p=>tr row p.2.toNat)) (fun _ _ _=>nofun) (fun i x hx H R s' h=>h H (Same.refl _)) ?_ ?_
  ·intro i x hx _ H' R s' h;have hi:i<128:=by rw[<-tb.1];exact(Ag.mp hx).1
   obtain⟨qa,ws,e1,e2,e3⟩:=(tb.same s').2 i hi;rw[hx] at e1
   cases e1
   exact⟨_,rfl,_,rfl,qa,r,ws,_,row,rfl,e2,e3,Bm (zcZ h8 i) (by decide),fun p hp=>by rw[hrl];exact zbN gc hi hp,s' _ _ hrow,fun H2 s2=>h H2 s2⟩
  ·intro H' s' e;refine q D H' s' hD ?_;rw[e,Bs.mpr (fun _ _=>rfl),tb.1];unfold nxtRow;rw[As];rfl
noncomputable def sp_first:Sp:=fun vs H Q _=>∃(a r:A7)(ws:List V)(ps:List (Str×Int))(row:List Bool)(p:Str×Int),vs=[.ref a,.ref r]/\H a=some (.lst ws)/\StepsR H ws ps/\ps.length<=1000/\(∀p∈ps,0<=p.2/\p.2.toNat<row.length)/\H r=some (.lst (row.map V.bl))/\ps.find? (fun p=>tr row p.2.toNat)=some p/\∀x H',Same H H'->H' x=some (.tup [.str p.1,.int p.2])->Q (.ref x) H'
theorem find_filter{α:Type}{ps:List α}{f:α->Bool}{p d:α}(h:ps.find? f=some p):∃i,((A4 ps.length).filter fun i=>f (ps.getD i d))[0]?=some i/\ps[i]?=some p:=by
 induction ps with
 |nil=>cases h
 |cons x ps ih=>
  rw[At,Ia,By];by_cases e:f x=true
  ·rw[Ly e] at h
   cases h
   exact⟨0,by rw[if_pos (by simpa using e)];rfl,rfl⟩
  ·rw[Lz e] at h;obtain⟨i,h1,h2⟩:=ih h;refine⟨i+1,?_,by simpa using h2⟩;rw[if_neg (by simpa using e),Dx,Ad];show(((A4 ps.length).filter fun i=>f (ps.getD i d))[0]?).map _=_;rw[h1];rfl
theorem zbq:FnScope ["steps","lasting"] ["steps","lasting"] (defScope s_first_lasting_step):=⟨rfl,rfl,rfl,by decide+kernel,rfl,by decide+kernel,by decide+kernel⟩
theorem ok_first(D:DefAt K mg "first_lasting_step" s_first_lasting_step)(T:Bn mg):Callee P w K mg base "first_lasting_step" 1 ["steps","lasting"] sp_first:=by
 refine D.callee zbq (fun _ _ _ _ _ _=>ln2 fun _ _=>rfl) (fun vs H Q E h=>?_) (fun f cdv A outer s H vs Q E hr h=>?_)
 ·obtain⟨a,r,ws,ps,row,p,rfl,_⟩:=h;rfl
 ·obtain⟨a,r,ws,ps,row,p,rfl,ha,st,hl,hlt,hrow,hf,q⟩:=h;have S:=zbq;refine⟨_,zaf (zal (zar zaA (zaL (own:=["step"]) (caps:=[(1,"lasting")]) rfl ⟨rfl,rfl,rfl,rfl,⟨⟨rfl,rfl,.inl rfl⟩,trivial⟩⟩ (zaw (pv 0)) (fun _ _ _ _ _ _=>zak (i:=0) (zaz (by decide+kernel)) rfl (Ao rfl)) (fun _ _ _ _ _ _=>zby (zaX (zar (zcj K rfl) (pv 1) (zar (zbT K rfl) (pv 0) (zab) (fun _ _=>rfl)) (fun _ _=>rfl)))) (fun _ _ _ _ _ _=>pv 0)) (zab) (fun _ _=>rfl))),?_⟩;have hlw:=st.length;refine⟨_,rfl,_,rfl,⟨_,SqL.of ha⟩,fun D hD=>?_⟩;have hne:∀i,i<ws.length->ws.getD i .non≠.ref D:=fun i hi z=>by
   obtain⟨qa,e1,e2⟩:=st.get (A5 (show i<ps.length by omega));rw[A8,e1] at z
   cases z
   rw[hD] at e2
   cases e2
  refine zbK (capv:=[some (.ref r)]) (by rfl) (zaj K a ws) (big (by omega)) hD (fun H' s'=>SqL.of (s' _ _ ha)) (fun i=>tr row (ps.getD i ("",0)).2.toNat) (fun i=>ws.getD i .non) (fun i hi _=>hne i hi) ?_ ?_ ?_
  ·intro i x hx H' R s' h;have hi:i<ps.length:=by rw[<-hlw];exact(Ag.mp hx).1
   obtain⟨qa,e1,e2⟩:=st.get (A5 hi);rw[hx] at e1
   cases e1
   obtain⟨h0,h1⟩:=hlt ps[i] (C8 hi);refine⟨_,rfl,_,rfl,_,_,_,_,rfl,rfl,SqT.of (s' _ _ e2),at1,_,_,_,_,rfl,rfl,SqL.of (s' _ _ hrow),zeN h0 h1,_,rfl,?_⟩;have:=h H' (Same.refl _);simpa[hi] using this
  ·intro i x hx _ H' R s' h;refine⟨_,rfl,?_⟩;have:=h H' (Same.refl _);rw[A8,hx] at this;exact this
  ·intro H' s' e;obtain⟨i,h1,h2⟩:=find_filter (d:=(("",0):Str×Int)) hf;rw[hlw] at e;obtain⟨qa,e1,e2⟩:=st.get h2;refine⟨_,_,_,_,rfl,rfl,SqL.of e,zaB (j:=0) ?_,q qa H' s' (s' _ _ e2)⟩;rw[Ad,h1,Cu,A8,e1];rfl
noncomputable def sp_rows:Sp:=fun vs H Q _=>∃(a:A7)(ts:List V)(C:Combs),vs=[.ref a]/\H a=some (.lst ts)/\TabR H ts C/\GC C/\C.length<=8/\∀p H' ws m,Same H H'->H p=none->H' p=some (.lst ws)->RowsR H' ws C m->nxtRow C (rowAt C m)=rowAt C m->m<=128->Q (.ref p) H'
theorem zbY:FnScope ["table","rows","narrowed"] ["table"] (defScope s_rows_going_on):=⟨rfl,rfl,rfl,by decide+kernel,rfl,by decide+kernel,by decide+kernel⟩
theorem ok_rows(D:DefAt K mg "rows_going_on" s_rows_going_on)(T:Bn mg)(C_narrow_row:Callee P w K mg base "narrow_row" 2 ["table","row"] sp_narrow):Callee P w K mg base "rows_going_on" 3 ["table"] sp_rows:=by
 refine D.callee zbY (fun _ _ _ _ _ _=>ln1 fun _=>rfl) (fun vs H Q E h=>?_) (fun f cdv A outer s H vs Q E hr h=>?_)
 ·obtain⟨a,ts,C,rfl,_⟩:=h;rfl
 ·obtain⟨a,ts,C,rfl,ha,tb,gc,h8,q⟩:=h;have S:=zbY;refine⟨_,zac (zan (i:=1) S.nd rfl (Ao rfl) (zaQ (zaa (zaL (own:=["steps"]) (caps:=[]) rfl ⟨rfl,rfl,rfl,rfl,trivial⟩ (zaw (pv 0)) (fun _ _ _ _ _ _=>zak (i:=0) (zaz (by decide+kernel)) rfl (Ao rfl)) (fun _ _ _ _ _ _=>za7) (fun _ _ _ _ _ _=>zbl)) zae)))
  (zac (zan (i:=2) S.nd rfl (Ao rfl) (zay C_narrow_row (hr.mono (by decide)) rfl (zaa (pv 0) (zaa (zar zaA (pv 1) (zd3 zco (zab)) (fun _ _=>rfl)) zae))))
  (zac (zch Bb (zao (zgZ hr.units) (pv 2) (zar zaA (pv 1) (zd3 zco (zab)) (fun _ _=>rfl)) (zat _))
   (zac (zaT (zcd B8 Bh Bg zaE (pv 1) (zaa (pv 2) zae)))
   (zaf (zan (i:=2) S.nd rfl (Ao rfl) (zay C_narrow_row (hr.mono (by decide)) rfl (zaa (pv 0) (zaa (zar zaA (pv 1) (zd3 zco (zab)) (fun _ _=>rfl)) zae)))))))
  (zaf (zal (pv 1))))),?_⟩
  refine⟨_,rfl,_,rfl,⟨_,SqL.of ha⟩,fun D hD=>?_⟩;refine zbK (capv:=[]) (by rfl) (zaj K a ts) (by rw[tb.1];exact big (by decide)) hD (fun H' s'=>SqL.of (s' _ _ ha)) (fun _=>true) (fun _=>.bl true) (fun _ _ _=>nofun) (fun i x hx H R s' h=>h H (Same.refl _)) (fun i x hx _ H R s' h=>h H (Same.refl _)) ?_;intro H1 s1 e1;have e1:H1 D=some (.lst ((rowAt C 0).map V.bl)):=by
   rw[e1,Bs.mpr (fun _ _=>rfl),tb.1];rfl
  refine⟨bigr rfl,fun p np=>?_⟩;have s2:Same H1 (upd H1 p (.lst [.ref D])):=Same.new np;have rr:RowsR (upd H1 p (.lst [.ref D])) [.ref D] C 0:=⟨rfl,fun i hi=>⟨D,by rw[show i=0 by omega];rfl,by rw[show i=0 by omega];exact s2 _ _ e1⟩⟩;have s02:=s1.trans s2;have np0:H p=none:=s1.free np;have hp2:upd H1 p (.lst [.ref D]) p=some (.lst [.ref D]):=zad;generalize upd H1 p (.lst [.ref D])=H2 at s2 rr s02 hp2;refine⟨_,rfl,_,rfl,_,rfl,_,_,_,_,rfl,rfl,SqL.of hp2,zdg rr.1 rfl,?_⟩;refine⟨a,D,ts,C,rowAt C 0,rfl,s02 _ _ ha,tb.same s02,gc,h8,s2 _ _ e1,zaN C 0,fun p3 H3 s3 np3 hp3=>?_⟩;refine⟨fun k σ Hx=>∃m ws qn,σ=[some (.ref a),some (.ref p),some (.ref qn)]/\Same H Hx/\Hx p=some (.lst ws)/\RowsR Hx ws C m/\(rowAt C m).count true+m<=128/\Hx qn=some (.lst ((rowAt C (m+1)).map V.bl))/\k=(rowAt C m).count true,⟨_,0,_,p3,rfl,s02.trans s3,s3 _ _ hp2,rr.same s3,?_,hp3,rfl⟩,?_⟩
  ·have:=Ms (a:=true) (l:=rowAt C 0);rw[zaN] at this;omega
  rintro k σ Hx⟨m,ws,qn,rfl,sx,hpx,rx,hcx,hqn,rfl⟩;obtain⟨ql,el1,el2⟩:=rx.2 m (Ac _);refine⟨_,rfl,_,rfl,_,rfl,_,_,_,_,rfl,rfl,SqL.of hpx,zdg rx.1 el1,_,_,zfJ hqn,zfJ el2,zc7 _,zc7 _,_,rfl,?_⟩;rw[if_pos rfl,eqv_bools];by_cases e:rowAt C (m+1)=rowAt C m
  ·rw[decide_eq_true e];refine iteF ?_;exact⟨_,rfl,q p Hx ws m sx np0 hpx rx e (by omega)⟩
  ·rw[decide_eq_false e];refine iteT ?_;have less:=row_less gc e;refine⟨fun σ' H'=>∃m',m'<(rowAt C m).count true/\∃mm ws qn,σ'=[some (.ref a),some (.ref p),some (.ref qn)]/\Same H H'/\H' p=some (.lst ws)/\RowsR H' ws C mm/\(rowAt C mm).count true+mm<=128/\H' qn=some (.lst ((rowAt C (mm+1)).map V.bl))/\m'=(rowAt C mm).count true,fun σ' H' h=>h,?_⟩;have hwl:=rx.1;refine⟨_,rfl,.inl ⟨rfl,_,SqL.of hpx⟩,_,rfl,p,ws,_,rfl,rfl,hpx,Ak (by omega:ws.length<1000) zaS,?_⟩;have rs:=rx.snoc hpx hqn;have sp:=sx.put (o:=.lst (ws++[.ref qn])) np0;have hp4:upd Hx p (.lst (ws++[.ref qn])) p=some (.lst (ws++[.ref qn])):=zad;generalize upd Hx p (.lst (ws++[.ref qn]))=H4 at rs sp hp4;obtain⟨ql',el1',el2'⟩:=rs.2 (m+1) (Ac _);refine⟨_,rfl,_,rfl,_,rfl,_,_,_,_,rfl,rfl,SqL.of hp4,zdg rs.1 el1',?_⟩;refine⟨a,ql',ts,C,rowAt C (m+1),rfl,sp _ _ ha,tb.same sp,gc,h8,el2',zaN C _,fun p5 H5 s5 np5 hp5=>?_⟩;exact⟨_,less,m+1,_,p5,rfl,sp.trans s5,s5 _ _ hp4,rs.same s5,by omega,hp5,rfl⟩
noncomputable def sp_walk:Sp:=fun vs H Q _=>∃(a r:A7)(ts:List V)(C:Combs)(row:List Bool)(s:Nat),vs=[.ref a,.ref r,.int (s:Int)]/\H a=some (.lst ts)/\TabR H ts C/\GC C/\C.length<=8/\H r=some (.lst (row.map V.bl))/\row.length=128/\nxtRow C row=row/\s<128/\tr row s=true/\
 ∀t ls pl start n ws H',Same H H'->start<n->n<=128->wk C row s n=wk C row s start->((A4 n).map (wk C row s)).Nodup->H' t=some (.tup [.int (start:Nat),.ref ls,.ref pl])->H' ls=some (.lst ((A4 n).map fun j=>V.int (wk C row s j:Nat)))->H' pl=some (.lst ws)->LaysR H' ws (wn C row s) n->Q (.ref t) H'
theorem zcF:FnScope ["table","lasting","shape","seen","layings","place","step"] ["table","lasting","shape"] (defScope s_walk_round):=⟨rfl,rfl,rfl,by decide+kernel,rfl,by decide+kernel,by decide+kernel⟩
theorem ok_walk(D:DefAt K mg "walk_round" s_walk_round)(T:Bn mg)(C_first_lasting_step:Callee P w K mg base "first_lasting_step" 1 ["steps","lasting"] sp_first):Callee P w K mg base "walk_round" 2 ["table","lasting","shape"] sp_walk:=by
 refine D.callee zcF (fun _ _ _ _ _ _=>ln3 fun _ _ _=>rfl) (fun vs H Q E h=>?_) (fun f cdv A outer s H vs Q E hr h=>?_)
 ·obtain⟨a,r,ts,C,row,s0,rfl,_⟩:=h;rfl
 ·obtain⟨a,r,ts,C,row,s0,rfl,ha,tb,gc,h8,hrow,hrl,hst,hs0,ht0,q⟩:=h;have S:=zcF;have hu:=zcS hr;have wok:=zgt gc hst hs0 ht0;refine⟨_,zac (zan (i:=3) S.nd rfl (Ao rfl) (zdj))
  (zac (zan (i:=4) S.nd rfl (Ao rfl) (zaQ (zae)))
  (zac (zch Bb (zef (zdI hu (pv 2) (pv 3)))
   (zac (zan (i:=5) S.nd rfl (Ao rfl) (zai zfm rfl T.n_len B6 (zaa (pv 3) zae)))
   (zac (zc2 hu (pv 3) (pv 2) (pv 5) rfl)
   (zac (zan (i:=6) S.nd rfl (Ao rfl) (zay C_first_lasting_step (hr.mono (by decide)) rfl (zaa (zar zaA (pv 0) (pv 2) (fun _ _=>rfl)) (zaa (pv 1) zae))))
   (zca (zaF (zao zdh (zar zav (pv 6) (zab) (fun _ _=>rfl)) (zaK) (zat _))
    (zaf (zaT (zcd B8 Bh Bg zaE (pv 4) (zaa (zba (zaa (pv 5) (zaa (zar zav (pv 6) (zab) (fun _ _=>rfl)) zae))) zae))))
    (zap))
   (zaf (zan (i:=2) S.nd rfl (Ao rfl) (zar zav (pv 6) (zab) (fun _ _=>rfl)))))))))
  (zaf (zal (zba (zaa (zdH hu (pv 3) (pv 2) (fun _ _=>rfl)) (zaa (zbh (call_listD rfl) rfl T.n_list Gn (zaa (pv 3) zae)) (zaa (pv 4) zae)))))))),?_⟩
  refine fun sd nsd=>⟨bigr rfl,fun pl npl=>?_⟩;have s1:Same H (upd H sd (.dK [])):=Same.new nsd;have npl0:H pl=none:=s1.free npl;have nps:pl≠sd:=fun z=>by rw[z,zad] at npl;cases npl
  have s2:Same H (upd (upd H sd (.dK [])) pl (.lst [])):=s1.trans (Same.new npl);refine⟨fun k σ Hx=>∃i ws x5 x6,σ=[some (.ref a),some (.ref r),some (.int (wk C row s0 i:Nat)),some (.ref sd),some (.ref pl),x5,x6]/\Same H Hx/\Hx sd=some (.dK (seenK (wk C row s0) i))/\Hx pl=some (.lst ws)/\LaysR Hx ws (wn C row s0) i/\((A4 i).map (wk C row s0)).Nodup/\k=128-i,⟨128,0,[],_,_,rfl,s2,(by rw[zag nps.symm];exact zad),zad,.nil,Dm,rfl⟩,?_⟩;rintro k σ Hx⟨i,ws,x5,x6,rfl,sx,hsd,hpl,lr,nd,rfl⟩;refine⟨_,rfl,_,rfl,sd,_,rfl,DGet.k (k:=Db _) hsd,_,rfl,?_⟩;rw[zdv];have h128:i<=128:=by
   have:=zaD 128 _ nd (fun x hx=>by obtain⟨j,_,rfl⟩:=Aa.mp hx;exact(wok j).1);rwa[A3,Am] at this
  cases ef:(A4 i).find? fun j=>decide (wk C row s0 j=wk C row s0 i) with
  |some j=>
   refine iteF ?_;have hj:j<i:=Ay.mp (Ek ef);have ej:wk C row s0 j=wk C row s0 i:=by have:=Ip ef;simpa using this
   have ev:valV (seenK (wk C row s0) i) (Db ((wk C row s0 i:Nat):Int))=some (.int (j:Int)):=by rw[zdv,ef];rfl
   have dg:DGet Hx sd (kV (Db ((wk C row s0 i:Nat):Int))) (some (.int (j:Int))):=by rw[<-ev];exact DGet.k hsd
   refine⟨_,rfl,_,rfl,sd,_,rfl,dg,_,rfl,sd,_,rfl,.inl hsd,fun ls nls=>?_⟩;have s3:Same Hx (upd Hx ls (.lst ((seenK (wk C row s0) i).map fun kv=>kV kv.1))):=Same.new nls;refine⟨_,rfl,bigr rfl,fun t nt=>?_⟩;refine q t ls pl j i ws _ ((sx.trans s3).trans (Same.new nt)) hj h128 ej.symm nd zad ?_ ?_ ?_
   ·rw[zag (zas (zad (H:=Hx) (a:=ls)) nt),zad];unfold seenK;rw[As];rfl
   ·exact Same.new nt _ _ (s3 _ _ hpl)
   ·exact lr.mono fun qa xs e=>Same.new nt _ _ (s3 _ _ e)
  |none=>
   refine iteT ?_;have hno:∀j,j<i->wk C row s0 j≠wk C row s0 i:=fun j hj=>by
    have:=Ha.mp ef j (Ay.mpr hj);simpa using this
   have nd':((A4 (i+1)).map (wk C row s0)).Nodup:=by
    rw[Cw,B1];refine Cy.mpr ⟨nd,by simp,fun x hx y hy=>?_⟩;obtain⟨j,hj,rfl⟩:=Aa.mp hx;rw[An,Fd,A9] at hy;rw[hy];exact hno j (Ay.mp hj)
   have h129:i+1<=128:=by
    have:=zaD 128 _ nd' (fun x hx=>by obtain⟨j,_,rfl⟩:=Aa.mp hx;exact(wok j).1);rwa[A3,Am] at this
   have ev:valV (seenK (wk C row s0) i) (Db ((wk C row s0 i:Nat):Int))=none:=by rw[zdv,ef];rfl
   refine⟨fun σ' H'=>∃m',m'<128-i/\∃i ws x5 x6,σ'=[some (.ref a),some (.ref r),some (.int (wk C row s0 i:Nat)),some (.ref sd),some (.ref pl),x5,x6]/\Same H H'/\H' sd=some (.dK (seenK (wk C row s0) i))/\H' pl=some (.lst ws)/\LaysR H' ws (wn C row s0) i/\((A4 i).map (wk C row s0)).Nodup/\m'=128-i,fun _ _ h=>h,?_⟩;refine⟨_,rfl,_,_,rfl,hsd,?_⟩;rw[zeW];refine⟨_,rfl,_,rfl,_,rfl,sd,_,rfl,DPut.k (k:=Db _) hsd ?_,?_⟩
   ·rw[zeW];exact Ak (by omega:i<1000) zaS
   rw[zew _ ev,<-seenK_succ];have s3:=sx.put (o:=.dK (seenK (wk C row s0) (i+1))) nsd;have hsd3:upd Hx sd (.dK (seenK (wk C row s0) (i+1))) sd=some (.dK (seenK (wk C row s0) (i+1))):=zad;have hpl3:upd Hx sd (.dK (seenK (wk C row s0) (i+1))) pl=some (.lst ws):=by rw[zag nps];exact hpl
   have lr3:LaysR (upd Hx sd (.dK (seenK (wk C row s0) (i+1)))) ws (wn C row s0) i:=lr.mono fun qa xs e=>by rw[zag (fun z=>by rw[z,hsd] at e;cases e)];exact e
   generalize upd Hx sd (.dK (seenK (wk C row s0) (i+1)))=H3 at s3 hsd3 hpl3 lr3;obtain⟨qs,wss,e1,e2,e3⟩:=(tb.same s3).2 _ (wok i).1;refine⟨_,rfl,_,rfl,_,_,_,_,rfl,rfl,SqL.of (s3 _ _ ha),zaB e1,_,rfl,?_⟩;refine⟨qs,r,wss,stp C (wk C row s0 i),row,_,rfl,e2,e3,Bm (zcZ h8 _) (by decide),fun p hp=>by rw[hrl];exact zbN gc (wok i).1 hp,s3 _ _ hrow,zgs gc hst hs0 ht0 i,fun x H4 s4 hx=>?_⟩;have s04:=s3.trans s4;refine⟨fun σ' H'=>∃ws,σ'=[some (.ref a),some (.ref r),some (.int (wk C row s0 i:Nat)),some (.ref sd),some (.ref pl),some (.int (i:Int)),some (.ref x)]/\Same H H'/\H' sd=some (.dK (seenK (wk C row s0) (i+1)))/\H' pl=some (.lst ws)/\LaysR H' ws (wn C row s0) (i+1)/\H' x=some (.tup [.str (wn C row s0 i),.int (wk C row s0 (i+1):Nat)]),?_,?_⟩
   ·refine⟨_,rfl,_,_,_,_,rfl,rfl,SqT.of hx,at0,rfl,_,rfl,?_⟩;by_cases e:wn C row s0 i=A2 ""
    ·rw[decide_eq_true (by rw[e])];refine iteF ?_;exact⟨ws,rfl,s04,s4 _ _ hsd3,s4 _ _ hpl3,(lr3.mono fun qa xs e=>s4 _ _ e).skip e,hx⟩
    ·rw[decide_eq_false (fun z=>e (by injection z))];refine iteT ?_;refine⟨_,rfl,.inl ⟨rfl,_,SqL.of (s4 _ _ hpl3)⟩,_,rfl,_,rfl,_,_,_,_,rfl,rfl,SqT.of hx,at0,bigr rfl,fun t nt=>?_⟩;have s5:Same H4 (upd H4 t (.tup [.int (i:Int),.str (wn C row s0 i)])):=Same.new nt;have hpl5:=s5 _ _ (s4 _ _ hpl3);have hsd5:=s5 _ _ (s4 _ _ hsd3);have hx5:=s5 _ _ hx;have lr5:=lr3.mono fun qa xs e=>s5 _ _ (s4 _ _ e);have ht5:upd H4 t (.tup [.int (i:Int),.str (wn C row s0 i)]) t=some (.tup [.int (i:Int),.str (wn C row s0 i)]):=zad;have s05:=s04.trans s5;generalize upd H4 t (.tup [.int (i:Int),.str (wn C row s0 i)])=H5 at hpl5 hsd5 hx5 lr5 ht5 s05;have hlen:=lr5.len;refine⟨pl,ws,_,rfl,rfl,hpl5,Ak (by omega:ws.length<1000) zaS,?_⟩;have ne:∀{qa:A7}{xs:List V},H5 qa=some (.tup xs)->qa≠pl:=fun e z=>by rw[z,hpl5] at e;cases e
     refine⟨ws++[.ref t],rfl,s05.put npl0,(by rw[zag nps.symm];exact hsd5),zad,?_,(by rw[zag (ne hx5)];exact hx5)⟩;exact(lr5.mono fun qa xs e=>by rw[zag (ne e)];exact e).snoc e (by rw[zag (ne ht5)];exact ht5)
   ·rintro σ' H5⟨ws',rfl,s5,hsd5,hpl5,lr5,hx5⟩;refine⟨_,rfl,_,_,_,_,rfl,rfl,SqT.of hx5,at1,?_⟩;exact⟨_,(by omega:128-(i+1)<128-i),i+1,ws',_,_,rfl,s5,hsd5,hpl5,lr5,nd',rfl⟩
noncomputable def sp_behind:Sp:=fun vs H Q _=>∃(a l:A7)(ts:List V)(C:Combs)(ns:List Nat),vs=[.ref a,.ref l]/\H a=some (.lst ts)/\TabR H ts C/\GC C/\C.length<=8/\H l=some (.lst (ns.map fun s=>V.int (s:Nat)))/\(∀s∈ns,s<128)/\ns.length<=128/\∀p H',Same H H'->H p=none->H' p=some (.lst ((behN C ns).map fun s=>V.int (s:Nat)))->Q (.ref p) H'
theorem zbX:FnScope ["table","shapes","reached","shape","step"] ["table","shapes"] (defScope s_shapes_behind):=⟨rfl,rfl,rfl,by decide+kernel,rfl,by decide+kernel,by decide+kernel⟩
theorem ok_behind(D:DefAt K mg "shapes_behind" s_shapes_behind)(T:Bn mg):Callee P w K mg base "shapes_behind" 1 ["table","shapes"] sp_behind:=by
 refine D.callee zbX (fun _ _ _ _ _ _=>ln2 fun _ _=>rfl) (fun vs H Q E h=>?_) (fun f cdv A outer s H vs Q E hr h=>?_)
 ·obtain⟨a,l,ts,C,ns,rfl,_⟩:=h;rfl
 ·obtain⟨a,l,ts,C,ns,rfl,ha,tb,gc,h8,hl,hlt,hnl,q⟩:=h;have S:=zbX;have hu:=zcS hr;refine⟨_,zac (zan (i:=2) S.nd rfl (Ao rfl) (zdj))
  (zac (za0 Bb rfl (zaw (pv 1)) (zak (i:=3) S.nd rfl (Ao rfl))
   (zaf (za0 Bb rfl (zaw (zar zaA (pv 0) (pv 3) (fun _ _=>rfl))) (zak (i:=4) S.nd rfl (Ao rfl))
    (zaf (zc2 hu (pv 2) (zar zav (pv 4) (zab) (fun _ _=>rfl)) (zbl) rfl)))))
  (zaf (zal (zai (call_sortedDI rfl) rfl T.n_sorted Hw (zaa (pv 2) zae))))),?_⟩
  refine fun d nd=>?_;have s1:Same H (upd H d (.dK [])):=Same.new nd;refine⟨_,rfl,_,rfl,⟨_,SqL.of (s1 _ _ hl)⟩,?_⟩;refine zbE (zaj K l _) (fun i σ Hx=>Same H Hx/\∃kvs rs x3 x4,σ=[some (.ref a),some (.ref l),some (.ref d),x3,x4]/\Hx d=some (.dK kvs)/\kvs.map (·.1)=rs.map Db/\rs.Nodup/\kvs.length<=8*i/\∀n:Int,n∈rs↔∃t∈ns.take i,∃p∈stp C t,p.2=n) ⟨s1,[],[],_,_,rfl,zad,rfl,Dm,Bz _,fun n=>by simp⟩ (fun i σ Hx _ h=>SqL.of (h.1 _ _ hl)) ?_ ?_
  ·rintro i x σ Hx hx⟨sx,kvs,rs,x3,x4,rfl,hd,hk,rn,hkl,hm⟩;rw[Ad] at hx
   cases ht:ns[i]? with
   |none=>rw[ht] at hx;cases hx
   |some t=>
    rw[ht] at hx
    cases hx
    have hti:i<ns.length:=(Ag.mp ht).1;have t128:=hlt t (Bd ht);obtain⟨qs,wss,e1,e2,e3⟩:=(tb.same sx).2 t t128;have hwl:=e3.length;have hw8:=zcZ h8 t;refine⟨_,rfl,_,rfl,_,_,_,_,rfl,rfl,SqL.of (sx _ _ ha),zaB e1,_,rfl,⟨_,SqL.of e2⟩,?_⟩;have ek:ns.take (i+1)=ns.take i++[t]:=zaH ht;refine zbE (zaj K qs wss) (fun j σ Hy=>Same Hx (upd Hy d (.dK kvs))/\Same H Hy/\(∀q o,q≠d->Hx q=some o->Hy q=some o)/\∃kvs' rs' x4,σ=[some (.ref a),some (.ref l),some (.ref d),some (.int (t:Nat)),x4]/\Hy d=some (.dK kvs')/\kvs'.map (·.1)=rs'.map Db/\rs'.Nodup/\kvs'.length<=8*i+j/\∀n:Int,n∈rs'↔(∃t∈ns.take i,∃p∈stp C t,p.2=n)\/∃p∈(stp C t).take j,p.2=n) ⟨?_,sx,fun _ _ _ e=>e,kvs,rs,_,rfl,hd,hk,rn,by omega,fun n=>by rw[hm];simp⟩ (fun j σ Hy _ h=>SqL.of (h.2.2.1 _ _ (fun z=>by rw[z,hd] at e2;cases e2) e2)) ?_ ?_
    ·intro q o e;by_cases z:q=d
     ·rw[z,zad,<-hd,<-z,e]
     ·rw[zag z];exact e
    ·rintro j y σ Hy hy⟨s0,sy,ky,kvs',rs',x4',rfl,hd',hk',rn',hkl',hm'⟩;have hj:j<(stp C t).length:=by rw[<-hwl];exact(Ag.mp hy).1
     obtain⟨qa,e4,e5⟩:=e3.get (A5 hj);rw[hy] at e4
     cases e4
     have e5':=ky _ _ (fun z=>by rw[z,hd] at e5;cases e5) e5;refine⟨_,rfl,_,rfl,_,_,_,_,rfl,rfl,SqT.of e5',at1,_,_,rfl,DPut.k (k:=Db _) hd' (Ak (by omega:kvs'.length<2000) (by decide)),?_⟩;refine⟨?_,sy.put nd,fun q o z e=>(by rw[zag z];exact ky q o z e),_,if(stp C t)[j].2∈rs' then rs' else rs'++[(stp C t)[j].2],_,rfl,zad,?_,?_,?_,?_⟩
     ·intro q o e;by_cases z:q=d
      ·rw[z,zad,<-hd,<-z,e]
      ·rw[zag z,zag z];exact ky q o z e
     ·rw[ze0,hk'];have:(Db (stp C t)[j].2:Key)∈rs'.map Db↔(stp C t)[j].2∈rs':=by
       rw[Aa];exact⟨fun⟨z,hz,e⟩=>by injection e with e;rwa[<-e],fun h=>⟨_,h,rfl⟩⟩
      by_cases z:(stp C t)[j].2∈rs'
      ·rw[if_pos (this.mpr z),if_pos z]
      ·rw[if_neg (fun h=>z (this.mp h)),if_neg z,B1];rfl
     ·split
      ·exact rn'
      ·rename_i z;refine Cy.mpr ⟨rn',by simp,fun u hu v hv e=>?_⟩;rw[A9.mp hv] at e;exact z (e▸hu)
     ·have:=zcy kvs' (Db (stp C t)[j].2:Key) (.bl true);omega
     ·intro n;rw[Cs hj];have:n∈(if(stp C t)[j].2∈rs' then rs' else rs'++[(stp C t)[j].2])↔n∈rs'\/(stp C t)[j].2=n:=by
       split
       ·rename_i z;exact⟨.inl,fun h=>h.elim id fun e=>e▸z⟩
       ·rw[Ap,A9];exact⟨fun h=>h.elim .inl fun e=>.inr e.symm,fun h=>h.elim .inl fun e=>.inr e.symm⟩
      rw[this,hm'];constructor
      ·rintro((h|⟨p,hp,e⟩)|e)
       ·exact .inl h
       ·exact .inr ⟨p,Ca _ hp,e⟩
       ·exact .inr ⟨_,Bl _ (A9.mpr rfl),e⟩
      ·rintro(h|⟨p,hp,e⟩)
       ·exact .inl (.inl h)
       ·rcases Ap.mp hp with z|z
        ·exact .inl (.inr ⟨p,z,e⟩)
        ·rw[A9.mp z] at e;exact .inr e
    ·rintro σ Hy⟨s0,sy,ky,kvs',rs',x4',rfl,hd',hk',rn',hkl',hm'⟩;refine⟨sy,kvs',rs',_,_,rfl,hd',hk',rn',by omega,fun n=>?_⟩;rw[hm',hwl,Cc,ek];constructor
     ·rintro(⟨t',ht',p,hp,e⟩|⟨p,hp,e⟩)
      ·exact⟨t',Ca _ ht',p,hp,e⟩
      ·exact⟨t,Bl _ (A9.mpr rfl),p,hp,e⟩
     ·rintro⟨t',ht',p,hp,e⟩;rcases Ap.mp ht' with z|z
      ·exact .inl ⟨t',z,p,hp,e⟩
      ·rw[A9.mp z] at hp;exact .inr ⟨p,hp,e⟩
  ·rintro σ Hx⟨sx,kvs,rs,x3,x4,rfl,hd,hk,rn,hkl,hm⟩;rw[A3] at hkl hm;rw[Cc] at hm;have pm:=beh_keys gc hlt rn hm;have hrl:rs.length<=128:=by
    rw[pm.length_eq,A3];exact zhy C ns
   refine⟨_,rfl,d,kvs,rs,rfl,.inl hd,hk,by omega,fun p ns' np pp pw=>?_⟩;have e:=zbx (pp.trans pm) pw (beh_sorted C ns);refine q p _ (sx.trans (Same.new np)) (sx.free np) ?_;rw[zad,e,As];rfl
theorem zeu{C:A7}{G:A7->Prop}{H:Hp}{b l:A7}{cs:Combs}{past:List Combs}(B:Bk C G H b l cs past):GC (srt cs)/\(srt cs).length<=8:=by
 have g:=B.good;have p:=zbQ g.nd;exact⟨fun c hc=>(g.ok c (p.mem_iff.mp hc)).2,by rw[p.length_eq];exact g.len⟩
noncomputable def sp_toend:Sp:=fun vs H Q _=>∃(a:A7)(ts:List V)(C:Combs)(m:Nat),vs=[.ref a]/\H a=some (.lst ts)/\TabR H ts C/\GC C/\C.length<=8/\tr (rowAt C m) 0=false/\m<=128/\∀p k ws H',Same H H'->H' p=some (.lst ws)->RowsN H' ws C k->rowN C k=[]->(∀j,j<k->rowN C j≠[])->k<=m->Q (.ref p) H'
theorem zbG:FnScope ["table","rows"] ["table"] (defScope s_rows_to_the_end):=⟨rfl,rfl,rfl,by decide+kernel,rfl,by decide+kernel,by decide+kernel⟩
theorem ok_toend(D:DefAt K mg "rows_to_the_end" s_rows_to_the_end)(T:Bn mg)(C_shapes_behind:Callee P w K mg base "shapes_behind" 1 ["table","shapes"] sp_behind):Callee P w K mg base "rows_to_the_end" 2 ["table"] sp_toend:=by
 refine D.callee zbG (fun _ _ _ _ _ _=>ln1 fun _=>rfl) (fun vs H Q E h=>?_) (fun f cdv A outer s H vs Q E hr h=>?_)
 ·obtain⟨a,ts,C,m,rfl,_⟩:=h;rfl
 ·obtain⟨a,ts,C,m,rfl,ha,tb,gc,h8,hz,hm,q⟩:=h;have S:=zbG;refine⟨_,zac (zan (i:=1) S.nd rfl (Ao rfl) (zaQ (zaa (zaQ (zaa (zab) zae)) zae)))
  (zac (zch Bb (zao zgq (zai zam rfl T.n_len B6 (zaa (zar zaA (pv 1) (zd3 zco (zab)) (fun _ _=>rfl)) zae)) (zab) (zat _))
   (zaf (zaT (zcd B8 Bh Bg zaE (pv 1) (zaa (zay C_shapes_behind (hr.mono (by decide)) rfl (zaa (pv 0) (zaa (zar zaA (pv 1) (zd3 zco (zab)) (fun _ _=>rfl)) zae))) zae)))))
  (zaf (zal (pv 1)))),?_⟩
  refine⟨bigr rfl,fun r0 nr0=>⟨bigr rfl,fun p np=>?_⟩⟩;have s1:Same H (upd H r0 (.lst [.int 0])):=Same.new nr0;have s2:Same (upd H r0 (.lst [.int 0])) (upd (upd H r0 (.lst [.int 0])) p (.lst [.ref r0])):=Same.new np;have np0:H p=none:=s1.free np;have rr:RowsN (upd (upd H r0 (.lst [.int 0])) p (.lst [.ref r0])) [.ref r0] C 0:=⟨rfl,fun i hi=>⟨r0,by rw[show i=0 by omega];rfl,by rw[show i=0 by omega];exact s2 _ _ zad⟩⟩;refine⟨fun k σ Hx=>∃i ws,σ=[some (.ref a),some (.ref p)]/\Same H Hx/\Hx p=some (.lst ws)/\RowsN Hx ws C i/\(∀j,j<i->rowN C j≠[])/\k=m-i,⟨_,0,_,rfl,s1.trans s2,zad,rr,fun j hj=>by omega,rfl⟩,?_⟩;rintro k σ Hx⟨i,ws,rfl,sx,hp,rx,hne,rfl⟩;obtain⟨ql,el1,el2⟩:=rx.2 i (Ac _);have him:i<=m:=by
   cases i with
   |zero=>omega
   |succ i=>have:=zf2 gc hz (hne i (by omega));omega
  refine⟨_,rfl,_,rfl,_,_,_,_,rfl,rfl,SqL.of hp,zdg rx.1 el1,_,_,rfl,.inl (SqL.of el2),_,_,rfl,rfl,_,rfl,?_⟩;rw[A3];by_cases e:rowN C i=[]
  ·rw[e,decide_eq_false (show¬(0:Int)<(([]:List Nat).length:Nat) by decide)];refine iteF ?_;exact⟨_,rfl,q p i ws Hx sx hp rx e hne him⟩
  ·have hpos:0<(rowN C i).length:=N2.mpr e;rw[decide_eq_true (show(0:Int)<((rowN C i).length:Nat) by omega)];refine iteT ?_;have hlt:=zf2 gc hz e;refine⟨fun σ' H'=>∃m',m'<m-i/\∃i ws,σ'=[some (.ref a),some (.ref p)]/\Same H H'/\H' p=some (.lst ws)/\RowsN H' ws C i/\(∀j,j<i->rowN C j≠[])/\m'=m-i,fun _ _ h=>h,?_⟩;refine⟨_,rfl,.inl ⟨rfl,_,SqL.of hp⟩,_,rfl,_,rfl,_,rfl,_,_,_,_,rfl,rfl,SqL.of hp,zdg rx.1 el1,?_⟩;refine⟨a,ql,ts,C,rowN C i,rfl,sx _ _ ha,tb.same sx,gc,h8,el2,(zdD C i).1,(zdD C i).2,fun p2 H2 s2 np2 hp2=>?_⟩;have hwl:=rx.1;refine⟨p,ws,_,rfl,rfl,s2 _ _ hp,Ak (by omega:ws.length<1000) zaS,?_⟩;refine⟨_,(by omega:m-(i+1)<m-i),i+1,_,rfl,(sx.trans s2).put np0,zad,(rx.same s2).snoc (s2 _ _ hp) hp2,fun j hj=>?_,rfl⟩;by_cases ej:j=i
   ·rw[ej];exact e
   ·exact hne j (by omega)
noncomputable def sp_fstrip:Sp:=fun vs H Q _=>∃(t ls pl:A7)(st n:Nat)(f:Nat->Nat)(ws:List V),vs=[.ref t]/\H t=some (.tup [.int (st:Nat),.ref ls,.ref pl])/\H ls=some (.lst ((A4 n).map fun j=>V.int (f j:Nat)))/\H pl=some (.lst ws)/\st<n/\n<=128/\
 ∀p H',Same H H'->H' p=some (.tup [.str (A2 "filled"),.int (st:Nat),.int ((n-st:Nat):Int),.ref pl])->Q (.ref p) H'
theorem at3s{x y z:V}:atI [x,y,z] 0=some x/\atI [x,y,z] 1=some y/\atI [x,y,z] 2=some z:=⟨show atI _ ((0:Nat):Int)=_ from zaB rfl,show atI _ ((1:Nat):Int)=_ from zaB rfl,show atI _ ((2:Nat):Int)=_ from zaB rfl⟩
theorem zb5:FnScope ["walk","start"] ["walk"] (defScope s_filled_strip):=⟨rfl,rfl,rfl,by decide+kernel,rfl,by decide+kernel,by decide+kernel⟩
theorem ok_fstrip(D:DefAt K mg "filled_strip" s_filled_strip)(T:Bn mg):Callee P w K mg base "filled_strip" 1 ["walk"] sp_fstrip:=by
 refine D.callee zb5 (fun _ _ _ _ _ _=>ln1 fun _=>rfl) (fun vs H Q E h=>?_) (fun f cdv A outer s H vs Q E hr h=>?_)
 ·obtain⟨t,ls,pl,st,n,f,ws,rfl,_⟩:=h;rfl
 ·obtain⟨t,ls,pl,st,n,fs,ws,rfl,ht,hls,hpl,hst,hn,q⟩:=h;have S:=zb5;refine⟨_,zac (zan (i:=1) S.nd rfl (Ao rfl) (zar zav (pv 0) (zab) (fun _ _=>rfl)))
  (zaf (zal (zba (zaa (zaK) (zaa (pv 1) (zaa (zax zcu (zai zam rfl T.n_len B6 (zaa (zar zav (pv 0) (zab) (fun _ _=>rfl)) zae)) (pv 1)) (zaa (zar zav (pv 0) (zab) (fun _ _=>rfl)) zae))))))),?_⟩
  refine⟨_,rfl,_,_,_,_,rfl,rfl,SqT.of ht,at3s.1,?_⟩;refine⟨_,rfl,_,rfl,_,_,_,_,rfl,rfl,SqT.of ht,at3s.2.1,_,_,rfl,.inl (SqL.of hls),_,rfl,_,_,rfl,rfl,_,rfl,_,_,_,_,rfl,rfl,SqT.of ht,at3s.2.2,bigr rfl,fun p np=>?_⟩;refine q p _ (Same.new np) ?_;rw[zad,A3,Am];show some (HO.tup [V.str (A2 "filled"),V.int (st:Nat),V.int (((n:Nat):Int)-((st:Nat):Int)),V.ref pl])=_;rw[show((n:Nat):Int)-((st:Nat):Int)=((n-st:Nat):Int) by omega]
noncomputable def StripD(C:Combs)(m start n:Nat):Prop:=nxtRow C (rowAt C m)=rowAt C m/\tr (rowAt C m) 0=true/\start<n/\n<=128/\wk C (rowAt C m) 0 n=wk C (rowAt C m) 0 start/\((A4 n).map (wk C (rowAt C m) 0)).Nodup
noncomputable def StripR(H:Hp)(t:A7)(C:Combs):Prop:=
 (∃m start n pl ws,StripD C m start n/\H t=some (.tup [.str (A2 "filled"),.int (start:Nat),.int ((n-start:Nat):Int),.ref pl])/\H pl=some (.lst ws)/\LaysR H ws (wn C (rowAt C m) 0) n)\/
 (∃m k pr ws,nxtRow C (rowAt C m)=rowAt C m/\tr (rowAt C m) 0=false/\rowN C k=[]/\(∀j,j<k->rowN C j≠[])/\k<=128/\H t=some (.tup [.str (A2 "stuck"),.int (((k+1:Nat):Int)-2),.ref pr])/\H pr=some (.lst ws)/\RowsN H ws C k)
theorem StripR.same{H H':Hp}{t:A7}{C:Combs}(h:StripR H t C)(s:Same H H'):StripR H' t C:=by
 rcases h with⟨m,st,n,pl,ws,a,b,c,d⟩|⟨m,k,pr,ws,a,b,c,d,e,f,g,i⟩
 ·exact .inl ⟨m,st,n,pl,ws,a,s _ _ b,s _ _ c,d.mono fun _ _ z=>s _ _ z⟩
 ·exact .inr ⟨m,k,pr,ws,a,b,c,d,e,s _ _ f,s _ _ g,i.same s⟩
noncomputable def sp_strip(C:A7):Sp:=fun vs H Q _=>∃b l G cs past,vs=[.ref b]/\Bk C G H b l cs past/\∀t H',Same H H'->StripR H' t (srt cs)->Q (.ref t) H'
theorem zcI:FnScope ["book","table","lasting","rows"] ["book"] (defScope s_fill_strip):=⟨rfl,rfl,rfl,by decide+kernel,rfl,by decide+kernel,by decide+kernel⟩
theorem ok_strip{C:A7}(D:DefAt K mg "fill_strip" s_fill_strip)(T:Bn mg)(C_step_table:Callee1 P w K mg base "step_table" 4 ["book"] (sp_table C))(C_rows_going_on:Callee P w K mg base "rows_going_on" 3 ["table"] sp_rows)(C_walk_round:Callee P w K mg base "walk_round" 2 ["table","lasting","shape"] sp_walk)
  (C_filled_strip:Callee P w K mg base "filled_strip" 1 ["walk"] sp_fstrip) (C_rows_to_the_end:Callee P w K mg base "rows_to_the_end" 2 ["table"] sp_toend):Callee1 P w K mg base "fill_strip" 5 ["book"] (sp_strip C):=by
 refine D.callee1 zcI (fun _ _ _ _ _ _=>ln1 fun _=>rfl) (fun vs H Q E h=>?_) (fun f cdv A outer s H vs Q E hr h=>?_)
 ·obtain⟨b,l,G,cs,past,rfl,_⟩:=h;rfl
 ·obtain⟨b,l,G,cs,past,rfl,B,q⟩:=h;have S:=zcI;have hu:=zcS hr;obtain⟨gc,h8⟩:=zeu B;refine⟨_,zac (zan (i:=1) S.nd rfl (Ao rfl) (zcO C_step_table (hr.mono (by decide)) (by first|exact pass_try|exact zcm|exact za8) rfl (zaa (pv 0) zae)))
  (zac (zan (i:=2) S.nd rfl (Ao rfl) (zar zaA (zay C_rows_going_on (hr.mono (by decide)) rfl (zaa (pv 1) zae)) (zd3 zco (zab)) (fun _ _=>rfl)))
  (zac (zaF (zaX (zar zaA (pv 2) (zab) (fun _ _=>rfl)))
   (zaf (zal (zay C_filled_strip (hr.mono (by decide)) rfl (zaa (zay C_walk_round (hr.mono (by decide)) rfl (zaa (pv 1) (zaa (pv 2) (zaa (zab) zae)))) zae))))
   (zap))
  (zac (zan (i:=3) S.nd rfl (Ao rfl) (zay C_rows_to_the_end (hr.mono (by decide)) rfl (zaa (pv 1) zae)))
  (zaf (zal (zba (zaa (zaK) (zaa (zax zcu (zai zam rfl T.n_len B6 (zaa (pv 3) zae)) (zab)) (zaa (pv 3) zae))))))))),?_⟩
  refine⟨_,rfl,b,l,G,cs,past,rfl,B,fun a H1 ts s1 na ha tb=>?_⟩;refine⟨_,rfl,a,ts,srt cs,rfl,ha,tb,gc,h8,fun p H2 ws m s2 np hp rr hfix hm=>?_⟩;obtain⟨ql,el1,el2⟩:=rr.2 m (Ac _);refine⟨_,rfl,_,_,_,_,rfl,rfl,SqL.of hp,zdg rr.1 el1,?_⟩;refine⟨_,rfl,_,_,_,_,rfl,rfl,SqL.of el2,zeN (t:=0) (by decide) (by rw[zaN];decide),_,rfl,?_⟩;show if tr (rowAt (srt cs) m) 0=true then _ else _
  refine ite2 (fun ht=>?_) (fun ht=>?_)
  ·refine⟨_,rfl,_,rfl,a,ql,ts,srt cs,rowAt (srt cs) m,0,rfl,s2 _ _ ha,tb.same s2,gc,h8,el2,zaN _ _,hfix,by decide,ht,fun t ls pl st n wl H3 s3 hst hn hw nd ht3 hls hpl lr=>?_⟩;refine⟨t,ls,pl,st,n,_,wl,rfl,ht3,hls,hpl,hst,hn,fun p4 H4 s4 hp4=>?_⟩;exact q p4 H4 (((s1.trans s2).trans s3).trans s4) (.inl ⟨m,st,n,pl,wl,⟨hfix,ht,hst,hn,hw,nd⟩,hp4,s4 _ _ hpl,lr.mono fun _ _ e=>s4 _ _ e⟩)
  ·have ht:tr (rowAt (srt cs) m) 0=false:=by simpa using ht
   refine⟨_,rfl,a,ts,srt cs,m,rfl,s2 _ _ ha,tb.same s2,gc,h8,ht,hm,fun p3 k wr H3 s3 hp3 rn e1 e2 e3=>?_⟩;refine⟨_,rfl,_,_,rfl,.inl (SqL.of hp3),_,_,rfl,rfl,_,rfl,bigr rfl,fun t nt=>?_⟩;have s4:Same H3 (upd H3 t (.tup [.str (A2 "stuck"),.int (((wr.length:Nat):Int)-2),.ref p3])):=Same.new nt;refine q t _ (((s1.trans s2).trans s3).trans s4) (.inr ⟨m,k,p3,wr,hfix,ht,e1,e2,by omega,?_,s4 _ _ hp3,rn.same s4⟩);rw[zad,rn.1]
noncomputable def LineR(H:Hp)(t:A7)(C:Combs):Prop:=
 (∃sp f nm ps pl ws,LineD C sp f nm/\H t=some (.tup [.str (A2 "filled"),.int (sp:Nat),.ref ps,.ref pl])/\H ps=some (.lst ((A4 sp).map fun k=>V.int (f k:Nat)))/\H pl=some (.lst ws)/\LaysR H ws nm sp)\/
 (∃m pc,StuckD C m/\m<=128/\H t=some (.tup [.str (A2 "stuck"),.ref pc])/\H pc=some (.lst ((A4 128).map fun s=>V.int ((cntD C m s:Nat)-1))))
theorem LineR.same{H H':Hp}{t:A7}{C:Combs}(h:LineR H t C)(s:Same H H'):LineR H' t C:=by
 rcases h with⟨sp,f,nm,ps,pl,ws,a,b,c,d,e⟩|⟨m,pc,a,b,c,d⟩
 ·exact .inl ⟨sp,f,nm,ps,pl,ws,a,s _ _ b,s _ _ c,s _ _ d,e.mono fun _ _ z=>s _ _ z⟩
 ·exact .inr ⟨m,pc,a,b,s _ _ c,s _ _ d⟩
theorem at3{x y z:V}:atI [x,y,z] 0=some x/\atI [x,y,z] 1=some y/\atI [x,y,z] 2=some z:=⟨show atI _ ((0:Nat):Int)=_ from zaB rfl,show atI _ ((1:Nat):Int)=_ from zaB rfl,show atI _ ((2:Nat):Int)=_ from zaB rfl⟩
noncomputable def sp_filled:Sp:=fun vs H Q _=>∃(t ls pl:A7)(st n:Nat)(f:Nat->Nat)(nm:Nat->Str)(ws:List V),vs=[.ref t]/\H t=some (.tup [.int (st:Nat),.ref ls,.ref pl])/\H ls=some (.lst ((A4 n).map fun j=>V.int (f j:Nat)))/\H pl=some (.lst ws)/\LaysR H ws nm n/\st<n/\n<=128/\
 ∀p ps pq ws' H',Same H H'->H' p=some (.tup [.str (A2 "filled"),.int ((n-st:Nat):Int),.ref ps,.ref pq])->H' ps=some (.lst ((A4 (n-st)).map fun k=>V.int (f (st+k):Nat)))->H' pq=some (.lst ws')->LaysR H' ws' (fun k=>nm (st+k)) (n-st)->Q (.ref p) H'
theorem cut_from{n st:Nat}(h:st<=n)(g:Nat->V):cutV ((A4 n).map g) (some (st:Int)) none=(A4 (n-st)).map fun k=>g (st+k):=by
 unfold cutV;rw[A3,Am,HT.sIx_nat,HT.sIx_none,Ir h];have e:A4 n=A4 st++(A4 (n-st)).map fun k=>st+k:=by
  rw[<-Fp];congr 1;omega
 rw[e,B1,List.drop_append_of_le_length (by simp),List.drop_eq_nil_of_le (by simp),Gh,As];refine D8 ?_;simp
theorem zct:FnScope ["walk","start","shapes","layings"] ["walk"] (defScope s_filled_line):=⟨rfl,rfl,rfl,by decide+kernel,rfl,by decide+kernel,by decide+kernel⟩
theorem ok_filled(D:DefAt K mg "filled_line" s_filled_line)(T:Bn mg):Callee P w K mg base "filled_line" 1 ["walk"] sp_filled:=by
 refine D.callee zct (fun _ _ _ _ _ _=>ln1 fun _=>rfl) (fun vs H Q E h=>?_) (fun f cdv A outer s H vs Q E hr h=>?_)
 ·obtain⟨t,ls,pl,st,n,f,nm,ws,rfl,_⟩:=h;rfl
 ·obtain⟨t,ls,pl,st,n,fs,nm,ws,rfl,ht,hls,hpl,lr,hst,hn,q⟩:=h;have S:=zct;refine⟨_,zac (zan (i:=1) S.nd rfl (G6 rfl) (zar zav (pv 0) (zab) (fun _ _=>rfl)))
  (zac (zan (i:=2) S.nd rfl (Ao rfl) (zf6 zgE (zar zav (pv 0) (zab) (fun _ _=>rfl)) (zgT (pv 1)) (zgU)))
  (zac (zey (i:=3) S.nd rfl (Ao rfl) (own:=["laying"]) (caps:=[(1,"start")]) rfl ⟨rfl,rfl,rfl,rfl,⟨⟨rfl,rfl,.inl rfl⟩,trivial⟩⟩ (zaw (zar zav (pv 0) (zab) (fun _ _=>rfl))) (fun _ _ _ _ _ _=>zak (i:=0) (zaz (by decide+kernel)) rfl (Ao rfl)) (fun _ _ _ _ _ _=>zby (zao zeA (zar (zbT K rfl) (pv 0) (zab) (fun _ _=>rfl)) (pv 1) (zat _))) (fun _ _ _ _ _ _=>zba (zaa (zax zcu (zar (zbT K rfl) (pv 0) (zab) (fun _ _=>rfl)) (pv 1)) (zaa (zar (zbT K rfl) (pv 0) (zab) (fun _ _=>rfl)) zae))))
  (zaf (zal (zba (zaa (zaK) (zaa (zai zam rfl T.n_len B6 (zaa (pv 2) zae)) (zaa (pv 2) (zaa (pv 3) zae))))))))),?_⟩
  refine⟨_,rfl,_,_,_,_,rfl,rfl,SqT.of ht,at3.1,?_⟩;refine⟨_,rfl,_,_,_,_,rfl,rfl,SqT.of ht,at3.2.1,_,rfl,_,rfl,_,_,rfl,SqL.of hls,fun ps nps=>?_⟩;rw[cut_from (by omega)];have s1:Same H (upd H ps (.lst ((A4 (n-st)).map fun k=>V.int (fs (st+k):Nat)))):=Same.new nps;have hps:upd H ps (.lst ((A4 (n-st)).map fun k=>V.int (fs (st+k):Nat))) ps=some (.lst ((A4 (n-st)).map fun k=>V.int (fs (st+k):Nat))):=zad;generalize upd H ps (.lst ((A4 (n-st)).map fun k=>V.int (fs (st+k):Nat)))=H1 at s1 hps;have lr1:=lr.mono fun _ _ e=>s1 _ _ e;refine⟨_,rfl,_,_,_,_,rfl,rfl,SqT.of (s1 _ _ ht),at3.2.2,_,rfl,⟨_,SqL.of (s1 _ _ hpl)⟩,fun D hD=>?_⟩;have hlen:=lr.len;have hll:=Bw lr;refine zhu (capv:=[some (.int (st:Nat))]) (by rfl) (zaj K pl ws) (big (by omega)) hD (fun H' s'=>SqL.of (s' _ _ (s1 _ _ hpl))) (fun i=>decide (st<=((A4 n).filter fun j=>decide (nm j≠A2 "")).getD i 0)) (fun H i v=>∃qa,v= .ref qa/\H qa=some (.tup [.int ((((A4 n).filter fun j=>decide (nm j≠A2 "")).getD i 0:Nat)-(st:Nat):Int),.str (nm (((A4 n).filter fun j=>decide (nm j≠A2 "")).getD i 0))])) ?_ ?_ ?_ ?_ ?_
  ·rintro H2 H3 i v s'⟨qa,e1,e2⟩;exact⟨qa,e1,s' _ _ e2⟩
  ·rintro H2 i v l' l'' hv hH⟨qa,e1,e2⟩;exact⟨qa,e1,by rw[zag (fun z=>by rw[z,hH] at e2;cases e2)];exact e2⟩
  ·intro i x hx H2 R s' h;have hi:i<((A4 n).filter fun j=>decide (nm j≠A2 "")).length:=by rw[hll];exact(Ag.mp hx).1
   obtain⟨y,ey,qa,rfl,e2⟩:=Bv.at lr1 (A5 hi);rw[hx] at ey
   cases ey
   refine⟨_,rfl,_,_,_,_,rfl,rfl,SqT.of (s' _ _ e2),at0,_,rfl,_,_,rfl,rfl,_,rfl,?_⟩;have:=h H2 (Same.refl _);rw[A8,A5 hi,Dn] at this;have e3:(decide ((st:Int)<=((((A4 n).filter fun j=>decide (nm j≠A2 ""))[i]:Nat):Int)))=decide (st<=((A4 n).filter fun j=>decide (nm j≠A2 ""))[i]):=by
    rw[decide_eq_decide];omega
   rw[<-e3] at this;exact this
  ·intro i x hx _ H2 R s' hDn h;have hi:i<((A4 n).filter fun j=>decide (nm j≠A2 "")).length:=by rw[hll];exact(Ag.mp hx).1
   obtain⟨y,ey,qa,rfl,e2⟩:=Bv.at lr1 (A5 hi);rw[hx] at ey
   cases ey
   refine⟨_,rfl,_,_,_,_,rfl,rfl,SqT.of (s' _ _ e2),at0,_,rfl,_,_,rfl,rfl,_,rfl,_,_,_,_,rfl,rfl,SqT.of (s' _ _ e2),at1,bigr rfl,fun t' nt'=>?_⟩;refine h _ _ (Same.new nt') (fun z=>hDn (by injection z with z;rw[<-z];exact nt')) ⟨t',rfl,?_⟩;rw[zad,A8,A5 hi,Dn]
  ·intro H2 ys s2 hD2 pr;refine⟨_,rfl,_,_,rfl,.inl (SqL.of (s2 _ _ hps)),_,rfl,_,rfl,bigr rfl,fun p np=>?_⟩;have s3:Same H2 (upd H2 p (.tup [.str (A2 "filled"),.int (((A4 (n-st)).map fun k=>V.int (fs (st+k):Nat)).length:Nat),.ref ps,.ref D])):=Same.new np;refine q p ps D ys _ ((s1.trans s2).trans s3) (by rw[zad,A3,Am]) (s3 _ _ (s2 _ _ hps)) (s3 _ _ hD2) ?_;unfold LaysR;have rc:=range_cut n st (by omega) (fun j=>decide (nm j≠A2 ""));show Bv _ ((A4 (n-st)).filter fun k=>decide (nm (st+k)≠A2 "")) ys;rw[<-rc,<-zc4 ((A4 n).filter fun j=>decide (nm j≠A2 "")) (fun j=>decide (st<=j)) 0,As,hll];have:∀{l:List Nat}{m:List V},Bv (fun i y=>y≠V.ref D/\∃qa,y= .ref qa/\H2 qa=some (.tup [.int ((((A4 n).filter fun j=>decide (nm j≠A2 "")).getD i 0:Nat)-(st:Nat):Int),.str (nm (((A4 n).filter fun j=>decide (nm j≠A2 "")).getD i 0))])) l m->(∀i∈l,st<=((A4 n).filter fun j=>decide (nm j≠A2 "")).getD i 0)->
     Bv (fun(j:Nat)(v:V)=>∃qa,v= .ref qa/\upd H2 p (.tup [.str (A2 "filled"),.int (((A4 (n-st)).map fun k=>V.int (fs (st+k):Nat)).length:Nat),.ref ps,.ref D]) qa=some (.tup [.int (j:Int),.str (nm (st+j))])) (l.map ((fun j=>j-st)∘fun i=>((A4 n).filter fun j=>decide (nm j≠A2 "")).getD i 0)) m:=by
    intro l m q'
    induction q' with
    |nil=>intro _;exact .nil
    |@cons i y l m hh _ ih=>
     intro hall;obtain⟨_,qa,e1,e2⟩:=hh;have hge:=hall i Aj;refine .cons ⟨qa,e1,?_⟩ (ih fun j hj=>hall j (Ab _ hj));rw[s3 _ _ e2];show _=some (HO.tup [V.int ((((A4 n).filter fun j=>decide (nm j≠A2 "")).getD i 0-st:Nat):Int),V.str (nm (st+(((A4 n).filter fun j=>decide (nm j≠A2 "")).getD i 0-st)))]);rw[show st+(((A4 n).filter fun j=>decide (nm j≠A2 "")).getD i 0-st)=((A4 n).filter fun j=>decide (nm j≠A2 "")).getD i 0 by omega,Int.ofNat_sub hge]
   exact this pr fun i hi=>of_decide_eq_true (Aq.mp hi).2
noncomputable def sp_places:Sp:=fun vs H Q _=>∃(p:A7)(ws:List V)(C:Combs)(m s:Nat),vs=[.ref p,.int (s:Nat)]/\H p=some (.lst ws)/\RowsR H ws C m/\m<=128/\s<128/\∀H',Same H H'->Q (.int ((cntD C m s:Nat)-1)) H'
theorem zcs:FnScope ["rows","shape"] ["rows","shape"] (defScope s_places_from):=⟨rfl,rfl,rfl,by decide+kernel,rfl,by decide+kernel,by decide+kernel⟩
theorem ok_places(D:DefAt K mg "places_from" s_places_from)(T:Bn mg):Callee P w K mg base "places_from" 1 ["rows","shape"] sp_places:=by
 refine D.callee zcs (fun _ _ _ _ _ _=>ln2 fun _ _=>rfl) (fun vs H Q E h=>?_) (fun f cdv A outer s H vs Q E hr h=>?_)
 ·obtain⟨p,ws,C,m,s,rfl,_⟩:=h;rfl
 ·obtain⟨p,ws,C,m,s0,rfl,hp,rr,hm,hs,q⟩:=h;have S:=zcs;refine⟨_,zaf (zal (zax zcu (zai zam rfl T.n_len B6 (zaa (zaL (own:=["row"]) (caps:=[(1,"shape")]) rfl ⟨rfl,rfl,rfl,rfl,⟨⟨rfl,rfl,.inl rfl⟩,trivial⟩⟩ (zaw (pv 0)) (fun _ _ _ _ _ _=>zak (i:=0) (zaz (by decide+kernel)) rfl (Ao rfl)) (fun _ _ _ _ _ _=>zby (zaX (zar (zcj K rfl) (pv 0) (pv 1) (fun _ _=>rfl)))) (fun _ _ _ _ _ _=>pv 0)) zae)) (zab))),?_⟩;refine⟨_,rfl,_,rfl,⟨_,SqL.of hp⟩,fun D hD=>?_⟩;have hl:=rr.1;refine zbK (capv:=[some (.int (s0:Nat))]) (by rfl) (zaj K p ws) (big (by omega)) hD (fun H' s'=>SqL.of (s' _ _ hp)) (fun i=>tr (rowAt C i) s0) (fun i=>ws.getD i .non) ?_ ?_ ?_ ?_
  ·intro i hi _ z;obtain⟨qa,e1,e2⟩:=rr.2 i (by omega);rw[A8,e1] at z
   cases z
   rw[hD] at e2
   cases e2
  ·intro i x hx H' R s' h;have hi:=(Ag.mp hx).1;obtain⟨qa,e1,e2⟩:=rr.2 i (by omega);rw[hx] at e1
   cases e1
   exact⟨_,rfl,_,rfl,_,_,_,_,rfl,rfl,SqL.of (s' _ _ e2),zeN (t:=((s0:Nat):Int)) (by omega) (by rw[zaN];exact hs),_,rfl,h H' (Same.refl _)⟩
  ·intro i x hx _ H' R s' h;refine⟨_,rfl,?_⟩;have:=h H' (Same.refl _);rw[A8,hx] at this;exact this
  ·intro H' s' e;refine⟨_,_,rfl,.inl (SqL.of e),_,_,rfl,rfl,?_⟩;have:=q H' s';unfold cntD at this;rw[A3,hl];exact this
noncomputable def sp_fline(C:A7):Sp:=fun vs H Q _=>∃b l G cs past,vs=[.ref b]/\Bk C G H b l cs past/\∀t H',Same H H'->LineR H' t (srt cs)->Q (.ref t) H'
theorem srt_gc{C:A7}{G:A7->Prop}{H:Hp}{b l:A7}{cs:Combs}{past:List Combs}(B:Bk C G H b l cs past):GC (srt cs)/\(srt cs).length<=8:=by
 have g:=B.good;have p:=zbQ g.nd;exact⟨fun c hc=>(g.ok c (p.mem_iff.mp hc)).2,by rw[p.length_eq];exact g.len⟩
theorem zem:∀{bs:List Bool},true∈bs->∃j:Nat,bs[j]?=some true/\∀m:Nat,m<j->bs[m]?=some false
 |[],h=>by cases h
 |true::bs,_=>⟨0,rfl,fun m h=>by omega⟩
 |false::bs,h=>by
  obtain⟨j,h1,h2⟩:=zem (bs:=bs) (by simpa using h);refine⟨j+1,by simpa using h1,fun m hm=>?_⟩
  cases m with
  |zero=>rfl
  |succ m=>simpa using h2 m (by omega)
theorem in_bools(bs:List Bool):inV (V.bl true) (bs.map V.bl)=decide (true∈bs):=by
 unfold inV;rw[Gq,B7,Bf,decide_eq_true_eq];constructor
 ·rintro⟨x,hx,e⟩
  cases x with
  |true=>exact hx
  |false=>exact absurd e (by decide)
 ·intro h;exact⟨true,h,rfl⟩
theorem flat_bools(bs:List Bool):(bs.map V.bl).all flatV=true:=by
 rw[Gr,Da];intro x _;rfl
theorem zdb:FnScope ["book","table","rows","lasting"] ["book"] (defScope s_fill_line):=⟨rfl,rfl,rfl,by decide+kernel,rfl,by decide+kernel,by decide+kernel⟩
theorem ok_fline{C:A7}(D:DefAt K mg "fill_line" s_fill_line)(T:Bn mg)(V_SHAPES:∃t,mg "SHAPES"=some (.int 128 t))(C_step_table:Callee1 P w K mg base "step_table" 4 ["book"] (sp_table C))(C_rows_going_on:Callee P w K mg base "rows_going_on" 3 ["table"] sp_rows)(C_walk_round:Callee P w K mg base "walk_round" 2 ["table","lasting","shape"] sp_walk)
  (C_filled_line:Callee P w K mg base "filled_line" 1 ["walk"] sp_filled) (C_places_from:Callee P w K mg base "places_from" 1 ["rows","shape"] sp_places):Callee1 P w K mg base "fill_line" 5 ["book"] (sp_fline C):=by
 refine D.callee1 zdb (fun _ _ _ _ _ _=>ln1 fun _=>rfl) (fun vs H Q E h=>?_) (fun f cdv A outer s H vs Q E hr h=>?_)
 ·obtain⟨b,l,G,cs,past,rfl,_⟩:=h;rfl
 ·obtain⟨b,l,G,cs,past,rfl,B,q⟩:=h;have S:=zdb;have hu:=zcS hr;obtain⟨gc,h8⟩:=srt_gc B;refine⟨_,zac (zan (i:=1) S.nd rfl (Ao rfl) (zcO C_step_table (hr.mono (by decide)) (by first|exact pass_try|exact zcm|exact za8) rfl (zaa (pv 0) zae)))
  (zac (zan (i:=2) S.nd rfl (G6 rfl) (zay C_rows_going_on (hr.mono (by decide)) rfl (zaa (pv 1) zae)))
  (zac (zan (i:=3) S.nd rfl (Ao rfl) (zar zaA (pv 2) (zd3 zco (zab)) (fun _ _=>rfl)))
  (zac (zaF (zao zdK (zbl) (pv 3) (by with_unfolding_all rfl))
   (zaf (zal (zay C_filled_line (hr.mono (by decide)) rfl (zaa (zay C_walk_round (hr.mono (by decide)) rfl (zaa (pv 1) (zaa (pv 3) (zaa (zcd B8 PySem.F.slot_list_index PySem.F.type_list_index mt_indexB (pv 3) (zaa (zbl) zae)) zae)))) zae))))
   (zap))
  (zaf (zal (zba (zaa (zaK) (zaa (zaL (own:=["shape"]) (caps:=[(2,"rows")]) rfl ⟨rfl,rfl,rfl,rfl,⟨⟨rfl,rfl,.inl rfl⟩,trivial⟩⟩ (zbs rfl T.n_range (zaa (zcb rfl V_SHAPES) zae)) (fun _ _ _ _ _ _=>zak (i:=0) (zaz (by decide+kernel)) rfl (Ao rfl)) (fun _ _ _ _ _ _=>za7) (fun _ _ _ _ _ _=>zay C_places_from (hr.mono (by decide)) rfl (zaa (pv 1) (zaa (pv 0) zae)))) zae)))))))),?_⟩
  refine⟨_,rfl,b,l,G,cs,past,rfl,B,fun a H1 ts s1 na ha tb=>?_⟩;refine⟨_,rfl,a,ts,srt cs,rfl,ha,tb,gc,h8,fun p H2 ws m s2 np hp rr hfix hm=>?_⟩;obtain⟨ql,el1,el2⟩:=rr.2 m (Ac _);refine⟨_,rfl,_,rfl,_,_,_,_,rfl,rfl,SqL.of hp,zdg rr.1 el1,?_⟩;refine⟨_,rfl,_,_,rfl,.inl (SqL.of el2),rfl,flat_bools _,_,rfl,?_⟩;rw[if_neg (by decide),in_bools];refine ite2 (fun ht=>?_) (fun ht=>?_)
  ·have ht:true∈rowAt (srt cs) m:=by simpa using ht
   obtain⟨j,hj,hno⟩:=zem ht;have hjl:j<128:=by rw[<-zaN (srt cs) m];exact(Ag.mp hj).1
   have htr:tr (rowAt (srt cs) m) j=true:=by unfold tr;rw[A8,hj];rfl
   refine⟨_,rfl,_,rfl,_,rfl,.inl ⟨rfl,_,SqL.of el2⟩,ql,rowAt (srt cs) m,j,rfl,rfl,el2,by rw[zaN];decide,hj,hno,?_⟩;refine⟨a,ql,ts,srt cs,rowAt (srt cs) m,j,rfl,s2 _ _ ha,tb.same s2,gc,h8,el2,zaN _ _,hfix,hjl,htr,fun t ls pl st n wl H3 s3 hst hn hw nd ht3 hls hpl lr=>?_⟩;refine⟨t,ls,pl,st,n,_,_,wl,rfl,ht3,hls,hpl,lr,hst,hn,fun p4 ps pq ws' H4 s4 hp4 hps hpq lr4=>?_⟩;refine q p4 H4 (((s1.trans s2).trans s3).trans s4) (.inl ⟨n-st,_,_,ps,pq,ws',⟨m,j,st,n,hfix,hjl,htr,fun i hi=>?_,hst,hn,hw,nd,rfl,rfl,rfl⟩,hp4,hps,hpq,lr4⟩);unfold tr;rw[A8,hno i hi];rfl
  ·have ht:¬true∈rowAt (srt cs) m:=by simpa using ht
   refine⟨_,rfl,by decide,by decide,fun D hD=>?_⟩;refine zbK (capv:=[some (.ref p)]) (by rfl) (zaP 0 (128:Int).toNat) (by rw[zbg];exact big (by decide)) hD (fun _ _=>trivial) (fun _=>true) (fun i=>.int ((cntD (srt cs) m i:Nat)-1)) (fun _ _ _=>nofun) (fun i x hx H R s' h=>h H (Same.refl _)) ?_ ?_
   ·intro i x hx _ H' R s' h;obtain⟨hi,rfl⟩:=zbr hx;rw[Iq];exact⟨_,rfl,_,rfl,p,ws,srt cs,m,i,rfl,s' _ _ hp,rr.same s',hm,hi,fun H3 s3=>h H3 s3⟩
   ·intro H' s' e;refine⟨bigr rfl,fun t nt=>?_⟩;have s4:Same H' (upd H' t (.tup [.str (A2 "stuck"),.ref D])):=Same.new nt;refine q t _ (((s1.trans s2).trans s').trans s4) (.inr ⟨m,D,⟨hfix,fun s hs=>?_⟩,hm,zad,?_⟩)
    ·cases et:tr (rowAt (srt cs) m) s with
     |false=>rfl
     |true=>
      exfalso;apply ht;unfold tr at et;rw[A8] at et
      cases ez:(rowAt (srt cs) m)[s]? with
      |none=>rw[ez] at et;cases et
      |some z=>
       rw[ez] at et;have:z=true:=et;exact this▸Bd ez
    ·rw[s4 _ _ e,Bs.mpr (fun _ _=>rfl),zbg];rfl
noncomputable def wrow(A:Nat->Nat):List V:=(A4 128).map fun s=>V.int ((A s:Nat):Int)
theorem zgr(A:Nat->Nat){s:Nat}(h:s<128):atI (wrow A) ((s:Nat):Int)=some (.int ((A s:Nat):Int)):=by
 refine zaB ?_;unfold wrow;rw[Ad,Cn h];rfl
theorem wrow_len(A:Nat->Nat):(wrow A).length=128:=by unfold wrow;rw[A3,Am]
noncomputable def sp_behindw:Sp:=fun vs H Q _=>∃(st a b:A7)(x:Str)(p:Str×Int)(A B:Nat->Nat),vs=[.ref st,.ref a,.ref b,.str x]/\H st=some (.tup [.str p.1,.int p.2])/\0<=p.2/\p.2.toNat<128/\H a=some (.lst (wrow A))/\H b=some (.lst (wrow B))/\Q (.int ((bh x A B p:Nat):Int)) H
theorem zcp:FnScope ["step","ways","wanted","name","row"] ["step","ways","wanted","name"] (defScope s_ways_behind):=⟨rfl,rfl,rfl,by decide+kernel,rfl,by decide+kernel,by decide+kernel⟩
theorem ok_behindw(D:DefAt K mg "ways_behind" s_ways_behind)(T:Bn mg):Callee P w K mg base "ways_behind" 1 ["step","ways","wanted","name"] sp_behindw:=by
 refine D.callee zcp (fun _ _ _ _ _ _=>ln4 fun _ _ _ _=>rfl) (fun vs H Q E h=>?_) (fun f cdv A outer s H vs Q E hr h=>?_)
 ·obtain⟨st,a,b,x,p,A',B',rfl,_⟩:=h;rfl
 ·obtain⟨st,a,b,x,⟨p1,p2⟩,A',B',rfl,hst,h0,h1,ha,hb,q⟩:=h;have S:=zcp;dsimp only at hst h0 h1;refine⟨_,zca (zan (i:=4) S.nd rfl (Ao rfl) (pe_ifExp (zao zcn (zar zav (pv 0) (zab) (fun _ _=>rfl)) (pv 3) (zat _)) (pv 1) (pv 2)))
  (zaf (zal (zar zaA (pv 4) (zar zav (pv 0) (zab) (fun _ _=>rfl)) (fun _ _=>rfl)))),?_⟩
  have e2:p2=((p2.toNat:Nat):Int):=by omega
  refine⟨fun σ Hx=>Hx=H/\∃(r:A7),H r=some (.lst (wrow (if p1=x then A' else B')))/\σ=[some (.ref st),some (.ref a),some (.ref b),some (.str x),some (.ref r)],?_,?_⟩
  ·refine⟨_,rfl,_,_,_,_,rfl,rfl,SqT.of hst,at0,_,rfl,rfl,_,rfl,?_⟩;by_cases e:p1=x
   ·rw[decide_eq_true (by rw[e])];refine iteT ?_;exact⟨_,rfl,rfl,a,by rw[if_pos e];exact ha,rfl⟩
   ·rw[decide_eq_false (fun z=>e (by injection z))];refine iteF ?_;exact⟨_,rfl,rfl,b,by rw[if_neg e];exact hb,rfl⟩
  rintro σ Hx⟨rfl,r,hr',rfl⟩;refine⟨_,rfl,_,rfl,_,_,_,_,rfl,rfl,SqT.of hst,at1,_,_,_,_,rfl,rfl,SqL.of hr',by rw[e2];exact zgr _ h1,?_⟩;have e3:(if p1=x then A' else B') p2.toNat=bh x A' B' (p1,p2):=by
   unfold bh;dsimp only
   split<;>rfl
  rw[e3];exact q
noncomputable def sp_from:Sp:=fun vs H Q _=>∃(l a b:A7)(x:Str)(ws:List V)(ps:List (Str×Int))(A B:Nat->Nat),vs=[.ref l,.ref a,.ref b,.str x]/\H l=some (.lst ws)/\StepsR H ws ps/\ps.length<=100/\(∀p∈ps,0<=p.2/\p.2.toNat<128)/\H a=some (.lst (wrow A))/\H b=some (.lst (wrow B))/\∀H',Same H H'->Q (.int (((ps.map (bh x A B)).sum:Nat):Int)) H'
theorem sum_cast(l:List Nat):(l.map fun(n:Nat)=>(n:Int)).sum=((l.sum:Nat):Int):=by
 induction l with
 |nil=>rfl
 |cons a l ih=>rw[An,Dk,Dk,ih];omega
theorem zc8:FnScope ["steps","ways","wanted","name"] ["steps","ways","wanted","name"] (defScope s_ways_from):=⟨rfl,rfl,rfl,by decide+kernel,rfl,by decide+kernel,by decide+kernel⟩
theorem ok_from(D:DefAt K mg "ways_from" s_ways_from)(T:Bn mg)(C_ways_behind:Callee P w K mg base "ways_behind" 1 ["step","ways","wanted","name"] sp_behindw):Callee P w K mg base "ways_from" 2 ["steps","ways","wanted","name"] sp_from:=by
 refine D.callee zc8 (fun _ _ _ _ _ _=>ln4 fun _ _ _ _=>rfl) (fun vs H Q E h=>?_) (fun f cdv A outer s H vs Q E hr h=>?_)
 ·obtain⟨l,a,b,x,ws,ps,A',B',rfl,_⟩:=h;rfl
 ·obtain⟨l,a,b,x,ws,ps,A',B',rfl,hl,sr,hpl,hps,ha,hb,q⟩:=h;have S:=zc8;have hwl:=sr.length;refine⟨_,zaf (zal (zai (zfj rfl) rfl T.n_sum boot_sum (zaa (zaL (own:=["step"]) (caps:=[(1,"ways"),(2,"wanted"),(3,"name")]) rfl ⟨rfl,rfl,rfl,rfl,⟨⟨rfl,rfl,.inl rfl⟩,⟨rfl,rfl,.inl rfl⟩,⟨rfl,rfl,.inl rfl⟩,trivial⟩⟩ (zaw (pv 0)) (fun _ _ _ _ _ _=>zak (i:=0) (zaz (by decide+kernel)) rfl (Ao rfl)) (fun _ _ _ _ _ _=>za7) (fun _ _ _ _ _ _=>zay C_ways_behind (hr.mono (by decide)) rfl (zaa (pv 0) (zaa (pv 1) (zaa (pv 2) (zaa (pv 3) zae)))))) zae))),?_⟩;refine⟨_,rfl,_,rfl,⟨_,SqL.of hl⟩,fun D hD=>?_⟩;refine zbK (capv:=[some (.ref a),some (.ref b),some (.str x)]) (by rfl) (zaj K l ws) (big (by omega)) hD (fun H' s'=>SqL.of (s' _ _ hl)) (fun _=>true) (fun u=>V.int ((bh x A' B' (ps.getD u ("",0)):Nat):Int)) (fun _ _ _=>nofun) (fun u y hy H' R s' h=>h H' (Same.refl _)) ?_ ?_
  ·intro u y hy _ H' R s' h;have hu:u<ps.length:=by rw[<-hwl];exact(Ag.mp hy).1
   obtain⟨qa,e4,e5⟩:=sr.get (A5 hu);rw[hy] at e4
   cases e4
   have hm:=hps _ (C8 hu);refine⟨_,rfl,_,rfl,_,rfl,_,rfl,qa,a,b,x,ps[u],A',B',rfl,s' _ _ e5,hm.1,hm.2,s' _ _ ha,s' _ _ hb,?_⟩;have:=h H' (Same.refl _);rw[A8,A5 hu] at this;exact this
  intro H1 s1 e1;refine⟨D,ps.map fun p=>((bh x A' B' p:Nat):Int),rfl,SqL.of ?_,?_⟩
  ·rw[e1,Bs.mpr (fun _ _=>rfl),hwl,As];congr 2;refine Ft fun u=>?_;rw[Ad,Ad];by_cases z:u<ps.length
   ·rw[Cn z,A5 z,Cu,Cu,A8,A5 z];rfl
   ·rw[Cm (by rw[Am];omega),Cm (by omega)];rfl
  have e2:(ps.map fun p=>((bh x A' B' p:Nat):Int)).sum=(((ps.map (bh x A' B')).sum:Nat):Int):=by
   rw[<-sum_cast,As];rfl
  rw[e2];exact q H1 s1
noncomputable def WaysR(N:A7->Prop)(H:Hp)(ws:List V)(A:Nat->Nat->Nat)(n:Nat):Prop:=ws.length=n+1/\∀k:Nat,k<=n->∃q,ws[k]?=some (.ref q)/\N q/\H q=some (.lst (wrow (A k)))
theorem WaysR.mono{N N':A7->Prop}{H H':Hp}{ws:List V}{A:Nat->Nat->Nat}{n:Nat}(r:WaysR N H ws A n)(hn:∀q,N q->N' q)(m:∀q o,N q->H q=some o->H' q=some o):WaysR N' H' ws A n:=⟨r.1,fun k hk=>let ⟨q,a,b,c⟩:=r.2 k hk;⟨q,a,hn q b,m _ _ b c⟩⟩
theorem WaysR.snoc{N:A7->Prop}{H:Hp}{ws:List V}{A:Nat->Nat->Nat}{n:Nat}{q:A7}(r:WaysR N H ws A n)(hq:H q=some (.lst (wrow (A (n+1)))))(hn:N q):WaysR N H (ws++[.ref q]) A (n+1):=by
 refine⟨by rw[Af,r.1];rfl,fun k hk=>?_⟩;by_cases e:k=n+1
 ·subst e;exact⟨q,by rw[Cb (by rw[r.1];exact Ac _),r.1,G0];rfl,hn,hq⟩
 ·obtain⟨q',a,b,c⟩:=r.2 k (by omega);exact⟨q',by rw[Co (by rw[r.1];omega)];exact a,b,c⟩
noncomputable def sp_close:Sp:=fun vs H Q _=>∃(a:A7)(ts:List V)(C:Combs)(n:Nat),vs=[.ref a,.int (n:Nat)]/\H a=some (.lst ts)/\TabR H ts C/\GC C/\C.length<=8/\n<=200/\∀(r:A7)(ws:List V)(H':Hp),Same H H'->H' r=some (.lst ws)->WaysR (fun _=>True) H' ws (Wy C) n->Q (.ref r) H'
theorem zbW:FnScope ["table","length","rows","passed"] ["table","length"] (defScope s_ways_to_close):=⟨rfl,rfl,rfl,by decide+kernel,rfl,by decide+kernel,by decide+kernel⟩
theorem ok_close(D:DefAt K mg "ways_to_close" s_ways_to_close)(T:Bn mg)(C_ways_from:Callee P w K mg base "ways_from" 2 ["steps","ways","wanted","name"] sp_from):Callee P w K mg base "ways_to_close" 3 ["table","length"] sp_close:=by
 refine D.callee zbW (fun _ _ _ _ _ _=>ln2 fun _ _=>rfl) (fun vs H Q E h=>?_) (fun f cdv A outer s H vs Q E hr h=>?_)
 ·obtain⟨a,ts,C,n,rfl,_⟩:=h;rfl
 ·obtain⟨a,ts,C,n,rfl,ha,tb,gc,h8,hn,q⟩:=h;have S:=zbW;have htl:=tb.1;refine⟨_,zac (zan (i:=2) S.nd rfl (G6 rfl) (zaQ (zaa (zaL (own:=["steps"]) (caps:=[]) rfl ⟨rfl,rfl,rfl,rfl,trivial⟩ (zaw (pv 0)) (fun _ _ _ _ _ _=>zak (i:=0) (zaz (by decide+kernel)) rfl (Ao rfl)) (fun _ _ _ _ _ _=>za7) (fun _ _ _ _ _ _=>zab)) zae)))
  (zac (zgS (zab) (zhL (zar zaA (pv 2) (zab) (fun _ _=>rfl)) (zab) zfS))
  (zac (za0 Bb rfl (zbs rfl T.n_range (zaa (pv 1) zae)) (zak (i:=3) S.nd rfl (Ao rfl))
   (zaf (zaT (zcd B8 Bh Bg zaE (pv 2) (zaa (zaL (own:=["steps"]) (caps:=[(2,"rows")]) rfl ⟨rfl,rfl,rfl,rfl,⟨⟨rfl,rfl,.inl rfl⟩,trivial⟩⟩ (zaw (pv 0)) (fun _ _ _ _ _ _=>zak (i:=0) (zaz (by decide+kernel)) rfl (Ao rfl)) (fun _ _ _ _ _ _=>za7) (fun _ _ _ _ _ _=>zay C_ways_from (hr.mono (by decide)) rfl (zaa (pv 0) (zaa (zar (zcj K rfl) (pv 1) (zd3 zco (zab)) (fun _ _=>rfl)) (zaa (zar (zcj K rfl) (pv 1) (zd3 zco (zab)) (fun _ _=>rfl)) (zaa (zaK) zae)))))) zae)))))
  (zaf (zal (pv 2))))),?_⟩
  refine⟨_,rfl,_,rfl,⟨_,SqL.of ha⟩,fun D hD=>?_⟩;refine zcv (capv:=[]) (by rfl) (zaj K a ts) (big (by omega)) hD (fun H' s'=>SqL.of (s' _ _ ha)) (fun _=>true) (fun _=>V.int 0) (fun x hx H' R s' h=>h H' (Same.refl _)) (fun x hx _ H' R s' h=>h H' (Same.refl _)) ?_;intro H1 s1 e1;have e1':H1 D=some (.lst ((A4 128).map fun _=>V.int 0)):=by
   rw[e1,Bs.mpr (fun _ _=>rfl)];congr 2;refine List.ext_getElem (by rw[A3,A3,Am];omega) fun i h1 h2=>?_;rw[Nx,Nx]
  refine⟨bigr rfl,fun r nr=>?_⟩;have s2:Same H1 (upd H1 r (.lst [.ref D])):=Same.new nr;have hr2:upd H1 r (.lst [.ref D]) r=some (.lst [.ref D]):=zad;have hD2:=s2 _ _ e1';have hDr:D≠r:=fun z=>by rw[<-z,e1'] at nr;cases nr
  have s12:=s1.trans s2;have nr0:=s1.free nr;generalize upd H1 r (.lst [.ref D])=H2 at s12 hr2 hD2⊢;have hix:ixN ((A4 128).map fun _=>V.int 0).length 0=some 0:=by rw[A3,Am];decide
  refine⟨_,rfl,_,_,_,_,rfl,rfl,SqL.of hr2,(show atI [V.ref D] ((0:Nat):Int)=_ from zaB rfl),D,_,_,_,rfl,rfl,hD2,hix,?_⟩;have ew:((A4 128).map fun _=>V.int 0).set 0 (V.int 1)=wrow (Wy C 0):=by
   unfold wrow;rw[zg5 _ _ (by decide)];refine Be fun s _=>?_;show _=V.int (((if s=0 then 1 else 0:Nat)):Int)
   split<;>rfl
  rw[ew];have hDn0:H D=none:=hD;have s3:Same H (upd H2 D (.lst (wrow (Wy C 0)))):=s12.put hDn0;have hD3:upd H2 D (.lst (wrow (Wy C 0))) D=some (.lst (wrow (Wy C 0))):=zad;have hr3:upd H2 D (.lst (wrow (Wy C 0))) r=some (.lst [.ref D]):=by rw[zag hDr.symm];exact hr2
  generalize upd H2 D (.lst (wrow (Wy C 0)))=H3 at s3 hD3 hr3⊢;refine⟨_,rfl,_,rfl,by omega,by omega,?_⟩;refine zbE (zaP 0 ((n:Nat):Int).toNat) (fun i σ Hx=>Same H Hx/\∃(ws:List V)(x3:Option V),σ=[some (.ref a),some (.int (n:Nat)),some (.ref r),x3]/\Hx r=some (.lst ws)/\WaysR (fun z=>z≠r) Hx ws (Wy C) i) ⟨s3,[.ref D],_,rfl,hr3,rfl,fun k hk=>by
    have:k=0:=by omega
    subst this;exact⟨D,rfl,hDr,hD3⟩⟩ (fun _ _ _ _ _=>trivial) ?_ ?_
  ·rintro i x σ Hx hx⟨sx,ws,x3,rfl,hrx,wr⟩;obtain⟨hi,rfl⟩:=zbr hx;have hi':i<n:=by omega
   obtain⟨qk,eqk,_,hqk⟩:=wr.2 i (Ac _);have hat:atI ws (-1)=some (.ref qk):=zdg wr.1 eqk;refine⟨_,rfl,.inl ⟨rfl,_,SqL.of hrx⟩,_,rfl,_,rfl,⟨_,SqL.of (sx _ _ ha)⟩,fun D2 hD2=>?_⟩;refine zbK (capv:=[some (.ref r)]) (by rfl) (zaj K a ts) (big (by omega)) hD2 (fun H' s'=>SqL.of (s' _ _ (sx _ _ ha))) (fun _=>true) (fun s=>V.int ((Wy C (i+1) s:Nat):Int)) (fun _ _ _=>nofun) (fun u y hy H' R s' h=>h H' (Same.refl _)) ?_ ?_
   ·intro u y hy _ H' R s' h;have hu:u<128:=by rw[<-htl];exact(Ag.mp hy).1
    obtain⟨qs,wss,e1,e2,e3⟩:=(tb.same (sx.trans s')).2 u hu;rw[hy] at e1
    cases e1
    refine⟨_,rfl,_,rfl,_,rfl,_,_,_,_,rfl,rfl,SqL.of (s' _ _ hrx),hat,_,rfl,_,rfl,_,_,_,_,rfl,rfl,SqL.of (s' _ _ hrx),hat,?_⟩;refine⟨qs,qk,qk,A2 "",wss,stp C u,Wy C i,Wy C i,rfl,e2,e3,by have:=zcZ h8 u;omega,fun p hp=>zbN gc hu hp,s' _ _ hqk,s' _ _ hqk,fun H'' s''=>?_⟩;have e:((stp C u).map (bh (A2 "") (Wy C i) (Wy C i))).sum=Wy C (i+1) u:=((zgG C (A2 "")).succ i u).symm;rw[e];exact h H'' s''
   intro H4 s4 e4;have hr4:=s4 _ _ hrx;have hD2r:D2≠r:=fun z=>by rw[z,hrx] at hD2;cases hD2
   have e4':H4 D2=some (.lst (wrow (Wy C (i+1)))):=by
    rw[e4,Bs.mpr (fun _ _=>rfl),htl];rfl
   refine⟨r,_,_,rfl,rfl,hr4,Ak (by have:=wr.1;omega:ws.length<1000) zaS,?_⟩;refine⟨(sx.trans s4).put nr0,_,_,rfl,zad,?_⟩;exact(WaysR.mono wr (fun _ z=>z) fun z o hz e=>by rw[zag hz];exact s4 _ _ e).snoc (by rw[zag hD2r];exact e4') hD2r
  ·rintro σ Hx⟨sx,ws,x3,rfl,hrx,wr⟩;rw[zbg,show((n:Nat):Int).toNat=n by omega] at wr;exact⟨_,rfl,q r ws Hx sx hrx (wr.mono (fun _ _=>trivial) fun _ _ _ e=>e)⟩
noncomputable def sp_open:Sp:=fun vs H Q _=>∃(l a b:A7)(x:Str)(ws:List V)(ps:List (Str×Int))(A B:Nat->Nat)(p:Str×Int),vs=[.ref l,.ref a,.ref b,.str x]/\H l=some (.lst ws)/\StepsR H ws ps/\ps.length<=100/\(∀p∈ps,0<=p.2/\p.2.toNat<128)/\H a=some (.lst (wrow A))/\H b=some (.lst (wrow B))/\ps.find? (fun p=>decide (0<bh x A B p))=some p/\∀q H',Same H H'->H' q=some (.tup [.str p.1,.int p.2])->Q (.ref q) H'
theorem find_filterO{α:Type}{ps:List α}{f:α->Bool}{p d:α}(h:ps.find? f=some p):∃i,((A4 ps.length).filter fun i=>f (ps.getD i d))[0]?=some i/\ps[i]?=some p:=by
 induction ps with
 |nil=>cases h
 |cons x ps ih=>
  rw[At,Ia,By];by_cases e:f x=true
  ·rw[Ly e] at h
   cases h
   exact⟨0,by rw[if_pos (by simpa using e)];rfl,rfl⟩
  ·rw[Lz e] at h;obtain⟨i,h1,h2⟩:=ih h;refine⟨i+1,?_,by simpa using h2⟩;rw[if_neg (by simpa using e),Dx,Ad];show(((A4 ps.length).filter fun i=>f (ps.getD i d))[0]?).map _=_;rw[h1];rfl
theorem zbI:FnScope ["steps","ways","wanted","name"] ["steps","ways","wanted","name"] (defScope s_first_open_step):=⟨rfl,rfl,rfl,by decide+kernel,rfl,by decide+kernel,by decide+kernel⟩
theorem ok_open(D:DefAt K mg "first_open_step" s_first_open_step)(T:Bn mg)(C_ways_behind:Callee P w K mg base "ways_behind" 1 ["step","ways","wanted","name"] sp_behindw):Callee P w K mg base "first_open_step" 2 ["steps","ways","wanted","name"] sp_open:=by
 refine D.callee zbI (fun _ _ _ _ _ _=>ln4 fun _ _ _ _=>rfl) (fun vs H Q E h=>?_) (fun f cdv A outer s H vs Q E hr h=>?_)
 ·obtain⟨l,a,b,x,ws,ps,A',B',p,rfl,_⟩:=h;rfl
 ·obtain⟨l,a,b,x,ws,ps,A',B',p,rfl,hl,st,hpl,hps,ha,hb,hf,q⟩:=h;have S:=zbI;have hlw:=st.length;refine⟨_,zaf (zal (zar zaA (zaL (own:=["step"]) (caps:=[(1,"ways"),(2,"wanted"),(3,"name")]) rfl ⟨rfl,rfl,rfl,rfl,⟨⟨rfl,rfl,.inl rfl⟩,⟨rfl,rfl,.inl rfl⟩,⟨rfl,rfl,.inl rfl⟩,trivial⟩⟩ (zaw (pv 0)) (fun _ _ _ _ _ _=>zak (i:=0) (zaz (by decide+kernel)) rfl (Ao rfl)) (fun _ _ _ _ _ _=>zby (zao zgq (zay C_ways_behind (hr.mono (by decide)) rfl (zaa (pv 0) (zaa (pv 1) (zaa (pv 2) (zaa (pv 3) zae))))) (zab) (zat _))) (fun _ _ _ _ _ _=>pv 0)) (zab) (fun _ _=>rfl))),?_⟩;refine⟨_,rfl,_,rfl,⟨_,SqL.of hl⟩,fun D hD=>?_⟩;have hne:∀i,i<ws.length->ws.getD i .non≠.ref D:=fun i hi z=>by
   obtain⟨qa,e1,e2⟩:=st.get (A5 (show i<ps.length by omega));rw[A8,e1] at z
   cases z
   rw[hD] at e2
   cases e2
  refine zbK (capv:=[some (.ref a),some (.ref b),some (.str x)]) (by rfl) (zaj K l ws) (big (by omega)) hD (fun H' s'=>SqL.of (s' _ _ hl)) (fun i=>decide (0<bh x A' B' (ps.getD i ("",0)))) (fun i=>ws.getD i .non) (fun i hi _=>hne i hi) ?_ ?_ ?_
  ·intro i y hy H' R s' h;have hi:i<ps.length:=by rw[<-hlw];exact(Ag.mp hy).1
   obtain⟨qa,e1,e2⟩:=st.get (A5 hi);rw[hy] at e1
   cases e1
   obtain⟨h0,h1⟩:=hps ps[i] (C8 hi);refine⟨_,rfl,_,rfl,_,rfl,_,rfl,qa,a,b,x,ps[i],A',B',rfl,s' _ _ e2,h0,h1,s' _ _ ha,s' _ _ hb,_,_,rfl,rfl,_,rfl,?_⟩;have:=h H' (Same.refl _);have e:decide (0<bh x A' B' (ps.getD i ("",0)))=decide ((0:Int)<((bh x A' B' ps[i]:Nat):Int)):=by
    rw[A8,A5 hi,decide_eq_decide];show 0<bh x A' B' ps[i]↔_;omega
   rw[e] at this;exact this
  ·intro i y hy _ H' R s' h;refine⟨_,rfl,?_⟩;have:=h H' (Same.refl _);rw[A8,hy] at this;exact this
  ·intro H' s' e;obtain⟨i,h1,h2⟩:=find_filterO (d:=(("",0):Str×Int)) hf;rw[hlw] at e;obtain⟨qa,e1,e2⟩:=st.get h2;refine⟨_,_,_,_,rfl,rfl,SqL.of e,zaB (j:=0) ?_,q qa H' s' (s' _ _ e2)⟩;rw[Ad,h1,Cu,A8,e1];rfl
noncomputable def sp_layf(ea:Nat->A7):Sp:=fun vs H Q E=>∃(a wa wb:A7)(x:Str)(ts ws ws':List V)(C:Combs)(n:Nat)(B:Nat->Nat->Nat),vs=[.ref a,.ref wa,.ref wb,.str x]/\H a=some (.lst ts)/\TabR H ts C/\GC C/\C.length<=8/\n<=200/\H wa=some (.lst ws)/\WaysR (fun _=>True) H ws (Wy C) n/\H wb=some (.lst ws')/\WaysR (fun _=>True) H ws' B n/\Sel C x B/\
 (if 0<B n 0 then∀(r:A7)(wl:List V)(H':Hp),Same H H'->H r=none->H' r=some (.lst wl)->LaysR H' wl (fnm C x B n) n->Q (.ref r) H' else E (.ref (ea 14)) none H)
theorem zda:FnScope ["table","ways","wanted","name","left","layings","shape","place","step"] ["table","ways","wanted","name"] (defScope s_lay_first):=⟨rfl,rfl,rfl,by decide+kernel,rfl,by decide+kernel,by decide+kernel⟩
theorem ok_layf{ea:Nat->A7}(D:DefAt K mg "lay_first" s_lay_first)(T:Bn mg)(O_NoFilling:Err K mg "NoFilling" (ea 14))(C_first_open_step:Callee P w K mg base "first_open_step" 2 ["steps","ways","wanted","name"] sp_open):Callee1 P w K mg base "lay_first" 3 ["table","ways","wanted","name"] (sp_layf ea):=by
 refine D.callee1 zda (fun _ _ _ _ _ _=>ln4 fun _ _ _ _=>rfl) (fun vs H Q E h=>?_) (fun f cdv A outer s H vs Q E hr h=>?_)
 ·obtain⟨a,wa,wb,x,ts,ws,ws',C,n,B,rfl,_⟩:=h;rfl
 ·obtain⟨a,wa,wb,x,ts,ws,ws',C,n,B,rfl,ha,tb,gc,h8,hn,hwa,wr,hwb,wr',sl,q⟩:=h;have S:=zda;have elen:((ws.length:Nat):Int)-1=((n:Nat):Int):=by rw[wr.1];omega
  refine⟨_,zac (zan (i:=4) S.nd rfl (Ao rfl) (zax zcu (zai zam rfl T.n_len B6 (zaa (pv 1) zae)) (zab)))
  (zac (zaF (zao zcn (zar zaA (zar zaA (pv 2) (pv 4) (fun _ _=>rfl)) (zab) (fun _ _=>rfl)) (zab) (zat _))
   (zaf (zbv O_NoFilling rfl (zaa (zaK) zae)))
   (zap))
  (zac (zan (i:=5) S.nd rfl (Ao rfl) (zaQ (zae)))
  (zac (zan (i:=6) S.nd rfl (Ao rfl) (zab))
  (zac (za0 Ls rfl (zbs rfl T.n_range (zaa (pv 4) zae)) (zak (i:=7) S.nd rfl (Ao rfl))
   (zac (zan (i:=4) S.nd rfl (Ao rfl) (zax zcu (pv 4) (zab)))
   (zac (zan (i:=8) S.nd rfl (Ao rfl) (zay C_first_open_step (hr.mono (by decide)) rfl (zaa (zar zaA (pv 0) (pv 6) (fun _ _=>rfl)) (zaa (zar zaA (pv 1) (pv 4) (fun _ _=>rfl)) (zaa (zar zaA (pv 2) (pv 4) (fun _ _=>rfl)) (zaa (pv 3) zae))))))
   (zca (zaF (zao zdh (zar zav (pv 8) (zab) (fun _ _=>rfl)) (zaK) (zat _))
    (zaf (zaT (zcd B8 Bh Bg zaE (pv 5) (zaa (zba (zaa (pv 7) (zaa (zar zav (pv 8) (zab) (fun _ _=>rfl)) zae))) zae))))
    (zap))
   (zca (zaF (zao zcn (zar zav (pv 8) (zab) (fun _ _=>rfl)) (pv 3) (zat _))
    (zaf (zan (i:=2) S.nd rfl (Ao rfl) (pv 1)))
    (zap))
   (zaf (zan (i:=6) S.nd rfl (Ao rfl) (zar zav (pv 8) (zab) (fun _ _=>rfl)))))))))
  (zaf (zal (pv 5))))))),?_⟩
  refine⟨_,rfl,_,_,rfl,.inl (SqL.of hwa),_,_,rfl,rfl,?_⟩;obtain⟨qn,eqn,_,hqn⟩:=wr'.2 n (Ac _);refine⟨_,rfl,_,rfl,_,_,_,_,rfl,rfl,SqL.of hwb,by rw[elen];exact zaB eqn,_,_,_,_,rfl,rfl,SqL.of hqn,(show atI (wrow (B n)) ((0:Nat):Int)=_ from zgr _ (by decide)),rfl,_,rfl,?_⟩;by_cases hb:0<B n 0
  case neg=>
   rw[if_neg hb] at q;have:B n 0=0:=by omega
   rw[this,decide_eq_true (show V.int ((0:Nat):Int)=V.int 0 from rfl)];exact iteT ⟨bigr rfl,q⟩
  rw[if_pos hb] at q;rw[decide_eq_false (show¬V.int ((B n 0:Nat):Int)=V.int 0 from fun z=>by injection z with z;omega)];refine iteF ?_;refine⟨bigr rfl,fun r nr=>?_⟩;have s1:Same H (upd H r (.lst [])):=Same.new nr;refine⟨_,rfl,_,rfl,by rw[elen];omega,by rw[elen];omega,?_⟩;have hok:=zhj gc sl hb
  let wd:Bool->A7:=fun b=>if b=true then wa else wb
  rw[elen,show((n:Nat):Int).toNat=n by omega];refine zbE (zaP 0 n) (fun i σ Hx=>Same H Hx/\∃(wl:List V)(x7 x8:Option V),σ=[some (.ref a),some (.ref wa),some (.ref (wd (fw C x B n i).2)),some (.str x),some (.int ((n-i:Nat):Int)),some (.ref r),some (.int (((fw C x B n i).1:Nat):Int)),x7,x8]/\Hx r=some (.lst wl)/\LaysR Hx wl (fnm C x B n) i) ⟨s1,[],_,_,by rw[K1,<-elen];rfl,zad,.nil⟩ (fun _ _ _ _ _=>trivial) ?_ ?_
  ·rintro i y σ Hx hx⟨sx,wl,x7,x8,rfl,hrx,lr⟩;obtain⟨hi,rfl⟩:=zbr hx;rw[Iq];obtain⟨h1,h2⟩:=hok i (by omega);obtain⟨g1,g2,g3⟩:=zhi gc sl hb hi;have hnx:=(hok (i+1) (by omega)).1;have e1:((n-i:Nat):Int)-1=((n-1-i:Nat):Int):=by omega
   obtain⟨qs,wss,t1,t2,t3⟩:=(tb.same sx).2 _ h1;obtain⟨qa,a1,_,a2⟩:=wr.2 (n-1-i) (by omega);have hwd:∃wsd qb,Hx (wd (fw C x B n i).2)=some (.lst wsd)/\wsd[n-1-i]?=some (.ref qb)/\Hx qb=some (.lst (wrow (ro C B (fw C x B n i).2 (n-1-i)))):=by
    show∃wsd qb,Hx (if(fw C x B n i).2=true then wa else wb)=_/\_/\_;unfold ro
    cases(fw C x B n i).2 with
    |true=>exact⟨ws,qa,sx _ _ hwa,a1,sx _ _ a2⟩
    |false=>
     obtain⟨qb,b1,_,b2⟩:=wr'.2 (n-1-i) (by omega);exact⟨ws',qb,sx _ _ hwb,b1,sx _ _ b2⟩
   obtain⟨wsd,qb,d1,d2,d3⟩:=hwd;refine⟨_,rfl,_,_,rfl,rfl,?_⟩;refine⟨_,rfl,_,rfl,_,_,_,_,rfl,rfl,SqL.of (sx _ _ ha),zaB t1,_,rfl,_,rfl,_,_,_,_,rfl,rfl,SqL.of (sx _ _ hwa),by rw[e1];exact zaB a1,_,rfl,_,rfl,_,_,_,_,rfl,rfl,SqL.of d1,by rw[e1];exact zaB d2,_,rfl,?_⟩;refine⟨qs,qa,qb,x,wss,stp C (fw C x B n i).1,Wy C (n-1-i),ro C B (fw C x B n i).2 (n-1-i),_,rfl,t2,t3,by have:=zcZ h8 (fw C x B n i).1;omega,fun p hp=>zbN gc h1 hp,sx _ _ a2,d3,g1,fun qt H2 s2 hqt=>?_⟩;dsimp only at hqt;have lr2:LaysR H2 wl (fnm C x B n) i:=lr.mono fun _ _ e=>s2 _ _ e;have hr2:=s2 _ _ hrx;have sx2:=sx.trans s2;have hwl:=lr2.len;have nr0:H r=none:=nr;refine⟨fun σ Hy=>Same H Hy/\Hy qt=some (.tup [.str (fnm C x B n i),.int (((fw C x B n (i+1)).1:Nat):Int)])/\∃wl',Hy r=some (.lst wl')/\LaysR Hy wl' (fnm C x B n) (i+1)/\σ=[some (.ref a),some (.ref wa),some (.ref (wd (fw C x B n i).2)),some (.str x),some (.int (((n-i:Nat):Int)-1)),some (.ref r),some (.int (((fw C x B n i).1:Nat):Int)),some (.int ((i:Nat):Int)),some (.ref qt)],?_,?_⟩
   ·refine⟨_,rfl,_,_,_,_,rfl,rfl,SqT.of hqt,at0,rfl,_,rfl,?_⟩;by_cases hz:fnm C x B n i=A2 ""
    ·rw[decide_eq_true (by rw[hz])];refine iteF ?_;exact⟨sx2,hqt,wl,hr2,lr2.skip hz,rfl⟩
    ·rw[decide_eq_false (fun z=>hz (by injection z))];refine iteT ?_;refine⟨_,rfl,.inl ⟨rfl,_,SqL.of hr2⟩,_,rfl,_,rfl,_,_,_,_,rfl,rfl,SqT.of hqt,at0,bigr rfl,fun tt ntt=>?_⟩;have s3:Same H2 (upd H2 tt (.tup [.int ((i:Nat):Int),.str (fnm C x B n i)])):=Same.new ntt;have htt:upd H2 tt (.tup [.int ((i:Nat):Int),.str (fnm C x B n i)]) tt=some (.tup [.int ((i:Nat):Int),.str (fnm C x B n i)]):=zad;have hr3:=s3 _ _ hr2;have hqt3:=s3 _ _ hqt;have lr3:LaysR (upd H2 tt (.tup [.int ((i:Nat):Int),.str (fnm C x B n i)])) wl (fnm C x B n) i:=lr2.mono fun _ _ e=>s3 _ _ e;generalize upd H2 tt (.tup [.int ((i:Nat):Int),.str (fnm C x B n i)])=H3 at s3 htt hr3 hqt3 lr3⊢;refine⟨r,_,_,rfl,rfl,hr3,Ak (by omega:wl.length<1000) zaS,?_⟩;have kt:∀qa ys,H3 qa=some (.tup ys)->upd H3 r (.lst (wl++[.ref tt])) qa=some (.tup ys):=fun qa ys z=>by rw[zag (fun z2=>by rw[z2,hr3] at z;cases z)];exact z
     exact⟨(sx2.trans s3).put nr0,kt _ _ hqt3,_,zad,(lr3.mono kt).snoc hz (kt _ _ htt),rfl⟩
   rintro σ Hy⟨sy,hqy,wl',hry,lry,rfl⟩;refine⟨fun σ Hz=>Hz=Hy/\σ=[some (.ref a),some (.ref wa),some (.ref (wd (fw C x B n (i+1)).2)),some (.str x),some (.int (((n-i:Nat):Int)-1)),some (.ref r),some (.int (((fw C x B n i).1:Nat):Int)),some (.int ((i:Nat):Int)),some (.ref qt)],?_,?_⟩
   ·refine⟨_,rfl,_,_,_,_,rfl,rfl,SqT.of hqy,at0,_,rfl,rfl,_,rfl,?_⟩;rw[g2];by_cases hz:fnm C x B n i=x
    ·rw[decide_eq_true (show V.str (fnm C x B n i)=V.str x by rw[hz]),decide_eq_true hz,M2];refine iteT ?_;exact⟨_,rfl,rfl,rfl⟩
    ·rw[decide_eq_false (show¬V.str (fnm C x B n i)=V.str x from fun z=>hz (by injection z)),decide_eq_false hz,Lg];refine iteF ?_;exact⟨rfl,rfl⟩
   rintro σ Hz⟨rfl,rfl⟩;refine⟨_,rfl,_,_,_,_,rfl,rfl,SqT.of hqy,at1,?_⟩;refine⟨sy,wl',some (.int ((i:Nat):Int)),some (.ref qt),?_,hry,lry⟩;rw[e1,show n-(i+1)=n-1-i by omega];rfl
  ·rintro σ Hx⟨sx,wl,x7,x8,rfl,hrx,lr⟩;rw[zbg] at lr;exact⟨_,rfl,q r wl Hx sx nr hrx lr⟩
noncomputable def sp_chk(ea:Nat->A7):Sp:=fun vs H Q E=>∃n,vs=[.int n]/\(if 0<=n/\n<=200 then Q .non H else E (.ref (ea 13)) none H)
theorem zb6:FnScope ["length"] ["length"] (defScope s_check_length):=⟨rfl,rfl,rfl,by decide+kernel,rfl,by decide+kernel,by decide+kernel⟩
theorem ok_chk{ea:Nat->A7}(D:DefAt K mg "check_length" s_check_length)(T:Bn mg)(V_MOST_FILLED:∃t,mg "MOST_FILLED"=some (.int 200 t))(O_BadLength:Err K mg "BadLength" (ea 13)):Callee1 P w K mg base "check_length" 1 ["length"] (sp_chk ea):=by
 refine D.callee1 zb6 (fun _ _ _ _ _ _=>ln1 fun _=>rfl) (fun vs H Q E h=>?_) (fun f cdv A outer s H vs Q E hr h=>?_)
 ·obtain⟨n,rfl,_⟩:=h;rfl
 ·obtain⟨n,rfl,q⟩:=h;have S:=zb6;refine⟨_,zaf (zaF (za2 (zex zez zez (zab) (pv 0) (zcb rfl V_MOST_FILLED)))
   (zaf (zbv O_BadLength rfl (zaa (zaK) zae)))
   (zap)),?_⟩
  refine⟨_,rfl,_,_,rfl,rfl,_,rfl,?_⟩;refine ite2 (fun h0=>?_) (fun h0=>?_)
  rotate_left
  ·have h0:¬(0:Int)<=n:=by simpa using h0
   rw[if_neg (fun z=>h0 z.1)] at q;exact⟨_,rfl,iteT ⟨bigr rfl,q⟩⟩
  have h0:(0:Int)<=n:=by simpa using h0
  refine⟨_,_,rfl,rfl,_,rfl,?_⟩;by_cases h1:n<=200
  case neg=>
   rw[if_neg (fun z=>h1 z.2)] at q;rw[decide_eq_false h1];exact iteT ⟨bigr rfl,q⟩
  rw[if_pos ⟨h0,h1⟩] at q;rw[decide_eq_true h1];exact iteF q
noncomputable def sp_ffill(ea:Nat->A7)(C:A7):Sp:=fun vs H Q E=>∃b l G cs past n,vs=[.ref b,.int n]/\Bk C G H b l cs past/\
 (if 0<=n/\n<=200 then(if 0<Wy (srt cs) n.toNat 0 then∀(r:A7)(wl:List V)(H':Hp),Same H H'->H r=none->H' r=some (.lst wl)->LaysR H' wl (fnm (srt cs) (A2 "") (Wy (srt cs)) n.toNat) n.toNat->Q (.ref r) H' else∀H',Same H H'->E (.ref (ea 14)) none H') else E (.ref (ea 13)) none H)
theorem zbZ:FnScope ["book","length","table","ways"] ["book","length"] (defScope s_first_filling):=⟨rfl,rfl,rfl,by decide+kernel,rfl,by decide+kernel,by decide+kernel⟩
theorem ok_ffill{ea:Nat->A7}{C:A7}(D:DefAt K mg "first_filling" s_first_filling)(T:Bn mg)(C_check_length:Callee1 P w K mg base "check_length" 1 ["length"] (sp_chk ea))(C_step_table:Callee1 P w K mg base "step_table" 4 ["book"] (sp_table C))(C_ways_to_close:Callee P w K mg base "ways_to_close" 3 ["table","length"] sp_close)(C_lay_first:Callee1 P w K mg base "lay_first" 3 ["table","ways","wanted","name"] (sp_layf ea)):Callee1 P w K mg base "first_filling" 5 ["book","length"] (sp_ffill ea C):=by
 refine D.callee1 zbZ (fun _ _ _ _ _ _=>ln2 fun _ _=>rfl) (fun vs H Q E h=>?_) (fun f cdv A outer s H vs Q E hr h=>?_)
 ·obtain⟨b,l,G,cs,past,n,rfl,_⟩:=h;rfl
 ·obtain⟨b,l,G,cs,past,n,rfl,B,q⟩:=h;have S:=zbZ;obtain⟨gc,h8⟩:=zeu B;refine⟨_,zac (zaT (zcO C_check_length (hr.mono (by decide)) (by first|exact pass_try|exact zcm|exact za8) rfl (zaa (pv 1) zae)))
  (zac (zan (i:=2) S.nd rfl (Ao rfl) (zcO C_step_table (hr.mono (by decide)) (by first|exact pass_try|exact zcm|exact za8) rfl (zaa (pv 0) zae)))
  (zac (zan (i:=3) S.nd rfl (Ao rfl) (zay C_ways_to_close (hr.mono (by decide)) rfl (zaa (pv 2) (zaa (pv 1) zae))))
  (zaf (zal (zcO C_lay_first (hr.mono (by decide)) (by first|exact pass_try|exact zcm|exact za8) rfl (zaa (pv 2) (zaa (pv 3) (zaa (pv 3) (zaa (zaK) zae))))))))),?_⟩
  refine⟨_,rfl,n,rfl,?_⟩;by_cases hn:0<=n/\n<=200
  case neg=>
   rw[if_neg hn] at q⊢;exact q
  rw[if_pos hn] at q⊢;obtain⟨k,rfl⟩:=M0 hn.1;rw[show((k:Nat):Int).toNat=k by omega] at q;refine⟨_,rfl,b,l,G,cs,past,rfl,B,fun a H1 ts s1 na ha tb=>?_⟩;refine⟨_,rfl,_,rfl,a,ts,srt cs,k,rfl,ha,tb,gc,h8,by omega,fun r ws H2 s2 hr2 wr=>?_⟩;have s12:=s1.trans s2;refine⟨_,rfl,_,rfl,_,rfl,a,r,r,A2 "",ts,ws,ws,srt cs,k,Wy (srt cs),rfl,s2 _ _ ha,tb.same s2,gc,h8,by omega,hr2,wr,hr2,wr,zgG _ _,?_⟩;by_cases hw:0<Wy (srt cs) k 0
  ·rw[if_pos hw] at q⊢;intro p wl H3 s3 np hp lr;exact q p wl H3 (s12.trans s3) (s12.free np) hp lr
  ·rw[if_neg hw] at q⊢;exact q H2 s12
noncomputable def sp_turned:Sp:=fun vs H Q _=>∃(k:A7)(ws:List V)(ks:Combs),vs=[.ref k]/\H k=some (.lst ws)/\KindsL (fun _=>True) H ws ks/\GC ks/\ks.length<=8/\∀r wr H',Same H H'->H' r=some (.lst wr)->KindsL (fun _=>True) H' wr (turnC ks)->Q (.ref r) H'
theorem zeX:FnScope ["_law_kinds","_law_found","_law_word_here","_law_teeth_here"] ["_law_kinds"] (defScope s_turned):=⟨rfl,rfl,rfl,by decide+kernel,rfl,by decide+kernel,by decide+kernel⟩
theorem ok_turned(D:DefAt K mg "_law_turned" s_turned)(T:Bn mg):Callee P w K mg base "_law_turned" 1 ["_law_kinds"] sp_turned:=by
 refine D.callee zeX (fun _ _ _ _ _ _=>ln1 fun _=>rfl) (fun vs H Q E h=>?_) (fun f cdv A outer s H vs Q E hr h=>?_)
 ·obtain⟨k,ws,ks,rfl,_⟩:=h;rfl
 ·obtain⟨k,ws,ks,rfl,hk,kr,gc,h8,q⟩:=h;have S:=zeX;have hlk:=kr.length;refine⟨_,zac (zan (i:=1) S.nd rfl (Ao rfl) (zaQ (zae)))
  (zac (za0 Bb rfl (zaw (pv 0)) (zf5 rfl (zaC (zak (i:=2) S.nd rfl (Ao rfl)) (zaC (zak (i:=3) S.nd rfl (G6 rfl)) (zbz))))
   (zaf (zaT (zcd B8 Bh Bg zaE (pv 1) (zaa (zaQ (zaa (pv 2) (zaa (zai zcf rfl T.n_sorted Hw (zaa (zaL (own:=["_law_t"]) (caps:=[(3,"_law_teeth_here")]) rfl ⟨rfl,rfl,rfl,rfl,⟨⟨rfl,rfl,.inl rfl⟩,trivial⟩⟩ (zaw (pv 3)) (fun _ _ _ _ _ _=>zak (i:=0) (zaz (by decide+kernel)) rfl (Ao rfl)) (fun _ _ _ _ _ _=>za7) (fun _ _ _ _ _ _=>zax zcu (zai (call_max1' K rfl rfl) rfl T.n_max boot_max (zaa (pv 1) zae)) (pv 0))) zae)) zae))) zae)))))
  (zaf (zal (pv 1)))),?_⟩
  refine⟨bigr rfl,fun r nr=>?_⟩;have s1:Same H (upd H r (.lst [])):=Same.new nr;refine⟨_,rfl,_,rfl,⟨_,SqL.of (s1 _ _ hk)⟩,?_⟩;refine zbE (zaj K k ws) (fun i σ Hx=>Same H Hx/\∃wr x2 x3,σ=[some (.ref k),some (.ref r),x2,x3]/\Hx r=some (.lst wr)/\wr.length=i/\KindsL (fun z=>z≠r) Hx wr (turnC (ks.take i))) ⟨s1,[],_,_,rfl,zad,rfl,trivial⟩ (fun i σ Hx _ h=>SqL.of (h.1 _ _ hk)) ?_ ?_
  ·rintro i x σ Hx hx⟨sx,wr,x2,x3,rfl,hrx,hwl,kx⟩;obtain⟨c,qc,tc,hc,rfl,hqc,htc⟩:=kr.get hx;have gt:=gc c (Bd hc);have hil:i<ks.length:=(Ag.mp hc).1;obtain⟨m1,m2,m3,m4⟩:=zdM gt;have ht8:=zhg gt;refine⟨qc,_,rfl,SqL.of (sx _ _ hqc),rfl,_,_,rfl,_,_,rfl,rfl,?_⟩;refine⟨_,rfl,.inl ⟨rfl,_,SqL.of hrx⟩,_,rfl,_,rfl,_,rfl,⟨_,SqL.of (sx _ _ htc)⟩,fun D hD=>?_⟩;refine zcv (capv:=[some (.ref tc)]) (by rfl) (zaj K tc (c.2.map V.int)) (by rw[A3];exact big (by omega)) hD (fun H' s'=>SqL.of (s' _ _ (sx _ _ htc))) (fun _=>true) (fun v=>match v with| .int t=>.int (mxT c.2-t)|_=>.non) ?_ ?_ ?_
   ·intro x hx H' R s' h;exact h H' (Same.refl _)
   ·intro x hx _ H' R s' h;obtain⟨t,ht,rfl⟩:=Aa.mp hx;refine⟨_,rfl,tc,c.2,rfl,SqL.of (s' _ _ (sx _ _ htc)),Lw ht,fun M hM hMx=>⟨_,rfl,_,_,rfl,rfl,?_⟩⟩;have e1:=hMx _ m1;have e2:=m2 _ hM;have:M=mxT c.2:=by omega
    subst this;exact h H' (Same.refl _)
   intro H2 s2 e2;refine⟨D,c.2.map fun t=>mxT c.2-t,rfl,SqL.of ?_,by rw[A3];omega,fun p ns' np pp pw=>?_⟩
   ·rw[e2,Bs.mpr (fun _ _=>rfl),As,As];rfl
   have et:ns'=turnT c.2:=by
    refine zdp pp pw ?_ fun t ht=>?_
    ·rw[Q4,C7];exact(zaU (zeI gt)).imp fun h e=>h (by omega)
    ·obtain⟨u,hu,rfl⟩:=Aa.mp ht;have:=m2 _ hu;have:=zbF gt _ hu;omega
   subst et;have s3:Same H2 (upd H2 p (.lst ((turnT c.2).map V.int))):=Same.new np;have hp3:upd H2 p (.lst ((turnT c.2).map V.int)) p=some (.lst ((turnT c.2).map V.int)):=zad;have np2:=s2.free np;have s23:=s2.trans s3;generalize upd H2 p (.lst ((turnT c.2).map V.int))=H3 at s23 hp3⊢;refine⟨bigr rfl,fun e ne=>?_⟩;have s4:Same H3 (upd H3 e (.lst [.str c.1,.ref p])):=Same.new ne;have he4:upd H3 e (.lst [.str c.1,.ref p]) e=some (.lst [.str c.1,.ref p]):=zad;have ne2:=s23.free ne;have hp4:=s4 _ _ hp3;have s24:=s23.trans s4;generalize upd H3 e (.lst [.str c.1,.ref p])=H4 at s24 he4 hp4⊢;have hr4:=s24 _ _ hrx;have hpr:p≠r:=fun z=>by rw[z,hrx] at np2;cases np2
   have her:e≠r:=fun z=>by rw[z,hrx] at ne2;cases ne2
   refine⟨r,_,_,rfl,rfl,hr4,Ak (by omega:wr.length<1000) zaS,?_⟩;refine⟨(sx.trans s24).put nr,_,_,_,rfl,zad,by rw[Af,hwl];rfl,?_⟩;have ek:turnC (ks.take (i+1))=turnC (ks.take i)++[(c.1,turnT c.2)]:=by
    unfold turnC;rw[zaH hc,B1];rfl
   rw[ek];exact KindsL.snoc (G:=fun z=>z≠r) (k:=(c.1,turnT c.2)) (q:=e) (t:=p) (by rw[zag her];exact he4) (by rw[zag hpr];exact hp4) her hpr (kx.mono (fun z o hz ez=>by rw[zag hz];exact s24 _ _ ez) fun _ z=>z)
  ·rintro σ Hx⟨sx,wr,x2,x3,rfl,hrx,_,kx⟩;rw[hlk,Cc] at kx;exact⟨_,rfl,q r wr Hx sx hrx (kx.mono (fun _ _ _ e=>e) fun _ _=>trivial)⟩
noncomputable def posV(v:V):Bool:=match v with
 | .int t=>decide (0<t)
 |_=>false
noncomputable def decV(v:V):V:=match v with
 | .int t=>.int (t-1)
 |_=>.non
noncomputable def sp_after(K:Az):Sp:=fun vs H Q _=>∃(a t:A7)(ah ts:List Int),vs=[.ref a,.ref t]/\SqT K H a (ah.map V.int)/\H t=some (.lst (ts.map V.int))/\ah.Nodup/\(∀d∈ah,0<=d/\d<=6)/\ts.Nodup/\(∀d∈ts,0<=d/\d<=7)/\
 (if meets ah ts=true then Q .non H else∀p H',Same H H'->H p=none->H' p=some (.tup ((afterOf ah ts).map V.int))->Q (.ref p) H')
theorem zf1:FnScope ["_law_ahead","_law_teeth_here","_law_t"] ["_law_ahead","_law_teeth_here"] (defScope s_after):=⟨rfl,rfl,rfl,by decide+kernel,rfl,by decide+kernel,by decide+kernel⟩
theorem ok_after(D:DefAt K mg "_law_after" s_after)(T:Bn mg):Callee P w K mg base "_law_after" 1 ["_law_ahead","_law_teeth_here"] (sp_after K):=by
 refine D.callee zf1 (fun _ _ _ _ _ _=>ln2 fun _ _=>rfl) (fun vs H Q E h=>?_) (fun f cdv A outer s H vs Q E hr h=>?_)
 ·obtain⟨a,t,ah,ts,rfl,_⟩:=h;rfl
 ·obtain⟨a,t,ah,ts,rfl,ha,ht,an,ar,tn,tr,q⟩:=h;have S:=zf1;have hal:ah.length<=8:=zds an fun d hd=>by have:=ar d hd;omega
  have htl:ts.length<=8:=zds tn tr;refine⟨_,zac (za0 Bb rfl (zaw (pv 1)) (zak (i:=2) S.nd rfl (Ao rfl))
   (zaf (zaF (zao zdK (pv 2) (pv 0) (by with_unfolding_all rfl))
    (zaf (zal (zhM)))
    (zap))))
  (zaf (zal (zbh zcT rfl T.n_tuple K9 (zaa (zaL (own:=["_law_d"]) (caps:=[]) rfl ⟨rfl,rfl,rfl,rfl,trivial⟩ (zaw (zai zcf rfl T.n_sorted Hw (zaa (zax zf9 (zbh zbL rfl T.n_list Gn (zaa (pv 0) zae)) (pv 1)) zae))) (fun _ _ _ _ _ _=>zak (i:=0) (zaz (by decide+kernel)) rfl (Ao rfl)) (fun _ _ _ _ _ _=>zby (zao zgq (pv 0) (zab) (zat _))) (fun _ _ _ _ _ _=>zax zcu (pv 0) (zab))) zae)))),?_⟩
  refine⟨_,rfl,_,rfl,⟨_,SqL.of ht⟩,?_⟩;refine zbE (zaj K t (ts.map V.int)) (fun i σ Hx=>Hx=H/\meets ah (ts.take i)=false/\∃x2,σ=[some (.ref a),some (.ref t),x2]) ⟨rfl,rfl,_,rfl⟩ (fun i σ Hx _ h=>by rw[h.1];exact SqL.of ht) ?_ ?_
  ·rintro i x σ Hx hx⟨rfl,hm,x2,rfl⟩;rw[Ad] at hx
   cases hk:ts[i]? with
   |none=>rw[hk] at hx;cases hx
   |some y=>
    rw[hk] at hx
    cases hx
    refine⟨_,rfl,_,rfl,_,_,rfl,.inr ha,rfl,zh1 ah,_,rfl,?_⟩;rw[if_neg (by decide),zhb];refine ite2 (fun hc=>?_) (fun hc=>?_)
    ·have hc:y∈ah:=by simpa using hc
     have:meets ah ts=true:=by
      unfold meets;exact Bf.mpr ⟨y,Bd hk,decide_eq_true hc⟩
     rw[if_pos this] at q;exact q
    ·have hc:y∉ah:=by simpa using hc
     refine⟨rfl,?_,_,rfl⟩;rw[zaH hk];rw[meets_false] at hm⊢;intro z hz;rcases Ap.mp hz with h|h
     ·exact hm z h
     ·rw[A9.mp h];exact hc
  ·rintro σ Hx⟨rfl,hm,x2,rfl⟩;rw[A3,Cc] at hm;rw[if_neg (by rw[hm];decide)] at q;refine⟨_,rfl,a,_,rfl,.inr ha,fun p np=>⟨_,rfl,p,t,_,ts.map V.int,rfl,rfl,zad,?_,?_,fun p2 np2=>?_⟩⟩
   ·rw[zag (zas ht np)];exact ht
   ·rw[A3,A3];exact Ex (Ak (by omega:ah.length+ts.length<1000) zaS)
   refine⟨p2,ah++ts,rfl,SqL.of (by rw[B1];exact zad),by rw[Af];omega,fun p3 ns np3 hp hs=>?_⟩;have hc:=after_canon an ar tn tr hm hp hs;have s1:Same Hx (upd Hx p (.lst (ah.map V.int))):=Same.new np;have s2:=s1.trans (Same.new (o:=.lst (ah.map V.int++ts.map V.int)) np2);have s3:=s2.trans (Same.new (o:=.lst (ns.map V.int)) np3);refine⟨_,rfl,⟨_,SqL.of zad⟩,fun Dc hD=>?_⟩;have hnl:ns.length<=1000:=by
    have:=hp.length_eq;rw[Af] at this;omega
   refine zcv (capv:=[]) (L:=ns.map V.int) (by rfl) (zaj K p3 (ns.map V.int)) (by rw[A3];exact big hnl) hD (fun H' s'=>SqL.of (s' _ _ zad)) posV decV ?_ ?_ ?_
   ·intro v hv H' R s' h;obtain⟨d,hd,rfl⟩:=Aa.mp hv;exact⟨_,rfl,_,_,rfl,rfl,_,rfl,h H' (Same.refl _)⟩
   ·intro v hv _ H' R s' h;obtain⟨d,hd,rfl⟩:=Aa.mp hv;exact⟨_,rfl,_,_,rfl,rfl,h H' (Same.refl _)⟩
   ·intro H7 s7 e7;have ets:(((ns.map V.int).filter posV).map decV)=(afterOf ah ts).map V.int:=by
     unfold afterOf;rw[<-hc,Dx,As,As];rfl
    rw[ets] at e7;have s07:=s3.trans s7;exact⟨_,_,rfl,.inl ⟨SqL.of e7,fun l nl=>q l _ (s07.put (s07.free nl)) (s07.free nl) zad⟩⟩
noncomputable def sp_goes(K:Az):Sp:=fun vs H Q _=>∃(k a:A7)(ws:List V)(ks:Combs)(ah:List Int),vs=[.ref k,.ref a]/\H k=some (.lst ws)/\KindsL (fun _=>True) H ws ks/\ks.length<=100/\(∀c∈ks,GT c.2)/\SqT K H a (ah.map V.int)/\ah.Nodup/\(∀d∈ah,0<=d/\d<=6)/\
 ∀p H' vs',Same H H'->H p=none->H' p=some (.lst vs')->GoesR H' vs' (goesOf ks ah)->Q (.ref p) H'
theorem zgK:FnScope ["_law_kinds","_law_ahead","_law_found","_law_word_here","_law_teeth_here","_law_further"] ["_law_kinds","_law_ahead"] (defScope s_goes):=⟨rfl,rfl,rfl,by decide+kernel,rfl,by decide+kernel,by decide+kernel⟩
theorem ok_goes(D:DefAt K mg "_law_goes" s_goes)(T:Bn mg)(C_after:Callee P w K mg base "_law_after" 1 ["_law_ahead","_law_teeth_here"] (sp_after K)):Callee P w K mg base "_law_goes" 2 ["_law_kinds","_law_ahead"] (sp_goes K):=by
 refine D.callee zgK (fun _ _ _ _ _ _=>ln2 fun _ _=>rfl) (fun vs H Q E h=>?_) (fun f cdv A outer s H vs Q E hr h=>?_)
 ·obtain⟨k,a,ws,ks,ah,rfl,_⟩:=h;rfl
 ·obtain⟨k,a,ws,ks,ah,rfl,hk,kr,hkl,hg,ha,an,ar,q⟩:=h;have S:=zgK;have hlen:=kr.length;refine⟨_,zac (zaF (zao zdK (zab) (pv 1) (by with_unfolding_all rfl))
   (zaf (zal (zaQ (zaa (zba (zaa (zaK) (zaa (zay C_after (hr.mono (by decide)) rfl (zaa (pv 1) (zaa (zaQ (zae)) zae))) zae))) zae))))
   (zap))
  (zac (zan (i:=2) S.nd rfl (Ao rfl) (zaQ (zae)))
  (zac (za0 Bb rfl (zaw (pv 0)) (zf5 rfl (zaC (zak (i:=3) S.nd rfl (Ao rfl)) (zaC (zak (i:=4) S.nd rfl (Ao rfl)) (zbz))))
   (zac (zan (i:=5) S.nd rfl (Ao rfl) (zay C_after (hr.mono (by decide)) rfl (zaa (pv 1) (zaa (pv 4) zae))))
   (zaf (zaF (zao op_notN (pv 5) (zhM) (zat _))
    (zaf (zaT (zcd B8 Bh Bg zaE (pv 2) (zaa (zba (zaa (pv 3) (zaa (pv 5) zae))) zae))))
    (zap)))))
  (zaf (zal (pv 2))))),?_⟩
  refine⟨_,rfl,_,_,rfl,.inr ha,rfl,zh1 ah,_,rfl,?_⟩;rw[if_neg (by decide),zhb];refine ite2 (fun hc=>?_) (fun hc=>?_)
  ·have hc:(0:Int)∈ah:=by simpa using hc
   refine⟨_,rfl,bigr rfl,fun p0 np0=>⟨a,p0,ah,[],rfl,(Same.new np0).tup ha,zad,an,ar,Dm,by simp,?_⟩⟩;rw[if_neg (show¬meets ah []=true from Ah)];intro p1 H1 s1 n1 e1;refine⟨bigr rfl,fun p2 np2=>⟨bigr rfl,fun p3 np3=>?_⟩⟩;have s01:Same H H1:=(Same.new np0).trans s1;have s2:=s01.trans (Same.new (o:=.tup [.str "",.ref p1]) np2);refine q p3 _ [.ref p2] (s2.trans (Same.new np3)) (s2.free np3) zad ?_;rw[goes_in hc];have e2:upd H1 p2 (.tup [.str "",.ref p1]) p2=some (.tup [.str "",.ref p1]):=zad;have e1':upd H1 p2 (.tup [.str "",.ref p1]) p1=some (.tup ((afterOf ah []).map V.int)):=by rw[zag (zas e1 np2)];exact e1
   refine⟨⟨p2,p1,rfl,?_,?_⟩,trivial⟩
   ·rw[zag (zas e2 np3)];exact e2
   ·rw[zag (zas e1' np3)];exact e1'
  ·have hc:(0:Int)∉ah:=by simpa using hc
   refine⟨bigr rfl,fun pf npf=>?_⟩;have s1:Same H (upd H pf (.lst [])):=Same.new npf;refine⟨_,rfl,_,rfl,⟨_,SqL.of (s1 _ _ hk)⟩,?_⟩;refine zbE (zaj K k ws) (fun i σ Hx=>Same H Hx/\∃vs x3 x4 x5,σ=[some (.ref k),some (.ref a),some (.ref pf),x3,x4,x5]/\Hx pf=some (.lst vs)/\vs.length<=i/\GoesR Hx vs (goesOf (ks.take i) ah)) ⟨s1,[],_,_,_,rfl,zad,Ac _,?_⟩ (fun i σ Hx _ h=>SqL.of (h.1 _ _ hk)) ?_ ?_
   ·rw[O9,goes_nil hc];trivial
   ·rintro i x σ Hx hx⟨sx,vs,x3,x4,x5,rfl,hpf,hvl,hgr⟩;obtain⟨c,qa,t,hkc,rfl,hq,ht⟩:=(kr.same sx).get hx;have hi:i<ks.length:=(Ag.mp hkc).1;have gc:=hg c (Bd hkc);refine⟨qa,_,rfl,SqL.of hq,rfl,_,_,rfl,_,_,rfl,rfl,?_⟩;refine⟨_,rfl,_,rfl,a,t,ah,c.2,rfl,sx.tup ha,ht,an,ar,zaU (zeI gc),zbF gc,?_⟩;by_cases hm:meets ah c.2=true
    ·rw[if_pos hm];refine⟨_,rfl,rfl,_,rfl,iteF ?_⟩;refine⟨sx,vs,_,_,_,rfl,hpf,by omega,?_⟩;rw[zaH hkc,zfa hc,if_pos hm,Ci];exact hgr
    ·rw[if_neg hm];intro p1 H1 s1' n1 e1;refine⟨_,rfl,rfl,_,rfl,iteT ?_⟩;have sx1:=s1';refine⟨_,rfl,.inl ⟨rfl,_,SqL.of (s1' _ _ hpf)⟩,_,rfl,_,rfl,bigr rfl,fun p2 np2=>?_⟩;have s2:Same Hx (upd H1 p2 (.tup [.str c.1,.ref p1])):=s1'.trans (Same.new np2);have e2:upd H1 p2 (.tup [.str c.1,.ref p1]) p2=some (.tup [.str c.1,.ref p1]):=zad;have e1':upd H1 p2 (.tup [.str c.1,.ref p1]) p1=some (.tup ((afterOf ah c.2).map V.int)):=by rw[zag (zas e1 np2)];exact e1
     have hpf2:=s2 _ _ hpf;refine⟨pf,_,_,rfl,rfl,hpf2,Ak (by omega:vs.length<1000) zaS,?_⟩;have tn:∀q' xs,upd H1 p2 (.tup [.str c.1,.ref p1]) q'=some (.tup xs)->upd (upd H1 p2 (.tup [.str c.1,.ref p1])) pf (.lst (vs++[.ref p2])) q'=some (.tup xs):=fun q' xs h=>by
      have:q'≠pf:=fun z=>by rw[z,hpf2] at h;cases h
      rw[zag this];exact h
     refine⟨(sx.trans s2).put npf,_,_,_,_,rfl,zad,(by rw[Af,Bx];omega),?_⟩;rw[zaH hkc,zfa hc,if_neg hm];exact GoesR.snoc (s:=(c.1,afterOf ah c.2)) (tn _ _ e2) (tn _ _ e1') (hgr.mono fun q' xs h=>tn _ _ (s2 _ _ h))
   ·rintro σ Hx⟨sx,vs,x3,x4,x5,rfl,hpf,hvl,hgr⟩;rw[hlen,Cc] at hgr;exact⟨_,rfl,q pf Hx vs sx npf hpf hgr⟩
theorem zfb{ks:Combs}(h8:ks.length<=8)(s:Nat)(hs:s<128)(g:GC ks):(goesOf ks (aheadOf (s:Int))).length<=8:=by
 rw[<-A3 (f:=fun p:Str×List Int=>(p.1,worth p.2)),za6 hs g];exact zcZ h8 s
noncomputable def LeftR(H:Hp)(ws:List V)(ls:List Nat):Prop:=Bv (fun(s:Nat)(v:V)=>s<128/\∃q,v= .ref q/\H q=some (.tup ((aheadOf (s:Int)).map V.int))) ls ws
theorem LeftR.mono{H H':Hp}{ws:List V}{ls:List Nat}(r:LeftR H ws ls)(m:∀q xs,H q=some (.tup xs)->H' q=some (.tup xs)):LeftR H' ws ls:=Bv.mapP r fun _ _⟨a,q,b,c⟩=>⟨a,q,b,m _ _ c⟩
noncomputable def intTup(ns:List Int):Ih:=.tuple (ns.map Dz)
theorem LeftR.vd{K:Az}{H:Hp}{ws:List V}{ls:List Nat}(r:LeftR H ws ls):VDs K H ws (ls.map fun(s:Nat)=>intTup (aheadOf (s:Int))):=by
 induction r with
 |nil=>exact .nil
 |cons h _ ih=>
  obtain⟨_,q,rfl,e⟩:=h;exact .cons (.tup (SqT.of e) (VDs.map fun u _=>.int u)) ih
theorem shaped_tups(ls:List (List Int)):El (.list (ls.map intTup))=true:=by
 have h0:∀a:List Int,C6 (a.map Dz)=true/\Dj (a.map Dz)=0:=by
  intro a
  induction a with
  |nil=>exact⟨rfl,rfl⟩
  |cons x a ih=>rw[An,C6,Dj,ih.1,ih.2];exact⟨rfl,rfl⟩
 have h1:∀ls:List (List Int),C6 (ls.map intTup)=true/\Dj (ls.map intTup)<=1:=by
  intro ls
  induction ls with
  |nil=>exact⟨rfl,Bz _⟩
  |cons x ls ih=>
   rw[An,C6,Dj];unfold intTup;refine⟨?_,?_⟩
   ·rw[show C6 (Hr (fun ns:List Int=>PyData.tuple (ns.map Dz)) ls)=true from ih.1];simp[F6,(h0 x).1]
   ·have:=ih.2;unfold intTup at this;simp only[Gg,(h0 x).2];omega
 have:=h1 ls;have h2:Gg (.list (ls.map intTup))<=64:=by
  rw[Gg];omega
 have h3:F6 (.list (ls.map intTup))=true:=by
  simp[F6,this.1]
 unfold El;rw[h3,decide_eq_true h2];rfl
noncomputable def sp_graph:Sp:=fun vs H Q _=>∃(k b:A7)(ws:List V)(ks:Combs)(s0:Nat),vs=[.ref k,.ref b]/\H k=some (.lst ws)/\KindsL (fun _=>True) H ws ks/\ks.length<=8/\GC ks/\s0<128/\H b=some (.tup ((aheadOf (s0:Int)).map V.int))/\∀p kvs L H',Same H H'->H p=none->H' p=some (.dT kvs)->GrL H' kvs ks L->L.Nodup->ClsS ks L->s0∈L->Q (.ref p) H'
theorem zfY:FnScope ["_law_kinds","_law_begin","_law_graph_here","_law_left","_law_ahead","_law_word_here","_law_further"] ["_law_kinds","_law_begin"] (defScope s_graph):=⟨rfl,rfl,rfl,by decide+kernel,rfl,by decide+kernel,by decide+kernel⟩
theorem ok_graph(D:DefAt K mg "_law_graph" s_graph)(T:Bn mg)(C_goes:Callee P w K mg base "_law_goes" 2 ["_law_kinds","_law_ahead"] (sp_goes K)):Callee P w K mg base "_law_graph" 3 ["_law_kinds","_law_begin"] sp_graph:=by
 refine D.callee zfY (fun _ _ _ _ _ _=>ln2 fun _ _=>rfl) (fun vs H Q E h=>?_) (fun f cdv A outer s H vs Q E hr h=>?_)
 ·obtain⟨k,b,ws,ks,s0,rfl,_⟩:=h;rfl
 ·obtain⟨k,b,ws,ks,s0,rfl,hk,kr,h8,gc,hs0,hb,q⟩:=h;have S:=zfY;have hu:=zcS hr;refine⟨_,zac (zan (i:=2) S.nd rfl (Ao rfl) (zf7))
  (zac (zan (i:=3) S.nd rfl (Ao rfl) (zaQ (zaa (pv 1) zae)))
  (zac (zch Bb (zao (zgZ hr.units) (pv 3) (zaQ (zae)) (zat _))
   (zac (zan (i:=4) S.nd rfl (Ao rfl) (pe_bm0 B8 PySem.F.slot_list_pop PySem.F.type_list_pop mt_pop (pv 3)))
   (zaf (zaF (zef (zdI hu (pv 4) (pv 2)))
    (zac (zc2 hu (pv 2) (pv 4) (zay C_goes (hr.mono (by decide)) rfl (zaa (pv 0) (zaa (pv 4) zae))) rfl)
    (zaf (za0 Bb rfl (zaw (zdH hu (pv 2) (pv 4) (fun _ _=>rfl))) (zdG rfl (zaC (zak (i:=5) S.nd rfl (Ao rfl)) (zaC (zak (i:=6) S.nd rfl (Ao rfl)) (zbz))))
     (zaf (zaT (zcd B8 Bh Bg zaE (pv 3) (zaa (pv 6) zae)))))))
    (zap)))))
  (zaf (zal (pv 2))))),?_⟩
  refine fun g ng=>⟨_,rfl,bigr rfl,fun l nl=>?_⟩;have s1:Same H (upd H g (.dT [])):=Same.new ng;have nl0:H l=none:=s1.free nl;have hgl:g≠l:=fun z=>by rw[<-z,zad] at nl;cases nl
  have s2:Same H (upd (upd H g (.dT [])) l (.lst [.ref b])):=s1.trans (Same.new nl);refine⟨fun m σ Hx=>∃kvs L wl ls x4 x5 x6,σ=[some (.ref k),some (.ref b),some (.ref g),some (.ref l),x4,x5,x6]/\Same H Hx/\Hx g=some (.dT kvs)/\Hx l=some (.lst wl)/\LeftR Hx wl ls/\GrL Hx kvs ks L/\(∀kv∈kvs,kv.2≠.ref l)/\L.Nodup/\(∀s∈L,s<128)/\(∀s∈L,∀p∈stp ks s,p.2.toNat∈L\/p.2.toNat∈ls)/\(s0∈L\/s0∈ls)/\ls.length<=2000-9*(128-L.length)/\m=9*(128-L.length)+ls.length,⟨_,[],[],[.ref b],[s0],_,_,_,rfl,s2,(by rw[zag hgl];exact zad),zad,.cons ⟨hs0,b,rfl,s2 _ _ hb⟩ .nil,.nil,nofun,Dm,nofun,nofun,.inr (by simp),(show 1<=2000-9*(128-0) by decide),rfl⟩,?_⟩;rintro m σ Hx⟨kvs,L,wl,ls,x4,x5,x6,rfl,sx,hg,hl,lr,gr,hkl,nd,lt,cl,h0,hlb,rfl⟩;have hL128:L.length<=128:=zaD 128 L nd lt;refine⟨_,rfl,bigr rfl,fun e ne=>?_⟩;have se:Same Hx (upd Hx e (.lst [])):=Same.new ne;refine⟨_,_,.lst (SqL.of (se _ _ hl)) (lr.mono fun _ _ z=>se _ _ z).vd,.lst (SqL.of zad) .nil,?_,by decide,_,rfl,?_⟩
  ·have:=shaped_tups (ls.map fun(s:Nat)=>aheadOf (s:Int));rwa[As] at this
  have hll:=Bw lr
  cases hls:ls with
  |nil=>
   subst hls;rw[if_pos rfl,show Dt (.list (Hr (fun s:Nat=>intTup (aheadOf (s:Int))) [])) (.list [])=true by decide];refine iteF ?_;refine⟨_,rfl,q g kvs L _ (sx.trans se) ng (se _ _ hg) (gr.same se) nd ⟨lt,fun s hs p hp=>(cl s hs p hp).resolve_right (by simp)⟩ (h0.resolve_right (by simp))⟩
  |cons t0 ts0=>
   have hlpos:0<ls.length:=by rw[hls];simp
   rw[<-hls];rw[if_pos rfl,show Dt (.list (ls.map fun s:Nat=>intTup (aheadOf (s:Int)))) (.list [])=false by rw[hls];simp[Dt,Ew]];refine iteT ?_;have hg:=se _ _ hg;have hl:=se _ _ hl;have lr:LeftR (upd Hx e (.lst [])) wl ls:=lr.mono fun _ _ z=>se _ _ z;have gr:=gr.same se;have sx:=sx.trans se;generalize upd Hx e (.lst [])=Hy at hg hl lr gr sx;clear se ne;refine⟨fun σ' H'=>∃m',m'<9*(128-L.length)+ls.length/\∃kvs L wl ls x4 x5 x6,σ'=[some (.ref k),some (.ref b),some (.ref g),some (.ref l),x4,x5,x6]/\Same H H'/\H' g=some (.dT kvs)/\H' l=some (.lst wl)/\LeftR H' wl ls/\GrL H' kvs ks L/\(∀kv∈kvs,kv.2≠.ref l)/\L.Nodup/\(∀s∈L,s<128)/\(∀s∈L,∀p∈stp ks s,p.2.toNat∈L\/p.2.toNat∈ls)/\(s0∈L\/s0∈ls)/\ls.length<=2000-9*(128-L.length)/\m'=9*(128-L.length)+ls.length,fun _ _ h=>h,?_⟩;obtain⟨v,ev,t128,qt,rfl,hqt⟩:=Bv.at lr (A5 (show ls.length-1<ls.length by omega));have els:ls=ls.dropLast++[ls[ls.length-1]'(by omega)]:=by
    have hne:ls≠[]:=fun z=>by rw[z] at hlpos;simp at hlpos
    have:=(Ki hne).symm;rwa[Lm] at this
   generalize ls[ls.length-1]'(by omega)=t at ev t128 hqt els;refine⟨_,rfl,.inl ⟨rfl,_,SqL.of hl⟩,l,wl,.ref qt,rfl,rfl,hl,(by rw[<-hll];exact ev),?_⟩;have ldl:ls.dropLast.length=ls.length-1:=Mp;have lr1:LeftR (upd Hy l (.lst wl.dropLast)) wl.dropLast ls.dropLast:=by
    have h1:LeftR Hy wl.dropLast ls.dropLast:=by
     have:∀{a:List Nat}{c:List V},LeftR Hy c a->LeftR Hy c.dropLast a.dropLast:=by
      intro a c r
      induction r with
      |nil=>exact .nil
      |cons h r' ih=>
       cases r' with
       |nil=>exact .nil
       |cons h2 r2=>exact .cons h ih
     exact this lr
    exact h1.mono fun qa xs z=>by rw[zag (fun z2=>by rw[z2,hl] at z;cases z)];exact z
   have gr1:GrL (upd Hy l (.lst wl.dropLast)) kvs ks L:=gr.mono (fun kv hkv qa vs z z2=>by rw[zag (fun z3=>hkl kv hkv (by rw[z,z3]))];exact z2) fun qa xs z=>by rw[zag (fun z2=>by rw[z2,hl] at z;cases z)];exact z
   have hg1:upd Hy l (.lst wl.dropLast) g=some (.dT kvs):=by rw[zag hgl];exact hg
   have hl1:upd Hy l (.lst wl.dropLast) l=some (.lst wl.dropLast):=zad;have hqt1:upd Hy l (.lst wl.dropLast) qt=some (.tup ((akey t).map kV)):=by
    rw[zag (fun z2=>by rw[z2,hl] at hqt;cases hqt)];unfold akey;rw[kI_V];exact hqt
   have sx1:Same H (upd Hy l (.lst wl.dropLast)):=sx.put nl0;generalize upd Hy l (.lst wl.dropLast)=H1 at lr1 gr1 hg1 hl1 hqt1 sx1;clear lr gr hg hl hqt sx;refine⟨_,rfl,_,rfl,g,_,rfl,DGet.t hg1 hqt1,_,rfl,?_⟩;have hh:=gr1.has lt t128;by_cases hin:t∈L
   ·have hh2:(valV kvs (akey t)).isSome=true:=by rw[hh];exact decide_eq_true hin
    obtain⟨vv,hvv⟩:=E2.mp hh2;rw[hvv];refine iteF ?_;refine⟨_,?_,kvs,L,wl.dropLast,ls.dropLast,_,_,_,rfl,sx1,hg1,hl1,lr1,gr1,hkl,nd,lt,fun s hs p hp=>?_,?_,by omega,rfl⟩
    ·omega
    ·rcases cl s hs p hp with z|z
     ·exact .inl z
     ·rw[els] at z;rcases Ap.mp z with z|z
      ·exact .inr z
      ·rw[A9.mp z];exact .inl hin
    ·rcases h0 with z|z
     ·exact .inl z
     ·rw[els] at z;rcases Ap.mp z with z|z
      ·exact .inr z
      ·rw[A9.mp z];exact .inl hin
   ·have hno:valV kvs (akey t)=none:=by
     cases ez:valV kvs (akey t) with
     |none=>rfl
     |some v=>rw[ez] at hh;exact absurd (of_decide_eq_true hh.symm) hin
    rw[hno];refine iteT ?_;have hqi:H1 qt=some (.tup ((aheadOf (t:Int)).map V.int)):=by
     have:=hqt1;unfold akey at this;rwa[kI_V] at this
    refine⟨_,rfl,_,rfl,k,qt,ws,ks,aheadOf (t:Int),rfl,sx1 _ _ hk,kr.same sx1,by omega,gc,SqT.of hqi,zcB _,za1,fun pv H2 vs' s2 npv hpv gv=>?_⟩;have nd1:(L++[t]).Nodup:=Cy.mpr ⟨nd,by simp,fun u hu v hv e=>by rw[A9.mp hv] at e;exact hin (e▸hu)⟩;have lt1:∀s∈L++[t],s<128:=fun s hs=>(Ap.mp hs).elim (lt s) fun z=>by rw[A9.mp z];exact t128
    have hL1:(L++[t]).length<=128:=zaD 128 _ nd1 lt1;rw[Af,Bx] at hL1;have hkl2:=gr1.len;refine⟨_,rfl,_,rfl,g,_,rfl,DPut.t (k:=akey t) (s2 _ _ hg1) (s2 _ _ hqt1) (Ak (by omega:kvs.length<1000) zaS),?_⟩;rw[zew _ hno];have hg2:=s2 _ _ hg1;have keep:∀qa o,(∃xs,o=HO.lst xs)\/(∃xs,o=HO.tup xs)->H2 qa=some o->upd H2 g (.dT (kvs++[(akey t,.ref pv)])) qa=some o:=fun qa o ho ea=>by
     rw[zag (fun z=>by rw[z,hg2] at ea;cases ea;rcases ho with⟨_,h⟩|⟨_,h⟩<;>cases h)];exact ea
    have hpl:pv≠l:=fun z=>by rw[z,hl1] at npv;cases npv
    have gr3:GrL (upd H2 g (.dT (kvs++[(akey t,.ref pv)]))) (kvs++[(akey t,.ref pv)]) ks (L++[t]):=
     ((gr1.same s2).mono (fun _ _ qa vs _ e=>keep _ _ (.inl ⟨_,rfl⟩) e) fun qa xs e=>keep _ _ (.inr ⟨_,rfl⟩) e).snoc (keep _ _ (.inl ⟨_,rfl⟩) hpv) (gv.mono fun qa xs e=>keep _ _ (.inr ⟨_,rfl⟩) e)
    have gv3:GoesR (upd H2 g (.dT (kvs++[(akey t,.ref pv)]))) vs' (goesOf ks (aheadOf (t:Int))):=gv.mono fun qa xs e=>keep _ _ (.inr ⟨_,rfl⟩) e;have lr3:=(lr1.mono fun _ _ z=>s2 _ _ z).mono fun qa xs e=>keep _ _ (.inr ⟨_,rfl⟩) e;have hl3:=keep _ _ (.inl ⟨_,rfl⟩) (s2 _ _ hl1);have hpv3:=keep _ _ (.inl ⟨_,rfl⟩) hpv;have hqt3:=keep _ _ (.inr ⟨_,rfl⟩) (s2 _ _ hqt1);have hg3:upd H2 g (.dT (kvs++[(akey t,.ref pv)])) g=some (.dT (kvs++[(akey t,.ref pv)])):=zad;have sx3:Same H (upd H2 g (.dT (kvs++[(akey t,.ref pv)]))):=(sx1.trans s2).put ng;generalize upd H2 g (.dT (kvs++[(akey t,.ref pv)]))=H3 at gr3 gv3 lr3 hl3 hpv3 hqt3 hg3 sx3;have hkl3:∀kv∈kvs++[(akey t,V.ref pv)],kv.2≠.ref l:=fun kv hkv=>by
     rcases Ap.mp hkv with z|z
     ·exact hkl kv z
     ·rw[A9.mp z];exact fun z=>hpl (by injection z)
    have dg:DGet H3 g (.ref qt) (some (.ref pv)):=by
     have:valV (kvs++[(akey t,V.ref pv)]) (akey t)=some (.ref pv):=by
      rw[<-zew _ hno,valV_put,if_pos rfl]
     rw[<-this];exact DGet.t hg3 hqt3
    refine⟨_,rfl,_,rfl,_,_,rfl,dg,_,rfl,⟨_,SqL.of hpv3⟩,?_⟩;have hgl8:=zfb h8 t t128 gc;have hvl:=gv3.length;refine zbE (zaj K pv vs') (fun i σ Hz=>Same H Hz/\∃wl' x5 x6,σ=[some (.ref k),some (.ref b),some (.ref g),some (.ref l),some (.ref qt),x5,x6]/\Hz g=some (.dT (kvs++[(akey t,.ref pv)]))/\Hz l=some (.lst wl')/\Hz pv=some (.lst vs')/\LeftR Hz wl' (ls.dropLast++((goesOf ks (aheadOf (t:Int))).take i).map fun p=>(worth p.2).toNat)/\GrL Hz (kvs++[(akey t,.ref pv)]) ks (L++[t])/\GoesR Hz vs' (goesOf ks (aheadOf (t:Int)))) ⟨sx3,wl.dropLast,_,_,rfl,hg3,hl3,hpv3,(by simpa using lr3),gr3,gv3⟩ (fun i σ Hz _ h=>by obtain⟨_,_,_,_,_,_,_,h,_⟩:=h;exact SqL.of h) ?_ ?_
    ·rintro i x σ Hz hx⟨sz,wl',x5,x6,rfl,hgz,hlz,hpz,lz,grz,gvz⟩;obtain⟨q1,t1,rfl,e2,e3,hlt⟩:=gvz.nth hx;have hmem:(goesOf ks (aheadOf (t:Int)))[i]∈goesOf ks (aheadOf (t:Int)):=C8 hlt;have egd:(goesOf ks (aheadOf (t:Int))).getD i ("",[])=(goesOf ks (aheadOf (t:Int)))[i]:=by rw[A8,A5 hlt];rfl
     rw[egd] at e2 e3;obtain⟨k1,k2,k3,k4⟩:=zbw t128 gc hmem;have hwl':=Bw lz;rw[Af,A3,Cg,ldl] at hwl';refine⟨q1,_,rfl,SqT.of e2,rfl,_,_,rfl,_,_,rfl,rfl,?_⟩;refine⟨_,rfl,.inl ⟨rfl,_,SqL.of hlz⟩,_,rfl,l,wl',_,rfl,rfl,hlz,Ak (by omega:wl'.length<3000) (by decide),?_⟩;have kt:∀qa xs,Hz qa=some (.tup xs)->upd Hz l (.lst (wl'++[.ref t1])) qa=some (.tup xs):=fun qa xs z=>by rw[zag (fun z2=>by rw[z2,hlz] at z;cases z)];exact z
     refine⟨sz.put nl0,_,_,_,rfl,(by rw[zag hgl];exact hgz),zad,(by rw[zag hpl];exact hpz),?_,grz.mono (fun kv hkv qa vs z z2=>by rw[zag (fun z3=>hkl3 kv hkv (by rw[z,z3]))];exact z2) kt,gvz.mono kt⟩;rw[Cs hlt,B1,<-Av];refine Ej (lz.mono kt) ⟨k1,t1,rfl,kt _ _ ?_⟩;have e4:aheadOf (((worth (goesOf ks (aheadOf (t:Int)))[i].2).toNat:Nat):Int)=(goesOf ks (aheadOf (t:Int)))[i].2:=zde (by rw[k3];rfl);rw[e4];exact e3
    ·rintro σ Hz⟨sz,wl',x5,x6,rfl,hgz,hlz,hpz,lz,grz,gvz⟩;rw[hvl,Cc] at lz;have est:(goesOf ks (aheadOf (t:Int))).map (fun p=>(worth p.2).toNat)=(stp ks t).map fun p=>p.2.toNat:=by
      rw[<-za6 t128 gc,As];rfl
     refine⟨_,?_,_,L++[t],wl',_,_,_,_,rfl,sz,hgz,hlz,lz,grz,hkl3,nd1,lt1,fun s hs p hp=>?_,?_,?_,rfl⟩
     ·rw[Af,Af,Bx,A3,ldl];omega
     ·rw[est];rcases Ap.mp hs with z|z
      ·rcases cl s z p hp with z|z
       ·exact .inl (Ca _ z)
       ·rw[els] at z;rcases Ap.mp z with z|z
        ·exact .inr (Ca _ z)
        ·rw[A9.mp z];exact .inl (Bl _ (A9.mpr rfl))
      ·rw[A9.mp z] at hp;exact .inr (Bl _ (Aa.mpr ⟨p,hp,rfl⟩))
     ·rcases h0 with z|z
      ·exact .inl (Ca _ z)
      ·rw[els] at z;rcases Ap.mp z with z|z
       ·exact .inr (Ca _ z)
       ·rw[A9.mp z];exact .inl (Bl _ (A9.mpr rfl))
     ·rw[Af,Af,Bx,A3,ldl];omega
theorem LeftR.in128{H:Hp}{ws:List V}{ls:List Nat}(r:LeftR H ws ls):∀s∈ls,s<128:=by
 induction r with
 |nil=>simp
 |cons h _ ih=>
  intro s hs;rcases Bo.mp hs with rfl|hs
  ·exact h.1
  ·exact ih s hs
theorem zg7{H:Hp}:∀{ls:List Nat}{ws:List V},TupsR H (ls.map fun(s:Nat)=>aheadOf (s:Int)) ws->(∀s∈ls,s<128)->LeftR H ws ls
 |[],_,.nil,_=>.nil
 |s::ls,_,.cons h r,lt=>.cons ⟨lt s Aj,h⟩ (zg7 r fun t ht=>lt t (Ab _ ht))
theorem zfy{rs:List Nat}(lt:∀s∈rs,s<128){t:Nat}(ht:t<128):akey t∈rs.map akey↔t∈rs:=by
 rw[Aa];exact⟨fun⟨s,hs,e⟩=>zdq (lt s hs) ht e▸hs,fun h=>⟨t,h,rfl⟩⟩
noncomputable def addN(rs:List Nat)(t:Nat):List Nat:=if t∈rs then rs else rs++[t]
theorem addN_mem{rs:List Nat}{t s:Nat}:s∈addN rs t↔s∈rs\/s=t:=by
 unfold addN
 split
 ·rename_i h;exact⟨.inl,fun z=>z.elim id fun e=>e▸h⟩
 ·rw[Ap,A9]
theorem addN_nd{rs:List Nat}{t:Nat}(nd:rs.Nodup):(addN rs t).Nodup:=by
 unfold addN
 split
 ·exact nd
 ·rename_i z;refine Cy.mpr ⟨nd,by simp,fun u hu v hv e=>?_⟩;rw[A9.mp hv] at e;exact z (e▸hu)
theorem zfu{kvs:List (List Key×V)}{rs:List Nat}{t:Nat}{v:V}(lt:∀s∈rs,s<128)(ht:t<128)(hk:kvs.map (·.1)=rs.map akey):(putK kvs (akey t) v).map (·.1)=(addN rs t).map akey:=by
 rw[ze0,hk];unfold addN;by_cases z:t∈rs
 ·rw[if_pos ((zfy lt ht).mpr z),if_pos z]
 ·rw[if_neg (fun h=>z ((zfy lt ht).mp h)),if_neg z,B1];rfl
theorem keys_perm{nss:List (List Int)}{rs:List Nat}(p:nss.Perm (rs.map fun(s:Nat)=>aheadOf (s:Int)))(lt:∀s∈rs,s<128):∃rs':List Nat,rs'.Perm rs/\nss=rs'.map fun(s:Nat)=>aheadOf (s:Int):=by
 refine⟨nss.map fun ns=>(worth ns).toNat,?_,?_⟩
 ·have:=p.map fun ns=>(worth ns).toNat;rw[As] at this;have e:rs.map ((fun ns=>(worth ns).toNat)∘fun(s:Nat)=>aheadOf (s:Int))=rs:=by
   conv=>rhs;rw[<-Gd rs]
   refine Be fun s hs=>?_;show(worth (aheadOf (s:Int))).toNat=s;rw[zbo (by omega) (by have:=lt s hs;omega)];simp
  rwa[e] at this
 ·rw[As]
  conv=>lhs;rw[<-Gd nss]
  refine Be fun ns hns=>?_;obtain⟨s,hs,rfl⟩:=Aa.mp (p.mem_iff.mp hns);show aheadOf (s:Int)=aheadOf (((worth (aheadOf (s:Int))).toNat:Nat):Int);rw[zbo (by omega) (by have:=lt s hs;omega)];simp
theorem zhf{hvs:List (List Key×V)}{hs:List Nat}(hk:hvs.map (·.1)=hs.map akey)(lt:∀s∈hs,s<128){t:Nat}(ht:t<128):(valV hvs (akey t)).isSome=decide (t∈hs):=by
 rw[B7,valV_mem,hk,decide_eq_true_eq];exact zfy lt ht
theorem any_rangeH{α:Type}(l:List α)(p:α->Bool)(d:α):((A4 l.length).map fun i=>p (l.getD i d)).any (fun b=>b)=l.any p:=by
 have e:((A4 l.length).map fun i=>p (l.getD i d))=l.map p:=by
  refine Ft fun i=>?_;rw[Ad,Ad];by_cases h:i<l.length
  ·rw[Cn h,A5 h,Cu,Cu,A8,A5 h];rfl
  ·rw[Cm (by rw[Am];omega),Cm (by omega)];rfl
 rw[e,Gq];rfl
noncomputable def sp_home:Sp:=fun vs H Q _=>∃(g:A7)(kvs:List (List Key×V))(ks:Combs)(L:List Nat),vs=[.ref g]/\H g=some (.dT kvs)/\GrL H kvs ks L/\L.Nodup/\ClsS ks L/\0∈L/\GC ks/\ks.length<=8/\∀(p:A7)(hvs:List (List Key×V))(hs:List Nat)(H':Hp),Same H H'->H' p=some (.dT hvs)->hvs.map (·.1)=hs.map akey->(∀s∈hs,s∈L)->(∀s∈L,s∈hs↔∃n,rch ks s n 0)->Q (.ref p) H'
theorem zgJ:FnScope ["_law_graph_here","_law_home_here","_law_known","_law_ahead"] ["_law_graph_here"] (defScope s_home):=⟨rfl,rfl,rfl,by decide+kernel,rfl,by decide+kernel,by decide+kernel⟩
theorem ok_home(D:DefAt K mg "_law_home" s_home)(T:Bn mg):Callee P w K mg base "_law_home" 1 ["_law_graph_here"] sp_home:=by
 refine D.callee zgJ (fun _ _ _ _ _ _=>ln1 fun _=>rfl) (fun vs H Q E h=>?_) (fun f cdv A outer s H vs Q E hr h=>?_)
 ·obtain⟨g,kvs,ks,L,rfl,_⟩:=h;rfl
 ·obtain⟨g,kvs,ks,L,rfl,hg,gr,ndL,cl,h0L,gc,h8,q⟩:=h;have ltL:=cl.1;have S:=zgJ;have hu:=zcS hr;have hL128:=zaD 128 L ndL ltL;refine⟨_,zac (zan (i:=1) S.nd rfl (G6 rfl) (pe_disp1T hu (zba (zae)) (zbl)))
  (zac (zan (i:=2) S.nd rfl (Ao rfl) (zab))
  (zac (zch Bb (zao zdh (pv 2) (zai zfl rfl T.n_len B6 (zaa (pv 1) zae)) (zat _))
   (zac (zan (i:=2) S.nd rfl (Ao rfl) (zai zfl rfl T.n_len B6 (zaa (pv 1) zae)))
   (zaf (ps_forT Bb rfl (pv 0) (zak (i:=3) S.nd rfl (Ao rfl))
    (zaf (zaF (zaX (zai (zgn rfl) rfl T.n_any boot_any (zaa (zaL (own:=["_law_word_here","_law_further"]) (caps:=[(1,"_law_home_here")]) rfl ⟨rfl,rfl,rfl,rfl,⟨⟨rfl,rfl,.inl rfl⟩,trivial⟩⟩ (zaw (zdH hu (pv 0) (pv 3) (fun _ _=>rfl))) (fun _ _ _ _ _ _=>pg_tup' K rfl (n:=2) rfl (zaC (zak (i:=0) (zaz (by decide+kernel)) rfl (Ao rfl)) (zaC (zak (i:=1) (zaz (by decide+kernel)) rfl (Ao rfl)) (zbz)))) (fun _ _ _ _ _ _=>za7) (fun _ _ _ _ _ _=>pe_cmp (zgY hu (pv 1) (pv 2)))) zae)))
     (zaf (zc2 hu (pv 1) (pv 3) (zbl) rfl))
     (zap)))))))
  (zaf (zal (pv 1))))),?_⟩
  refine fun p np=>⟨bigr rfl,fun e ne=>?_⟩;have s1:Same H (upd H p (.dT [])):=Same.new np;have hp1:upd H p (.dT []) p=some (.dT []):=zad;generalize upd H p (.dT [])=H1 at s1 hp1 ne⊢;have s2:Same H1 (upd H1 e (.tup [])):=Same.new ne;have he2:upd H1 e (.tup []) e=some (.tup ((akey 0).map kV)):=by
   rw[zad];unfold akey;rw[kI_V,show aheadOf ((0:Nat):Int)=[] by decide];rfl
  generalize upd H1 e (.tup [])=H2 at s2 he2⊢;refine⟨akey 0,e,s2 _ _ hp1,rfl,he2,?_⟩;have s12:=s1.trans s2;have s3:Same H (upd H2 p (.dT [(akey 0,.bl true)])):=s12.put np;have hp3:upd H2 p (.dT [(akey 0,.bl true)]) p=some (.dT [(akey 0,.bl true)]):=zad;generalize upd H2 p (.dT [(akey 0,.bl true)])=H3 at s3 hp3⊢
  let Sound:List Nat->Prop:=fun hs=>hs.Nodup/\(∀s∈hs,s∈L)/\0∈hs/\∀s∈hs,∃n,rch ks s n 0
  refine⟨fun m σ Hx=>Same H Hx/\∃(k:Nat)(hvs:List (List Key×V))(hs:List Nat)(x3:Option V),σ=[some (.ref g),some (.ref p),some (.int (k:Nat)),x3]/\Hx p=some (.dT hvs)/\hvs.map (·.1)=hs.map akey/\Sound hs/\k<=hs.length/\m=200-k/\(k=hs.length->∀s∈L,(∃t∈hs,st1 ks s t)->s∈hs),⟨_,s3,0,_,[0],_,rfl,hp3,rfl,⟨by simp,fun s hs=>by rw[A9.mp hs];exact h0L,A9.mpr rfl,fun s hs=>⟨0,(A9.mp hs).symm⟩⟩,Bz _,rfl,fun z=>by cases z⟩,?_⟩;rintro m σ Hx⟨sx,k,hvs,hs,x3,rfl,hpx,hkx,⟨nd,sub,h0,snd⟩,hkl,rfl,clo⟩;have hvl:hvs.length=hs.length:=by have:=congrArg Fb hkx;rwa[A3,A3] at this
  have hs128:=zaD 128 hs nd fun s hs=>ltL s (sub s hs);refine⟨_,rfl,_,rfl,_,_,rfl,hpx,rfl,_,rfl,?_⟩;by_cases heq:k=hvs.length
  ·rw[heq,decide_eq_true (rfl:V.int ((hvs.length:Nat):Int)=_)];refine iteF ?_;refine⟨_,rfl,q p hvs hs Hx sx hpx hkx sub fun s hsL=>⟨snd s,?_⟩⟩;rintro⟨n,hn⟩;have all:∀n s,s∈L->rch ks s n 0->s∈hs:=by
    intro n
    induction n with
    |zero=>intro s _ h;rw[show s=0 from h.symm];exact h0
    |succ n ih=>
     intro s hsL h;rw[Ik] at h;obtain⟨u,⟨v,e1,hu1⟩,h2⟩:=zcM h;rw[show v=s from e1] at hu1;obtain⟨pp,hpp,rfl⟩:=hu1;exact clo (by omega) s hsL ⟨_,ih _ (cl.2 s hsL pp hpp) h2,pp,hpp,rfl⟩
   exact all n s hsL hn
  ·rw[decide_eq_false (fun z=>heq (by injection z with z;omega))];refine iteT ?_;have hless:200-hs.length<200-k:=by omega
   refine⟨fun σ' H'=>∃m',m'<200-k/\Same H H'/\∃(k:Nat)(hvs:List (List Key×V))(hs:List Nat)(x3:Option V),σ'=[some (.ref g),some (.ref p),some (.int (k:Nat)),x3]/\H' p=some (.dT hvs)/\hvs.map (·.1)=hs.map akey/\Sound hs/\k<=hs.length/\m'=200-k/\(k=hs.length->∀s∈L,(∃t∈hs,st1 ks s t)->s∈hs),fun _ _ h=>h,?_⟩;refine⟨_,rfl,_,_,rfl,hpx,?_⟩;have hgp:g≠p:=fun z=>by rw[z,np] at hg;cases hg
   refine⟨g,kvs,rfl,sx _ _ hg,fun o=>?_⟩;have grf:∀{Hy:Hp},Same H (upd Hy g (.dT kvs))->GrL Hy kvs ks L:=fun{Hy}sy=>(gr.same sy).mono (fun kv _ q vs _ e=>by
     by_cases z:q=g
     ·rw[z,zad] at e;cases e
     ·rw[zag z] at e;exact e) fun q xs e=>by
     by_cases z:q=g
     ·rw[z,zad] at e;cases e
     ·rw[zag z] at e;exact e
   refine forT_g (fun i σ Hy=>Same H (upd Hy g (.dT kvs))/\Hy g=some (.frz o (.dT kvs))/\∃(hvs':List (List Key×V))(ext:List Nat)(x3:Option V),σ=[some (.ref g),some (.ref p),some (.int ((hvs.length:Nat):Int)),x3]/\Hy p=some (.dT hvs')/\hvs'.map (·.1)=(hs++ext).map akey/\Sound (hs++ext)/\∀s∈L.take i,(∃t∈hs,st1 ks s t)->s∈hs++ext) ⟨?_,zad,hvs,[],_,rfl,by rw[zag hgp.symm];exact hpx,by rw[Ci];exact hkx,by rw[Ci];exact⟨nd,sub,h0,snd⟩,fun s hs'=>by cases hs'⟩ (fun i σ Hy h=>h.2.1) ?_ ?_
   ·intro b u eb;by_cases z:b=g
    ·rw[z,zad];rw[z,hg] at eb;exact eb
    ·rw[zag z,zag z];exact sx _ _ eb
   ·rintro i kk y b σ Hy hk hb⟨sy,hgy,hvs',ext,x3',rfl,hpy,hky,⟨nd',sub',h0',snd'⟩,cov'⟩;have hki:(kvs.map (·.1))[i]?=some kk:=by rw[Ad,hk];rfl
    rw[gr.keys,Ad] at hki
    cases hsi:L[i]? with
    |none=>rw[hsi] at hki;cases hki
    |some s0=>
     rw[hsi] at hki
     cases hki
     have hsm:=Bd hsi;have hs1:=ltL s0 hsm;obtain⟨qv,vv,ev,hqv,gv⟩:=(grf sy).val ndL ltL hsm;have lt':∀s∈hs++ext,s<128:=fun s hs=>ltL s (sub' s hs);have dg:DGet Hy g (.ref b) (some (.ref qv)):=by rw[<-ev];exact .inr ⟨kvs,akey s0,b,.inr ⟨o,hgy⟩,rfl,hb,rfl⟩
     refine⟨_,rfl,_,rfl,_,_,rfl,dg,_,rfl,⟨_,SqL.of hqv⟩,fun D hD=>?_⟩;have hgl:=gv.length;have hg8:=zfb h8 s0 hs1 gc;refine comp_i2 (capv:=[some (.ref p)]) (by rfl) (zaj K qv vv) (big (by omega)) hD (fun H' s'=>SqL.of (s' _ _ hqv)) (fun i=>.str ((goesOf ks (aheadOf (s0:Int))).getD i ("",[])).1) (tupY Hy vv) (fun i x hx=>by
      obtain⟨q1,t1,rfl,e2,e3,_⟩:=gv.nth hx;exact⟨q1,rfl,by rw[zgw hx e2];exact e2⟩) (fun _=>true) (fun i=>.bl (decide ((worth ((goesOf ks (aheadOf (s0:Int))).getD i ("",[])).2).toNat∈hs++ext))) (fun _ _ _=>nofun) (fun i hi H R s' h=>h H (Same.refl _)) ?_ ?_
     ·intro i' hi' _ H' R s' h;obtain⟨q1,t1,e1,e2,e3,hlt⟩:=gv.nth (A5 hi');have hm:(goesOf ks (aheadOf (s0:Int))).getD i' ("",[])∈goesOf ks (aheadOf (s0:Int)):=by rw[A8,A5 hlt];exact C8 hlt
      obtain⟨k1,k2,k3,k4⟩:=zbw hs1 gc hm;have ey:tupY Hy vv i'= .ref t1:=zgw (by rw[A5 hi',e1]) e2;rw[ey];refine⟨_,rfl,_,rfl,p,_,rfl,.inr ⟨hvs',akey (worth ((goesOf ks (aheadOf (s0:Int))).getD i' ("",[])).2).toNat,t1,.inl (s' _ _ hpy),rfl,(by rw[<-k3,kI_V];exact s' _ _ e3),rfl⟩,?_⟩;rw[zhf hky lt' k1];exact h H' (Same.refl _)
     intro H' s' e;refine⟨_,(A4 vv.length).map fun i=>decide ((worth ((goesOf ks (aheadOf (s0:Int))).getD i ("",[])).2).toNat∈hs++ext),rfl,SqL.of ?_,_,rfl,?_⟩
     ·rw[e,Bs.mpr (fun _ _=>rfl),As];rfl
     have hany:(Qv ((A4 vv.length).map fun i=>decide ((worth ((goesOf ks (aheadOf (s0:Int))).getD i ("",[])).2).toNat∈hs++ext)) id=true)↔∃t∈hs++ext,st1 ks s0 t:=by
      have e1:=any_rangeH (goesOf ks (aheadOf (s0:Int))) (fun p=>decide ((worth p.2).toNat∈hs++ext)) ("",[]);rw[hgl];show Qv ((A4 (goesOf ks (aheadOf (s0:Int))).length).map fun i=>decide ((worth ((goesOf ks (aheadOf (s0:Int))).getD i ("",[])).2).toNat∈hs++ext)) (fun b=>b)=true↔_;rw[e1,Bf];constructor
      ·rintro⟨pp,hpp,hd⟩;exact⟨_,of_decide_eq_true hd,_,(zbw hs1 gc hpp).2.2.2,rfl⟩
      ·rintro⟨t,ht,pp,hpp,rfl⟩;rw[<-za6 hs1 gc] at hpp;obtain⟨gp,hgp',rfl⟩:=Aa.mp hpp;exact⟨gp,hgp',decide_eq_true ht⟩
     have etk:L.take (i+1)=L.take i++[s0]:=zaH hsi;have sy':Same H (upd H' g (.dT kvs)):=fun b u eb=>by
      by_cases z:b=g
      ·rw[z,zad];rw[z,hg] at eb;exact eb
      ·have:=sy _ _ eb;rw[zag z] at this⊢;exact s' _ _ this
     refine ite2 (fun hz=>?_) (fun hz=>?_)
     ·have hz:=hany.mp hz;refine⟨_,rfl,_,rfl,p,_,rfl,DPut.t (k:=akey s0) (s' _ _ hpy) (s' _ _ hb) (Ak (?_:hvs'.length<1000) zaS),?_⟩
      ·have:=congrArg Fb hky;rw[A3,A3] at this;have:=zaD 128 _ nd' lt';omega
      have hpg:p≠g:=hgp.symm;refine⟨fun b u eb=>?_,by rw[zag hgp];exact s' _ _ hgy,_,if s0∈hs++ext then ext else ext++[s0],_,rfl,zad,?_,?_,?_⟩
      ·have hbp:b≠p:=fun z=>by rw[z,np] at eb;cases eb
       have:=sy' _ _ eb;by_cases z:b=g
       ·rw[z,zad] at this⊢;exact this
       ·rw[zag z] at this⊢;rw[zag hbp];exact this
      ·rw[zfu lt' hs1 hky];unfold addN
       split
       ·rfl
       ·rw[Av]
      ·split
       ·exact⟨nd',sub',h0',snd'⟩
       ·rename_i z;rw[<-Av];refine⟨Cy.mpr ⟨nd',by simp,fun u hu' v hv e=>z (by rw[<-A9.mp hv,<-e];exact hu')⟩,fun s hs'=>?_,Ca _ h0',fun s hs'=>?_⟩
        ·rcases Ap.mp hs' with y|y
         ·exact sub' s y
         ·rw[A9.mp y];exact hsm
        ·rcases Ap.mp hs' with y|y
         ·exact snd' s y
         ·rw[A9.mp y];obtain⟨t,ht,h1⟩:=hz;obtain⟨n,hn⟩:=snd' t ht;exact⟨1+n,zb9 (show rch ks s0 1 t from⟨s0,rfl,h1⟩) hn⟩
      ·intro s hs' hst;rw[etk] at hs';rcases Ap.mp hs' with y|y
       ·have:=cov' s y hst
        split
        ·exact this
        ·rw[<-Av];exact Ca _ this
       ·rw[A9.mp y]
        split
        ·rename_i z;exact z
        ·rw[<-Av];exact Bl _ (A9.mpr rfl)
     ·have hz:¬∃t∈hs++ext,st1 ks s0 t:=fun y=>hz (hany.mpr y);refine⟨sy',s' _ _ hgy,hvs',ext,_,rfl,s' _ _ hpy,hky,⟨nd',sub',h0',snd'⟩,fun s hs' hst=>?_⟩;rw[etk] at hs';rcases Ap.mp hs' with y|y
      ·exact cov' s y hst
      ·rw[A9.mp y] at hst;obtain⟨t,ht,h1⟩:=hst;exact absurd ⟨t,Ca _ ht,h1⟩ hz
   ·rintro σ Hy⟨sy,hgy,hvs',ext,x3',rfl,hpy,hky,snd',cov'⟩;rw[gr.len,Cc] at cov';refine⟨hgy,_,hless,sy,hs.length,hvs',hs++ext,_,by rw[hvl],by rw[zag hgp.symm];exact hpy,hky,snd',by rw[Af];omega,rfl,fun z s hsL hst=>?_⟩;rw[Af] at z;have:ext=[]:=Kc (by omega);subst this;rw[Ci] at hst;exact cov' s hsL hst
noncomputable def filB(C:Combs)(k:Nat):Bool:=decide (0∈rowN C k)
theorem zeJ{C:Combs}(g:GC C){k:Nat}:filB C k=true↔Fil C k:=by
 unfold filB Fil;rw[decide_eq_true_eq,zb8 g]
noncomputable def RowOk(C:Combs)(j:Nat)(l:List Nat):Prop:=l.Nodup/\(∀s,s∈l↔HR C j s)/\l.Pairwise fun(s t:Nat)=>lexR 8 (aheadOf (s:Int))<=lexR 8 (aheadOf (t:Int))
theorem zc0{C:Combs}(g:GC C){i j:Nat}{l m:List Nat}(hl:RowOk C i l)(hm:RowOk C j m)(h:∀s,HR C i s↔HR C j s):l=m:=by
 have p:l.Perm m:=(D5 hl.1 hm.1).mpr fun s=>by rw[hl.2.1,hm.2.1];exact h s
 refine p.eq_of_pairwise (fun x y hx hy h1 h2=>?_) hl.2.2 hm.2.2;have x1:=zdE g (by decide) ((hl.2.1 x).mp hx).1;have y1:=zdE g (by decide) ((hm.2.1 y).mp hy).1;have a:=zdu x;have b:=zdu y;exact zd1 x1 y1 ((zeD 8 _ _ a.1 b.1 a.2 b.2).2 (by omega))
theorem left_nest{H:Hp}{r:A7}{ws:List V}{R:List Nat}(hr:H r=some (.tup ws))(lr:LeftR H ws R):NestAt H r (R.map akey):=by
 refine⟨ws,hr,?_⟩;clear hr
 induction lr with
 |nil=>exact .nil
 |cons h _ ih=>
  obtain⟨_,q,e1,e2⟩:=h;refine .cons ⟨q,e1,?_⟩ ih;unfold akey;rw[kI_V];exact e2
theorem zft:∀{l m:List Nat},(∀s∈l,s<128)->(∀s∈m,s<128)->l.map akey=m.map akey->l=m
 |[],[],_,_,_=>rfl
 |a::l,b::m,h1,h2,e=>by
  rw[An,An] at e;injection e with e1 e2;rw[zdq (h1 a Aj) (h2 b Aj) e1,zft (fun s hs=>h1 s (Ab _ hs)) (fun s hs=>h2 s (Ab _ hs)) e2]
 |[],_::_,_,_,e=>by cases e
 |_::_,[],_,_,e=>by cases e
theorem eqv_tup0(s:Nat)(hs:s<128):Dt (intTup (aheadOf (s:Int))) (.tuple [])=decide (0=s):=by
 by_cases e:0=s
 ·subst e;decide
 ·rw[decide_eq_false e]
  cases h:aheadOf (s:Int) with
  |nil=>exact absurd (zd1 (show 0<128 by decide) hs (by rw[h];decide)) e
  |cons a l=>simp[intTup,Dt,Ew]
theorem zero_in{R:List Nat}(h:∀s∈R,s<128):((R.map fun(s:Nat)=>intTup (aheadOf (s:Int))).any fun e=>Dt e (.tuple []))=decide (0∈R):=by
 induction R with
 |nil=>rfl
 |cons a R ih=>
  rw[An,Gc,ih fun s hs=>h s (Ab _ hs),eqv_tup0 a (h a Aj),B7,Kj,decide_eq_true_eq,decide_eq_true_eq,decide_eq_true_eq,Bo]
theorem lay_shapes(R:List Nat):C6 (R.map fun(s:Nat)=>intTup (aheadOf (s:Int)))=true:=by
 have one:∀ns:List Int,C6 (ns.map Dz)=true:=by
  intro ns
  induction ns with
  |nil=>rfl
  |cons a ns ih=>rw[An,C6,ih];rfl
 induction R with
 |nil=>rfl
 |cons a R ih=>rw[An,C6,ih];simp[intTup,F6,one]
noncomputable def sp_fits:Sp:=fun vs H Q _=>∃(g:A7)(kvs:List (List Key×V))(ks:Combs)(L:List Nat),vs=[.ref g]/\H g=some (.dT kvs)/\GrL H kvs ks L/\L.Nodup/\ClsS ks L/\0∈L/\GC ks/\ks.length<=8/\∀(t fl:A7)(m i:Nat)(H':Hp),Same H H'->i<m->m<=16513->(∀s,HR ks i s↔HR ks m s)->H' t=some (.tup [.ref fl,.int (i:Nat)])->H' fl=some (.lst ((A4 m).map fun k=>V.bl (filB ks k)))->Q (.ref t) H'
theorem zgL:FnScope ["_law_graph_here","_law_home_here","_law_fits_here","_law_met","_law_row","_law_more","_law_ahead","_law_word_here","_law_further"] ["_law_graph_here"] (defScope s_fits):=⟨rfl,rfl,rfl,by decide+kernel,rfl,by decide+kernel,by decide+kernel⟩
theorem ok_fits(D:DefAt K mg "_law_fits" s_fits)(T:Bn mg)(C_home:Callee P w K mg base "_law_home" 1 ["_law_graph_here"] sp_home):Callee P w K mg base "_law_fits" 2 ["_law_graph_here"] sp_fits:=by
 refine D.callee zgL (fun _ _ _ _ _ _=>ln1 fun _=>rfl) (fun vs H Q E h=>?_) (fun f cdv A outer s H vs Q E hr h=>?_)
 ·obtain⟨g,kvs,ks,L,rfl,_⟩:=h;rfl
 ·obtain⟨g,kvs,ks,L,rfl,hg,gr,ndL,cl,h0L,gc,h8,q⟩:=h;have ltL:=cl.1;have S:=zgL;have hu:=zcS hr;have hszL:(20000:Nat)<=sizeLine:=by decide
  have inL:∀k s,rch ks 0 k s->s∈L:=by
   intro k
   induction k with
   |zero=>intro s h;rw[show s=0 from h];exact h0L
   |succ k ih=>
    rintro s⟨u,h1,p,hp,rfl⟩;exact cl.2 u (ih u h1) p hp
  refine⟨_,zac (zan (i:=1) S.nd rfl (Ao rfl) (zay C_home (hr.mono (by decide)) rfl (zaa (pv 0) zae)))
  (zac (zan (i:=2) S.nd rfl (Ao rfl) (zaQ (zae)))
  (zac (zan (i:=3) S.nd rfl (Ao rfl) (zdj))
  (zac (zan (i:=4) S.nd rfl (Ao rfl) (zba (zaa (zba (zae)) zae)))
  (zac (zch Bb (zef (pc_nnotin' P w rfl rfl hr.units (pv 4) (pv 3)))
   (zac (ps_nput' P w rfl rfl hr.units (pv 3) (pv 4) (zai zam rfl T.n_len B6 (zaa (pv 2) zae)) rfl)
   (zac (zaT (zcd B8 Bh Bg zaE (pv 2) (zaa (zbR (op_inT hr.units) (zba (zae)) (pv 4) (by with_unfolding_all rfl)) zae)))
   (zac (zan (i:=5) S.nd rfl (Ao rfl) (zf7))
   (zac (za0 Bb rfl (pi_tup (pv 4)) (zak (i:=6) S.nd rfl (Ao rfl))
    (zaf (za0 Bb rfl (zaw (zdH hu (pv 0) (pv 6) (fun _ _=>rfl))) (zdG rfl (zaC (zak (i:=7) S.nd rfl (Ao rfl)) (zaC (zak (i:=8) S.nd rfl (Ao rfl)) (zbz))))
     (zaf (zaF (zef (zgY hu (pv 8) (pv 1)))
      (zaf (zc2 hu (pv 5) (pv 8) (zbl) rfl))
      (zap))))))
   (zaf (zan (i:=4) S.nd rfl (Ao rfl) (zbh zcT rfl T.n_tuple K9 (zaa (zai (call_sortedDT rfl hr.units) rfl T.n_sorted Hw (zaa (pv 5) zae)) zae)))))))))
  (zaf (zal (zba (zaa (pv 2) (zaa (pe_nget' P w rfl rfl hr.units (pv 3) (pv 4) (fun _ _=>rfl)) zae))))))))),?_⟩
  refine⟨_,rfl,g,kvs,ks,L,rfl,hg,gr,ndL,cl,h0L,gc,h8,fun ho hvs hs H0 s0 hho hhk hsub hhome=>?_⟩;have hlt:∀s∈hs,s<128:=fun s h=>ltL s (hsub s h);refine⟨bigr rfl,fun fl nfl=>?_⟩;have s1:Same H0 (upd H0 fl (.lst [])):=Same.new nfl;have hfl1:upd H0 fl (.lst []) fl=some (.lst []):=zad;generalize upd H0 fl (.lst [])=H1 at s1 hfl1⊢;refine fun d nd=>?_;have nd0:=s1.free nd;have s2:Same H1 (upd H1 d (.dK [])):=Same.new nd;have hd2:upd H1 d (.dK []) d=some (.dK []):=zad;generalize upd H1 d (.dK [])=H2 at s2 hd2⊢;refine⟨bigr rfl,fun e0 ne0=>?_⟩;have s3:Same H2 (upd H2 e0 (.tup [])):=Same.new ne0;have he3:upd H2 e0 (.tup []) e0=some (.tup ((aheadOf ((0:Nat):Int)).map V.int)):=by
   rw[zad,show aheadOf ((0:Nat):Int)=[] by decide];rfl
  generalize upd H2 e0 (.tup [])=H3 at s3 he3⊢;refine⟨bigr rfl,fun r0 nr0=>?_⟩;have s4:Same H3 (upd H3 r0 (.tup [.ref e0])):=Same.new nr0;have hr4:upd H3 r0 (.tup [.ref e0]) r0=some (.tup [.ref e0]):=zad;have he4:=s4 _ _ he3;have s24:=(s2.trans s3).trans s4;have hd4:=s4 _ _ (s3 _ _ hd2);have hfl4:=s24 _ _ hfl1;have s04:=s1.trans s24;generalize upd H3 r0 (.tup [.ref e0])=H4 at s04 hr4 he4 hd4 hfl4⊢;have hdf:d≠fl:=fun z=>by rw[z,hfl1] at nd;cases nd
  refine⟨fun m σ Hx=>Same H0 Hx/\∃(k:Nat)(R:Nat->List Nat)(xs:List NX)(r:A7)(wr:List V)(x5 x6 x7 x8:Option V),m=16600-k/\σ=[some (.ref g),some (.ref ho),some (.ref fl),some (.ref d),some (.ref r),x5,x6,x7,x8]/\Hx fl=some (.lst ((A4 k).map fun j=>V.bl (filB ks j)))/\NDict P w Hx d xs/\Hx r=some (.tup wr)/\LeftR Hx wr (R k)/\(∀j,j<=k->RowOk ks j (R j))/\nks xs=((A4 k).map fun j=>(R j).map akey)/\(∀j,j<k->∃c,((R j).map akey,c,V.int (j:Nat))∈xs)/\∀i j,i<j->j<k->R i≠R j,
   ⟨_,s04,0,fun _=>[0],[],r0,[.ref e0],_,_,_,_,rfl,rfl,hfl4,⟨.inl ⟨rfl,hd4⟩,fun x hx=>by cases hx⟩,hr4,.cons ⟨by decide,e0,rfl,he4⟩ .nil,fun j hj=>?_,rfl,fun j hj=>by omega,fun i j h1 h2=>by omega⟩,?_⟩
  ·have:j=0:=by omega
   subst this;exact⟨by simp,fun s=>by rw[hr_zero,A9],List.pairwise_singleton _ _⟩
  rintro m σ Hx⟨sx,k,R,xs,r,wr,x5,x6,x7,x8,rfl,rfl,hfl,nd',hrx,lr,rok,hkeys,hval,dis⟩;have hxl:xs.length=k:=by
   have:=congrArg Fb hkeys;unfold nks at this;rw[A3,A3,Am] at this;exact this
  have lt128:∀j,j<=k->∀s∈R j,s<128:=fun j hj s hs=>zdE gc (by decide) (((rok j hj).2.1 s).mp hs).1;have nest:=left_nest hrx lr;refine⟨_,rfl,_,rfl,d,r,xs,(R k).map akey,rfl,rfl,nd',nest,_,rfl,?_⟩;by_cases hin:(R k).map akey∈nks xs
  ·rw[hasN_iff.mpr hin];refine iteF ?_;rw[hkeys] at hin;obtain⟨i,hi,ei⟩:=Aa.mp hin;have hi:=Ay.mp hi;have er:R i=R k:=zft (lt128 i (by omega)) (lt128 k (Ac _)) ei;obtain⟨c,hc⟩:=hval i hi;refine⟨_,rfl,_,rfl,_,rfl,d,r,c,xs,(R k).map akey,.int (i:Nat),rfl,rfl,nd',nest,by rw[<-er];exact hc,bigr rfl,fun t nt=>?_⟩;have st:Same Hx (upd Hx t (.tup [.ref fl,.int (i:Nat)])):=Same.new nt;refine q t fl k i _ ((s0.trans sx).trans st) hi ?_ (fun s=>?_) zad (st _ _ hfl)
   ·have:=zgf gc (M:=k-1) fun a b hab hb heq=>dis a b hab (by omega) (zc0 gc (rok a (by omega)) (rok b (by omega)) heq);omega
   ·rw[<-(rok i (by omega)).2.1,<-(rok k (Ac _)).2.1,er]
  ·rw[zgh hin];refine iteT ?_;have hnew:∀j,j<k->R j≠R k:=fun j hj e=>hin (by rw[hkeys,<-e];exact Aa.mpr ⟨j,Ay.mpr hj,rfl⟩);have hk:k<=16512:=zgf gc (M:=k) fun a b hab hb heq=>by
    by_cases z:b=k
    ·subst z;exact hnew a hab (zc0 gc (rok a (by omega)) (rok b (by omega)) heq)
    ·exact dis a b hab (by omega) (zc0 gc (rok a (by omega)) (rok b (by omega)) heq)
   have hlR:(R k).length<=128:=zaD 128 _ (rok k (Ac _)).1 (lt128 k (Ac _));have hwr:=Bw lr;refine⟨fun σ' H'=>∃m',m'<16600-k/\Same H0 H'/\∃(k:Nat)(R:Nat->List Nat)(xs:List NX)(r:A7)(wr:List V)(x5 x6 x7 x8:Option V),m'=16600-k/\σ'=[some (.ref g),some (.ref ho),some (.ref fl),some (.ref d),some (.ref r),x5,x6,x7,x8]/\H' fl=some (.lst ((A4 k).map fun j=>V.bl (filB ks j)))/\NDict P w H' d xs/\H' r=some (.tup wr)/\LeftR H' wr (R k)/\(∀j,j<=k->RowOk ks j (R j))/\nks xs=((A4 k).map fun j=>(R j).map akey)/\(∀j,j<k->∃c,((R j).map akey,c,V.int (j:Nat))∈xs)/\∀i j,i<j->j<k->R i≠R j,fun _ _ h=>h,?_⟩;refine⟨_,rfl,_,_,rfl,.inl (SqL.of hfl),_,rfl,_,rfl,d,r,xs,(R k).map akey,rfl,rfl,nd',nest,hin,by omega,?_⟩;rw[A3,Am];have hmu:∀q u,q≠d->Hx q=some u->upd Hx d (DN P w d (xs++[((R k).map akey,r,V.int (k:Nat))])) q=some u:=fun q u z e=>by rw[zag z];exact e
   have htd:∀q ys,Hx q=some (.tup ys)->q≠d:=fun q ys e z=>by
    rw[z] at e;rcases nd'.1 with⟨_,e'⟩|e'<;>rw[e] at e'<;>cases e'
   have hkn:KeysN (upd Hx d (DN P w d (xs++[((R k).map akey,r,V.int (k:Nat))]))) (xs++[((R k).map akey,r,V.int (k:Nat))]):=fun x hx=>by
    refine NestAt.same (H:=Hx) ?_ fun q ys e=>hmu _ _ (htd q ys e) e;rcases Ap.mp hx with z|z
    ·exact nd'.2 x z
    ·rw[A9.mp z];exact nest
   have nd5:NDict P w (upd Hx d (DN P w d (xs++[((R k).map akey,r,V.int (k:Nat))]))) d (xs++[((R k).map akey,r,V.int (k:Nat))]):=⟨.inr zad,hkn⟩;have s5:Same H0 (upd Hx d (DN P w d (xs++[((R k).map akey,r,V.int (k:Nat))]))):=sx.put nd0;have hfl5:=hmu _ _ hdf.symm hfl;have hrd:r≠d:=htd _ _ hrx;have hr5:=hmu _ _ hrd hrx;have lr5:LeftR (upd Hx d (DN P w d (xs++[((R k).map akey,r,V.int (k:Nat))]))) wr (R k):=lr.mono fun q ys e=>hmu _ _ (htd q ys e) e;generalize upd Hx d (DN P w d (xs++[((R k).map akey,r,V.int (k:Nat))]))=H5 at nd5 s5 hfl5 hr5 lr5⊢;refine⟨_,rfl,.inl ⟨rfl,_,SqL.of hfl5⟩,bigr rfl,fun et net=>?_⟩;have s6:Same H5 (upd H5 et (.tup [])):=Same.new net;have het:upd H5 et (.tup []) et=some (.tup []):=zad;have hfl6:=s6 _ _ hfl5;have hr6:=s6 _ _ hr5;have lr6:=lr5.mono fun q ys e=>s6 _ _ e;have nd6:=nd5.same s6;have s06:=s5.trans s6;generalize upd H5 et (.tup [])=H6 at het hfl6 hr6 lr6 nd6 s06⊢;refine⟨_,rfl,.tuple [],(R k).map fun(s:Nat)=>intTup (aheadOf (s:Int)),.tup (SqT.of het) .nil,.tup (SqT.of hr6) lr6.vd,rfl,lay_shapes _,by decide,?_⟩;rw[zero_in (lt128 k (Ac _))];have ez:decide (0∈R k)=filB ks k:=by
    unfold filB;rw[decide_eq_decide,(rok k (Ac _)).2.1,zhd,zb8 gc];rfl
   rw[ez];refine⟨fl,_,_,rfl,rfl,hfl6,by rw[A3,Am];omega,?_⟩;have efl:((A4 k).map fun j=>V.bl (filB ks j))++[V.bl (filB ks k)]=(A4 (k+1)).map fun j=>V.bl (filB ks j):=by
    rw[Cw,B1];rfl
   rw[efl];have nfl0:H0 fl=none:=nfl;have hf7:∀q u,q≠fl->H6 q=some u->upd H6 fl (.lst ((A4 (k+1)).map fun j=>V.bl (filB ks j))) q=some u:=fun q u z e=>by rw[zag z];exact e
   have s07:Same H0 (upd H6 fl (.lst ((A4 (k+1)).map fun j=>V.bl (filB ks j)))):=s06.put nfl0;have htf:∀q ys,H6 q=some (.tup ys)->q≠fl:=fun q ys e z=>by rw[z,hfl6] at e;cases e
   have nd7:NDict P w (upd H6 fl (.lst ((A4 (k+1)).map fun j=>V.bl (filB ks j)))) d (xs++[((R k).map akey,r,V.int (k:Nat))]):=⟨nd6.1.imp (fun z=>⟨z.1,hf7 _ _ hdf z.2⟩) fun z=>hf7 _ _ hdf z,nd6.2.same fun q ys e=>hf7 _ _ (htf q ys e) e⟩;have hr7:=hf7 _ _ (htf _ _ hr6) hr6;have lr7:LeftR (upd H6 fl (.lst ((A4 (k+1)).map fun j=>V.bl (filB ks j)))) wr (R k):=lr6.mono fun q ys e=>hf7 _ _ (htf q ys e) e;have hfl7:upd H6 fl (.lst ((A4 (k+1)).map fun j=>V.bl (filB ks j))) fl=some (.lst ((A4 (k+1)).map fun j=>V.bl (filB ks j))):=zad;generalize upd H6 fl (.lst ((A4 (k+1)).map fun j=>V.bl (filB ks j)))=H7 at s07 nd7 hr7 lr7 hfl7⊢;clear hmu htd hkn hf7 htf nd5 nd6 hfl5 hfl6 hr5 hr6 lr5 lr6 s5 s6 s06;refine fun mo nmo=>?_;have s8:Same H7 (upd H7 mo (.dT [])):=Same.new nmo;have hmo:upd H7 mo (.dT []) mo=some (.dT []):=zad;refine⟨_,rfl,_,rfl,⟨_,SqT.of (s8 _ _ hr7)⟩,?_⟩;refine zbE (gives_tup K r wr) (fun i σ Hy=>Same H7 Hy/\∃(mvs:List (List Key×V))(rs:List Nat)(x6 x7 x8:Option V),σ=[some (.ref g),some (.ref ho),some (.ref fl),some (.ref d),some (.ref r),some (.ref mo),x6,x7,x8]/\Hy mo=some (.dT mvs)/\mvs.map (·.1)=rs.map akey/\rs.Nodup/\(∀s∈rs,s<128)/\∀n,n∈rs↔(∃t∈(R k).take i,st1 ks t n)/\n∈hs) ⟨s8,[],[],_,_,_,rfl,hmo,rfl,Dm,nofun,fun n=>by simp⟩ (fun i σ Hy _ h=>SqT.of (h.1 _ _ hr7)) ?_ ?_
   ·rintro i x σ Hy hx⟨sy,mvs,rs,x6',x7',x8',rfl,hmy,hk',rn,rlt,hm⟩;obtain⟨t,et,t128,qt,rfl,hqt⟩:=Bv.rev lr7 hx;have s0y:=s07.trans sy;have htL:=inL k t (((rok k (Ac _)).2.1 t).mp (Bd et)).1;obtain⟨qv,vv,ev,hqv,gv⟩:=(gr.same (s0.trans s0y)).val ndL ltL htL;have hqk:Hy qt=some (.tup ((akey t).map kV)):=by
     unfold akey;rw[kI_V];exact sy _ _ hqt
    have dg:DGet Hy g (.ref qt) (some (.ref qv)):=by rw[<-ev];exact DGet.t (s0y _ _ (s0 _ _ hg)) hqk
    refine⟨_,rfl,_,rfl,_,_,rfl,dg,_,rfl,⟨_,SqL.of hqv⟩,?_⟩;have hvl:=gv.length;have hqm:qv≠mo:=fun z=>by rw[z,hmy] at hqv;cases hqv
    refine zbE (zaj K qv vv) (fun j σ Hz=>Same H7 Hz/\Hz qv=some (.lst vv)/\GoesR Hz vv (goesOf ks (aheadOf (t:Int)))/\∃(mvs':List (List Key×V))(rs':List Nat)(x7 x8:Option V),σ=[some (.ref g),some (.ref ho),some (.ref fl),some (.ref d),some (.ref r),some (.ref mo),some (.ref qt),x7,x8]/\Hz mo=some (.dT mvs')/\mvs'.map (·.1)=rs'.map akey/\rs'.Nodup/\(∀s∈rs',s<128)/\∀n,n∈rs'↔n∈rs\/(n∈((goesOf ks (aheadOf (t:Int))).take j).map (fun p=>(worth p.2).toNat)/\n∈hs)) ⟨sy,hqv,gv,mvs,rs,_,_,rfl,hmy,hk',rn,rlt,fun n=>by simp⟩ (fun j σ Hz _ h=>SqL.of h.2.1) ?_ ?_
    ·rintro j y σ Hz hy⟨sz,hqz,gz,mvs',rs',x7'',x8'',rfl,hmz,hkz,rnz,rltz,hmz'⟩;obtain⟨q1,t1,rfl,e2,e3,hltj⟩:=gz.nth hy;have egd:(goesOf ks (aheadOf (t:Int))).getD j ("",[])=(goesOf ks (aheadOf (t:Int)))[j]:=by rw[A8,A5 hltj];rfl
     rw[egd] at e2 e3;obtain⟨k1,k2,k3,k4⟩:=zbw t128 gc (C8 hltj);have e3':Hz t1=some (.tup ((akey (worth (goesOf ks (aheadOf (t:Int)))[j].2).toNat).map kV)):=by rw[<-k3,kI_V];exact e3
     refine⟨q1,_,rfl,SqT.of e2,rfl,_,_,rfl,_,_,rfl,rfl,?_⟩;refine⟨_,rfl,_,rfl,ho,_,rfl,DGet.t ((s07.trans sz) _ _ hho) e3',_,rfl,?_⟩;rw[zhf hhk hlt k1];have etk:((goesOf ks (aheadOf (t:Int))).take (j+1)).map (fun p=>(worth p.2).toNat)=((goesOf ks (aheadOf (t:Int))).take j).map (fun p=>(worth p.2).toNat)++[(worth (goesOf ks (aheadOf (t:Int)))[j].2).toNat]:=by
      rw[Cs hltj,B1];rfl
     by_cases hin':(worth (goesOf ks (aheadOf (t:Int)))[j].2).toNat∈hs
     ·rw[decide_eq_true hin'];refine iteT ?_;have hb:=zaD 128 rs' rnz rltz;have hl':mvs'.length=rs'.length:=by have:=congrArg Fb hkz;rwa[A3,A3] at this
      refine⟨_,rfl,_,rfl,mo,_,rfl,DPut.t hmz e3' (Ak (by omega:mvs'.length<1000) zaS),?_⟩;have kt:∀qa ys,Hz qa=some (.tup ys)->upd Hz mo (.dT (putK mvs' (akey (worth (goesOf ks (aheadOf (t:Int)))[j].2).toNat) (.bl true))) qa=some (.tup ys):=fun qa ys z=>by rw[zag (fun z2=>by rw[z2,hmz] at z;cases z)];exact z
      refine⟨sz.put nmo,(by rw[zag hqm];exact hqz),gz.mono kt,_,addN rs' (worth (goesOf ks (aheadOf (t:Int)))[j].2).toNat,_,_,rfl,zad,zfu rltz k1 hkz,addN_nd rnz,fun s hs'=>?_,fun n=>?_⟩
      ·rcases addN_mem.mp hs' with z|z
       ·exact rltz s z
       ·rw[z];exact k1
      ·rw[addN_mem,hmz',etk,Ap,A9];constructor
       ·rintro((z|⟨z1,z2⟩)|z)
        ·exact .inl z
        ·exact .inr ⟨.inl z1,z2⟩
        ·exact .inr ⟨.inr z,by rw[z];exact hin'⟩
       ·rintro(z|⟨z1|z1,z2⟩)
        ·exact .inl (.inl z)
        ·exact .inl (.inr ⟨z1,z2⟩)
        ·exact .inr z1
     ·rw[decide_eq_false hin'];refine iteF ?_;refine⟨sz,hqz,gz,mvs',rs',_,_,rfl,hmz,hkz,rnz,rltz,fun n=>?_⟩;rw[hmz',etk,Ap,A9];constructor
      ·rintro(z|⟨z1,z2⟩)
       ·exact .inl z
       ·exact .inr ⟨.inl z1,z2⟩
      ·rintro(z|⟨z1|z1,z2⟩)
       ·exact .inl z
       ·exact .inr ⟨z1,z2⟩
       ·rw[z1] at z2;exact absurd z2 hin'
    ·rintro σ Hz⟨sz,hqz,gz,mvs',rs',x7'',x8'',rfl,hmz,hkz,rnz,rltz,hmz'⟩;rw[hvl,Cc] at hmz';refine⟨sz,mvs',rs',_,_,_,rfl,hmz,hkz,rnz,rltz,fun n=>?_⟩;have est:n∈(goesOf ks (aheadOf (t:Int))).map (fun p=>(worth p.2).toNat)↔st1 ks t n:=by
      unfold st1;rw[<-za6 t128 gc,Aa];constructor
      ·rintro⟨p,hp,e⟩;exact⟨_,Aa.mpr ⟨p,hp,rfl⟩,e⟩
      ·rintro⟨p,hp,e⟩;obtain⟨p',hp',rfl⟩:=Aa.mp hp;exact⟨p',hp',e⟩
     rw[hmz',hm,est,zaH et];constructor
     ·rintro(⟨⟨t',ht',h1⟩,h2⟩|⟨h1,h2⟩)
      ·exact⟨⟨t',Ca _ ht',h1⟩,h2⟩
      ·exact⟨⟨t,Bl _ (A9.mpr rfl),h1⟩,h2⟩
     ·rintro⟨⟨t',ht',h1⟩,h2⟩;rcases Ap.mp ht' with z|z
      ·exact .inl ⟨⟨t',z,h1⟩,h2⟩
      ·rw[A9.mp z] at h1;exact .inr ⟨h1,h2⟩
   ·rintro σ Hy⟨sy,mvs,rs,x6',x7',x8',rfl,hmy,hk',rn,rlt,hm⟩;rw[<-hwr,Cc] at hm;have hb:=zaD 128 rs rn rlt;rw[akeysL_kI] at hk';refine⟨_,rfl,mo,mvs,_,rfl,.inl hmy,hk',fun ns hns=>?_,by rw[A3];omega,fun p nss' ws' np pp pw tr'=>?_⟩
    ·obtain⟨s',_,rfl⟩:=Aa.mp hns;exact zdu s'
    obtain⟨rs',pr,rfl⟩:=keys_perm pp rlt;have s9:Same Hy (upd Hy p (.lst ws')):=Same.new np;have hp9:upd Hy p (.lst ws') p=some (.lst ws'):=zad;have lr9:=(zg7 tr' fun s' hs'=>rlt s' (pr.mem_iff.mp hs')).mono fun _ _ z=>s9 _ _ z;have s79:=sy.trans s9;generalize upd Hy p (.lst ws')=H9 at s79 hp9 lr9⊢;refine⟨p,ws',rfl,.inl ⟨SqL.of hp9,fun rt nrt=>?_⟩⟩;have sA:Same H9 (upd H9 rt (.tup ws')):=Same.new nrt;have s7A:=s79.trans sA;obtain⟨R',hR1,hR2⟩:∃R':Nat->List Nat,R' (k+1)=rs'/\∀j,j≠k+1->R' j=R j:=⟨fun j=>if j=k+1 then rs' else R j,if_pos rfl,fun j h=>if_neg h⟩;refine⟨16600-(k+1),by omega,s07.trans s7A,k+1,R',xs++[((R k).map akey,r,V.int (k:Nat))],rt,ws',_,_,_,_,rfl,rfl,s7A _ _ hfl7,nd7.same s7A,zad,?_,fun j hj=>?_,?_,fun j hj=>?_,fun i j h1 h2=>?_⟩
    ·rw[hR1];exact lr9.mono fun q ys e=>sA _ _ e
    ·by_cases z:j=k+1
     ·subst z;rw[hR1];refine⟨pr.nodup_iff.mpr rn,fun s=>?_,?_⟩
      ·rw[pr.mem_iff,hm,zfz];constructor
       ·rintro⟨⟨t,ht,h1⟩,h2⟩;exact⟨⟨t,((rok k (Ac _)).2.1 t).mp ht,h1⟩,(hhome s (hsub s h2)).mp h2⟩
       ·rintro⟨⟨t,ht,h1⟩,h2⟩;exact⟨⟨t,((rok k (Ac _)).2.1 t).mpr ht,h1⟩,(hhome s (inL (k+1) s ⟨t,ht.1,h1⟩)).mpr h2⟩
      ·rw[C7] at pw;exact pw
     ·rw[hR2 j z];exact rok j (by omega)
    ·unfold nks at hkeys⊢;rw[B1,hkeys,Cw,B1];congr 1
     ·refine Be fun j hj=>?_;rw[hR2 j (by have:=Ay.mp hj;omega)]
     ·rw[N6,N6,hR2 k (by omega)]
    ·rw[hR2 j (by omega)];by_cases z:j=k
     ·subst z;exact⟨r,Bl _ (A9.mpr rfl)⟩
     ·obtain⟨c,hc⟩:=hval j (by omega);exact⟨c,Ca _ hc⟩
    ·rw[hR2 i (by omega),hR2 j (by omega)];by_cases z:j=k
     ·subst z;exact hnew i h1
     ·exact dis i j h1 (by omega)
theorem zhQ{ks:List (Str×List Int)}(nd:(ks.map (·.1)).Nodup){i:Nat}{k:Str×List Int}(h:ks[i]?=some k):cGet (ks.take i) k.1=none:=by
 rw[get_none];intro hm;obtain⟨c,hc,e⟩:=Aa.mp hm;obtain⟨j,hj,ej⟩:=Dv hc;have hi:=(Ag.mp h).1;have hj':j<i:=by
  have:=hj;rw[Cg] at this;omega
 have e1:(ks.map (·.1))[j]?=some k.1:=by
  rw[Ad,A5 (by omega)];rw[Ju] at ej;rw[ej];exact congrArg some e
 have e2:(ks.map (·.1))[i]?=some k.1:=by rw[Ad,h];rfl
 have:=(Jw (by rw[A3];omega) nd).mp (e1.trans e2.symm);omega
noncomputable def sp_mkbook(C:A7):Sp:=fun vs H Q _=>∃(a:A7)(ws:List V)(ks:List (Str×List Int)),vs=[.ref a]/\H a=some (.lst ws)/\Drawn (fun _=>True) H ws ks/\ks.length<=8/\
 ∀b l G past H',Same H H'->H b=none->H l=none->(∀x,G x->H x=none)->Bk C G H' b l ks past->past.length=ks.length->Q (.ref b) H'
theorem zgM:FnScope ["_law_kinds","_law_book_here","_law_word_here","_law_teeth_here"] ["_law_kinds"] (defScope s_book):=⟨rfl,rfl,rfl,by decide+kernel,rfl,by decide+kernel,by decide+kernel⟩
theorem ok_mkbook{ea:Nat->A7}{C:A7}(D:DefAt K mg "_law_book" s_book)(T:Bn mg)(BA:BookAt K C)(C_Book:Maker P w K mg base "Book" C CX0 1 ["self"] (sp_init C))(M_put:Method P w K mg base C "put" (CX1 P w) 3 ["self","name","teeth"] (sp_put (K:=K) ea C)):Callee P w K mg base "_law_book" 4 ["_law_kinds"] (sp_mkbook C):=by
 refine D.callee zgM (fun _ _ _ _ _ _=>ln1 fun _=>rfl) (fun vs H Q E h=>?_) (fun f cdv A outer s H vs Q E hr h=>?_)
 ·obtain⟨a,ws,ks,rfl,_⟩:=h;rfl
 ·obtain⟨a,ws,ks,rfl,ha,dr,hk8,q⟩:=h;have S:=zgM;have hu:=zcS hr;have B_cls:=BA.cls;have hlen:=dr.rows.length;refine⟨_,zac (zan (i:=1) S.nd rfl (Ao rfl) (pe_mk0 C_Book (hr.mono (by decide)) (by first|exact ze2|exact pass_try|exact zcm|exact za8) rfl))
  (zac (za0 Bb rfl (zaw (pv 0)) (zf5 rfl (zaC (zak (i:=2) S.nd rfl (Ao rfl)) (zaC (zak (i:=3) S.nd rfl (Ao rfl)) (zbz))))
   (zaf (zaT (zgV (pv 1) B_cls M_put (hr.mono (by decide)) (by first|exact ze2|exact pass_try|exact zcm|exact za8) (zaa (pv 2) (zaa (zbh zbL rfl T.n_list Gn (zaa (pv 3) zae)) zae))))))
  (zaf (zal (pv 1)))),?_⟩
  refine fun b dx nb ndx ndb=>⟨b,dx,rfl,zad,fun H1 l d m nl nd B=>⟨rfl,?_⟩⟩;have hlb:l≠b:=fun z=>by rw[z,zad] at nl;cases nl
  have nl0:H l=none:=by
   rw[zag hlb] at nl;by_cases z:l=dx
   ·rw[z];exact ndx
   ·rw[zag z] at nl;exact nl
  have hdb:d≠b:=fun z=>by rw[z,zad] at nd;cases nd
  have nd0:H d=none:=by
   rw[zag hdb] at nd;by_cases z:d=dx
   ·rw[z];exact ndx
   ·rw[zag z] at nd;exact nd
  have s1:Same H H1:=fun x o e=>m.keep x o (by rw[zag (zas e nb),zag (zas e ndx)];exact e) (zas e nb) (zas e nb);refine⟨_,rfl,_,rfl,⟨_,SqL.of (s1 _ _ ha)⟩,?_⟩;refine zbE (zaj K a ws) (fun i σ H2=>Same H H2/\∃G past x2 x3,σ=[some (.ref a),some (.ref b),x2,x3]/\Bk C G H2 b l (ks.take i) past/\past.length=i/\∀x,G x->H x=none) ⟨s1,_,[],_,_,rfl,B,rfl,fun x g=>by rw[show x=d from g];exact nd0⟩ (fun i σ H2 _ h=>SqL.of (h.1 _ _ ha)) ?_ ?_
  ·rintro i x σ H2 hx⟨s2,G,past,x2,x3,rfl,B2,hp,hG⟩;obtain⟨k,qa,t,hk,rfl,hq,ht⟩:=(dr.same s2).rows.get hx;have hi:i<ks.length:=(Ag.mp hk).1;obtain⟨hkn,hkg⟩:=dr.good k (Bd hk);obtain⟨dx2,d2,hb2,_⟩:=id B2.ins;refine⟨qa,_,rfl,SqL.of hq,rfl,_,_,rfl,_,_,rfl,rfl,?_⟩;refine⟨_,rfl,b,dx2,_,rfl,hb2,rfl,_,rfl,_,rfl,t,_,rfl,.inl (SqL.of ht),fun p np=>?_⟩;have s3:Same H2 (upd H2 p (.lst (k.2.map V.int))):=Same.new np;refine⟨b,l,G,_,past,k.1,p,k.2,rfl,B2.same s3,SqL.of zad,?_,?_,?_⟩
   ·exact big (by have:=name_len hkn;omega)
   ·have:=zhg hkg;omega
   have hlt:(ks.take i).length=i:=by rw[Cg];omega
   have e:putD (ks.take i) past k.1 k.2= .ok (ks.take (i+1)):=by
    unfold putD full;rw[if_neg (by rw[hkn];decide),if_neg (by rw[gt_teeth hkg];decide),zhQ dr.nd hk,if_neg (by simp),if_neg (by omega),if_neg (by omega),zgQ (zhQ dr.nd hk),gt_eq hkg,zaH hk]
   rw[e];intro H4 G4 m4 B4;refine⟨fun x o e'=>m4.keep x o (s3 _ _ (s2 _ _ e')) (zas e' nb) (zas e' nl0),G4,_,_,_,rfl,B4,by rw[Af,Bx,hp],fun x g=>?_⟩;rcases m4.new x g with g|g
   ·exact hG x g
   ·exact(s2.trans s3).free g
  ·rintro σ H2⟨s2,G,past,x2,x3,rfl,B2,hp,hG⟩;rw[D8 (by omega)] at B2;exact⟨_,rfl,q b l G past H2 s2 nb nl0 hG B2 (by omega)⟩
theorem filB_per{C:Combs}(g:GC C){i m:Nat}(him:i<m)(hp:∀s,HR C i s↔HR C m s)(k:Nat)(hk:i<=k):filB C (k+(m-i))=filB C k:=by
 rw[B7,zeJ g,zeJ g];have:=zhc hp (k-i) 0;rw[zhd,zhd,show i+(k-i)=k by omega,show m+(k-i)=k+(m-i) by omega] at this;exact this.symm
noncomputable def sp_laying:Sp:=fun vs H Q _=>∃(q:A7)(a:Int)(x:Str),vs=[.ref q]/\H q=some (.tup [.int a,.str x])/\Q (.bl true) H
theorem zeY:FnScope ["_law_one"] ["_law_one"] (defScope s_laying):=⟨rfl,rfl,rfl,by decide+kernel,rfl,by decide+kernel,by decide+kernel⟩
theorem ok_laying(D:DefAt K mg "_law_laying" s_laying)(T:Bn mg)(C_whole:Callee P w K mg base "_law_whole" 1 ["_law_found"] sp_whole):Callee P w K mg base "_law_laying" 2 ["_law_one"] sp_laying:=by
 refine D.callee zeY (fun _ _ _ _ _ _=>ln1 fun _=>rfl) (fun vs H Q E h=>?_) (fun f cdv A outer s H vs Q E hr h=>?_)
 ·obtain⟨qa,a,x,rfl,_⟩:=h;rfl
 ·obtain⟨qa,a,x,rfl,hq,q⟩:=h;have S:=zeY;refine⟨_,zac (zaF (PW.pt (zb4 (za2 (zaX (zai (zbe "tuple") rfl T.n_isinstance De (zaa (pv 0) (zaa (zbt (v:=.ty "tuple") rfl T.n_tuple K9 rfl) zae))))) (zb2 (zao zdh (zai zam rfl T.n_len B6 (zaa (pv 0) zae)) (zab) (zat _)))))
   (zaf (zal (zbl)))
   (zap))
  (zaf (zal (zdd (zay C_whole (hr.mono (by decide)) rfl (zaa (zar zav (pv 0) (zab) (fun _ _=>rfl)) zae)) (zeh (zai (zbe "str") rfl T.n_isinstance De (zaa (zar zav (pv 0) (zab) (fun _ _=>rfl)) (zaa (zbt (v:=.ty "str") rfl T.n_str Qb rfl) zae))))))),?_⟩
  refine⟨_,rfl,_,_,true,rfl,.tup hq,rfl,_,rfl,?_⟩;refine iteF ?_;refine⟨_,rfl,_,_,rfl,.inr (SqT.of hq),rfl,_,rfl,?_⟩;refine iteF ?_;refine⟨_,rfl,_,_,_,_,rfl,rfl,SqT.of hq,at0,a,rfl,_,rfl,?_⟩;refine iteT ?_;exact⟨_,rfl,_,_,_,_,rfl,rfl,SqT.of hq,at1,_,_,true,rfl,.str x,rfl,q⟩
noncomputable def sp_layings:Sp:=fun vs H Q _=>∃(p:A7)(ws:List V),vs=[.ref p]/\H p=some (.lst ws)/\(∀(i:Nat)x,ws[i]?=some x->∃q a s,x= .ref q/\H q=some (.tup [.int a,.str s]))/\Q (.bl true) H
theorem zec:FnScope ["_law_found","_law_one"] ["_law_found"] (defScope s_layings):=⟨rfl,rfl,rfl,by decide+kernel,rfl,by decide+kernel,by decide+kernel⟩
theorem ok_layings(D:DefAt K mg "_law_layings" s_layings)(T:Bn mg)(C_laying:Callee P w K mg base "_law_laying" 2 ["_law_one"] sp_laying):Callee P w K mg base "_law_layings" 3 ["_law_found"] sp_layings:=by
 refine D.callee zec (fun _ _ _ _ _ _=>ln1 fun _=>rfl) (fun vs H Q E h=>?_) (fun f cdv A outer s H vs Q E hr h=>?_)
 ·obtain⟨p,ws,rfl,_⟩:=h;rfl
 ·obtain⟨p,ws,rfl,hp,hw,q⟩:=h;have S:=zec;refine⟨_,zac (zaF (za2 (zaX (zai (zbe "list") rfl T.n_isinstance De (zaa (pv 0) (zaa (zbt (v:=.ty "list") rfl T.n_list Gn rfl) zae)))))
   (zaf (zal (zbl)))
   (zap))
  (zac (za0 Bb rfl (zaw (pv 0)) (zak (i:=1) S.nd rfl (Ao rfl))
   (zaf (zaF (za2 (zaX (zay C_laying (hr.mono (by decide)) rfl (zaa (pv 1) zae))))
    (zaf (zal (zbl)))
    (zap))))
  (zaf (zal (zbl)))),?_⟩
  refine⟨_,rfl,_,_,true,rfl,.lst hp,rfl,_,rfl,?_⟩;refine iteF ?_;refine⟨_,rfl,_,rfl,⟨_,SqL.of hp⟩,?_⟩;refine zbE (zaj K p ws) (fun i σ Hx=>Hx=H/\∃x1,σ=[some (.ref p),x1]) ⟨rfl,_,rfl⟩ (fun i σ Hx _ h=>by rw[h.1];exact SqL.of hp) ?_ ?_
  ·rintro i x σ Hx hx⟨rfl,x1,rfl⟩;obtain⟨qa,a,x',rfl,e⟩:=hw i x hx;refine⟨_,rfl,qa,a,x',rfl,e,_,rfl,?_⟩;refine iteF ?_;exact⟨rfl,_,rfl⟩
  ·rintro σ Hx⟨rfl,x1,rfl⟩;exact q
theorem at4{x y z u:V}:atI [x,y,z,u] 0=some x/\atI [x,y,z,u] 1=some y/\atI [x,y,z,u] 2=some z/\atI [x,y,z,u] 3=some u:=⟨show atI _ ((0:Nat):Int)=_ from zaB rfl,show atI _ ((1:Nat):Int)=_ from zaB rfl,show atI _ ((2:Nat):Int)=_ from zaB rfl,show atI _ ((3:Nat):Int)=_ from zaB rfl⟩
theorem ze7{H:Hp}{ws:List V}{nm:Nat->Str}{n:Nat}(r:LaysR H ws nm n):∀(i:Nat)x,ws[i]?=some x->∃q a s,x= .ref q/\H q=some (.tup [.int a,.str s]):=fun i x h=>by
 obtain⟨j,_,q,e1,e2⟩:=Bv.rev r h;exact⟨q,_,_,e1,e2⟩
noncomputable def sp_lineform:Sp:=fun vs H Q _=>∃(t:A7)(C:Combs),vs=[.ref t]/\LineR H t C/\∀H',Same H H'->Q (.bl true) H'
theorem zdy:FnScope ["_law_told"] ["_law_told"] (defScope s_lineform):=⟨rfl,rfl,rfl,by decide+kernel,rfl,by decide+kernel,by decide+kernel⟩
theorem ok_lineform(D:DefAt K mg "_law_lineform" s_lineform)(T:Bn mg)(C_whole:Callee P w K mg base "_law_whole" 1 ["_law_found"] sp_whole)(C_layings:Callee P w K mg base "_law_layings" 3 ["_law_found"] sp_layings):Callee P w K mg base "_law_lineform" 4 ["_law_told"] sp_lineform:=by
 refine D.callee zdy (fun _ _ _ _ _ _=>ln1 fun _=>rfl) (fun vs H Q E h=>?_) (fun f cdv A outer s H vs Q E hr h=>?_)
 ·obtain⟨t,C,rfl,_⟩:=h;rfl
 ·obtain⟨t,C,rfl,lr,q⟩:=h;have S:=zdy;refine⟨_,zac (zaF (PW.pt (zb4 (za2 (zaX (zai (zbe "tuple") rfl T.n_isinstance De (zaa (pv 0) (zaa (zbt (v:=.ty "tuple") rfl T.n_tuple K9 rfl) zae))))) (zb4 (zao zgp (zai zam rfl T.n_len B6 (zaa (pv 0) zae)) (zab) (zat _)) (zb2 (za2 (zaX (zai (zbe "str") rfl T.n_isinstance De (zaa (zar zav (pv 0) (zab) (fun _ _=>rfl)) (zaa (zbt (v:=.ty "str") rfl T.n_str Qb rfl) zae)))))))))
   (zaf (zal (zbl)))
   (zap))
  (zac (zaF (zao zcn (zar zav (pv 0) (zab) (fun _ _=>rfl)) (zaK) (zat _))
   (zaf (zal (zdd (zbR zcn (zai zam rfl T.n_len B6 (zaa (pv 0) zae)) (zab) (zat _)) (zeh (zai (zbe "list") rfl T.n_isinstance De (zaa (zar zav (pv 0) (zab) (fun _ _=>rfl)) (zaa (zbt (v:=.ty "list") rfl T.n_list Gn rfl) zae)))))))
   (zap))
  (zac (zaF (PW.pt (zb4 (zao zdh (zar zav (pv 0) (zab) (fun _ _=>rfl)) (zaK) (zat _)) (zb4 (zao zdh (zai zam rfl T.n_len B6 (zaa (pv 0) zae)) (zab) (zat _)) (zb2 (za2 (zaX (zay C_layings (hr.mono (by decide)) rfl (zaa (zar zav (pv 0) (zab) (fun _ _=>rfl)) zae))))))))
   (zaf (zal (zbl)))
   (zap))
  (zac (zaF (PW.pt (zb4 (za2 (zaX (zay C_whole (hr.mono (by decide)) rfl (zaa (zar zav (pv 0) (zab) (fun _ _=>rfl)) zae)))) (zb4 (zao zgp (zar zav (pv 0) (zab) (fun _ _=>rfl)) (zab) (zat _)) (zb2 (zao zgq (zar zav (pv 0) (zab) (fun _ _=>rfl)) (zab) (zat _))))))
   (zaf (zal (zbl)))
   (zap))
  (zac (zaF (PW.pt (zb4 (za2 (zaX (zai (zbe "list") rfl T.n_isinstance De (zaa (zar zav (pv 0) (zab) (fun _ _=>rfl)) (zaa (zbt (v:=.ty "list") rfl T.n_list Gn rfl) zae))))) (zb2 (zao zdh (zai zam rfl T.n_len B6 (zaa (zar zav (pv 0) (zab) (fun _ _=>rfl)) zae)) (zar zav (pv 0) (zab) (fun _ _=>rfl)) (zat _)))))
   (zaf (zal (zbl)))
   (zap))
  (zaf (zal (zai (zcU rfl) rfl T.n_all M5 (zaa (zaL (own:=["_law_one"]) (caps:=[]) rfl ⟨rfl,rfl,rfl,rfl,trivial⟩ (zaw (zar zav (pv 0) (zab) (fun _ _=>rfl))) (fun _ _ _ _ _ _=>zak (i:=0) (zaz (by decide+kernel)) rfl (Ao rfl)) (fun _ _ _ _ _ _=>za7) (fun _ _ _ _ _ _=>zay C_whole (hr.mono (by decide)) rfl (zaa (pv 0) zae))) zae)))))))),?_⟩
  rcases lr with⟨sp,fs,nm,ps,pl,ws,ld,ht,hps,hpl,la⟩|⟨m,pc,sd,hm,ht,hpc⟩
  ·obtain⟨h1,h128,_⟩:=ld.span;refine⟨_,rfl,_,_,true,rfl,.tup ht,rfl,_,rfl,?_⟩;refine iteF ?_;refine⟨_,rfl,_,_,rfl,.inr (SqT.of ht),_,_,rfl,rfl,_,rfl,?_⟩;refine iteF ?_;refine⟨_,rfl,_,_,_,_,rfl,rfl,SqT.of ht,at4.1,_,_,true,rfl,.str _,rfl,_,rfl,?_⟩;refine iteF ?_;refine⟨_,rfl,_,_,_,_,rfl,rfl,SqT.of ht,at4.1,rfl,_,rfl,?_⟩;refine iteF ?_;refine⟨_,rfl,_,_,_,_,rfl,rfl,SqT.of ht,at4.1,rfl,_,rfl,?_⟩;refine iteF ?_;refine⟨_,rfl,_,_,rfl,.inr (SqT.of ht),rfl,_,rfl,?_⟩;refine iteF ?_;refine⟨_,rfl,_,_,_,_,rfl,rfl,SqT.of ht,at4.2.2.2,pl,ws,rfl,hpl,ze7 la,_,rfl,?_⟩;refine iteF ?_;refine⟨_,rfl,_,_,_,_,rfl,rfl,SqT.of ht,at4.2.1,_,rfl,_,rfl,?_⟩;refine iteF ?_;refine⟨_,rfl,_,_,_,_,rfl,rfl,SqT.of ht,at4.2.1,_,_,rfl,rfl,_,rfl,?_⟩;rw[decide_eq_false (show¬((sp:Nat):Int)<1 by omega)];refine iteF ?_;refine⟨_,rfl,_,_,_,_,rfl,rfl,SqT.of ht,at4.2.1,_,_,rfl,rfl,_,rfl,?_⟩;rw[decide_eq_false (show¬(128:Int)<((sp:Nat):Int) by omega)];refine iteF ?_;refine⟨_,rfl,_,_,_,_,rfl,rfl,SqT.of ht,at4.2.2.1,_,_,true,rfl,.lst hps,rfl,_,rfl,?_⟩;refine iteF ?_;refine⟨_,rfl,_,_,_,_,rfl,rfl,SqT.of ht,at4.2.2.1,_,_,rfl,.inl (SqL.of hps),_,rfl,_,_,_,_,rfl,rfl,SqT.of ht,at4.2.1,rfl,_,rfl,?_⟩;rw[A3,Am,decide_eq_true (rfl:V.int ((sp:Nat):Int)=V.int ((sp:Nat):Int))];refine iteF ?_;refine⟨_,rfl,_,_,_,_,rfl,rfl,SqT.of ht,at4.2.2.1,_,rfl,⟨_,SqL.of hps⟩,fun D hD=>?_⟩;refine zbK (capv:=[]) (by rfl) (zaj K ps _) (by rw[A3,Am];exact big (by omega)) hD (fun H' s'=>SqL.of (s' _ _ hps)) (fun _=>true) (fun _=>.bl true) (fun _ _ _=>nofun) (fun i x hx H R s' h=>h H (Same.refl _)) ?_ ?_
   ·intro i x hx _ H' R s' h;rw[Ad] at hx
    cases hk:(A4 sp)[i]? with
    |none=>rw[hk] at hx;cases hx
    |some k=>
     rw[hk] at hx
     cases hx
     exact⟨_,rfl,_,rfl,h H' (Same.refl _)⟩
   ·intro H' s' e;refine⟨_,(A4 sp).map fun _=>true,rfl,SqL.of ?_,?_⟩
    ·rw[e,Bs.mpr (fun _ _=>rfl),A3,Am,As];rfl
    ·rw[show((A4 sp).map fun _=>true).all id=true by simp];exact q H' s'
  ·refine⟨_,rfl,_,_,true,rfl,.tup ht,rfl,_,rfl,?_⟩;refine iteF ?_;refine⟨_,rfl,_,_,rfl,.inr (SqT.of ht),_,_,rfl,rfl,_,rfl,?_⟩;refine iteF ?_;refine⟨_,rfl,_,_,_,_,rfl,rfl,SqT.of ht,at0,_,_,true,rfl,.str _,rfl,_,rfl,?_⟩;refine iteF ?_;refine⟨_,rfl,_,_,_,_,rfl,rfl,SqT.of ht,at0,rfl,_,rfl,?_⟩;refine iteT ?_;refine⟨_,rfl,_,_,rfl,.inr (SqT.of ht),rfl,_,rfl,?_⟩;refine iteT ?_;exact⟨_,rfl,_,_,_,_,rfl,rfl,SqT.of ht,at1,_,_,true,rfl,.lst hpc,rfl,q H (Same.refl H)⟩
noncomputable def sp_stripform:Sp:=fun vs H Q _=>∃(t:A7)(C:Combs),vs=[.ref t]/\StripR H t C/\∀H',Same H H'->Q (.bl true) H'
theorem zc9:FnScope ["_law_told"] ["_law_told"] (defScope s_stripform):=⟨rfl,rfl,rfl,by decide+kernel,rfl,by decide+kernel,by decide+kernel⟩
theorem ok_stripform(D:DefAt K mg "_law_stripform" s_stripform)(T:Bn mg)(C_whole:Callee P w K mg base "_law_whole" 1 ["_law_found"] sp_whole)(C_layings:Callee P w K mg base "_law_layings" 3 ["_law_found"] sp_layings):Callee P w K mg base "_law_stripform" 4 ["_law_told"] sp_stripform:=by
 refine D.callee zc9 (fun _ _ _ _ _ _=>ln1 fun _=>rfl) (fun vs H Q E h=>?_) (fun f cdv A outer s H vs Q E hr h=>?_)
 ·obtain⟨t,C,rfl,_⟩:=h;rfl
 ·obtain⟨t,C,rfl,lr,q⟩:=h;have S:=zc9;refine⟨_,zac (zaF (PW.pt (zb4 (za2 (zaX (zai (zbe "tuple") rfl T.n_isinstance De (zaa (pv 0) (zaa (zbt (v:=.ty "tuple") rfl T.n_tuple K9 rfl) zae))))) (zb4 (zao zgp (zai zam rfl T.n_len B6 (zaa (pv 0) zae)) (zab) (zat _)) (zb2 (za2 (zaX (zai (zbe "str") rfl T.n_isinstance De (zaa (zar zav (pv 0) (zab) (fun _ _=>rfl)) (zaa (zbt (v:=.ty "str") rfl T.n_str Qb rfl) zae)))))))))
   (zaf (zal (zbl)))
   (zap))
  (zac (zaF (zao zcn (zar zav (pv 0) (zab) (fun _ _=>rfl)) (zaK) (zat _))
   (zaf (zal (zdd (zbR zcn (zai zam rfl T.n_len B6 (zaa (pv 0) zae)) (zab) (zat _)) (zdd (zay C_whole (hr.mono (by decide)) rfl (zaa (zar zav (pv 0) (zab) (fun _ _=>rfl)) zae)) (zeh (zai (zbe "list") rfl T.n_isinstance De (zaa (zar zav (pv 0) (zab) (fun _ _=>rfl)) (zaa (zbt (v:=.ty "list") rfl T.n_list Gn rfl) zae))))))))
   (zap))
  (zac (zaF (PW.pt (zb4 (zao zdh (zar zav (pv 0) (zab) (fun _ _=>rfl)) (zaK) (zat _)) (zb4 (zao zdh (zai zam rfl T.n_len B6 (zaa (pv 0) zae)) (zab) (zat _)) (zb2 (za2 (zaX (zay C_layings (hr.mono (by decide)) rfl (zaa (zar zav (pv 0) (zab) (fun _ _=>rfl)) zae))))))))
   (zaf (zal (zbl)))
   (zap))
  (zac (zaF (PW.pt (zb4 (za2 (zaX (zay C_whole (hr.mono (by decide)) rfl (zaa (zar zav (pv 0) (zab) (fun _ _=>rfl)) zae)))) (zb2 (za2 (zaX (zay C_whole (hr.mono (by decide)) rfl (zaa (zar zav (pv 0) (zab) (fun _ _=>rfl)) zae)))))))
   (zaf (zal (zbl)))
   (zap))
  (zaf (zal (zdd (zbR zeA (zar zav (pv 0) (zab) (fun _ _=>rfl)) (zab) (zat _)) (zdd (zbR zeA (zar zav (pv 0) (zab) (fun _ _=>rfl)) (zab) (zat _)) (zeh (zbR zez (zax zbi (zar zav (pv 0) (zab) (fun _ _=>rfl)) (zar zav (pv 0) (zab) (fun _ _=>rfl))) (zab) (zat _)))))))))),?_⟩
  rcases lr with⟨m,st,n,pl,ws,sd,ht,hpl,la⟩|⟨m,k,pr,ws,hfix,hz,e1,e2,e3,ht,hpr,rn⟩
  ·obtain⟨_,_,h1,h128,_⟩:=sd;refine⟨_,rfl,_,_,true,rfl,.tup ht,rfl,_,rfl,?_⟩;refine iteF ?_;refine⟨_,rfl,_,_,rfl,.inr (SqT.of ht),_,_,rfl,rfl,_,rfl,?_⟩;refine iteF ?_;refine⟨_,rfl,_,_,_,_,rfl,rfl,SqT.of ht,at4.1,_,_,true,rfl,.str _,rfl,_,rfl,?_⟩;refine iteF ?_;refine⟨_,rfl,_,_,_,_,rfl,rfl,SqT.of ht,at4.1,rfl,_,rfl,?_⟩;refine iteF ?_;refine⟨_,rfl,_,_,_,_,rfl,rfl,SqT.of ht,at4.1,rfl,_,rfl,?_⟩;refine iteF ?_;refine⟨_,rfl,_,_,rfl,.inr (SqT.of ht),rfl,_,rfl,?_⟩;refine iteF ?_;refine⟨_,rfl,_,_,_,_,rfl,rfl,SqT.of ht,at4.2.2.2,pl,ws,rfl,hpl,ze7 la,_,rfl,?_⟩;refine iteF ?_;refine⟨_,rfl,_,_,_,_,rfl,rfl,SqT.of ht,at4.2.1,_,rfl,_,rfl,?_⟩;refine iteF ?_;refine⟨_,rfl,_,_,_,_,rfl,rfl,SqT.of ht,at4.2.2.1,_,rfl,_,rfl,?_⟩;refine iteF ?_;refine⟨_,rfl,_,_,_,_,rfl,rfl,SqT.of ht,at4.2.1,_,_,rfl,rfl,_,rfl,?_⟩;rw[decide_eq_true (show(0:Int)<=((st:Nat):Int) by omega)];refine iteT ?_;refine⟨_,rfl,_,_,_,_,rfl,rfl,SqT.of ht,at4.2.2.1,_,_,rfl,rfl,_,rfl,?_⟩;rw[decide_eq_true (show(1:Int)<=((n-st:Nat):Int) by omega)];refine iteT ?_;refine⟨_,rfl,_,_,_,_,rfl,rfl,SqT.of ht,at4.2.1,_,rfl,_,_,_,_,rfl,rfl,SqT.of ht,at4.2.2.1,_,_,rfl,rfl,_,_,rfl,rfl,?_⟩;show Q (.bl (decide (((st:Nat):Int)+((n-st:Nat):Int)<=128))) H;rw[decide_eq_true (show((st:Nat):Int)+((n-st:Nat):Int)<=128 by omega)];exact q H (Same.refl H)
  ·refine⟨_,rfl,_,_,true,rfl,.tup ht,rfl,_,rfl,?_⟩;refine iteF ?_;refine⟨_,rfl,_,_,rfl,.inr (SqT.of ht),_,_,rfl,rfl,_,rfl,?_⟩;refine iteF ?_;refine⟨_,rfl,_,_,_,_,rfl,rfl,SqT.of ht,at3s.1,_,_,true,rfl,.str _,rfl,_,rfl,?_⟩;refine iteF ?_;refine⟨_,rfl,_,_,_,_,rfl,rfl,SqT.of ht,at3s.1,rfl,_,rfl,?_⟩;refine iteT ?_;refine⟨_,rfl,_,_,rfl,.inr (SqT.of ht),rfl,_,rfl,?_⟩;refine iteT ?_;refine⟨_,rfl,_,_,_,_,rfl,rfl,SqT.of ht,at3s.2.1,_,rfl,_,rfl,?_⟩;refine iteT ?_;exact⟨_,rfl,_,_,_,_,rfl,rfl,SqT.of ht,at3s.2.2,_,_,true,rfl,.lst hpr,rfl,q H (Same.refl H)⟩
noncomputable def sp_unrolled:Sp:=fun vs H Q _=>∃(pl:A7)(st n:Nat)(nm:Nat->Str)(ws:List V),vs=[.ref pl,.int (st:Nat),.int ((n-st:Nat):Int),.int 4]/\H pl=some (.lst ws)/\LaysR H ws nm n/\st<n/\n<=200/\(∀j k,st<=j->nm (j+k*(n-st))=nm j)/\∀p vs' H',Same H H'->H' p=some (.lst vs')->LaysR H' vs' nm (st+4*(n-st))->Q (.ref p) H'
theorem zdw:FnScope ["_law_layings_here","_law_begin","_law_span","_law_many","_law_found","_law_turns","_law_k","_law_place","_law_word_here"] ["_law_layings_here","_law_begin","_law_span","_law_many"] (defScope s_unrolled):=⟨rfl,rfl,rfl,by decide+kernel,rfl,by decide+kernel,by decide+kernel⟩
theorem ok_unrolled(D:DefAt K mg "_law_unrolled" s_unrolled)(T:Bn mg):Callee P w K mg base "_law_unrolled" 1 ["_law_layings_here","_law_begin","_law_span","_law_many"] sp_unrolled:=by
 refine D.callee zdw (fun _ _ _ _ _ _=>ln4 fun _ _ _ _=>rfl) (fun vs H Q E h=>?_) (fun f cdv A outer s H vs Q E hr h=>?_)
 ·obtain⟨pl,st,n,nm,ws,rfl,_⟩:=h;rfl
 ·obtain⟨pl,st,n,nm,ws,rfl,hpl,la,hst,hn,per,q⟩:=h;have S:=zdw;refine⟨_,zac (zan (i:=4) S.nd rfl (Ao rfl) (zbh zbL rfl T.n_list Gn (zaa (pv 0) zae)))
  (zac (zey (i:=5) S.nd rfl (Ao rfl) (own:=["_law_one"]) (caps:=[(1,"_law_begin")]) rfl ⟨rfl,rfl,rfl,rfl,⟨⟨rfl,rfl,.inl rfl⟩,trivial⟩⟩ (zaw (pv 0)) (fun _ _ _ _ _ _=>zak (i:=0) (zaz (by decide+kernel)) rfl (Ao rfl)) (fun _ _ _ _ _ _=>zby (zao zeA (zar (zbT K rfl) (pv 0) (zab) (fun _ _=>rfl)) (pv 1) (zat _))) (fun _ _ _ _ _ _=>pv 0))
  (zac (za0 Bb rfl (ze1 rfl T.n_range (zaa (zab) (zaa (pv 3) zae))) (zak (i:=6) S.nd rfl (Ao rfl))
   (zaf (za0 Bb rfl (zaw (pv 5)) (zdG rfl (zaC (zak (i:=7) S.nd rfl (Ao rfl)) (zaC (zak (i:=8) S.nd rfl (Ao rfl)) (zbz))))
    (zaf (zaT (zcd B8 Bh Bg zaE (pv 4) (zaa (zba (zaa (zax zbi (pv 7) (zax zdJ (pv 6) (pv 2))) (zaa (pv 8) zae))) zae)))))))
  (zaf (zal (pv 4))))),?_⟩
  refine⟨_,rfl,_,_,rfl,.inl (SqL.of hpl),fun fo nfo=>?_⟩;have s1:Same H (upd H fo (.lst ws)):=Same.new nfo;have hfo1:upd H fo (.lst ws) fo=some (.lst ws):=zad;have la1:LaysR (upd H fo (.lst ws)) ws nm n:=la.mono fun _ _ e=>s1 _ _ e;generalize hH1:upd H fo (.lst ws)=H1 at s1 hfo1 la1⊢;have hlen:=la.len;have hll:=Bw la;refine⟨_,rfl,_,rfl,⟨_,SqL.of (s1 _ _ hpl)⟩,fun D hD=>?_⟩;have hDf:D≠fo:=fun z=>by rw[z,hfo1] at hD;cases hD
  have hvD:∀j,j<ws.length->ws.getD j .non≠.ref D:=fun j hj z=>by
   obtain⟨y,ey,qa,rfl,e2⟩:=Bv.at la1 (A5 (show j<_ by rw[hll];exact hj));rw[A8,ey,Dn] at z;injection z with z;rw[z,hD] at e2
   cases e2
  refine zbK (capv:=[some (.int (st:Nat))]) (by rfl) (zaj K pl ws) (big (by omega)) hD (fun H' s'=>SqL.of (s' _ _ (s1 _ _ hpl))) (fun j=>decide (st<=(laid nm n).getD j 0)) (fun j=>ws.getD j .non) (fun j hj _=>hvD j hj) ?_ ?_ ?_
  ·intro j x hx H' R s' h;have hj:j<(laid nm n).length:=by unfold laid;rw[hll];exact(Ag.mp hx).1
   obtain⟨y,ey,qa,rfl,e2⟩:=Bv.at la1 (A5 hj);rw[hx] at ey
   cases ey
   refine⟨_,rfl,_,_,_,_,rfl,rfl,SqT.of (s' _ _ e2),at0,_,rfl,_,_,rfl,rfl,_,rfl,?_⟩;have:=h H' (Same.refl _);rw[A8,A5 hj,Dn] at this;have e3:(decide ((st:Int)<=(((laid nm n)[j]:Nat):Int)))=decide (st<=(laid nm n)[j]):=by
    rw[decide_eq_decide];omega
   rw[<-e3] at this;exact this
  ·intro j x hx _ H' R s' h;refine⟨_,rfl,?_⟩;have:=h H' (Same.refl _);rw[A8,hx] at this;exact this
  intro H2 s2 e2;have eT:((A4 ws.length).filter fun j=>decide (st<=(laid nm n).getD j 0)).map (fun j=>(laid nm n).getD j 0)=(laid nm n).filter fun j=>decide (st<=j):=by
   have:=zc4 (laid nm n) (fun j=>decide (st<=j)) 0;rwa[show(laid nm n).length=ws.length from hll] at this
  have tu:PL H2 (((A4 ws.length).filter fun j=>decide (st<=(laid nm n).getD j 0)).map fun j=>ws.getD j .non) nm ((laid nm n).filter fun j=>decide (st<=j)):=by
   rw[<-eT];have:∀{l:List Nat},(∀j∈l,j<ws.length)->PL H2 (l.map fun j=>ws.getD j .non) nm (l.map fun j=>(laid nm n).getD j 0):=by
    intro l
    induction l with
    |nil=>exact fun _=>.nil
    |cons j l ih=>
     intro h;have hj:=h j Aj;obtain⟨y,ey,qa,rfl,e3⟩:=Bv.at la1 (A5 (show j<(laid nm n).length by unfold laid;rw[hll];exact hj));refine .cons ⟨qa,?_,?_⟩ (ih fun i hi=>h i (Ab _ hi))
     ·show ws.getD j .non=_;rw[A8,ey];rfl
     ·show H2 qa=some (HO.tup [V.int (((laid nm n).getD j 0:Nat):Int),V.str (nm ((laid nm n).getD j 0))]);rw[A8,A5 (show j<(laid nm n).length by unfold laid;rw[hll];exact hj)];exact s2 _ _ e3
   exact this fun j hj=>Ay.mp (Aq.mp hj).1
  have la2:=la1.mono fun _ _ e=>s2 _ _ e;have hfo2:=s2 _ _ hfo1;have sx0:=s1.trans s2;have hDx0:=e2;generalize htl:(((A4 ws.length).filter fun j=>decide (st<=(laid nm n).getD j 0)).map fun j=>ws.getD j .non)=tv at tu e2;have htl2:=Bw tu;have htb:tv.length<=200:=by
   rw[<-htl2];refine Bm (Bu _ _) ?_;unfold laid;rw[hll];omega
  refine⟨_,rfl,1,4,rfl,by decide,?_⟩;refine zbE (zaP 1 3) (fun i σ Hx=>Same H Hx/\∃vs' x6 x7 x8,σ=[some (.ref pl),some (.int (st:Nat)),some (.int ((n-st:Nat):Int)),some (.int 4),some (.ref fo),some (.ref D),x6,x7,x8]/\Hx fo=some (.lst vs')/\Hx D=some (.lst tv)/\PL Hx tv nm ((laid nm n).filter fun j=>decide (st<=j))/\PL Hx vs' nm (laid nm (st+(1+i)*(n-st)))) ⟨sx0,ws,_,_,_,rfl,hfo2,e2,tu,?_⟩ (fun _ _ _ _ _=>trivial) ?_ ?_
  ·rw[show st+(1+0)*(n-st)=n by omega];exact la2
  ·rintro i x σ Hx hx⟨sx,vs',x6,x7,x8,rfl,hfo,hDx,tux,pvx⟩;obtain⟨hi,rfl⟩:=zbr hx;have hi:i<3:=hi;refine⟨_,rfl,_,rfl,⟨_,SqL.of hDx⟩,?_⟩;have hvl:=Bw pvx;have hlb:vs'.length<=1200:=by
    rw[<-hvl];unfold laid;refine Bm (Bu _ _) ?_;rw[Am];have:(1+i)*(n-st)<=3*200:=Og (by omega) (by omega);omega
   refine zbE (zaj K D tv) (fun j σ Hy=>Same H Hy/\∃vs'' x7 x8,σ=[some (.ref pl),some (.int (st:Nat)),some (.int ((n-st:Nat):Int)),some (.int 4),some (.ref fo),some (.ref D),some (.int (1+(i:Nat))),x7,x8]/\Hy fo=some (.lst vs'')/\Hy D=some (.lst tv)/\PL Hy tv nm ((laid nm n).filter fun j=>decide (st<=j))/\PL Hy vs'' nm (laid nm (st+(1+i)*(n-st))++(((laid nm n).filter fun j=>decide (st<=j)).take j).map fun a=>a+(1+i)*(n-st))) ⟨sx,vs',_,_,rfl,hfo,hDx,tux,by simpa using pvx⟩ (fun j σ Hy _ h=>by obtain⟨_,_,_,_,_,_,h,_⟩:=h;exact SqL.of h) ?_ ?_
   ·rintro j y σ Hy hy⟨sy,vs'',x7,x8,rfl,hfoy,hDy,tuy,pvy⟩;have hj:j<((laid nm n).filter fun j=>decide (st<=j)).length:=by rw[htl2];exact(Ag.mp hy).1
    obtain⟨y',ey,qa,rfl,e3⟩:=Bv.at tuy (A5 hj);rw[hy] at ey
    cases ey
    have hvl2:=Bw pvy;rw[Af,hvl,A3,Cg] at hvl2;refine⟨qa,_,rfl,SqT.of e3,rfl,_,_,rfl,_,_,rfl,rfl,?_⟩;refine⟨_,rfl,.inl ⟨rfl,_,SqL.of hfoy⟩,_,rfl,_,rfl,_,rfl,_,_,rfl,rfl,.inl ⟨by omega,by omega⟩,_,_,rfl,rfl,_,rfl,bigr rfl,fun t nt=>?_⟩;have hge:st<=((laid nm n).filter fun j=>decide (st<=j))[j]:=of_decide_eq_true (Aq.mp (C8 hj)).2;have s3:Same Hy _:=Same.new (o:=HO.tup [V.int ((((laid nm n).filter fun j=>decide (st<=j))[j]:Nat)+(1+((i:Nat):Int))*((n-st:Nat):Int)),V.str (nm ((laid nm n).filter fun j=>decide (st<=j))[j])]) nt;have ht3:upd Hy t (HO.tup [V.int ((((laid nm n).filter fun j=>decide (st<=j))[j]:Nat)+(1+((i:Nat):Int))*((n-st:Nat):Int)),V.str (nm ((laid nm n).filter fun j=>decide (st<=j))[j])]) t=_:=zad;have hfo3:=s3 _ _ hfoy;have hD3:=s3 _ _ hDy;have tu3:=tuy.mono fun _ _ e=>s3 _ _ e;have pv3:=pvy.mono fun _ _ e=>s3 _ _ e;have sy3:=sy.trans s3;generalize upd Hy t (HO.tup [V.int ((((laid nm n).filter fun j=>decide (st<=j))[j]:Nat)+(1+((i:Nat):Int))*((n-st:Nat):Int)),V.str (nm ((laid nm n).filter fun j=>decide (st<=j))[j])])=H3 at ht3 hfo3 hD3 tu3 pv3 sy3⊢;refine⟨fo,vs'',_,rfl,rfl,hfo3,Ak (by omega:vs''.length<2000) (by decide),?_⟩;have kt:∀qa xs,H3 qa=some (.tup xs)->upd H3 fo (.lst (vs''++[.ref t])) qa=some (.tup xs):=fun qa xs z=>by rw[zag (fun z2=>by rw[z2,hfo3] at z;cases z)];exact z
    refine⟨sy3.put nfo,_,_,_,rfl,zad,(by rw[zag hDf];exact hD3),tu3.mono kt,?_⟩;rw[Cs hj,B1,<-Av];refine Ej (pv3.mono kt) ⟨t,rfl,kt _ _ ?_⟩;rw[ht3,per _ _ hge];congr 3
   ·rintro σ Hy⟨sy,vs'',x7,x8,rfl,hfoy,hDy,tuy,pvy⟩;rw[<-htl2,Cc,<-laid_more (by omega) (fun j hj=>per j (1+i) hj)] at pvy;exact⟨sy,vs'',_,_,_,rfl,hfoy,hDy,tuy,by rw[show 1+(i+1)=1+i+1 by omega];exact pvy⟩
  ·rintro σ Hx⟨sx,vs',x6,x7,x8,rfl,hfo,hDx,tux,pvx⟩;rw[zbg] at pvx;exact⟨_,rfl,q fo vs' Hx sx hfo pvx⟩
noncomputable def sp_lteeth:Sp:=fun vs H Q _=>∃(k:A7)(x:Str)(ws:List V)(ks:Combs)(ts:List Int)(G:A7->Prop),vs=[.ref k,.str x]/\H k=some (.lst ws)/\Drawn G H ws ks/\cGet ks x=some ts/\∀t,G t->H t=some (.lst (ts.map V.int))->Q (.ref t) H
theorem zfV:FnScope ["_law_kinds","_law_word_here","_law_name","_law_teeth_here"] ["_law_kinds","_law_word_here"] (defScope s_teeth):=⟨rfl,rfl,rfl,by decide+kernel,rfl,by decide+kernel,by decide+kernel⟩
theorem ok_lteeth(D:DefAt K mg "_law_teeth" s_teeth)(T:Bn mg):Callee P w K mg base "_law_teeth" 1 ["_law_kinds","_law_word_here"] sp_lteeth:=by
 refine D.callee zfV (fun _ _ _ _ _ _=>ln2 fun _ _=>rfl) (fun vs H Q E h=>?_) (fun f cdv A outer s H vs Q E hr h=>?_)
 ·obtain⟨k,x,ws,ks,ts,G,rfl,_⟩:=h;rfl
 ·obtain⟨k,x,ws,ks,ts,G,rfl,hk,dr,hg,q⟩:=h;have S:=zfV;have hlen:=dr.rows.length;refine⟨_,zac (za0 Bb rfl (zaw (pv 0)) (zf5 rfl (zaC (zak (i:=2) S.nd rfl (Ao rfl)) (zaC (zak (i:=3) S.nd rfl (Ao rfl)) (zbz))))
   (zaf (zaF (zao zcn (pv 2) (pv 1) (zat _))
    (zaf (zal (pv 3)))
    (zap))))
  (zaf (zal (zaQ (zae)))),?_⟩
  refine⟨_,rfl,_,rfl,⟨_,SqL.of hk⟩,?_⟩;refine zbE (zaj K k ws) (fun i σ Hx=>Hx=H/\(∀c∈ks.take i,c.1≠x)/\∃x2 x3,σ=[some (.ref k),some (.str x),x2,x3]) ⟨rfl,by simp,_,_,rfl⟩ (fun i σ Hx _ h=>by rw[h.1];exact SqL.of hk) ?_ ?_
  ·rintro i y σ Hx hx⟨rfl,hno,x2,x3,rfl⟩;obtain⟨c,qa,t,hc,rfl,hq,ht,hgt⟩:=dr.rows.getG hx;refine⟨qa,_,rfl,SqL.of hq,rfl,_,_,rfl,_,_,rfl,rfl,?_⟩;refine⟨_,rfl,_,rfl,rfl,_,rfl,?_⟩;by_cases e:c.1=x
   ·rw[decide_eq_true (by rw[e])];refine iteT ?_;have:=zbj dr.nd (Bd hc);rw[e,hg] at this;refine⟨_,rfl,q t hgt ?_⟩;rw[ht,C1 this]
   ·rw[decide_eq_false (fun z=>e (by injection z))];refine iteF ?_;refine⟨rfl,fun c' hc'=>?_,_,_,rfl⟩;rw[zaH hc] at hc';rcases Ap.mp hc' with z|z
    ·exact hno c' z
    ·rw[A9.mp z];exact e
  ·rintro σ Hx⟨rfl,hno,x2,x3,rfl⟩;rw[D8 (by omega)] at hno;exact absurd rfl (hno _ (zbM hg))
noncomputable def ovL(al:Nat->Nat->Bool)(i m:Nat):List V:=(A4 m).map fun p=>V.int ((ov al i p:Nat):Int)
noncomputable def sp_coversto:Sp:=fun vs H Q _=>∃(k l:A7)(n:Nat)(nm:Nat->Str)(ws wl:List V)(ks:Combs)(al:Nat->Nat->Bool),vs=[.ref k,.ref l,.int (n:Nat)]/\H k=some (.lst ws)/\Drawn (fun _=>True) H ws ks/\H l=some (.lst wl)/\LaysR H wl nm n/\n<=1500/\Walk al (fun i t=>decide ((t:Int)∈tkOf ks (nm i)))/\(∀j,nm j≠A2 ""->(cGet ks (nm j)).isSome=true)/\cGet ks (A2 "")=none/\∀H',Same H H'->Q (.bl true) H'
theorem eqv_nilL{d:Ih}{ds:List Ih}:Dt (.list (d::ds)) (.list [])=false:=by simp[Dt,Ew]
theorem shaped_intsL(a:List Int):El (.list (a.map Dz))=true:=by
 have h1:C6 (a.map Dz)=true:=by
  induction a with
  |nil=>rfl
  |cons x a ih=>rw[An,C6,ih];rfl
 have h2:∀a:List Int,Dj (a.map Dz)=0:=by
  intro a
  induction a with
  |nil=>rfl
  |cons x a ih=>rw[An,Dj,ih];rfl
 simp[El,F6,Gg,h1,h2]
theorem zgc{H:Hp}{ws:List V}{nm:Nat->Str}{n:Nat}(r:LaysR H ws nm n){i:Nat}{x:V}(h:ws[i]?=some x):∃j q,(laid nm n)[i]?=some j/\x= .ref q/\H q=some (.tup [.int (j:Int),.str (nm j)])/\j<n/\nm j≠A2 "":=by
 obtain⟨j,e0,q,e1,e2⟩:=Bv.rev r h;obtain⟨h1,h2⟩:=Aq.mp (Bd e0);exact⟨j,q,e0,e1,e2,Ay.mp h1,by simpa using h2⟩
theorem cut_toL(ws:List V)(n:Nat):cutV ws none (some (n:Int))=ws.take n:=by
 unfold cutV;rw[HT.sIx_none,HT.sIx_nat,Kv,K1];by_cases h:n<=ws.length
 ·rw[Ir h]
 ·rw[Nat.min_eq_right (by omega),D8 (Ac _),D8 (by omega)]
theorem rep_one(m:Nat)(v:V):(C5 m [v]).flatten=C5 m v:=by
 induction m with
 |zero=>rfl
 |succ m ih=>rw[Ec,Fq,ih,Ec];rfl
theorem zdA:FnScope ["_law_kinds","_law_layings_here","_law_many","_law_over","_law_last","_law_place","_law_word_here","_law_teeth_here","_law_t"] ["_law_kinds","_law_layings_here","_law_many"] (defScope s_coversto):=⟨rfl,rfl,rfl,by decide+kernel,rfl,by decide+kernel,by decide+kernel⟩
theorem ok_coversto(D:DefAt K mg "_law_coversto" s_coversto)(T:Bn mg)(C_teeth:Callee P w K mg base "_law_teeth" 1 ["_law_kinds","_law_word_here"] sp_lteeth):Callee P w K mg base "_law_coversto" 2 ["_law_kinds","_law_layings_here","_law_many"] sp_coversto:=by
 refine D.callee zdA (fun _ _ _ _ _ _=>ln3 fun _ _ _=>rfl) (fun vs H Q E h=>?_) (fun f cdv A outer s H vs Q E hr h=>?_)
 ·obtain⟨k,l,n,nm,ws,wl,ks,al,rfl,_⟩:=h;rfl
 ·obtain⟨k,l,n,nm,ws,wl,ks,al,rfl,hk,dr,hl,lr,hn,W,hnm,hno,q⟩:=h;have S:=zdA;have hsz:(2000:Nat)<=sizeLine:=by decide
  have gc:GC ks:=fun c hc=>(dr.good c hc).2;have hll:=Bw lr;have hemp:∀(i t:Nat),nm i=A2 ""->decide ((t:Int)∈tkOf ks (nm i))=false:=fun i t e=>by
   unfold tkOf;rw[e,hno];exact decide_eq_false nofun
  refine⟨_,zac (zan (i:=3) S.nd rfl (Ao rfl) (zax op_rep (zaQ (zaa (zab) zae)) (zax zbi (pv 2) (zab))))
  (zac (zan (i:=4) S.nd rfl (Ao rfl) (zd3 zco (zab)))
  (zac (za0 Bb rfl (zaw (pv 1)) (zdG rfl (zaC (zak (i:=5) S.nd rfl (Ao rfl)) (zaC (zak (i:=6) S.nd rfl (Ao rfl)) (zbz))))
   (zac (zan (i:=7) S.nd rfl (Ao rfl) (zay C_teeth (hr.mono (by decide)) rfl (zaa (pv 0) (zaa (pv 6) zae))))
   (zac (zaF (PW.pt (zb4 (zao zez (pv 5) (pv 4) (zat _)) (zb4 (zao zeA (pv 5) (pv 2) (zat _)) (zb2 (zao (op_eqD hr.units) (pv 7) (zaQ (zae)) (zat _))))))
    (zaf (zal (zbl)))
    (zap))
   (zac (zan (i:=4) S.nd rfl (Ao rfl) (pv 5))
   (zaf (za0 Bb rfl (zaw (pv 7)) (zak (i:=8) S.nd rfl (Ao rfl))
    (zaf (zgS (zax zbi (zar zaA (pv 3) (zax zbi (pv 5) (pv 8)) (fun _ _=>rfl)) (zab)) (zhL (pv 3) (zax zbi (pv 5) (pv 8)) zfS)))))))))
  (zaf (zal (zdd (zai (zcU rfl) rfl T.n_all M5 (zaa (zaL (own:=["_law_one"]) (caps:=[]) rfl ⟨rfl,rfl,rfl,rfl,trivial⟩ (zaw (zf6 zgE (pv 3) (zgU) (zgT (pv 2)))) (fun _ _ _ _ _ _=>zak (i:=0) (zaz (by decide+kernel)) rfl (Ao rfl)) (fun _ _ _ _ _ _=>za7) (fun _ _ _ _ _ _=>zbR zcn (pv 0) (zab) (zat _))) zae)) (zeh (zbR zgp (zai (zfk rfl) rfl T.n_max boot_max (zaa (pv 3) zae)) (zab) (zat _)))))))),?_⟩
  refine⟨bigr rfl,fun z nz=>⟨_,rfl,_,_,rfl,rfl,_,_,_,rfl,rfl,zad,by omega,by omega,?_,fun po npo=>?_⟩⟩
  ·rw[Bx];omega
  have s1:Same H (upd (upd H z (.lst [.int 0])) po (.lst (C5 (((n:Nat):Int)+8).toNat [V.int 0]).flatten)):=(Same.new nz).trans (Same.new npo);have hpo:upd (upd H z (.lst [.int 0])) po (.lst (C5 (((n:Nat):Int)+8).toNat [V.int 0]).flatten) po=some (.lst (ovL al 0 (n+8))):=by
   rw[zad,rep_one,show(((n:Nat):Int)+8).toNat=n+8 by omega];congr 2;refine(List.eq_replicate_iff.mpr ⟨by unfold ovL;rw[A3,Am],fun b hb=>?_⟩).symm;obtain⟨p,_,rfl⟩:=Aa.mp hb;rw[W.zero];rfl
  have npo0:H po=none:=(Same.new nz).free npo;generalize upd (upd H z (.lst [.int 0])) po (.lst (C5 (((n:Nat):Int)+8).toNat [V.int 0]).flatten)=H1 at s1 hpo⊢;refine⟨_,rfl,?_⟩;refine⟨_,rfl,_,rfl,⟨_,SqL.of (s1 _ _ hl)⟩,?_⟩;refine zbE (zaj K l wl) (fun i σ Hx=>Same H Hx/\∃(a:Nat)(last:Int)(x5 x6 x7 x8:Option V),σ=[some (.ref k),some (.ref l),some (.int (n:Nat)),some (.ref po),some (.int last),x5,x6,x7,x8]/\cn nm a=i/\Hx po=some (.lst (ovL al a (n+8)))/\∀i' j:Nat,i<=i'->(laid nm n)[i']?=some j->last<(j:Int)) ⟨s1,0,-1,_,_,_,_,rfl,rfl,hpo,fun i' j _ _=>by omega⟩ (fun i σ Hx _ h=>SqL.of (h.1 _ _ hl)) ?_ ?_
  ·rintro i x σ Hx hx⟨sx,a,last,x5,x6,x7,x8,rfl,hca,hpx,hlast⟩;obtain⟨j,qa,ej,rfl,hqa,hj,hne⟩:=zgc lr hx;obtain⟨ts,hts⟩:=E2.mp (hnm j hne);have gts:GT ts:=gc _ (zbM hts);have hlt:=hlast i j (Ac _) ej;have hcj:=(laid_idx ej).2.2;have etks:tkOf ks (nm j)=ts:=by unfold tkOf;rw[hts];rfl
   refine⟨qa,_,rfl,SqT.of (sx _ _ hqa),rfl,_,_,rfl,_,_,rfl,rfl,?_⟩;refine⟨_,rfl,_,rfl,k,nm j,ws,ks,ts,_,rfl,sx _ _ hk,dr.live.same sx,hts,fun t ht0 ht=>?_⟩;refine⟨_,rfl,_,rfl,_,_,rfl,rfl,_,rfl,?_⟩;rw[decide_eq_false (show¬((j:Nat):Int)<=last by omega)];refine iteF ?_;refine⟨_,rfl,_,rfl,_,_,rfl,rfl,_,rfl,?_⟩;rw[decide_eq_false (show¬((n:Nat):Int)<=((j:Nat):Int) by omega)];refine iteF ?_;refine⟨_,rfl,bigr rfl,fun pn npn=>?_⟩;have s7:Same Hx (upd Hx pn (.lst [])):=Same.new npn;refine⟨.list (ts.map Dz),.list [],.lst (SqL.of (s7 _ _ ht)) (VDs.map fun u _=>.int u),.lst (SqL.of zad) .nil,shaped_intsL ts,by decide,_,rfl,?_⟩;have hz:Dt (.list (ts.map Dz)) (.list [])=false:=by
    cases ts with
    |nil=>exact absurd (zbU gts) (by simp)
    |cons u us=>exact eqv_nilL
   rw[if_neg Ah,hz];refine iteF ?_;refine⟨_,rfl,?_⟩;refine⟨_,rfl,_,rfl,⟨_,SqL.of (s7 _ _ ht)⟩,?_⟩;have hpx7:=s7 _ _ hpx;have ht7:=s7 _ _ ht;have sx7:=sx.trans s7;have htp:t≠po:=fun e=>ht0 (by rw[e];exact npo0);generalize upd Hx pn (.lst [])=H7 at hpx7 ht7 sx7;refine zbE (zaj K t (ts.map V.int)) (fun i' σ Hy=>Same H Hy/\Hy t=some (.lst (ts.map V.int))/\∃x8,σ=[some (.ref k),some (.ref l),some (.int (n:Nat)),some (.ref po),some (.int (j:Nat)),some (.int (j:Nat)),some (.str (nm j)),some (.ref t),x8]/\Hy po=some (.lst ((A4 (n+8)).map fun p=>V.int (((ov al j p+((ts.take i').map fun t=>j+t.toNat).count p:Nat)):Int)))) ⟨sx7,ht7,_,rfl,?_⟩ (fun i' σ Hy _ h=>SqL.of h.2.1) ?_ ?_
   ·rw[hpx7];congr 2;unfold ovL;refine Be fun p _=>?_;rw[W.same' hemp (show cn nm a=cn nm j by omega) p];simp
   ·rintro i' y σ Hy hy⟨sy,hty,x8,rfl,hpy⟩;rw[Ad] at hy
    cases hu:ts[i']? with
    |none=>rw[hu] at hy;cases hy
    |some u=>
     rw[hu] at hy
     cases hy
     have hub:=zbF gts u (Bd hu);have hjn:j+u.toNat<n+8:=by omega
     have hix:ixN ((A4 (n+8)).map fun p=>V.int (((ov al j p+((ts.take i').map fun t=>j+t.toNat).count p:Nat)):Int)).length (((j:Nat):Int)+u)=some (j+u.toNat):=by
      unfold ixN;rw[A3,Am,if_pos (by omega),if_pos (by omega)];congr 1;omega
     refine⟨_,rfl,_,rfl,_,rfl,_,_,rfl,rfl,_,_,_,_,rfl,rfl,SqL.of hpy,zdZ (by omega) (v:=V.int (((ov al j (j+u.toNat)+((ts.take i').map fun t=>j+t.toNat).count (j+u.toNat):Nat)):Int)) ?_,_,_,rfl,rfl,?_⟩
     ·rw[show(((j:Nat):Int)+u).toNat=j+u.toNat by omega,Ad,Cn hjn];rfl
     refine⟨_,rfl,_,rfl,_,rfl,_,_,rfl,rfl,po,_,_,_,rfl,rfl,hpy,hix,?_⟩;refine⟨sy.put npo0,(by rw[zag htp];exact hty),_,rfl,?_⟩;rw[zad,zg5 _ _ hjn];congr 2;refine Be fun p _=>?_;rw[zaH hu,B1,Fv];by_cases e:p=j+u.toNat
     ·subst e;rw[if_pos rfl];simp;omega
     ·rw[if_neg e];simp[E7 e]
   ·rintro σ Hy⟨sy,hty,x8,rfl,hpy⟩;rw[A3,Cc] at hpy;refine⟨sy,j+1,_,_,_,_,_,rfl,?_,?_,fun i' j' hi' ej'=>?_⟩
    ·rw[zfC,if_pos hne,hcj]
    ·rw[hpy];congr 2;unfold ovL;refine Be fun p _=>?_;rw[W.step j p,count_teeth (zaU (zeI gts)) (fun t ht=>(zbF gts t ht).1),etks]
    ·have hp':=laid_up nm n;rw[Df] at hp';obtain⟨h2a,h2b⟩:=Ag.mp ej;obtain⟨h3a,h3b⟩:=Ag.mp ej';have:=hp' i i' h2a h3a (by omega);rw[h2b,h3b] at this;omega
  ·rintro σ Hx⟨sx,a,last,x5,x6,x7,x8,rfl,hca,hpx,_⟩;have eov:ovL al a (n+8)=ovL al n (n+8):=by
    unfold ovL;refine Be fun p _=>?_;rw[W.same' hemp (show cn nm a=cn nm n by rw[hca];exact hll.symm) p]
   rw[eov] at hpx;refine⟨_,rfl,_,rfl,_,rfl,_,_,rfl,SqL.of hpx,fun ps nps=>?_⟩;have s2:Same Hx (upd Hx ps (.lst (cutV (ovL al n (n+8)) none (some ((n:Nat):Int))))):=Same.new nps;have hps:upd Hx ps (.lst (cutV (ovL al n (n+8)) none (some ((n:Nat):Int)))) ps=some (.lst ((A4 n).map fun _=>V.int 1)):=by
    rw[zad,cut_toL];unfold ovL;congr 2;rw[<-List.map_take,List.take_range,Ir (by omega)];refine Be fun p hp=>?_;unfold ov;rw[if_pos (Ay.mp hp)];rfl
   have hpx2:=s2 _ _ hpx;have sx2:=sx.trans s2;generalize upd Hx ps (.lst (cutV (ovL al n (n+8)) none (some ((n:Nat):Int))))=H2 at hps hpx2 sx2⊢;refine⟨_,rfl,⟨_,SqL.of hps⟩,fun D hD=>?_⟩;refine zcv (capv:=[]) (by rfl) (zaj K ps _) (by rw[A3,Am];omega) hD (fun H' s'=>SqL.of (s' _ _ hps)) (fun _=>true) (fun _=>.bl true) ?_ ?_ ?_
   ·intro x hx H' R s' h;exact h H' (Same.refl _)
   ·intro x hx _ H' R s' h;obtain⟨p,hp,rfl⟩:=Aa.mp hx;exact⟨_,rfl,rfl,h H' (Same.refl _)⟩
   intro H3 s3 e3;refine⟨D,((A4 n).map fun _=>V.int 1).map fun _=>true,rfl,SqL.of ?_,_,rfl,?_⟩
   ·rw[e3,Bs.mpr (fun _ _=>rfl),As,As,As];rfl
   rw[Da.mpr (fun b hb=>by obtain⟨_,_,rfl⟩:=Aa.mp hb;rfl)];refine iteT ?_;refine⟨_,rfl,po,(A4 (n+8)).map fun p=>((ov al n p:Nat):Int),rfl,SqL.of (by rw[As];exact s3 _ _ hpx2),by rw[A3,Am];omega,fun M hM hMx=>⟨_,_,rfl,rfl,?_⟩⟩;obtain⟨p,_,rfl⟩:=Aa.mp hM;have:=ov_le al n p;show Q (V.bl (decide (((ov al n p:Nat):Int)<2))) H3;rw[decide_eq_true (show((ov al n p:Nat):Int)<2 by omega)];exact q _ (sx2.trans s3)
noncomputable def OvR(H0 H:Hp)(p:A7)(vs:List V)(L:List Nat)(n:Nat):Prop:=vs.length=n/\vs.Nodup/\∀r:Nat,r<n->∃q ys,vs[r]?=some (.ref q)/\H0 q=none/\q≠p/\H q=some (.lst ys)/\ys.length=L.count r
noncomputable def sp_lineover:Sp:=fun vs H Q _=>∃(k l:A7)(ws wl:List V)(ks:Combs)(sp:Nat)(nm:Nat->Str)(js:List Nat),vs=[.ref k,.int (sp:Nat),.ref l]/\H k=some (.lst ws)/\Drawn (fun _=>True) H ws ks/\H l=some (.lst wl)/\PL H wl nm js/\js.length<=128/\1<=sp/\sp<=128/\(∀j∈js,(cGet ks (nm j)).isSome=true)/\
 ∀p vs' H',Same H H'->H' p=some (.lst vs')->OvR H H' p vs' (js.flatMap (remOf ks nm sp)) sp->Q (.ref p) H'
theorem OvR.add{H0 H:Hp}{p:A7}{vs:List V}{L:List Nat}{n:Nat}(o:OvR H0 H p vs L n){r:Nat}{q:A7}{ys:List V}{v:V}(hr:r<n)(hq:vs[r]?=some (.ref q))(hy:H q=some (.lst ys)):OvR H0 (upd H q (.lst (ys++[v]))) p vs (L++[r]) n:=by
 refine⟨o.1,o.2.1,fun r' hr'=>?_⟩;obtain⟨q',ys',e1,e2,e3,e4,e5⟩:=o.2.2 r' hr';by_cases e:r'=r
 ·subst e;rw[hq] at e1
  cases e1
  rw[hy] at e4
  cases e4
  refine⟨q,ys++[v],hq,e2,e3,zad,?_⟩;rw[Af,Fv,e5];simp
 ·have hne:q'≠q:=fun z=>e ((Jw (by rw[o.1];exact hr') o.2.1).mp (by rw[e1,hq,z]));refine⟨q',ys',e1,e2,e3,by rw[zag hne];exact e4,?_⟩;rw[Fv,e5];simp[E7 e]
theorem zdx:FnScope ["_law_kinds","_law_span","_law_layings_here","_law_over","_law_place","_law_word_here","_law_t"] ["_law_kinds","_law_span","_law_layings_here"] (defScope s_lineover):=⟨rfl,rfl,rfl,by decide+kernel,rfl,by decide+kernel,by decide+kernel⟩
theorem ok_lineover(D:DefAt K mg "_law_lineover" s_lineover)(T:Bn mg)(C_teeth:Callee P w K mg base "_law_teeth" 1 ["_law_kinds","_law_word_here"] sp_lteeth):Callee P w K mg base "_law_lineover" 2 ["_law_kinds","_law_span","_law_layings_here"] sp_lineover:=by
 refine D.callee zdx (fun _ _ _ _ _ _=>ln3 fun _ _ _=>rfl) (fun vs H Q E h=>?_) (fun f cdv A outer s H vs Q E hr h=>?_)
 ·obtain⟨k,l,ws,wl,ks,sp,nm,js,rfl,_⟩:=h;rfl
 ·obtain⟨k,l,ws,wl,ks,sp,nm,js,rfl,hk,dr,hl,lr,hjs,h1,h128,hnm,q⟩:=h;have S:=zdx;have hsz:(2000:Nat)<=sizeLine:=by decide
  have gc:GC ks:=fun c hc=>(dr.good c hc).2;refine⟨_,zac (zan (i:=3) S.nd rfl (Ao rfl) (zaQ (zae)))
  (zac (za0 Bb rfl (zbs rfl T.n_range (zaa (pv 1) zae)) (zak (i:=4) S.nd rfl (Ao rfl))
   (zaf (zaT (zcd B8 Bh Bg zaE (pv 3) (zaa (zaQ (zae)) zae)))))
  (zac (za0 Bb rfl (zaw (pv 2)) (zdG rfl (zaC (zak (i:=4) S.nd rfl (Ao rfl)) (zaC (zak (i:=5) S.nd rfl (Ao rfl)) (zbz))))
   (zaf (za0 Bb rfl (zaw (zay C_teeth (hr.mono (by decide)) rfl (zaa (pv 0) (zaa (pv 5) zae)))) (zak (i:=6) S.nd rfl (Ao rfl))
    (zaf (zaT (zcd B8 Bh Bg zaE (zar zaA (pv 3) (zax zbA (zax zbi (pv 4) (pv 6)) (pv 1)) (fun _ _=>rfl)) (zaa (zba (zaa (pv 4) (zaa (pv 5) (zaa (zax zbi (pv 4) (pv 6)) zae)))) zae)))))))
  (zaf (zal (pv 3))))),?_⟩
  refine⟨bigr rfl,fun p np=>?_⟩;refine⟨_,rfl,_,rfl,by omega,by omega,?_⟩;refine zbE (zaP 0 ((sp:Nat):Int).toNat) (fun i σ Hx=>Same H Hx/\∃vs x4,σ=[some (.ref k),some (.int (sp:Nat)),some (.ref l),some (.ref p),x4,none,none]/\Hx p=some (.lst vs)/\OvR H Hx p vs [] i) ⟨Same.new np,[],_,rfl,zad,rfl,Dm,fun r hr=>by omega⟩ (fun _ _ _ _ _=>trivial) ?_ ?_
  ·rintro i x σ Hx hx⟨sx,vs,x4,rfl,hp,ov⟩;obtain⟨hi,rfl⟩:=zbr hx;have hi:i<sp:=by simpa using hi
   refine⟨_,rfl,.inl ⟨rfl,_,SqL.of hp⟩,bigr rfl,fun q1 nq1=>?_⟩;have s2:Same Hx (upd Hx q1 (.lst [])):=Same.new nq1;have hvl:=ov.1;refine⟨p,vs,_,rfl,rfl,s2 _ _ hp,by omega,?_⟩;have nq10:H q1=none:=sx.free nq1;have hqp:q1≠p:=fun z=>by rw[z,hp] at nq1;cases nq1
   refine⟨(sx.trans s2).put np,_,_,rfl,zad,by rw[Af,hvl];rfl,?_,fun r hr'=>?_⟩
   ·refine Cy.mpr ⟨ov.2.1,by simp,fun a ha b hb z=>?_⟩;rw[A9.mp hb] at z;obtain⟨r,hr',e⟩:=Dv ha;obtain⟨q',ys',e1,e2,e3,e4,_⟩:=ov.2.2 r (by omega);rw[A5 hr',e,z] at e1
    cases e1
    rw[nq1] at e4
    cases e4
   ·by_cases e:r=i
    ·subst e;exact⟨q1,[],by rw[Cb (by omega),hvl];simp,nq10,hqp,by rw[zag hqp];exact zad,rfl⟩
    ·obtain⟨q',ys',e1,e2,e3,e4,e5⟩:=ov.2.2 r (by omega);exact⟨q',ys',by rw[Co (by omega)];exact e1,e2,e3,by rw[zag e3];exact s2 _ _ e4,e5⟩
  rintro σ H1⟨s1,vs,x4,rfl,hp,ov⟩;rw[zbg,Cj] at ov;have lr1:=lr.mono fun _ _ e=>s1 _ _ e;refine⟨_,rfl,_,rfl,⟨_,SqL.of (s1 _ _ hl)⟩,?_⟩;refine zbE (zaj K l wl) (fun i σ Hx=>Same H Hx/\∃x4 x5 x6,σ=[some (.ref k),some (.int (sp:Nat)),some (.ref l),some (.ref p),x4,x5,x6]/\Hx p=some (.lst vs)/\OvR H Hx p vs ((js.take i).flatMap (remOf ks nm sp)) sp) ⟨s1,_,_,_,rfl,hp,by simpa using ov⟩ (fun i σ Hx _ h=>SqL.of (h.1 _ _ hl)) ?_ ?_
  ·rintro i x σ Hx hx⟨sx,x4,x5,x6,rfl,hpx,ovx⟩;obtain⟨j,ej,qa,rfl,hqa⟩:=Bv.rev lr hx;obtain⟨ts,hts⟩:=E2.mp (hnm j (Bd ej));have gts:GT ts:=gc _ (zbM hts);refine⟨qa,_,rfl,SqT.of (sx _ _ hqa),rfl,_,_,rfl,_,_,rfl,rfl,?_⟩;refine⟨_,rfl,_,rfl,k,nm j,ws,ks,ts,_,rfl,sx _ _ hk,dr.live.same sx,hts,fun t ht0 ht=>⟨_,rfl,⟨_,SqL.of ht⟩,?_⟩⟩;have etk:js.take (i+1)=js.take i++[j]:=zaH ej;have etks:tkOf ks (nm j)=ts:=by unfold tkOf;rw[hts];rfl
   refine zbE (zaj K t (ts.map V.int)) (fun i' σ Hy=>Same H Hy/\Hy t=some (.lst (ts.map V.int))/\∃x6,σ=[some (.ref k),some (.int (sp:Nat)),some (.ref l),some (.ref p),some (.int (j:Int)),some (.str (nm j)),x6]/\Hy p=some (.lst vs)/\OvR H Hy p vs ((js.take i).flatMap (remOf ks nm sp)++(remOf ks nm sp j).take i') sp) ⟨sx,ht,_,rfl,hpx,by simpa using ovx⟩ (fun i' σ Hy _ h=>SqL.of h.2.1) ?_ ?_
   ·rintro i' y σ Hy hy⟨sy,hty,x6,rfl,hpy,ovy⟩;rw[Ad] at hy
    cases hu:ts[i']? with
    |none=>rw[hu] at hy;cases hy
    |some u=>
     rw[hu] at hy
     cases hy
     have hsp:(0:Int)<((sp:Nat):Int):=by omega
     have m0:=Fj ((j:Int)+u) (show((sp:Nat):Int)≠0 by omega);have m1:=Ey ((j:Int)+u) hsp;obtain⟨q',ys,e1,e2,e3,e4,e5⟩:=ovy.2.2 (((j:Int)+u)%((sp:Nat):Int)).toNat (by omega);refine⟨_,rfl,_,rfl,_,rfl,_,_,rfl,rfl,_,rfl,_,_,rfl,rfl,hsp,_,_,_,_,rfl,rfl,SqL.of hpy,zdZ m0 e1,.inl ⟨rfl,_,SqL.of e4⟩,_,rfl,_,rfl,_,rfl,_,rfl,_,_,rfl,rfl,bigr rfl,fun tp ntp=>?_⟩;have s2:Same Hy (upd Hy tp (.tup [.int (j:Int),.str (nm j),.int ((j:Int)+u)])):=Same.new ntp;have hbound:ys.length<=1100:=by
      rw[e5];refine Bm Ms ?_;rw[Af];have b1:((js.take i).flatMap (remOf ks nm sp)).length<=8*128:=by
       have:∀l:List Nat,(l.flatMap (remOf ks nm sp)).length<=8*l.length:=by
        intro l
        induction l with
        |nil=>simp
        |cons a l ih=>
         rw[Fs,Af,At];have:(remOf ks nm sp a).length<=8:=by
          rw[zc1 gc,A3];exact Bm (Bu _ _) (by rw[Am];exact Ac _)
         omega
       refine Bm (this _) (Nat.mul_le_mul_left 8 ?_);rw[Cg];have:js.length<=128:=hjs;omega
      have b2:((remOf ks nm sp j).take i').length<=8:=by
       rw[Cg,zc1 gc,A3];have:=Bu (fun(t:Nat)=>decide ((t:Int)∈tkOf ks (nm j))) (A4 8);rw[Am] at this;omega
      omega
     refine⟨q',ys,_,rfl,rfl,s2 _ _ e4,by omega,?_⟩;have hqt:t≠q':=fun z=>ht0 (by rw[z];exact e2);refine⟨(sy.trans s2).put e2,(by rw[zag hqt];exact s2 _ _ hty),_,rfl,(by rw[zag e3.symm];exact s2 _ _ hpy),?_⟩;have er:(remOf ks nm sp j).take (i'+1)=(remOf ks nm sp j).take i'++[(((j:Int)+u)%((sp:Nat):Int)).toNat]:=by
      refine zaH ?_;unfold remOf;rw[etks,Ad,hu];rfl
     rw[er,<-Av];have ov2:OvR H (upd Hy tp (.tup [.int (j:Int),.str (nm j),.int ((j:Int)+u)])) p vs ((js.take i).flatMap (remOf ks nm sp)++(remOf ks nm sp j).take i') sp:=⟨ovy.1,ovy.2.1,fun r hr'=>by obtain⟨q2,y2,f1,f2,f3,f4,f5⟩:=ovy.2.2 r hr';exact⟨q2,y2,f1,f2,f3,s2 _ _ f4,f5⟩⟩;exact ov2.add (by omega) e1 (s2 _ _ e4)
   ·rintro σ Hy⟨sy,hty,x6,rfl,hpy,ovy⟩;refine⟨sy,_,_,_,rfl,hpy,?_⟩;have e9:(remOf ks nm sp j).take (ts.map V.int).length=remOf ks nm sp j:=D8 (by unfold remOf;rw[etks,A3,A3];exact Ac _);rw[e9] at ovy;rw[etk,N3,Fs,List.flatMap_nil,Ci];exact ovy
  ·rintro σ Hx⟨sx,x4,x5,x6,rfl,hpx,ovx⟩;have hll:=Bw lr;rw[D8 (by omega)] at ovx;exact⟨_,rfl,q p vs Hx sx hpx ovx⟩
theorem lays_each3{H:Hp}{ws:List V}{nm:Nat->Str}{n:Nat}(r:LaysR H ws nm n):∀(i:Nat)x,ws[i]?=some x->∃q a s,x= .ref q/\H q=some (.tup [.int a,.str s]):=fun i x h=>by
 obtain⟨j,_,q,e1,e2⟩:=Bv.rev r h;exact⟨q,_,_,e1,e2⟩
theorem zer{ks:Combs}(nd:(ks.map (·.1)).Nodup)(x:Str):tkOf (srt ks) x=tkOf ks x:=by
 unfold tkOf;rw[tk_perm (zbQ nd) (((zbQ nd).map _).nodup_iff.mpr nd)]
theorem zdL{x:Str}(h:isName x=true):x≠A2 "":=fun z=>by rw[z] at h;revert h;decide
noncomputable def sp_ended(C:A7):Sp:=fun vs H Q _=>∃(b l pk:A7)(G:A7->Prop)(cs:Combs)(past:List Combs)(ws:List V)(n:Nat),vs=[.ref b,.ref pk,.int (n:Nat)]/\Bk C G H b l cs past/\H pk=some (.lst ws)/\Drawn (fun _=>True) H ws cs/\1<=n/\n<=200/\0<Wy (srt cs) n 0/\∀H',Same H H'->Q (.bl true) H'
theorem zfZ:FnScope ["_law_book_here","_law_kinds","_law_length","_law_found"] ["_law_book_here","_law_kinds","_law_length"] (defScope s_ended):=⟨rfl,rfl,rfl,by decide+kernel,rfl,by decide+kernel,by decide+kernel⟩
theorem ok_ended{ea:Nat->A7}{C:A7}(D:DefAt K mg "_law_ended" s_ended)(T:Bn mg)(C_first_filling:Callee1 P w K mg base "first_filling" 5 ["book","length"] (sp_ffill ea C))(C_layings:Callee P w K mg base "_law_layings" 3 ["_law_found"] sp_layings)(C_unrolled:Callee P w K mg base "_law_unrolled" 1 ["_law_layings_here","_law_begin","_law_span","_law_many"] sp_unrolled)(C_coversto:Callee P w K mg base "_law_coversto" 2 ["_law_kinds","_law_layings_here","_law_many"] sp_coversto):Callee P w K mg base "_law_ended" 6 ["_law_book_here","_law_kinds","_law_length"] (sp_ended C):=by
 refine D.callee zfZ (fun _ _ _ _ _ _=>ln3 fun _ _ _=>rfl) (fun vs H Q E h=>?_) (fun f cdv A outer s H vs Q E hr h=>?_)
 ·obtain⟨b,l,pk,G,cs,past,ws,n,rfl,_⟩:=h;rfl
 ·obtain⟨b,l,pk,G,cs,past,ws,n,rfl,B,hpk,dr,h1,hn,hw,q⟩:=h;have S:=zfZ;have pm:=zbQ dr.nd;obtain⟨gcs,_⟩:=zeu B;have ne:∀c∈srt cs,c.1≠A2 "":=fun c hc=>zdL (dr.good c (pm.mem_iff.mp hc)).1;have nds:((srt cs).map (·.1)).Nodup:=(pm.map _).nodup_iff.mpr dr.nd;have hemp:cGet cs (A2 "")=none:=get_none.mpr fun z=>by
   obtain⟨c,hc,e⟩:=Aa.mp z;exact zdL (dr.good c hc).1 e
  have h0:0<=((n:Nat):Int)/\((n:Nat):Int)<=200:=⟨by omega,by omega⟩;have ek:((n:Nat):Int).toNat=n:=by omega
  refine⟨_,zac (zan (i:=3) S.nd rfl (Ao rfl) (zcO C_first_filling (hr.mono (by decide)) (by first|exact pass_try|exact zcm|exact za8) rfl (zaa (pv 0) (zaa (pv 2) zae))))
  (zac (zaF (za2 (zaX (zay C_layings (hr.mono (by decide)) rfl (zaa (pv 3) zae))))
   (zaf (zal (zbl)))
   (zap))
  (zaf (zal (zay C_coversto (hr.mono (by decide)) rfl (zaa (pv 1) (zaa (zay C_unrolled (hr.mono (by decide)) rfl (zaa (pv 3) (zaa (zab) (zaa (pv 2) (zaa (zab) zae))))) (zaa (zax zdJ (zab) (pv 2)) zae))))))),?_⟩
  refine⟨_,rfl,_,rfl,b,l,G,cs,past,_,rfl,B,?_⟩;rw[if_pos h0,ek,if_pos hw];intro r wl H2 s2 nr hr2 lr;refine⟨_,rfl,r,wl,rfl,hr2,lays_each3 lr,_,rfl,?_⟩;refine iteF ?_;have Sl:=zgG (srt cs) (A2 "");have st:∀i,i<n->(fw (srt cs) (A2 "") (Wy (srt cs)) n i).1<128/\(fnm (srt cs) (A2 "") (Wy (srt cs)) n i,((fw (srt cs) (A2 "") (Wy (srt cs)) n (i+1)).1:Int))∈stp (srt cs) (fw (srt cs) (A2 "") (Wy (srt cs)) n i).1:=fun i hi=>⟨(zhj gcs Sl hw i (by omega)).1,(zhi gcs Sl hw hi).2.2⟩;have W:=round_walk gcs nds ne h1 (f:=fun i=>(fw (srt cs) (A2 "") (Wy (srt cs)) n i).1) (nm:=fnm (srt cs) (A2 "") (Wy (srt cs)) n) rfl (fw_end gcs Sl hw) st;have go:∀i,fnm (srt cs) (Str.ofString "") (Wy (srt cs)) n (i%n)≠Str.ofString ""->(cGet cs (fnm (srt cs) (Str.ofString "") (Wy (srt cs)) n (i%n))).isSome=true:=fun i hne=>by
   obtain⟨a,b⟩:=st (i%n) (Nat.mod_lt i (by omega));rcases zhF gcs a b with⟨_,e,_⟩|⟨_,c,hc,e,_⟩
   ·exact absurd e hne
   ·rw[e,zbj dr.nd (pm.mem_iff.mp hc)];rfl
  have lr':=lays_congr (nm':=fun k=>fnm (srt cs) (Str.ofString "") (Wy (srt cs)) n (k%n)) (fun j hj=>by rw[Nat.mod_eq_of_lt hj]) lr;generalize fnm (srt cs) (A2 "") (Wy (srt cs)) n=nm at W go lr';refine⟨_,rfl,_,rfl,_,rfl,r,0,n,fun k=>nm (k%n),wl,rfl,hr2,lr',by omega,by omega,fun j k _=>by show nm ((j+k*(n-0))%n)=nm (j%n);rw[Nat.sub_zero,Nat.add_mul_mod_self_right],fun pu vs' Hu su hpu lu=>?_⟩;refine⟨_,rfl,_,_,rfl,rfl,.inl ⟨by decide,by decide⟩,?_⟩;have s1u:=s2.trans su;have e4:(4:Int)*((n:Nat):Int)=((4*n:Nat):Int):=by omega
  obtain⟨al,W'⟩:∃al,Walk al (fun(k t:Nat)=>decide ((t:Int)∈tkOf cs (nm (k%n)))):=by
   have e:(fun(k t:Nat)=>decide ((t:Int)∈tkOf cs (nm (k%n))))=fun(k t:Nat)=>decide ((t:Int)∈tkOf (srt cs) (nm (k%n))):=funext fun k=>funext fun t=>by rw[zer dr.nd]
   exact⟨_,e▸W⟩
  refine⟨pk,pu,4*n,fun k=>nm (k%n),ws,vs',cs,al,?_,s1u _ _ hpk,dr.same s1u,hpu,?_,by omega,W',go,hemp,fun H' s'=>q H' (s1u.trans s')⟩
  rotate_left
  ·rw[show 4*n=0+4*(n-0) by omega];exact lu
  ·show[V.ref pk,V.ref pu,V.int (4*((n:Nat):Int))]=_;rw[e4]
theorem strip_walk{G:A7->Prop}{H:Hp}{ws:List V}{ks:Combs}(dr:Drawn G H ws ks)(gcs:GC (srt ks)){m:Nat}(hfix:nxtRow (srt ks) (rowAt (srt ks) m)=rowAt (srt ks) m)(ht:tr (rowAt (srt ks) m) 0=true):
  Walk (fun k d=>decide ((d:Int)∈aheadOf (wk (srt ks) (rowAt (srt ks) m) 0 k:Int))) (fun k t=>decide ((t:Int)∈tkOf ks (wn (srt ks) (rowAt (srt ks) m) 0 k)))/\(∀j,wn (srt ks) (rowAt (srt ks) m) 0 j≠A2 ""->(cGet ks (wn (srt ks) (rowAt (srt ks) m) 0 j)).isSome=true)/\cGet ks (A2 "")=none:=by
 have pm:=zbQ dr.nd;have nds:((srt ks).map (·.1)).Nodup:=(pm.map _).nodup_iff.mpr dr.nd;have nes:∀c∈srt ks,c.1≠A2 "":=fun c hc=>zdL (dr.good c (pm.mem_iff.mp hc)).1;have W:=wk_walk gcs nds nes hfix ht;refine⟨?_,fun j hne=>?_,?_⟩
 ·have e:(fun(k t:Nat)=>decide ((t:Int)∈tkOf ks (wn (srt ks) (rowAt (srt ks) m) 0 k)))=fun(k t:Nat)=>decide ((t:Int)∈tkOf (srt ks) (wn (srt ks) (rowAt (srt ks) m) 0 k)):=funext fun k=>funext fun t=>by rw[zer dr.nd]
  rw[e];exact W
 ·rcases zh2 gcs hfix (show 0<128 by decide) ht j with⟨_,e1,_⟩|⟨_,c,hc,e1,_⟩
  ·exact absurd e1 hne
  ·rw[e1,zbj dr.nd (pm.mem_iff.mp hc)];rfl
 ·exact get_none.mpr fun z=>by
   obtain⟨c,hc,e⟩:=Aa.mp z;exact zdL (dr.good c hc).1 e
theorem eqv_nil35(a:List Int):Dt (.list (a.map Dz)) (.list [])=decide (a=[]):=by
 cases a with
 |nil=>decide
 |cons d ds=>rw[decide_eq_false (by nofun)];simp[Dt,Ew]
theorem shaped_ints35(a:List Int):El (.list (a.map Dz))=true:=by
 have h1:C6 (a.map Dz)=true:=by
  induction a with
  |nil=>rfl
  |cons x a ih=>rw[An,C6,ih];rfl
 have h2:∀a:List Int,Dj (a.map Dz)=0:=by
  intro a
  induction a with
  |nil=>rfl
  |cons x a ih=>rw[An,Dj,ih];rfl
 simp[El,F6,Gg,h1,h2]
noncomputable def spLaw(K:Az):Sp:=fun vs H Q _=>∃(a:A7)(ns:List Int),vs=[.ref a]/\SqL K H a (ns.map V.int)/\ns.length<=63/\∀H',Q (.bl true) H'
theorem zhH:FnScope ["_law_script","_law_kinds","_law_book_here","_law_fits_here","_law_again","_law_span","_law_good","_law_strip","_law_line","_law_length","_law_begin","_law_turns"] ["_law_script"] (defScope s_law):=⟨rfl,rfl,rfl,by decide+kernel,rfl,by decide+kernel,by decide+kernel⟩
theorem ok_law{C:A7}(D:DefAt K mg "law" s_law)(T:Bn mg)(C_at:Callee P w K mg base "_law_at" 1 ["_law_script","_law_k"] (sp_at K))(C_combs:Callee P w K mg base "_law_combs" 2 ["_law_script"] (sp_combs K))(C_book:Callee P w K mg base "_law_book" 4 ["_law_kinds"] (sp_mkbook C))(C_turned:Callee P w K mg base "_law_turned" 1 ["_law_kinds"] sp_turned)(C_graph:Callee P w K mg base "_law_graph" 3 ["_law_kinds","_law_begin"] sp_graph)(C_fits:Callee P w K mg base "_law_fits" 2 ["_law_graph_here"] sp_fits)(C_fill_strip:Callee1 P w K mg base "fill_strip" 5 ["book"] (sp_strip C))(C_fill_line:Callee1 P w K mg base "fill_line" 5 ["book"] (sp_fline C))(C_stripform:Callee P w K mg base "_law_stripform" 4 ["_law_told"] sp_stripform)(C_lineform:Callee P w K mg base "_law_lineform" 4 ["_law_told"] sp_lineform)(C_ended:Callee P w K mg base "_law_ended" 6 ["_law_book_here","_law_kinds","_law_length"] (sp_ended C))(C_lineover:Callee P w K mg base "_law_lineover" 2 ["_law_kinds","_law_span","_law_layings_here"] sp_lineover)(C_coversto:Callee P w K mg base "_law_coversto" 2 ["_law_kinds","_law_layings_here","_law_many"] sp_coversto):Callee P w K mg base "law" 7 ["_law_script"] (spLaw K):=by
 refine D.callee zhH (fun _ _ _ _ _ _=>ln1 fun _=>rfl) (fun vs H Q E h=>?_) (fun f cdv A outer s H vs Q E hr h=>?_)
 ·obtain⟨a,ns,rfl,_⟩:=h;rfl
 ·obtain⟨a,ns,rfl,hS,hl,q⟩:=h;have S:=zhH;refine⟨_,zac (zan (i:=1) S.nd rfl (Ao rfl) (zay C_combs (hr.mono (by decide)) rfl (zaa (pv 0) zae)))
  (zac (zan (i:=2) S.nd rfl (Ao rfl) (zay C_book (hr.mono (by decide)) rfl (zaa (pv 1) zae)))
  (zac (zgS (zay C_fits (hr.mono (by decide)) rfl (zaa (zay C_graph (hr.mono (by decide)) rfl (zaa (zay C_turned (hr.mono (by decide)) rfl (zaa (pv 1) zae)) (zaa (zba (zae)) zae))) zae)) (zdG rfl (zaC (zak (i:=3) S.nd rfl (G6 rfl)) (zaC (zak (i:=4) S.nd rfl (G6 rfl)) (zbz)))))
  (zac (zan (i:=5) S.nd rfl (G6 rfl) (zax zcu (zai zam rfl T.n_len B6 (zaa (pv 3) zae)) (pv 4)))
  (zac (zey (i:=6) S.nd rfl (Ao rfl) (own:=["_law_k"]) (caps:=[(3,"_law_fits_here"),(4,"_law_again"),(5,"_law_span")]) rfl ⟨rfl,rfl,rfl,rfl,⟨⟨rfl,rfl,.inl rfl⟩,⟨rfl,rfl,.inl rfl⟩,⟨rfl,rfl,.inl rfl⟩,trivial⟩⟩ (ze1 rfl T.n_range (zaa (zab) (zaa (zab) zae))) (fun _ _ _ _ _ _=>zak (i:=0) (zaz (by decide+kernel)) rfl (Ao rfl)) (fun _ _ _ _ _ _=>zby (zaX (zar (zcj K rfl) (pv 1) (zai (call_min2 rfl) rfl T.n_min boot_min (zaa (pv 0) (zaa (zax zbi (pv 2) (zax zbA (zax zcu (pv 0) (pv 2)) (pv 3))) zae))) (fun _ _=>rfl)))) (fun _ _ _ _ _ _=>pv 0))
  (zac (zan (i:=7) S.nd rfl (Ao rfl) (zcO C_fill_strip (hr.mono (by decide)) (by first|exact pass_try|exact zcm|exact za8) rfl (zaa (pv 2) zae)))
  (zac (zan (i:=8) S.nd rfl (Ao rfl) (zcO C_fill_line (hr.mono (by decide)) (by first|exact pass_try|exact zcm|exact za8) rfl (zaa (pv 2) zae)))
  (zac (zaF (PW.pt (zb4 (za2 (zaX (zay C_stripform (hr.mono (by decide)) rfl (zaa (pv 7) zae)))) (zb2 (za2 (zaX (zay C_lineform (hr.mono (by decide)) rfl (zaa (pv 8) zae)))))))
   (zaf (zal (zbl)))
   (zap))
  (zca (zaF (zao (zgZ hr.units) (pv 6) (zaQ (zae)) (zat _))
   (zac (zan (i:=9) S.nd rfl (Ao rfl) (zar zaA (pv 6) (zax zbA (zay C_at (hr.mono (by decide)) rfl (zaa (pv 0) (zaa (zab) zae))) (zai zam rfl T.n_len B6 (zaa (pv 6) zae))) (fun _ _=>rfl)))
   (zaf (zaF (PW.pt (zb4 (zao zdh (zar zav (pv 7) (zab) (fun _ _=>rfl)) (zaK) (zat _)) (zb2 (za2 (zaX (zay C_ended (hr.mono (by decide)) rfl (zaa (pv 2) (zaa (pv 1) (zaa (pv 9) zae)))))))))
    (zaf (zal (zbl)))
    (zap))))
   (zap))
  (zac (zaF (zao zcn (zar zav (pv 7) (zab) (fun _ _=>rfl)) (zaK) (zat _))
   (zaf (zal (zbl)))
   (zap))
  (zac (zan (i:=10) S.nd rfl (G6 rfl) (zar zav (pv 7) (zab) (fun _ _=>rfl)))
  (zac (zan (i:=5) S.nd rfl (G6 rfl) (zar zav (pv 7) (zab) (fun _ _=>rfl)))
  (zac (zaF (PW.pt (zb4 (zao zdh (zar zav (pv 8) (zab) (fun _ _=>rfl)) (zaK) (zat _)) (zb2 (zao zgq (zai zam rfl T.n_len B6 (zaa (zaL (own:=["_law_one"]) (caps:=[(10,"_law_begin"),(5,"_law_span")]) rfl ⟨rfl,rfl,rfl,rfl,⟨⟨rfl,rfl,.inl rfl⟩,⟨rfl,rfl,.inl rfl⟩,trivial⟩⟩ (zaw (zar zav (pv 7) (zab) (fun _ _=>rfl))) (fun _ _ _ _ _ _=>zak (i:=0) (zaz (by decide+kernel)) rfl (Ao rfl)) (fun _ _ _ _ _ _=>zby (zao zeA (zar (zbT K rfl) (pv 0) (zab) (fun _ _=>rfl)) (zax zbi (pv 1) (pv 2)) (zat _))) (fun _ _ _ _ _ _=>pv 0)) zae)) (zab) (zat _)))))
   (zaf (zal (zbl)))
   (zap))
  (zac (zey (i:=11) S.nd rfl (Ao rfl) (own:=["_law_one"]) (caps:=[(10,"_law_begin")]) rfl ⟨rfl,rfl,rfl,rfl,⟨⟨rfl,rfl,.inl rfl⟩,trivial⟩⟩ (zaw (zar zav (pv 7) (zab) (fun _ _=>rfl))) (fun _ _ _ _ _ _=>zak (i:=0) (zaz (by decide+kernel)) rfl (Ao rfl)) (fun _ _ _ _ _ _=>zby (zao zeA (zar (zbT K rfl) (pv 0) (zab) (fun _ _=>rfl)) (pv 1) (zat _))) (fun _ _ _ _ _ _=>pv 0))
  (zac (zaF (za2 (zaX (zai (zcU rfl) rfl T.n_all M5 (zaa (zaL (own:=["_law_one"]) (caps:=[]) rfl ⟨rfl,rfl,rfl,rfl,trivial⟩ (zaw (zay C_lineover (hr.mono (by decide)) rfl (zaa (pv 1) (zaa (pv 5) (zaa (pv 11) zae))))) (fun _ _ _ _ _ _=>zak (i:=0) (zaz (by decide+kernel)) rfl (Ao rfl)) (fun _ _ _ _ _ _=>za7) (fun _ _ _ _ _ _=>zbR zcn (zai (call_len_seq' K rfl) rfl T.n_len B6 (zaa (pv 0) zae)) (zab) (zat _))) zae))))
   (zaf (zal (zbl)))
   (zap))
  (zaf (zal (zay C_coversto (hr.mono (by decide)) rfl (zaa (pv 1) (zaa (zar zav (pv 7) (zab) (fun _ _=>rfl)) (zaa (zax zbi (pv 10) (pv 5)) zae)))))))))))))))))))),?_⟩
  refine⟨_,rfl,a,ns,rfl,hS,fun pk ks ws H1 s1 npk hpk dr hk8=>?_⟩;have gc:GC ks:=fun c hc=>(dr.good c hc).2;have pm:=zbQ dr.nd;refine⟨_,rfl,pk,ws,ks,rfl,hpk,dr,hk8,fun b l G past H2 s2 nb nl nG B hpl=>?_⟩;obtain⟨gcs,hs8⟩:=zeu B;refine⟨_,rfl,pk,ws,ks,rfl,s2 _ _ hpk,(dr.same s2).any.rows,gc,hk8,fun tk wt H6 s6 htk kt=>?_⟩;refine⟨bigr rfl,fun te nte=>?_⟩;have s7:Same H6 (upd H6 te (.tup [])):=Same.new nte;have hte:upd H6 te (.tup []) te=some (.tup ((aheadOf ((0:Nat):Int)).map V.int)):=by
   rw[zad,show aheadOf ((0:Nat):Int)=[] by decide];rfl
  have htk7:=s7 _ _ htk;have kt7:=kt.same s7;have s67:=s6.trans s7;generalize upd H6 te (.tup [])=H7 at s67 hte htk7 kt7⊢;have gct:=zep gc;have htl:(turnC ks).length<=8:=by unfold turnC;rw[A3];exact hk8
  refine⟨tk,te,wt,turnC ks,0,rfl,htk7,kt7,htl,gct,by decide,hte,fun g kvs L H8 s8 ng hg gr ndL cl h0L=>?_⟩;refine⟨g,kvs,turnC ks,L,rfl,hg,gr,ndL,cl,h0L,gct,htl,fun tf fl m i H9 s9 him hm hper htf hfl=>?_⟩;refine⟨tf,_,rfl,SqT.of htf,rfl,_,_,rfl,_,_,rfl,rfl,?_⟩;have s29:=(s67.trans s8).trans s9;have fp:=filB_per gct him hper;have ef:∀k,filB (turnC ks) k=decide (0<Wy (srt ks) k 0):=fun k=>by
   rw[B7,zeJ gct,decide_eq_true_eq,Wy_pos];exact(fil_turn gc dr.nd).trans (fil_perm gcs gc pm k).symm
  refine⟨_,rfl,_,_,rfl,.inl (SqL.of hfl),_,rfl,_,_,rfl,rfl,?_⟩;refine⟨1,201,rfl,by decide,fun D hD=>?_⟩;refine zcv (capv:=[some (.ref fl),some (.int (i:Nat)),some (.int ((((A4 m).map fun k=>V.bl (filB (turnC ks) k)).length:Int)-((i:Nat):Int)))]) (by rfl) (zaP 1 200) (by rw[zbg];exact big (by decide)) hD (fun _ _=>trivial) (fun v=>match v with| .int x=>filB (turnC ks) x.toNat|_=>false) id ?_ ?_ ?_
  ·intro x hx H' R s' h;obtain⟨n,hn,rfl⟩:=Aa.mp hx;have hn:=Ay.mp hn;obtain⟨k,ek⟩:∃k:Nat,(1:Int)+((n:Nat):Int)=(k:Nat):=⟨1+n,by omega⟩;rw[ek] at h⊢;have el:(((A4 m).map fun k=>V.bl (filB (turnC ks) k)).length:Int)-((i:Nat):Int)=(m:Int)-(i:Int):=by rw[A3,Am]
   rw[el];obtain⟨p1,p2,p3⟩:=per_min him fp k (y:=(i:Int)+((k:Int)-(i:Int))%((m:Int)-(i:Int))) rfl rfl;refine⟨_,rfl,_,rfl,_,rfl,_,rfl,_,rfl,_,_,rfl,rfl,_,rfl,_,_,rfl,rfl,by omega,_,_,rfl,rfl,_,_,rfl,_,_,_,_,rfl,rfl,SqL.of (s' _ _ hfl),zdZ (v:=V.bl (filB (turnC ks) k)) p1 ?_,_,rfl,?_⟩
   ·rw[Ad,Cn p2,<-p3];rfl
   ·exact h H' (Same.refl _)
  ·intro x hx _ H' R s' h;exact⟨_,rfl,h H' (Same.refl _)⟩
  intro H10 s10 e10;have e10':H10 D=some (.lst ((((A4 200).map (· +1)).filter fun k=>decide (0<Wy (srt ks) k 0)).map fun(n:Nat)=>V.int ((n:Nat):Int))):=by
   rw[e10,Gd];congr 2;have e1:((A4 200).map fun i:Nat=>V.int (1+((i:Nat):Int)))=((A4 200).map (· +1)).map fun(n:Nat)=>V.int ((n:Nat):Int):=by
    rw[As];refine Be fun n _=>?_;show V.int _=V.int _;congr 1;show(1:Int)+(n:Int)=((n+1:Nat):Int);omega
   rw[e1,Dx];congr 1;refine Ea fun n _=>?_;exact ef n
  obtain⟨good,eg⟩:∃good,good=((A4 200).map (· +1)).filter fun k=>decide (0<Wy (srt ks) k 0):=⟨_,rfl⟩;rw[<-eg] at e10';have hgood:∀k∈good,1<=k/\k<=200/\0<Wy (srt ks) k 0:=fun k hk=>by
   rw[eg] at hk;obtain⟨h1,h2⟩:=Aq.mp hk;obtain⟨n,hn,rfl⟩:=Aa.mp h1;have:=Ay.mp hn;exact⟨by show 1<=n+1;omega,by show n+1<=200;omega,of_decide_eq_true h2⟩
  clear eg e10;have s210:=s29.trans s10;refine⟨_,rfl,b,l,G,ks,past,rfl,B.same s210,fun t H11 s11 sr11=>?_⟩;have s211:=s210.trans s11;refine⟨_,rfl,b,l,G,ks,past,rfl,B.same s211,fun tl H12 s12 lr12=>?_⟩;refine⟨_,rfl,t,srt ks,rfl,sr11.same s12,fun H13 s13=>⟨_,rfl,?_⟩⟩;refine iteF ?_;have sr13:=sr11.same (s12.trans s13);refine⟨_,rfl,tl,srt ks,rfl,lr12.same s13,fun H14 s14=>⟨_,rfl,?_⟩⟩;refine iteF ?_;have sr14:=sr13.same s14;have lr14:=lr12.same (s13.trans s14);have s14':=s211.trans (s12.trans (s13.trans s14));have s1014:=s11.trans (s12.trans (s13.trans s14));have hg14:=s1014 _ _ e10';have B14:=B.same s14';have hpk14:=(s2.trans s14') _ _ hpk;have dr14:=(dr.same (s2.trans s14')).any;have sq14:=(s1.trans (s2.trans s14')).seq hS;clear lr12 sr11 sr13 s1014 s14' s211 s210 s29;generalize hσ:some (V.int ((((A4 m).map fun k=>V.bl (filB (turnC ks) k)).length:Int)-((i:Nat):Int)))=x5;refine⟨fun σ Hx=>Same H14 Hx/\(∃x9,σ=[some (.ref a),some (.ref pk),some (.ref b),some (.ref fl),some (.int (i:Nat)),x5,some (.ref D),some (.ref t),some (.ref tl),x9,none,none]),?_,?_⟩
  ·refine⟨_,rfl,bigr rfl,fun pe npe=>?_⟩;have s15:Same H14 (upd H14 pe (.lst [])):=Same.new npe;have hpe:upd H14 pe (.lst []) pe=some (.lst []):=zad;generalize upd H14 pe (.lst [])=H15 at s15 hpe⊢;refine⟨.list ((good.map fun(n:Nat)=>((n:Nat):Int)).map Dz),.list [],.lst (SqL.of (s15 _ _ hg14)) ?_,.lst (SqL.of hpe) .nil,shaped_ints35 _,by decide,_,rfl,?_⟩
   ·rw[As];exact VDs.map fun u _=>.int _
   rw[eqv_nil35];by_cases hge:good=[]
   ·subst hge;exact iteF ⟨s15,_,rfl⟩
   rw[decide_eq_false (show¬(good.map fun(n:Nat)=>((n:Nat):Int))=[] from fun z=>hge (List.map_eq_nil_iff.mp z))];refine iteT ?_;have hlen:0<good.length:=N2.mpr hge;have elg:((good.map fun(n:Nat)=>V.int ((n:Nat):Int)).length:Int)=(good.length:Nat):=by rw[A3]
   have hp:(0:Int)<((good.map fun(n:Nat)=>V.int ((n:Nat):Int)).length:Int):=by rw[elg];omega
   refine⟨_,rfl,_,rfl,a,ns,9,rfl,s15.seq sq14,by decide,_,rfl,_,_,rfl,.inl (SqL.of (s15 _ _ hg14)),_,_,rfl,rfl,hp,?_⟩;have i0:=Fj (ns.getD (9:Int).toNat 0) (show((good.map fun(n:Nat)=>V.int ((n:Nat):Int)).length:Int)≠0 by omega);have i1:=Ey (ns.getD (9:Int).toNat 0) hp;obtain⟨ix,eix,hix⟩:∃ix:Nat,ns.getD (9:Int).toNat 0%((good.map fun(n:Nat)=>V.int ((n:Nat):Int)).length:Int)=(ix:Nat)/\ix<good.length:=⟨(ns.getD (9:Int).toNat 0%((good.map fun(n:Nat)=>V.int ((n:Nat):Int)).length:Int)).toNat,by omega,by rw[elg] at i1⊢;omega⟩;obtain⟨g1,g2,g3⟩:=hgood _ (C8 hix);refine⟨_,_,_,_,rfl,rfl,SqL.of (s15 _ _ hg14),zdZ (v:=V.int ((good[ix]:Nat):Int)) i0 (by rw[eix,Cj,Ad,A5 hix];rfl),?_⟩;rcases sr14 with⟨m',st,n,pl,wl,sd,ht,hpl',la⟩|⟨m',k,pr,wl,hfix,hz,e1,e2,e3,ht,hpr,rn⟩
   rotate_left
   ·exact absurd e1 (fil_rows gcs g1 (Wy_pos.mp g3) k)
   refine⟨_,rfl,_,_,_,_,rfl,rfl,SqT.of (s15 _ _ ht),at4.1,rfl,_,rfl,?_⟩;refine iteF ?_;refine⟨_,rfl,_,rfl,_,rfl,b,l,pk,G,ks,past,ws,good[ix],rfl,B14.same s15,s15 _ _ hpk14,dr14.same s15,g1,g2,g3,fun H16 s16=>⟨_,rfl,?_⟩⟩;exact iteF ⟨s15.trans s16,_,rfl⟩
  rintro σ Hx⟨sx,x9,rfl⟩;have srx:=sr14.same sx;have lrx:=lr14.same sx;have hpkx:=sx _ _ hpk14;have drx:=dr14.same sx;rcases srx with⟨m',st,n,pl,wl,sd,ht,hpl',la⟩|⟨m',k,pr,wl,hfix,hz,e1,e2,e3,ht,hpr,rn⟩
  rotate_left
  ·refine⟨_,rfl,_,_,_,_,rfl,rfl,SqT.of ht,at3s.1,rfl,_,rfl,?_⟩;exact iteT (q _)
  refine⟨_,rfl,_,_,_,_,rfl,rfl,SqT.of ht,at4.1,rfl,_,rfl,?_⟩;refine iteF ?_;obtain⟨hfix,ht0,hst2,hn,hper2,hnd⟩:=sd;obtain⟨W,hnm,hemp⟩:=strip_walk drx gcs hfix ht0;have ld:=strip_line hfix ht0 hst2 hn hper2 hnd;refine⟨_,rfl,_,_,_,_,rfl,rfl,SqT.of ht,at4.2.1,?_⟩;refine⟨_,rfl,_,_,_,_,rfl,rfl,SqT.of ht,at4.2.2.1,?_⟩;rcases lrx with⟨sp',fs',nm',ps',pl2,wl2,ld',ht',hps',hpl2',la'⟩|⟨m2,pc,sdk,hm2,ht',hpc⟩
  rotate_left
  ·have:=sdk.2 0 (by decide);rw[<-row_same hfix sdk.1,ht0] at this
   cases this
  refine⟨_,rfl,_,_,_,_,rfl,rfl,SqT.of ht',at4.1,rfl,_,rfl,?_⟩;refine iteF ?_;refine⟨_,rfl,_,_,_,_,rfl,rfl,SqT.of ht,at4.2.2.2,_,rfl,⟨_,SqL.of hpl'⟩,fun D2 hD2=>?_⟩;refine zbK (capv:=[some (.int (st:Nat)),some (.int ((n-st:Nat):Int))]) (by rfl) (zaj K pl wl) (big (by have:=la.len;omega)) hD2 (fun H' s'=>SqL.of (s' _ _ hpl')) (fun _=>false) (fun _=>.non) (fun _ _ _=>nofun) ?_ (fun _ _ _ z=>by cases z) ?_
  ·intro j x hx H' R s' h;obtain⟨y,qa,_,rfl,hqa,hy,_⟩:=zgc la hx;refine⟨_,rfl,_,_,_,_,rfl,rfl,SqT.of (s' _ _ hqa),at0,_,rfl,_,rfl,_,_,rfl,rfl,_,_,rfl,rfl,_,rfl,?_⟩;rw[decide_eq_false (show¬((st:Nat):Int)+((n-st:Nat):Int)<=((y:Nat):Int) by omega)];exact h H' (Same.refl _)
  intro H16 s16 e16;refine⟨_,_,rfl,.inl (SqL.of e16),_,_,rfl,rfl,_,rfl,?_⟩;rw[A3,Ev.mpr (fun _ _=>Ah)];refine iteF ?_;have la16:LaysR H16 wl _ n:=la.mono fun _ _ e=>s16 _ _ e;have hll:=Bw la16;refine⟨_,rfl,_,_,_,_,rfl,rfl,SqT.of (s16 _ _ ht),at4.2.2.2,_,rfl,⟨_,SqL.of (s16 _ _ hpl')⟩,fun D3 hD3=>?_⟩;have hvD:∀j,j<wl.length->wl.getD j .non≠.ref D3:=fun j hj z=>by
   obtain⟨y,ey,qa,rfl,e2⟩:=Bv.at la16 (A5 (show j<_ by rw[hll];exact hj));rw[A8,ey,Dn] at z;injection z with z;rw[z,hD3] at e2
   cases e2
  refine zbK (capv:=[some (.int (st:Nat))]) (by rfl) (zaj K pl wl) (big (by have:=la.len;omega)) hD3 (fun H' s'=>SqL.of (s' _ _ (s16 _ _ hpl'))) (fun j=>decide (st<=(laid (wn (srt ks) (rowAt (srt ks) m') 0) n).getD j 0)) (fun j=>wl.getD j .non) (fun j hj _=>hvD j hj) ?_ ?_ ?_
  ·intro j x hx H' R s' h;have hj:j<(laid (wn (srt ks) (rowAt (srt ks) m') 0) n).length:=by unfold laid;rw[hll];exact(Ag.mp hx).1
   obtain⟨y,ey,qa,rfl,e2⟩:=Bv.at la16 (A5 hj);rw[hx] at ey
   cases ey
   refine⟨_,rfl,_,_,_,_,rfl,rfl,SqT.of (s' _ _ e2),at0,_,rfl,_,_,rfl,rfl,_,rfl,?_⟩;have:=h H' (Same.refl _);rw[A8,A5 hj,Dn] at this;have e3:(decide ((st:Int)<=(((laid (wn (srt ks) (rowAt (srt ks) m') 0) n)[j]:Nat):Int)))=decide (st<=(laid (wn (srt ks) (rowAt (srt ks) m') 0) n)[j]):=by
    rw[decide_eq_decide];omega
   rw[<-e3] at this;exact this
  ·intro j x hx _ H' R s' h;refine⟨_,rfl,?_⟩;have:=h H' (Same.refl _);rw[A8,hx] at this;exact this
  intro H17 s17 e17;have tu:PL H17 (((A4 wl.length).filter fun j=>decide (st<=(laid (wn (srt ks) (rowAt (srt ks) m') 0) n).getD j 0)).map fun j=>wl.getD j .non) (wn (srt ks) (rowAt (srt ks) m') 0) ((laid (wn (srt ks) (rowAt (srt ks) m') 0) n).filter fun j=>decide (st<=j)):=pl_filter (PL.lays.mpr (la16.mono fun _ _ e=>s17 _ _ e)) fun j=>decide (st<=j);generalize hdt:(((A4 wl.length).filter fun j=>decide (st<=(laid (wn (srt ks) (rowAt (srt ks) m') 0) n).getD j 0)).map fun j=>wl.getD j .non)=wt2 at tu e17;have s167:=s16.trans s17;have en:st+(n-st)=n:=by omega
  have hjs:((laid (wn (srt ks) (rowAt (srt ks) m') 0) n).filter fun j=>decide (st<=j)).length<=128:=by
   refine Bm (Bu _ _) (Bm (Bu _ _) ?_);rw[Am];exact hn
  refine⟨_,rfl,_,rfl,_,rfl,pk,D3,ws,wt2,ks,n-st,_,_,rfl,s167 _ _ hpkx,drx.same s167,e17,tu,hjs,by omega,by omega,fun j hj=>hnm j (by simpa using(Aq.mp (Aq.mp hj).1).2),fun po vo H18 s18 hpo ov=>?_⟩;refine⟨_,rfl,⟨_,SqL.of hpo⟩,fun D4 hD4=>?_⟩;have s168:=s167.trans s18;have one:∀r,r<n-st->(((laid (wn (srt ks) (rowAt (srt ks) m') 0) n).filter fun j=>decide (st<=j)).flatMap (remOf ks (wn (srt ks) (rowAt (srt ks) m') 0) (n-st))).count r=1:=fun r hr'=>by
   have nds:((srt ks).map (·.1)).Nodup:=(pm.map _).nodup_iff.mpr dr.nd;have nes:∀c∈srt ks,c.1≠A2 "":=fun c hc=>zdL (dr.good c (pm.mem_iff.mp hc)).1;have:=over_from gcs nds nes (st:=st) (nm:=wn (srt ks) (rowAt (srt ks) m') 0) ld hr';rw[en] at this;have e:remOf ks (wn (srt ks) (rowAt (srt ks) m') 0) (n-st)=remOf (srt ks) (wn (srt ks) (rowAt (srt ks) m') 0) (n-st):=funext fun j=>by unfold remOf;rw[zer dr.nd]
   rw[e];exact this
  refine zbK (capv:=[]) (by rfl) (zaj K po vo) (by rw[ov.1];exact big (by omega)) hD4 (fun H' s'=>SqL.of (s' _ _ hpo)) (fun _=>true) (fun _=>.bl true) (fun _ _ _=>nofun) (fun i x hx H R s' h=>h H (Same.refl _)) ?_ ?_
  ·intro j x hx _ H' R s' h;have hi:j<n-st:=by rw[<-ov.1];exact(Ag.mp hx).1
   obtain⟨qo,ys,e1,_,_,e4,e5⟩:=ov.2.2 j hi;rw[hx] at e1
   cases e1
   rw[one j hi] at e5;refine⟨_,rfl,_,_,rfl,.inl (SqL.of (s' _ _ e4)),rfl,?_⟩;rw[e5];exact h H' (Same.refl _)
  intro H19 s19 e19;refine⟨_,(A4 vo.length).map fun _=>true,rfl,SqL.of ?_,?_⟩
  ·rw[e19,Bs.mpr (fun _ _=>rfl),As];rfl
  rw[show((A4 vo.length).map fun _=>true).all id=true by simp];refine⟨_,rfl,?_⟩;refine iteF ?_;have s169:=s168.trans s19;refine⟨_,rfl,_,rfl,_,_,_,_,rfl,rfl,SqT.of (s169 _ _ ht),at4.2.2.2,_,rfl,_,rfl,_,_,rfl,rfl,?_⟩;have e:((st:Nat):Int)+((n-st:Nat):Int)=((n:Nat):Int):=by omega
  refine⟨pk,pl,n,_,ws,wl,ks,_,?_,s169 _ _ hpkx,drx.same s169,s169 _ _ hpl',la.mono fun _ _ e=>s169 _ _ e,by omega,W,hnm,hemp,fun H' _=>q H'⟩;show[V.ref pk,V.ref pl,V.int (((st:Nat):Int)+((n-st:Nat):Int))]=_;rw[e]
end
theorem walk{l:K0}{q:Aw}{loose:List Str}{XP:(Str->Option A1)->C9->Prop}{YP:Bq->C9->Prop}{d:DefRec}{K:Qd->Az}(hn:l.most=some 63)(hdf:d.params.defaults=[])
  (hY:∀(w:Bq)(h:C9),YP w h->(K w.params).In h)
  (F:∀(w:Bq)(mg:Str->Option A1)(fa:A7)(h:C9),(K w.params).In h->h.Ns mainGlobals mg->mg d.name=some (.ref fa)->
   ∃fd:Ep,(∀(s:A6)(u:A1),Kq s fd ⟨[u],[]⟩ [("_law_script",u)])/\∀base:C9,(K w.params).In base->base.Ns mainGlobals mg->FnOk l.prog w (K w.params) mg base CX0 7 fa fd ["_law_script"] (spLaw (K w.params))):
  Nt q loose XP YP l.row.toRowW d [] (fun f vs=>Mw f vs):=
 L2.walk_of (n:=63) (k:=7) (x:="_law_script") (CX:=fun _=>CX0) (sp:=fun w=>spLaw (K w.params)) hn (by decide) hdf ⟨rfl,by decide,by decide⟩ hY F (fun _ _ a ns hl _ hS=>⟨a,ns,rfl,hS,hl,fun _=>rfl⟩) fun _ _ _ _ _ z=>z
theorem all{l:K0}{w:Bq}{K:Az}{h:C9}{mg:Str->Option A1}{fa:A7}(X:K.In h)(G:h.Ns mainGlobals mg)(hfa:mg "law"=some (.ref fa))(T:Bn mg)
  (V_MOST_COMBS:∃t,mg "MOST_COMBS"=some (.int 8 t))
  (V_MOST_NAME:∃t,mg "MOST_NAME"=some (.int 6 t))
  (V_MOST_TOOTH:∃t,mg "MOST_TOOTH"=some (.int 7 t))
  (V_MOST_DEEDS:∃t,mg "MOST_DEEDS"=some (.int 300 t))
  (V_SHAPES:∃t,mg "SHAPES"=some (.int 128 t))
  (V_MOST_FILLED:∃t,mg "MOST_FILLED"=some (.int 200 t))
  {t_TOOTH_WORTH:A7} (G_TOOTH_WORTH:mg "TOOTH_WORTH"=some (.ref t_TOOTH_WORTH)) (TC_TOOTH_WORTH:tupChk K t_TOOTH_WORTH [1,2,4,8,16,32,64,128]=true)
  {C a0 a1 a2 a3 a4 a9 a11 a13 a14:A7}
  (R0:mg "BadName"=some (.ref a0)) (X0:Dp K a0 valErr "ValueError.__new__"=true)
  (R1:mg "BadTeeth"=some (.ref a1)) (X1:Dp K a1 valErr "ValueError.__new__"=true)
  (R2:mg "NameTaken"=some (.ref a2)) (X2:Dp K a2 valErr "ValueError.__new__"=true)
  (R3:mg "BookFull"=some (.ref a3)) (X3:Dp K a3 valErr "ValueError.__new__"=true)
  (R4:mg "NoComb"=some (.ref a4)) (X4:Dp K a4 valErr "ValueError.__new__"=true)
  (R9:mg "DeedsFull"=some (.ref a9)) (X9:Dp K a9 valErr "ValueError.__new__"=true)
  (R11:mg "BadShape"=some (.ref a11)) (X11:Dp K a11 valErr "ValueError.__new__"=true)
  (R13:mg "BadLength"=some (.ref a13)) (X13:Dp K a13 valErr "ValueError.__new__"=true)
  (R14:mg "NoFilling"=some (.ref a14)) (X14:Dp K a14 valErr "ValueError.__new__"=true)
  (INIT:InitAt K mg C "Book" "Book.__init__" s_Book___init__) (BCHK:bookChk K C=true)
  (N_put:MethAt K C "Book" "put" s_Book_put)
  (N_names:MethAt K C "Book" "names" s_Book_names)
  (N_teeth:MethAt K C "Book" "teeth" s_Book_teeth)
  (N_check_comb:MethAt K C "Book" "check_comb" s_Book_check_comb)
  (N_set_comb:MethAt K C "Book" "set_comb" s_Book_set_comb)
  (N_do_deed:MethAt K C "Book" "do_deed" s_Book_do_deed)
  (D_shape_steps:DefAt K mg "shape_steps" s_shape_steps)
  (D_teeth_worth:DefAt K mg "teeth_worth" s_teeth_worth)
  (D_step_table:DefAt K mg "step_table" s_step_table)
  (D_rows_going_on:DefAt K mg "rows_going_on" s_rows_going_on)
  (D_narrow_row:DefAt K mg "narrow_row" s_narrow_row)
  (D_leads_on:DefAt K mg "leads_on" s_leads_on)
  (D_walk_round:DefAt K mg "walk_round" s_walk_round)
  (D_first_lasting_step:DefAt K mg "first_lasting_step" s_first_lasting_step)
  (D_shapes_behind:DefAt K mg "shapes_behind" s_shapes_behind)
  (D_rows_to_the_end:DefAt K mg "rows_to_the_end" s_rows_to_the_end)
  (D_filled_strip:DefAt K mg "filled_strip" s_filled_strip)
  (D_fill_strip:DefAt K mg "fill_strip" s_fill_strip)
  (D_fill_line:DefAt K mg "fill_line" s_fill_line)
  (D_filled_line:DefAt K mg "filled_line" s_filled_line)
  (D_places_from:DefAt K mg "places_from" s_places_from)
  (D_first_filling:DefAt K mg "first_filling" s_first_filling)
  (D_check_length:DefAt K mg "check_length" s_check_length)
  (D_ways_to_close:DefAt K mg "ways_to_close" s_ways_to_close)
  (D_ways_from:DefAt K mg "ways_from" s_ways_from)
  (D_ways_behind:DefAt K mg "ways_behind" s_ways_behind)
  (D_lay_first:DefAt K mg "lay_first" s_lay_first)
  (D_first_open_step:DefAt K mg "first_open_step" s_first_open_step)
  (D_is_name:DefAt K mg "is_name" s_is_name)
  (D_is_small_letter:DefAt K mg "is_small_letter" s_is_small_letter)
  (D_are_teeth:DefAt K mg "are_teeth" s_are_teeth)
  (D_at:DefAt K mg "_law_at" s_at)
  (D_mixed:DefAt K mg "_law_mixed" s_mixed)
  (D_word:DefAt K mg "_law_word" s_word)
  (D_spare:DefAt K mg "_law_spare" s_spare)
  (D_menu:DefAt K mg "_law_menu" s_menu)
  (D_combs:DefAt K mg "_law_combs" s_combs)
  (D_book:DefAt K mg "_law_book" s_book)
  (D_turned:DefAt K mg "_law_turned" s_turned)
  (D_after:DefAt K mg "_law_after" s_after)
  (D_goes:DefAt K mg "_law_goes" s_goes)
  (D_graph:DefAt K mg "_law_graph" s_graph)
  (D_home:DefAt K mg "_law_home" s_home)
  (D_fits:DefAt K mg "_law_fits" s_fits)
  (D_unrolled:DefAt K mg "_law_unrolled" s_unrolled)
  (D_teeth:DefAt K mg "_law_teeth" s_teeth)
  (D_coversto:DefAt K mg "_law_coversto" s_coversto)
  (D_whole:DefAt K mg "_law_whole" s_whole)
  (D_laying:DefAt K mg "_law_laying" s_laying)
  (D_layings:DefAt K mg "_law_layings" s_layings)
  (D_stripform:DefAt K mg "_law_stripform" s_stripform)
  (D_lineform:DefAt K mg "_law_lineform" s_lineform)
  (D_lineover:DefAt K mg "_law_lineover" s_lineover)
  (D_ended:DefAt K mg "_law_ended" s_ended)
  (D_law:DefAt K mg "law" s_law):
  ∃fd:Ep,(∀(s:A6)(v:A1),Kq s fd ⟨[v],[]⟩ [("_law_script",v)])/\∀base:C9,K.In base->base.Ns mainGlobals mg->FnOk l.prog w K mg base CX0 7 fa fd ["_law_script"] (spLaw K):=by
 have BA:=book_of BCHK;refine D_law.entry hfa (fun _ _ _ _ _ _ v=>rfl) fun base=>?_;have m_check:=ok_check (P:=l.prog) (w:=w) (base:=base) (ea:=fun i=>[a0,a1,a2,a3,a4,0,0,0,0,a9,0,a11,0,a13,a14].getD i 0) N_check_comb T BA ⟨R4,X4⟩;have m_do:=ok_do (P:=l.prog) (w:=w) (base:=base) (ea:=fun i=>[a0,a1,a2,a3,a4,0,0,0,0,a9,0,a11,0,a13,a14].getD i 0) N_do_deed T BA V_MOST_DEEDS ⟨R9,X9⟩;have m_set:=ok_set (ea:=fun i=>[a0,a1,a2,a3,a4,0,0,0,0,a9,0,a11,0,a13,a14].getD i 0) N_set_comb T BA m_do;have m_put:=ok_put (ea:=fun i=>[a0,a1,a2,a3,a4,0,0,0,0,a9,0,a11,0,a13,a14].getD i 0) N_put T BA V_MOST_COMBS ⟨R0,X0⟩ ⟨R1,X1⟩ ⟨R2,X2⟩ ⟨R3,X3⟩ (ok_name D_is_name T V_MOST_NAME (ok_small D_is_small_letter T)) (ok_teeth D_are_teeth T V_MOST_TOOTH) m_set;have m_names:=ok_names (P:=l.prog) (w:=w) (base:=base) N_names T BA;have m_teeth:=ok_bteeth N_teeth T BA m_check;have c_at:=ok_at (P:=l.prog) (w:=w) (base:=base) D_at T;have c_whole:=ok_whole (P:=l.prog) (w:=w) (base:=base) D_whole T;have c_word:=ok_word (P:=l.prog) (w:=w) (base:=base) D_word T;have c_combs:=ok_combs D_combs T c_at (ok_mixed D_mixed T) c_word (ok_spare D_spare T) (ok_menu D_menu T);have c_book:L2.Callee l.prog w K mg base "_law_book" 4 ["_law_kinds"] (sp_mkbook C):=by
  obtain⟨fi,fdi,mk,fu⟩:=INIT.ex;exact ok_mkbook D_book T BA ⟨fi,fdi,mk,ok_init fu T BA,INIT.m,fu.binds (fun _ _ _ _ _ _=>ln1 fun _=>rfl)⟩ m_put
 have f_steps:=ok_steps (ea:=fun i=>[a0,a1,a2,a3,a4,0,0,0,0,a9,0,a11,0,a13,a14].getD i 0) D_shape_steps T BA V_SHAPES ⟨R11,X11⟩ (ok_worth D_teeth_worth T G_TOOTH_WORTH (tup_chk TC_TOOTH_WORTH)) m_names m_teeth;have f_table:=ok_table D_step_table T V_SHAPES f_steps;have f_rows:=ok_rows (P:=l.prog) (w:=w) (base:=base) D_rows_going_on T (ok_narrow D_narrow_row T (ok_leads D_leads_on T));have f_walk:=ok_walk (P:=l.prog) (w:=w) (base:=base) D_walk_round T (ok_first D_first_lasting_step T);have f_strip:=ok_strip D_fill_strip T f_table f_rows f_walk (ok_fstrip D_filled_strip T) (ok_toend D_rows_to_the_end T (ok_behind D_shapes_behind T));have f_line:=ok_fline D_fill_line T V_SHAPES f_table f_rows f_walk (ok_filled D_filled_line T) (ok_places D_places_from T);have f_bw:=ok_behindw (P:=l.prog) (w:=w) (base:=base) D_ways_behind T;have f_close:=ok_close D_ways_to_close T (ok_from D_ways_from T f_bw);have f_chk:=ok_chk (P:=l.prog) (w:=w) (base:=base) (ea:=fun i=>[a0,a1,a2,a3,a4,0,0,0,0,a9,0,a11,0,a13,a14].getD i 0) D_check_length T V_MOST_FILLED ⟨R13,X13⟩;have f_ffill:=ok_ffill (ea:=fun i=>[a0,a1,a2,a3,a4,0,0,0,0,a9,0,a11,0,a13,a14].getD i 0) D_first_filling T f_chk f_table f_close (ok_layf (ea:=fun i=>[a0,a1,a2,a3,a4,0,0,0,0,a9,0,a11,0,a13,a14].getD i 0) D_lay_first T ⟨R14,X14⟩ (ok_open D_first_open_step T f_bw));have c_teeth:=ok_lteeth (P:=l.prog) (w:=w) (base:=base) D_teeth T;have c_layings:=ok_layings D_layings T (ok_laying (P:=l.prog) (w:=w) (base:=base) D_laying T c_whole);have c_coversto:=ok_coversto D_coversto T c_teeth;exact ok_law D_law T c_at c_combs c_book (ok_turned D_turned T) (ok_graph D_graph T (ok_goes D_goes T (ok_after D_after T))) (ok_fits D_fits T (ok_home D_home T)) f_strip f_line (ok_stripform D_stripform T c_whole c_layings) (ok_lineform D_lineform T c_whole c_layings) (ok_ended (ea:=fun i=>[a0,a1,a2,a3,a4,0,0,0,0,a9,0,a11,0,a13,a14].getD i 0) D_ended T f_ffill c_layings (ok_unrolled D_unrolled T) c_coversto) (ok_lineover D_lineover T c_teeth) c_coversto
end K35
open PySem PySem.W PyProof.Rows
namespace PySem.W.Fast
def tw14961523128499199916:=True
def tw12428888015886493319:=True
def tw13440175198043442388:=True
def tw2647453901846952030:=True
def tw17425201807966180013:=True
def tw15918151577550304531:=True
def tw17664228717239025772:=True
def tw13618390699217241612:=True
def tw8989706757545939223:=True
def tw17202483719102351756:=True
def tw13403224523346483058:=True
def tw12421555994356493731:=True
def tw631658774453503261:=True
def tw13217892824124751419:=True
def tw6131481061981360685:=True
def tw13299186255825958358:=True
def tw16995136273846336238:=True
def tw17900981437498083678:=True
def tw17916434484988343844:=True
def tw8989537322723469848:=True
def tw303304284289548858:=True
def tw11346092443652331204:=True
def tw12122516089624134176:=True
def tw7140150207892313774:=True
def tw13879158715578394643:=True
def tw5011308429829862668:=True
def tw12465953236780195958:=True
def tw11287176265116747861:=True
def tw9088506078860630668:=True
def tw11822616698622194701:=True
def tw16184897472933008550:=True
def tw17645715158328014392:=True
def tw14206710728611714190:=True
def tw3440409034136133705:=True
def tw1417296082868159339:=True
def tw16132934043706164435:=True
def tw11812665643688382677:=True
def tw7358406741933296333:=True
def tw12868223315843425358:=True
def tw13190305684868232178:=True
def tw1719642695740970862:=True
def tw12483284153890314271:=True
def tw9408077605384268388:=True
def tw7965179597335183061:=True
def tw1152862693563439020:=True
def tw16527326518129495598:=True
def tw6368762014506474263:=True
def tw5606653533234482601:=True
def tw12478972064330985792:=True
def tw10637663733245589935:=True
def tw14406771551193645320:=True
def tw13792413157532509308:=True
def tw199052006870884709:=True
def tw10730234281330504525:=True
def tw6091607025163031189:=True
def tw1350837091064299349:=True
def tw3312011624962871418:=True
def tw3748493156516757938:=True
def tw11488719675453521067:=True
def tw10516368939248874424:=True
def tw5874101921523102286:=True
def tw12696961901222088935:=True
def tw13006163030292764536:=True
def tw9997971903018656537:=True
def tw11217774501169363826:=True
def tw9160709121629781100:=True
def tw398146812811632180:=True
def tw7526772152941862292:=True
def tw7985290227241995255:=True
def tw10985332602824749653:=True
def tw14586257429033504709:=True
def tw10725033465838934082:=True
def tw9003217970725949468:=True
def tw15268222906807295854:=True
def tw74105044342727446:=True
def tw13964642016095888914:=True
def tw11795102648043976711:=True
def tw11348921882317644014:=True
def tw5064722924164849737:=True
def tw4615861363478066189:=True
def tw13241617364743864419:=True
def tw16941837944486985970:=True
def tw14731013066671686979:=True
def tw15776636063522057187:=True
def tw14618849561522126569:=True
def tw12205036922932877070:=True
def tw17190699754516644793:=True
def tw4001993056257228215:=True
def tw16780601306781025944:=True
def tw10613268305288618743:=True
def tw2151423539169463184:=True
def tw4239032085603590094:=True
def tw13172150503909528635:=True
def tw3786490662420119935:=True
def tw14085254149522802244:=True
def tw6255398756282297949:=True
def tw8304130466860699490:=True
def tw7623284935739772249:=True
def tw14608061135108748418:=True
def tw13468879977621529419:=True
def tw1570370666003883953:=True
def tw11849524811971692912:=True
def tw6863855757638226135:=True
def tw9700580528182545704:=True
def tw837532421613607851:=True
def tw11608783927723694804:=True
def tw13905937499277912981:=True
def tw10133384810765586102:=True
def tw2888080508430157392:=True
def tw17986855947470425018:=True
def tw3007086945369589276:=True
def tw7571032136717460793:=True
def tw3221727346935058176:=True
def tw4504593628620866127:=True
def tw3494644797514124220:=True
def tw8553426847774365611:=True
def tw6326865539649167137:=True
def tw7587716838094861140:=True
def tw12941851497170862289:=True
def tw10126055679053099903:=True
def tw16725698669356710036:=True
def tw4915328179402146950:=True
def tw16808045063231896078:=True
def tw8188465775874724943:=True
def tw6103522685626328269:=True
def tw13673905269642387385:=True
def tw772811255049599200:=True
def tw6232767469643894738:=True
def tw11187682917023053282:=True
def tw13616038451942504184:=True
def tw10357141576996386665:=True
def tw8677264250223782299:=True
def tw12492465606446227174:=True
def tw16317806115277979969:=True
def tw13411560628883862223:=True
def tw2812786684722185317:=True
def tw16585301179321162330:=True
def tw7510385728550648916:=True
def tw1995878302712947663:=True
def tw3604082851091303656:=True
def tw17974074851070188109:=True
def tw1991080717125934303:=True
def tw3408044196529205082:=True
def tw14111579631282028860:=True
def tw8382580555193456485:=True
def tw5301743499879313216:=True
def tw4044212746003118977:=True
def tw12910992223653964457:=True
def tw12571505226818874895:=True
def tw9124972532663525032:=True
def tw12316793901828952040:=True
def tw12716096182343525898:=True
def tw7778971140605100128:=True
def tw2945773561229087121:=True
def tw8507945851390413967:=True
def tw6625806871139022397:=True
def tw446671453774896033:=True
def tw9123095302122862944:=True
def tw11934921043288345348:=True
def tw5299316900136294517:=True
def tw17377489513085216146:=True
def tw12598717257830587208:=True
def tw7418288087346037559:=True
def tw3654662285066150806:=True
def tw16832789871332410639:=True
def tw7770231271016299684:=True
def tw289394569138204312:=True
def tw14817892472891353225:=True
def tw17652348975948511883:=True
def tw7072024150153759928:=True
def tw15320280952863380426:=True
def tw49215096617894311:=True
def tw2882546534425728128:=True
def tw15720037244576133232:=True
def tw1621119228478872132:=True
def tw16633877941955141611:=True
def tw16416970197950759090:=True
def tw13090840149406657980:=True
def tw17870184687744216753:=True
def tw14872328081525889512:=True
def tw18186371530529248009:=True
def tw14696859428164432577:=True
def tw3918444014421134879:=True
def tw8112776990292832097:=True
def tw13390835397270335468:=True
def tw13461036132938429903:=True
def tw13241748437987914065:=True
def tw2939319115996276102:=True
def tw15722392303049686122:=True
def tw12157071248247154633:=True
def tw11961990042857338139:=True
def tw12837831228982365476:=True
def tw881788489859324242:=True
def tw15673490032537640337:=True
def tw16828209587732356548:=True
def tw8797679476388721993:=True
def tw7855142212752118506:=True
def tw3574932221712692502:=True
def tw8235263860191118470:=True
def tw13672250154594112113:=True
def tw15496636190219689443:=True
def tw14180830605691918460:=True
def tw17536927715329861699:=True
def tw8425252551420746091:=True
def tw1266944447422147140:=True
def tw14903725692831920156:=True
def tw3288887091114505452:=True
def tw12353781435556599416:=True
def tw17218966437010944652:=True
def tw5903984387888125001:=True
def tw6299041082999222617:=True
def tw6624014421266151564:=True
def tw2303316005548404945:=True
def tw9135567475153530086:=True
def tw5950757999224359978:=True
def tw8024638768602089217:=True
def tw8593323952732215741:=True
def tw17225365422734903162:=True
def tw5700872997778535105:=True
def tw4734516005657094044:=True
def tw2037852456187528936:=True
def tw3641243603545397471:=True
def tw1173641398180578490:=True
def tw11189152028738766205:=True
def tw9518007371286997486:=True
def tw11994887363292194073:=True
def tw17795335252370412583:=True
def tw18442985543707372045:=True
def tw5790830920583011083:=True
def tw10887530648357570198:=True
def tw7848443707999165631:=True
def tw686282394092322642:=True
def tw250333756391492919:=True
def tw10546696053733398179:=True
def tw14963137134727610607:=True
def tw12797149429043791269:=True
def tw2292873597490368580:=True
def tw10806910893754269527:=True
def tw2074058771234163637:=True
def tw3283311857179775318:=True
def tw17394677145040627858:=True
def tw2588280378516095286:=True
def tw15152691319110625797:=True
def tw11474775835954648981:=True
def tw14255046781663060248:=True
def tw15107912430613655486:=True
def tw7448098929746152533:=True
def tw4300481086027281352:=True
def tw2699528394644455263:=True
def tw5919925935390478739:=True
def tw6458223211653605354:=True
def tw13327903076238365290:=True
def tw10864826973302065959:=True
def tw15718336723905271412:=True
def tw9743854837079785475:=True
def tw18316794943417447391:=True
def tw13199686828612939084:=True
def tw1858797140307557687:=True
def tw5306192517130277980:=True
def tw16416640515812080245:=True
def tw1238208589109112929:=True
def tw18146003865911927669:=True
def tw628725480958134899:=True
def tw9111628693260164667:=True
def tw14964704060284693642:=True
def tw5497755241371331602:=True
def tw1661726187193890506:=True
def tw3344663463752449095:=True
def tw8272429473561489232:=True
def tw7721097103526887153:=True
def tw17124150457477593972:=True
def tw9787615828075278221:=True
def tw7808445192359074779:=True
def tw5554943451577147679:=True
def tw15841953687007842934:=True
def tw10848559883068762302:=True
def tw18016937919326265831:=True
def tw9651159222695601689:=True
def tw9439069299622678463:=True
def tw2140555445894698443:=True
def tw2032104527181794414:=True
def tw1322624235145809777:=True
def tw14791140534487269198:=True
def tw6432635311739782624:=True
def tw12431660997572578334:=True
def tw7900796984228698197:=True
def tw678376417093452963:=True
def tw17892003543749887435:=True
def tw8642564150236830052:=True
def tw4715528526391629380:=True
def tw2541198393126930058:=True
def tw12706392739135171664:=True
def tw10760609750094620323:=True
def tw9547583915635763506:=True
def tw14370124575147659075:=True
def tw16299264908829645738:=True
def tw13188537655829589861:=True
def tw2333552716062253033:=True
def tw13457662351188481609:=True
def tw2165700304011277718:=True
def tw1300105918606339224:=True
def tw17452073737067087435:=True
def tw3573679723727765691:=True
def tw12853660298909746848:=True
def tw10726107071640459448:=True
def tw1394255882664667528:=True
def tw429697406424398678:=True
def tw7095831915857461097:=True
def tw9558097587191731886:=True
def tw1350188592220839746:=True
def tw8310853202976147608:=True
def tw6860127411356608418:=True
def tw13750832241440627306:=True
def tw14441840595427567132:=True
def tw8197025655005098761:=True
def tw8590755429273483247:=True
def tw10667216158150717877:=True
def tw4557121226962647145:=True
def tw2211790152147462918:=True
def tw18072718555933964522:=True
def tw7369887421054834313:=True
def tw8854978688718080642:=True
def tw15077755030062576926:=True
def tw17032074337468978318:=True
def tw2375530971787850729:=True
def tw4546129768732907666:=True
def tw6154823727250728811:=True
def tw10715391158512638158:=True
def tw14065455955619478584:=True
def tw5854742558130942112:=True
def tw6049260640359951604:=True
def tw10780924620731507262:=True
def tw4918878336058073224:=True
def tw7840570522188840267:=True
def tw11391805581589904456:=True
def tw14777191698451935003:=True
def tw8619996347361050633:=True
def tw13601055650518619763:=True
def tw11235771487221389167:=True
def tw7847412506608391080:=True
def tw14370166056147576740:=True
def tw7308048717843426773:=True
def tw18141590354871249807:=True
def tw2792001164609949200:=True
def tw14014770362888179311:=True
def tw5264284777026903867:=True
def tw11623382965757292821:=True
def tw17905805403001496192:=True
def tw18104945928241458740:=True
def tw9121001104282328602:=True
def tw6017094397296168141:=True
def tw8018643502210150071:=True
def tw14021476759500865832:=True
def tw1782404361008643145:=True
def tw12510839113868663827:=True
def tw11541741213708215895:=True
def tw14676372808531752278:=True
def tw17438833308086821694:=True
def tw9277213682171359728:=True
def tw17941194886980601774:=True
def tw9521610574487330499:=True
def tw16787481636175103108:=True
def tw13698925197513921877:=True
def tw15891343638442447474:=True
def tw7588210301031291578:=True
def tw3738406936267102284:=True
def tw6357021682449049240:=True
def tw1244483530773016401:=True
def tw6307472507516166505:=True
def tw13865304126775723113:=True
def tw17794699362302286627:=True
def tw1036264110586095735:=True
def tw5853759284905566391:=True
def tw15247579143411994697:=True
def tw12858964492959701517:=True
def tw6752681664524779719:=True
def tw3190008097594746772:=True
def tw6993988587705424714:=True
def tw4261843523838814232:=True
def tw245448299274312096:=True
def tw820602819220538368:=True
def tw11464475275227616207:=True
def tw1142948205723211760:=True
def tw5369211238634011663:=True
def tw17706692863232496819:=True
def tw14725938069372168880:=True
def tw13789101612795338646:=True
def tw7641626231111546113:=True
def tw3907890142097941026:=True
def tw2314798980134060132:=True
def tw9206151134099140693:=True
def tw14708282097844339515:=True
def tw15903292976117030624:=True
def tw11165408022664193450:=True
def tw11053128575001803349:=True
def tw2805638353189508507:=True
def tw5188120733485878701:=True
def tw9432655913406089492:=True
def tw8542521069492678228:=True
def tw3277320864986434233:=True
def tw12487930814284507672:=True
def tw10601537760126795243:=True
def tw18436162514303897402:=True
def tw8953689155301697935:=True
def tw11354638445338792488:=True
def tw9183043216191195408:=True
def tw11009992246747961813:=True
def tw16198128498774324939:=True
def tw14431353929959645840:=True
def tw5053472026490485584:=True
def tw18082087803873021263:=True
def tw13183771197501947506:=True
def tw2198955734379021059:=True
def tw11173952893123022651:=True
def tw18235262357038223377:=True
def tw14379944925680036697:=True
def tw12704201791954739560:=True
def tw16206391869444054153:=True
def tw12188460393092568034:=True
def tw8873599654141426384:=True
def tw13688883879490491109:=True
def tw9478192047306356343:=True
def tw15674161268325599456:=True
def tw3966045421061002204:=True
def tw16606556240253147138:=True
def tw9608143173468757823:=True
def tw17444904827823760505:=True
def tw6259489118398206986:=True
def tw16858183403087969473:=True
def tw16697825569602182487:=True
def tw5481730529098473688:=True
def tw9785413373547415448:=True
def tw8439486989638333425:=True
def tw1386781313903376384:=True
def tw10691188250091146574:=True
def tw11516411692555802037:=True
def tw14033582713208519147:=True
def tw17696529717264890990:=True
def tw16336176154137761784:=True
def tw14421154885831127853:=True
def tw2203627535495557843:=True
def tw12191545258213907063:=True
def tw16226111124157224252:=True
def tw13678955835217591980:=True
def tw5227315971726843993:=True
def tw2803735216645829317:=True
def tw6310430311935610157:=True
def tw4952477441016455231:=True
def tw15364536061872089130:=True
def tw14855049827525862223:=True
def tw3284244645906360300:=True
def tw14867520590498173661:=True
def tw6216872323247910574:=True
def tw17557951035383444448:=True
def tw4348233388670118357:=True
def tw14231611544938989319:=True
def tw10631525494436345231:=True
def tw121004367170102205:=True
def tw15863172670204464944:=True
def tw5446392135048850452:=True
def tw1457842734601082294:=True
def tw8488423540871076550:=True
def tw1562180343619917355:=True
def tw12139570684847571425:=True
def tw732254860124950911:=True
def tw7150384101214110709:=True
def tw8605650143955247284:=True
def tw6133048040670180257:=True
def tw14928292625386422825:=True
def tw16831635429784303566:=True
def tw12440029637307880234:=True
def tw9831459453551757187:=True
def tw12343831910385683078:=True
def tw386478540541359969:=True
def tw12305033090086182679:=True
def tw12646001696169391657:=True
def tw8070831369875519713:=True
def tw5150454680779324596:=True
def tw14895484708395549256:=True
def tw7538709086220041788:=True
def tw15560965199803645417:=True
def tw18012069272482971233:=True
def tw5544503155638127025:=True
def tw10992266912874595961:=True
def tw3353877238688974614:=True
def tw12289912212585950978:=True
def tw14830237728692098601:=True
def tw5140559964542444700:=True
def tw9223906073291971963:=True
def tw17648600738955669844:=True
def tw12581207366700661132:=True
def tw1509031407522422534:=True
def tw6570612344823636710:=True
def tw2554478289046805478:=True
def tw4112388093536520335:=True
def tw9470572080168799337:=True
def tw17044700715619334501:=True
def tw13725784787572965629:=True
def tw1385053556515533801:=True
def tw5079688715526098845:=True
def tw7802153446624783659:=True
def tw11039691610979558708:=True
def tw5162722420424630338:=True
def tw12678290952832235714:=True
def tw15354094327352156214:=True
def tw2482522466981041968:=True
def tw16849803453064839632:=True
def tw2924415929432328582:=True
def tw8587841733254929407:=True
def tw4454212693652949369:=True
def tw123367925220415622:=True
def tw694938198258475866:=True
def tw356563918311912302:=True
def tw7398373675218989834:=True
def tw11218309850934827605:=True
def tw5612858586086973812:=True
def tw12915376908827967750:=True
def tw6464169727144367993:=True
def tw2827186258827725000:=True
def tw16713360257634718941:=True
def tw3353467789704465143:=True
def tw4787929682848525900:=True
def tw10231693981298857593:=True
def tw11805491749445692170:=True
def tw16770186817758034079:=True
def tw7001673499062668274:=True
def tw13558261636382423559:=True
def tw5067590366301345363:=True
def tw17622375435858591908:=True
def tw4766097674138498084:=True
def tw12052221799578098500:=True
def tw5107692276295700364:=True
def tw12107027962915394476:=True
def tw11725424006900314201:=True
def tw3118359105639621144:=True
def tw16719398587373642387:=True
def tw71979354889102057:=True
def tw4104672197325862449:=True
def tw3758297072433425434:=True
def tw2855138858573988125:=True
def tw17968837543021223175:=True
def tw3407811614275171150:=True
def tw6439308531846720196:=True
def tw2261556600460408878:=True
def tw4652976023171061769:=True
def tw9699824669264044871:=True
def tw5386088743590803002:=True
def tw18328215519863094584:=True
def tw2620068600746262673:=True
def tw13460972287600616379:=True
def tw8789091633981373236:=True
def tw8795485647622395184:=True
def tw8196092034254863028:=True
def tw766948502703885476:=True
def tw11949350387062550038:=True
def tw16955590569732521026:=True
def tw17663832106936950888:=True
def tw15586601394396444310:=True
def tw12203615642058530148:=True
def tw7953924962600213617:=True
def tw12611644068410215092:=True
def tw7255476230485292040:=True
def tw1428916092837581171:=True
def tw2786420765503790618:=True
def tw15174108734948782425:=True
def tw12795141474910908116:=True
def tw13707278010158350817:=True
def tw3927260838993239984:=True
def tw10474246671942357984:=True
def tw16147945055823715810:=True
def tw5976696991515747642:=True
def tw16269407346732912525:=True
def tw6257054432742304340:=True
def tw3854296163659226592:=True
def tw11056420937046499111:=True
def tw5501192718120979391:=True
def tw17013425444840938997:=True
def tw18352634452213070497:=True
def tw443814317092096028:=True
def tw17600650475188659921:=True
def tw9727254649320988474:=True
def tw3490244359571059230:=True
def tw1281280580435546198:=True
def tw8612174406983845015:=True
def tw2305432510532991632:=True
def tw10375221331100221582:=True
def tw13710796470206979565:=True
def tw286141319008679271:=True
def tw855497466230481302:=True
def tw17581768192878510527:=True
def tw6224724372300271293:=True
def tw18298524339937276911:=True
def tw5878879989675171825:=True
def tw4631222999852985964:=True
def tw880144540908526997:=True
def tw17841116054367836865:=True
def tw7302681526875854923:=True
def tw6498599222220840192:=True
def tw11642745096491850399:=True
def tw7963682956417510982:=True
def tw2848619733558172863:=True
def tw11573758744351345587:=True
def tw7796724041208012309:=True
def tw4098161064768726498:=True
def tw10014328854361253262:=True
def tw12540007996316780203:=True
def tw11317303043578326373:=True
def tw4845812212487849457:=True
def tw4943543236906316849:=True
def tw1351688787653624154:=True
def tw16553487601377186464:=True
def tw16706565227867107932:=True
def tw9489549160484817826:=True
def tw10651257975305202900:=True
def tw8132781185965867042:=True
def tw16168080001162274846:=True
def tw11229991936080294721:=True
def tw8254993838951884536:=True
def tw7179367846009871397:=True
def tw8726145419273304528:=True
def tw14823662758801396686:=True
def tw215394523441646827:=True
def tw15056198350771720167:=True
def tw384068699733854842:=True
def tw15146615063859266712:=True
def tw5222025566371630813:=True
def tw14552082415890837299:=True
def tw3044398304430075873:=True
def tw399482366131599693:=True
def tw8926137916300353254:=True
def tw9414083086659132060:=True
def tw2106247555353535938:=True
def tw4467789195307596902:=True
def tw6511230680097358229:=True
def tw11536517301555266887:=True
def tw15502946764410703970:=True
def tw5910469899765753299:=True
def tw5599401999993824644:=True
def tw7064476501827262059:=True
def tw17059196142424561663:=True
def tw6402922896602868306:=True
def tw617586127969077078:=True
def tw6805563426555143710:=True
def tw1939107423492310812:=True
def tw6250711290471650653:=True
def tw17370071099894172827:=True
def tw12372333335236089785:=True
def tw10135546527224528779:=True
def tw16443492032062947162:=True
def tw17124196962225055132:=True
def tw12256954427653201140:=True
def tw11727821929030572736:=True
def tw16741804393780543758:=True
def tw6008146569707691174:=True
def tw14480410869739755870:=True
def tw7287854783284401831:=True
def tw8440670373536578099:=True
def tw12206748771170886654:=True
def tw10118498721658746135:=True
def tw10943042276392469929:=True
def tw13617830701468596407:=True
def tw4806574099781590277:=True
def tw6143157662196646653:=True
def tw13575431663708159409:=True
def tw15292404648125749626:=True
def tw10143113211283657626:=True
def tw11847645870174929229:=True
def tw12743206602180049725:=True
def tw154931656428810683:=True
def tw16501380182769631619:=True
def tw1585008139683059822:=True
def tw15512939432246243648:=True
def tw16563189348269895247:=True
def tw8591521709766675950:=True
def tw4018595197291044527:=True
def tw17880778813668927765:=True
def tw283288763656242939:=True
def tw7105418914761799287:=True
def tw16174153114737273459:=True
def tw1073610387112242418:=True
def tw10211846533969344013:=True
def tw544173508446155166:=True
def tw6472079366158151501:=True
def tw10366245326871156511:=True
def tw10818023979855759164:=True
def tw4255402248666552880:=True
def tw15733863981027637955:=True
def tw17317138699680806710:=True
def tw12123219256497077629:=True
def tw2446459670143435661:=True
def tw143954191396096001:=True
def tw12887371902290540574:=True
def tw13122938123867434993:=True
def tw15887251696133582319:=True
def tw3476091429333424917:=True
def tw1984382301730752727:=True
def tw320029999180569626:=True
def tw15263692344820862356:=True
def tw12817651217704158554:=True
def tw1619533993476045076:=True
def tw1446072000944617764:=True
def tw5284365089296664051:=True
def tw11280727274368970815:=True
def tw12849137603391663374:=True
def tw2985419898985813006:=True
def tw16717117436312560792:=True
def tw5582229574646169525:=True
def tw17317470781846533172:=True
def tw8797758255689515625:=True
def tw9005721548294208739:=True
def tw9705373997905420745:=True
def tw4445867533263786504:=True
def tw12973842896064641182:=True
def tw10959527772546236610:=True
def tw1259350752203755995:=True
def tw13279222047858656175:=True
def tw319112823539920179:=True
def tw602059763177459212:=True
def tw11018984383400123688:=True
def tw2448209723975306874:=True
def tw7056088271206603497:=True
def tw17655895019350583473:=True
def tw11096061458857322238:=True
def tw17215999387147566026:=True
def tw17969023199143659216:=True
def tw14788270567103644659:=True
def tw15532792484744348817:=True
def tw10871754571385764903:=True
def tw16172191301175998051:=True
def tw14589295704104551235:=True
def tw2702090087201071259:=True
def tw8079860049643644740:=True
def tw2150953934833979436:=True
def tw12263731216154574590:=True
def tw11246312654770044743:=True
def tw11964172677285940501:=True
def tw12285011025883132975:=True
def tw12428895508263657791:=True
def tw17600289941415892818:=True
def tw798598883480497229:=True
def tw9881173498415251700:=True
def tw6925764002734401777:=True
def tw10862070582147328922:=True
def tw6673533662223736952:=True
def tw3283114019559642406:=True
def tw15564184014481893922:=True
def tw15681702436117714973:=True
def tw2809536129520376228:=True
def tw18162651448103574424:=True
def tw13182015090643307922:=True
def tw10677265306255819682:=True
end PySem.W.Fast
set_option maxRecDepth 100000 in
set_option maxHeartbeats 0 in
theorem PySem.Challenge.cw_combstrip_k35_whole_fewer_ends_holds : PySem.Challenge.rw_combstrip_k35_whole_fewer_ends.Holds := by
 w_on;o_law;k_head;(case hw=>w_witness2)
 k_fill
 refine K35.walk (l:=PySem.Challenge.rw_combstrip_k35_whole_fewer_ends) rfl rfl (fun w h Y=>PySem.W.kIn_of Y) ?F
 case F=>
  intro w mg fa h KX G hmg;refine' K35.all KX G hmg (L2.bn_mk KX G ?n0 ?n1 ?n2 ?n3 ?n4 ?n5 ?n6 ?n7 ?n8 ?n9 ?n10 ?n11 ?n12 ?n13 ?n14 ?n15 ?n16 ?n17 ?n18 ?n19 ?n20) ?v0 ?v1 ?v2 ?v3 ?v4 ?v5 ?zgt0 ?ztc0 ?r0 ?zx0 ?r1 ?zx1 ?r2 ?zx2 ?r3 ?zx3 ?r4 ?zx4 ?r9 ?zx9 ?r11 ?zx11 ?r13 ?zx13 ?r14 ?zx14 ?zini ?zbc ?m0 ?m1 ?m2 ?m3 ?m4 ?m5 ?d0 ?d1 ?d2 ?d3 ?d4 ?d5 ?d6 ?d7 ?d8 ?d9 ?d10 ?d11 ?d12 ?d13 ?d14 ?d15 ?d16 ?d17 ?d18 ?d19 ?d20 ?d21 ?d22 ?d23 ?d24 ?d25 ?d26 ?d27 ?d28 ?d29 ?d30 ?d31 ?d32 ?d33 ?d34 ?d35 ?d36 ?d37 ?d38 ?d39 ?d40 ?d41 ?d42 ?d43 ?d44 ?d45 ?d46 ?d47 ?d48
  (case n0=>k_is)
  (case n1=>k_is)
  (case n2=>k_is)
  (case n3=>k_is)
  (case n4=>k_is)
  (case n5=>k_is)
  (case n6=>k_is)
  (case n7=>k_is)
  (case n8=>k_is)
  (case n9=>k_is)
  (case n10=>k_is)
  (case n11=>k_is)
  (case n12=>k_is)
  (case n13=>k_is)
  (case n14=>k_is)
  (case n15=>k_is)
  (case n16=>k_is)
  (case n17=>k_is)
  (case n18=>k_is)
  (case n19=>k_is)
  (case n20=>k_is)
  (case v0=>refine' L2.int_mk KX G ?a;(case a=>k_is))
  (case v1=>refine' L2.int_mk KX G ?a;(case a=>k_is))
  (case v2=>refine' L2.int_mk KX G ?a;(case a=>k_is))
  (case v3=>refine' L2.int_mk KX G ?a;(case a=>k_is))
  (case v4=>refine' L2.int_mk KX G ?a;(case a=>k_is))
  (case v5=>refine' L2.int_mk KX G ?a;(case a=>k_is))
  (case zgt0=>refine' L2.ref_mk KX G ?a;(case a=>k_is))
  (case ztc0=>kernel_rfl)
  (case r0=>refine' L2.ref_mk KX G ?a;(case a=>k_is))
  (case zx0=>kernel_rfl)
  (case r1=>refine' L2.ref_mk KX G ?a;(case a=>k_is))
  (case zx1=>kernel_rfl)
  (case r2=>refine' L2.ref_mk KX G ?a;(case a=>k_is))
  (case zx2=>kernel_rfl)
  (case r3=>refine' L2.ref_mk KX G ?a;(case a=>k_is))
  (case zx3=>kernel_rfl)
  (case r4=>refine' L2.ref_mk KX G ?a;(case a=>k_is))
  (case zx4=>kernel_rfl)
  (case r9=>refine' L2.ref_mk KX G ?a;(case a=>k_is))
  (case zx9=>kernel_rfl)
  (case r11=>refine' L2.ref_mk KX G ?a;(case a=>k_is))
  (case zx11=>kernel_rfl)
  (case r13=>refine' L2.ref_mk KX G ?a;(case a=>k_is))
  (case zx13=>kernel_rfl)
  (case r14=>refine' L2.ref_mk KX G ?a;(case a=>k_is))
  (case zx14=>kernel_rfl)
  (case zini=>refine' L2.init_mk (L2.ref_mk KX G ?z) ?a ?l ?c ?k ?i ?k2 ?mk;(case z=>k_is);(case a=>k_is);(case l=>k_is);(case c=>k_is);(case k=>k_is);(case i=>k_is);(case k2=>k_is);(case mk=>k_is))
  (case zbc=>kernel_rfl)
  (case m0=>refine' L2.meth_mk ?a ?l ?c ?k ?i;(case a=>k_is);(case l=>k_is);(case c=>k_is);(case k=>k_is);(case i=>k_is))
  (case m1=>refine' L2.meth_mk ?a ?l ?c ?k ?i;(case a=>k_is);(case l=>k_is);(case c=>k_is);(case k=>k_is);(case i=>k_is))
  (case m2=>refine' L2.meth_mk ?a ?l ?c ?k ?i;(case a=>k_is);(case l=>k_is);(case c=>k_is);(case k=>k_is);(case i=>k_is))
  (case m3=>refine' L2.meth_mk ?a ?l ?c ?k ?i;(case a=>k_is);(case l=>k_is);(case c=>k_is);(case k=>k_is);(case i=>k_is))
  (case m4=>refine' L2.meth_mk ?a ?l ?c ?k ?i;(case a=>k_is);(case l=>k_is);(case c=>k_is);(case k=>k_is);(case i=>k_is))
  (case m5=>refine' L2.meth_mk ?a ?l ?c ?k ?i;(case a=>k_is);(case l=>k_is);(case c=>k_is);(case k=>k_is);(case i=>k_is))
  (case d0=>refine' L2.def_mk KX G ?a ?l ?c ?k;(case a=>k_is);(case l=>k_is);(case c=>k_is);(case k=>k_is))
  (case d1=>refine' L2.def_mk KX G ?a ?l ?c ?k;(case a=>k_is);(case l=>k_is);(case c=>k_is);(case k=>k_is))
  (case d2=>refine' L2.def_mk KX G ?a ?l ?c ?k;(case a=>k_is);(case l=>k_is);(case c=>k_is);(case k=>k_is))
  (case d3=>refine' L2.def_mk KX G ?a ?l ?c ?k;(case a=>k_is);(case l=>k_is);(case c=>k_is);(case k=>k_is))
  (case d4=>refine' L2.def_mk KX G ?a ?l ?c ?k;(case a=>k_is);(case l=>k_is);(case c=>k_is);(case k=>k_is))
  (case d5=>refine' L2.def_mk KX G ?a ?l ?c ?k;(case a=>k_is);(case l=>k_is);(case c=>k_is);(case k=>k_is))
  (case d6=>refine' L2.def_mk KX G ?a ?l ?c ?k;(case a=>k_is);(case l=>k_is);(case c=>k_is);(case k=>k_is))
  (case d7=>refine' L2.def_mk KX G ?a ?l ?c ?k;(case a=>k_is);(case l=>k_is);(case c=>k_is);(case k=>k_is))
  (case d8=>refine' L2.def_mk KX G ?a ?l ?c ?k;(case a=>k_is);(case l=>k_is);(case c=>k_is);(case k=>k_is))
  (case d9=>refine' L2.def_mk KX G ?a ?l ?c ?k;(case a=>k_is);(case l=>k_is);(case c=>k_is);(case k=>k_is))
  (case d10=>refine' L2.def_mk KX G ?a ?l ?c ?k;(case a=>k_is);(case l=>k_is);(case c=>k_is);(case k=>k_is))
  (case d11=>refine' L2.def_mk KX G ?a ?l ?c ?k;(case a=>k_is);(case l=>k_is);(case c=>k_is);(case k=>k_is))
  (case d12=>refine' L2.def_mk KX G ?a ?l ?c ?k;(case a=>k_is);(case l=>k_is);(case c=>k_is);(case k=>k_is))
  (case d13=>refine' L2.def_mk KX G ?a ?l ?c ?k;(case a=>k_is);(case l=>k_is);(case c=>k_is);(case k=>k_is))
  (case d14=>refine' L2.def_mk KX G ?a ?l ?c ?k;(case a=>k_is);(case l=>k_is);(case c=>k_is);(case k=>k_is))
  (case d15=>refine' L2.def_mk KX G ?a ?l ?c ?k;(case a=>k_is);(case l=>k_is);(case c=>k_is);(case k=>k_is))
  (case d16=>refine' L2.def_mk KX G ?a ?l ?c ?k;(case a=>k_is);(case l=>k_is);(case c=>k_is);(case k=>k_is))
  (case d17=>refine' L2.def_mk KX G ?a ?l ?c ?k;(case a=>k_is);(case l=>k_is);(case c=>k_is);(case k=>k_is))
  (case d18=>refine' L2.def_mk KX G ?a ?l ?c ?k;(case a=>k_is);(case l=>k_is);(case c=>k_is);(case k=>k_is))
  (case d19=>refine' L2.def_mk KX G ?a ?l ?c ?k;(case a=>k_is);(case l=>k_is);(case c=>k_is);(case k=>k_is))
  (case d20=>refine' L2.def_mk KX G ?a ?l ?c ?k;(case a=>k_is);(case l=>k_is);(case c=>k_is);(case k=>k_is))
  (case d21=>refine' L2.def_mk KX G ?a ?l ?c ?k;(case a=>k_is);(case l=>k_is);(case c=>k_is);(case k=>k_is))
  (case d22=>refine' L2.def_mk KX G ?a ?l ?c ?k;(case a=>k_is);(case l=>k_is);(case c=>k_is);(case k=>k_is))
  (case d23=>refine' L2.def_mk KX G ?a ?l ?c ?k;(case a=>k_is);(case l=>k_is);(case c=>k_is);(case k=>k_is))
  (case d24=>refine' L2.def_mk KX G ?a ?l ?c ?k;(case a=>k_is);(case l=>k_is);(case c=>k_is);(case k=>k_is))
  (case d25=>refine' L2.def_mk KX G ?a ?l ?c ?k;(case a=>k_is);(case l=>k_is);(case c=>k_is);(case k=>k_is))
  (case d26=>refine' L2.def_mk KX G ?a ?l ?c ?k;(case a=>k_is);(case l=>k_is);(case c=>k_is);(case k=>k_is))
  (case d27=>refine' L2.def_mk KX G ?a ?l ?c ?k;(case a=>k_is);(case l=>k_is);(case c=>k_is);(case k=>k_is))
  (case d28=>refine' L2.def_mk KX G ?a ?l ?c ?k;(case a=>k_is);(case l=>k_is);(case c=>k_is);(case k=>k_is))
  (case d29=>refine' L2.def_mk KX G ?a ?l ?c ?k;(case a=>k_is);(case l=>k_is);(case c=>k_is);(case k=>k_is))
  (case d30=>refine' L2.def_mk KX G ?a ?l ?c ?k;(case a=>k_is);(case l=>k_is);(case c=>k_is);(case k=>k_is))
  (case d31=>refine' L2.def_mk KX G ?a ?l ?c ?k;(case a=>k_is);(case l=>k_is);(case c=>k_is);(case k=>k_is))
  (case d32=>refine' L2.def_mk KX G ?a ?l ?c ?k;(case a=>k_is);(case l=>k_is);(case c=>k_is);(case k=>k_is))
  (case d33=>refine' L2.def_mk KX G ?a ?l ?c ?k;(case a=>k_is);(case l=>k_is);(case c=>k_is);(case k=>k_is))
  (case d34=>refine' L2.def_mk KX G ?a ?l ?c ?k;(case a=>k_is);(case l=>k_is);(case c=>k_is);(case k=>k_is))
  (case d35=>refine' L2.def_mk KX G ?a ?l ?c ?k;(case a=>k_is);(case l=>k_is);(case c=>k_is);(case k=>k_is))
  (case d36=>refine' L2.def_mk KX G ?a ?l ?c ?k;(case a=>k_is);(case l=>k_is);(case c=>k_is);(case k=>k_is))
  (case d37=>refine' L2.def_mk KX G ?a ?l ?c ?k;(case a=>k_is);(case l=>k_is);(case c=>k_is);(case k=>k_is))
  (case d38=>refine' L2.def_mk KX G ?a ?l ?c ?k;(case a=>k_is);(case l=>k_is);(case c=>k_is);(case k=>k_is))
  (case d39=>refine' L2.def_mk KX G ?a ?l ?c ?k;(case a=>k_is);(case l=>k_is);(case c=>k_is);(case k=>k_is))
  (case d40=>refine' L2.def_mk KX G ?a ?l ?c ?k;(case a=>k_is);(case l=>k_is);(case c=>k_is);(case k=>k_is))
  (case d41=>refine' L2.def_mk KX G ?a ?l ?c ?k;(case a=>k_is);(case l=>k_is);(case c=>k_is);(case k=>k_is))
  (case d42=>refine' L2.def_mk KX G ?a ?l ?c ?k;(case a=>k_is);(case l=>k_is);(case c=>k_is);(case k=>k_is))
  (case d43=>refine' L2.def_mk KX G ?a ?l ?c ?k;(case a=>k_is);(case l=>k_is);(case c=>k_is);(case k=>k_is))
  (case d44=>refine' L2.def_mk KX G ?a ?l ?c ?k;(case a=>k_is);(case l=>k_is);(case c=>k_is);(case k=>k_is))
  (case d45=>refine' L2.def_mk KX G ?a ?l ?c ?k;(case a=>k_is);(case l=>k_is);(case c=>k_is);(case k=>k_is))
  (case d46=>refine' L2.def_mk KX G ?a ?l ?c ?k;(case a=>k_is);(case l=>k_is);(case c=>k_is);(case k=>k_is))
  (case d47=>refine' L2.def_mk KX G ?a ?l ?c ?k;(case a=>k_is);(case l=>k_is);(case c=>k_is);(case k=>k_is))
  (case d48=>refine' L2.def_mk KX G ?a ?l ?c ?k;(case a=>k_is);(case l=>k_is);(case c=>k_is);(case k=>k_is))
