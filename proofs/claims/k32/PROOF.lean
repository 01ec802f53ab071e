import PyProof.Rows.All
import Wide.All
import OpenK.AllK
import Wide.FinOn
import Lean
import PyProof.EqAt
import PyProof.EqKinds
import PyProof.TupleCall
import PySem.Challenge.RW_combstrip_k32_whole_sum
set_option Elab.async false
set_option linter.all false
set_option maxRecDepth 100000
set_option maxHeartbeats 40000000
open Array renaming length_toList->Au,toList_append->B0,toList_push->Cc,toList_reverse->Ch,getElem?_toList->Ck,getElem_extract->G3,perm_iff_toList_perm->Gr,getElem?_eq_some_iff->Gs,getElem?_eq_getElem->Gz,size_map->J5,forIn_toList->Jj,append_assoc->Jk,toList_inj->K1,toList_setIfInBounds->Kt,toList->Lq,toArray_toList->Md,size_extract->Mx
open Array.Perm renaming refl->G5
open Bool renaming false_ne_true->A9,eq_iff_iff->B5,false_eq_true->Bo,and_eq_true->Cg,not_true->Ef,false_and->F6,true_and->Fb,not_eq_true'->Fw,or_false->Ji,or_eq_true->Kk,or_true->Lz,and_eq_false_iff->Mc
open Classical renaming byContradiction->Dn,not_not->Qz
open Decidable renaming byContradiction->Gm
open False renaming elim->E6
open ForInStep renaming yield->Dy,done->Qx
open Iff renaming rfl->Nv
open Int renaming toNat_natCast->Cs,le_refl->Dg,emod_lt_of_pos->Es,emod_nonneg->Fg,eq_ofNat_of_zero_le->Fl,zero_add->Fz,natCast_add->Kp,fdiv_eq_ediv_of_nonneg->L7,le_trans->Ma,natCast_mul->Od
open List renaming length_map->A2,mem_singleton->A6,mem_map->A7,getElem?_eq_getElem->A8,mem_cons_of_mem->Aa,range->Ab,getElem?_map->Af,length_append->Ag,mem_cons_self->Ah,getD_eq_getElem?_getD->Ak,mem_append->Al,map_cons->An,getElem?_eq_some_iff->Ar,append_assoc->As,length_cons->At,length_range->Aw,mem_filter->Ax,map_append->Az,map_map->B6,mem_range->B7,size_toArray->B8,mem_cons->B9,pairwise_map->Bd,mem_of_getElem?->Be,mem_append_right->Bg,length_singleton->Bp,any_eq_true->Bq,pairwise_append->Bv,take_length->By,replicate->C0,mem_append_left->C1,filter_cons->C4,take_append_drop->C6,map_congr_left->C7,filter_eq_self->C8,append_nil->Cd,filter_append->Ce,getElem?_range->Cf,length_filter_le->Cn,getElem?_eq_none->Co,filter_sublist->Cp,length_take->Cq,getElem_mem->Cv,take_succ_eq_append_getElem->Cw,nodup_append->Cy,perm_ext_iff_of_nodup->D0,sum_cons->D5,pairwise_lt_range->D6,pairwise_iff_getElem->D7,nodup_nil->Db,range_succ->De,all_eq_true->Df,getElem?_append_right->Dm,nodup_cons->Do,getElem?_append_left->Dq,perm_append_comm->Dr,mem_flatMap->Ds,replicate_succ->E3,lookup_cons->E4,nodup_iff_pairwise_ne->E8,drop_eq_getElem_cons->Ea,find?_cons->Eb,filter_nil->Ec,length->Ed,getElem_of_mem->Ei,filter_congr->Ev,lookup->F4,any_cons->Fa,filter_map->Fe,map_id->Fj,take_sublist->Fp,map_nil->Fq,flatten_cons->Fs,ext_getElem?->Ft,drop_sublist->Fu,mem_iff_getElem?->G6,length_drop->G7,dropLast_concat_getLast->Gf,take_succ_cons->Gk,zip_cons_cons->Gv,pairwise_cons->Gw,getElem_take->He,take_of_length_le->Hw,drop_of_length_le->I0,all_map->Ia,Nodup->Ib,length_nil->Ip,foldl_cons->Iq,mem_of_mem_take->J6,mem_iff_getElem->J7,filterMap_cons->Jc,mem_filterMap->Jm,map_id'->Jo,mapM_toArray->Jp,map->Jq,getElem_drop->Jr,any_map->Js,any_eq_false->Jt,cons_append->K5,eq_nil_of_length_eq_zero->Kc,sum_append->Kh,of_mem_zip->Ki,forIn_cons->Kj,foldl->Kw,drop_drop->Kx,mem_take_iff_getElem->L5,mem_of_find?_eq_some->L6,length_erase_of_mem->Lg,getElem?_take_of_lt->Lh,pairwise_singleton->Ln,getLast_eq_getElem->Lo,length_pos_of_mem->Lw,getElem?_set_self->Lx,singleton_append->M8,length_dropLast->Mi,getElem?_set_ne->Mj,length_pos_iff->Mw,ne_nil_of_mem->N0,map_singleton->N1,getElem_range->N2,find?_eq_none->N3,reverse_perm->Ni,reverse_cons->Nj,getElem?_inj->Nk,mem_reverse->Np,le_antisymm->Nq,getElem_map->Nr,ext_getElem->Nt,drop_length->Nu,length_set->O2,find?_some->O3,take_zero->Oa,range_add->Ob,drop_zero->Oc,take_add->Ol,le_trans->Om,all_cons->On,not_lt->P7,any->Qs
open List.Nodup renaming mem_erase_iff->Qt
open List.Pairwise renaming sublist->Bc,imp->Ek,imp_of_mem->Ew,nil->Gc
open List.Perm renaming append_left->D8,append_right->Hf,refl->K0
open Nat renaming le_refl->Ac,lt_of_lt_of_le->Ai,zero_le->Bi,ne_of_lt->Bm,le_trans->Br,add_sub_cancel_left->C5,lt_irrefl->Dw,add_assoc->Eh,lt_succ_self->Em,le_of_lt->Er,exists_eq_add_of_le->Fk,lt_succ_of_lt->Fy,zero_testBit->Gb,pow_le_pow_right->Gd,mul_le_mul_right->Ge,lt_trans->Gp,add_comm->Gq,zero_mul->Ik,testBit_lt_two_pow->Il,sub_self->Im,add_zero->Io,add_one_mul->Ir,eq_of_testBit_eq->J9,zero_add->Jy,mul_comm->Jz,le_of_not_lt->Ka,le_add_right->Kb,add_mul->Kg,div_add_mod->Ko,sub_zero->M5,pow_succ->M6,ne_of_gt->M7,le_of_ble_eq_true->Mh,pow_pos->Ms,mul_pos->Mt,le_succ->Mu,mul_le_mul_left->Mz,sub_add_cancel->Nf,lt_of_le_of_lt->Ng,add_sub_cancel->Nh,zero_lt_one->O7,testBit_and->O8,strongRecOn->O9,le_of_eq->P6,one_mul->Q0,add_mod->Q1
open Ne renaming symm->Dz
open Option renaming map_some->Cu,isSome_iff_exists->F9,isSome_map->Gy,getD_some->Hh,map_eq_some_iff->Lf,none->Oj,map->Ot
open Option.some renaming inj->Bh
open Or renaming inl->Am,inr->Hc
open Prod renaming ext->O6
open PyProof.Rows renaming wpS_bind->Aj,wpS_pure->Ao,Keyed->Ay,SortSt->Bu,wpS_forRange->Cz,IntsAre->Du,wpS_mono->E5,SortKind->F3,pairsOf_size->Fc,boot_isinstance->Fo,callWith_type1->G0,listUpdate_at->Gn,wpS_get->Hd,AllBare->Hg,step_dedup->Hm,seqEpoch_at->Ht,boot_sorted->Hu,wpS_lift->Iu,IsTup->Jd,wpS_modify->K6,lt_int->Kn,units_in1->Kz,wpS_reverse->L9,entry_list_sort->Lk,sortedHeap_old->M0,slot_list_sort->M1,args_list_sort->M2,sortedHeap_at->Mm,boot_list->My,subscriptTail_builtinR->N5,plain_sorted->N7,listItems_at->N8,entry_sorted->N9,args_sorted1->Na,kind_sorted->Nz,boot_all->O0,getElem?_mirror_all->O4,boot_tuple->Oi,wpAny_notIn_heap->Ou,list_sort_plain->Pd,getElem?_bubble->Pe,get?_update_seq->Pf,mirror->Pw,callWith_builtin1->Px,bubble->Py,assign_Tuple->Pz,keyLt'_oneType->Q7,StrsAre->Qu
open PyProof.Rows.SortSt renaming mk'->Ke
open PySem renaming Value->A0,wpAny_bind->A1,Shared->A3,Addr->A4,wpAny_pure->Ae,Program->Aq,Around->Bb,World->Bj,Paired->Bs,wpAny_loadPart'->Bt,boot_len->Bx,Heap->Bz,Expr->Cb,Stmt->Cj,wpAny_truthy_bool->Ct,wpAny_mono->Di,wpAny_holding->Dp,wpAny_call_entry->E1,FuncData->Ej,wpAny_typeNameOfWhole_keyiter->Eu,wpAny_passesOwn->Ey,mem_of_lookup->F8,Builtin->Ff,wpAny_typeNameOf_keyiter->Fm,Scope->Fn,wpAny_newObj_type->G9,richCompare_meets_room->Ga,wpAny_rule->Gh,wpAny_forIn_list->Gi,wpAny_specialOf->Gx,wpAny_setField->Hj,wpAny_Call_Name_kw->Hk,tupleKind_room_in1->Hl,CmpOp->Hq,wpAny_dictEntries->Hs,Model->Hv,wpAny_newList->Ig,intBits_le_64->Ih,PyData->Ij,wpAny_isInstance->Iv,wpAny_callSpecial?_slot->Iw,NameKind->J3,DictEntry->J4,wpAny_execs_nil->Ja,codeAny_builtin->Jb,wpAny_isOneOf_keyiter->Je,isSubtype_tuple_tuple->Jf,wpAny_fieldsOf->Jn,wpAny_standAt->K2,wpAny_attempt->K3,plainId_quiet->K4,wpAny_tupleItemsOf->K7,call_meets->K8,codeAny_mono->Kl,BindsTo->Ks,wpAny_execs_cons->Ky,wpAny_field->La,wpAny_dictEpoch->Lj,Within->Lm,IsTupleKey->M9,call->Mo,wpAny_Assign_Subscript->N4,seqIndex_neg->N6,Fin->Nd,wpAny_isTrue_Compare1->Nl,wpAny_pyIter_keyiter->Nw,sizeLine_eq->Nx,seqIndex_of->Ny,wpAny_setItem_heap->Oe,wpAny_getItem_heap->Of,wpAny_Name->Og,typeIs_int->Oh,wpAny_pyIter_list->Oo,wpAny_assign_Name->Op,wpAny_Dict_empty->Ov,PassesOwn->P5,wpAny_ret_mkInt->Pc,wpAny_seqItems->Q4,wpAny_newTuple->Q5,wpAny_Compare1->Q6,Params->Q9,Meets->Qa,call_list_seq->Qd,Keyword->Qw
open PySem.Around renaming under_plainId->G8,under->Li
open PySem.AutoListH renaming list___mul___list_int_3->R5
open PySem.AutoSeq1 renaming sub_list_list->Hi
open PySem.Builtin renaming bitAnd->Dt
open PySem.Builtin.Dict renaming showsAll->Kd,pendingCount->Q2,dictSlotNone->Q3
open PySem.Builtin.Dict_items renaming ownsTuple->Ie
open PySem.Builtin.Int renaming intBits->Qc
open PySem.Builtin.List renaming listTooLong->Gg
open PySem.Builtin.Range renaming rangeSize->Pb
open PySem.Builtin.Tuple renaming tupleHashOf->Et,tupleItemsOf->P9,tupleCompareSizes->Pa
open PySem.Calls renaming call_function_entry->F7,Name_function_global->Kr,callWith_builtin->Lp,evalArgs_plain->Mb
open PySem.Code renaming isFrame->Ly,frames->P8
open PySem.DictEntry renaming refKey->Qy
open PySem.EntryCells renaming newEntry->L8
open PySem.EqMixed renaming ne_str_int->Ox,ne_str_bool->Oy,ne_int_str->Oz,ne_bool_str->P0,eq_str_int->P1,eq_str_bool->P2,eq_int_str->P3,eq_bool_str->P4
open PySem.EqNone renaming ne_str_none->Ph,ne_none_str->Pi,ne_none_none->Pj,ne_none_int->Pk,ne_none_bool->Pl,ne_int_none->Pm,ne_bool_none->Pn,eq_str_none->Po,eq_none_str->Pp,eq_none_none->Pq,eq_none_int->Pr,eq_none_bool->Ps,eq_int_none->Pt,eq_bool_none->Pu
open PySem.F renaming plainAttrs_list->C2,type_list_append->C9,slot_list_append->Ca,slot_tuple_lt->Hr,slot_dict_getitem->Kf,args_tuple_lt_2->Ku,entry_tuple_lt->L4
open PySem.Heap renaming get?_push_of_some->Ad,lt_size->Ap,get?_push_size->Ba,size_push->F5,SameBut->Fv,get?_update_other->Ic,get?_update_self->Is
open PySem.Heap.DictOf renaming new->Qb
open PySem.Heap.SameBut renaming update->Kq
open PySem.IntMulOk renaming of_left->Ml
open PySem.IsL renaming update->Qv
open PySem.NameKind renaming free->Ci,cell->Iz
open PySem.Obj renaming mapSeq->Eg,mapFields->Fd,data_mapFields->Fi,isFreed_of_fields->Mg,cls_mapFields->No
open PySem.P renaming le_str->Nc
open PySem.Paired renaming length->C3,snoc->El,mono->Lv
open PySem.PassesOwn renaming never->Bl,leaving->Lu
open PySem.PyData renaming canLayAll0->Cr,eqv->En,depthAll->Ep,int->Ex,canLay0->Go,depth->Jl,eqvAll->Kv
open PySem.SeqAt renaming shaped->Gj,EqAt->Mn
open PySem.SeqAt.EqAt renaming str_int->Lb,int_str->Lc,int_int->Ld,str_str->Qf,str_none->Qg,str_bool->Qh,same->Qi,none_str->Qj,none_int->Qk,none_bool->Ql,int_none->Qm,int_bool->Qn,bool_str->Qo,bool_none->Qp,bool_int->Qq,bool_bool->Qr
open PySem.SeqRoads2.EqGives renaming str->O1
open PySem.Str renaming ofString->A5,length->Q8,empty->Qe
open PySem.Value renaming ref->B1,none->Ee,type->Eo,notImplemented->Ez,bool->F0,int->Hn,str->Ju,float->M3,isStrOf->O5,isInt->Oq,bytes->Os
open PySem.W renaming Frag->Av,mg_none_of->Bf,nsIn->Bw,findIn->Cm,fnOf->D4,kia_one->Da,excIn->Dh,keepIn->Dj,emptyDict->Dk,hideAll->E2,instObj->E9,codeIn->Fh,plainGet->Fx,hasDictIn->Gu,isFn->Ho,lookIn->Ii,plainGet_of->Ix,kdu_collect->Iy,of_hideAll->J8,plainOver->Jg,methodObj->Jh,takerIn->Jv,makesIn->Jw,OpenLaw->Jx,kitOne->K9,mg_of->Km,cellsFrom_some->L0,methodCall_KW->Le,hideAll_get->Lr,callWith_K0->Ls,callWith_K->M4,kitx_list->Me,kitx_dict->Mf,kdl_dict->Mp,handedIn->Mq,WalkO->Nm
open PySem.W.KT renaming app_list->L3
open PySem.W.Looks renaming here->Ow
open PySem.Within renaming cons->Pg
open StateT renaming run_pure->Nb
open Sum renaming inr->D9,inl->Dv
open Sum.inr renaming inj->Ll
open True renaming intro->E7
local macro_rules | `(tactic| omega) => `(tactic| first | lia | omega +splitDisjunctions)
namespace L2
open PySem PySem.Spec PyProof.Rows
noncomputable abbrev Key:=Sum Int Str
noncomputable def keyIs:Key->A0->Bool
 | .inl k,v=>Oq k v
 | .inr x,v=>O5 x v
noncomputable def keyH (w:Bj):Key->Int
 | .inl k=>hashInt k
 | .inr x=>hashStr w x
theorem zaF:∀ {k:Key} {v:A0},keyIs k v=true->(∃ i t,k=Dv i/\v=Hn i t)\/(∃ x t,k=D9 x/\v=Ju x t)
 | .inl i,v,h=>by
  obtain ⟨t,e⟩:=Value.isInt_shape (k:=i) (v:=v) h
  exact .inl ⟨i,t,rfl,e⟩
 | .inr x,v,h=>by
  obtain ⟨t,e⟩:=Value.isStrOf_shape (x:=x) (v:=v) h
  exact .inr ⟨x,t,rfl,e⟩
theorem keyIs_int (i:Int) (t:Tok):keyIs (.inl i) (.int i t)=true:=by simp [keyIs,Oq]
theorem keyIs_str (x:Str) (t:Tok):keyIs (.inr x) (.str x t)=true:=by simp [keyIs,O5]
theorem key_ll (a b:Int):decide ((Dv a:Key)=Dv b)=(a == b):=by
 by_cases e:a=b
 ·subst e; simp
 ·have h:¬ (Dv a:Key)=Dv b:=fun q=>e (Sum.inl.inj q)
  rw [decide_eq_false h]
  exact (beq_eq_false_iff_ne.mpr e).symm
theorem key_rr (a b:Str):decide ((D9 a:Key)=D9 b)=decide (a=b):=by
 by_cases e:a=b
 ·subst e; simp
 ·have h:¬ (D9 a:Key)=D9 b:=fun q=>e (Ll q)
  rw [decide_eq_false h,decide_eq_false e]
theorem key_lr (a:Int) (b:Str):decide ((Dv a:Key)=D9 b)=false:=decide_eq_false (fun q=>nomatch q)
theorem key_rl (a:Str) (b:Int):decide ((D9 a:Key)=Dv b)=false:=decide_eq_false (fun q=>nomatch q)
noncomputable def mixKind (prog:Aq) (w:Bj):PySem.KeyKind prog w Key where
 is:=keyIs
 hash:=keyH w
 inj:=fun v a b ha hb=>by
  rcases zaF ha with ⟨i,t,rfl,rfl⟩ | ⟨x,t,rfl,rfl⟩
  ·rcases zaF hb with ⟨j,u,rfl,e⟩ | ⟨y,u,rfl,e⟩
   ·injection e with e1 _; rw [e1]
   ·exact nomatch e
  ·rcases zaF hb with ⟨j,u,rfl,e⟩ | ⟨y,u,rfl,e⟩
   ·exact nomatch e
   ·injection e with e1 _; rw [e1]
 byValue:=fun k v h=>by
  rcases zaF h with ⟨i,t,rfl,rfl⟩ | ⟨x,t,rfl,rfl⟩ <;> rfl
 pyHash:=fun hv h=>by
  rcases zaF hv with ⟨i,t,rfl,rfl⟩ | ⟨x,t,rfl,rfl⟩
  ·exact wpAny_pyHash_int h
  ·exact wpAny_pyHash_str h
 eqBool:=fun hu hv h=>by
  rcases zaF hu with ⟨i,t,rfl,rfl⟩ | ⟨x,t,rfl,rfl⟩
  ·rcases zaF hv with ⟨j,u,rfl,rfl⟩ | ⟨y,u,rfl,rfl⟩
   ·rw [key_ll] at h; exact wpAny_eqBool_int h
   ·rw [key_lr] at h; exact Lc i t y u _ _ _ _ h
  ·rcases zaF hv with ⟨j,u,rfl,rfl⟩ | ⟨y,u,rfl,rfl⟩
   ·rw [key_rl] at h; exact Lb x t j u _ _ _ _ h
   ·rw [key_rr] at h; exact wpAny_eqBool_str h
 «strs» := fun k x t v h=>by
  rcases zaF h with ⟨i,u,rfl,e⟩ | ⟨y,u,rfl,e⟩
  ·exact nomatch e
  ·injection e with e1 _
   subst e1
   cases v <;> rfl
theorem mixKind_int (prog:Aq) (w:Bj) (i:Int) (t:Tok):(mixKind prog w).is (.inl i) (.int i t)=true:=keyIs_int i t
theorem mixKind_str (prog:Aq) (w:Bj) (x:Str) (t:Tok):(mixKind prog w).is (.inr x) (.str x t)=true:=keyIs_str x t
inductive V where
 | non | bl (b:Bool) | int (i:Int) | str (x:Str) | byt (b:Array UInt8) | flt (b:UInt64) | ref (a:A4) | ty (n:String)
 deriving DecidableEq
noncomputable def RelV:V->A0->Prop
 | .non,u=>u=Ee
 | .bl b,u=>u=F0 b
 | .int i,u=>∃ t,u=Hn i t
 | .str x,u=>∃ t,u=Ju x t
 | .byt b,u=>∃ t,u=Os b t
 | .flt b,u=>∃ t,u=M3 b t
 | .ref a,u=>u=B1 a
 | .ty n,u=>u=Eo n
noncomputable abbrev Vals:List V->List A0->Prop:=Bs RelV
theorem Vals.length {xs:List V} {us:List A0} (r:Vals xs us):xs.length=us.length:=C3 r
theorem Vals.get:∀ {xs:List V} {us:List A0} {i:Nat} {x:V},Vals xs us->xs[i]?=some x->∃ u,us[i]?=some u/\RelV x u
 | _,_,_,_,.nil,e=>by simp at e
 | _,_,0,_,.cons r _,e=>by simp at e; subst e; exact ⟨_,rfl,r⟩
 | _,_,i + 1,x,.cons _ t,e=>by
  obtain ⟨u,h1,h2⟩:=Vals.get (i:=i) (x:=x) t (by simpa using e)
  exact ⟨u,by simpa using h1,h2⟩
theorem Vals.set {x:V} {u:A0} (r:RelV x u):∀ {xs:List V} {us:List A0} (i:Nat),Vals xs us->Vals (xs.set i x) (us.set i u)
 | _,_,_,.nil => .nil
 | _,_,0,.cons _ t => .cons r t
 | _,_,i + 1,.cons q t => .cons q (Vals.set r i t)
theorem Vals.append:∀ {xs ys:List V} {us ws:List A0},Vals xs us->Vals ys ws->Vals (xs ++ ys) (us ++ ws)
 | _,_,_,_,.nil,s=>s
 | _,_,_,_,.cons r t,s => .cons r (Vals.append t s)
noncomputable def RelO:Option V->Option A0->Prop
 | some v,some u=>RelV v u
 | none,none=>True
 | _,_=>False
noncomputable def KV {κ : Type}:List (κ × V)->List (κ × A0)->Prop:=Bs fun (p : κ × V) (q : κ × A0)=>p.1=q.1/\RelV p.2 q.2
noncomputable def kV:Key->V
 | .inl i => .int i
 | .inr x => .str x
inductive HO where
  | lst (xs:List V)
  | tup (xs:List V)
  | dK (kvs:List (Key×V)) | dT (kvs:List (List Key×V))
  | set (S:Int->Bool) (n:Nat)
  | ins (C dx:A4) (fs:List (Str×V))
  | own (x:A4)
  | xd (fs:List (Str×V))
  | met (f x:A4)
  | rng (lo hi:Int)
  | frz (o:Obj) (u:HO)
  | tbl (ps:Array A0)
  | ext (φ : Bz->Prop)
noncomputable abbrev Hp:=A4->Option HO
noncomputable def upd (H:Hp) (a:A4) (o:HO):Hp:=fun b=>if b=a then some o else H b
theorem zac {H:Hp} {a:A4} {o:HO}:upd H a o a=some o:=by unfold upd; rw [if_pos rfl]
theorem zah {H:Hp} {a b:A4} {o:HO} (h:b≠a):upd H a o b=H b:=by unfold upd; rw [if_neg h]
theorem zhO {H:Hp} {a b:A4} {o u:HO} (h:H a=some o) (h':H b=some u) (d:o≠u):a≠b:=by
 intro e; subst e; rw [h] at h'; exact d (Bh h')
theorem zao {H:Hp} {a b:A4} {o:HO} (h:H a=some o) (h':H b=none):a≠b:=by
 intro e; subst e; rw [h] at h'; cases h'
section
variable (P:Aq) (w:Bj)
noncomputable def ObjOk (H:Hp) (h:Bz) (a:A4):HO->Prop
 | .lst xs=>xs.length<=sizeLine/\∃ (its:List A0) (n:Nat),Vals xs its/\h.get? a=some { cls := .type "list",data := .seq its.toArray n }
 | .tup xs=>xs.length<=sizeLine/\∃ its:List A0,Vals xs its/\Jd h a its.toArray
 | .dK kvs=>kvs.length<=sizeLine/\(a == sysModules)=false/\∃ vs,KV kvs vs/\h.DictOf (mixKind P w) a vs
 | .dT kvs=>kvs.length<=sizeLine/\(a == sysModules)=false/\∃ xs:List (List Key×A4×A0),
   Bs (fun (p:List Key×V) (q:List Key×A4×A0)=>p.1=q.1/\H q.2.1=some (.tup (p.1.map kV))/\RelV p.2 q.2.2) kvs xs /\
   ∃ o es ep,h.get? a=some o/\o.ExactDict/\o.data = .dict es ep/\es.toList=xs.map (entryOfKey (tupleKind (mixKind P w)))/\(xs.map (·.1)).Nodup
 | .set S n=>h.SetOf (intKind P w) a S n
 | .ins C dx fs=>H dx=some (.own a)/\fs.length<=1000/\dx≠a/\h.get? a=some (E9 C dx) /\
   ∃ mA,h.Ns1 dx mA/\(∀ f,RelO (fs.lookup f) (mA f))/\Lm mA (fs.map (·.1))
 | .own _=>∃ o,h.get? a=some o
 | .xd fs=>∃ mA,h.Ns1 a mA/\∀ f,RelO (fs.lookup f) (mA f)
 | .rng lo hi=>∃ t u v,h.get? a=some { cls := .type "range",data := .fields #[.int lo t,.int hi u,.int 1 v] }
 | .frz o u=>h.get? a=some o/\ObjOk H h a u
 | .tbl ps=>h.get? a=some { cls := .none,data := .fields ps }
 | .met f x=>h.get? a=some (Jh (.ref f) (.ref x))
 | .ext φ => φ h/\(∃ o,h.get? a=some o)/\∀ h1 h2:Bz,φ h1->(∀ o,h1.get? a=some o->h2.get? a=some o) -> φ h2
noncomputable def HOk (H:Hp) (h:Bz):Prop:=∀ a o,H a=some o->ObjOk P w H h a o
end
section
variable {P:Aq} {w:Bj} {H H':Hp} {h h':Bz} {a:A4} {o:HO}
theorem ObjOk.lt (x:ObjOk P w H h a o):a < h.objs.size:=by
 cases o with
 | lst xs=>obtain ⟨_,_,_,_,e⟩:=x; exact Ap e
 | tup xs=>obtain ⟨_,_,_,p⟩:=x; exact p.lt
 | dK kvs=>obtain ⟨_,_,_,_,o,_,_,e,_⟩:=x; exact Ap e
 | dT kvs=>obtain ⟨_,_,_,_,o,_,_,e,_⟩:=x; exact Ap e
 | set S n=>obtain ⟨o,_,_,_,e,_⟩:=x; exact Ap e
 | ins C dx fs=>obtain ⟨_,_,_,e,_⟩:=x; exact Ap e
 | own y=>obtain ⟨_,e⟩:=x; exact Ap e
 | xd fs=>obtain ⟨_,⟨_,_,_,e,_⟩,_⟩:=x; exact Ap e
 | rng lo hi=>obtain ⟨_,_,_,e⟩:=x; exact Ap e
 | frz ob u=>obtain ⟨e,_⟩:=x; exact Ap e
 | tbl ps=>exact Ap (show h.get? a=some _ from x)
 | met f y=>exact Ap (show h.get? a=some _ from x)
 | ext φ => obtain ⟨_,⟨_,e⟩,_⟩:=x; exact Ap e
theorem Bs.mapP {α β : Type} {F G : α -> β -> Prop}:∀ {l₁ : List α} {l₂ : List β},Bs F l₁ l₂ -> (∀ a b,F a b->G a b)->Bs G l₁ l₂
 | _,_,.nil,_ => .nil
 | _,_,.cons r t,f => .cons (f _ _ r) (Bs.mapP t f)
theorem ObjOk.stay (x:ObjOk P w H h a o) (k:∀ b u,(b=a\/H b=some (.own a))->h.get? b=some u->h'.get? b=some u)
  (ho:∀ b,H b=some (.own a)->H' b=some (.own a)) (ht:∀ b xs,H b=some (.tup xs)->H' b=some (.tup xs)):ObjOk P w H' h' a o:=by
 induction o with
 | lst xs=>obtain ⟨z,its,n,r,e⟩:=x; exact ⟨z,its,n,r,k _ _ (.inl rfl) e⟩
 | tup xs=>obtain ⟨z,its,r,ob,e,c⟩:=x; exact ⟨z,its,r,ob,k _ _ (.inl rfl) e,c⟩
 | dK kvs=>obtain ⟨z,y,vs,r,ob,es,ep,e,c⟩:=x; exact ⟨z,y,vs,r,ob,es,ep,k _ _ (.inl rfl) e,c⟩
 | dT kvs =>
  obtain ⟨z,y,xs,r,ob,es,ep,e,c⟩:=x
  exact ⟨z,y,xs,Bs.mapP r fun p q z=>⟨z.1,ht _ _ z.2.1,z.2.2⟩,ob,es,ep,k _ _ (.inl rfl) e,c⟩
 | set S n=>obtain ⟨ob,es,ep,t,e,c⟩:=x; exact ⟨ob,es,ep,t,k _ _ (.inl rfl) e,c⟩
 | ins C dx fs =>
  obtain ⟨d,z,ne,e,mA,⟨od,es,ep,e2,c⟩,r⟩:=x
  exact ⟨ho _ d,z,ne,k _ _ (.inl rfl) e,mA,⟨od,es,ep,k _ _ (.inr d) e2,c⟩,r⟩
 | own y=>obtain ⟨ob,e⟩:=x; exact ⟨ob,k _ _ (.inl rfl) e⟩
 | xd fs=>obtain ⟨mA,⟨od,es,ep,e,c⟩,r⟩:=x; exact ⟨mA,⟨od,es,ep,k _ _ (.inl rfl) e,c⟩,r⟩
 | rng lo hi=>obtain ⟨t,u,v,e⟩:=x; exact ⟨t,u,v,k _ _ (.inl rfl) e⟩
 | frz ob u ih=>obtain ⟨e,q⟩:=x; exact ⟨k _ _ (.inl rfl) e,ih q⟩
 | tbl ps =>
  have e:h.get? a=some { cls := .none,data := .fields ps }:=x
  show h'.get? a=some { cls := .none,data := .fields ps }
  exact k a _ (.inl rfl) e
 | met f y =>
  have e:h.get? a=some (Jh (.ref f) (.ref y)):=x
  show h'.get? a=some (Jh (.ref f) (.ref y))
  exact k a _ (.inl rfl) e
 | ext φ => obtain ⟨p,⟨o,e⟩,st⟩:=x; exact ⟨st _ _ p fun o q=>k _ _ (.inl rfl) q,⟨o,k _ _ (.inl rfl) e⟩,st⟩
theorem HOk.lt (x:HOk P w H h) (e:H a=some o):a < h.objs.size:=(x a o e).lt
theorem HOk.fresh (x:HOk P w H h) (e:h.objs.size<=a):H a=none:=by
 cases q:H a with
 | none=>rfl
 | some u=>exact absurd (Ai (x.lt q) e) (Dw _)
theorem HOk.kept (x:HOk P w H h) (k:∀ b u,h.get? b=some u->h'.get? b=some u):HOk P w H h':=fun a o e =>
 (x a o e).stay (fun b u _ q=>k b u q) (fun _ q=>q) fun _ _ q=>q
theorem HOk.laid (x:HOk P w H h) (k:∀ b u,h.get? b=some u->h'.get? b=some u) (hp:h.objs.size<=a) (new:ObjOk P w (upd H a o) h' a o):HOk P w (upd H a o) h':=fun b u e=>by
 have hn:=x.fresh hp
 by_cases hb:b=a
 ·subst hb; rw [zac] at e; cases e; exact new
 ·rw [zah hb] at e
  exact (x b u e).stay (fun c v _ q=>k c v q) (fun c q=>by rw [zah (zao q hn)]; exact q) fun c xs q=>by rw [zah (zao q hn)]; exact q
end
noncomputable def Rd (H:Hp) (a:A4) (u:HO):Prop:=H a=some u\/∃ o,H a=some (.frz o u)
theorem Rd.ok {P:Aq} {w:Bj} {H:Hp} {h:Bz} {a:A4} {u:HO} (r:Rd H a u) (x:HOk P w H h):ObjOk P w H h a u:=by
 rcases r with r | ⟨o,r⟩
 ·exact x a u r
 ·obtain ⟨_,q⟩:=x a _ r
  exact q
noncomputable def Mut:Option HO->Prop
 | some (.lst _)=>True
 | some (.dK _)=>True
 | some (.dT _)=>True
 | some (.set _ _)=>True
 | some (.ins _ _ _)=>True
 | some (.ext _)=>True
 | _=>False
section
variable {P:Aq} {w:Bj} {H:Hp} {h h':Bz} {x e:A4} {o':HO}
theorem HOk.write (ok:HOk P w H h) (mu:Mut (H x)) (he:e=x\/H e=some (.own x)) (k:∀ b u,b≠e->h.get? b=some u->h'.get? b=some u) (heo:∃ u,h'.get? e=some u)
  (new:ObjOk P w (upd H x o') h' x o'):HOk P w (upd H x o') h':=fun b u q=>by
 have nown:∀ c y,H c=some (.own y)->c≠x:=fun c y r z=>by subst z; rw [r] at mu; exact mu
 have ntup:∀ c xs,H c=some (.tup xs)->c≠x:=fun c xs r z=>by subst z; rw [r] at mu; exact mu
 by_cases hb:b=x
 ·subst hb; rw [zac] at q; cases q; exact new
 ·rw [zah hb] at q
  by_cases hbe:b=e
  ·have q':H b=some (.own x):=by
    rcases he with z | z
    ·exact absurd (hbe.trans z) hb
    ·rw [hbe]; exact z
   rw [q] at q'; cases q'
   obtain ⟨v,hv⟩:=heo
   exact ⟨v,by rw [hbe]; exact hv⟩
  ·refine (ok b u q).stay (fun c v hc r=>k c v ?_ r) (fun c r=>by rw [zah (nown c b r)]; exact r) fun c xs r=>by rw [zah (ntup c xs r)]; exact r
   rcases hc with rfl | hc
   ·exact hbe
   ·rintro rfl
    rcases he with z | z
    ·exact nown c b hc z
    ·rw [hc] at z; cases z; exact hb rfl
end
structure Un (fs ex:List A4) (H H':Hp) (h h':Bz):Prop where
 keep:∀ b o,h.get? b=some o->H b=none->b ∉ fs->b ∉ ex->h'.get? b=some o
 slot:∀ b o,h.get? b=some o->H b=none->b∈fs->b ∉ ex->∃ sl,h'.get? b=some { o with slots:=sl }
 free:∀ b o,h.get? b=some o->H b=none->b ∉ ex->H' b=none
 there:∀ b o,h.get? b=some o->b ∉ ex->∃ o',h'.get? b=some o'
 tups:∀ b xs,H b=some (.tup xs)->H' b=some (.tup xs)
 frzs:∀ b o u,H b=some (.frz o u)->H' b=some (.frz o u)
 tbls:∀ b ps,H b=some (.tbl ps)->∃ more,H' b=some (.tbl (ps ++ more))
section
variable {fs fs' ex ex':List A4} {H H1 H2:Hp} {h h1 h2 h':Bz} {a x e:A4} {o:HO}
theorem Un.any (u:Un fs ex H H1 h h1) {b:A4} {ob:Obj} (q:h.get? b=some ob) (n:H b=none) (hx:b ∉ ex):∃ sl,h1.get? b=some { ob with slots:=sl }:=by
 by_cases hb:b∈fs
 ·exact u.slot b ob q n hb hx
 ·exact ⟨ob.slots,u.keep b ob q n hb hx⟩
theorem Un.trans (a:Un fs ex H H1 h h1) (b:Un fs ex H1 H2 h1 h2):Un fs ex H H2 h h2 where
 keep:=fun c ob q n hc hx=>b.keep c ob (a.keep c ob q n hc hx) (a.free c ob q n hx) hc hx
 slot:=fun c ob q n hc hx=>by
  obtain ⟨sl,e1⟩:=a.slot c ob q n hc hx
  obtain ⟨sl',e2⟩:=b.slot c _ e1 (a.free c ob q n hx) hc hx
  exact ⟨sl',e2⟩
 free:=fun c ob q n hx=>by
  obtain ⟨o',e1⟩:=a.there c ob q hx
  exact b.free c o' e1 (a.free c ob q n hx) hx
 there:=fun c ob q hx=>by
  obtain ⟨o',e1⟩:=a.there c ob q hx
  exact b.there c o' e1 hx
 tups:=fun c xs q=>b.tups c xs (a.tups c xs q)
 frzs:=fun c ob xs q=>b.frzs c ob xs (a.frzs c ob xs q)
 tbls:=fun c ps q=>by
  obtain ⟨m1,e1⟩:=a.tbls c ps q
  obtain ⟨m2,e2⟩:=b.tbls c _ e1
  exact ⟨m1 ++ m2,by rw [e2,Jk]⟩
theorem Un.kept (k:∀ b u,h.get? b=some u->h'.get? b=some u):Un fs ex H H h h' :=
 ⟨fun b ob q _ _ _=>k b ob q,fun b ob q _ _ _=>⟨ob.slots,k b ob q⟩,fun _ _ _ n _=>n,fun b ob q _=>⟨ob,k b ob q⟩,fun _ _ q=>q,fun _ _ _ q=>q,fun _ ps q=>⟨#[],by rw [q]; simp⟩⟩
theorem Un.refl:Un fs ex H H h h:=Un.kept fun _ _ q=>q
theorem Un.laid (k:∀ b u,h.get? b=some u->h'.get? b=some u) (hp:h.objs.size<=a) (hn:H a=none):Un fs ex H (upd H a o) h h' where
 keep:=fun b u q _ _ _=>k b u q
 slot:=fun b u q _ _ _=>⟨u.slots,k b u q⟩
 free:=fun b u q n _=>by rw [zah (Bm (Ai (Ap q) hp))]; exact n
 there:=fun b u q _=>⟨u,k b u q⟩
 tups:=fun b xs q=>by rw [zah (zao q hn)]; exact q
 frzs:=fun b u xs q=>by rw [zah (zao q hn)]; exact q
 tbls:=fun b ps q=>⟨#[],by rw [zah (zao q hn),q]; simp⟩
theorem Un.write (mu:Mut (H x)) (he:e=x\/H e=some (.own x)) (k:∀ b u,b≠e->h.get? b=some u->h'.get? b=some u) (heo:∃ u,h'.get? e=some u):Un fs ex H (upd H x o) h h':=by
 have hx:∀ b,H b=none->b≠x:=fun b n z=>by subst z; rw [n] at mu; exact mu
 have hb:∀ b,H b=none->b≠e:=fun b n z=>by
  subst z
  rcases he with r | r
  ·exact hx b n r
  ·rw [n] at r; cases r
 have hm:∀ b u,H b=some u->¬ Mut (some u)->b≠x:=fun b u q nm z=>by subst z; rw [q] at mu; exact nm mu
 refine ⟨fun b u q n _ _=>k b u (hb b n) q,fun b u q n _ _=>⟨u.slots,k b u (hb b n) q⟩,fun b u q n _=>by rw [zah (hx b n)]; exact n,fun b u q _ => ?_,
  fun b xs q=>by rw [zah (hm b _ q fun z=>z)]; exact q,fun b u xs q=>by rw [zah (hm b _ q fun z=>z)]; exact q,fun b ps q=>⟨#[],by rw [zah (hm b _ q fun z=>z),q]; simp⟩⟩
 by_cases hbe:b=e
 ·subst hbe; exact heo
 ·exact ⟨u,k b u hbe q⟩
end
noncomputable def trk (h:Bz) (H:Hp):List A4:=(Ab h.objs.size).filter fun a=>(H a).isSome
noncomputable def hidT (h:Bz) (H:Hp):Bz:=E2 h (trk h H)
theorem hidT_size (h:Bz) (H:Hp):(hidT h H).objs.size=h.objs.size:=PySem.W.hideAll_size _ _
theorem hidT_get {h:Bz} {H:Hp} {b:A4} {o:Obj} (e:h.get? b=some o) (n:H b=none):(hidT h H).get? b=some o :=
 Lr _ e fun hm=>by
  have q:(H b).isSome=true:=(Ax.mp hm).2
  rw [n] at q; simp at q
theorem of_hidT {h:Bz} {H:Hp} {b:A4} {o:Obj} (e:(hidT h H).get? b=some o):h.get? b=some o/\H b=none:=by
 have e':h.get? b=some o:=J8 (trk h H) e
 refine ⟨e',?_⟩
 cases q:H b with
 | none=>rfl
 | some x =>
  have hm:b∈trk h H:=Ax.mpr ⟨B7.mpr (Ap e'),by simp [q]⟩
  have z:(hidT h H).get? b=none:=PySem.W.hideAll_none (trk h H) hm
  rw [z] at e; cases e
noncomputable def allNews (g h:Bz) (L:A4):List (A4×Obj):=(Ab h.objs.size).filterMap fun a=>if a=L\/(g.get? a).isSome=true then none else (h.get? a).map fun o=>(a,o)
noncomputable def rest (g h:Bz) (L d:A4):List (A4×Obj):=(allNews g h L).filter fun p=>decide (p.1≠d)
structure Mod (K:Av) (mg:Str->Option A0) (base:Bz):Prop where
 kin:K.In base
 glob:base.Ns mainGlobals mg
 blt:∃ mb,base.Ns builtinsNs mb/\∀ x:Str,x ≠ "__name__" -> mb x=bootBuiltins x
 nolimit:base.NoLimit
structure Cx where
 prog:Aq
 w:Bj
 K:Av
 mg:Str->Option A0
 base:Bz
 A:Bb
 N:List Str
 s₀ : A3
 H₀ : Hp
 env:Env
 outer:List Env
 stack:List Env
 ex:List A4
 fn:Str->Bool
 calm:Bool
 pn:List (A4×Obj)
 xe:A0->A3->Prop
noncomputable def frs (l:List Env):List A4:=l.filterMap (·.frame)
noncomputable abbrev Cx.fs (X:Cx):List A4:=frs X.outer
noncomputable def Vis (sc:Fn) (x:Str):Prop:=sc.names.lookup x=some .local\/sc.names.lookup x=some .cell\/sc.names.lookup x=some .free
noncomputable def Loc (sc:Fn) (x:Str):Prop:=sc.names.lookup x=some .local\/sc.names.lookup x=some .cell
noncomputable def Look (env:Env) (h:Bz) (m:Str->Option A0) (x:Str) (u:A0):Prop :=
 (env.kindOf x=some .local/\m x=some u)\/((env.kindOf x=some .cell\/env.kindOf x=some .free)/\∃ c,env.cells.lookup x=some c/\h.IsCell c (some u))
structure Cx.Ok (X:Cx):Prop where
 mod:Mod X.K X.mg X.base
 kind:X.env.scope.kind = .function
 glob:X.env.globals=mainGlobals
 blt:X.env.builtins=builtinsNs
 above:X.s₀.heap.objs.size<=X.env.locals
 inj:∀ x y c,X.env.cells.lookup x=some c->X.env.cells.lookup y=some c->x=y
 has:∀ x,(X.env.kindOf x=some .cell\/X.env.kindOf x=some .free)->∃ c,X.env.cells.lookup x=some c
 cab:∀ x c,X.fn x=true->X.env.cells.lookup x=some c->X.s₀.heap.objs.size<=c
 hd:X.calm=true->X.A.handled=none
 frames:X.A.frames=some X.stack
 stk:X.stack=X.outer\/(X.stack=X.env :: X.outer/\X.env.frame=some X.env.locals)
 exf:∀ b∈X.ex,b≠X.env.locals/\∀ x c,X.env.cells.lookup x=some c->c≠b
 bs:∀ b o,X.base.get? b=some o->X.s₀.heap.get? b=some o/\X.H₀ b=none
 bsz:X.base.objs.size<=X.s₀.heap.objs.size
 noex:∀ b o,X.base.get? b=some o->b ∉ X.ex
 exfs:∀ b∈X.ex,b ∉ X.fs
 funs:X.s₀.heap.FunFrames X.base X.outer
 frf:∀ b∈X.fs,X.H₀ b=none
structure Inv (X:Cx) (pins:List (A4×Obj)) (σ : List (Option V)) (H:Hp) (s:A3):Prop where
 ok:X.Ok
 os:s.os=X.s₀.os
 bare:Hg s.gens
 base:Un X.fs X.ex X.H₀ H X.s₀.heap s.heap
 loc:∃ m,s.heap.Ns X.env.locals m/\∀ (i:Nat) (x:Str) (v:V),X.N[i]?=some x -> σ[i]?=some (some v)->Vis X.env.scope x->∃ u,RelV v u/\Look X.env s.heap m x u
 cell:∀ x c,X.env.cells.lookup x=some c->∃ v,s.heap.IsCell c v
 free:H X.env.locals=none
 freeC:∀ x c,X.env.cells.lookup x=some c->H c=none
 pin:∀ p∈X.pn ++ pins,s.heap.get? p.1=some p.2/\H p.1=none/\p.1≠X.env.locals/\p.1 ∉ X.fs/\∀ v,p.2.data ≠ .cell v
 hok:HOk X.prog X.w H s.heap
 len : σ.length=X.N.length
section
variable {X:Cx} {pins:List (A4×Obj)} {σ : List (Option V)} {H H':Hp} {s:A3} {h':Bz}
theorem Cx.Ok.nofr (ok:X.Ok) {b:A4} {o:Obj} (e:X.base.get? b=some o):b ∉ X.fs:=fun hb=>by
 have:=(ok.funs.mem hb).1
 rw [e] at this; cases this
theorem Inv.bs (I:Inv X pins σ H s):∀ b o,X.base.get? b=some o->s.heap.get? b=some o/\H b=none:=fun b o e =>
 ⟨I.base.keep b o (I.ok.bs b o e).1 (I.ok.bs b o e).2 (I.ok.nofr e) (I.ok.noex b o e),I.base.free b o (I.ok.bs b o e).1 (I.ok.bs b o e).2 (I.ok.noex b o e)⟩
theorem Inv.bk (I:Inv X pins σ H s):∀ b o,X.base.get? b=some o->s.heap.get? b=some o:=fun b o e=>(I.bs b o e).1
theorem Inv.mod (I:Inv X pins σ H s):Mod X.K X.mg X.base:=I.ok.mod
theorem Inv.kIn (I:Inv X pins σ H s):X.K.In s.heap:=I.ok.mod.kin.keeps I.bk
theorem Inv.lt (I:Inv X pins σ H s):X.env.locals < s.heap.objs.size:=let ⟨_,hn,_⟩:=I.loc; hn.lt
theorem Inv.sz (I:Inv X pins σ H s):X.s₀.heap.objs.size<=s.heap.objs.size:=Br I.ok.above (Er I.lt)
theorem Inv.nofs (I:Inv X pins σ H s) {a:A4} (h:s.heap.objs.size<=a):a ∉ X.fs:=fun hb=>by
 obtain ⟨_,o,ho,_⟩:=I.ok.funs.mem hb
 exact absurd (Ai (Ap ho) (Br I.sz h)) (Dw _)
theorem Inv.cne (I:Inv X pins σ H s):∀ x c,X.env.cells.lookup x=some c->c≠X.env.locals:=fun x c e z=>by
 obtain ⟨v,o,ho,hd⟩:=I.cell x c e
 obtain ⟨m,⟨o',es,ep,ho',hd',_⟩,_⟩:=I.loc
 rw [z,ho'] at ho; cases ho; rw [hd'] at hd; cases hd
theorem Inv.funs (I:Inv X pins σ H s):s.heap.FunFrames X.base X.outer:=by
 have all:∀ (l:List Env),(∀ b∈frs l,b∈X.fs)->X.s₀.heap.FunFrames X.base l->s.heap.FunFrames X.base l:=by
  intro l
  induction l with
  | nil=>intro _ _; trivial
  | cons env r ih =>
   intro hs hl
   obtain ⟨hk,⟨L,o,hf,hn,ho,hd⟩,hr⟩:=hl
   have hL:L∈X.fs:=hs L (by unfold frs; rw [Jc,hf]; exact Ah)
   obtain ⟨sl,e⟩:=I.base.slot L o ho (I.ok.frf L hL) hL fun z=>I.ok.exfs L z hL
   exact ⟨hk,⟨L,_,hf,hn,e,hd⟩,ih (fun b hb=>hs b (by unfold frs; rw [Jc,hf]; exact Aa _ hb)) hr⟩
 exact all X.outer (fun _ hb=>hb) I.ok.funs
theorem Inv.stack (I:Inv X pins σ H s):s.heap.FunFrames X.base X.stack:=by
 rcases I.ok.stk with e | ⟨e,hf⟩
 ·rw [e]; exact I.funs
 ·rw [e]
  obtain ⟨m,hn,_⟩:=I.loc
  refine .cons (by rw [I.ok.kind]; decide) hf hn ?_ I.funs
  exact Heap.get?_none_of_le (Br I.ok.bsz I.ok.above)
theorem Inv.stkSub (I:Inv X pins σ H s):∀ b∈frs X.stack,b∈X.env.locals :: X.fs:=fun b hb=>by
 rcases I.ok.stk with e | ⟨e,hf⟩
 ·rw [e] at hb; exact Aa _ hb
 ·rw [e] at hb
  unfold frs at hb
  rw [Jc,hf] at hb
  exact hb
theorem Inv.stkFree (I:Inv X pins σ H s):∀ b∈frs X.stack,H b=none:=fun b hb=>by
 rcases B9.mp (I.stkSub b hb) with e | hb
 ·rw [e]; exact I.free
 ·obtain ⟨_,o,ho,_⟩:=I.ok.funs.mem hb
  exact I.base.free b o ho (I.ok.frf b hb) fun z=>I.ok.exfs b z hb
theorem Inv.step {g':Array GenState} {t':Nat} {d':Drawn} {ch:List A4} (I:Inv X pins σ H s)
  (hch:∀ b∈ch,(b∈X.ex\/X.s₀.heap.objs.size<=b)/\b≠X.env.locals/\(∀ x c,X.env.cells.lookup x=some c->c≠b)/\∀ p∈X.pn ++ pins,p.1≠b)
  (keep:∀ b o,b≠X.env.locals->b ∉ X.fs->b ∉ ch->s.heap.get? b=some o->H b=none->h'.get? b=some o)
  (slot:∀ b o,b≠X.env.locals->b∈X.fs->b ∉ ch->s.heap.get? b=some o->H b=none->∃ sl,h'.get? b=some { o with slots:=sl }) (free:∀ b o,b ∉ ch->s.heap.get? b=some o->H b=none->H' b=none)
  (there:∀ b o,b ∉ ch->s.heap.get? b=some o->∃ o',h'.get? b=some o')
  (tups:∀ b xs,H b=some (.tup xs)->H' b=some (.tup xs)) (frzs:∀ b o u,H b=some (.frz o u)->H' b=some (.frz o u)) (tbls:∀ b ps,H b=some (.tbl ps)->∃ more,H' b=some (.tbl (ps ++ more)))
  (ns:∀ m,s.heap.Ns X.env.locals m->h'.Ns X.env.locals m) (hok:HOk X.prog X.w H' h') (hg:Hg g') :
  Inv X pins σ H' { s with heap:=h',gens:=g',drawn:=d',toks:=t' }:=by
 have neL:∀ b o,X.s₀.heap.get? b=some o->b≠X.env.locals:=fun b o e=>Bm (Ai (Ap e) I.ok.above)
 have neC:∀ b o,X.s₀.heap.get? b=some o->b ∉ X.ex->b ∉ ch:=fun b o e hx hb=>by
  rcases (hch b hb).1 with z | z
  ·exact hx z
  ·exact absurd (Ai (Ap e) z) (Dw _)
 have cellK:∀ x c,X.env.cells.lookup x=some c->∀ v,s.heap.IsCell c v->h'.IsCell c v:=fun x c e v ⟨o,ho,hd⟩=>by
  have nch:c ∉ ch:=fun z=>(hch c z).2.2.1 x c e rfl
  by_cases hc:c∈X.fs
  ·obtain ⟨sl,q⟩:=slot c o (I.cne x c e) hc nch ho (I.freeC x c e)
   exact ⟨_,q,hd⟩
  ·exact ⟨o,keep c o (I.cne x c e) hc nch ho (I.freeC x c e),hd⟩
 refine ⟨I.ok,I.os,hg,⟨fun b o e n hb hx => ?_,fun b o e n hb hx => ?_,fun b o e n hx => ?_,fun b o e hx => ?_,fun b xs e=>tups b xs (I.base.tups b xs e),fun b o xs e=>frzs b o xs (I.base.frzs b o xs e),fun b ps e => ?_⟩,?_,fun x c e => ?_,?_,fun x c e => ?_,fun p hp => ?_,hok,I.len⟩
 ·exact keep b o (neL b o e) hb (neC b o e hx) (I.base.keep b o e n hb hx) (I.base.free b o e n hx)
 ·obtain ⟨sl,e1⟩:=I.base.slot b o e n hb hx
  obtain ⟨sl',e2⟩:=slot b _ (neL b o e) hb (neC b o e hx) e1 (I.base.free b o e n hx)
  exact ⟨sl',e2⟩
 ·obtain ⟨o',e1⟩:=I.base.there b o e hx
  exact free b o' (neC b o e hx) e1 (I.base.free b o e n hx)
 ·obtain ⟨o',e1⟩:=I.base.there b o e hx
  exact there b o' (neC b o e hx) e1
 ·obtain ⟨m1,e1⟩:=I.base.tbls b ps e
  obtain ⟨m2,e2⟩:=tbls b _ e1
  exact ⟨m1 ++ m2,by rw [e2,Jk]⟩
 ·obtain ⟨m,hn,hl⟩:=I.loc
  refine ⟨m,ns m hn,fun i x v e1 e2 e3 => ?_⟩
  obtain ⟨u,r,l⟩:=hl i x v e1 e2 e3
  refine ⟨u,r,?_⟩
  rcases l with l | ⟨k,c,e,z⟩
  ·exact .inl l
  ·exact .inr ⟨k,c,e,cellK x c e _ z⟩
 ·obtain ⟨v,z⟩:=I.cell x c e
  exact ⟨v,cellK x c e v z⟩
 ·obtain ⟨m,⟨o,_,_,ho,_⟩,_⟩:=I.loc
  exact free _ o (fun z=>(hch _ z).2.1 rfl) ho I.free
 ·obtain ⟨v,o,ho,hd⟩:=I.cell x c e
  exact free c o (fun z=>(hch c z).2.2.1 x c e rfl) ho (I.freeC x c e)
 ·obtain ⟨e,n,ne,nf,d⟩:=I.pin p hp
  have nch:p.1 ∉ ch:=fun z=>(hch p.1 z).2.2.2 p hp rfl
  exact ⟨keep p.1 p.2 ne nf nch e n,free p.1 p.2 nch e n,ne,nf,d⟩
theorem Inv.un {t':Nat} (I:Inv X pins σ H s) (u:Un X.fs [] H H' s.heap h') (hok:HOk X.prog X.w H' h'):Inv X pins σ H' { s with heap:=h',toks:=t' }:=by
 obtain ⟨m,⟨o,es,ep,ho,r⟩,_⟩:=id I.loc
 obtain ⟨sl,hL⟩:=u.any ho I.free (by simp)
 exact I.step (g':=s.gens) (d':=s.drawn) (ch := []) (fun _ z=>nomatch z) (fun b o _ hb _ e n=>u.keep b o e n hb (by simp)) (fun b o _ hb _ e n=>u.slot b o e n hb (by simp)) (fun b o _ e n=>u.free b o e n (by simp)) (fun b o _ e=>u.there b o e (by simp)) u.tups u.frzs u.tbls (fun m' hm=>by
  obtain ⟨o',es',ep',ho',r'⟩:=hm
  rw [ho] at ho'; cases ho'
  exact ⟨_,es',ep',hL,r'⟩) hok I.bare
theorem Inv.call {g':Array GenState} {t':Nat} {d':Drawn} {ch:List A4} (I:Inv X pins σ H s) (u:Un (frs X.stack) ch H H' s.heap h') (hok:HOk X.prog X.w H' h') (hg:Hg g')
  (hch:∀ b∈ch,(b∈X.ex\/X.s₀.heap.objs.size<=b)/\b≠X.env.locals/\(∀ x c,X.env.cells.lookup x=some c->c≠b)/\∀ p∈X.pn ++ pins,p.1≠b) :
  Inv X pins σ H' { s with heap:=h',gens:=g',drawn:=d',toks:=t' }:=by
 obtain ⟨m,⟨o,es,ep,ho,r⟩,_⟩:=id I.loc
 obtain ⟨sl,hL⟩:=u.any ho I.free fun z=>(hch _ z).2.1 rfl
 exact I.step (ch:=ch) hch (fun b o hL hb hc e n=>u.keep b o e n (fun z=>(B9.mp (I.stkSub b z)).elim hL hb) hc) (fun b o _ _ hc e n=>u.any e n hc) (fun b o hc e n=>u.free b o e n hc) (fun b o hc e=>u.there b o e hc) u.tups u.frzs u.tbls (fun m' hm=>by
  obtain ⟨o',es',ep',ho',r'⟩:=hm
  rw [ho] at ho'; cases ho'
  exact ⟨_,es',ep',hL,r'⟩) hok hg
theorem Inv.turned {t':Nat} {it:A4} (I:Inv X pins σ H s) (k:∀ b o,b≠it->s.heap.get? b=some o->h'.get? b=some o) (hn:H it=none) (hL:it≠X.env.locals)
  (h1:it∈X.ex\/X.s₀.heap.objs.size<=it) (h2:∀ x c,X.env.cells.lookup x=some c->c≠it) (h3:∀ p∈X.pn ++ pins,p.1≠it):Inv X pins σ H { s with heap:=h',toks:=t' }:=by
 have nit:∀ b u,H b=some u->b≠it:=fun b u e z=>by rw [z,hn] at e; cases e
 refine I.step (g':=s.gens) (d':=s.drawn) (ch := [it]) (fun b hb => ?_) (fun b o _ _ hc e _=>k b o (fun z=>hc (by simp [z])) e) (fun b o _ _ hc e _=>⟨o.slots,k b o (fun z=>hc (by simp [z])) e⟩) (fun _ _ _ _ n=>n)
  (fun b o hc e=>⟨o,k b o (fun z=>hc (by simp [z])) e⟩) (fun _ _ e=>e) (fun _ _ _ e=>e) (fun b ps e=>⟨#[],by rw [e]; simp⟩) (fun m hm => ?_) (fun b u e => ?_) I.bare
 ·have e:b=it:=by simpa using hb
  subst e
  exact ⟨h1,hL,h2,h3⟩
 ·obtain ⟨o,es,ep,ho,r⟩:=hm
  exact ⟨o,es,ep,k _ o (Dz hL) ho,r⟩
 ·refine (I.hok b u e).stay (fun c v hc q=>k c v ?_ q) (fun _ q=>q) fun _ _ q=>q
  rcases hc with z | z
  ·rw [z]; exact nit b u e
  ·exact nit c _ z
theorem Inv.tok (I:Inv X pins σ H s) (t:Nat):Inv X pins σ H { s with toks:=t }:=I.un (h':=s.heap) (t':=t) Un.refl I.hok
theorem Inv.kept {t':Nat} (I:Inv X pins σ H s) (k:∀ b u,s.heap.get? b=some u->h'.get? b=some u):Inv X pins σ H { s with heap:=h',toks:=t' }:=I.un (Un.kept k) (I.hok.kept k)
theorem Inv.laid {a:A4} {o:HO} {t':Nat} (I:Inv X pins σ H s) (k:∀ b u,s.heap.get? b=some u->h'.get? b=some u) (hp:s.heap.objs.size<=a) (new:ObjOk X.prog X.w (upd H a o) h' a o) :
  Inv X pins σ (upd H a o) { s with heap:=h',toks:=t' }:=I.un (Un.laid k hp (I.hok.fresh hp)) (I.hok.laid k hp new)
theorem Inv.write {x e:A4} {o:HO} {t':Nat} (I:Inv X pins σ H s) (mu:Mut (H x)) (he:e=x\/H e=some (.own x)) (k:∀ b u,b≠e->s.heap.get? b=some u->h'.get? b=some u) (heo:∃ u,h'.get? e=some u)
  (new:ObjOk X.prog X.w (upd H x o) h' x o):Inv X pins σ (upd H x o) { s with heap:=h',toks:=t' }:=I.un (Un.write mu he k heo) (I.hok.write mu he k heo new)
theorem Inv.pins_of {pins':List (A4×Obj)} (I:Inv X pins σ H s) (h:∀ p∈pins',s.heap.get? p.1=some p.2/\H p.1=none/\p.1≠X.env.locals/\p.1 ∉ X.fs/\∀ v,p.2.data ≠ .cell v):Inv X pins' σ H s :=
 ⟨I.ok,I.os,I.bare,I.base,I.loc,I.cell,I.free,I.freeC,fun p hp=>(Al.mp hp).elim (fun z=>I.pin p (C1 _ z)) (h p),I.hok,I.len⟩
theorem zfZ {N:List Str} (hN:N.Nodup) {i j:Nat} {x:Str} (a:N[i]?=some x) (b:N[j]?=some x):i=j:=by
 obtain ⟨h1,e1⟩:=Ar.mp a
 obtain ⟨h2,e2⟩:=Ar.mp b
 exact (List.getElem_inj hN).mp (e1.trans e2.symm)
theorem zeu {M:Hv} {A:Bb} {E:A0->A3->Prop} {i:Nat} {x:Str} {v:V} {u:A0} {Q:Unit->A3->Prop} (I:Inv X pins σ H s) (hN:X.N.Nodup) (hi:X.N[i]?=some x) (hx:Loc X.env.scope x) (r:RelV v u)
  (h:∀ s',Inv X pins (σ.set i (some v)) H s'->(∃ a,Fv a s.heap s'.heap/\(a=X.env.locals\/X.env.cells.lookup x=some a))->Q () s') (hf:X.fn x=true\/X.env.scope.names.lookup x=some .local:=by first | exact .inl rfl | exact .inr rfl | assumption):wpAny M A (storeName X.env x u) Q E s:=by
 obtain ⟨m,hn,hl⟩:=id I.loc
 have hcls:(X.env.scope.kind == .class || (X.env.scope.kind == .module && X.env.locals != X.env.globals))=false:=by rw [I.ok.kind]; rfl
 have hiσ : i < σ.length:=by rw [I.len]; exact (Ar.mp hi).1
 have cne:=I.cne
 have tracked:∀ {a:A4} {h':Bz},(∃ o,s.heap.get? a=some o/\H a=none)->Fv a s.heap h'->HOk X.prog X.w H h':=fun {a h'} ha hs b ob e=>by
  obtain ⟨_,_,hfree⟩:=ha
  refine (I.hok b ob e).stay (fun c w' hc q=>(hs.2 c ?_).trans q) (fun _ q=>q) fun _ _ q=>q
  rintro rfl
  rcases hc with rfl | hc
  ·rw [hfree] at e; cases e
  ·rw [hfree] at hc; cases hc
 rcases hx with hk | hk
 ·refine wpAny_storeName_local hk hn (fun h' hn' hs => ?_) hcls
  obtain ⟨oL,_,_,hoL,_⟩:=id hn
  refine h _ ⟨I.ok,I.os,I.bare,⟨fun b o e n hb hx => ?_,fun b o e n hb hx => ?_,I.base.free,fun b o e hx => ?_,I.base.tups,I.base.frzs,I.base.tbls⟩,⟨_,hn',fun j y v' e1 e2 e3 => ?_⟩,fun y c e => ?_,I.free,I.freeC,fun p hp => ?_,tracked ⟨oL,hoL,I.free⟩ hs,by simpa using I.len⟩ ⟨_,hs,.inl rfl⟩
  ·exact (hs.2 b (Bm (Ai (Ap e) I.ok.above))).trans (I.base.keep b o e n hb hx)
  ·obtain ⟨sl,e1⟩:=I.base.slot b o e n hb hx
   exact ⟨sl,(hs.2 b (Bm (Ai (Ap e) I.ok.above))).trans e1⟩
  ·obtain ⟨o',e1⟩:=I.base.there b o e hx
   exact ⟨o',(hs.2 b (Bm (Ai (Ap e) I.ok.above))).trans e1⟩
  ·by_cases hj:j=i
   ·subst hj
    rw [hi] at e1; cases e1
    rw [Lx hiσ] at e2
    cases e2
    exact ⟨u,r,.inl ⟨hk,by simp⟩⟩
   ·rw [Mj (Dz hj)] at e2
    obtain ⟨u',r',q⟩:=hl j y v' e1 e2 e3
    refine ⟨u',r',?_⟩
    rcases q with ⟨k,e⟩ | ⟨k,c,e,z⟩
    ·refine .inl ⟨k,?_⟩
     have:y≠x:=fun e=>hj (zfZ hN e1 (e ▸ hi))
     simp [this,e]
    ·exact .inr ⟨k,c,e,z.sameBut hs (cne y c e)⟩
  ·obtain ⟨w',z⟩:=I.cell y c e
   exact ⟨w',z.sameBut hs (cne y c e)⟩
  ·obtain ⟨e,n,ne,nf,d⟩:=I.pin p hp
   exact ⟨(hs.2 p.1 ne).trans e,n,ne,nf,d⟩
 ·have hfn:X.fn x=true:=by
   rcases hf with z | z
   ·exact z
   ·rw [z] at hk; cases hk
  obtain ⟨c,hc⟩:=I.ok.has x (.inl hk)
  obtain ⟨w',z⟩:=I.cell x c hc
  refine wpAny_storeName_cell I.ok.kind hk hc z (fun h' hc' hs => ?_)
  obtain ⟨oc,hoc,hocd⟩:=id z
  refine h { s with heap:=h' } ⟨I.ok,I.os,I.bare,⟨fun b o e n hb hx => ?_,fun b o e n hb hx => ?_,I.base.free,fun b o e hx => ?_,I.base.tups,I.base.frzs,I.base.tbls⟩,⟨m,hn.sameBut hs (Dz (cne x c hc)),fun j y v' e1 e2 e3 => ?_⟩,fun y c' e => ?_,I.free,I.freeC,fun p hp => ?_,tracked ⟨oc,hoc,I.freeC x c hc⟩ hs,by simpa using I.len⟩ ⟨c,hs,.inr hc⟩
  ·exact (hs.2 b (Bm (Ai (Ap e) (I.ok.cab x c hfn hc)))).trans (I.base.keep b o e n hb hx)
  ·obtain ⟨sl,e1⟩:=I.base.slot b o e n hb hx
   exact ⟨sl,(hs.2 b (Bm (Ai (Ap e) (I.ok.cab x c hfn hc)))).trans e1⟩
  ·obtain ⟨o',e1⟩:=I.base.there b o e hx
   exact ⟨o',(hs.2 b (Bm (Ai (Ap e) (I.ok.cab x c hfn hc)))).trans e1⟩
  ·by_cases hj:j=i
   ·subst hj
    rw [hi] at e1; cases e1
    rw [Lx hiσ] at e2
    cases e2
    exact ⟨u,r,.inr ⟨.inl hk,c,hc,hc'⟩⟩
   ·rw [Mj (Dz hj)] at e2
    obtain ⟨u',r',q⟩:=hl j y v' e1 e2 e3
    refine ⟨u',r',?_⟩
    rcases q with q | ⟨k,c',e,z'⟩
    ·exact .inl q
    ·refine .inr ⟨k,c',e,z'.sameBut hs ?_⟩
     rintro rfl
     exact hj (zfZ hN e1 (I.ok.inj _ _ _ e hc ▸ hi))
  ·by_cases hcc:c'=c
   ·subst hcc; exact ⟨_,hc'⟩
   ·obtain ⟨w2,z2⟩:=I.cell y c' e
    exact ⟨w2,z2.sameBut hs hcc⟩
  ·obtain ⟨e,n,ne,nf,d⟩:=I.pin p hp
   refine ⟨(hs.2 p.1 ?_).trans e,n,ne,nf,d⟩
   intro q
   rw [q,hoc] at e
   have q':oc=p.2:=Bh e
   exact d w' (by rw [<- q']; exact hocd)
theorem zfK {M:Hv} {A:Bb} {E:A0->A3->Prop} {i:Nat} {x:Str} {v:V} {u:A0} {Q:Unit->A3->Prop} (I:Inv X pins σ H s) (hN:X.N.Nodup) (hi:X.N[i]?=some x) (hx:Loc X.env.scope x) (r:RelV v u)
  (h:∀ s',Inv X pins (σ.set i (some v)) H s'->Q () s') (hf:X.fn x=true\/X.env.scope.names.lookup x=some .local:=by first | exact .inl rfl | exact .inr rfl | assumption):wpAny M A (storeName X.env x u) Q E s :=
 zeu I hN hi hx r (fun s' I' _=>h s' I') hf
theorem Inv.call' {s':A3} {ch:List A4} (I:Inv X pins σ H s) (ho:s'.os=s.os) (u:Un (frs X.stack) ch H H' s.heap s'.heap) (hok:HOk X.prog X.w H' s'.heap) (hg:Hg s'.gens)
  (hch:∀ b∈ch,(b∈X.ex\/X.s₀.heap.objs.size<=b)/\b≠X.env.locals/\(∀ x c,X.env.cells.lookup x=some c->c≠b)/\∀ p∈X.pn ++ pins,p.1≠b):Inv X pins σ H' s':=by
 obtain ⟨h',g',d',t',o'⟩:=s'
 have e:o'=s.os:=ho
 subst e
 exact I.call (g':=g') (t':=t') (d':=d') u hok hg hch
end
noncomputable abbrev XK:=A0->Option A4->Hp->Prop
noncomputable abbrev St:=List (Option V)
noncomputable abbrev VK:=V->Hp->Prop
noncomputable abbrev TE:=St->Hp->VK->Prop
noncomputable abbrev TT:=St->Hp->(Bool->Hp->Prop)->Prop
noncomputable abbrev TA:=St->Hp->(List V->Hp->Prop)->Prop
structure Ends where
 nx:St->Hp->Prop
 rt:VK
 bk:St->Hp->Prop:=fun _ _=>False
 ct:St->Hp->Prop:=fun _ _=>False
noncomputable abbrev TS:=Ends->St->Hp->Prop
noncomputable def EP (X:Cx) (pins:List (A4×Obj)) (σ : St) (Q:VK) (u:A0) (s':A3):Prop:=∃ v H',Inv X pins σ H' s'/\RelV v u/\Q v H'
noncomputable def TP (X:Cx) (pins:List (A4×Obj)) (σ : St) (Q:Bool->Hp->Prop) (b:Bool) (s':A3):Prop:=∃ H',Inv X pins σ H' s'/\Q b H'
noncomputable def AP (X:Cx) (pins:List (A4×Obj)) (σ : St) (Q:List V->Hp->Prop) (us:List A0) (s':A3):Prop:=∃ vs H',Inv X pins σ H' s'/\Vals vs us/\Q vs H'
noncomputable def SP (X:Cx) (pins:List (A4×Obj)) (D:Ends) (f:Flow) (s':A3):Prop :=
 match f with
 | .next=>∃ σ' H',Inv X pins σ' H' s'/\D.nx σ' H'
 | .brk=>∃ σ' H',Inv X pins σ' H' s'/\D.bk σ' H'
 | .cont=>∃ σ' H',Inv X pins σ' H' s'/\D.ct σ' H'
 | .ret u=>∃ v σ' H',Inv X pins σ' H' s'/\RelV v u/\D.rt v H'
noncomputable def PE (X:Cx) (e:Cb) (t:TE):Prop :=
 ∀ (pins:List (A4×Obj)) (s:A3) (σ : St) (H:Hp) (Q:VK),Inv X pins σ H s->t σ H Q->wpAny (model X.prog X.w) X.A (eval e X.env) (EP X pins σ Q) X.xe s
noncomputable def PT (X:Cx) (e:Cb) (t:TT):Prop :=
 ∀ (pins:List (A4×Obj)) (s:A3) (σ : St) (H:Hp) (Q:Bool->Hp->Prop),Inv X pins σ H s->t σ H Q->wpAny (model X.prog X.w) X.A (isTrue e X.env (eval e X.env)) (TP X pins σ Q) X.xe s
noncomputable def PW (X:Cx) (e:Cb) (t:TT):Prop :=
 ∀ (whole:Sem A0) (pins:List (A4×Obj)) (s:A3) (σ : St) (H:Hp) (Q:Bool->Hp->Prop),Inv X pins σ H s->t σ H Q->wpAny (model X.prog X.w) X.A (isTrue e X.env whole) (TP X pins σ Q) X.xe s
theorem PW.pt {X:Cx} {e:Cb} {t:TT} (h:PW X e t):PT X e t:=h _
noncomputable def PA (X:Cx) (es:List Cb) (t:TA):Prop :=
 ∀ (pos:Pos) (pins:List (A4×Obj)) (s:A3) (σ : St) (H:Hp) (Q:List V->Hp->Prop),Inv X pins σ H s->t σ H Q->wpAny (model X.prog X.w) X.A (spliced (backTo pos (starEach es X.env))) (AP X pins σ Q) X.xe s
noncomputable def PS (X:Cx) (st:Cj) (t:TS):Prop :=
 ∀ (pins:List (A4×Obj)) (s:A3) (σ : St) (H:Hp) (D:Ends),Inv X pins σ H s->t D σ H->wpAny (model X.prog X.w) X.A (exec st X.env) (SP X pins D) X.xe s
noncomputable def PSs (X:Cx) (st:List Cj) (t:TS):Prop :=
 ∀ (pins:List (A4×Obj)) (s:A3) (σ : St) (H:Hp) (D:Ends),Inv X pins σ H s->t D σ H->wpAny (model X.prog X.w) X.A (execs st X.env) (SP X pins D) X.xe s
theorem thn {α : Type} {t:Sem α} {Q Q' : α -> A3->Prop} {M:Hv} {A:Bb} {E:A0->A3->Prop} {s:A3} (h:wpAny M A t Q E s) (hQ:∀ a s,Q a s->Q' a s):wpAny M A t Q' E s:=Di h hQ fun _ _ x=>x
theorem thnE {α β : Type} {Rl : β -> α -> Prop} {X:Cx} {pins:List (A4×Obj)} {σ : St} {R : β -> Hp->Prop} {t:Sem α} {Q' : α -> A3->Prop} {M:Hv} {A:Bb} {E:A0->A3->Prop} {s:A3} (h:wpAny M A t (fun u s'=>∃ v H',Inv X pins σ H' s'/\Rl v u/\R v H') E s) (k:∀ u s' v H',Inv X pins σ H' s'->Rl v u->R v H'->Q' u s'):wpAny M A t Q' E s:=Di h (fun u s' z=>by
 obtain ⟨v,H',I,r,q⟩:=z
 exact k u s' v H' I r q) fun _ _ x=>x
section
variable {X:Cx}
noncomputable def tVar (i:Nat):TE:=fun σ H Q=>∃ v,σ[i]?=some (some v)/\Q v H
noncomputable def tC (v:V):TE:=fun _ H Q=>Q v H
theorem pe_var {i:Nat} {x:Str} {pos:Pos} (hN:X.N[i]?=some x) (hv:Vis X.env.scope x) (hd:(x == ("__debug__" : Str))=false:=by decide) (hcd:(x == ("__classdict__" : Str))=false:=by decide):PE X (.Name x pos) (tVar i):=by
 intro pins s σ H Q I h
 obtain ⟨v,e,h⟩:=h
 obtain ⟨m,hn,hl⟩:=I.loc
 obtain ⟨u,r,l⟩:=hl i x v hN e hv
 have fin:EP X pins σ Q u s:=⟨v,H,I,r,h⟩
 rcases l with ⟨hk,hm⟩ | ⟨hk,c,hc,hcell⟩
 ·exact Og (wpAny_loadName_local I.ok.kind hk hn hm fin) hd
 ·rcases hk with hk | hk
  ·exact Og (wpAny_loadName_cell I.ok.kind hk hc hcell fin) hd
  ·exact Og (wpAny_loadName_free I.ok.kind hk hc hcell fin hcd) hd
theorem zad {i j pos}:PE X (.Constant (.int i) j pos) (tC (.int i)):=fun _ _ _ H _ I h=>wpAny_Constant_int ⟨.int i,H,I.tok _,⟨_,rfl⟩,h⟩
theorem zbH {b j pos}:PE X (.Constant (.bool b) j pos) (tC (.bl b)):=fun _ _ _ H _ I h=>Constant_bool ⟨.bl b,H,I,rfl,h⟩
theorem zhx {j pos}:PE X (.Constant .none j pos) (tC .non):=fun _ _ _ H _ I h=>Constant_none ⟨.non,H,I,rfl,h⟩
theorem za4 {x j pos}:PE X (.Constant (.str x) j pos) (tC (.str x)):=fun _ _ _ H _ I h=>Calls.Constant_str ⟨.str x,H,I.tok _,⟨_,rfl⟩,h⟩
noncomputable def Gl (X:Cx) (x:Str):Prop:=X.env.kindOf x=some .globalImplicit
theorem zeh {E:A0->A3->Prop} {pins:List (A4×Obj)} {s:A3} {σ : St} {H:Hp} {x:Str} {u:A0} {pos:Pos} {Q:A0->A3->Prop} (I:Inv X pins σ H s) (hg:Gl X x) (hm:X.mg x=some u) (h:Q u s)
  (hd:(x == ("__debug__" : Str))=false:=by decide):wpAny (model X.prog X.w) X.A (eval (.Name x pos) X.env) Q E s :=
 Kr I.ok.kind hg (Calls.loadGlobal_global (by rw [I.ok.glob]; exact I.mod.glob.keeps I.bk) hm h) hd
theorem zeO {E:A0->A3->Prop} {pins:List (A4×Obj)} {s:A3} {σ : St} {H:Hp} {x:Str} {u:A0} {pos:Pos} {Q:A0->A3->Prop} (I:Inv X pins σ H s) (hg:Gl X x) (hm:X.mg x=none) (hv:bootBuiltins x=some u) (h:Q u s)
  (hn:x ≠ "__name__" := by decide) (hd:(x == ("__debug__" : Str))=false:=by decide):wpAny (model X.prog X.w) X.A (eval (.Name x pos) X.env) Q E s:=by
 obtain ⟨mb,h1,h2⟩:=I.mod.blt
 exact Kr I.ok.kind hg (Calls.loadGlobal_builtin (by rw [I.ok.glob]; exact I.mod.glob.keeps I.bk) hm (by rw [I.ok.blt]; exact h1.keeps I.bk) ((h2 x hn).trans hv) h) hd
theorem zgH {x:Str} {v:V} {u:A0} {pos:Pos} (hg:Gl X x) (hm:X.mg x=some u) (r:RelV v u) (hd:(x == ("__debug__" : Str))=false:=by decide):PE X (.Name x pos) (tC v) :=
 fun _ _ _ H _ I h=>zeh I hg hm ⟨v,H,I,r,h⟩ hd
theorem zcK {x:Str} {v:V} {u:A0} {pos:Pos} (hg:Gl X x) (hm:X.mg x=none) (hv:bootBuiltins x=some u) (r:RelV v u) (hn:x ≠ "__name__" := by decide) (hd:(x == ("__debug__" : Str))=false:=by decide):PE X (.Name x pos) (tC v) :=
 fun _ _ _ H _ I h=>zeO I hg hm hv ⟨v,H,I,r,h⟩ hn hd
variable {a b:Cb} {ta tb:TE} {pos:Pos}
noncomputable def PC (X:Cx) (op:Hq) (a b:Cb) (t:TE):Prop :=
 ∀ (pins:List (A4×Obj)) (s:A3) (σ : St) (H:Hp) (Q:VK),Inv X pins σ H s->t σ H Q ->
  wpAny (model X.prog X.w) X.A (eval a X.env) (fun v s₁ => wpAny (model X.prog X.w) X.A (eval b X.env) (fun u s₂ => wpAny (model X.prog X.w) X.A (compareOp op v u) (EP X pins σ Q) X.xe s₂) X.xe s₁) X.xe s
noncomputable def tB (t:TE):TT:=fun σ H Q=>t σ H fun x H1=>∃ c,x = .bl c/\Q c H1
theorem zhy {op:Hq} {t:TE} (h:PC X op a b t) (h1:behindInMarks op b=false:=by first | exact nobehind _ (by decide) (by decide) | rfl):PE X (.Compare a [op] [b] pos) t:=fun pins s σ H Q I hw=>Q6 (h pins s σ H Q I hw) h1
theorem zdR {op:Hq} {t:TE} (h:PC X op a b t) (h1:behindInMarks op b=false:=by first | exact nobehind _ (by decide) (by decide) | rfl):PT X (.Compare a [op] [b] pos) (tB t):=by
 intro pins s σ H Q I hw
 refine Nl (thn (h pins s σ H _ I hw) fun v s1 h1=>thn h1 fun u s2 h2=>thn h2 fun c s3 ⟨x,H1,I1,r1,q1⟩ => ?_) h1
 obtain ⟨d,rfl,q⟩:=q1
 cases r1
 exact Ct ⟨H1,I1,q⟩
theorem zbh {e:Cb} {t:TE} (h:PE X e t) (he:∀ whole,isTrue e X.env whole=(do let v <- whole; standAt e.pos; holding [v] (truthy v)):=by intro _; rfl):PT X e (tB t):=by
 intro pins s σ H Q I hw
 refine isTrue_plain (thnE (h pins s σ H _ I hw) fun v s1 x H1 I1 r1 q1 => ?_) (he _)
 obtain ⟨d,rfl,q⟩:=q1
 cases r1
 exact Ct ⟨H1,I1,q⟩
variable {tA tB':TT} {rest:List Cb}
noncomputable def tAnd (t u:TT):TT:=fun σ H Q=>t σ H fun c H1=>if c=true then u σ H1 Q else Q false H1
noncomputable def tOr (t u:TT):TT:=fun σ H Q=>t σ H fun c H1=>if c=true then Q true H1 else u σ H1 Q
noncomputable def tNot (t:TT):TT:=fun σ H Q=>t σ H fun c H1=>Q (!c) H1
theorem pw_and1 (ha:PT X a tA):PW X (.BoolOp .And [a] pos) tA:=by
 intro wh pins s σ H Q I h
 refine isTrue_and (thn (ha pins s σ H Q I h) fun c s1 e => ?_)
 cases c with
 | true=>exact isTrue_and_nil e
 | false=>exact e
theorem zeB (ha:PT X a tA):PW X (.BoolOp .Or [a] pos) tA:=by
 intro wh pins s σ H Q I h
 refine isTrue_or (thn (ha pins s σ H Q I h) fun c s1 e => ?_)
 cases c with
 | false=>exact isTrue_or_nil e
 | true=>exact e
theorem pw_and (ha:PT X a tA) (hb:PW X (.BoolOp .And (b :: rest) pos) tB'):PW X (.BoolOp .And (a :: b :: rest) pos) (tAnd tA tB'):=by
 intro wh pins s σ H Q I h
 refine isTrue_and (thn (ha pins s σ H _ I h) fun c s1 ⟨H1,I1,q1⟩ => ?_)
 cases c with
 | true=>exact hb wh pins s1 σ H1 Q I1 q1
 | false=>exact ⟨H1,I1,q1⟩
theorem zgk (ha:PT X a tA) (hb:PW X (.BoolOp .Or (b :: rest) pos) tB'):PW X (.BoolOp .Or (a :: b :: rest) pos) (tOr tA tB'):=by
 intro wh pins s σ H Q I h
 refine isTrue_or (thn (ha pins s σ H _ I h) fun c s1 ⟨H1,I1,q1⟩ => ?_)
 cases c with
 | true=>exact ⟨H1,I1,q1⟩
 | false=>exact hb wh pins s1 σ H1 Q I1 q1
theorem zbe (ha:PT X a tA):PT X (.UnaryOp .Not a pos) (tNot tA):=by
 intro pins s σ H Q I h
 exact isTrue_not (ha pins s σ H (fun c H1=>Q (!c) H1) I h)
noncomputable def tAndV (ta tb:TE):TE:=fun σ H Q=>ta σ H fun x H1=>∃ c,x = .bl c/\if c=true then tb σ H1 Q else Q (.bl false) H1
noncomputable def tOrV (ta tb:TE):TE:=fun σ H Q=>ta σ H fun x H1=>∃ c,x = .bl c/\if c=true then Q (.bl true) H1 else tb σ H1 Q
noncomputable def tNotV (ta:TE):TE:=fun σ H Q=>ta σ H fun x H1=>∃ c,x = .bl c/\Q (.bl (!c)) H1
theorem zeF {op} {t:TE} (h:PE X a t):PE X (.BoolOp op [a] pos) t:=fun pins s σ H Q I hw=>BoolOp_one (h pins s σ H Q I hw)
theorem zeG (ha:PE X a ta) (hb:PE X (.BoolOp .And (b :: rest) pos) tb):PE X (.BoolOp .And (a :: b :: rest) pos) (tAndV ta tb):=by
 intro pins s σ H Q I h
 refine BoolOp_and (thnE (ha pins s σ H _ I h) fun v s1 x H1 I1 r1 q1 => ?_)
 obtain ⟨c,rfl,q1⟩:=q1
 cases r1
 refine Ct ?_
 cases c with
 | true=>exact hb pins s1 σ H1 Q I1 q1
 | false=>exact ⟨.bl false,H1,I1,rfl,q1⟩
theorem pe_or (ha:PE X a ta) (hb:PE X (.BoolOp .Or (b :: rest) pos) tb):PE X (.BoolOp .Or (a :: b :: rest) pos) (tOrV ta tb):=by
 intro pins s σ H Q I h
 refine BoolOp_or (thnE (ha pins s σ H _ I h) fun v s1 x H1 I1 r1 q1 => ?_)
 obtain ⟨c,rfl,q1⟩:=q1
 cases r1
 refine Ct ?_
 cases c with
 | false=>exact hb pins s1 σ H1 Q I1 q1
 | true=>exact ⟨.bl true,H1,I1,rfl,q1⟩
theorem pe_not (ha:PE X a ta):PE X (.UnaryOp .Not a pos) (tNotV ta):=by
 intro pins s σ H Q I h
 refine UnaryOp_ (thnE (ha pins s σ H _ I h) fun v s1 x H1 I1 r1 q1 => ?_)
 obtain ⟨c,rfl,q1⟩:=q1
 cases r1
 exact not_of (Ct ⟨.bl (!c),H1,I1,rfl,q1⟩)
noncomputable def tIf (t:TT) (ta tb:TE):TE:=fun σ H Q=>t σ H fun c H1=>if c=true then ta σ H1 Q else tb σ H1 Q
theorem pe_ifExp {c:Cb} (hc:PT X c tA) (ha:PE X a ta) (hb:PE X b tb):PE X (.IfExp c a b pos) (tIf tA ta tb):=by
 intro pins s σ H Q I h
 refine wpAny_IfExp (thn (hc pins s σ H _ I h) fun d s1 ⟨H1,I1,q1⟩ => ?_)
 cases d with
 | true=>exact ha pins s1 σ H1 Q I1 q1
 | false=>exact hb pins s1 σ H1 Q I1 q1
end
noncomputable def SqL (K:Av) (H:Hp) (a:A4) (xs:List V):Prop :=
 Rd H a (.lst xs) \/
  ∃ (o:Obj) (its:Array A0) (n:Nat),K.lookup a=some o/\o.cls = .type "list" /\ o.dict=none/\o.data = .seq its n/\its.size<=sizeLine/\Vals xs its.toList
noncomputable def SqT (K:Av) (H:Hp) (a:A4) (xs:List V):Prop :=
 Rd H a (.tup xs) \/
  ∃ (o:Obj) (its:Array A0) (n:Nat),K.lookup a=some o/\o.cls = .type "tuple" /\ o.data = .seq its n/\its.size<=sizeLine/\Vals xs its.toList
noncomputable def absV:A0->Option V
 | .none=>some .non
 | .bool b=>some (.bl b)
 | .int i _=>some (.int i)
 | .str x _=>some (.str x)
 | .bytes b _=>some (.byt b)
 | .float b _=>some (.flt b)
 | .ref a=>some (.ref a)
 | .type n=>some (.ty n)
 | _=>none
theorem RelV.abs {x:V} {u:A0} (r:RelV x u):absV u=some x:=by
 cases x with
 | non=>cases r; rfl
 | bl _=>cases r; rfl
 | int _=>obtain ⟨t,rfl⟩:=r; rfl
 | str _=>obtain ⟨t,rfl⟩:=r; rfl
 | byt _=>obtain ⟨t,rfl⟩:=r; rfl
 | flt _=>obtain ⟨t,rfl⟩:=r; rfl
 | ref _=>cases r; rfl
 | ty _=>cases r; rfl
theorem RelV.inj {x y:V} {u:A0} (r:RelV x u) (q:RelV y u):x=y:=Bh (r.abs.symm.trans q.abs)
theorem Vals.inj:∀ {xs ys:List V} {us:List A0},Vals xs us->Vals ys us->xs=ys
 | _,_,_,.nil,.nil=>rfl
 | _,_,_,.cons r t,.cons r' t'=>by rw [r.inj r',Vals.inj t t']
section
variable {X:Cx} {pins:List (A4×Obj)} {σ : St} {H:Hp} {s:A3} {a:A4} {xs ys:List V}
theorem SqL.of {K:Av} (h:H a=some (.lst xs)):SqL K H a xs := .inl (.inl h)
theorem SqT.of {K:Av} (h:H a=some (.tup xs)):SqT K H a xs := .inl (.inl h)
theorem Inv.list (I:Inv X pins σ H s) (h:SqL X.K H a xs):∃ its:List A0,Vals xs its/\PlainL s.heap a its.toArray/\xs.length<=sizeLine:=by
 rcases h with h | ⟨o,its,n,hk,hc,hd,hs,hz,r⟩
 ·obtain ⟨z,its,n,r,e⟩:=h.ok I.hok
  exact ⟨its,r,⟨_,n,e,rfl,rfl,rfl⟩,z⟩
 ·refine ⟨its.toList,r,⟨o,n,I.kIn a o hk,hc,hd,by simpa using hs⟩,?_⟩
  have e:=r.length
  simp only [Au] at e
  omega
theorem Inv.tuple (I:Inv X pins σ H s) (h:SqT X.K H a xs):∃ its:List A0,Vals xs its/\Jd s.heap a its.toArray/\xs.length<=sizeLine:=by
 rcases h with h | ⟨o,its,n,hk,hc,hs,hz,r⟩
 ·obtain ⟨z,its,r,p⟩:=h.ok I.hok
  exact ⟨its,r,p,z⟩
 ·refine ⟨its.toList,r,⟨o,I.kIn a o hk,hc,n,by simpa using hs⟩,?_⟩
  have e:=r.length
  simp only [Au] at e
  omega
theorem Inv.list_inj (I:Inv X pins σ H s) (h:SqL X.K H a xs) (h':SqL X.K H a ys):xs=ys:=by
 obtain ⟨its,r,⟨o,n,e,_,_,d⟩,_⟩:=I.list h
 obtain ⟨its',r',⟨o',n',e',_,_,d'⟩,_⟩:=I.list h'
 rw [e] at e'; cases e'
 rw [d] at d'
 injection d' with d1 _
 have:its=its':=by simpa using congrArg Lq d1
 subst this
 exact r.inj r'
theorem Inv.tuple_inj (I:Inv X pins σ H s) (h:SqT X.K H a xs) (h':SqT X.K H a ys):xs=ys:=by
 obtain ⟨its,r,⟨o,e,_,n,d⟩,_⟩:=I.tuple h
 obtain ⟨its',r',⟨o',e',_,n',d'⟩,_⟩:=I.tuple h'
 rw [e] at e'; cases e'
 rw [d] at d'
 injection d' with d1 _
 have:its=its':=by simpa using congrArg Lq d1
 subst this
 exact r.inj r'
end
noncomputable abbrev Cx.wish (X:Cx) (E:A0->A3->Prop):Cx:={ X with xe:=E }
noncomputable abbrev Cx.nox (X:Cx):Cx:=X.wish fun _ _=>False
theorem Cx.Ok.wish {X:Cx} (ok:X.Ok) (E:A0->A3->Prop):(X.wish E).Ok :=
 ⟨ok.mod,ok.kind,ok.glob,ok.blt,ok.above,ok.inj,ok.has,ok.cab,ok.hd,ok.frames,ok.stk,ok.exf,ok.bs,ok.bsz,ok.noex,ok.exfs,ok.funs,ok.frf⟩
theorem Cx.Ok.unwish {X:Cx} {E:A0->A3->Prop} (ok:(X.wish E).Ok):X.Ok :=
 ⟨ok.mod,ok.kind,ok.glob,ok.blt,ok.above,ok.inj,ok.has,ok.cab,ok.hd,ok.frames,ok.stk,ok.exf,ok.bs,ok.bsz,ok.noex,ok.exfs,ok.funs,ok.frf⟩
section
variable {X:Cx} {pins:List (A4×Obj)} {σ : St} {H:Hp} {s:A3} {E:A0->A3->Prop}
theorem Inv.wish (I:Inv X pins σ H s) (E:A0->A3->Prop):Inv (X.wish E) pins σ H s:=⟨I.ok.wish E,I.os,I.bare,I.base,I.loc,I.cell,I.free,I.freeC,I.pin,I.hok,I.len⟩
theorem Inv.unwish (I:Inv (X.wish E) pins σ H s):Inv X pins σ H s:=⟨I.ok.unwish,I.os,I.bare,I.base,I.loc,I.cell,I.free,I.freeC,I.pin,I.hok,I.len⟩
theorem SP.unwish {D:Ends} {f:Flow} {s':A3} (h:SP (X.wish E) pins D f s'):SP X pins D f s':=by
 cases f with
 | next=>obtain ⟨σ',H',I,q⟩:=h; exact ⟨σ',H',I.unwish,q⟩
 | brk=>obtain ⟨σ',H',I,q⟩:=h; exact ⟨σ',H',I.unwish,q⟩
 | cont=>obtain ⟨σ',H',I,q⟩:=h; exact ⟨σ',H',I.unwish,q⟩
 | ret u=>obtain ⟨v,σ',H',I,r,q⟩:=h; exact ⟨v,σ',H',I.unwish,r,q⟩
theorem PSs.nox {st:List Cj} {t:TS} (h:PSs X.nox st t):PSs X st t:=fun pins s σ H D I hw =>
 Di (h pins s σ H D (I.wish _) hw) (fun _ _ q=>q.unwish) fun _ _ z=>E6 z
end
section
variable {X:Cx} {st:Cj} {rest:List Cj} {t u:TS} {e:Cb} {te:TE} {pos:Pos}
noncomputable def tNext:TS:=fun D σ H=>D.nx σ H
noncomputable def tSeq (t u:TS):TS:=fun D σ H=>t { D with nx:=u D } σ H
theorem zap:PSs X [] tNext:=fun _ _ σ H _ I h=>Ja ⟨σ,H,I,h⟩
theorem zab (h1:PS X st t) (h2:PSs X rest u):PSs X (st :: rest) (tSeq t u):=by
 intro pins s σ H D I h
 refine Ky (thn (h1 pins s σ H { D with nx:=u D } I h) fun f s1 q => ?_)
 cases f with
 | next =>
  obtain ⟨σ',H',I',q⟩:=q
  exact h2 pins s1 σ' H' D I' q
 | ret v=>exact q
 | brk=>exact q
 | cont=>exact q
theorem zaf (h1:PS X st t):PSs X [st] t:=by
 intro pins s σ H D I h
 refine Ky (thn (h1 pins s σ H D I h) fun f s1 q => ?_)
 cases f with
 | next=>exact Ja q
 | ret v=>exact q
 | brk=>exact q
 | cont=>exact q
theorem Inv.quiet {pins:List (A4×Obj)} {σ : St} {H:Hp} {s:A3} (I:Inv X pins σ H s):interactive X.env=false:=by simp [interactive,I.ok.kind]
noncomputable def tDrop (te:TE):TS:=fun D σ H=>te σ H fun _ H1=>D.nx σ H1
theorem za7 (he:PE X e te) (hs:swapsWith e none pos.line X.env=pure false:=by rfl):PS X (.Expr e pos) (tDrop te):=by
 intro pins s σ H D I h
 exact wpAny_Expr_any (thnE (he pins s σ H _ I h) fun v s1 x H1 I1 r1 q1=>⟨σ,H1,I1,q1⟩) I.quiet hs
noncomputable def tRet (te:TE):TS:=fun D σ H=>te σ H D.rt
theorem zam (he:PE X e te):PS X (.Return (some e) pos) (tRet te):=by
 intro pins s σ H D I h
 exact wpAny_Return_some (thnE (he pins s σ H _ I h) fun v s1 x H1 I1 r1 q1=>⟨x,σ,H1,I1,r1,q1⟩)
noncomputable def tIfS (c:TT) (t u:TS):TS:=fun D σ H=>c σ H fun b H1=>if b=true then t D σ H1 else u D σ H1
theorem zaJ {c:Cb} {a b:List Cj} {tc:TT} (hc:PT X c tc) (ha:PSs X a t) (hb:PSs X b u):PS X (.If c a b pos) (tIfS tc t u):=by
 intro pins s σ H D I h
 refine wpAny_If (thn (hc pins s σ H _ I h) fun d s1 ⟨H1,I1,q1⟩ => ?_)
 cases d with
 | true=>exact ha pins s1 σ H1 D I1 q1
 | false=>exact hb pins s1 σ H1 D I1 q1
end
noncomputable abbrev TG:=V->St->Hp->(St->Hp->Prop)->Prop
noncomputable abbrev TGs:=List V->St->Hp->(St->Hp->Prop)->Prop
noncomputable def PG (X:Cx) (target:Cb) (t:TG):Prop :=
 ∀ (pins:List (A4×Obj)) (s:A3) (σ : St) (H:Hp) (v:V) (u:A0) (Q:St->Hp->Prop),Inv X pins σ H s->RelV v u->t v σ H Q ->
  wpAny (model X.prog X.w) X.A (assign target X.env u) (fun _ s'=>∃ σ' H',Inv X pins σ' H' s'/\Q σ' H') X.xe s
noncomputable def PGs (X:Cx) (ts:List Cb) (t:TGs):Prop :=
 ∀ (pins:List (A4×Obj)) (s:A3) (σ : St) (H:Hp) (vs:List V) (us:List A0) (Q:St->Hp->Prop),Inv X pins σ H s->Vals vs us->t vs σ H Q ->
  wpAny (model X.prog X.w) X.A (assignInOrder ((assignEach ts X.env).map (·.2)) us) (fun _ s'=>∃ σ' H',Inv X pins σ' H' s'/\Q σ' H') X.xe s
noncomputable abbrev TSet:=V->V->V->Hp->(Hp->Prop)->Prop
noncomputable def PSet (X:Cx) (t:TSet):Prop :=
 ∀ (pins:List (A4×Obj)) (s:A3) (σ : St) (H:Hp) (o i v:V) (ov iv u:A0) (Q:Hp->Prop),Inv X pins σ H s->RelV o ov->RelV i iv->RelV v u->t o i v H Q ->
  wpAny (model X.prog X.w) X.A (setItem ov iv u) (fun _ s'=>∃ H',Inv X pins σ H' s'/\Q H') X.xe s
section
variable {X:Cx} {pos:Pos}
noncomputable def gName (i:Nat):TG:=fun v σ H Q=>Q (σ.set i (some v)) H
theorem zai {i:Nat} {x:Str} (hN:X.N.Nodup) (hi:X.N[i]?=some x) (hx:Loc X.env.scope x) (hf:X.fn x=true\/X.env.scope.names.lookup x=some .local:=by first | exact .inl rfl | exact .inr rfl | assumption):PG X (.Name x pos) (gName i):=by
 intro pins s σ H v u Q I r h
 exact Op (zfK I hN hi hx r (fun s' I'=>⟨_,H,I',h⟩) hf)
noncomputable def gNil:TGs:=fun vs σ H Q=>vs = []/\Q σ H
noncomputable def gCons (t:TG) (u:TGs):TGs:=fun vs σ H Q=>∃ v r,vs=v :: r/\t v σ H fun σ' H'=>u r σ' H' Q
theorem zbg:PGs X [] gNil:=by
 intro pins s σ H vs us Q I r h
 obtain ⟨e,h⟩:=h
 subst e
 cases r
 exact assignInOrder_nil ⟨σ,H,I,h⟩
theorem zau {e:Cb} {es:List Cb} {t:TG} {u:TGs} (h1:PG X e t) (h2:PGs X es u)
  (hs:(assignEach (e :: es) X.env).map (·.2)=assign e X.env :: (assignEach es X.env).map (·.2):=by rfl):PGs X (e :: es) (gCons t u):=by
 intro pins s σ H vs us Q I r h
 obtain ⟨v,vr,e1,h⟩:=h
 subst e1
 cases r with
 | cons r rr =>
  rw [hs]
  refine assignInOrder_cons (thn (h1 pins s σ H _ _ _ I r h) fun _ s1 ⟨σ1,H1,I1,q1⟩ => ?_)
  exact h2 pins s1 σ1 H1 _ _ Q I1 rr q1
noncomputable def gTup (K:Av) (n:Nat) (t:TGs):TG:=fun v σ H Q=>∃ a xs,v = .ref a/\SqT K H a xs/\xs.length=n/\t xs σ H Q
theorem zeD {es:List Cb} {k:Nat} {t:TGs} {n:Nat} (hc:X.calm=true) (h:PGs X es t)
  (hn:(assignEach es X.env).length=n:=by rfl) (hst:(assignEach es X.env).findIdx? (·.1)=none:=by rfl):PG X (.Tuple es k pos) (gTup X.K n t):=by
 intro pins s σ H v u Q I r hw
 obtain ⟨a,xs,e1,hq,hl,hw⟩:=hw
 subst e1
 cases r
 obtain ⟨its,rv,ht,hz⟩:=I.tuple hq
 refine assign_Tuple_tuple (I.ok.hd hc) ht (by simp [hn,<- hl,rv.length]) hst fun h' hx => ?_
 have I1:Inv X pins σ H { s with heap:=h' }:=I.kept (t':=s.toks) fun b o e=>hx b o (Bm (Ap e)) e
 exact h pins _ σ H xs _ Q I1 (by simpa using rv) hw
noncomputable def gSub (to ti:TE) (t:TSet):TG:=fun v σ H Q=>to σ H fun o H1=>ti σ H1 fun i H2=>t o i v H2 fun H3=>Q σ H3
theorem zhw {o i:Cb} {to ti:TE} {t:TSet} (ho:PE X o to) (hi:PE X i ti) (hs:PSet X t)
  (ha:∀ v,assign (.Subscript o i pos) X.env v=(do
   let ov <- holding [v] (eval o X.env)
   let iv <- holding [v,ov] (eval i X.env)
   standAt pos
   holding [v,ov,iv] (setItem ov iv v)
   release [v,ov,iv] []):=by intro _; rfl):PG X (.Subscript o i pos) (gSub to ti t):=by
 intro pins s σ H v u Q I r h
 rw [ha]
 refine A1 (Dp (thnE (ho pins s σ H _ I h) fun ov s1 x H1 I1 r1 q1 => ?_))
 refine A1 (Dp (thnE (hi pins s1 σ H1 _ I1 q1) fun iv s2 y H2 I2 r2 q2 => ?_))
 refine A1 (K2 (A1 (Dp (thn (hs pins s2 σ H2 x y v ov iv u _ I2 r1 r2 r q2) fun _ s3 ⟨H3,I3,q3⟩ => ?_))))
 exact wpAny_release ⟨σ,H3,I3,q3⟩
noncomputable def tAsg (te:TE) (g:TG):TS:=fun D σ H=>te σ H fun x H1=>g x σ H1 D.nx
theorem zgE {tg e:Cb} {te:TE} {g:TG} (he:PE X e te) (hg:PG X tg g) (hs:swapsWithSole [tg] e pos.line X.env=pure false:=by rfl) (hw:swappedStores [tg] e X.env=pure none:=by rfl)
  (h1:(assignEach [tg] X.env).map (·.2) = [assign tg X.env]:=by rfl):PS X (.Assign [tg] e pos) (tAsg te g):=by
 intro pins s σ H D I h
 refine wpAny_Assign_stores (thnE (he pins s σ H _ I h) fun v s1 x H1 I1 r1 q1 => ?_) hs hw
 rw [h1]
 exact thn (hg pins s1 σ H1 x v _ I1 r1 q1) fun _ s2 q=>q
theorem zaj {i:Nat} {x:Str} {e:Cb} {te:TE} {pos':Pos} (hN:X.N.Nodup) (hi:X.N[i]?=some x) (hx:Loc X.env.scope x) (he:PE X e te) (hs:swapsWith e (some (.Name x pos')) pos.line X.env=pure false:=by rfl) (hf:X.fn x=true\/X.env.scope.names.lookup x=some .local:=by first | exact .inl rfl | exact .inr rfl | assumption) :
  PS X (.Assign [.Name x pos'] e pos) (tAsg te (gName i)):=by
 intro pins s σ H D I h
 refine wpAny_Assign_Name (thnE (he pins s σ H _ I h) fun v s1 y H1 I1 r1 q1 => ?_) hs
 exact zfK I1 hN hi hx r1 (fun s2 I2=>⟨_,H1,I2,q1⟩) hf
end
section
variable {X:Cx} {pos:Pos}
noncomputable def tWhile (c:TT) (tb:TS):TS:=fun D σ H=>∃ W:Nat->St->Hp->Prop,(∃ m,W m σ H)/\∀ m σ H,W m σ H ->
 c σ H fun b H1=>if b=true then ∃ N:St->Hp->Prop,(∀ σ' H',N σ' H'->∃ m',m' < m/\W m' σ' H')/\tb { D with nx:=N,ct:=N,bk:=D.nx } σ H1 else D.nx σ H1
theorem zc0 {c:Cb} {body:List Cj} {tc:TT} {tb:TS} (hp:P5 (model X.prog X.w) X.A X.env X.xe) (hc:PT X c tc) (hb:PSs X body tb):PS X (.While c body [] pos) (tWhile tc tb):=by
 intro pins s σ H D I h
 obtain ⟨W,⟨m0,w0⟩,turn⟩:=h
 refine wpAny_While (codeAny_whileLoop (fun n s'=>∃ σ' H',Inv X pins σ' H' s'/\W n σ' H') ?_ m0 ⟨σ,H,I,w0⟩)
 rintro n s1 ⟨σ1,H1,I1,w1⟩
 refine Ey hp (thn (hc pins s1 σ1 H1 _ I1 (turn n σ1 H1 w1)) fun b s2 ⟨H2,I2,q2⟩ => ?_)
 cases b with
 | true =>
  obtain ⟨N,hN,q2⟩:=q2
  rw [if_pos rfl]
  refine Ey hp (thn (hb pins s2 σ1 H2 _ I2 q2) fun f s3 q3 => ?_)
  cases f with
  | next =>
   obtain ⟨σ3,H3,I3,n3⟩:=q3
   obtain ⟨m',hm,w3⟩:=hN σ3 H3 n3
   exact ⟨m',hm,σ3,H3,I3,w3⟩
  | cont =>
   obtain ⟨σ3,H3,I3,n3⟩:=q3
   obtain ⟨m',hm,w3⟩:=hN σ3 H3 n3
   exact ⟨m',hm,σ3,H3,I3,w3⟩
  | brk=>exact q3
  | ret v=>exact q3
 | false =>
  rw [if_neg A9]
  exact Ja ⟨σ1,H2,I2,q2⟩
end
structure It where
 go:Nat->Hp->Prop
 yld:Nat->Hp->V->Hp->Prop
 stop:Nat->Hp->Prop
noncomputable def FpOk (X:Cx) (pins:List (A4×Obj)) (H:Hp) (b:A4):Prop :=
 H b=none/\b≠X.env.locals/\b ∉ X.fs/\(b∈X.ex\/X.s₀.heap.objs.size<=b)/\(∀ x c,X.env.cells.lookup x=some c->c≠b)/\∀ p∈X.pn ++ pins,p.1≠b
theorem Inv.fpOk {X:Cx} {pins:List (A4×Obj)} {σ : St} {H H':Hp} {s:A3} {b:A4} (I:Inv X pins σ H s) (hb:s.heap.objs.size<=b) (hn:H' b=none):FpOk X pins H' b:=by
 refine ⟨hn,M7 (Ai I.lt hb),I.nofs hb,.inr (Br I.sz hb),fun x c e z => ?_,fun p hp z => ?_⟩
 ·obtain ⟨v,q⟩:=I.cell x c e
  exact absurd (Ai q.lt (by rw [z]; exact hb)) (Dw _)
 ·exact absurd (Ai (Ap (I.pin p hp).1) (by rw [z]; exact hb)) (Dw _)
structure Turn (P:Aq) (w:Bj) (K:Av) (tg:Cb) (J:It) (fp:List A4) (it:A4) (tn:Nat->Bz->Prop):Prop where
 mem:it∈fp
 obj:∀ i h,tn i h->∀ b∈fp,∃ o,h.get? b=some o/\∀ v,o.data ≠ .cell v
 keep:∀ i h h',tn i h->(∀ b∈fp,∀ o,h.get? b=some o->h'.get? b=some o)->tn i h'
 item:∀ (X:Cx),X.prog=P->X.w=w->X.K=K->X.calm=true->∀ (i:Nat) (pins:List (A4×Obj)) (s:A3) (σ : St) (H:Hp) (E:A0->A3->Prop),Inv X pins σ H s->(∀ b∈fp,FpOk X pins H b)->tn i s.heap->J.go i H ->
  wpAny (model P w) X.A (pyNext (.ref it)) (fun r s1=>∃ u,r=some u /\
   wpAny (model P w) X.A (letOwnedTupleGo tg (.ref it) u) (fun _ s2=>∃ x H',Inv X pins σ H' s2/\RelV x u/\J.yld i H x H'/\tn (i + 1) s2.heap/\∀ b∈fp,H' b=none) E s1) E s
 done:∀ (X:Cx),X.prog=P->X.w=w->X.K=K->X.calm=true->∀ (i:Nat) (pins:List (A4×Obj)) (s:A3) (σ : St) (H:Hp) (E:A0->A3->Prop),Inv X pins σ H s->(∀ b∈fp,FpOk X pins H b)->tn i s.heap->J.stop i H ->
  wpAny (model P w) X.A (pyNext (.ref it)) (fun r s1=>r=none/\Inv X pins σ H s1) E s
 self:∀ (A:Bb) (i:Nat) (s:A3) (Q:A0->A3->Prop) (E:A0->A3->Prop),tn i s.heap->Q (.ref it) s->wpAny (model P w) A (pyIter (.ref it)) Q E s
noncomputable abbrev TI:=St->Hp->(It->Hp->Prop)->Prop
noncomputable def PIE (X:Cx) (pins:List (A4×Obj)) (σ : St) (tg:Cb) (R:It->Hp->Prop) (itv:A0) (s2:A3):Prop :=
 ∃ (it:A4) (fp:List A4) (tn:Nat->Bz->Prop) (J:It) (H':Hp),itv = .ref it/\Inv X pins σ H' s2/\Turn X.prog X.w X.K tg J fp it tn/\tn 0 s2.heap/\(∀ b∈fp,FpOk X pins H' b)/\R J H'
noncomputable def PI (X:Cx) (tg iter:Cb) (wi:TI):Prop :=
 ∀ (pins:List (A4×Obj)) (s:A3) (σ : St) (H:Hp) (R:It->Hp->Prop),Inv X pins σ H s->wi σ H R ->
  wpAny (model X.prog X.w) X.A (eval iter X.env) (fun v s1=>wpAny (model X.prog X.w) X.A (pyIter v) (PIE X pins σ tg R) X.xe s1) X.xe s
theorem zgZ {M:Hv} {A:Bb} {E:A0->A3->Prop} {s:A3} {tg:Cb} {it:A4} {u:A0} {o:Obj} {n:String} {vs:Array A0} {Q:Unit->A3->Prop} (ho:s.heap.get? it=some o) (hc:o.cls = .type n) (hd:o.data = .fields vs)
  (hn : ["enumerate","zip","dict_itemiterator","dict_reverseitemiterator","odict_iterator","itertools.zip_longest","itertools.pairwise"].contains n=false) (hQ:Q () s):wpAny M A (letOwnedTupleGo tg (.ref it) u) Q E s:=by
 unfold letOwnedTupleGo
 cases tg <;> first
  | exact Ae hQ
  | (cases u <;> first
    | exact Ae hQ
    | (refine A1 (wpAny_load ho ?_)
       rw [hc,hd]
       show wpAny M A (if (["enumerate","zip","dict_itemiterator","dict_reverseitemiterator","odict_iterator","itertools.zip_longest","itertools.pairwise"].contains n && vs[0]? == some (rawInt _))=true then _ else _) Q E s
       rw [if_neg (by intro h; rw [hn,F6] at h; cases h)]
       exact Ae hQ))
noncomputable def Itl (K:Av) (a:A4):It :=
 ⟨fun i H=>∃ xs x,SqL K H a xs/\xs[i]?=some x,fun i H x H'=>H'=H/\∀ xs,SqL K H a xs->xs[i]?=some x,fun i H=>∃ xs,SqL K H a xs/\xs.length<=i⟩
noncomputable def Itt (K:Av) (a:A4):It :=
 ⟨fun i H=>∃ xs x,SqT K H a xs/\xs[i]?=some x,fun i H x H'=>H'=H/\∀ xs,SqT K H a xs->xs[i]?=some x,fun i H=>∃ xs,SqT K H a xs/\xs.length<=i⟩
noncomputable def Itr (lo:Int) (n:Nat):It:=⟨fun i _=>i < n,fun i H x H'=>H'=H/\x = .int (lo + i),fun i _=>n<=i⟩
theorem turn_list {P:Aq} {w:Bj} {K:Av} {tg:Cb} (a it:A4):Turn P w K tg (Itl K a) [it] it (fun i h=>h.IsListIter it a i) where
 mem:=by simp
 obj:=fun i h st b hb=>by
  have e:b=it:=by simpa using hb
  subst e
  obtain ⟨o,e,c,d⟩:=st
  exact ⟨o,e,fun v z=>by rw [d] at z; cases z⟩
 keep:=fun i h h' st k=>st.at fun o e=>k it (by simp) o e
 item:=by
  intro X hP hw hK hc i pins s σ H E I hf st hg
  subst hP hw hK
  obtain ⟨xs,x,hq,hx⟩:=hg
  obtain ⟨its,rv,p,hz⟩:=I.list hq
  obtain ⟨u,hu,ru⟩:=rv.get hx
  obtain ⟨f0,f1,f2,f3,f4,f5⟩:=hf it (by simp)
  refine wpAny_pyNext_list_item st p.isList (x:=u) (by simpa using hu) fun h' st' sb => ?_
  have I1:Inv X pins σ H { s with heap:=h' }:=I.turned (t':=s.toks) (fun b o hb e=>(sb.2 b hb).trans e) f0 f1 f3 f4 f5
  obtain ⟨o,e,c,d⟩:=id st'
  exact ⟨u,rfl,zgZ (s:={ s with heap:=h' }) e c d (by decide) ⟨x,H,I1,ru,⟨rfl,fun ys hy=>by rw [I.list_inj hy hq]; exact hx⟩,st',fun b hb=>(hf b hb).1⟩⟩
 done:=by
  intro X hP hw hK hc i pins s σ H E I hf st hg
  subst hP hw hK
  obtain ⟨xs,hq,hx⟩:=hg
  obtain ⟨its,rv,p,hz⟩:=I.list hq
  obtain ⟨f0,f1,f2,f3,f4,f5⟩:=hf it (by simp)
  have hl:=rv.length
  exact wpAny_pyNext_list_end (I.ok.hd hc) st p.isList (by simp; omega) fun h' eb=>⟨rfl,I.turned (t':=s.toks) (fun b o hb e=>eb b o hb e) f0 f1 f3 f4 f5⟩
 self:=fun _ _ _ _ _ st h=>wpAny_pyIter_listiter st h
theorem turn_tuple {P:Aq} {w:Bj} {K:Av} {tg:Cb} (a it:A4):Turn P w K tg (Itt K a) [it] it (fun i h=>h.IsTupleIter it a i) where
 mem:=by simp
 obj:=fun i h st b hb=>by
  have e:b=it:=by simpa using hb
  subst e
  obtain ⟨o,e,c,d⟩:=st
  exact ⟨o,e,fun v z=>by rw [d] at z; cases z⟩
 keep:=fun i h h' st k=>st.at fun o e=>k it (by simp) o e
 item:=by
  intro X hP hw hK hc i pins s σ H E I hf st hg
  subst hP hw hK
  obtain ⟨xs,x,hq,hx⟩:=hg
  obtain ⟨its,rv,p,hz⟩:=I.tuple hq
  obtain ⟨u,hu,ru⟩:=rv.get hx
  obtain ⟨f0,f1,f2,f3,f4,f5⟩:=hf it (by simp)
  refine wpAny_pyNext_tuple_item st (show s.heap.IsTuple a its.toArray from p) (x:=u) (by simpa using hu) fun h' st' sb => ?_
  have I1:Inv X pins σ H { s with heap:=h' }:=I.turned (t':=s.toks) (fun b o hb e=>(sb.2 b hb).trans e) f0 f1 f3 f4 f5
  obtain ⟨o,e,c,d⟩:=id st'
  exact ⟨u,rfl,zgZ (s:={ s with heap:=h' }) e c d (by decide) ⟨x,H,I1,ru,⟨rfl,fun ys hy=>by rw [I.tuple_inj hy hq]; exact hx⟩,st',fun b hb=>(hf b hb).1⟩⟩
 done:=by
  intro X hP hw hK hc i pins s σ H E I hf st hg
  subst hP hw hK
  obtain ⟨xs,hq,hx⟩:=hg
  obtain ⟨its,rv,p,hz⟩:=I.tuple hq
  obtain ⟨f0,f1,f2,f3,f4,f5⟩:=hf it (by simp)
  have hl:=rv.length
  exact wpAny_pyNext_tuple_end (I.ok.hd hc) st (show s.heap.IsTuple a its.toArray from p) (by simp; omega) fun h' eb=>⟨rfl,I.turned (t':=s.toks) (fun b o hb e=>eb b o hb e) f0 f1 f3 f4 f5⟩
 self:=fun _ _ _ _ _ st h=>wpAny_pyIter_tupleiter st h
theorem turn_range {P:Aq} {w:Bj} {K:Av} {tg:Cb} (it:A4) (lo:Int) (n:Nat):Turn P w K tg (Itr lo n) [it] it (fun i h=>IsRangeIter h it (lo + (i:Nat) * 1) ((n:Int) - (i:Nat)) 1) where
 mem:=by simp
 obj:=fun i h st b hb=>by
  have e:b=it:=by simpa using hb
  subst e
  exact ⟨_,st,fun v z=>by
   have z':Data.fields _=Data.cell v:=z
   cases z'⟩
 keep:=fun i h h' st k=>k it (by simp) _ st
 item:=by
  intro X hP hw hK hc i pins s σ H E I hf st hg
  subst hP hw hK
  obtain ⟨f0,f1,f2,f3,f4,f5⟩:=hf it (by simp)
  have W:=Walks.range (prog:=X.prog) (w:=X.w) (I.ok.hd hc) it lo 1 n
  refine W.item i s _ _ hg st fun v h' tk hv st' kk => ?_
  obtain ⟨t,rfl⟩:=hv
  have I1:Inv X pins σ H { s with heap:=h',toks:=tk }:=I.turned (fun b o hb e=>kk b o (by simpa using hb) e) f0 f1 f3 f4 f5
  refine ⟨_,rfl,zgZ (s:={ s with heap:=h',toks:=tk }) (n := "range_iterator") st' rfl rfl (by decide) ⟨.int (lo + i),H,I1,⟨t,?_⟩,⟨rfl,rfl⟩,st',fun b hb=>(hf b hb).1⟩⟩
  rw [Int.mul_one]
 done:=by
  intro X hP hw hK hc i pins s σ H E I hf st hg
  subst hP hw hK
  obtain ⟨f0,f1,f2,f3,f4,f5⟩:=hf it (by simp)
  exact wpAny_pyNext_range_end (I.ok.hd hc) st (by have:n<=i:=hg; omega) fun h' eb=>⟨rfl,I.turned (t':=s.toks) (fun b o hb e=>eb b o hb e) f0 f1 f3 f4 f5⟩
 self:=fun _ _ _ _ _ st h=>wpAny_pyIter_rangeiter st h
section
variable {X:Cx} {tg:Cb}
noncomputable def iList (K:Av) (tl:TE):TI:=fun σ H R=>tl σ H fun x H1=>∃ a,x = .ref a/\(∃ xs,SqL K H1 a xs)/\R (Itl K a) H1
noncomputable def iTup (K:Av) (tl:TE):TI:=fun σ H R=>tl σ H fun x H1=>∃ a,x = .ref a/\(∃ xs,SqT K H1 a xs)/\R (Itt K a) H1
theorem zav {l:Cb} {tl:TE} (hl:PE X l tl):PI X tg l (iList X.K tl):=by
 intro pins s σ H R I h
 refine thnE (hl pins s σ H _ I h) fun v s1 x H1 I1 r1 q1 => ?_
 obtain ⟨a,e,⟨xs,hq⟩,q⟩:=q1
 subst e
 cases r1
 obtain ⟨its,rv,p,hz⟩:=I1.list hq
 refine Oo p.isList ?_
 refine ⟨s1.heap.objs.size,[s1.heap.objs.size],_,_,H1,rfl,I1.kept (t':=s1.toks) fun b o e=>Ad _ e,turn_list a _,⟨_,Ba _ rfl,rfl,rfl⟩,fun b hb => ?_,q⟩
 have e:b=s1.heap.objs.size:=by simpa using hb
 subst e
 exact I1.fpOk (Ac _) (I1.hok.fresh (Ac _))
theorem pi_tup {l:Cb} {tl:TE} (hl:PE X l tl):PI X tg l (iTup X.K tl):=by
 intro pins s σ H R I h
 refine thnE (hl pins s σ H _ I h) fun v s1 x H1 I1 r1 q1 => ?_
 obtain ⟨a,e,⟨xs,hq⟩,q⟩:=q1
 subst e
 cases r1
 obtain ⟨its,rv,p,hz⟩:=I1.tuple hq
 refine wpAny_pyIter_tuple (show s1.heap.IsTuple a its.toArray from p) ?_
 refine ⟨s1.heap.objs.size,[s1.heap.objs.size],_,_,H1,rfl,I1.kept (t':=s1.toks) fun b o e=>Ad _ e,turn_tuple a _,⟨_,Ba _ rfl,rfl,rfl⟩,fun b hb => ?_,q⟩
 have e:b=s1.heap.objs.size:=by simpa using hb
 subst e
 exact I1.fpOk (Ac _) (I1.hok.fresh (Ac _))
theorem zfV {pins:List (A4×Obj)} {σ : St} {H:Hp} {s:A3} {R:It->Hp->Prop} {E:A0->A3->Prop} {lo hi:Int} {t u v:Tok} {tk:Nat} (I:Inv X pins σ H s) (h1 : -(2 ^ 62)<=lo) (h2:lo < 2 ^ 62) (h3 : -(2 ^ 62)<=hi) (h4:hi < 2 ^ 62)
  (q:R (Itr lo (hi - lo).toNat) H):wpAny (model X.prog X.w) X.A (pyIter (.ref s.heap.objs.size)) (PIE X pins σ tg R) E { s with heap:=s.heap.push { cls := .type "range",data := .fields #[.int lo t,.int hi u,.int 1 v] },toks:=tk }:=by
 refine wpAny_pyIter_range (IsRange.new ..) (small_one h1 h2 h3 h4) ?_
 have I1:Inv X pins σ H { s with heap:=s.heap.push { cls := .type "range",data := .fields #[.int lo t,.int hi u,.int 1 v] },toks:=tk }:=I.kept fun b o e=>Ad _ e
 refine ⟨(s.heap.push { cls := .type "range",data := .fields #[.int lo t,.int hi u,.int 1 v] }).objs.size,[(s.heap.push { cls := .type "range",data := .fields #[.int lo t,.int hi u,.int 1 v] }).objs.size],_,_,H,rfl,
  I1.kept (t':=tk) fun b o e=>Ad _ e,turn_range _ lo (hi - lo).toNat,?_,fun b hb => ?_,q⟩
 ·have e1:lo + ((0:Nat):Int) * 1=lo:=by simp
  have e2:(((hi - lo).toNat:Nat):Int) - ((0:Nat):Int)=Pb lo hi 1:=by rw [rangeSize_one]; split <;> omega
  show IsRangeIter _ _ (lo + ((0:Nat):Int) * 1) ((((hi - lo).toNat:Nat):Int) - ((0:Nat):Int)) 1
  rw [e1,e2]
  exact Ba _ rfl
 ·have e:b=(s.heap.push { cls := .type "range",data := .fields #[.int lo t,.int hi u,.int 1 v] }).objs.size:=by simpa using hb
  subst e
  exact I1.fpOk (Ac _) (I1.hok.fresh (Ac _))
noncomputable def iRng1 (ta:TA):TI:=fun σ H R=>ta σ H fun vs H1=>∃ j:Int,vs = [.int j] /\ -(2 ^ 62)<=j/\j < 2 ^ 62/\R (Itr 0 j.toNat) H1
noncomputable def iRng2 (ta:TA):TI:=fun σ H R=>ta σ H fun vs H1=>∃ i j:Int,vs = [.int i,.int j]/\(-(2 ^ 62)<=i/\i < 2 ^ 62 /\ -(2 ^ 62)<=j/\j < 2 ^ 62)/\R (Itr i (j - i).toNat) H1
theorem zbf {a:Cb} {ta:TA} {p pos:Pos} (hg:Gl X "range") (hm:X.mg "range" = none) (ha:PA X [a] ta) (hs:starEach [a] X.env = [(false,eval a X.env)]:=by rfl):PI X tg (.Call (.Name "range" p) [a] [] pos) (iRng1 ta):=by
 intro pins s σ H R I h
 refine Call_ (zeO I hg hm boot_range (G0 (thnE (ha pos pins s σ H _ I h) fun us s1 vs H1 I1 r1 q1 => ?_) hs rfl))
 obtain ⟨j,e,q1,q2,q⟩:=q1
 subst e
 cases r1 with
 | cons r rr =>
  cases rr
  obtain ⟨t,rfl⟩:=r
  exact call_range_1 (zfV I1 (by omega) (by omega) q1 q2 (by simpa using q))
theorem pi_range2 {a b:Cb} {ta:TA} {p pos:Pos} (hg:Gl X "range") (hm:X.mg "range" = none) (ha:PA X [a,b] ta) (hs:starEach [a,b] X.env = [(false,eval a X.env),(false,eval b X.env)]:=by rfl) (hs2:starEach [b] X.env = [(false,eval b X.env)]:=by rfl) :
  PI X tg (.Call (.Name "range" p) [a,b] [] pos) (iRng2 ta):=by
 intro pins s σ H R I h
 refine Call_ (zeO I hg hm boot_range (G0 (thnE (ha pos pins s σ H _ I h) fun us s1 vs H1 I1 r1 q1 => ?_) (by rw [hs,hs2]) (by rw [hs2]; rfl)))
 obtain ⟨i,j,e,⟨q1,q2,q3,q4⟩,q⟩:=q1
 subst e
 cases r1 with
 | cons r rr =>
  cases rr with
  | cons r' rr =>
   cases rr
   obtain ⟨t,rfl⟩:=r
   obtain ⟨t',rfl⟩:=r'
   exact call_range_2 (zfV I1 q1 q2 q3 q4 q)
noncomputable def tFor (wi:TI) (g:TG) (tb:TS):TS:=fun D σ H=>wi σ H fun J H1=>∃ W:Nat->Nat->St->Hp->Prop,(∃ m,W 0 m σ H1)/\∀ i m σ H,W i m σ H ->
 (J.stop i H/\D.nx σ H)\/(J.go i H/\∃ N:St->Hp->Prop,(∀ σ' H',N σ' H'->∃ m',m' < m/\W (i + 1) m' σ' H')/\∀ x H',J.yld i H x H'->g x σ H' fun σ2 H2=>tb { D with nx:=N,ct:=N,bk:=D.nx } σ2 H2)
noncomputable def pinsAt (fp:List A4) (h:Bz):List (A4×Obj):=fp.filterMap fun b=>(h.get? b).map fun o=>(b,o)
theorem zb3 {fp:List A4} {h:Bz} {b:A4} {o:Obj} (hb:b∈fp) (e:h.get? b=some o):(b,o)∈pinsAt fp h:=Jm.mpr ⟨b,hb,by rw [e]; rfl⟩
theorem of_pinsAt {fp:List A4} {h:Bz} {p:A4×Obj} (hp:p∈pinsAt fp h):p.1∈fp/\h.get? p.1=some p.2:=by
 obtain ⟨b,hb,e⟩:=Jm.mp hp
 cases q:h.get? b with
 | none=>rw [q] at e; cases e
 | some o =>
  rw [q] at e
  have e':(b,o)=p:=Bh e
  subst e'
  exact ⟨hb,q⟩
theorem Inv.pinned {pins:List (A4×Obj)} {σ : St} {H:Hp} {s:A3} {fp:List A4} (I:Inv X pins σ H s) (hf:∀ b∈fp,FpOk X pins H b) (ho:∀ b∈fp,∃ o,s.heap.get? b=some o/\∀ v,o.data ≠ .cell v):Inv X (pins ++ pinsAt fp s.heap) σ H s :=
 I.pins_of fun p hp=>(Al.mp hp).elim (fun z=>I.pin p (Bg _ z)) fun z=>by
  obtain ⟨hb,e⟩:=of_pinsAt z
  obtain ⟨f0,f1,f2,_⟩:=hf p.1 hb
  obtain ⟨o,e',d⟩:=ho p.1 hb
  rw [e] at e'; cases e'
  exact ⟨e,f0,f1,f2,d⟩
theorem Inv.unpinned {pins pl:List (A4×Obj)} {σ : St} {H:Hp} {s:A3} (I:Inv X (pins ++ pl) σ H s):Inv X pins σ H s:=I.pins_of fun p hp=>I.pin p (Bg _ (C1 _ hp))
theorem zaZ {iter:Cb} {body:List Cj} {wi:TI} {g:TG} {tb:TS} {pos:Pos} (hp:P5 (model X.prog X.w) X.A X.env X.xe) (hc:X.calm=true) (hi:PI X tg iter wi) (hg:PG X tg g) (hb:PSs X body tb)
  (hs:∀ x,foldedSetIterable iter X.env x=pure x:=by intro _; rfl):PS X (.For tg iter body [] pos) (tFor wi g tb):=by
 intro pins s σ H D I h
 refine wpAny_For (thn (hi pins s σ H _ I h) fun v s1 h1=>thn h1 fun itv s2 h2 => ?_) hs
 obtain ⟨it,fp,tn,J,H2,e,I2,T,st2,f2,W,⟨m0,w0⟩,turn⟩:=h2
 subst e
 have stat:∀ {H':Hp},(∀ b∈fp,H' b=none)->∀ b∈fp,FpOk X pins H' b:=fun hn b hb=>⟨hn b hb,(f2 b hb).2⟩
 refine codeAny_forLoop_any (fun n s'=>∃ i σ' H',Inv X pins σ' H' s'/\tn i s'.heap/\(∀ b∈fp,H' b=none)/\W i n σ' H') ?_ m0 ⟨0,σ,H2,I2,st2,fun b hb=>(f2 b hb).1,w0⟩
 rintro n s3 ⟨i,σ3,H3,I3,st3,fr3,w3⟩
 rcases turn i n σ3 H3 w3 with ⟨stop,qn⟩ | ⟨go,N,hN,step⟩
 ·refine Ey hp (thn (T.done X rfl rfl rfl hc i pins s3 σ3 H3 X.xe I3 (stat fr3) st3 stop) fun r s4 ⟨hr,I4⟩ => ?_)
  subst hr
  exact Ja ⟨σ3,H3,I4,qn⟩
 ·refine Ey hp (thn (T.item X rfl rfl rfl hc i pins s3 σ3 H3 X.xe I3 (stat fr3) st3 go) fun r s4 ⟨u,hr,h4⟩ => ?_)
  subst hr
  refine Ey hp (thn h4 fun _ s5 ⟨x,H5,I5,r5,y5,st5,fr5⟩ => ?_)
  have I5':=I5.pinned (stat fr5) (T.obj _ _ st5)
  refine Ey hp (thn (hg _ s5 σ3 H5 x u _ I5' r5 (step x H5 y5)) fun _ s6 ⟨σ6,H6,I6,q6⟩ => ?_)
  refine Ey hp (thn (hb _ s6 σ6 H6 _ I6 q6) fun f s7 q7 => ?_)
  have again:∀ {σ7:St} {H7:Hp},Inv X (pins ++ pinsAt fp s5.heap) σ7 H7 s7->N σ7 H7->∃ m,m < n/\∃ i σ' H',Inv X pins σ' H' s7/\tn i s7.heap/\(∀ b∈fp,H' b=none)/\W i m σ' H':=fun {σ7 H7} I7 n7=>by
   obtain ⟨m',hm,w7⟩:=hN σ7 H7 n7
   refine ⟨m',hm,i + 1,σ7,H7,I7.unpinned,T.keep _ _ _ st5 fun b hb o e=>(I7.pin (b,o) (Bg _ (Bg _ (zb3 hb e)))).1,fun b hb => ?_,w7⟩
   obtain ⟨o,e,d⟩:=T.obj _ _ st5 b hb
   exact (I7.pin (b,o) (Bg _ (Bg _ (zb3 hb e)))).2.1
  cases f with
  | next=>obtain ⟨σ7,H7,I7,n7⟩:=q7; exact again I7 n7
  | cont=>obtain ⟨σ7,H7,I7,n7⟩:=q7; exact again I7 n7
  | brk=>obtain ⟨σ7,H7,I7,q7⟩:=q7; exact ⟨σ7,H7,I7.unpinned,q7⟩
  | ret v=>obtain ⟨x7,σ7,H7,I7,r7,q7⟩:=q7; exact ⟨x7,σ7,H7,I7.unpinned,r7,q7⟩
end
noncomputable abbrev R2:=V->V->Hp->VK->Prop
noncomputable def OpR (X:Cx) (f:A0->A0->Sem A0) (r:R2):Prop :=
 ∀ (pins:List (A4×Obj)) (s:A3) (σ : St) (H:Hp) (x y:V) (v u:A0) (Q:VK),Inv X pins σ H s->RelV x v->RelV y u->r x y H Q ->
  wpAny (model X.prog X.w) X.A (f v u) (EP X pins σ Q) X.xe s
noncomputable def UnR (X:Cx) (f:A0->Sem A0) (r:V->Hp->VK->Prop):Prop :=
 ∀ (pins:List (A4×Obj)) (s:A3) (σ : St) (H:Hp) (x:V) (v:A0) (Q:VK),Inv X pins σ H s->RelV x v->r x H Q ->
  wpAny (model X.prog X.w) X.A (f v) (EP X pins σ Q) X.xe s
noncomputable def CallR (X:Cx) (f:A0) (r:List V->Hp->VK->Prop):Prop :=
 ∀ (pins:List (A4×Obj)) (s:A3) (σ : St) (H:Hp) (xs:List V) (us:List A0) (Q:VK),Inv X pins σ H s->Vals xs us->r xs H Q ->
  wpAny (model X.prog X.w) X.A (call f us) (EP X pins σ Q) X.xe s
noncomputable def tOp (r:R2) (ta tb:TE):TE:=fun σ H Q=>ta σ H fun x H1=>tb σ H1 fun y H2=>r x y H2 Q
noncomputable def tUn (r:V->Hp->VK->Prop) (ta:TE):TE:=fun σ H Q=>ta σ H fun x H1=>r x H1 Q
noncomputable def rI (C:Int->Int->Prop) (g:Int->Int->V):R2:=fun x y H Q=>∃ i j,x = .int i/\y = .int j/\C i j/\Q (g i j) H
noncomputable def rI0 (g:Int->Int->V):R2:=fun x y H Q=>∃ i j,x = .int i/\y = .int j/\Q (g i j) H
noncomputable def rU (g:Int->V):V->Hp->VK->Prop:=fun x H Q=>∃ i,x = .int i/\Q (g i) H
section
variable {X:Cx} {a b c:Cb} {ta tb tc:TE} {pos:Pos}
theorem binT (ha:PE X a ta) (hb:PE X b tb) {pins:List (A4×Obj)} {s:A3} {σ : St} {H:Hp} {R:V->V->Hp->Prop} (I:Inv X pins σ H s)
  (h:ta σ H fun x H1=>tb σ H1 fun y H2=>R x y H2) {Q:A0->A3->Prop} {f:A0->A0->Sem A0}
  (hf:∀ v u s2 x y H2,Inv X pins σ H2 s2->RelV x v->RelV y u->R x y H2->wpAny (model X.prog X.w) X.A (f v u) Q X.xe s2) :
  wpAny (model X.prog X.w) X.A (eval a X.env) (fun v s₁ => wpAny (model X.prog X.w) X.A (eval b X.env) (fun u s₂ => wpAny (model X.prog X.w) X.A (f v u) Q X.xe s₂) X.xe s₁) X.xe s:=by
 refine thnE (ha pins s σ H _ I h) fun v s1 x H1 I1 r1 q1 => ?_
 refine thnE (hb pins s1 σ H1 _ I1 q1) fun u s2 y H2 I2 r2 q2 => ?_
 exact hf v u s2 x y H2 I2 r1 r2 q2
theorem zar {op:Operator} {r:R2} (ho:OpR X (binaryOp op) r) (ha:PE X a ta) (hb:PE X b tb):PE X (.BinOp a op b pos) (tOp r ta tb):=by
 intro pins s σ H Q I h
 exact wpAny_BinOp (binT ha hb I h fun v u s2 x y H2 I2 rx ry q=>ho pins s2 σ H2 x y v u Q I2 rx ry q)
theorem zhm {op:UnaryOp} {r:V->Hp->VK->Prop} (ho:UnR X (unaryOp op) r) (ha:PE X a ta):PE X (.UnaryOp op a pos) (tUn r ta):=by
 intro pins s σ H Q I h
 exact UnaryOp_ (thnE (ha pins s σ H _ I h) fun v s1 x H1 I1 r1 q1=>ho pins s1 σ H1 x v Q I1 r1 q1)
theorem opI {f:A0->A0->Sem A0} {C:Int->Int->Prop} {g:Int->Int->Int}
  (rule:∀ (i j:Int) (t u:Tok) (s:A3) (Q:A0->A3->Prop) (E:A0->A3->Prop),C i j->Q (.int (g i j) s.toks) { s with toks:=s.toks + 1 }->wpAny (model X.prog X.w) X.A (f (.int i t) (.int j u)) Q E s) :
  OpR X f (rI C fun i j => .int (g i j)):=by
 intro pins s σ H x y v u Q I rx ry h
 obtain ⟨i,j,rfl,rfl,hc,q⟩:=h
 obtain ⟨t,rfl⟩:=rx
 obtain ⟨t',rfl⟩:=ry
 exact rule i j t t' s _ _ hc ⟨.int (g i j),H,I.tok _,⟨_,rfl⟩,q⟩
theorem opI0 {f:A0->A0->Sem A0} {g:Int->Int->Int}
  (rule:∀ (i j:Int) (t u:Tok) (s:A3) (Q:A0->A3->Prop) (E:A0->A3->Prop),Q (.int (g i j) s.toks) { s with toks:=s.toks + 1 }->wpAny (model X.prog X.w) X.A (f (.int i t) (.int j u)) Q E s) :
  OpR X f (rI0 fun i j => .int (g i j)):=by
 intro pins s σ H x y v u Q I rx ry h
 obtain ⟨i,j,rfl,rfl,q⟩:=h
 obtain ⟨t,rfl⟩:=rx
 obtain ⟨t',rfl⟩:=ry
 exact rule i j t t' s _ _ ⟨.int (g i j),H,I.tok _,⟨_,rfl⟩,q⟩
theorem opB0 {f:A0->A0->Sem A0} {g:Int->Int->Bool}
  (rule:∀ (i j:Int) (t u:Tok) (s:A3) (Q:A0->A3->Prop) (E:A0->A3->Prop),Q (.bool (g i j)) s->wpAny (model X.prog X.w) X.A (f (.int i t) (.int j u)) Q E s) :
  OpR X f (rI0 fun i j => .bl (g i j)):=by
 intro pins s σ H x y v u Q I rx ry h
 obtain ⟨i,j,rfl,rfl,q⟩:=h
 obtain ⟨t,rfl⟩:=rx
 obtain ⟨t',rfl⟩:=ry
 exact rule i j t t' s _ _ ⟨.bl (g i j),H,I,rfl,q⟩
noncomputable def CDiv (i j:Int):Prop:=0 < j/\j < 1073741824
noncomputable def CPow (i j:Int):Prop:=0<=j/\j<=1000000/\i.natAbs < 2 ^ 64
noncomputable def CMul (i j:Int):Prop:=(-(2 ^ 64) < i/\i < 2 ^ 64)\/(-(2 ^ 64) < j/\j < 2 ^ 64)
theorem CMul.ok {i j:Int} (h:CMul i j):IntMulOk i j:=by
 rcases h with ⟨h1,h2⟩ | ⟨h1,h2⟩
 ·exact .of_left (Ih h1 h2)
 ·exact .of_right (Ih h1 h2)
theorem two_pow_nn (k:Nat):(0:Int)<=2 ^ k:=by
 rw [two_pow_cast]
 exact Int.natCast_nonneg _
theorem zaU:OpR X (binaryOp .Add) (rI0 fun i j => .int (i + j)):=opI0 fun _ _ _ _ _ _ _ q=>add_int q
theorem zdU:OpR X (binaryOp .Sub) (rI0 fun i j => .int (i - j)):=opI0 fun _ _ _ _ _ _ _ q=>sub_int q
theorem zeI:OpR X (binaryOp .Mult) (rI CMul fun i j => .int (i * j)):=opI fun _ _ _ _ _ _ _ hc q=>mul_int q hc.ok
theorem zbo:OpR X (binaryOp .FloorDiv) (rI CDiv fun i j => .int (i / j)):=opI fun i j _ _ _ _ _ hc q=>by
 have h1:(0:Int) < j:=hc.1
 have h2:j < 1073741824:=hc.2
 exact floordiv_int (by omega) (by rw [L7 i (by omega)]; exact q) (.inl (PyProof.noPylong_small (by omega)))
theorem za5:OpR X (binaryOp .Mod) (rI (fun _ j=>0 < j) fun i j => .int (i % j)):=opI fun i j _ _ _ _ _ hc q=>by
 have h1:(0:Int) < j:=hc
 exact mod_int' (by omega) (by rw [Int.fmod_eq_emod_of_nonneg i (by omega)]; exact q)
theorem op_pow:OpR X (binaryOp .Pow) (rI CPow fun i j => .int (i ^ j.toNat)):=opI fun _ _ _ _ _ _ _ hc q=>pow_int_small hc.1 hc.2.1 hc.2.2 q
theorem op_shr:OpR X (binaryOp .RShift) (rI (fun _ j=>0<=j) fun i j => .int (i / 2 ^ j.toNat)):=opI fun i j _ _ _ _ _ hc q =>
 rshift_int hc (by rw [L7 i (two_pow_nn _)]; exact q)
theorem zhz:OpR X (binaryOp .BitAnd) (rI0 fun i j => .int (Dt i j)):=opI0 fun _ _ _ _ _ _ _ q=>and_int q
theorem unI {f:A0->Sem A0} {g:Int->Int}
  (rule:∀ (i:Int) (t:Tok) (s:A3) (Q:A0->A3->Prop) (E:A0->A3->Prop),Q (.int (g i) s.toks) { s with toks:=s.toks + 1 }->wpAny (model X.prog X.w) X.A (f (.int i t)) Q E s) :
  UnR X f (rU fun i => .int (g i)):=by
 intro pins s σ H x v Q I rx h
 obtain ⟨i,rfl,q⟩:=h
 obtain ⟨t,rfl⟩:=rx
 exact rule i t s _ _ ⟨.int (g i),H,I.tok _,⟨_,rfl⟩,q⟩
theorem zfF:UnR X (unaryOp .USub) (rU fun i => .int (-i)):=unI fun _ _ _ _ _ q=>neg_int q
end
noncomputable def scal:V->V->Bool
 | .non,.non=>true | .non,.int _=>true | .int _,.non=>true | .non,.bl _=>true | .bl _,.non=>true | .non,.str _=>true | .str _,.non=>true
 | .int _,.int _=>true | .bl _,.bl _=>true | .str _,.str _=>true | .byt _,.byt _=>true
 | .int _,.str _=>true | .str _,.int _=>true | .bl _,.str _=>true | .str _,.bl _=>true
 | _,_=>false
noncomputable def rEq:R2:=fun x y H Q=>scal x y=true/\Q (.bl (decide (x=y))) H
noncomputable def rNe:R2:=fun x y H Q=>scal x y=true/\Q (.bl (!decide (x=y))) H
theorem zg9 {i j:Int}:decide (V.int i=V.int j)=(i == j):=by
 rw [B5]
 simp
theorem zhH {i j:Bool}:decide (V.bl i=V.bl j)=(i == j):=by
 rw [B5]
 simp
theorem zg8 {i j:Str}:decide (V.str i=V.str j)=(i == j):=by
 rw [B5]
 simp
theorem zha {i j:Array UInt8}:decide (V.byt i=V.byt j)=(i.toList == j.toList):=by
 rw [B5]
 cases i
 cases j
 simp
section
variable {X:Cx} {a b c:Cb} {ta tb tc:TE} {pos:Pos}
theorem zaD {pins:List (A4×Obj)} {σ : St} {H:Hp} {s:A3} {Q:VK} {k k':Bool} (I:Inv X pins σ H s) (q:Q (.bl k) H) (e:k=k'):EP X pins σ Q (.bool k') s:=by
 subst e
 exact ⟨.bl k,H,I,rfl,q⟩
theorem zcV:OpR X (compareOp .Eq) rEq:=by
 intro pins s σ H x y v u Q I rx ry h
 obtain ⟨hs,q⟩:=h
 cases x with
 | non =>
  cases rx
  cases y with
  | non=>cases ry; exact Pq (zaD I q (by simp))
  | bl j=>cases ry; exact Ps (zaD I q (by simp))
  | int j=>obtain ⟨t',rfl⟩:=ry; exact Pr (zaD I q (by simp))
  | str j=>obtain ⟨t',rfl⟩:=ry; exact Pp (zaD I q (by simp))
  | _=>exact absurd (show false=true from hs) A9
 | bl i =>
  cases rx
  cases y with
  | non=>cases ry; exact Pu (zaD I q (by simp))
  | bl j=>cases ry; exact eq_bool (zaD I q zhH)
  | str j=>obtain ⟨t',rfl⟩:=ry; exact P4 (zaD I q (by simp))
  | _=>exact absurd (show false=true from hs) A9
 | int i =>
  obtain ⟨t,rfl⟩:=rx
  cases y with
  | non=>cases ry; exact Pt (zaD I q (by simp))
  | int j=>obtain ⟨t',rfl⟩:=ry; exact eq_int (zaD I q zg9)
  | str j=>obtain ⟨t',rfl⟩:=ry; exact P3 (zaD I q (by simp))
  | _=>exact absurd (show false=true from hs) A9
 | str i =>
  obtain ⟨t,rfl⟩:=rx
  cases y with
  | non=>cases ry; exact Po (zaD I q (by simp))
  | bl j=>cases ry; exact P2 (zaD I q (by simp))
  | int j=>obtain ⟨t',rfl⟩:=ry; exact P1 (zaD I q (by simp))
  | str j=>obtain ⟨t',rfl⟩:=ry; exact eq_str (zaD I q zg8)
  | _=>exact absurd (show false=true from hs) A9
 | byt i =>
  obtain ⟨t,rfl⟩:=rx
  cases y with
  | byt j=>obtain ⟨t',rfl⟩:=ry; exact PySem.W.eq_bytes (zaD I q zha)
  | _=>exact absurd (show false=true from hs) A9
 | _=>cases y <;> exact absurd (show false=true from hs) A9
theorem zhn:OpR X (compareOp .NotEq) rNe:=by
 intro pins s σ H x y v u Q I rx ry h
 obtain ⟨hs,q⟩:=h
 cases x with
 | non =>
  cases rx
  cases y with
  | non=>cases ry; exact Pj (zaD I q (by simp))
  | bl j=>cases ry; exact Pl (zaD I q (by simp))
  | int j=>obtain ⟨t',rfl⟩:=ry; exact Pk (zaD I q (by simp))
  | str j=>obtain ⟨t',rfl⟩:=ry; exact Pi (zaD I q (by simp))
  | _=>exact absurd (show false=true from hs) A9
 | bl i =>
  cases rx
  cases y with
  | non=>cases ry; exact Pn (zaD I q (by simp))
  | bl j=>cases ry; exact ne_bool (zaD I q (congrArg not zhH))
  | str j=>obtain ⟨t',rfl⟩:=ry; exact P0 (zaD I q (by simp))
  | _=>exact absurd (show false=true from hs) A9
 | int i =>
  obtain ⟨t,rfl⟩:=rx
  cases y with
  | non=>cases ry; exact Pm (zaD I q (by simp))
  | int j=>obtain ⟨t',rfl⟩:=ry; exact ne_int (zaD I q (congrArg not zg9))
  | str j=>obtain ⟨t',rfl⟩:=ry; exact Oz (zaD I q (by simp))
  | _=>exact absurd (show false=true from hs) A9
 | str i =>
  obtain ⟨t,rfl⟩:=rx
  cases y with
  | non=>cases ry; exact Ph (zaD I q (by simp))
  | bl j=>cases ry; exact Oy (zaD I q (by simp))
  | int j=>obtain ⟨t',rfl⟩:=ry; exact Ox (zaD I q (by simp))
  | str j=>obtain ⟨t',rfl⟩:=ry; exact ne_str (zaD I q (congrArg not zg8))
  | _=>exact absurd (show false=true from hs) A9
 | byt i =>
  obtain ⟨t,rfl⟩:=rx
  cases y with
  | byt j=>obtain ⟨t',rfl⟩:=ry; exact PySem.W.ne_bytes (zaD I q (congrArg not zha))
  | _=>exact absurd (show false=true from hs) A9
 | _=>cases y <;> exact absurd (show false=true from hs) A9
theorem zhN:OpR X (compareOp .Lt) (rI0 fun i j => .bl (decide (i < j))):=opB0 fun _ _ _ _ _ _ _ q=>lt_int q
theorem zdl:OpR X (compareOp .LtE) (rI0 fun i j => .bl (decide (i<=j))):=opB0 fun _ _ _ _ _ _ _ q=>le_int q
theorem zfi:OpR X (compareOp .Gt) (rI0 fun i j => .bl (decide (j < i))):=opB0 fun _ _ _ _ _ _ _ q=>gt_int q
theorem zgl:OpR X (compareOp .GtE) (rI0 fun i j => .bl (decide (j<=i))):=opB0 fun _ _ _ _ _ _ _ q=>ge_int q
theorem op_notN:OpR X (compareOp .IsNot) (fun x y H Q=>y = .non/\Q (.bl (!decide (x = .non))) H):=by
 intro pins s σ H x y v u Q I rx ry h
 obtain ⟨rfl,q⟩:=h
 cases ry
 refine isnot_none_gen (zaD I q ?_)
 cases x <;> first
  | (cases rx; rfl)
  | (obtain ⟨t,rfl⟩:=rx; rfl)
theorem zax (b:Cb) {op:Hq} (h:op ≠ .In:=by decide) (h2:op ≠ .NotIn:=by decide):behindInMarks op b=false:=by
 have e1:(op == CmpOp.In)=false:=by cases op <;> first | rfl | exact absurd rfl h
 have e2:(op == CmpOp.NotIn)=false:=by cases op <;> first | rfl | exact absurd rfl h2
 cases b <;> simp [behindInMarks,e1,e2]
theorem zbW {op:Hq} {r:R2} (ho:OpR X (compareOp op) r) (ha:PE X a ta) (hb:PE X b tb) (hm:behindInMarks op b=false):PE X (.Compare a [op] [b] pos) (tOp r ta tb):=by
 intro pins s σ H Q I h
 exact Q6 (binT ha hb I h fun v u s2 x y H2 I2 rx ry q=>ho pins s2 σ H2 x y v u Q I2 rx ry q) hm
noncomputable def tTest (t:TE):TT:=fun σ H Q=>t σ H fun x H'=>∃ k,x = .bl k/\Q k H'
theorem zas {op:Hq} {r:R2} (ho:OpR X (compareOp op) r) (ha:PE X a ta) (hb:PE X b tb) (hm:behindInMarks op b=false):PT X (.Compare a [op] [b] pos) (tTest (tOp r ta tb)):=by
 intro pins s σ H Q I h
 refine Nl (thnE (ha pins s σ H _ I h) fun v s1 x H1 I1 r1 q1=>thnE (hb pins s1 σ H1 _ I1 q1) fun u s2 y H2 I2 r2 q2 =>
  thnE (ho pins s2 σ H2 x y v u _ I2 r1 r2 q2) fun c s3 z H3 I3 r3 ⟨k,e,q3⟩ => ?_) hm
 subst e
 cases r3
 exact Ct ⟨H3,I3,q3⟩
noncomputable def tChain (r r':R2) (ta tb tc:TE):TE:=fun σ H Q=>ta σ H fun x H1=>tb σ H1 fun y H2=>r x y H2 fun z H3=>∃ k,z = .bl k /\
 (if k=true then tc σ H3 fun w' H4=>r' y w' H4 Q else Q (.bl false) H3)
theorem zfX {op op':Hq} {r r':R2} (ho:OpR X (compareOp op) r) (ho':OpR X (compareOp op') r') (ha:PE X a ta) (hb:PE X b tb) (hc:PE X c tc)
  (hm:lastMarks [op,op'] [b,c]=false:=by with_unfolding_all rfl):PE X (.Compare a [op,op'] [b,c] pos) (tChain r r' ta tb tc):=by
 intro pins s σ H Q I h
 refine Compare_chain (thnE (ha pins s σ H _ I h) fun v s1 x H1 I1 r1 q1=>chain_link (thnE (hb pins s1 σ H1 _ I1 q1) fun u s2 y H2 I2 r2 q2 =>
  thnE (ho pins s2 σ H2 x y v u _ I2 r1 r2 q2) fun d s3 z H3 I3 r3 ⟨k,e,q3⟩ => ?_)) hm
 subst e
 cases r3
 refine Ct ?_
 cases k with
 | false=>exact ite_ff ⟨.bl false,H3,I3,rfl,q3⟩
 | true=>exact ite_tt (chain_last (thnE (hc pins s3 σ H3 _ I3 q3) fun w' s4 z' H4 I4 r4 q4=>ho' pins s4 σ H4 y z' u w' Q I4 r2 r4 q4))
theorem zcZ {op op':Hq} {r r':R2} (ho:OpR X (compareOp op) r) (ho':OpR X (compareOp op') r') (ha:PE X a ta) (hb:PE X b tb) (hc:PE X c tc)
  (hm:lastMarks [op,op'] [b,c]=false:=by with_unfolding_all rfl):PT X (.Compare a [op,op'] [b,c] pos) (tTest (tChain r r' ta tb tc)):=by
 intro pins s σ H Q I h
 refine isTrue_chain (thnE (ha pins s σ H _ I h) fun v s1 x H1 I1 r1 q1=>test_link (thnE (hb pins s1 σ H1 _ I1 q1) fun u s2 y H2 I2 r2 q2 =>
  thnE (ho pins s2 σ H2 x y v u _ I2 r1 r2 q2) fun d s3 z H3 I3 r3 ⟨k,e,q3⟩ => ?_)) hm
 subst e
 cases r3
 refine Ct ?_
 cases k with
 | false =>
  obtain ⟨k',e',q'⟩:=q3
  cases e'
  exact ite_ff ⟨H3,I3,q'⟩
 | true =>
  refine ite_tt (test_last (thnE (hc pins s3 σ H3 _ I3 q3) fun w' s4 z' H4 I4 r4 q4=>thnE (ho' pins s4 σ H4 y z' u w' _ I4 r2 r4 q4) fun d' s5 z2 H5 I5 r5 ⟨k2,e2,q5⟩ => ?_))
  subst e2
  cases r5
  exact Ct ⟨H5,I5,q5⟩
theorem zdW:(sizeLine:Nat) < 2 ^ 63:=by rw [Nx]; decide
theorem op_add_str:OpR X (binaryOp .Add) (fun x y H Q=>∃ i j,x = .str i/\y = .str j/\i.length + j.length<=sizeLine/\Q (.str (i ++ j)) H):=by
 intro pins s σ H x y v u Q I rx ry h
 obtain ⟨i,j,rfl,rfl,hz,q⟩:=h
 obtain ⟨t,rfl⟩:=rx
 obtain ⟨t',rfl⟩:=ry
 exact add_str (fun t' tk=>⟨.str (i ++ j),H,I.tok _,⟨_,rfl⟩,q⟩) hz
theorem zbR {x:V} {us:List A0} (r:Vals [x] us):∃ u,us = [u]/\RelV x u:=by
 cases r with
 | cons r1 r2=>cases r2; exact ⟨_,rfl,r1⟩
theorem zhP {x y:V} {us:List A0} (r:Vals [x,y] us):∃ u w',us = [u,w']/\RelV x u/\RelV y w':=by
 cases r with
 | cons r1 r2 =>
  cases r2 with
  | cons r3 r4=>cases r4; exact ⟨_,_,rfl,r1,r3⟩
theorem call_min2 (hc:X.calm=true):CallR X (.builtin "min") (fun xs H Q=>∃ i j,xs = [.int i,.int j]/\Q (.int (if j < i then j else i)) H):=by
 intro pins s σ H xs us Q I r h
 obtain ⟨i,j,rfl,q⟩:=h
 obtain ⟨u,w',rfl,⟨t,rfl⟩,⟨t',rfl⟩⟩:=zhP r
 refine min_two_ints (I.ok.hd hc) fun h' tk k=>⟨_,H,I.kept k,?_,q⟩
 by_cases hj:j < i
 ·rw [if_pos hj,if_pos hj]; exact ⟨_,rfl⟩
 ·rw [if_neg hj,if_neg hj]; exact ⟨_,rfl⟩
end
structure ObjM (h:Bz) (x dx C:A4) (mA:Str->Option A0):Prop where
 obj:h.get? x=some (E9 C dx)
 ns:h.Ns1 dx mA
 ne:dx≠x
theorem lookIn_ns {h:Bz} {dx:A4} {mA:Str->Option A0} (n:h.Ns1 dx mA):∃ od,h.get? dx=some od/\∀ name,Ii name od=some (mA name):=by
 obtain ⟨o,es,ep,ho,hd,hk,_,hm⟩:=n
 refine ⟨o,ho,fun name => ?_⟩
 have e:=hm name
 unfold nsFind findBy at e
 rw [<- Array.find?_toList] at e
 unfold Ii
 rw [hd]
 dsimp only
 split
 ·rename_i y q
  rw [q] at e
  exact congrArg some e
 ·rename_i q
  rw [q] at e
  have a:es.toList.any (·.refKey)=false:=by
   rw [Jt]
   intro y hy
   obtain ⟨z,t,hkey⟩:=hk y (Array.mem_toList_iff.mp hy)
   simp [Qy,hkey]
  have a':¬ es.toList.any (·.refKey)=true:=by rw [a]; exact A9
  rw [if_neg a']
  exact congrArg some e
theorem ObjM.look {h:Bz} {x dx C:A4} {mA:Str->Option A0} (I:ObjM h x dx C mA):∃ od,PySem.W.InstAt h x (E9 C dx) C (some od)/\∀ name,Ii name od=some (mA name) :=
 let ⟨od,ho,hl⟩:=lookIn_ns I.ns
 ⟨od,⟨I.obj,rfl,rfl,ho⟩,hl⟩
section
variable {prog:Aq} {w:Bj} {A:Bb} {E:A0->A3->Prop} {s:A3} {K:Av} {x dx C f:A4} {mA:Str->Option A0} {name:Str} {v:A0}
theorem get_map {expr:Bool} {Q:A0->A3->Prop} (X:K.In s.heap) (I:ObjM s.heap x dx C mA) (hg:Fx K C name=true) (hh:Gu K C=true)
  (ha:Cm K (.ref C) name=some none) (hv:mA name=some v) (hv':Mq v=true) (h:Q v { s with toks:=s.toks + 1 }) :
  wpAny (model prog w) A (getAttr (.ref x) name expr) Q E s:=by
 obtain ⟨od,J,hl⟩:=I.look
 exact PySem.W.get_value X J (Ix hg).1 (PySem.W.findObj_own hh ha rfl (by rw [hl,hv])) hv' h
theorem get_meth {pl:Sem Bool} {Q:A0×List A0->A3->Prop} (X:K.In s.heap) (I:ObjM s.heap x dx C mA) (hg:Fx K C name=true)
  (hf:Cm K (.ref C) name=some (some (.ref f))) (ht:Ho K (.ref f)=true) (hv:mA name=none) (h:Q (.ref f,[.ref x]) s) :
  wpAny (model prog w) A (getMethod (.ref x) name pl) Q E s:=by
 obtain ⟨od,J,hl⟩:=I.look
 exact PySem.W.method_fn X J (Ix hg).1 (Ix hg).2 hf (beq_iff_eq.mp ht) (by show (Ii name od).map (·.isSome)=some false; rw [hl,hv]; rfl) h
theorem set_map {ns:List Str} {Q:Unit->A3->Prop} (X:K.In s.heap) (I:ObjM s.heap x dx C mA)
  (hs:Cm K (.ref C) "__setattr__" = some (some (.builtin "object.__setattr__"))) (hp:Jg K C=true) (ht:Jv K C name=some none) (hh:Gu K C=true)
  (hw:Lm mA ns) (hsz:ns.length<=sizeLine)
  (h:∀ h',ObjM h' x dx C (fun y=>if y=name then some v else mA y)->Fv dx s.heap h'->Q () { s with heap:=h',toks:=s.toks + 2 }) :
  wpAny (model prog w) A (setAttr (.ref x) name v) Q E s:=by
 obtain ⟨od,J,hl⟩:=I.look
 refine PySem.W.set_plain X J hs (PySem.W.osa_open (s:={ s with toks:=s.toks + 1 }) (r:=none) X J hp ht fun b => ?_)
 obtain ⟨cd,hc,hd'⟩:=PySem.W.any_some hh
 have hx:s.heap.get? x=some ⟨.ref C,some dx,.plain,#[]⟩:=I.obj
 refine A1 (Ae (A1 (A1 (wpAny_loadPart hx (A1 (Ow (s:={ s with toks:=s.toks + 1 }) (PySem.W.looks_clsIn X hc) ?_))))))
 rw [hd']
 refine Ae (a:=some dx) (A1 (Ae (A1 ?_)))
 refine wpAny_nsSet1 (s:={ s with toks:=s.toks + 1 }) I.ns fun h' hn2 hs2 => ?_
 obtain ⟨oD,esD,epD,hoD,hdD,hcD⟩:=hn2.count (Pg name v hw)
 refine A1 (wpAny_lookBehind hoD (by rw [hdD]; exact pastItsLine_dict (Br hcD (by rw [At]; omega))) ?_)
 exact Ae (h _ ⟨(hs2.2 _ (Dz I.ne)).trans I.obj,hn2,I.ne⟩ hs2)
theorem make_map {R:Result->A3->Prop} {vs:List A0} {kw:List (Str×A0)} (X:K.In s.heap) (hm:Jw K C=true)
  (hi:Cm K (.ref C) "__init__" = some (some (.ref f))) (hf:PySem.W.typeIn K (.ref f)=some (.type "function"))
  (h:codeAny (model prog w) (A.under (.builtin "type.__call__" ⟨.ref C :: vs,kw⟩)) (.call (.ref f) ⟨.ref (s.heap.objs.size + 1) :: vs,kw⟩) (PySem.W.InitBack (s.heap.objs.size + 1) R)
   { s with heap:=(s.heap.push Dk).push (E9 C s.heap.objs.size) }) :
  codeAny (model prog w) A (.call (.ref C) ⟨vs,kw⟩) R s:=by
 obtain ⟨hh,g,d,t,os⟩:=s
 exact PySem.W.make_core (PySem.W.makes_of X hm) (PySem.W.looks_findIn X hi) (fun self=>PySem.W.bind_fn X self hf) (.inl rfl) h
end
noncomputable def putF (f:Str) (v:V):List (Str×V)->List (Str×V)
 | [] => [(f,v)]
 | (g,x) :: r=>if g=f then (g,v) :: r else (g,x) :: putF f v r
theorem zds (f g:Str) (v:V):∀ fs:List (Str×V),(putF f v fs).lookup g=if g=f then some v else fs.lookup g
 | []=>by
  show F4 g [(f,v)]=_
  by_cases h:g=f
  ·have hb:(g == f)=true:=beq_iff_eq.mpr h
   simp only [F4,hb,if_pos h]
  ·have hb:(g == f)=false:=beq_eq_false_iff_ne.mpr h
   simp only [F4,hb,if_neg h]
 | (k,x) :: r=>by
  have ih:=zds f g v r
  rw [show putF f v ((k,x) :: r)=(if k=f then (k,v) :: r else (k,x) :: putF f v r) from rfl]
  by_cases hk:k=f
  ·rw [if_pos hk]
   by_cases h:g=k
   ·have hb:(g == k)=true:=beq_iff_eq.mpr h
    simp only [F4,hb,if_pos (h.trans hk)]
   ·have hb:(g == k)=false:=beq_eq_false_iff_ne.mpr h
    simp only [F4,hb,if_neg (fun e:g=f=>h (e.trans hk.symm))]
  ·rw [if_neg hk]
   by_cases h:g=k
   ·have hb:(g == k)=true:=beq_iff_eq.mpr h
    simp only [F4,hb,if_neg (fun e:g=f=>hk (h.symm.trans e))]
   ·have hb:(g == k)=false:=beq_eq_false_iff_ne.mpr h
    simp only [F4,hb]
    exact ih
theorem zdu (f:Str) (v:V):∀ fs:List (Str×V),f∈(putF f v fs).map (·.1)/\∀ g,g∈fs.map (·.1)->g∈(putF f v fs).map (·.1)
 | []=>⟨by simp [putF],fun g h=>by simp at h⟩
 | (k,x) :: r=>by
  obtain ⟨i1,i2⟩:=zdu f v r
  rw [show putF f v ((k,x) :: r)=(if k=f then (k,v) :: r else (k,x) :: putF f v r) from rfl]
  by_cases hk:k=f
  ·rw [if_pos hk]
   subst hk
   exact ⟨by simp,fun g h=>by simpa using h⟩
  ·rw [if_neg hk]
   refine ⟨?_,fun g h => ?_⟩
   ·rw [An]
    exact Aa _ i1
   ·rw [An] at h ⊢
    rcases B9.mp h with e | e
    ·exact B9.mpr (.inl e)
    ·exact Aa _ (i2 g e)
theorem zdt (f:Str) (v:V):∀ fs:List (Str×V),(putF f v fs).length<=fs.length + 1
 | []=>by simp [putF]
 | (k,x) :: r=>by
  have ih:=zdt f v r
  rw [show putF f v ((k,x) :: r)=(if k=f then (k,v) :: r else (k,x) :: putF f v r) from rfl]
  by_cases hk:k=f
  ·rw [if_pos hk,At,At]; omega
  ·rw [if_neg hk,At,At]; omega
theorem RelO.some_of {v:V} {o:Option A0} (r:RelO (some v) o):∃ u,o=some u/\RelV v u:=by
 cases o with
 | none=>exact (show False from r).elim
 | some u=>exact ⟨u,rfl,r⟩
theorem RelO.none_of {o:Option A0} (r:RelO none o):o=none:=by
 cases o with
 | none=>rfl
 | some u=>exact (show False from r).elim
theorem handed_of {v:V} {u:A0} (r:RelV v u):Mq u=true:=by
 cases v with
 | non=>cases (show u=Ee from r); rfl
 | bl b=>cases (show u=F0 b from r); rfl
 | int i=>obtain ⟨t,e⟩:=(show ∃ t,u=Hn i t from r); cases e; rfl
 | str x=>obtain ⟨t,e⟩:=(show ∃ t,u=Ju x t from r); cases e; rfl
 | byt b=>obtain ⟨t,e⟩:=(show ∃ t,u=Os b t from r); cases e; rfl
 | flt b=>obtain ⟨t,e⟩:=(show ∃ t,u=M3 b t from r); cases e; rfl
 | ref a=>cases (show u=B1 a from r); rfl
 | ty n=>cases (show u=Eo n from r); rfl
section
variable {P:Aq} {w:Bj} {H H':Hp} {h h':Bz} {a C dx:A4} {fs fs':List (Str×V)}
theorem zej (hok:HOk P w H h) (e:H a=some (.ins C dx fs)):∃ mA,ObjM h a dx C mA/\(∀ f,RelO (fs.lookup f) (mA f))/\Lm mA (fs.map (·.1))/\fs.length<=1000/\H dx=some (.own a):=by
 obtain ⟨d,z,ne,ob,mA,n,r,q⟩:=(show ObjOk P w H h a (.ins C dx fs) from hok a _ e)
 exact ⟨mA,⟨ob,n,ne⟩,r,q,z,d⟩
end
structure Cls (K:Av) (C:A4):Prop where
 pg:Fx K C Qe=true
 hd:Gu K C=true
 po:Jg K C=true
 sa:Cm K (.ref C) "__setattr__" = some (some (.builtin "object.__setattr__"))
theorem Cls.get {K:Av} {C:A4} (c:Cls K C) (f:Str):Fx K C f=true:=c.pg
noncomputable def NoAttr (K:Av) (C:A4) (f:Str):Prop:=Cm K (.ref C) f=some none
theorem NoAttr.taker {K:Av} {C:A4} {f:Str} (n:NoAttr K C f):Jv K C f=some none:=by
 unfold Jv
 rw [show Cm K (.ref C) f=some none from n]
 rfl
structure Meth (K:Av) (C:A4) (m:Str) (f:A4):Prop where
 at_:Cm K (.ref C) m=some (some (.ref f))
 fn:Ho K (.ref f)=true
 kp:Dj K (.ref f)=true
section
variable {X:Cx} {pins:List (A4×Obj)} {σ : St} {H:Hp} {s:A3} {a C dx:A4} {fs:List (Str×V)} {f:Str} {v:V} {A:Bb} {E:A0->A3->Prop}
theorem getattr_ok {b:Bool} {Q:A0->A3->Prop} (I:Inv X pins σ H s) (e:H a=some (.ins C dx fs)) (c:Cls X.K C) (n:NoAttr X.K C f) (l:fs.lookup f=some v)
  (h:∀ u s',Inv X pins σ H s'->RelV v u->Q u s'):wpAny (model X.prog X.w) A (getAttr (.ref a) f b) Q E s:=by
 obtain ⟨mA,O,r,_,_,_⟩:=zej I.hok e
 obtain ⟨u,hu,ru⟩:=RelO.some_of (v:=v) (o:=mA f) (by rw [<- l]; exact r f)
 exact get_map I.kIn O (c.get f) c.hd n hu (handed_of ru) (h u _ (I.tok _) ru)
theorem zd0 {m:Str} {g:A4} {pl:Sem Bool} {Q:A0×List A0->A3->Prop} (I:Inv X pins σ H s) (e:H a=some (.ins C dx fs)) (c:Cls X.K C) (k:Meth X.K C m g) (l:fs.lookup m=none)
  (h:Q (.ref g,[.ref a]) s):wpAny (model X.prog X.w) A (getMethod (.ref a) m pl) Q E s:=by
 obtain ⟨mA,O,r,_,_,_⟩:=zej I.hok e
 have hn:mA m=none:=RelO.none_of (by rw [<- l]; exact r m)
 exact get_meth I.kIn O (c.get m) k.at_ k.fn hn h
theorem setattr_ok {y:V} {u:A0} {Q:Unit->A3->Prop} (I:Inv X pins σ H s) (e:H a=some (.ins C dx fs)) (c:Cls X.K C) (n:NoAttr X.K C f) (hl:fs.length < 1000) (ry:RelV y u)
  (h:∀ s',Inv X pins σ (upd H a (.ins C dx (putF f y fs))) s'->Q () s'):wpAny (model X.prog X.w) A (setAttr (.ref a) f u) Q E s:=by
 obtain ⟨mA,O,r,wi,_,ho⟩:=zej I.hok e
 have hz:(fs.map (·.1)).length<=sizeLine:=by rw [A2,Nx]; omega
 refine set_map I.kIn O c.sa c.po n.taker c.hd wi hz fun h' O' sb=>h _ ?_
 have hd:∃ o,h'.get? dx=some o:=let ⟨o,_,_,e',_⟩:=O'.ns; ⟨o,e'⟩
 refine I.write (x:=a) (e:=dx) (by rw [e]; exact E7) (.inr ho) (fun b q hb z=>(sb.2 b hb).trans z) hd ?_
 refine ⟨by rw [zah O.ne]; exact ho,?_,O.ne,O'.obj,_,O'.ns,fun g => ?_,fun g hg => ?_⟩
 ·have:=zdt f y fs; omega
 ·show RelO ((putF f y fs).lookup g) (if g=f then some u else mA g)
  rw [zds]
  by_cases q:g=f
  ·rw [if_pos q,if_pos q]; exact ry
  ·rw [if_neg q,if_neg q]; exact r g
 ·by_cases q:g=f
  ·rw [q]; exact (zdu f y fs).1
  ·refine (zdu f y fs).2 g (wi g fun z=>hg ?_)
   show (if g=f then some u else mA g)=none
   rw [if_neg q]; exact z
theorem Inv.made (I:Inv X pins σ H s):Inv X pins σ (upd (upd H s.heap.objs.size (.own (s.heap.objs.size + 1))) (s.heap.objs.size + 1) (.ins C s.heap.objs.size []))
  { s with heap:=(s.heap.push Dk).push (E9 C s.heap.objs.size) }:=by
 have e1:(s.heap.push Dk).get? s.heap.objs.size=some Dk:=Ba s.heap rfl
 have e2:((s.heap.push Dk).push (E9 C s.heap.objs.size)).get? (s.heap.objs.size + 1)=some (E9 C s.heap.objs.size):=by
  have:=Ba (s.heap.push Dk) (o:=E9 C s.heap.objs.size) rfl
  rwa [F5] at this
 have e3:(s.heap.push Dk).Ns s.heap.objs.size (fun _=>none):=⟨Dk,#[],_,e1,rfl,(fun e he=>absurd he (by simp)),fun _=>rfl⟩
 have I1:=I.laid (a:=s.heap.objs.size) (o := .own (s.heap.objs.size + 1)) (h':=s.heap.push Dk) (t':=s.toks) (fun b u q=>Ad _ q) (Ac _) ⟨_,e1⟩
 refine I1.laid (a:=s.heap.objs.size + 1) (o := .ins C s.heap.objs.size []) (t':=s.toks) (fun b u q=>Ad _ q) (P6 (F5 _ _)) ?_
 have ne:s.heap.objs.size≠s.heap.objs.size + 1:=Bm (Em _)
 refine ⟨by rw [zah ne,zac],Bi _,ne,e2,fun _=>none,(Heap.Ns1.of_empty e3).at fun o q=>Ad _ q,fun _=>E7,fun y hy=>absurd rfl hy⟩
theorem attr_of {prog:Aq} {w:Bj} {env:Env} {e:Cb} {f:Str} {pos:Pos} {s:A3} {Q:A0->A3->Prop} (hb:attributeBase e f env (eval e env)=eval e env)
  (h:wpAny (model prog w) A (eval e env) (fun o s₁ => wpAny (model prog w) A (getAttr o f true) Q E s₁) E s):wpAny (model prog w) A (eval (.Attribute e f pos) env) Q E s :=
 Attribute_any_ h (by rw [arm_eval_Attribute,hb])
end
noncomputable def tFld (K:Av) (ta:TE) (f:Str):TE:=fun σ H Q=>ta σ H fun x H1=>∃ a C dx fs v,x = .ref a/\H1 a=some (.ins C dx fs)/\Cls K C/\NoAttr K C f/\fs.lookup f=some v/\Q v H1
noncomputable def sFld (K:Av) (ta tv:TE) (f:Str):TS:=fun D σ H=>tv σ H fun y H1=>ta σ H1 fun x H2=>∃ a C dx fs,x = .ref a/\H2 a=some (.ins C dx fs)/\Cls K C/\NoAttr K C f/\fs.length < 1000 /\
 D.nx σ (upd H2 a (.ins C dx (putF f y fs)))
section
variable {X:Cx} {o e value:Cb} {f:Str} {pos pos' tpos:Pos} {ta tv:TE}
theorem zbV (he:PE X e ta) (hb:attributeBase e f X.env (eval e X.env)=eval e X.env):PE X (.Attribute e f pos) (tFld X.K ta f):=by
 intro pins s σ H Q I h
 refine attr_of hb (thnE (he pins s σ H _ I h) fun u s1 x H1 I1 rx ⟨a,C,dx,fs,v,ex,ea,c,n,l,q⟩ => ?_)
 subst ex
 obtain rfl:u=B1 a:=rx
 exact getattr_ok I1 ea c n l fun u' s2 I2 ru=>⟨v,H1,I2,ru,q⟩
theorem zgD (ha:PE X o ta) (hv:PE X value tv) (hs:swapsWith value (some (.Attribute o f pos')) pos.line X.env=pure false):PS X (.Assign [.Attribute o f pos'] value pos) (sFld X.K ta tv f):=by
 intro pins s σ H D I h
 refine plainObj_wpAny_Assign_Attribute (thnE (hv pins s σ H _ I h) fun u s1 y H1 I1 ry q=>thnE (ha pins s1 σ H1 _ I1 q) fun ov s2 x H2 I2 rx ⟨a,C,dx,fs,ex,ea,c,n,l,q2⟩ => ?_) hs
 subst ex
 obtain rfl:ov=B1 a:=rx
 exact setattr_ok I2 ea c n l ry fun s3 I3=>⟨σ,_,I3,q2⟩
end
section
variable {X:Cx} {pins:List (A4×Obj)} {σ : St} {H:Hp} {s:A3} {A:Bb} {E:A0->A3->Prop} {Q:A0->A3->Prop} {c:A0} {b:Bool}
inductive TyOf (K:Av) (H:Hp):V->A0->Prop where
 | non:TyOf K H .non (.type "NoneType")
 | bl (x:Bool):TyOf K H (.bl x) (.type "bool")
 | int (i:Int):TyOf K H (.int i) (.type "int")
 | str (x:Str):TyOf K H (.str x) (.type "str")
 | flt (x:UInt64):TyOf K H (.flt x) (.type "float")
 | lst {a:A4} {xs:List V} (e:H a=some (.lst xs)):TyOf K H (.ref a) (.type "list")
 | frz {a:A4} {o:Obj} {xs:List V} (e:H a=some (.frz o (.lst xs))):TyOf K H (.ref a) (.type "list")
 | tup {a:A4} {xs:List V} (e:H a=some (.tup xs)):TyOf K H (.ref a) (.type "tuple")
 | dK {a:A4} {kvs:List (Key×V)} (e:H a=some (.dK kvs)):TyOf K H (.ref a) (.type "dict")
 | dT {a:A4} {kvs:List (List Key×V)} (e:H a=some (.dT kvs)):TyOf K H (.ref a) (.type "dict")
 | ins {a C dx:A4} {fs:List (Str×V)} (e:H a=some (.ins C dx fs)) (cl:Cls K C) (ha:Cm K (.ref C) "__class__" = some (some (.builtin "object.__class__")))
   (hn:PySem.W.specialIn K (.builtin "object.__class__") "__get__" = some (some (.builtin "getset_descriptor.__get__"))) (htk:PySem.W.takesIn K (.builtin "object.__class__")=some true)
   (hm:PySem.W.mroIn K C (.type "object")=some true):TyOf K H (.ref a) (.ref C)
theorem isinst_ok {x:V} {u t:A0} (I:Inv X pins σ H s) (rx:RelV x u) (ty:TyOf X.K H x t) (e:K9 X.K t c=some b) (h:∀ tk,Q (.bool b) { s with toks:=tk }) :
  wpAny (model X.prog X.w) A (call (.builtin "isinstance") [u,c]) Q E s:=by
 cases ty with
 | non=>cases (show u=Ee from rx); exact Da PySem.W.kitx_none I.kIn E7 e (fun z=>nomatch z) h
 | bl y=>cases (show u=F0 y from rx); exact Da PySem.W.kitx_bool I.kIn E7 e (fun z=>nomatch z) h
 | int i=>obtain ⟨t,q⟩:=(show ∃ t,u=Hn i t from rx); cases q; exact Da PySem.W.kitx_int I.kIn E7 e (fun z=>nomatch z) h
 | str y=>obtain ⟨t,q⟩:=(show ∃ t,u=Ju y t from rx); cases q; exact Da PySem.W.kitx_str I.kIn E7 e (fun z=>nomatch z) h
 | flt y=>obtain ⟨t,q⟩:=(show ∃ t,u=M3 y t from rx); cases q; exact Da PySem.W.kitx_float I.kIn E7 e (fun z=>nomatch z) h
 | @lst a xs ea =>
  cases (show u=B1 a from rx)
  obtain ⟨_,_,n,_,h1⟩:=(show ObjOk X.prog X.w H s.heap a (.lst xs) from I.hok a _ ea)
  exact Da Me I.kIn ⟨_,h1,rfl⟩ e (fun z=>nomatch z) h
 | @frz a ob xs ea =>
  cases (show u=B1 a from rx)
  obtain ⟨_,_,_,n,_,h1⟩:=(show ObjOk X.prog X.w H s.heap a (.frz ob (.lst xs)) from I.hok a _ ea)
  exact Da Me I.kIn ⟨_,h1,rfl⟩ e (fun z=>nomatch z) h
 | @tup a xs ea =>
  cases (show u=B1 a from rx)
  obtain ⟨_,_,_,p⟩:=(show ObjOk X.prog X.w H s.heap a (.tup xs) from I.hok a _ ea)
  obtain ⟨o,h1,h2,_⟩:=p
  exact Da PySem.W.kitx_tuple I.kIn ⟨o,h1,h2⟩ e (fun z=>nomatch z) h
 | @dK a kvs ea =>
  cases (show u=B1 a from rx)
  obtain ⟨_,_,vs,_,p⟩:=(show ObjOk X.prog X.w H s.heap a (.dK kvs) from I.hok a _ ea)
  obtain ⟨o,es,ep,h1,h2,_⟩:=p
  exact Da Mf I.kIn ⟨o,h1,h2.1⟩ e (fun z=>nomatch z) h
 | @dT a kvs ea =>
  cases (show u=B1 a from rx)
  obtain ⟨_,_,xs,_,o,es,ep,h1,h2,_⟩:=(show ObjOk X.prog X.w H s.heap a (.dT kvs) from I.hok a _ ea)
  exact Da Mf I.kIn ⟨o,h1,h2.1⟩ e (fun z=>nomatch z) h
 | @ins a C dx fs ea cl ha hn htk hm =>
  cases (show u=B1 a from rx)
  obtain ⟨mA,O,_⟩:=zej I.hok ea
  obtain ⟨od,J,_⟩:=O.look
  exact Da (PySem.W.kitx_own (cl.get _) cl.hd ha hn htk hm) I.kIn J e (fun z=>nomatch z) h
end
structure Room (k:Nat) (A:Bb):Prop where
 hd:A.handled=none
 dp:A.depth + 3 * k + 5 < recursionLimit
 un:A.units + 16 * k + 200 < cLine
theorem Room.mono {j k:Nat} {A:Bb} (r:Room k A) (h:j<=k):Room j A:=⟨r.hd,by have:=r.dp; omega,by have:=r.un; omega⟩
theorem Room.deeper {k:Nat} {A:Bb} (r:Room (k + 1) A) (env:Env):Room k (A.deeper env) :=
 ⟨r.hd,by have:=r.dp; show A.depth + 1 + 3 * k + 5 < _; omega,by have:=r.un; show A.units + 3 + 16 * k + 200 < _; omega⟩
theorem make_depth {A:Bb} {C:A4} {us:List A0} {kw:List (Str×A0)}:(A.under (.builtin "type.__call__" ⟨.ref C :: us,kw⟩)).depth=A.depth + 1:=by
 first | rfl | simp [Li,Code.weight,Code.isCreation,Code.isGuard,Code.isCaller,P8,Ly,guardIds]
theorem make_units {A:Bb} {C:A4} {us:List A0} {kw:List (Str×A0)}:(A.under (.builtin "type.__call__" ⟨.ref C :: us,kw⟩)).units=A.units + 1:=by
 first | rfl | simp [Li,Code.cUnits,P8,Ly]
theorem Room.make {k:Nat} {A:Bb} (r:Room (k + 1) A) (C:A4) (us:List A0) (kw:List (Str×A0)):Room k (A.under (.builtin "type.__call__" ⟨.ref C :: us,kw⟩)) :=
 ⟨r.hd,by have:=r.dp; rw [make_depth]; omega,by have:=r.un; rw [make_units]; omega⟩
theorem Room.depth {k:Nat} {A:Bb} (r:Room k A):A.depth < recursionLimit:=by have:=r.dp; omega
theorem Room.units {k:Nat} {A:Bb} (r:Room k A):A.units + 64 < cLine:=by have:=r.un; omega
noncomputable def tNil:TA:=fun _ H Q=>Q [] H
noncomputable def tCons (ta:TE) (tr:TA):TA:=fun σ H Q=>ta σ H fun x H1=>tr σ H1 fun xs H2=>Q (x :: xs) H2
section
variable {X:Cx} {e:Cb} {es:List Cb} {te:TE} {t:TA} {pos:Pos}
theorem zae:PA X [] tNil:=fun _ _ _ _ H Q I h=>Calls.spliced_nil ⟨[],H,I,.nil,h⟩
theorem zaa (ha:PE X e te) (hr:PA X es t) (hs:starEach (e :: es) X.env=(false,eval e X.env) :: starEach es X.env:=by rfl):PA X (e :: es) (tCons te t):=by
 intro pos pins s σ H Q I h
 rw [hs]
 show wpAny _ _ (spliced ((false,eval e X.env) :: backTo pos (starEach es X.env))) _ _ s
 refine Calls.spliced_cons (thnE (ha pins s σ H _ I h) fun u s1 x H1 I1 r1 q1 => ?_)
 exact thnE (hr pos pins s1 σ H1 _ I1 q1) fun us s2 xs H2 I2 r2 q2=>⟨x :: xs,H2,I2,.cons r1 r2,q2⟩
noncomputable def tTup (t:TA):TE:=fun σ H Q=>t σ H fun xs H1=>xs.length<=sizeLine/\∀ p,H1 p=none->Q (.ref p) (upd H1 p (.tup xs))
noncomputable def tLst (t:TA):TE:=fun σ H Q=>t σ H fun xs H1=>xs.length<=sizeLine/\∀ p,H1 p=none->Q (.ref p) (upd H1 p (.lst xs))
theorem zbm {x1} (h:PA X es t):PE X (.Tuple es x1 pos) (tTup t):=by
 intro pins s σ H Q I hq
 refine wpAny_Tuple_spliced (thnE (h pos pins s σ H _ I hq) fun us s1 xs H1 I1 r ⟨z,q⟩=>⟨by rw [<- r.length]; exact z,?_⟩)
 have hf:H1 s1.heap.objs.size=none:=I1.hok.fresh (Ac _)
 refine ⟨.ref s1.heap.objs.size,upd H1 s1.heap.objs.size (.tup xs),I1.laid (t':=s1.toks) (fun b u e=>Ad _ e) (Ac _) ?_,rfl,q _ hf⟩
 exact ⟨z,us,r,⟨_,Ba _ rfl,rfl,_,rfl⟩⟩
theorem za1 (h:PA X es t):PE X (.List es pos) (tLst t):=by
 intro pins s σ H Q I hq
 refine wpAny_List_spliced (thnE (h pos pins s σ H _ I hq) fun us s1 xs H1 I1 r ⟨z,q⟩=>⟨by rw [<- r.length]; exact z,?_⟩)
 have hf:H1 s1.heap.objs.size=none:=I1.hok.fresh (Ac _)
 refine ⟨.ref s1.heap.objs.size,upd H1 s1.heap.objs.size (.lst xs),I1.laid (t':=s1.toks) (fun b u e=>Ad _ e) (Ac _) ?_,rfl,q _ hf⟩
 exact ⟨z,us,0,r,Ba _ rfl⟩
end
noncomputable abbrev Sp:=List V->Hp->VK->XK->Prop
noncomputable abbrev CXT:=List Env->Hp->A3->XK->A0->A3->Prop
structure Env0 (P:Aq) (w:Bj) (K:Av) (mg:Str->Option A0) (base:Bz) (A:Bb) (outer:List Env) (s:A3) (H:Hp):Prop where
 frames:A.frames=some outer
 mod:Mod K mg base
 bs:∀ b o,base.get? b=some o->s.heap.get? b=some o/\H b=none
 bsz:base.objs.size<=s.heap.objs.size
 funs:s.heap.FunFrames base outer
 frf:∀ b∈frs outer,H b=none
 hok:HOk P w H s.heap
 bare:Hg s.gens
noncomputable def CE (outer:List Env) (P:Aq) (w:Bj) (H:Hp) (s:A3) (Q:VK) (u:A0) (s':A3):Prop :=
 ∃ v H',s'.os=s.os/\Hg s'.gens/\Un (frs outer) [] H H' s.heap s'.heap/\HOk P w H' s'.heap/\RelV v u/\Q v H'
noncomputable def CR (CX:CXT) (outer:List Env) (P:Aq) (w:Bj) (H:Hp) (s:A3) (Q:VK) (E:XK) (r:Result) (s':A3):Prop :=
 match r with
 | .ok (.ret u)=>CE outer P w H s Q u s'
 | .ok _=>False
 | .error e=>CX outer H s E e s'
structure FnOk (P:Aq) (w:Bj) (K:Av) (mg:Str->Option A0) (base:Bz) (CX:CXT) (k:Nat) (f:A4) (fd:Ej) (ps:List Str) (sp:Sp):Prop where
 len:∀ vs H Q E,sp vs H Q E->vs.length=ps.length
 run:∀ (A:Bb) (outer:List Env) (s:A3) (H:Hp) (args:Args) (us:List A0) (vs:List V) (Q:VK) (E:XK),Room k A->Env0 P w K mg base A outer s H->Ks s fd args (ps.zip us)->Vals vs us->sp vs H Q E ->
  codeAny (model P w) A (.call (.ref f) args) (CR CX outer P w H s Q E) s
theorem Env0.make {P:Aq} {w:Bj} {K:Av} {mg:Str->Option A0} {base:Bz} {A:Bb} {outer:List Env} {s:A3} {H:Hp} (e:Env0 P w K mg base A outer s H) (C:A4) (us:List A0) (kw:List (Str×A0)) :
  Env0 P w K mg base (A.under (.builtin "type.__call__" ⟨.ref C :: us,kw⟩)) outer s H:=⟨by first | exact e.frames | (simpa [Li,Code.envs,Ly,pushEnvs] using e.frames),e.mod,e.bs,e.bsz,e.funs,e.frf,e.hok,e.bare⟩
section
variable {X:Cx} {pins:List (A4×Obj)} {σ : St} {H:Hp} {s s':A3}
theorem Inv.env0 (I:Inv X pins σ H s):Env0 X.prog X.w X.K X.mg X.base X.A X.stack s H :=
 ⟨I.ok.frames,I.ok.mod,I.bs,Br I.ok.bsz I.sz,I.stack,I.stkFree,I.hok,I.bare⟩
theorem Inv.after {Q:VK} {u:A0} (I:Inv X pins σ H s) (h:CE X.stack X.prog X.w H s Q u s'):EP X pins σ Q u s':=by
 obtain ⟨v,H',os,bare,un,hok,r,q⟩:=h
 obtain ⟨hh,g,d,t,os'⟩:=s'
 obtain rfl:os'=s.os:=os
 exact ⟨v,H',I.call (h':=hh) (g':=g) (d':=d) (t':=t) (ch := []) un hok bare (fun b z=>absurd z (by simp)),r,q⟩
end
noncomputable def tCall (sp:Sp) (dvs:List V) (E:XK) (t:TA):TE:=fun σ H Q=>t σ H fun vs H1=>sp (vs ++ dvs) H1 Q E
noncomputable def tMeth (C:A4) (m:Str) (sp:Sp) (dvs:List V) (E:XK) (ta:TE) (t:TA):TE:=fun σ H Q=>ta σ H fun x H1=>∃ a dx fs,x = .ref a/\H1 a=some (.ins C dx fs)/\fs.lookup m=none /\
 t σ H1 fun vs H2=>sp (x :: (vs ++ dvs)) H2 Q E
noncomputable def tMake (C:A4) (sp:Sp) (dvs:List V) (E:XK) (t:TA):TE:=fun σ H Q=>t σ H fun vs H1=>∀ x dx,H1 x=none->H1 dx=none->dx≠x ->
 sp (.ref x :: (vs ++ dvs)) (upd (upd H1 dx (.own x)) x (.ins C dx [])) (fun v H2=>v = .non/\Q (.ref x) H2) E
noncomputable def Binds (K:Av) (fd:Ej) (ps:List Str) (ds:List A0):Prop :=
 ∀ (s:A3) (us:List A0),K.In s.heap->(us ++ ds).length=ps.length->Ks s fd ⟨us,[]⟩ (ps.zip (us ++ ds))
theorem Binds.all {K:Av} {fd:Ej} {ps:List Str} (h:∀ us:List A0,us.length=ps.length->bindArgs fd ⟨us,[]⟩=pure (ps.zip us)):Binds K fd ps []:=fun s us _ hl=>by
 rw [Cd] at hl ⊢
 exact .of_eq (h us hl)
noncomputable def Passes (CX:CXT) (X:Cx) (E:XK):Prop:=∀ (pins:List (A4×Obj)) (σ : St) (H:Hp) (s:A3) (e:A0) (s':A3),Inv X pins σ H s->CX X.stack H s E e s'->X.xe e s'
section
variable {X:Cx} {CX:CXT} {k:Nat} {f C:A4} {fd:Ej} {ps:List Str} {sp:Sp} {dvs:List V} {ds:List A0} {E:XK} {x m:Str} {p pos apos:Pos} {e o:Cb} {es:List Cb} {ta:TE} {t:TA}
theorem zgz {pins:List (A4×Obj)} {σ : St} {H:Hp} {s:A3} {Q:VK} {us:List A0} {vs:List V} (F:FnOk X.prog X.w X.K X.mg X.base CX k f fd ps sp) (hr:Room k X.A) (hb:Binds X.K fd ps ds) (hd:Vals dvs ds) (hx:Passes CX X E)
  (I:Inv X pins σ H s) (r:Vals vs us) (h:sp (vs ++ dvs) H Q E):wpAny (model X.prog X.w) X.A (call (.ref f) us) (EP X pins σ Q) X.xe s:=by
 have r2:Vals (vs ++ dvs) (us ++ ds):=r.append hd
 have hl:(us ++ ds).length=ps.length:=by rw [<- r2.length]; exact F.len _ _ _ _ h
 refine wpAny_call (Kl (F.run X.A X.stack s H ⟨us,[]⟩ (us ++ ds) (vs ++ dvs) Q E hr I.env0 (hb s us I.kIn hl) r2 h) fun r s' hq => ?_)
 cases r with
 | error e=>exact hx pins σ H s e s' I hq
 | ok fl =>
  cases fl with
  | ret u=>exact I.after hq
  | next=>exact E6 hq
  | brk=>exact E6 hq
  | cont=>exact E6 hq
theorem zgI (F:FnOk X.prog X.w X.K X.mg X.base CX k f fd ps sp) (hr:Room k X.A) (hg:Gl X x) (hm:X.mg x=some (.ref f)) (hk:Dj X.K (.ref f)=true) (hb:Binds X.K fd ps ds) (hd:Vals dvs ds) (hx:Passes CX X E)
  (ha:PA X (e :: es) t) (hdb:(x == ("__debug__" : Str))=false:=by decide) (he:starEach (e :: es) X.env=(false,eval e X.env) :: starEach es X.env:=by rfl) (hpl:(backTo pos (starEach es X.env)).any (·.1)=false:=by rfl) :
  PE X (.Call (.Name x p) (e :: es) [] pos) (tCall sp dvs E t):=by
 intro pins s σ H Q I h
 refine Hk (zeh I hg hm ?_ hdb)
 refine M4 (h₀ := X.base) I.ok.mod.kin hk (thnE (ha pos pins s σ H _ I h) fun us s1 vs H1 I1 r q=>⟨I1.kIn,?_⟩) he hpl
 exact zgz F hr hb hd hx I1 r q
theorem pe_meth {pl:Sem Bool} (he:PE X o ta) (c:Cls X.K C) (hm:Meth X.K C m f) (F:FnOk X.prog X.w X.K X.mg X.base CX k f fd ps sp) (hr:Room k X.A) (hb:Binds X.K fd ps ds) (hd:Vals dvs ds) (hx:Passes CX X E) (ha:PA X (e :: es) t)
  (hst:starEach (e :: es) X.env=(false,eval e X.env) :: starEach es X.env:=by rfl) (hpl:(backTo pos (starEach es X.env)).any (·.1)=false:=by rfl)
  (ht:eval (.Call (.Attribute o m apos) (e :: es) [] pos) X.env=(do
   let ov <- eval o X.env
   standAt apos.atName
   let (f,first) <- holding [ov] (getMethod ov m pl)
   callWith pos f first (backTo pos (starEach (e :: es) X.env)) (backToKw pos (keywordEach [] X.env))):=by rfl) :
  PE X (.Call (.Attribute o m apos) (e :: es) [] pos) (tMeth C m sp dvs E ta t):=by
 intro pins s σ H Q I h
 refine Le (pl:=pl) (thnE (he pins s σ H _ I h) fun u s1 x H1 I1 rx ⟨a,dx,fs,ex,ea,l,q⟩ => ?_) ht
 subst ex
 obtain rfl:u=B1 a:=rx
 refine zd0 I1 ea c hm l ?_
 refine M4 (first := [.ref a]) (h₀ := X.base) I.ok.mod.kin hm.kp (thnE (ha pos pins s1 σ H1 _ I1 q) fun us s2 vs H2 I2 r q2=>⟨I2.kIn,?_⟩) hst hpl
 exact zgz (us := .ref a :: us) (vs := .ref a :: vs) F hr hb hd hx I2 (.cons rfl r) q2
theorem pe_meth0 {pl:Sem Bool} (he:PE X o ta) (c:Cls X.K C) (hm:Meth X.K C m f) (F:FnOk X.prog X.w X.K X.mg X.base CX k f fd ps sp) (hr:Room k X.A) (hb:Binds X.K fd ps ds) (hd:Vals dvs ds) (hx:Passes CX X E)
  (ht:eval (.Call (.Attribute o m apos) [] [] pos) X.env=(do
   let ov <- eval o X.env
   standAt apos.atName
   let (f,first) <- holding [ov] (getMethod ov m pl)
   callWith pos f first (backTo pos (starEach [] X.env)) (backToKw pos (keywordEach [] X.env))):=by rfl) :
  PE X (.Call (.Attribute o m apos) [] [] pos) (tMeth C m sp dvs E ta tNil):=by
 intro pins s σ H Q I h
 refine Le (pl:=pl) (thnE (he pins s σ H _ I h) fun u s1 x H1 I1 rx ⟨a,dx,fs,ex,ea,l,q⟩ => ?_) ht
 subst ex
 obtain rfl:u=B1 a:=rx
 refine zd0 I1 ea c hm l ?_
 exact Ls (first := [.ref a]) I1.kIn hm.kp (zgz (us := [.ref a]) (vs := [.ref a]) F hr hb hd hx I1 (.cons rfl .nil) q)
structure Mk (K:Av) (C f:A4):Prop where
 makes:Jw K C=true
 init:Cm K (.ref C) "__init__" = some (some (.ref f))
 fn:Ho K (.ref f)=true
 kp:Dj K (.ref C)=true
theorem run_make {pins:List (A4×Obj)} {σ : St} {H:Hp} {s:A3} {Q:VK} {us:List A0} {vs:List V} (M:Mk X.K C f) (F:FnOk X.prog X.w X.K X.mg X.base CX k f fd ps sp) (hr:Room (k + 1) X.A) (hb:Binds X.K fd ps ds) (hd:Vals dvs ds)
  (hx:Passes CX X E) (I:Inv X pins σ H s) (r:Vals vs us)
  (h:∀ x dx,H x=none->H dx=none->dx≠x->sp (.ref x :: (vs ++ dvs)) (upd (upd H dx (.own x)) x (.ins C dx [])) (fun v H2=>v = .non/\Q (.ref x) H2) E) :
  wpAny (model X.prog X.w) X.A (call (.ref C) us) (EP X pins σ Q) X.xe s:=by
 have hq:=h (s.heap.objs.size + 1) s.heap.objs.size (I.hok.fresh (Mu _)) (I.hok.fresh (Ac _)) (Bm (Em _))
 have I2:=Inv.made (C:=C) I
 have r2:Vals (V.ref (s.heap.objs.size + 1) :: (vs ++ dvs)) (B1 (s.heap.objs.size + 1) :: (us ++ ds)) := .cons rfl (r.append hd)
 have hl:(B1 (s.heap.objs.size + 1) :: us ++ ds).length=ps.length:=by
  have e:=r2.length
  rw [F.len _ _ _ _ hq] at e
  exact e.symm
 refine wpAny_call (make_map (f:=f) I.kIn M.makes M.init (beq_iff_eq.mp M.fn) (Kl (F.run _ X.stack _ _ ⟨B1 (s.heap.objs.size + 1) :: us,[]⟩ (B1 (s.heap.objs.size + 1) :: (us ++ ds)) _ _ E (hr.make C us [])
  (I2.env0.make C us []) (hb _ (B1 (s.heap.objs.size + 1) :: us) I2.kIn hl) r2 hq) fun r s' hq' => ?_))
 cases r with
 | error e=>exact hx pins σ _ _ e s' I2 hq'
 | ok fl =>
  cases fl with
  | ret u =>
   obtain ⟨v,H',I3,rv,ev,q3⟩:=I2.after hq'
   subst ev
   exact ⟨rv,⟨V.ref (s.heap.objs.size + 1),H',I3,rfl,q3⟩⟩
  | next=>exact E6 hq'
  | brk=>exact E6 hq'
  | cont=>exact E6 hq'
theorem pe_make0 (M:Mk X.K C f) (F:FnOk X.prog X.w X.K X.mg X.base CX k f fd ps sp) (hr:Room (k + 1) X.A) (hg:Gl X x) (hm:X.mg x=some (.ref C)) (hb:Binds X.K fd ps ds) (hd:Vals dvs ds) (hx:Passes CX X E)
  (hdb:(x == ("__debug__" : Str))=false:=by decide):PE X (.Call (.Name x p) [] [] pos) (tMake C sp dvs E tNil):=by
 intro pins s σ H Q I h
 refine Hk (zeh I hg hm ?_ hdb)
 exact Ls I.kIn M.kp (run_make (us := []) M F hr hb hd hx I .nil h)
end
section
variable {X:Cx} {CX:CXT} {k:Nat} {f C:A4} {fd:Ej} {ps ks:List Str} {sp:Sp} {E:XK} {x m:Str} {p pos apos kpos:Pos} {e o:Cb} {es:List Cb} {kws:List Qw} {te ta:TE} {t tk:TA} {nm:Option Str}
variable {g:List A0->List A0->List A0} {gV:List V->List V->List V}
end
structure FnScope (N P:List Str) (sc:Fn):Prop where
 kind:sc.kind = .function
 co:sc.isCoroutine=false
 gen:sc.isGenerator=false
 nd:N.Nodup
 pre:N.take P.length=P
 par:∀ x∈P,sc.names.lookup x=some .local\/sc.names.lookup x=some .cell
 nofree:∀ y∈sc.names,y.2 ≠ .free
theorem ze5 {kindOf:Str->Option J3} {x:Str}:∀ {binds:List (Str×A0)} {m:Str->Option A0},(∀ v,(x,v) ∉ binds)->bindL kindOf binds m x=m x
 | [],_,_=>rfl
 | (n,v) :: r,m,h=>by
  unfold bindL
  rw [ze5 fun w hw=>h w (Aa _ hw)]
  split
  ·have:x≠n:=by rintro rfl; exact h v Ah
   simp [this]
  ·rfl
theorem ze7 {kindOf:Str->Option J3} {x:Str}:∀ {binds:List (Str×A0)} {m:Str->Option A0},(∀ v,(x,v) ∉ binds)->bindC kindOf binds m x=m x
 | [],_,_=>rfl
 | (n,v) :: r,m,h=>by
  unfold bindC
  rw [ze7 fun w hw=>h w (Aa _ hw)]
  split
  ·rfl
  ·have:x≠n:=by rintro rfl; exact h v Ah
   simp [this]
theorem ze6 {kindOf:Str->Option J3} {x:Str} {v:A0}:∀ {P:List Str} {vs:List A0} {i:Nat} {m:Str->Option A0},P.Nodup->P[i]?=some x->vs[i]?=some v->kindOf x=some .local ->
  bindL kindOf (P.zip vs) m x=some v
 | [],_,_,_,_,h,_,_=>by simp at h
 | _ :: _,[],_,_,_,_,h,_=>by simp at h
 | p :: P,w :: vs,0,m,nd,h1,h2,hk=>by
  simp at h1 h2; subst h1; subst h2
  show bindL kindOf ((p,w) :: P.zip vs) m p=_
  unfold bindL
  rw [ze5 fun v hv=>(Do.mp nd).1 (Ki hv).1,if_pos hk]
  simp
 | p :: P,w :: vs,i + 1,m,nd,h1,h2,hk=>by
  show bindL kindOf ((p,w) :: P.zip vs) m x=_
  unfold bindL
  exact ze6 (i:=i) (Do.mp nd).2 (by simpa using h1) (by simpa using h2) hk
theorem ze8 {kindOf:Str->Option J3} {x:Str} {v:A0}:∀ {P:List Str} {vs:List A0} {i:Nat} {m:Str->Option A0},P.Nodup->P[i]?=some x->vs[i]?=some v->kindOf x≠some .local ->
  bindC kindOf (P.zip vs) m x=some v
 | [],_,_,_,_,h,_,_=>by simp at h
 | _ :: _,[],_,_,_,_,h,_=>by simp at h
 | p :: P,w :: vs,0,m,nd,h1,h2,hk=>by
  simp at h1 h2; subst h1; subst h2
  show bindC kindOf ((p,w) :: P.zip vs) m p=_
  unfold bindC
  rw [ze7 fun v hv=>(Do.mp nd).1 (Ki hv).1,if_neg hk]
  simp
 | p :: P,w :: vs,i + 1,m,nd,h1,h2,hk=>by
  show bindC kindOf ((p,w) :: P.zip vs) m x=_
  unfold bindC
  exact ze8 (i:=i) (Do.mp nd).2 (by simpa using h1) (by simpa using h2) hk
noncomputable def start (N:List Str) (vs:List V):St:=vs.map some ++ C0 (N.length - vs.length) none
noncomputable def cxOf (CX:CXT) (P:Aq) (w:Bj) (K:Av) (mg:Str->Option A0) (base:Bz) (N:List Str) (qual:Str) (scope:Fn) (f:A4) (cd:A0) (A:Bb) (outer:List Env) (s:A3) (H:Hp) (E:XK):Cx where
 prog:=P
 w:=w
 K:=K
 mg:=mg
 base:=base
 A:=A.deeper (envOfC qual scope s.heap.objs.size f cd)
 N:=N
 s₀ := s
 H₀ := H
 env:=envOfC qual scope s.heap.objs.size f cd
 outer:=outer
 stack:=envOfC qual scope s.heap.objs.size f cd :: outer
 ex := []
 calm:=true
 fn:=fun _=>true
 pn := []
 xe:=fun e s'=>wpAny (model P w) (A.deeper (envOfC qual scope s.heap.objs.size f cd)) (leaving (envOfC qual scope s.heap.objs.size f cd) e) (fun _ s''=>CX outer H s E e s'') (fun e' s''=>CX outer H s E e' s'') s'
theorem zgh {sc:Fn} {n:Nat} {x:Str} (h:sc.names.lookup x=some .cell):∃ c,(cellsFrom n sc.names []).lookup x=some c:=by
 have q:=L0 sc.names n [] (.inl h)
 exact F9.mp q
theorem inv_start {CX:CXT} {P:Aq} {w:Bj} {K:Av} {mg:Str->Option A0} {base:Bz} {N ps:List Str} {qual:Str} {scope:Fn} {f:A4} {cd:A0} {A:Bb} {outer:List Env} {s s1:A3} {H:Hp} {E:XK} {us:List A0} {vs:List V}
  (S:FnScope N ps scope) (hd:A.handled=none) (e0:Env0 P w K mg base A outer s H) (hl:vs.length=ps.length) (r:Vals vs us)
  (x:InCallC s s.heap.objs.size (bindL (envOfC qual scope s.heap.objs.size f cd).kindOf (ps.zip us) fun _=>none) (cellsFrom (s.heap.objs.size + 1) scope.names []) (bindC (envOfC qual scope s.heap.objs.size f cd).kindOf (ps.zip us) fun _=>none) s1) :
  Inv (cxOf CX P w K mg base N qual scope f cd A outer s H E) [] (start N vs) H s1:=by
 have hpl:ps.length<=N.length:=by have:=congrArg Ed S.pre; rw [Cq] at this; omega
 obtain ⟨h1,tk,rfl,hk⟩:=x.done
 have noA:∀ b:A4,b ∉ (cxOf CX P w K mg base N qual scope f cd A outer s H E).ex:=fun b z=>absurd (show b∈([]:List A4) from z) (by simp)
 refine ⟨⟨e0.mod,S.kind,rfl,rfl,Ac _,fun y z c h1 h2 => ?_,fun y hy => ?_,fun y c _ h => ?_,fun _=>hd,Around.frames_deeper e0.frames,.inr ⟨rfl,rfl⟩,fun b z=>absurd z (noA b),e0.bs,e0.bsz,fun b _ _=>noA b,fun b z=>absurd z (noA b),e0.funs,e0.frf⟩,
  rfl,e0.bare,Un.kept hk,⟨_,x.toInCall.ns,fun i y v h1 h2 h3 => ?_⟩,fun y c h=>⟨_,x.cell y c h⟩,e0.hok.fresh (Ac _),fun y c h => ?_,fun p hp=>absurd (show p∈([]:List (A4×Obj)) from hp) (by simp),e0.hok.kept hk,?_⟩
 ·exact name_of_addr x.apart (F8 h1) (F8 h2)
 ·have hy:scope.names.lookup y=some .cell\/scope.names.lookup y=some .free:=hy
  rcases hy with hy | hy
  ·exact zgh hy
  ·exact absurd rfl (S.nofree _ (F8 hy))
 ·exact Er (x.above y c (F8 h))
 ·have hi:i < vs.length:=by
   unfold start at h2
   by_cases hi:i < vs.length
   ·exact hi
   ·rw [Dm (by simpa using hi)] at h2
    rw [List.getElem?_replicate] at h2
    split at h2 <;> cases h2
  have ha:vs[i]?=some v:=by
   unfold start at h2
   rw [Dq (by simpa using hi),Af] at h2
   cases e:vs[i]? with
   | none=>rw [e] at h2; cases h2
   | some a=>rw [e] at h2; cases h2; rfl
  obtain ⟨u,hu,rv⟩:=r.get ha
  have hp:ps[i]?=some y:=by
   rw [<- S.pre,Lh (by omega)]; exact h1
  have ndP:ps.Nodup:=by rw [<- S.pre]; exact S.nd.sublist (Fp _ _)
  refine ⟨u,rv,?_⟩
  rcases S.par y (Be hp) with k | k
  ·exact .inl ⟨k,ze6 ndP hp hu k⟩
  ·obtain ⟨c,e⟩:=zgh (n:=s.heap.objs.size + 1) k
   refine .inr ⟨.inl k,c,e,?_⟩
   have q:=x.cell y c e
   rw [ze8 ndP hp hu (by show scope.names.lookup y≠_; rw [k]; decide)] at q
   exact q
 ·exact e0.hok.fresh (Er (x.above y c (F8 h)))
 ·unfold start
  show _=N.length
  rw [Ag,A2,List.length_replicate]
  omega
theorem zhU {CX:CXT} {P:Aq} {w:Bj} {K:Av} {mg:Str->Option A0} {base:Bz} {k:Nat} {f:A4} {name qual:Str} {params:Arguments} {body:List Cj} {scope:Fn} {dV kV doc pm cdv ct oc:A0} {an od:Option A4}
  {osl:Array (Option A0)} {N ps:List Str} {sp:Sp} (lk:K.lookup f=some ⟨oc,od,.func (D4 name qual params body scope dV kV doc pm an cdv ct),osl⟩) (hcd:Fh K cdv qual=true) (S:FnScope N ps scope)
  (len:∀ vs H Q E,sp vs H Q E->vs.length=ps.length)
  (hbody:∀ (A:Bb) (outer:List Env) (s:A3) (H:Hp) (vs:List V) (Q:VK) (E:XK),Room k (A.deeper (envOfC qual scope s.heap.objs.size f cdv))->sp vs H Q E ->
   ∃ t,PSs (cxOf CX P w K mg base N qual scope f cdv A outer s H E) body t/\t { nx:=fun _ H'=>Q .non H',rt:=Q } (start N vs) H) :
  FnOk P w K mg base CX (k + 1) f (D4 name qual params body scope dV kV doc pm an cdv ct) ps sp:=by
 refine ⟨len,fun A outer s H args us vs Q E hr e0 hb r hsp => ?_⟩
 have hl:=len _ _ _ _ hsp
 have KX:K.In s.heap:=e0.mod.kin.keeps fun b o e=>(e0.bs b o e).1
 have lim:s.heap.NoLimit:=e0.mod.nolimit.keeps fun b o e=>(e0.bs b o e).1
 have hkind:∀ y∈ps.zip us,scope.names.lookup y.1=some .local\/(scope.names.lookup y.1=some .cell/\((cellsFrom (s.heap.objs.size + 1) scope.names []).lookup y.1).isSome=true):=fun ⟨n,v⟩ hy=>by
  rcases S.par n (Ki hy).1 with q | q
  ·exact .inl q
  ·exact .inr ⟨q,L0 _ _ _ (.inl q)⟩
 refine codeAny_call_function hr.depth (KX _ _ lk) rfl S.co S.gen rfl (PySem.W.codeRec_of KX hcd) (hb _ _ _ _ ?_)
 refine wpAny_newFunctionEnv_cells S.kind hkind fun env he s1 x => ?_
 subst he
 refine ⟨lim.keeps x.toInCall.keep,codeAny_func ?_⟩
 obtain ⟨t,ht,hq⟩:=hbody A outer s H vs Q E (hr.deeper _) hsp
 have I:Inv (cxOf CX P w K mg base N qual scope f cdv A outer s H E) [] (start N vs) H s1:=inv_start S hr.hd e0 hl r x
 refine Di (ht [] s1 (start N vs) H _ I hq) (fun fl s' hs => ?_) fun e s' hs=>hs
 have fin:∀ {σ':St} {H':Hp} {v:V} {u:A0},Inv (cxOf CX P w K mg base N qual scope f cdv A outer s H E) [] σ' H' s'->RelV v u->Q v H'->CE outer P w H s Q u s' :=
  fun {σ' H' v u} J rv q=>⟨v,H',J.os,J.bare,J.base,J.hok,rv,q⟩
 cases fl with
 | ret u =>
  obtain ⟨v,σ',H',J,rv,q⟩:=hs
  exact fin J rv q
 | next =>
  obtain ⟨σ',H',J,q⟩:=hs
  exact fin (v:=V.non) (u:=Ee) J rfl q
 | brk =>
  obtain ⟨_,_,_,q⟩:=hs
  exact E6 q
 | cont =>
  obtain ⟨_,_,_,q⟩:=hs
  exact E6 q
section
variable {X:Cx} {x:Str} {p pos:Pos} {e:Cb} {es:List Cb} {t:TA} {id T:String} {r:List V->Hp->VK->Prop}
noncomputable def tCB (r:List V->Hp->VK->Prop) (t:TA):TE:=fun σ H Q=>t σ H fun vs H1=>r vs H1 Q
theorem zal (hc:CallR X (.builtin id) r) (hg:Gl X x) (hm:X.mg x=none) (hv:bootBuiltins x=some (.builtin id)) (ha:PA X (e :: es) t) (hn:x ≠ "__name__" := by decide) (hdb:(x == ("__debug__" : Str))=false:=by decide)
  (he:starEach (e :: es) X.env=(false,eval e X.env) :: starEach es X.env:=by rfl) (hpl:(backTo pos (starEach es X.env)).any (·.1)=false:=by rfl):PE X (.Call (.Name x p) (e :: es) [] pos) (tCB r t):=by
 intro pins s σ H Q I h
 refine Hk (zeO I hg hm hv ?_ hn hdb)
 exact Px (thnE (ha pos pins s σ H _ I h) fun us s1 vs H1 I1 r1 q1=>hc pins s1 σ H1 vs us Q I1 r1 q1) he hpl
theorem zbn (hc:CallR X (.type T) r) (hg:Gl X x) (hm:X.mg x=none) (hv:bootBuiltins x=some (.type T)) (ha:PA X (e :: es) t) (hn:x ≠ "__name__" := by decide) (hdb:(x == ("__debug__" : Str))=false:=by decide)
  (he:starEach (e :: es) X.env=(false,eval e X.env) :: starEach es X.env:=by rfl) (hpl:(backTo pos (starEach es X.env)).any (·.1)=false:=by rfl):PE X (.Call (.Name x p) (e :: es) [] pos) (tCB r t):=by
 intro pins s σ H Q I h
 refine Hk (zeO I hg hm hv ?_ hn hdb)
 exact G0 (thnE (ha pos pins s σ H _ I h) fun us s1 vs H1 I1 r1 q1=>hc pins s1 σ H1 vs us Q I1 r1 q1) he hpl
end
end L2
namespace HT
open PySem PyProof.Rows
noncomputable def lexLt:List Int->List Int->Bool
 | [],[]=>false
 | [],_ :: _=>true
 | _ :: _,[]=>false
 | x :: xs,y :: ys=>if x=y then lexLt xs ys else decide (x < y)
theorem lexLt_cons (x y:Int) (xs ys:List Int):lexLt (x :: xs) (y :: ys)=if x=y then lexLt xs ys else decide (x < y):=rfl
theorem lexLt_nil_nil:lexLt [] []=false:=rfl
theorem lexLt_nil_cons (y:Int) (ys:List Int):lexLt [] (y :: ys)=true:=rfl
theorem lexLt_cons_nil (x:Int) (xs:List Int):lexLt (x :: xs) []=false:=rfl
theorem eqAt_int (A:Bb) (s:A3) (a:Int) (t:Tok) (c:Int) (u:Tok):∃ e,Mn A s (.int a t) (.int c u) e/\(e=true ↔ a=c) :=
 ⟨(a == c),Ld a t c u,by simp⟩
theorem rcLt_int (A:Bb) (s:A3) (a:Int) (t:Tok) (c:Int) (u:Tok) (prog:Aq) (w:Bj) (E:A0->A3->Prop) (Q:A0->A3->Prop) (h:Q (.bool (decide (a < c))) s) :
  wpAny (model prog w) A (richCompare .Lt (.int a t) (.int c u)) Q E s :=
 (Kn h:wpAny (model prog w) A (compareOp .Lt (.int a t) (.int c u)) Q E s)
section
open PySem.SeqAt
open PySem.AutoSeq1 (wpAny_loadPart')
open PySem.MeetsSeq PySem.MeetsSeq2 PySem.MeetsSeq3
theorem tuple_lt_ints (l b:A4) (items items2:Array A0) (n n2:Nat) (dd dd2:Option A4) (sl sl2:Array (Option A0)) (ns ms:List Int) (hi:Du items.toList ns) (hj:Du items2.toList ms) :
  Qa (Ff.«tuple.__lt__» ⟨[.ref l,.ref b],[]⟩)
   (fun _ R s=>s.heap.get? l=some { cls := .type "tuple",dict:=dd,data := .seq items n,slots:=sl }/\s.heap.get? b=some { cls := .type "tuple",dict:=dd2,data := .seq items2 n2,slots:=sl2 } /\
    R (.ok (.ret (.bool (lexLt ns ms)))) s) :=
 .of_wp fun prog w A R s h=>by
  obtain ⟨hp,g,d,tk,os⟩:=s; obtain ⟨hl,hb,h⟩:=h
  have f2:=AutoSeq1.sub_tuple_tuple
  have z1:items.size=ns.length:=by rw [<- hi.length]; simp
  have z2:items2.size=ms.length:=by rw [<- hj.length]; simp
  wp_walk using Bt hl,Bt hb,Gi _ (fun rest b s'=>b.1=none/\s'=⟨hp,g,d,tk,os⟩/\∃ (vs ws:List A0) (ns' ms':List Int),rest=vs.zip ws /\
   Du vs ns'/\Du ws ms'/\ns'.length + items2.size=ms'.length + items.size/\R (.ok (.ret (.bool (lexLt ns' ms')))) ⟨hp,g,d,tk,os⟩) _
  case turn =>
   rintro ⟨y,x⟩ rest b s' ⟨hb',rfl,vs,ws,ns',ms',hz,hvi,hwi,hlen,hR⟩
   cases hvi with
   | nil=>rw [List.zip_nil_left] at hz; cases hz
   | cons a t hvi' =>
    cases hwi with
    | nil=>rw [List.zip_nil_right] at hz; cases hz
    | cons c u hwi' =>
     rw [Gv] at hz
     injection hz with hyx hrest
     injection hyx with hy hx
     subst hy hx
     rw [lexLt_cons] at hR
     simp only [At] at hlen
     obtain ⟨e,he,hiff⟩:=eqAt_int A.in1 ⟨hp,g,d,tk,os⟩ a t c u
     refine A1 (he prog w _ _ ?_)
     cases e with
     | true =>
      rw [if_pos (hiff.mp rfl)] at hR
      wp_walk
      exact ⟨rfl,rfl,_,_,_,_,hrest,hvi',hwi',by omega,hR⟩
     | false =>
      rw [if_neg (fun q=>absurd (hiff.mpr q) A9)] at hR
      have hri:=rcLt_int A.in1 ⟨hp,g,d,tk,os⟩ a t c u prog w
      wp_walk using hri
      exact ⟨_,rfl,by simpa using hR⟩
  case fin =>
   rintro ⟨b1,b2⟩ s' ⟨hb',rfl,vs,ws,ns',ms',hz,hvi,hwi,hlen,hR⟩
   simp only at hb'
   subst hb'
   have hv:lexLt ns' ms'=decide (items.size < items2.size):=by
    cases hvi with
    | nil =>
     cases hwi with
     | nil =>
      simp only [Ip] at hlen
      rw [lexLt_nil_nil]
      exact (decide_eq_false (by omega)).symm
     | cons c u hw =>
      simp only [Ip,At] at hlen
      rw [lexLt_nil_cons]
      exact (decide_eq_true (by omega)).symm
    | cons a t hv =>
     cases hwi with
     | nil =>
      simp only [Ip,At] at hlen
      rw [lexLt_cons_nil]
      exact (decide_eq_false (by omega)).symm
     | cons c u hw =>
      rw [Gv] at hz
      cases hz
   rw [hv] at hR
   wp_walk
   exact ⟨_,rfl,by simpa [Pa] using hR⟩
  case h =>
   exact ⟨rfl,rfl,items.toList,items2.toList,ns,ms,rfl,hi,hj,by omega,h⟩
end
section
variable {prog:Aq} {w:Bj} {A:Bb} {E:A0->A3->Prop} {s:A3}
theorem lt_tupInts {l b:A4} {items items2:Array A0} {ns ms:List Int} {Q:A0->A3->Prop} (hl:Jd s.heap l items) (hb:Jd s.heap b items2) (hi:Du items.toList ns) (hj:Du items2.toList ms)
  (hu:A.units < cLine) (h:Q (.bool (lexLt ns ms)) s):wpAny (model prog w) A (compareOp .Lt (.ref l) (.ref b)) Q E s:=by
 obtain ⟨⟨cls,dd,data,sl⟩,ho,hc,n,hd⟩:=id hl
 obtain ⟨⟨cls2,dd2,data2,sl2⟩,ho2,hc2,n2,hd2⟩:=id hb
 simp only at hc hd hc2 hd2
 subst hc hd hc2 hd2
 exact Ga (op := .Lt) ⟨_,ho,rfl⟩ ⟨_,ho2,rfl⟩ Hr L4 (Ku _ _) (tuple_lt_ints l b items items2 n n2 dd dd2 sl sl2 ns ms hi hj)
  ⟨ho,ho2,show F0 (lexLt ns ms)≠Ez/\Q (.bool (lexLt ns ms)) s from ⟨(fun x=>nomatch x),h⟩⟩ hu
end
end HT
namespace L2
open PySem PySem.Spec PyProof.Rows
noncomputable abbrev TO:=St->Hp->(Option Int->Hp->Prop)->Prop
section
variable {X:Cx} {e:Cb} {te:TE} {lo hi:Option Cb} {tl th:TO} {pos p2:Pos}
end
noncomputable def ixN (n:Nat) (i:Int):Option Nat:=if 0<=i then (if i < n then some i.toNat else none) else if -(n:Int)<=i then some (i + n).toNat else none
noncomputable def atI {α : Type} (xs:List α) (i:Int):Option α := (ixN xs.length i).bind fun j=>xs[j]?
theorem zgT {n:Nat} {i:Int} {j:Nat} (h:ixN n i=some j):seqIndex? i n=some j/\j < n /\ -(n:Int)<=i/\i < n:=by
 unfold ixN at h
 by_cases h0:0<=i
 ·rw [if_pos h0] at h
  by_cases h1:i < n
  ·rw [if_pos h1] at h
   have e:i.toNat=j:=Bh h
   exact ⟨by rw [Ny h0 h1,e],by omega,by omega,h1⟩
  ·rw [if_neg h1] at h; cases h
 ·rw [if_neg h0] at h
  by_cases h1 : -(n:Int)<=i
  ·rw [if_pos h1] at h
   have e:(i + n).toNat=j:=Bh h
   exact ⟨by rw [N6 (by omega) h1,e],by omega,h1,by omega⟩
  ·rw [if_neg h1] at h; cases h
theorem zfy {α : Type} {xs:List α} {i:Int} {v : α} (h:atI xs i=some v):∃ j,seqIndex? i xs.length=some j/\xs[j]?=some v/\j < xs.length /\ -(xs.length:Int)<=i/\i < xs.length:=by
 unfold atI at h
 cases e:ixN xs.length i with
 | none=>rw [e] at h; cases h
 | some j =>
  rw [e] at h
  obtain ⟨h1,h2,h3,h4⟩:=zgT e
  exact ⟨j,h1,h,h2,h3,h4⟩
theorem zaA {α : Type} {xs:List α} {j:Nat} {v : α} (h:xs[j]?=some v):atI xs (j:Int)=some v:=by
 have hj:j < xs.length:=(Ar.mp h).1
 have e:ixN xs.length (j:Int)=some j:=by
  unfold ixN
  rw [if_pos (by omega),if_pos (by omega)]; simp
 unfold atI; rw [e]; exact h
noncomputable def PlainIx (b:Cb):Prop:=∀ o i,subscripted b false o i=operate [o,i] (getItem o i)
noncomputable def IxR (X:Cx) (r:R2):Prop :=
 ∀ (value slice:Cb) (pins:List (A4×Obj)) (s:A3) (σ : St) (H:Hp) (x y:V) (v u:A0) (Q:VK),Inv X pins σ H s->RelV x v->RelV y u->r x y H Q ->
  subscripted slice false v u=operate [v,u] (getItem v u)->wpAny (model X.prog X.w) X.A (subscriptTail value slice v u) (EP X pins σ Q) X.xe s
noncomputable def MtR (X:Cx) (id:String) (r:V->List V->Hp->VK->Prop):Prop :=
 ∀ (pins:List (A4×Obj)) (s:A3) (σ : St) (H:Hp) (x:V) (xs:List V) (v:A0) (us:List A0) (Q:VK),Inv X pins σ H s->RelV x v->Vals xs us->r x xs H Q ->
  wpAny (model X.prog X.w) X.A (call (.builtin id) (v :: us)) (EP X pins σ Q) X.xe s
section
variable {X:Cx} {a b:Cb} {ta tb:TE} {pos:Pos}
theorem zaM {r:R2} (hr:IxR X r) (ha:PE X a ta) (hb:PE X b tb) (hs:PlainIx b):PE X (.Subscript a b pos) (tOp r ta tb):=by
 intro pins s σ H Q I h
 exact Subscript_ (binT ha hb I h fun v u s2 x y H2 I2 rx ry q=>hr a b pins s2 σ H2 x y v u Q I2 rx ry q (hs _ _))
noncomputable def rIxL (K:Av):R2:=fun x y H Q=>∃ p xs i v,x = .ref p/\y = .int i/\SqL K H p xs/\atI xs i=some v/\Q v H
noncomputable def rIxT (K:Av):R2:=fun x y H Q=>∃ p xs i v,x = .ref p/\y = .int i/\SqT K H p xs/\atI xs i=some v/\Q v H
noncomputable def rIxS:R2:=fun x y H Q=>∃ z i c,x = .str z/\y = .int i/\z.length<=sizeLine/\atI z.cps.toList i=some c/\Q (.str ⟨#[c]⟩) H
theorem zay:IxR X (rIxL X.K):=by
 intro value slice pins s σ H x y v u Q I rx ry h hs
 obtain ⟨p,xs,i,z,rfl,rfl,hq,he,q⟩:=h
 cases rx
 obtain ⟨t,rfl⟩:=ry
 obtain ⟨its,r,pl,hz⟩:=I.list hq
 obtain ⟨j,h1,h2,h3,h4,h5⟩:=zfy he
 obtain ⟨w,ew,rw'⟩:=r.get h2
 have hl:=r.length
 have hn:=zdW
 have fin:EP X pins σ Q w s:=⟨z,H,I,rw',q⟩
 by_cases h0:0<=i
 ·have hj:i.toNat=j:=by
   rw [Ny h0 h5] at h1
   exact Bh h1
  exact item_listR pl.isList h0 (by omega) (by rw [hj]; simpa using ew) fin hs
 ·have hj:(i + (its.toArray.size:Int)).toNat=j:=by
   rw [N6 (by omega) h4] at h1
   rw [B8,<- hl]
   exact Bh h1
  exact N5 (x:=w) pl.isList.typeIs slot_list_getitem.lookup
   (wpAny_getItem_list_neg (Q:=fun r s'=>r=w/\EP X pins σ Q r s') pl.isList (by omega) (by rw [B8] <;> omega) (by omega) (by rw [hj]; simpa using ew) ⟨rfl,fin⟩) hs
theorem zbY:IxR X (rIxT X.K):=by
 intro value slice pins s σ H x y v u Q I rx ry h hs
 obtain ⟨p,xs,i,z,rfl,rfl,hq,he,q⟩:=h
 cases rx
 obtain ⟨t,rfl⟩:=ry
 obtain ⟨its,r,pl,hz⟩:=I.tuple hq
 obtain ⟨j,h1,h2,h3,h4,h5⟩:=zfy he
 obtain ⟨w,ew,rw'⟩:=r.get h2
 have hl:=r.length
 have hn:=zdW
 have fin:EP X pins σ Q w s:=⟨z,H,I,rw',q⟩
 exact N5 (x:=w) pl.typeIs slot_tuple_getitem.lookup
  (getItem_tuple (j:=j) (Q:=fun r s'=>r=w/\EP X pins σ Q r s') pl (by omega) (by omega) (by rw [B8,<- hl]; exact h1) (by simpa using ew) ⟨rfl,fin⟩) hs
theorem ix_str:IxR X rIxS:=by
 intro value slice pins s σ H x y v u Q I rx ry h hs
 obtain ⟨z,i,c,rfl,rfl,hz,he,q⟩:=h
 obtain ⟨t,rfl⟩:=rx
 obtain ⟨t',rfl⟩:=ry
 obtain ⟨j,h1,h2,h3,h4,h5⟩:=zfy he
 have hl:z.cps.toList.length=z.length:=by simp [Q8]
 rw [hl] at h1 h4 h5
 have hn:=zdW
 exact tail_any (typeIs_str s z t) slot_str_getitem.lookup (getItem_str (c:=c) (by
  have e1:decide (i < -(2 ^ 63:Int))=false:=decide_eq_false (by omega)
  have e2:decide (i>=2 ^ 63)=false:=decide_eq_false (by omega)
  rw [e1,e2,Ji]) (by rw [h1]; simpa using h2) ⟨.str ⟨#[c]⟩,H,I.tok _,⟨_,rfl⟩,q⟩) hs
theorem mapSeq_set (its:List A0) (n j:Nat) (u:A0):Eg (·.setIfInBounds j u) { cls := .type "list",data := .seq its.toArray n }={ cls := .type "list",data := .seq (its.set j u).toArray n }:=by
 simp [Eg]
theorem Inv.lst {pins:List (A4×Obj)} {σ : St} {H:Hp} {s:A3} {p:A4} {xs:List V} (I:Inv X pins σ H s) (h:H p=some (.lst xs)) :
  ∃ (its:List A0) (n:Nat),Vals xs its/\s.heap.get? p=some { cls := .type "list",data := .seq its.toArray n }/\xs.length<=sizeLine:=by
 obtain ⟨z,its,n,r,e⟩:=I.hok p _ h
 exact ⟨its,n,r,e,z⟩
theorem Inv.lstUpd {pins:List (A4×Obj)} {σ : St} {H:Hp} {s:A3} {p:A4} {xs ys:List V} {its its':List A0} {n n':Nat} {f:Obj->Obj} (I:Inv X pins σ H s) (h:H p=some (.lst xs))
  (ho:s.heap.get? p=some { cls := .type "list",data := .seq its.toArray n }) (hf:f { cls := .type "list",data := .seq its.toArray n }={ cls := .type "list",data := .seq its'.toArray n' }) (r:Vals ys its') (hz:ys.length<=sizeLine) (t:Nat) :
  Inv X pins σ (upd H p (.lst ys)) { s with heap:=s.heap.update p f,toks:=t }:=by
 have e:(s.heap.update p f).get? p=some { cls := .type "list",data := .seq its'.toArray n' }:=by
  rw [Is f ho (by rw [hf] <;> rfl),hf]
 refine I.write (x:=p) (e:=p) (by rw [h]; trivial) (.inl rfl) (fun b u hb q=>(Ic _ _ (Dz hb)).trans q) ⟨_,e⟩ ?_
 exact ⟨hz,its',n',r,e⟩
noncomputable def rSetL:V->V->V->Hp->(Hp->Prop)->Prop:=fun o i v H Q=>∃ p xs k j,o = .ref p/\i = .int k/\H p=some (.lst xs)/\ixN xs.length k=some j/\Q (upd H p (.lst (xs.set j v)))
theorem zfL:PSet X rSetL:=by
 intro pins s σ H o i v ov iv u Q I ro ri rv h
 obtain ⟨p,xs,k,j,rfl,rfl,hp,hj,q⟩:=h
 cases ro
 obtain ⟨t,rfl⟩:=ri
 obtain ⟨its,n,r,ho,hz⟩:=I.lst hp
 obtain ⟨h1,h2,h3,h4⟩:=zgT hj
 have hl:=r.length
 have hn:=zdW
 have I':Inv X pins σ (upd H p (.lst (xs.set j v))) { s with heap:=s.heap.update p (Eg (·.setIfInBounds j u)) } :=
  I.lstUpd hp ho (mapSeq_set its n j u) (r.set rv j) (by rw [O2]; exact hz) s.toks
 by_cases h0:0<=k
 ·have hk:k.toNat=j:=by
   rw [Ny h0 h4] at h1
   exact Bh h1
  exact PySem.W.ki_setAt ho h0 (by omega) (by rw [B8,<- hl]; exact h4) (by rw [hk]; exact ⟨_,I',q⟩)
 ·have hk:(k + (its.toArray.size:Int)).toNat=j:=by
   rw [N6 (by omega) h3] at h1
   rw [B8,<- hl]
   exact Bh h1
  exact PySem.W.ki_setBack ho (by omega) (by rw [B8,<- hl]; exact h3) (by omega) (by rw [hk]; exact ⟨_,I',q⟩)
noncomputable def flatV:V->Bool
 | .non=>true
 | .bl _=>true
 | .int _=>true
 | .str _=>true
 | _=>false
noncomputable def eqV:V->V->Bool
 | .non,.non=>true
 | .bl a,.bl b=>a == b
 | .bl a,.int b=>(if a then 1 else 0) == b
 | .int a,.bl b=>a == (if b then 1 else 0)
 | .int a,.int b=>a == b
 | .str a,.str b=>a == b
 | _,_=>false
theorem eqAt_V {A:Bb} {s:A3} {y x:V} {u v:A0} (ry:RelV y u) (rx:RelV x v) (fy:flatV y=true) (fx:flatV x=true):Mn A s u v (eqV y x):=by
 cases y with
 | non =>
  cases ry
  cases x with
  | non=>cases rx; exact Qi _
  | bl b=>cases rx; exact Ql b
  | int b=>obtain ⟨t,rfl⟩:=rx; exact Qk b t
  | str b=>obtain ⟨t,rfl⟩:=rx; exact Qj b t
  | _=>exact absurd (show false=true from fx) A9
 | bl a =>
  cases ry
  cases x with
  | non=>cases rx; exact Qp a
  | bl b=>cases rx; exact Qr a b
  | int b=>obtain ⟨t,rfl⟩:=rx; exact Qq a b t
  | str b=>obtain ⟨t,rfl⟩:=rx; exact Qo a b t
  | _=>exact absurd (show false=true from fx) A9
 | int a =>
  obtain ⟨t',rfl⟩:=ry
  cases x with
  | non=>cases rx; exact Qm a t'
  | bl b=>cases rx; exact Qn a t' b
  | int b=>obtain ⟨t,rfl⟩:=rx; exact Ld a t' b t
  | str b=>obtain ⟨t,rfl⟩:=rx; exact Lc a t' b t
  | _=>exact absurd (show false=true from fx) A9
 | str a =>
  obtain ⟨t',rfl⟩:=ry
  cases x with
  | non=>cases rx; exact Qg a t'
  | bl b=>cases rx; exact Qh a t' b
  | int b=>obtain ⟨t,rfl⟩:=rx; exact Lb a t' b t
  | str b=>obtain ⟨t,rfl⟩:=rx; exact Qf a t' b t
  | _=>exact absurd (show false=true from fx) A9
 | _=>exact absurd (show false=true from fy) A9
noncomputable def eqU (x:V) (u:A0):Bool:=match u with
 | .none=>eqV .non x
 | .bool b=>eqV (.bl b) x
 | .int i _=>eqV (.int i) x
 | .str z _=>eqV (.str z) x
 | _=>false
theorem zhE {x y:V} {u:A0} (r:RelV y u) (f:flatV y=true):eqU x u=eqV y x:=by
 cases y with
 | non=>cases r; rfl
 | bl b=>cases r; rfl
 | int i=>obtain ⟨t,rfl⟩:=r; rfl
 | str z=>obtain ⟨t,rfl⟩:=r; rfl
 | _=>exact absurd (show false=true from f) A9
theorem zdC {x:V}:∀ {xs:List V} {us:List A0},Vals xs us->xs.all flatV=true->us.any (eqU x)=xs.any fun y=>eqV y x
 | _,_,.nil,_=>rfl
 | y :: xs,u :: us,.cons r t,f=>by
  rw [On,Cg] at f
  rw [Fa,Fa,zhE r f.1,zdC t f.2]
theorem zcA {A:Bb} {s:A3} {x:V} {v:A0} (rx:RelV x v) (fx:flatV x=true):∀ {xs:List V} {us:List A0},Vals xs us->xs.all flatV=true->∀ u∈us,Mn A s u v (eqU x u)
 | _,_,.nil,_=>fun u hu=>by cases hu
 | y :: xs,u :: us,.cons r t,f=>fun u' hu=>by
  rw [On,Cg] at f
  rcases B9.mp hu with rfl | hu
  ·rw [zhE r f.1]; exact eqAt_V r rx f.1 fx
  ·exact zcA rx fx t f.2 u' hu
noncomputable def inV (x:V) (xs:List V):Bool:=xs.any fun y=>eqV y x
noncomputable def rIn (K:Av) (neg:Bool):R2:=fun x y H Q=>∃ p xs,y = .ref p/\(SqL K H p xs\/SqT K H p xs)/\flatV x=true/\xs.all flatV=true/\Q (.bl (if neg then !inV x xs else inV x xs)) H
theorem zcy:OpR X (compareOp .In) (rIn X.K false):=by
 intro pins s σ H x y v u Q I rx ry h
 obtain ⟨p,xs,rfl,hq,fx,fs,q⟩:=h
 cases ry
 rcases hq with hq | hq
 ·obtain ⟨its,r,pl,hz⟩:=I.list hq
  refine SeqAt.in_listAt (eqU x) pl.isList (fun w hw=>zcA rx fx r fs w (by simpa using hw)) ⟨.bl _,H,I,rfl,?_⟩
  rw [show its.toArray.any (eqU x)=its.any (eqU x) by simp,zdC r fs]
  exact q
 ·obtain ⟨its,r,pl,hz⟩:=I.tuple hq
  refine SeqAt.in_tupleAt (eqU x) pl (fun w hw=>zcA rx fx r fs w (by simpa using hw)) ⟨.bl _,H,I,rfl,?_⟩
  rw [show its.toArray.any (eqU x)=its.any (eqU x) by simp,zdC r fs]
  exact q
theorem zbX:OpR X (compareOp .NotIn) (rIn X.K true):=by
 intro pins s σ H x y v u Q I rx ry h
 obtain ⟨p,xs,rfl,hq,fx,fs,q⟩:=h
 cases ry
 rcases hq with hq | hq
 ·obtain ⟨its,r,pl,hz⟩:=I.list hq
  refine SeqAt.notIn_listAt (eqU x) pl.isList (fun w hw=>zcA rx fx r fs w (by simpa using hw)) ⟨.bl _,H,I,rfl,?_⟩
  rw [show its.toArray.any (eqU x)=its.any (eqU x) by simp,zdC r fs]
  exact q
 ·obtain ⟨its,r,pl,hz⟩:=I.tuple hq
  refine SeqAt.notIn_tupleAt (eqU x) pl (fun w hw=>zcA rx fx r fs w (by simpa using hw)) ⟨.bl _,H,I,rfl,?_⟩
  rw [show its.toArray.any (eqU x)=its.any (eqU x) by simp,zdC r fs]
  exact q
theorem zat:CallR X (.builtin "len") (fun xs H Q=>∃ p ys,xs = [.ref p]/\(SqL X.K H p ys\/SqT X.K H p ys)/\Q (.int ys.length) H):=by
 intro pins s σ H xs us Q I r h
 obtain ⟨p,ys,rfl,hq,q⟩:=h
 obtain ⟨u,rfl,rx⟩:=zbR r
 cases rx
 have hn:=zdW
 rcases hq with hq | hq
 ·obtain ⟨its,r',pl,hz⟩:=I.list hq
  have hlen:=r'.length
  exact Calls.call_len_list pl.isList (by simp only [B8] <;> omega) ⟨.int ys.length,H,I.tok _,⟨s.toks + 1,by rw [B8,hlen]⟩,q⟩
 ·obtain ⟨its,r',pl,hz⟩:=I.tuple hq
  have hlen:=r'.length
  exact len_tuple pl (by simp only [B8] <;> omega) ⟨.int ys.length,H,I.tok _,⟨s.toks + 1,by rw [B8,hlen]⟩,q⟩
theorem call_len_str:CallR X (.builtin "len") (fun xs H Q=>∃ z,xs = [.str z]/\z.length<=sizeLine/\Q (.int z.length) H):=by
 intro pins s σ H xs us Q I r h
 obtain ⟨z,rfl,hz,q⟩:=h
 obtain ⟨u,rfl,t,rfl⟩:=zbR r
 have hn:=zdW
 exact len_str (by omega) ⟨.int z.length,H,I.tok _,⟨_,rfl⟩,q⟩
theorem zb1:CallR X (.type "list") (fun xs H Q=>∃ p ys,xs = [.ref p]/\(SqL X.K H p ys\/SqT X.K H p ys)/\∀ l,H l=none->Q (.ref l) (upd H l (.lst ys))):=by
 intro pins s σ H xs us Q I r h
 obtain ⟨p,ys,rfl,hq,q⟩:=h
 obtain ⟨u,rfl,rx⟩:=zbR r
 cases rx
 have fin:∀ (its:List A0),Vals ys its->ys.length<=sizeLine->∀ (h':Bz) (c':Nat),(∀ b o',s.heap.get? b=some o'->h'.get? b=some o') ->
   h'.get? s.heap.objs.size=some { cls := .type "list",dict:=none,data := .seq its.toArray c',slots := #[] }->EP X pins σ Q (.ref s.heap.objs.size) { s with heap:=h' }:=fun its r' hz h' c' kp e =>
  ⟨.ref s.heap.objs.size,_,I.laid (t':=s.toks) kp (Ac _) (show ObjOk X.prog X.w _ h' _ (.lst ys) from ⟨hz,its,c',r',e⟩),rfl,q _ (I.hok.fresh (Ac _))⟩
 rcases hq with hq | hq
 ·obtain ⟨its,r',pl,hz⟩:=I.list hq
  have hlen:=r'.length
  obtain ⟨o,ho,hc,n,hd⟩:=pl.isList
  exact Qd p (.inl rfl) ho hc hd (fun h' c' kp e=>fin its r' hz h' c' kp e) (by simp only [B8] <;> omega)
 ·obtain ⟨its,r',pl,hz⟩:=I.tuple hq
  have hlen:=r'.length
  obtain ⟨o,ho,hc,n,hd⟩:=pl
  exact Qd p (.inr rfl) ho hc hd (fun h' c' kp e=>fin its r' hz h' c' kp e) (by simp only [B8] <;> omega)
theorem zcD:CallR X (.type "tuple") (fun xs H Q=>∃ p ys,xs = [.ref p]/\((SqL X.K H p ys/\∀ l,H l=none->Q (.ref l) (upd H l (.tup ys)))\/(SqT X.K H p ys/\Q (.ref p) H))):=by
 intro pins s σ H xs us Q I r h
 obtain ⟨p,ys,rfl,h⟩:=h
 obtain ⟨u,rfl,rx⟩:=zbR r
 cases rx
 rcases h with ⟨hq,q⟩ | ⟨hq,q⟩
 ·obtain ⟨its,r',pl,hz⟩:=I.list hq
  have hlen:=r'.length
  refine call_tuple_list pl.isList (fun h' kp => ?_) (by simp only [B8] <;> omega)
  have I1:Inv X pins σ H { s with heap:=h' }:=I.kept (t':=s.toks) kp
  have I2:Inv X pins σ (upd H h'.objs.size (.tup ys)) { s with heap:=h'.push { cls := .type "tuple",data := .seq its.toArray } } :=
   I1.laid (t':=s.toks) (fun b o e=>Ad _ e) (Ac _) (show ObjOk X.prog X.w _ _ _ (.tup ys) from ⟨hz,its,r',IsTup.new _ _⟩)
  exact ⟨.ref h'.objs.size,_,I2,rfl,q _ (I1.hok.fresh (Ac _))⟩
 ·obtain ⟨its,r',pl,hz⟩:=I.tuple hq
  exact call_tuple_same pl ⟨.ref p,H,I,rfl,q⟩
noncomputable def tyV (K:Av) (T:String) (x:V) (H:Hp):Prop:=match x with
 | .str _=>T = "str"
 | .int _=>T = "int"
 | .ref p=>(T = "list" /\ ∃ xs,SqL K H p xs)\/(T = "tuple" /\ ∃ o,K.lookup p=some o/\o.cls = .type "tuple" /\ o.dict=none) \/
   (T = "dict" /\ ((∃ kvs,H p=some (.dK kvs))\/∃ kvs,H p=some (.dT kvs)))\/(T = "set" /\ ∃ S n,H p=some (.set S n))
 | _=>False
theorem zhp {pins:List (A4×Obj)} {σ : St} {H:Hp} {s:A3} {T:String} {x:V} {v:A0} (I:Inv X pins σ H s) (r:RelV x v) (ty:tyV X.K T x H) :
  s.TypeIs v T/\∀ a,v = .ref a->∃ ob,s.heap.get? a=some ob/\ob.dict=none:=by
 cases x with
 | str z =>
  obtain ⟨t,rfl⟩:=r
  cases (show T = "str" from ty)
  exact ⟨typeIs_str s z t,fun _ e=>nomatch e⟩
 | int i =>
  obtain ⟨t,rfl⟩:=r
  cases (show T = "int" from ty)
  exact ⟨Oh s i t,fun _ e=>nomatch e⟩
 | ref p =>
  cases r
  rcases ty with ⟨rfl,xs,hq⟩ | ⟨rfl,o,hk,hc,hd⟩ | ⟨rfl,hk⟩ | ⟨rfl,S,n,hk⟩
  ·obtain ⟨its,_,pl,_⟩:=I.list hq
   refine ⟨pl.isList.typeIs,fun a e => ?_⟩
   cases e
   obtain ⟨o,n,e,c,hd,_⟩:=pl
   exact ⟨o,e,hd⟩
  ·refine ⟨⟨o,I.kIn p o hk,hc⟩,fun a e => ?_⟩
   cases e
   exact ⟨o,I.kIn _ o hk,hd⟩
  ·have z:∃ o,s.heap.get? p=some o/\o.ExactDict:=by
    rcases hk with ⟨kvs,hk⟩ | ⟨kvs,hk⟩
    ·obtain ⟨_,_,_,_,o,_,_,e,ex,_⟩:=I.hok p _ hk
     exact ⟨o,e,ex⟩
    ·obtain ⟨_,_,_,_,o,_,_,e,ex,_⟩:=I.hok p _ hk
     exact ⟨o,e,ex⟩
   obtain ⟨o,e,ex⟩:=z
   refine ⟨⟨o,e,ex.1⟩,fun a e2 => ?_⟩
   cases e2
   exact ⟨o,e,ex.2.1⟩
  ·obtain ⟨o,_,_,_,e,ex,_⟩:=I.hok p _ hk
   refine ⟨⟨o,e,ex.1⟩,fun a e2 => ?_⟩
   cases e2
   exact ⟨o,e,ex.2.1⟩
 | _=>exact E6 ty
noncomputable def tBM0 (K:Av) (T:String) (r:V->List V->Hp->VK->Prop) (to:TE):TE:=fun σ H Q=>to σ H fun x H1=>tyV K T x H1/\r x [] H1 Q
noncomputable def tBM (K:Av) (T:String) (r:V->List V->Hp->VK->Prop) (to:TE) (t:TA):TE:=fun σ H Q=>to σ H fun x H1=>tyV K T x H1/\t σ H1 fun xs H2=>r x xs H2 Q
variable {o e:Cb} {es:List Cb} {to:TE} {t:TA} {name:Str} {apos cpos:Pos} {T id:String} {r:V->List V->Hp->VK->Prop}
theorem pe_bm0 (pa:PlainAttrs T) (slot:Slot T name id) (hty:typeOf (.builtin id)=pure (.type "method_descriptor")) (hm:MtR X id r) (ho:PE X o to)
  (hbase:attributeBase o name X.env (eval o X.env)=eval o X.env:=by rfl) (hline:(apos.endLine == cpos.line)=true:=by rfl):PE X (.Call (.Attribute o name apos) [] [] cpos) (tBM0 X.K T r to):=by
 intro pins s σ H Q I h
 refine wpAny_Call_method0_late hbase hline (thnE (ho pins s σ H _ I h) fun v s1 x H1 I1 r1 ⟨ty,q1⟩ => ?_)
 obtain ⟨h1,h2⟩:=zhp I1 r1 ty
 exact ⟨T,id,pa,slot,hty,h1,h2,Lp rfl (PySem.evalArgs_none (hm pins s1 σ H1 x [] v [] Q I1 r1 .nil q1))⟩
theorem zdF (pa:PlainAttrs T) (slot:Slot T name id) (hty:typeOf (.builtin id)=pure (.type "method_descriptor")) (hm:MtR X id r) (ho:PE X o to) (ha:PA X (e :: es) t)
  (hbase:attributeBase o name X.env (eval o X.env)=eval o X.env:=by rfl)
  (hfew:((backTo cpos (starEach (e :: es) X.env)).all (fun x => !x.1) && (backToKw cpos (keywordEach [] X.env)).all (fun x=>x.1.isSome)
   && decide ((e :: es).length + ([]:List Qw).length + (if ([]:List Qw).isEmpty then 0 else 1) < 30))=true:=by rfl)
  (hline:(apos.endLine == cpos.line)=true:=by rfl) (hs:starEach (e :: es) X.env=(false,eval e X.env) :: starEach es X.env:=by rfl) (hplain:(backTo cpos (starEach es X.env)).any (·.1)=false:=by rfl) :
  PE X (.Call (.Attribute o name apos) (e :: es) [] cpos) (tBM X.K T r to t):=by
 intro pins s σ H Q I h
 refine wpAny_Call_method_late hbase hfew hline rfl (thnE (ho pins s σ H _ I h) fun v s1 x H1 I1 r1 ⟨ty,q1⟩ => ?_)
 obtain ⟨h1,h2⟩:=zhp I1 r1 ty
 refine ⟨T,id,pa,slot,hty,h1,h2,?_⟩
 have hA:=ha cpos pins s1 σ H1 _ I1 q1
 rw [hs] at hA ⊢
 refine Lp (by show (false || (backTo cpos (starEach es X.env)).any (·.1))=false; rw [hplain] <;> rfl) (Mb ?_)
 exact thn hA fun us s2 ⟨vs,H2,I2,r2,q2⟩=>hm pins s2 σ H2 x vs v us Q I2 r1 r2 q2
end
noncomputable def MtM (X:Cx) (id:String) (r:V->List V->Hp->VK->Prop):Prop :=
 ∀ (pins:List (A4×Obj)) (s:A3) (σ : St) (H:Hp) (x:V) (xs:List V) (v:A0) (us:List A0) (Q:VK),Inv X pins σ H s->RelV x v->Vals xs us->r x xs H Q ->
  wpAny (model X.prog X.w) X.A (call (.builtin id) (v :: us)) (EP X pins σ Q) X.xe s
theorem Vals.one:∀ {x:V} {us:List A0},Vals [x] us->∃ u,us = [u]/\RelV x u
 | _,_,.cons r .nil=>⟨_,rfl,r⟩
theorem Vals.zero:∀ {us:List A0},Vals [] us->us = []
 | _,.nil=>rfl
theorem Vals.dropLast {xs:List V} {us:List A0} (h:Vals xs us):Vals xs.dropLast us.dropLast:=by
 induction h with
 | nil=>exact .nil
 | cons r t ih =>
  cases t with
  | nil=>exact .nil
  | cons q t'=>exact .cons r ih
theorem Vals.rep {xs:List V} {us:List A0} (h:Vals xs us):∀ k:Nat,Vals (C0 k xs).flatten (C0 k us).flatten
 | 0 => .nil
 | k + 1=>by
  rw [E3,E3,Fs,Fs]
  exact Vals.append h (Vals.rep h k)
theorem erase_last {α : Type} (l:List α):l.eraseIdx (l.length - 1)=l.dropLast:=by
 induction l with
 | nil=>rfl
 | cons a r ih =>
  cases r with
  | nil=>rfl
  | cons b r =>
   have e:(a :: b :: r).length - 1=((b :: r).length - 1) + 1:=by
    have h1:(a :: b :: r).length=r.length + 2:=rfl
    have h2:(b :: r).length=r.length + 1:=rfl
    omega
   rw [e,List.eraseIdx_cons_succ,ih]
   all_goals rfl
theorem zeW (its:List A0):∀ (k:Nat) (acc:List A0),
  Kw (fun x1 x2=>x1 ++ x2) acc.toArray (C0 k its.toArray)=(acc ++ (C0 k its).flatten).toArray
 | 0,acc=>by simp
 | k + 1,acc=>by
  have e:acc.toArray ++ its.toArray=(acc ++ its).toArray:=by simp
  have e2:(acc ++ its) ++ (C0 k its).flatten=acc ++ (C0 (k + 1) its).flatten:=by
   rw [E3,Fs,As]
  rw [<- e2,<- zeW its k (acc ++ its),<- e,E3,Iq]
section
variable {X:Cx} {pins:List (A4×Obj)} {σ : St} {H:Hp} {s:A3} {l b:A4} {xs ys zs:List V}
theorem Inv.lset {its its':List A0} {n:Nat} {f:Array A0->Array A0} {t':Nat} (I:Inv X pins σ H s) (hH:H l=some (.lst xs))
  (e:s.heap.get? l=some { cls := .type "list",data := .seq its.toArray n }) (hf:f its.toArray=its'.toArray) (hv:Vals ys its') (hz:ys.length<=sizeLine) :
  Inv X pins σ (upd H l (.lst ys)) { s with heap:=s.heap.update l (Eg f),toks:=t' }:=by
 have q:=Qv e f
 rw [hf] at q
 refine I.write (x:=l) (e:=l) (by rw [hH]; exact trivial) (.inl rfl) (fun b' u hb hu=>(Ic s.heap (Eg f) (Dz hb)).trans hu) ⟨_,q⟩ ?_
 exact ⟨hz,its',_,hv,q⟩
theorem Inv.lnew {its:List A0} {t':Nat} (I:Inv X pins σ H s) (hv:Vals ys its) (hz:ys.length<=sizeLine) :
  Inv X pins σ (upd H s.heap.objs.size (.lst ys)) { s with heap:=s.heap.push { cls := .type "list",data := .seq its.toArray },toks:=t' } :=
 I.laid (fun _ _ q=>Ad _ q) (Ac _) ⟨hz,its,0,hv,Ba _ rfl⟩
theorem Inv.fresh (I:Inv X pins σ H s):H s.heap.objs.size=none:=I.hok.fresh (Ac _)
theorem Inv.lstM (I:Inv X pins σ H s) (hH:H l=some (.lst xs)):xs.length<=sizeLine/\∃ (its:List A0) (n:Nat),Vals xs its/\xs.length=its.length/\s.heap.get? l=some { cls := .type "list",data := .seq its.toArray n }:=by
 obtain ⟨z,its,n,r,e⟩:=I.hok l _ hH
 exact ⟨z,its,n,r,r.length,e⟩
theorem notLongL {n:Nat} (h:n<=sizeLine):Gg n=false:=by
 unfold Gg
 exact decide_eq_false (by omega)
end
section
variable {X:Cx}
noncomputable def rAppend:V->List V->Hp->VK->Prop:=fun x vs H Q=>∃ l xs y,x = .ref l/\vs = [y]/\H l=some (.lst xs)/\xs.length < sizeLine/\Q .non (upd H l (.lst (xs ++ [y])))
theorem zaV:MtM X "list.append" rAppend:=by
 intro pins s σ H x vs v us Q I rx rv h
 obtain ⟨l,xs,y,rfl,rfl,hH,hz,q⟩:=h
 cases rx
 obtain ⟨u,rfl,ru⟩:=rv.one
 obtain ⟨z,its,n,r,hl,e⟩:=I.lstM hH
 refine K8 F.slot_list_append ⟨_,e,rfl⟩ F.entry_list_append (F.args_list_append_2 _ _) (PySem.list_append l its.toArray n u (by rw [B8]; omega)) ⟨e,?_⟩
 refine ⟨.non,_,I.lset (its':=its ++ [u]) hH e (by simp) (r.append (.cons ru .nil)) ?_,rfl,q⟩
 rw [Ag,Bp]
 omega
noncomputable def rPop:V->List V->Hp->VK->Prop:=fun x vs H Q=>∃ l xs y,x = .ref l/\vs = []/\H l=some (.lst xs)/\xs[xs.length - 1]?=some y/\Q y (upd H l (.lst xs.dropLast))
theorem mt_pop:MtM X "list.pop" rPop:=by
 intro pins s σ H x vs v us Q I rx rv h
 obtain ⟨l,xs,y,rfl,rfl,hH,hy,q⟩:=h
 cases rx
 have hus:=rv.zero
 subst hus
 obtain ⟨z,its,n,r,hl,e⟩:=I.lstM hH
 obtain ⟨u,hu,ru⟩:=r.get hy
 have hy':its.toArray[its.toArray.size - 1]?=some u:=by
  show its.toArray[its.length - 1]?=some u
  rw [<- Ck,<- hl]
  exact hu
 refine K8 F.slot_list_pop ⟨_,e,rfl⟩ F.entry_list_pop (F.args_list_pop_1 _) (MeetsSeq.list_pop_last l its.toArray n u hy' (by rw [B8]; omega)) ⟨e,?_⟩
 refine ⟨y,_,I.lset (its':=its.dropLast) hH e ?_ r.dropLast ?_,ru,q⟩
 ·show its.toArray.eraseIdxIfInBounds (its.toArray.size - 1)=its.dropLast.toArray
  rw [B8,List.eraseIdxIfInBounds_toArray,erase_last]
 ·rw [Mi]
  omega
noncomputable def rCat:R2:=fun x y H Q=>∃ l b xs zs,x = .ref l/\y = .ref b/\H l=some (.lst xs)/\H b=some (.lst zs)/\xs.length + zs.length<=sizeLine/\∀ p,H p=none->Q (.ref p) (upd H p (.lst (xs ++ zs)))
theorem zeK:OpR X (binaryOp .Add) rCat:=by
 intro pins s σ H x y v u Q I rx ry h
 obtain ⟨l,b,xs,zs,rfl,rfl,hH,hB,hz,q⟩:=h
 cases rx
 cases ry
 obtain ⟨z,its,n,r,hl,e⟩:=I.lstM hH
 obtain ⟨z2,its2,n2,r2,hl2,e2⟩:=I.lstM hB
 refine PySem.P.add_list e e2 ?_ (by rw [B8,B8]; omega)
 have ea:its.toArray ++ its2.toArray=(its ++ its2).toArray:=by simp
 rw [ea]
 exact ⟨.ref _,_,I.lnew (t':=s.toks) (r.append r2) (by rw [Ag]; omega),rfl,q _ I.fresh⟩
noncomputable def rRep:R2:=fun x y H Q=>∃ l k xs,x = .ref l/\y = .int k/\H l=some (.lst xs) /\ -(2 ^ 63)<=k/\k < 2 ^ 63/\xs.length * k.toNat<=sizeLine /\
 ∀ p,H p=none->Q (.ref p) (upd H p (.lst (C0 k.toNat xs).flatten))
theorem len_rep {α : Type} (xs:List α) (k:Nat):(C0 k xs).flatten.length=k * xs.length:=by
 induction k with
 | zero=>simp
 | succ k ih=>rw [E3,Fs,Ag,ih,Nat.succ_mul,Gq]
theorem op_rep:OpR X (binaryOp .Mult) rRep:=by
 intro pins s σ H x y v u Q I rx ry h
 obtain ⟨l,k,xs,rfl,rfl,hH,h1,h2,hz,q⟩:=h
 cases rx
 obtain ⟨t,rfl⟩:=ry
 obtain ⟨z,its,n,r,hl,e⟩:=I.lstM hH
 have hlen:its.toArray.size * k.toNat<=sizeLine:=by rw [B8,<- hl]; exact hz
 have hcap:¬ its.toArray.size * k.toNat > (2 ^ 63 - 1) / 8:=by
  have:(sizeLine:Nat)<=(2 ^ 63 - 1) / 8:=by decide
  omega
 have hfit:¬ (!Builtin.List.listFitsIndex k)=true:=by
  rw [fitsIndex_both h1 h2]
  exact A9
 have hlong:¬ Gg (its.toArray.size * k.toNat)=true:=by
  rw [notLongL hlen]
  exact A9
 have hnew:Kw (fun x1 x2=>x1 ++ x2) #[] (C0 (if its.toArray.isEmpty=true then 0 else k.toNat) its.toArray)=(C0 k.toNat its).flatten.toArray:=by
  have f0:∀ m:Nat,Kw (fun x1 x2=>x1 ++ x2) #[] (C0 m its.toArray)=(C0 m its).flatten.toArray:=fun m=>by
   have:=zeW its m []
   rw [List.nil_append] at this
   exact this
  rw [f0]
  cases its with
  | nil=>simp
  | cons a r'=>rw [if_neg (by simp)]
 refine wpAny_binaryOp_repeat_ref (T := "list") (U := "int") (by decide) ⟨_,e,rfl⟩ (fun s'=>Oh s' k t) noFill_list_mul F.fills_int_mul F.slot_int_rmul repeat_list F.slot_int_index.lookup
  (K8 F.slot_int_rmul (Oh s k t) F.entry_int_rmul (F.args_int_rmul_2 _ _) (int___rmul___int_list k t l its.toArray n)
   ⟨e,rfl,⟨_,e,rfl⟩,K8 F.slot_list_mul ⟨_,e,rfl⟩ F.entry_list_mul (F.args_list_mul_2 _ _) (R5 l its.toArray n k t hfit hcap hlong) ⟨e,?_⟩⟩)
 rw [hnew]
 exact ⟨.ref _,_,I.lnew (t':=s.toks) (r.rep k.toNat) (by rw [len_rep,Jz]; exact hz),rfl,q _ I.fresh⟩
end
section
variable {prog:Aq} {w:Bj} {A:Bb} {E:A0->A3->Prop} {s:A3}
end
section
variable {X:Cx}
end
section
variable {κ : Type} [DecidableEq κ]
noncomputable def valV (kvs:List (κ × V)) (k : κ):Option V:=(kvs.find? fun kv=>decide (kv.1=k)).map (·.2)
noncomputable def putK (kvs:List (κ × V)) (k : κ) (v:V):List (κ × V) :=
 if (kvs.any fun kv=>decide (kv.1=k))=true then kvs.map (fun kv=>if kv.1=k then (kv.1,v) else kv) else kvs ++ [(k,v)]
theorem zaY {p : κ × V} {r:List (κ × V)} {k : κ} (e:p.1=k):valV (p :: r) k=some p.2:=by simp [valV,Eb,e]
theorem zaT {p : κ × V} {r:List (κ × V)} {k : κ} (e:¬ p.1=k):valV (p :: r) k=valV r k:=by simp [valV,Eb,e]
theorem zbi (k : κ):∀ kvs:List (κ × V),(kvs.any fun kv=>decide (kv.1=k))=(valV kvs k).isSome
 | []=>rfl
 | p :: r=>by
  rw [Fa]
  by_cases e:p.1=k
  ·simp only [zaY e,decide_eq_true e,Bool.true_or,Option.isSome_some]
  ·rw [zaT e,decide_eq_false e,Bool.false_or]; exact zbi k r
theorem zfE (k j : κ) (y:V):∀ kvs:List (κ × V),valV (kvs.map fun kv=>if kv.1=k then (kv.1,y) else kv) j=(valV kvs j).map fun x=>if j=k then y else x
 | []=>rfl
 | p :: r=>by
  have ih:=zfE k j y r
  rw [An]
  by_cases h:p.1=k
  ·rw [if_pos h]
   by_cases e:p.1=j
   ·rw [zaY (p:=(p.1,y)) e,zaY e,Cu,if_pos (e.symm.trans h)]
   ·rw [zaT (p:=(p.1,y)) e,zaT e,ih]
  ·rw [if_neg h]
   by_cases e:p.1=j
   ·rw [zaY (p:=p) e,zaY e,Cu,if_neg (fun z=>h (e.trans z))]
   ·rw [zaT (p:=p) e,zaT e,ih]
theorem zet (k j : κ) (y:V):∀ kvs:List (κ × V),valV kvs k=none->valV (kvs ++ [(k,y)]) j=if j=k then some y else valV kvs j
 | [],_=>by
  by_cases e:k=j
  ·rw [if_pos e.symm]; exact zaY (p:=(k,y)) e
  ·rw [if_neg (fun z=>e z.symm)]; exact zaT (p:=(k,y)) e
 | p :: r,hn=>by
  rw [K5]
  have hk:¬ p.1=k:=fun z=>by rw [zaY z] at hn; cases hn
  rw [zaT hk] at hn
  have ih:=zet k j y r hn
  by_cases e:p.1=j
  ·rw [zaY e,zaY e,if_neg (fun z=>hk (e.trans z))]
  ·rw [zaT e,zaT e,ih]
theorem valV_put (kvs:List (κ × V)) (k j : κ) (y:V):valV (putK kvs k y) j=if j=k then some y else valV kvs j:=by
 unfold putK
 by_cases a:(kvs.any fun kv=>decide (kv.1=k))=true
 ·rw [if_pos a,zfE]
  rw [zbi] at a
  by_cases e:j=k
  ·obtain ⟨x,hx⟩:=F9.mp a
   rw [if_pos e,e,hx,Cu,if_pos rfl]
  ·rw [if_neg e]
   cases valV kvs j with
   | none=>rfl
   | some x=>rw [Cu,if_neg e]
 ·rw [if_neg a]
  refine zet k j y kvs ?_
  rw [zbi] at a
  cases q:valV kvs k with
  | none=>rfl
  | some x=>rw [q] at a; exact (a rfl).elim
theorem zch (kvs:List (κ × V)) (k : κ) (v:V):(putK kvs k v).length<=kvs.length + 1:=by
 unfold putK
 split
 ·rw [A2]; omega
 ·rw [Ag,At,Ip]; omega
theorem zcY {kvs:List (κ × V)} {k : κ} (v:V) (h:valV kvs k=none):putK kvs k v=kvs ++ [(k,v)]:=by
 unfold putK
 rw [zbi,h]
 exact if_neg (by decide)
theorem RelO.isSome_eq {o:Option V} {u:Option A0} (r:RelO o u):o.isSome=u.isSome:=by
 cases o with
 | none=>cases u with
  | none=>rfl
  | some _=>exact (show False from r).elim
 | some _=>cases u with
  | none=>exact (show False from r).elim
  | some _=>rfl
theorem KV.val {kvs:List (κ × V)} {vs:List (κ × A0)} (r:KV kvs vs) (k : κ):RelO (valV kvs k) (valueAt vs k):=by
 unfold KV at r
 induction r with
 | nil=>exact E7
 | @cons p q ps qs h t ih =>
  obtain ⟨h1,h2⟩:=h
  by_cases e:p.1=k
  ·have e':q.1=k:=h1.symm.trans e
   have b:valueAt (q :: qs) k=some q.2:=by simp [valueAt,Eb,e']
   rw [zaY e,b]; exact h2
  ·have e':¬ q.1=k:=fun z=>e (h1.trans z)
   have b:valueAt (q :: qs) k=valueAt qs k:=by simp [valueAt,Eb,e']
   rw [zaT e,b]; exact ih
theorem KV.any {kvs:List (κ × V)} {vs:List (κ × A0)} (r:KV kvs vs) (k : κ):(kvs.any fun kv=>decide (kv.1=k))=vs.any fun kv=>decide (kv.1=k):=by
 unfold KV at r
 induction r with
 | nil=>rfl
 | cons h t ih=>rw [Fa,Fa,ih,h.1]
theorem KV.repl {kvs:List (κ × V)} {vs:List (κ × A0)} (r:KV kvs vs) (k : κ) {y:V} {u:A0} (ry:RelV y u) :
  KV (kvs.map fun kv=>if kv.1=k then (kv.1,y) else kv) (vs.map fun kv=>if kv.1=k then (kv.1,u) else kv):=by
 unfold KV at r ⊢
 induction r with
 | nil=>exact .nil
 | @cons p q ps qs h t ih =>
  rw [An,An]
  refine .cons ?_ ih
  obtain ⟨h1,h2⟩:=h
  by_cases e:p.1=k
  ·rw [if_pos e,if_pos (h1.symm.trans e)]; exact ⟨h1,ry⟩
  ·rw [if_neg e,if_neg (fun z=>e (h1.trans z))]; exact ⟨h1,h2⟩
theorem KV.put {kvs:List (κ × V)} {vs:List (κ × A0)} (r:KV kvs vs) (k : κ) {y:V} {u:A0} (ry:RelV y u):KV (putK kvs k y) (stored vs k u):=by
 unfold putK stored
 rw [r.any k]
 by_cases e:(vs.any fun kv=>decide (kv.1=k))=true
 ·rw [if_pos e,if_pos e]; exact r.repl k ry
 ·rw [if_neg e,if_neg e]; exact El r ⟨rfl,ry⟩
theorem KV.length {kvs:List (κ × V)} {vs:List (κ × A0)} (r:KV kvs vs):kvs.length=vs.length:=C3 r
end
theorem zgS {P:Aq} {w:Bj} {k:Key} {u:A0} (r:RelV (kV k) u):(mixKind P w).is k u=true:=by
 cases k with
 | inl i=>obtain ⟨t,e⟩:=(show ∃ t,u=Hn i t from r); subst e; exact mixKind_int P w i t
 | inr x=>obtain ⟨t,e⟩:=(show ∃ t,u=Ju x t from r); subst e; exact mixKind_str P w x t
theorem zeQ {P:Aq} {w:Bj}:∀ {ks:List Key} {us:List A0},Vals (ks.map kV) us->ItemsAre (mixKind P w) ks us
 | [],_,r=>by rw [Fq] at r; cases r; exact .nil
 | k :: ks,_,r=>by
  rw [An] at r
  cases r with
  | cons h t=>exact .cons (zgS h) (zeQ t)
noncomputable abbrev KT (H:Hp):List (List Key×V)->List (List Key×A4×A0)->Prop:=Bs fun p q=>p.1=q.1/\H q.2.1=some (.tup (p.1.map kV))/\RelV p.2 q.2.2
theorem KT.val {H:Hp} {kvs:List (List Key×V)} {xs:List (List Key×A4×A0)} (r:KT H kvs xs) (k:List Key):RelO (valV kvs k) ((atKey xs k).map (·.2)):=by
 induction r with
 | nil=>exact E7
 | @cons p q ps qs h t ih =>
  obtain ⟨h1,_,h2⟩:=h
  by_cases e:p.1=k
  ·have e':q.1=k:=h1.symm.trans e
   have b:atKey (q :: qs) k=some q.2:=by simp [atKey,Eb,e']
   rw [zaY e,b]; exact h2
  ·have e':¬ q.1=k:=fun z=>e (h1.trans z)
   have b:atKey (q :: qs) k=atKey qs k:=by simp [atKey,Eb,e']
   rw [zaT e,b]; exact ih
theorem KT.repl {H:Hp} {kvs:List (List Key×V)} {xs:List (List Key×A4×A0)} (r:KT H kvs xs) (k:List Key) {y:V} {u:A0} (ry:RelV y u) :
  KT H (kvs.map fun kv=>if kv.1=k then (kv.1,y) else kv) (xs.map (putAt k u)):=by
 induction r with
 | nil=>exact .nil
 | @cons p q ps qs h t ih =>
  rw [An,An]
  refine .cons ?_ ih
  obtain ⟨h1,h2,h3⟩:=h
  unfold putAt
  by_cases e:p.1=k
  ·rw [if_pos e,if_pos (h1.symm.trans e)]; exact ⟨h1,h2,ry⟩
  ·rw [if_neg e,if_neg (fun z=>e (h1.trans z))]; exact ⟨h1,h2,h3⟩
theorem KT.put {H:Hp} {kvs:List (List Key×V)} {xs:List (List Key×A4×A0)} (r:KT H kvs xs) (k:List Key) {b:A4} {y:V} {u:A0} (hb:H b=some (.tup (k.map kV))) (ry:RelV y u) :
  KT H (putK kvs k y) (storedH xs k b u):=by
 have e:(kvs.any fun kv=>decide (kv.1=k))=(atKey xs k).isSome:=by
  rw [zbi,(r.val k).isSome_eq,Gy]
 unfold putK storedH
 rw [e]
 by_cases q:(atKey xs k).isSome=true
 ·rw [if_pos q,if_pos q]; exact r.repl k ry
 ·rw [if_neg q,if_neg q]; exact El r ⟨rfl,hb,ry⟩
theorem KT.keeps {H H':Hp} {kvs:List (List Key×V)} {xs:List (List Key×A4×A0)} (r:KT H kvs xs) (ht:∀ b ys,H b=some (.tup ys)->H' b=some (.tup ys)):KT H' kvs xs :=
 Bs.mapP r fun _ _ z=>⟨z.1,ht _ _ z.2.1,z.2.2⟩
section
variable {P:Aq} {w:Bj} {H:Hp} {h:Bz} {a:A4}
theorem zhS {u:HO} (ok:HOk P w H h) (e:Rd H a u):ObjOk P w H h a u:=e.ok ok
theorem zfu {kvs:List (Key×V)} (ok:HOk P w H h) (e:Rd H a (.dK kvs)):kvs.length<=sizeLine/\(a == sysModules)=false/\∃ vs,KV kvs vs/\h.DictOf (mixKind P w) a vs :=
 show ObjOk P w H h a (.dK kvs) from zhS ok e
theorem zhW {kvs:List (Key×V)} (ok:HOk P w H h) (e:H a=some (.dK kvs)):kvs.length<=sizeLine/\(a == sysModules)=false/\∃ vs,KV kvs vs/\h.DictOf (mixKind P w) a vs:=zfu ok (.inl e)
theorem zdv {ks:List Key} (ok:HOk P w H h) (e:H a=some (.tup (ks.map kV))):(tupleKind (mixKind P w)).is h ks a:=by
 obtain ⟨_,its,r,o,h1,h2,n,h3⟩:=(show ObjOk P w H h a (.tup (ks.map kV)) from ok a _ e)
 exact ⟨o,its.toArray,n,h1,h2,h3,by simpa using zeQ r⟩
theorem zg7 {kvs:List (List Key×V)} (ok:HOk P w H h) (e:Rd H a (.dT kvs)):kvs.length<=sizeLine/\(a == sysModules)=false /\
  ∃ xs,KT H kvs xs/\h.DictOfH (tupleKind (mixKind P w)) a xs:=by
 obtain ⟨z,y,xs,r,o,es,ep,h1,h2,h3,h4,h5⟩:=(show ObjOk P w H h a (.dT kvs) from zhS ok e)
 refine ⟨z,y,xs,r,o,es,ep,h1,h2,h3,h4,fun x hx => ?_,h5⟩
 have all:∀ {l:List (List Key×V)} {m:List (List Key×A4×A0)},KT H l m->∀ x∈m,(tupleKind (mixKind P w)).is h x.1 x.2.1:=by
  intro l m q
  induction q with
  | nil=>intro x hx; exact nomatch hx
  | @cons p q ps qs hq t ih =>
   intro x hx
   rcases B9.mp hx with e | hx
   ·subst e
    exact zdv ok (by rw [<- hq.1]; exact hq.2.1)
   ·exact ih x hx
 exact all r x hx
theorem zhV {kvs:List (List Key×V)} (ok:HOk P w H h) (e:H a=some (.dT kvs)):kvs.length<=sizeLine/\(a == sysModules)=false /\
  ∃ xs,KT H kvs xs/\h.DictOfH (tupleKind (mixKind P w)) a xs:=zg7 ok (.inl e)
end
noncomputable def DGet (H:Hp) (a:A4) (y:V) (r:Option V):Prop :=
 (∃ kvs k,Rd H a (.dK kvs)/\y=kV k/\r=valV kvs k)\/∃ kvs k b,Rd H a (.dT kvs)/\y = .ref b/\H b=some (.tup (k.map kV))/\r=valV kvs k
noncomputable def DPut (H:Hp) (a:A4) (y v:V) (H':Hp):Prop :=
 (∃ kvs k,H a=some (.dK kvs)/\y=kV k/\kvs.length < sizeLine/\H'=upd H a (.dK (putK kvs k v))) \/
 ∃ kvs k b,H a=some (.dT kvs)/\y = .ref b/\H b=some (.tup (k.map kV))/\kvs.length < sizeLine/\H'=upd H a (.dT (putK kvs k v))
theorem DGet.k {H:Hp} {a:A4} {kvs:List (Key×V)} {k:Key} (e:H a=some (.dK kvs)):DGet H a (kV k) (valV kvs k) := .inl ⟨kvs,k,.inl e,rfl,rfl⟩
theorem DGet.t {H:Hp} {a b:A4} {kvs:List (List Key×V)} {k:List Key} (e:H a=some (.dT kvs)) (eb:H b=some (.tup (k.map kV))):DGet H a (.ref b) (valV kvs k) := .inr ⟨kvs,k,b,.inl e,rfl,eb,rfl⟩
theorem DPut.k {H:Hp} {a:A4} {kvs:List (Key×V)} {k:Key} {v:V} (e:H a=some (.dK kvs)) (hl:kvs.length < sizeLine):DPut H a (kV k) v (upd H a (.dK (putK kvs k v))) := .inl ⟨kvs,k,e,rfl,hl,rfl⟩
theorem DPut.t {H:Hp} {a b:A4} {kvs:List (List Key×V)} {k:List Key} {v:V} (e:H a=some (.dT kvs)) (eb:H b=some (.tup (k.map kV))) (hl:kvs.length < sizeLine) :
  DPut H a (.ref b) v (upd H a (.dT (putK kvs k v))) := .inr ⟨kvs,k,b,e,rfl,eb,hl,rfl⟩
section
variable {X:Cx} {pins:List (A4×Obj)} {σ : St} {H:Hp} {s:A3} {a:A4} {y v:V} {u r:A0} {o:Option V} {A:Bb} {E:A0->A3->Prop}
theorem Inv.big (I:Inv X pins σ H s):sysModules < s.heap.objs.size:=by
 have h:mainGlobals < s.heap.objs.size:=(I.mod.glob.keeps I.bk).lt
 exact Gp (by decide) h
theorem d_getItem {Q:A0->A3->Prop} (hu:A.units + 1 < cLine) (I:Inv X pins σ H s) (g:DGet H a y (some v)) (ry:RelV y u) (h:∀ w' s',Inv X pins σ H s'->RelV v w'->Q w' s') :
  wpAny (model X.prog X.w) A (getItem (.ref a) u) Q E s:=by
 rcases g with ⟨kvs,k,e,ey,l⟩ | ⟨kvs,k,b,e,ey,eb,l⟩
 ·subst ey
  obtain ⟨z,hd,vs,rel,dd⟩:=zfu I.hok e
  obtain ⟨w',hw,rw'⟩:=RelO.some_of (v:=v) (o:=valueAt vs k) (by rw [l]; exact rel.val k)
  exact wpAny_getItem_of (zgS ry) dd.mapOf hw (h w' _ (I.tok _) rw')
 ·subst ey
  cases (show u=B1 b from ry)
  obtain ⟨z,hd,xs,rel,dd⟩:=zg7 I.hok e
  obtain ⟨w',hw,rw'⟩:=RelO.some_of (v:=v) (o:=(atKey xs k).map (·.2)) (by rw [l]; exact rel.val k)
  obtain ⟨p,hp,hp2⟩:=Lf.mp hw
  refine Of (Hl hu) (zdv I.hok eb) dd hp ?_
  rw [hp2]
  exact h w' _ (I.tok _) rw'
theorem d_in {Q:A0->A3->Prop} (hu:A.units + 1 < cLine) (I:Inv X pins σ H s) (g:DGet H a y o) (ry:RelV y u) (h:∀ s',Inv X pins σ H s'->Q (.bool o.isSome) s') :
  wpAny (model X.prog X.w) A (compareOp .In u (.ref a)) Q E s:=by
 rcases g with ⟨kvs,k,e,ey,l⟩ | ⟨kvs,k,b,e,ey,eb,l⟩
 ·subst ey
  obtain ⟨z,hd,vs,rel,dd⟩:=zfu I.hok e
  refine wpAny_in_of (zgS ry) hd dd.mapOf ?_
  rw [<- (rel.val k).isSome_eq,<- l]
  exact h _ (I.tok _)
 ·subst ey
  cases (show u=B1 b from ry)
  obtain ⟨z,hd,xs,rel,dd⟩:=zg7 I.hok e
  refine wpAny_in_heap (Hl hu) (zdv I.hok eb) hd dd ?_
  have q:=(rel.val k).isSome_eq
  rw [Gy] at q
  rw [<- q,<- l]
  exact h _ (I.tok _)
theorem d_notIn {Q:A0->A3->Prop} (hu:A.units + 1 < cLine) (I:Inv X pins σ H s) (g:DGet H a y o) (ry:RelV y u) (h:∀ s',Inv X pins σ H s'->Q (.bool (!o.isSome)) s') :
  wpAny (model X.prog X.w) A (compareOp .NotIn u (.ref a)) Q E s:=by
 rcases g with ⟨kvs,k,e,ey,l⟩ | ⟨kvs,k,b,e,ey,eb,l⟩
 ·subst ey
  obtain ⟨z,hd,vs,rel,dd⟩:=zfu I.hok e
  refine wpAny_notIn_of (zgS ry) hd dd.mapOf ?_
  rw [<- (rel.val k).isSome_eq,<- l]
  exact h _ (I.tok _)
 ·subst ey
  cases (show u=B1 b from ry)
  obtain ⟨z,hd,xs,rel,dd⟩:=zg7 I.hok e
  refine Ou (Hl hu) (zdv I.hok eb) hd dd ?_
  have q:=(rel.val k).isSome_eq
  rw [Gy] at q
  rw [<- q,<- l]
  exact h _ (I.tok _)
theorem zen {h':Bz} {t':Nat} {ob:HO} (I:Inv X pins σ H s) (mu:Mut (H a)) (hs:Fv a s.heap h') (he:∃ q,h'.get? a=some q) (new:ObjOk X.prog X.w (upd H a ob) h' a ob) :
  Inv X pins σ (upd H a ob) { s with heap:=h',toks:=t' } :=
 I.write (x:=a) (e:=a) mu (.inl rfl) (fun b q hb z=>(hs.2 b hb).trans z) he new
theorem zhG {P:Aq} {w:Bj} {H':Hp} {h':Bz} {kvs:List (Key×V)} {vs:List (Key×A0)} (z:kvs.length<=sizeLine) (hd:(a == sysModules)=false) (rel:KV kvs vs) (dd:h'.DictOf (mixKind P w) a vs) :
  ObjOk P w H' h' a (.dK kvs):=⟨z,hd,vs,rel,dd⟩
theorem d_setItem {H':Hp} {Q:Unit->A3->Prop} (hu:A.units + 1 < cLine) (I:Inv X pins σ H s) (g:DPut H a y v H') (ry:RelV y u) (rv:RelV v r) (h:∀ s',Inv X pins σ H' s'->Q () s') :
  wpAny (model X.prog X.w) A (setItem (.ref a) u r) Q E s:=by
 rcases g with ⟨kvs,k,e,ey,l,eH⟩ | ⟨kvs,k,b,e,ey,eb,l,eH⟩
 ·subst ey eH
  obtain ⟨z,hd,vs,rel,dd⟩:=zhW I.hok e
  have hz:vs.length<=sizeLine:=by rw [<- rel.length]; exact z
  have hl:(putK kvs k v).length<=sizeLine:=by have:=zch kvs k v; omega
  refine wpAny_setItem_pairs (hsz:=hz) (zgS ry) dd fun h' dd' hs=>h _ ?_
  have he:∃ q,h'.get? a=some q:=let ⟨q,_,_,hq,_⟩:=dd'; ⟨q,hq⟩
  exact zen I (by rw [e]; exact E7) hs he (zhG hl hd (rel.put k rv) dd')
 ·subst ey eH
  cases (show u=B1 b from ry)
  obtain ⟨z,hd,xs,rel,dd⟩:=zhV I.hok e
  have hz:xs.length<=sizeLine:=by rw [<- C3 rel]; exact z
  have hl:(putK kvs k v).length<=sizeLine:=by have:=zch kvs k v; omega
  refine Oe (hsz:=hz) (Hl hu) (zdv I.hok eb) dd fun h' dd' hs=>h _ ?_
  obtain ⟨q,es,ep,hq,h2,h3,h4,_,h5⟩:=dd'
  refine zen I (by rw [e]; exact E7) hs ⟨q,hq⟩ ⟨hl,hd,_,(rel.put k eb rv).keeps fun c ys ec => ?_,q,es,ep,hq,h2,h3,h4,h5⟩
  rw [zah (zhO ec e (fun z=>nomatch z))]
  exact ec
end
section
variable {X:Cx} {pins:List (A4×Obj)} {σ : St} {H:Hp} {s:A3} {a:A4} {kvs:List (Key×V)} {k:Key} {u:A0} {A:Bb} {E:A0->A3->Prop}
theorem d_len {Q:A0->A3->Prop} (I:Inv X pins σ H s) (e:Rd H a (.dK kvs)) (h:∀ t s',Inv X pins σ H s'->Q (.int kvs.length t) s'):wpAny (model X.prog X.w) A (call (.builtin "len") [.ref a]) Q E s:=by
 obtain ⟨z,hd,vs,rel,dd⟩:=zfu I.hok e
 refine call_len_dict hd dd (by rw [<- rel.length]; rw [Nx] at z; omega) ?_
 rw [<- rel.length]
 exact h _ _ (I.tok _)
end
noncomputable def NoSl (i:Cb):Prop:=∀ ov iv,subscripted i false ov iv=operate [ov,iv] (getItem ov iv)
theorem zgq {prog:Aq} {w:Bj} {A:Bb} {E:A0->A3->Prop} {s:A3} {env:Env} {value slice:Cb} {pos:Pos} {T id:String} {Q:A0->A3->Prop}
  (hl:typeLookup (.type T) "__getitem__" = pure (some (.builtin id))) (hs:NoSl slice)
  (h:wpAny (model prog w) A (eval value env) (fun o s₁ => wpAny (model prog w) A (eval slice env) (fun i s₂ => s₂.TypeIs o T/\wpAny (model prog w) A (getItem o i) Q E s₂) E s₁) E s) :
  wpAny (model prog w) A (eval (.Subscript value slice pos) env) Q E s:=by
 refine Subscript_ (Di h (fun o s₁ h₁ => Di h₁ (fun i s₂ h₂ => ?_) fun _ _ x=>x) fun _ _ x=>x)
 obtain ⟨hT,h₂⟩:=h₂
 unfold subscriptTail
 refine A1 ?_
 rw [getitemInPython_of_ne hT.not_modules]
 refine A1 (Gx hT hl ?_)
 have fin:wpAny (model prog w) A (subscripted slice false o i) (fun r s₃ => wpAny (model prog w) A (letTemporaryGo value o r >>= fun _=>pure r) Q E s₃) E s₂ := by
  rw [hs o i]
  exact wpAny_operating (Di h₂ (fun r s₃ h₃ => A1 (wpAny_letTemporaryGo (Ae h₃))) fun _ _ x=>x)
 first
  | exact Ae (A1 fin)
  | exact A1 (Ae (A1 fin))
  | exact A1 fin
theorem dict_typeIs {X:Cx} {pins:List (A4×Obj)} {σ : St} {H:Hp} {s:A3} {a:A4} {y:V} {o:Option V} (I:Inv X pins σ H s) (g:DGet H a y o):s.TypeIs (.ref a) "dict" := by
 rcases g with ⟨kvs,k,e,_,_⟩ | ⟨kvs,k,b,e,_,_,_⟩
 ·obtain ⟨_,_,vs,_,dd⟩:=zfu I.hok e
  exact dd.typeIs
 ·obtain ⟨_,_,xs,_,dd⟩:=zg7 I.hok e
  exact dd.typeIs
noncomputable def tDGet (td ty:TE):TE:=fun σ H Q=>td σ H fun x H1=>ty σ H1 fun y H2=>∃ a v,x = .ref a/\DGet H2 a y (some v)/\Q v H2
noncomputable def tDIn (ty td:TE):TE:=fun σ H Q=>ty σ H fun y H1=>td σ H1 fun x H2=>∃ a o,x = .ref a/\DGet H2 a y o/\Q (.bl o.isSome) H2
noncomputable def tDNotIn (ty td:TE):TE:=fun σ H Q=>ty σ H fun y H1=>td σ H1 fun x H2=>∃ a o,x = .ref a/\DGet H2 a y o/\Q (.bl (!o.isSome)) H2
noncomputable def sDPut (td ty tv:TE):TS:=fun D σ H=>tv σ H fun v H1=>td σ H1 fun x H2=>ty σ H2 fun y H3=>∃ a H4,x = .ref a/\DPut H3 a y v H4/\D.nx σ H4
section
variable {X:Cx} {o i e value:Cb} {pos pos' tpos:Pos} {td ty tv:TE}
theorem zdj (hu:X.A.units + 1 < cLine) (ho:PE X o td) (hi:PE X i ty) (hs:NoSl i):PE X (.Subscript o i pos) (tDGet td ty):=by
 intro pins s σ H Q I h
 refine zgq Kf.lookup hs (thnE (ho pins s σ H _ I h) fun u s1 x H1 I1 rx q1=>thnE (hi pins s1 σ H1 _ I1 q1) fun iv s2 y H2 I2 ry ⟨a,v,ex,g,q2⟩ => ?_)
 subst ex
 obtain rfl:u=B1 a:=rx
 exact ⟨dict_typeIs I2 g,d_getItem hu I2 g ry fun w' s3 I3 rw'=>⟨v,H2,I3,rw',q2⟩⟩
theorem zfY (hu:X.A.units + 1 < cLine) (hi:PE X i ty) (ho:PE X o td):PC X .In i o (tDIn ty td):=by
 intro pins s σ H Q I h
 refine thnE (hi pins s σ H _ I h) fun iv s1 y H1 I1 ry q1=>thnE (ho pins s1 σ H1 _ I1 q1) fun u s2 x H2 I2 rx ⟨a,ov,ex,g,q2⟩ => ?_
 subst ex
 obtain rfl:u=B1 a:=rx
 exact d_in hu I2 g ry fun s3 I3=>⟨.bl ov.isSome,H2,I3,rfl,q2⟩
theorem zdk (hu:X.A.units + 1 < cLine) (hi:PE X i ty) (ho:PE X o td):PC X .NotIn i o (tDNotIn ty td):=by
 intro pins s σ H Q I h
 refine thnE (hi pins s σ H _ I h) fun iv s1 y H1 I1 ry q1=>thnE (ho pins s1 σ H1 _ I1 q1) fun u s2 x H2 I2 rx ⟨a,ov,ex,g,q2⟩ => ?_
 subst ex
 obtain rfl:u=B1 a:=rx
 exact d_notIn hu I2 g ry fun s3 I3=>⟨.bl (!ov.isSome),H2,I3,rfl,q2⟩
theorem zce (hu:X.A.units + 1 < cLine) (ho:PE X o td) (hi:PE X i ty) (hv:PE X value tv) (hs:swapsWith value (some (.Subscript o i pos')) pos.line X.env=pure false) :
  PS X (.Assign [.Subscript o i pos'] value pos) (sDPut td ty tv):=by
 intro pins s σ H D I h
 refine N4 (thnE (hv pins s σ H _ I h) fun r s1 v H1 I1 rv q1=>thnE (ho pins s1 σ H1 _ I1 q1) fun u s2 x H2 I2 rx q2=>thnE (hi pins s2 σ H2 _ I2 q2) fun iv s3 y H3 I3 ry ⟨a,H4,ex,g,q3⟩ => ?_) hs
 subst ex
 obtain rfl:u=B1 a:=rx
 exact d_setItem hu I3 g ry rv fun s4 I4=>⟨σ,H4,I4,q3⟩
end
theorem dk_empty {P:Aq} {w:Bj} {H:Hp} (h:Bz) (hb:sysModules < h.objs.size):ObjOk P w H (h.push { cls := .type "dict",data := .dict #[] }) h.objs.size (.dK []) :=
 ⟨Bi _,beq_eq_false_iff_ne.mpr (Dz (Bm hb)),[],.nil,Qb h⟩
theorem zgf {P:Aq} {w:Bj} {H:Hp} (h:Bz) (hb:sysModules < h.objs.size):ObjOk P w H (h.push { cls := .type "dict",data := .dict #[] }) h.objs.size (.dT []) :=
 ⟨Bi _,beq_eq_false_iff_ne.mpr (Dz (Bm hb)),[],.nil,_,#[],0,Ba _ rfl,⟨rfl,rfl,rfl⟩,rfl,rfl,Db⟩
noncomputable def tDNewK:TE:=fun _ H Q=>∀ p,H p=none->Q (.ref p) (upd H p (.dK []))
noncomputable def tDNewT:TE:=fun _ H Q=>∀ p,H p=none->Q (.ref p) (upd H p (.dT []))
section
variable {X:Cx} {pos:Pos}
theorem zc1:PE X (.Dict [] [] pos) tDNewK:=fun pins s σ H Q I h =>
 Ov ⟨.ref s.heap.objs.size,_,I.laid (a:=s.heap.objs.size) (o := .dK []) (t':=s.toks) (fun _ _ q=>Ad _ q) (Ac _) (dk_empty s.heap I.big),rfl,h _ (I.hok.fresh (Ac _))⟩
theorem zea:PE X (.Dict [] [] pos) tDNewT:=fun pins s σ H Q I h =>
 Ov ⟨.ref s.heap.objs.size,_,I.laid (a:=s.heap.objs.size) (o := .dT []) (t':=s.toks) (fun _ _ q=>Ad _ q) (Ac _) (zgf s.heap I.big),rfl,h _ (I.hok.fresh (Ac _))⟩
end
section
variable {X:Cx} {pins:List (A4×Obj)} {σ : St} {H:Hp} {s:A3} {a:A4} {y d:V} {u r:A0} {o:Option V} {A:Bb} {E:A0->A3->Prop}
end
section
variable {X:Cx} {o e f:Cb} {apos cpos:Pos} {td ty tx:TE}
end
section
variable {X:Cx} {pins:List (A4×Obj)} {σ : St} {H:Hp} {s:A3} {a:A4} {kvs:List (Key×V)} {A:Bb} {E:A0->A3->Prop}
theorem d_copyOf {Q:A0->A3->Prop} (I:Inv X pins σ H s) (e:Rd H a (.dK kvs)) (h:∀ p s',H p=none->Inv X pins σ (upd H p (.dK kvs)) s'->Q (.ref p) s'):wpAny (model X.prog X.w) A (call (.type "dict") [.ref a]) Q E s:=by
 obtain ⟨z,hd,vs,rel,dd⟩:=zfu I.hok e
 refine kt_call_dict hd dd (by rw [<- rel.length]; exact z) fun h' dd' hs => ?_
 refine h _ _ (I.hok.fresh (Ac _)) (I.laid (a:=s.heap.objs.size) (o := .dK kvs) (t':=s.toks) (fun b q hq => ?_) (Ac _) (zhG z (beq_eq_false_iff_ne.mpr (Dz (Bm I.big))) rel dd'))
 exact (hs.2 b (Bm (Ap hq))).trans (Ad _ hq)
end
section
variable {X:Cx} {pins:List (A4×Obj)} {σ : St} {H:Hp} {s:A3} {a:A4} {y:V} {u:A0} {A:Bb} {E:A0->A3->Prop}
end
end L2
namespace Att
open PySem PySem.W PySem.Calls PyProof.Rows
theorem ints_of_wellAll {P:Q9} {h:Bz}:∀ (ns:List Int) (vs:List A0),WellAll P h vs (ns.map WData.int)->Du vs ns:=by
 intro ns
 induction ns with
 | nil =>
  intro vs w
  rw [Fq] at w
  cases w
  exact .nil
 | cons n ns ih =>
  intro vs w
  rw [An] at w
  cases w with
  | cons a b =>
   cases a
   exact .cons _ _ (ih _ b)
theorem script_of {l:OpenLaw} {n:Nat} (hn:l.most=some n) {P:Q9} {h:Bz} {args:List WData} {vals:List A0}
  (hpre:l.row.toRowW.claim.pre args=true) (hwl:WellAll P h vals args) :
  ∃ a vs ns,vals = [B1 a]/\args = [WData.list (ns.map WData.int)]/\h.get? a=some { cls := .type "list",data := .seq vs.toArray }/\Du vs ns/\ns.length<=n:=by
 have hsh:WShape.hasAll [] args [.list .int]=true:=(pre_splitW hpre).1
 have hc:l.pre.holds [] { args:=args }=true:=(pre_splitW hpre).2
 obtain ⟨d,r,rfl,h1,h2⟩:=hasAllW_cons hsh
 obtain rfl:=hasAllW_nil h2
 obtain ⟨xs,rfl,h3⟩:=hasW_list h1
 obtain ⟨ns,rfl⟩:=items_int h3
 have hlen:ns.length<=n:=by
  unfold OpenLaw.pre at hc
  have h4:(WTm.not (.lt (.lit (.int (n:Int))) (.len (.arg 0)))).holds [] { args := [.list (ns.map .int)] }=true:=by
   have h4:=(holds_andW hc).1
   rw [hn] at h4
   exact h4
  have h5:=condW_of h4 (w_not (w_lt w_lit (w_len_list (w_arg rfl))))
  rw [A2] at h5
  refine Ka fun q => ?_
  have q':(n:Int) < ((ns.length:Nat):Int):=by omega
  first
   | (rw [decide_eq_true q'] at h5; exact absurd h5 (by decide))
   | (simp at h5; omega)
 cases hwl with
 | cons w1 w2 =>
  cases w2
  cases w1 with
  | list ho hall=>exact ⟨_,_,ns,rfl,rfl,ho,ints_of_wellAll ns _ hall,hlen⟩
theorem post_true (l:OpenLaw) (args:List WData):l.row.toRowW.claim.post args (.bool true) args=true :=
 postW_of (r:=l.row.toRowW) (X:=(true == true))
  (show WShape.has [] (.bool true) .bool=true by first | rfl | decide | simp [WShape.has,WShape.arms,WShape.armsAll])
  (show (WTm.eq .res (.lit (.bool true))).value [] { args:=args,res:=some (.bool true),after:=args }=some (.bool (true == true)) from w_eq_bool (w_res rfl) w_lit) rfl
theorem attach_call {l:OpenLaw} {n:Nat} {q:Aq} {loose:List Str} {XP:(Str->Option A0)->Bz->Prop} {YP:Bj->Bz->Prop} {d:DefRec}
  (hn:l.most=some n) (hdf:d.params.defaults = [])
  (call:∀ (w:Bj) (s₀ s₁ : A3) (mg mb:Str->Option A0) (fa:A4) (o:Obj) (pm cd doc:A0) (a:A4) (vs:List A0) (ns:List Int),
   Ground q loose [] XP w s₀ mg mb s₁.heap->YP w s₁.heap ->
   s₁.heap.get? fa=some o->o.data = .func (docDef d.name d.params d.body d.scope pm cd doc)->s₁.heap.CodeRec cd d.name->mg d.name=some (.ref fa) ->
   s₁.heap.get? a=some { cls := .type "list",data := .seq vs.toArray }->Du vs ns->ns.length<=n->s₁.gens = #[] ->
   codeAny (model l.prog w) callerA (.call (.ref fa) ⟨[.ref a],[]⟩) (fun r s'=>r = .ok (.ret (.bool true))/\OldK s₁.heap s'.heap/\s'.os=s₁.os/\Hg s'.gens) s₁) :
  WalkO q loose XP YP l.row.toRowW d [] (fun f vs=>Mo f vs):=by
 intro w s₀ s₁ mg mb G Y fa o pm cd doc dV kV ho hd hcd hD hmg hg args vals as hpre hlay hrd hwl hlo
 obtain rfl:dV = .none:=Dflts.none hD hdf
 obtain rfl:kV = .none:=Dflts.noKw hD
 obtain ⟨a,vs,ns,rfl,rfl,hobj,hints,hlen⟩:=script_of hn hpre hwl
 refine enter_call (Kl (call w s₀ s₁ mg mb fa o pm cd doc a vs ns G Y ho (fd_plain hd) hcd hmg hobj hints hlen hg) fun r s' hq => ?_)
 obtain ⟨rfl,h2,h3,h4⟩:=hq
 exact ⟨.inl ⟨.bool true,.bool true,[],rfl,fun _=>rfl,.bool true,post_true l _,fun _=>⟨Gc,fun _ hm=>(nomatch hm)⟩⟩,h2,h3,h4⟩
section
variable {prog:Aq} {w:Bj} {A:Bb} {E:A0->A3->Prop} {s:A3} {K:Frag}
noncomputable def ledger (h:Bz) (L d:A4):List (A4×Obj):=(Ab h.objs.size).filterMap fun a=>if a=L\/a=d then none else (h.get? a).map fun o=>(a,o)
end
end Att
namespace L2
open PySem PySem.Spec PyProof.Rows
theorem zco:∀ {vs:List A0} {ns:List Int},Du vs ns->Vals (ns.map V.int) vs
 | _,_,.nil => .nil
 | _,_,.cons n t h => .cons ⟨t,rfl⟩ (zco h)
noncomputable def Only (H:Hp):Prop:=∀ b,H b=none\/∃ o xs,H b=some (.frz o (.lst xs))
theorem law_call {P:Aq} {w:Bj} {K:Av} {mg mb:Str->Option A0} {CX:CXT} {k:Nat} {fa a:A4} {fd:Ej} {x:Str} {sp:Sp} {s₁ : A3} {vs:List A0} {ns:List Int}
  (KX:K.In s₁.heap) (hns:s₁.heap.Ns mainGlobals mg) (hb:s₁.heap.Ns builtinsNs mb) (hbb:∀ x:Str,x ≠ "__name__" -> mb x=bootBuiltins x) (hlim:s₁.heap.NoLimit) (hg:s₁.gens = #[])
  (ha:s₁.heap.get? a=some { cls := .type "list",data := .seq vs.toArray }) (hi:Du vs ns) (hl:ns.length<=sizeLine) (hr:Room k callerA)
  (F:∀ base:Bz,K.In base->base.Ns mainGlobals mg->FnOk P w K mg base CX k fa fd [x] sp) (hbind:∀ (s:A3) (u:A0),Ks s fd ⟨[u],[]⟩ [(x,u)])
  (hsp:∀ H:Hp,Only H->SqL K H a (ns.map V.int)->sp [.ref a] H (fun v _=>v = .bl true) fun _ _ _=>False)
  (hCX:∀ H e s',CX [] H s₁ (fun _ _ _=>False) e s'->False) :
  codeAny (model P w) callerA (.call (.ref fa) ⟨[.ref a],[]⟩) (fun r s'=>r = .ok (.ret (.bool true))/\OldK s₁.heap s'.heap/\s'.os=s₁.os/\Hg s'.gens) s₁ := by
 have rv:=zco hi
 have lenV:=hi.length
 have core:∀ H:Hp,Only H->SqL K H a (ns.map V.int)->HOk P w H s₁.heap->(∀ b,H b≠none->b=a)->(H a≠none->K.lookup a=none) ->
   codeAny (model P w) callerA (.call (.ref fa) ⟨[.ref a],[]⟩) (fun r s'=>r = .ok (.ret (.bool true))/\OldK s₁.heap s'.heap/\s'.os=s₁.os/\Hg s'.gens) s₁ := by
  intro H hO hS hok hA hK
  have base_of:∀ {b:A4} {o:Obj},s₁.heap.get? b=some o->H b=none->(hidT s₁.heap H).get? b=some o:=fun e n=>hidT_get e n
  have noA:∀ {b:A4} {o:Obj} {es:Array J4} {ep:Nat},s₁.heap.get? b=some o->o.data = .dict es ep->H b=none:=fun {b o es ep} e d=>by
   cases q:H b with
   | none=>rfl
   | some u =>
    have e':b=a:=hA b (by rw [q]; simp)
    subst e'
    rw [ha] at e; cases e
    have d':Data.seq vs.toArray _=Data.dict es ep:=d
    cases d'
  have nsK:∀ {b:A4} {m:Str->Option A0},s₁.heap.Ns b m->(hidT s₁.heap H).Ns b m:=fun {b m} ⟨o,es,ep,e,d,r⟩=>⟨o,es,ep,base_of e (noA e d),d,r⟩
  have hKb:K.In (hidT s₁.heap H):=fun b o e=>base_of (KX b o e) (by
   cases q:H b with
   | none=>rfl
   | some u =>
    have e':b=a:=hA b (by rw [q]; simp)
    subst e'
    rw [hK (by rw [q]; simp)] at e; cases e)
  have hM:Mod K mg (hidT s₁.heap H):=⟨hKb,nsK hns,⟨mb,nsK hb,hbb⟩,let ⟨mc,h1,h2⟩:=hlim; ⟨mc,nsK h1,h2⟩⟩
  have e0:Env0 P w K mg (hidT s₁.heap H) callerA [] s₁ H:=⟨rfl,hM,fun b o e=>of_hidT e,P6 (hidT_size _ _),trivial,fun b hb=>absurd (show b∈([]:List A4) from hb) (by simp),hok,.of_eq hg⟩
  refine Kl ((F _ hKb (nsK hns)).run callerA [] s₁ H ⟨[.ref a],[]⟩ [.ref a] [.ref a] _ _ hr e0 (hbind s₁ (.ref a)) (.cons rfl .nil) (hsp H hO hS)) fun r s' h => ?_
  cases r with
  | error e=>exact (hCX H e s' h).elim
  | ok fl =>
   cases fl with
   | next=>exact E6 h
   | brk=>exact E6 h
   | cont=>exact E6 h
   | ret u =>
    obtain ⟨v,H',os,bare,un,hok',r',q⟩:=h
    have q':v = .bl true:=q
    subst q'
    obtain rfl:u=F0 true:=r'
    refine ⟨rfl,OldK.of_keep fun b o e => ?_,os,bare⟩
    cases q:H b with
    | none=>exact un.keep b o e q (by intro z; exact absurd (show b∈([]:List A4) from z) (by simp)) (by simp)
    | some u =>
     rcases hO b with z | ⟨ob,xs,z⟩
     ·rw [q] at z; cases z
     ·have z2:=un.frzs b ob _ z
      obtain ⟨e1,_⟩:=hok b _ z
      obtain ⟨e2,_⟩:=hok' b _ z2
      rw [e] at e1; cases e1
      exact e2
 cases hk:K.lookup a with
 | some o =>
  have e:=KX a o hk
  rw [ha] at e
  cases e
  refine core (fun _=>none) (fun _ => .inl rfl) (.inr ⟨_,vs.toArray,_,hk,rfl,rfl,rfl,by rw [B8,lenV]; exact hl,by simpa using rv⟩) (fun b u z=>by have z':(none:Option HO)=some u:=z; cases z') (fun b z=>absurd rfl z) fun z=>absurd rfl z
 | none =>
  refine core (fun b=>if b=a then some (.frz { cls := .type "list",data := .seq vs.toArray } (.lst (ns.map V.int))) else none) (fun b => ?_) (.inl (.inr ⟨{ cls := .type "list",data := .seq vs.toArray },if_pos rfl⟩)) (fun b u z => ?_) (fun b z => ?_) fun _=>hk
  ·by_cases hb:b=a
   ·exact .inr ⟨_,_,if_pos hb⟩
   ·exact .inl (if_neg hb)
  ·by_cases hb:b=a
   ·have z':=(if_pos hb).symm.trans z
    cases z'
    subst hb
    exact ⟨ha,by rw [A2]; exact hl,vs,_,rv,ha⟩
   ·have z':=(if_neg hb).symm.trans z
    cases z'
  ·by_cases hb:b=a
   ·exact hb
   ·exact absurd (if_neg hb) z
theorem walk_of {l:Jx} {n k:Nat} {q:Aq} {loose:List Str} {XP:(Str->Option A0)->Bz->Prop} {YP:Bj->Bz->Prop} {d:DefRec} {K:Q9->Av} {CX:Bj->CXT} {sp:Bj->Sp} {x:Str}
  (hn:l.most=some n) (hn2:n<=sizeLine) (hdf:d.params.defaults = []) (hr:Room k callerA)
  (hY:∀ (w:Bj) (h:Bz),YP w h->(K w.params).In h)
  (F:∀ (w:Bj) (mg:Str->Option A0) (fa:A4) (h:Bz),(K w.params).In h->h.Ns mainGlobals mg->mg d.name=some (.ref fa) ->
   ∃ fd:Ej,(∀ (s:A3) (u:A0),Ks s fd ⟨[u],[]⟩ [(x,u)]) /\
    ∀ base:Bz,(K w.params).In base->base.Ns mainGlobals mg->FnOk l.prog w (K w.params) mg base (CX w) k fa fd [x] (sp w))
  (hsp:∀ (w:Bj) (H:Hp) (a:A4) (ns:List Int),ns.length<=n->Only H->SqL (K w.params) H a (ns.map V.int)->sp w [.ref a] H (fun v _=>v = .bl true) fun _ _ _=>False)
  (hCX:∀ (w:Bj) (H:Hp) (s:A3) (e:A0) (s':A3),CX w [] H s (fun _ _ _=>False) e s'->False) :
  Nm q loose XP YP l.row.toRowW d [] (fun f vs=>Mo f vs):=by
 refine Att.attach_call hn hdf fun w s₀ s₁ mg mb fa o pm cd doc a vs ns G Y ho hd hcd hmg hobj hints hlen hg => ?_
 have KX:=hY w _ Y
 obtain ⟨fd,hb,hF⟩:=F w mg fa _ KX G.T.g hmg
 exact law_call KX G.T.g G.T.b G.T.builtins G.T.nolimit hg hobj hints (Br hlen hn2) hr hF hb (fun H hO hS=>hsp w H a ns hlen hO hS) fun H e s'=>hCX w H s₁ e s'
noncomputable def inClass (s:Cj) (j:Nat):Cj:=match s with
 | .ClassDef _ _ _ body _ _ _ _ _ _ _=>body.getD j (.Pass ⟨0,0,0,0⟩)
 | _ => .Pass ⟨0,0,0,0⟩
noncomputable def defArgs (s:Cj):Arguments:=match s with
 | .FunctionDef _ a _ _ _ _ _ _ _ _=>a
 | _=>{ posonlyargs := [],args := [],vararg:=none,kwonlyargs := [],kw_defaults := [],kwarg:=none,defaults := [] }
noncomputable def defBody (s:Cj):List Cj:=match s with
 | .FunctionDef _ _ b _ _ _ _ _ _ _=>b
 | _ => []
noncomputable def defScope (s:Cj):Fn:=match s with
 | .FunctionDef _ _ _ _ _ _ sc _ _ _=>sc
 | _=>{ kind := .function,names := [],isGenerator:=false,isCoroutine:=false }
noncomputable abbrev CX0:CXT:=fun _ _ _ _ _ _=>False
noncomputable abbrev E0:XK:=fun _ _ _=>False
theorem zeH {X:Cx}:Passes CX0 X E0:=fun _ _ _ _ _ _ _ h=>h.elim
structure Fun (K:Av) (x qual:Str) (st:Cj) (f:A4) (fd:Ej):Prop where
 ex:∃ (oc:A0) (od:Option A4) (kV doc pm:A0) (an:Option A4) (cdv ct:A0) (osl:Array (Option A0)),
  fd=D4 x qual (defArgs st) (defBody st) (defScope st) .none kV doc pm an cdv ct/\K.lookup f=some ⟨oc,od,.func fd,osl⟩/\Fh K cdv qual=true
 kp:Dj K (.ref f)=true
section
variable {P:Aq} {w:Bj} {K:Av} {mg:Str->Option A0} {base:Bz}
theorem Fun.ok {x qual:Str} {st:Cj} {f:A4} {fd:Ej} {N ps:List Str} {k:Nat} {sp:Sp} (F:Fun K x qual st f fd) (S:FnScope N ps (defScope st)) (len:∀ vs H Q E,sp vs H Q E->vs.length=ps.length)
  (hbody:∀ (cdv:A0) (A:Bb) (outer:List Env) (s:A3) (H:Hp) (vs:List V) (Q:VK) (E:XK),Room k (A.deeper (envOfC qual (defScope st) s.heap.objs.size f cdv))->sp vs H Q E ->
   ∃ t,PSs (cxOf CX0 P w K mg base N qual (defScope st) f cdv A outer s H E).nox (defBody st) t/\t { nx:=fun _ H'=>Q .non H',rt:=Q } (start N vs) H):FnOk P w K mg base CX0 (k + 1) f fd ps sp:=by
 obtain ⟨oc,od,kV,doc,pm,an,cdv,ct,osl,rfl,lk,hcd⟩:=F.ex
 refine zhU lk hcd S len fun A outer s H vs Q E hr hsp => ?_
 obtain ⟨t,h,q⟩:=hbody cdv A outer s H vs Q E hr hsp
 exact ⟨t,h.nox,q⟩
theorem Fun.binds {x qual:Str} {st:Cj} {f:A4} {fd:Ej} {ps:List Str} (F:Fun K x qual st f fd)
  (h:∀ (kV doc pm:A0) (an:Option A4) (cdv ct:A0) (us:List A0),us.length=ps.length->bindArgs (D4 x qual (defArgs st) (defBody st) (defScope st) .none kV doc pm an cdv ct) ⟨us,[]⟩=pure (ps.zip us)):Binds K fd ps []:=by
 obtain ⟨oc,od,kV,doc,pm,an,cdv,ct,osl,rfl,lk,hcd⟩:=F.ex
 exact .all (h kV doc pm an cdv ct)
theorem zg1 {x qual:Str} {st:Cj} {f:A4} {oc:A0} {od an:Option A4} {osl:Array (Option A0)} {kV doc pm cdv ct:A0} (l:K.lookup f=some ⟨oc,od,.func (D4 x qual (defArgs st) (defBody st) (defScope st) .none kV doc pm an cdv ct),osl⟩)
  (c:Fh K cdv qual=true) (k:Dj K (.ref f)=true):Fun K x qual st f (D4 x qual (defArgs st) (defBody st) (defScope st) .none kV doc pm an cdv ct):=⟨⟨oc,od,kV,doc,pm,an,cdv,ct,osl,rfl,l,c⟩,k⟩
end
theorem zcC {A:Bb} {k:Nat} (hr:Room k A):A.units + 1 < cLine:=Ng (Nat.add_le_add_left (by decide:1<=64) _) hr.units
section
variable {X:Cx}
theorem pv (i:Nat) {x:Str} {pos:Pos} (hN:X.N[i]?=some x:=by rfl) (hv:Vis X.env.scope x:=by first | exact Am rfl | exact Hc (Am rfl) | exact Hc (Hc rfl)) (hd:(x == ("__debug__" : Str))=false:=by decide)
  (hcd:(x == ("__classdict__" : Str))=false:=by decide):PE X (.Name x pos) (tVar i):=pe_var hN hv hd hcd
theorem call_lenD:CallR X (.builtin "len") (fun xs H Q=>∃ a kvs,xs = [V.ref a]/\H a=some (.dK kvs)/\Q (.int kvs.length) H):=by
 intro pins s σ H xs us Q I r h
 obtain ⟨a,kvs,rfl,ha,q⟩:=h
 obtain ⟨u,rfl,ru⟩:=zbR r
 cases ru
 exact d_len I (.inl ha) fun t s' I'=>⟨.int kvs.length,H,I',⟨t,rfl⟩,q⟩
end
theorem iteF {A B:Prop} (h:B):if false=true then A else B:=by
 rw [if_neg A9]
 exact h
theorem iteT {A B:Prop} (h:A):if true=true then A else B:=by
 rw [if_pos rfl]
 exact h
theorem ite2 {c A B:Prop} [Decidable c] (h1:c->A) (h2:¬ c->B):if c then A else B:=by
 by_cases h:c
 ·rw [if_pos h]
  exact h1 h
 ·rw [if_neg h]
  exact h2 h
noncomputable def Same (H H':Hp):Prop:=∀ b o,H b=some o->H' b=some o
theorem Same.refl (H:Hp):Same H H:=fun _ _ h=>h
theorem Same.trans {H H1 H2:Hp} (a:Same H H1) (b:Same H1 H2):Same H H2:=fun c o h=>b c o (a c o h)
theorem Same.free {H H':Hp} (e:Same H H') {l:A4} (h:H' l=Oj):H l=Oj:=by
 cases q:H l with
 | none=>rfl
 | some o =>
  rw [e l o q] at h
  cases h
theorem Same.seq {K:Av} {H H':Hp} {a:A4} {xs:List V} (e:Same H H') (h:SqL K H a xs):SqL K H' a xs:=by
 rcases h with (h | ⟨o,h⟩) | h
 ·exact .inl (.inl (e _ _ h))
 ·exact .inl (.inr ⟨o,e _ _ h⟩)
 ·exact .inr h
section
variable {κ : Type} [DecidableEq κ]
theorem zgK:∀ {l:List κ} {k : κ},l.Nodup->¬ k∈l->(l ++ [k]).Nodup
 | [],k,_,_=>by simp
 | a :: r,k,h,hk=>by
  obtain ⟨h1,h2⟩:=Do.mp h
  show (a :: (r ++ [k])).Nodup
  refine Do.mpr ⟨fun m => ?_,zgK h2 fun m=>hk (B9.mpr (Hc m))⟩
  rcases Al.mp m with q | q
  ·exact h1 q
  ·exact hk (B9.mpr (Am (A6.mp q).symm))
end
theorem zdq {κ β : Type} [BEq κ] [LawfulBEq κ] {k : κ} {v : β}:∀ {l:List (κ × β)},l.lookup k=some v->(k,v)∈l
 | [],h=>by simp at h
 | (a,b) :: r,h=>by
  rw [E4] at h
  cases e:k == a with
  | true =>
   rw [e] at h
   simp at h
   rw [eq_of_beq e,h]
   exact Ah
  | false =>
   rw [e] at h
   exact Aa _ (zdq h)
theorem zeM {κ β : Type} [BEq κ] [LawfulBEq κ] {k : κ} {v : β}:∀ {l:List (κ × β)},(k,v)∈l->∃ w,l.lookup k=some w
 | [],h=>by simp at h
 | (a,b) :: r,h=>by
  rw [E4]
  cases e:k == a with
  | true=>exact ⟨b,rfl⟩
  | false =>
   rcases B9.mp h with h | h
   ·injection h with h1 h2
    rw [h1] at e
    simp at e
   ·exact zeM h
theorem closure_ok {env:Env} {scope:Fn} (h:∀ x∈scope.names,x.2 = .free->∃ c,env.cells.lookup x.1=some c) :
  ∃ cl,closureFor scope env=pure cl/\(∀ x c,(x,c)∈cl->(x,Ci)∈scope.names/\env.cells.lookup x=some c)/\∀ x,(x,Ci)∈scope.names->∃ c,(x,c)∈cl:=by
 have all:∀ (names:List (Str×J3)) (acc:List (Str×A4)),(∀ x∈names,x.2 = .free->∃ c,env.cells.lookup x.1=some c) ->
   ∃ cl:List (Str×A4),(forIn names acc fun (x:Str×J3) (r:List (Str×A4))=>(if (x.2 == Ci)=true then do let c <- cellOf env x.1; pure (Dy ((x.1,c) :: r)) else pure (Dy r):Sem (ForInStep (List (Str×A4)))))=pure cl /\
    (∀ x c,(x,c)∈cl->(x,c)∈acc\/((x,Ci)∈names/\env.cells.lookup x=some c))/\(∀ p∈acc,p∈cl)/\∀ x,(x,Ci)∈names->∃ c,(x,c)∈cl:=by
  intro names
  induction names with
  | nil=>intro acc _; exact ⟨acc,rfl,fun x c h => .inl h,fun p h=>h,fun x h=>by simp at h⟩
  | cons y r ih =>
   intro acc hy
   obtain ⟨n,k⟩:=y
   by_cases hk:k = .free
   ·subst hk
    obtain ⟨c,hc⟩:=hy (n,.free) Ah rfl
    obtain ⟨cl,e,h1,h2,h3⟩:=ih ((n,c) :: acc) fun x hx=>hy x (Aa _ hx)
    refine ⟨cl,?_,fun x d hd => ?_,fun p hp=>h2 p (Aa _ hp),fun x hx => ?_⟩
    ·rw [Kj]
     have hcell:cellOf env n=pure c:=by unfold cellOf; rw [hc]
     simp only [beq_self_eq_true,if_true,hcell,pure_bind]
     exact e
    ·rcases h1 x d hd with q | ⟨q1,q2⟩
     ·rcases B9.mp q with q | q
      ·injection q with q1 q2
       subst q1 q2
       exact .inr ⟨Ah,hc⟩
      ·exact .inl q
     ·exact .inr ⟨Aa _ q1,q2⟩
    ·rcases B9.mp hx with q | q
     ·injection q with q1 _
      subst q1
      exact ⟨c,h2 _ Ah⟩
     ·exact h3 x q
   ·obtain ⟨cl,e,h1,h2,h3⟩:=ih acc fun x hx=>hy x (Aa _ hx)
    refine ⟨cl,?_,fun x d hd=>(h1 x d hd).imp id fun q=>⟨Aa _ q.1,q.2⟩,h2,fun x hx => ?_⟩
    ·rw [Kj]
     have hb:(k == Ci)=false:=by simpa using hk
     simp only [hb,Bo,if_false,pure_bind]
     exact e
    ·rcases B9.mp hx with q | q
     ·injection q with _ q2
      exact absurd q2.symm hk
     ·exact h3 x q
 obtain ⟨cl,e,h1,_,h3⟩:=all scope.names [] h
 refine ⟨cl,?_,fun x c q=>(h1 x c q).resolve_left (by simp),h3⟩
 show ((forIn scope.names ([]:List (Str×A4)) fun (x:Str×J3) (r:List (Str×A4))=>(if (x.2 == Ci)=true then do let c <- cellOf env x.1; pure (Dy ((x.1,c) :: r)) else pure (Dy r):Sem (ForInStep (List (Str×A4))))) >>= fun r=>pure r)=pure cl
 rw [e]
 rfl
theorem zbq {env:Env}:∀ {names:List (Str×J3)} {x:Str},names.lookup x=some .free ->
  (names.map fun (n,k)=>if (k == Ci && env.scope.kind == .function && env.kindOf n == some .cell) then (n,Iz) else (n,k)).lookup x=some .cell \/
  (names.map fun (n,k)=>if (k == Ci && env.scope.kind == .function && env.kindOf n == some .cell) then (n,Iz) else (n,k)).lookup x=some .free
 | [],_,h=>by simp at h
 | (n,k) :: r,x,h=>by
  have ih := @zbq env r x
  show F4 x ((if (k == Ci && env.scope.kind == .function && env.kindOf n == some .cell)=true then (n,Iz) else (n,k)) :: _)=_\/F4 x ((if (k == Ci && env.scope.kind == .function && env.kindOf n == some .cell)=true then (n,Iz) else (n,k)) :: _)=_
  cases hx:x == n with
  | true =>
   simp only [E4,hx] at h
   cases h
   by_cases hc:(Ci == Ci && env.scope.kind == .function && env.kindOf n == some .cell)=true
   ·rw [if_pos hc]; simp only [E4,hx]; exact .inl trivial
   ·rw [if_neg hc]; simp only [E4,hx]; exact .inr trivial
  | false =>
   simp only [E4,hx] at h
   by_cases hc:(k == Ci && env.scope.kind == .function && env.kindOf n == some .cell)=true
   ·rw [if_pos hc]; simp only [E4,hx]; exact ih h
   ·rw [if_neg hc]; simp only [E4,hx]; exact ih h
noncomputable def cxComp (X:Cx) (scope:Fn) (N:List Str) (cl:List (Str×A4)) (C:A4) (s:A3) (H:Hp) (fp:List A4) (pn:List (A4×Obj)):Cx :=
 { X with N:=N,s₀ := s,H₀ := H,env:=compEnvC scope cl C X.env,outer:=X.stack,stack:=X.stack,ex:=fp,fn:=fun _=>false,pn:=pn,xe:=fun _ _=>False }
noncomputable def CapsOk (X:Cx) (scope:Fn):List (Nat×Str)->Prop
 | []=>True
 | p :: r=>(X.N[p.1]?=some p.2/\scope.names.lookup p.2=some .free/\(X.env.scope.names.lookup p.2=some .cell\/X.env.scope.names.lookup p.2=some .free))/\CapsOk X scope r
theorem CapsOk.get {X:Cx} {scope:Fn}:∀ {caps:List (Nat×Str)} {j:Nat} {p:Nat×Str},CapsOk X scope caps->caps[j]?=some p ->
  X.N[p.1]?=some p.2/\scope.names.lookup p.2=some .free/\(X.env.scope.names.lookup p.2=some .cell\/X.env.scope.names.lookup p.2=some .free)
 | [],_,_,_,h=>by simp at h
 | q :: r,0,p,h,e=>by simp at e; subst e; exact h.1
 | q :: r,j + 1,p,h,e=>CapsOk.get h.2 (by simpa using e)
noncomputable def capSt (own:List Str) (caps:List (Nat×Str)) (σ : St):St:=own.map (fun _=>none) ++ caps.map fun p=>(σ[p.1]?).join
noncomputable def CompW (J:It) (D:A4) (σ0:St) (H1:Hp) (g:TG) (tf:TT) (te:TE) (Q:VK):Prop:=∃ W:Nat->Nat->St->Hp->Prop,
 (∃ m,W 0 m σ0 (upd H1 D (.lst [])))/\∀ i m σ' H',W i m σ' H' ->
  (J.stop i H'/\Q (.ref D) H')\/(J.go i H'/\∀ x H2,J.yld i H' x H2->g x σ' H2 fun σ2 H3=>tf σ2 H3 fun b H4 =>
   if b=true then te σ2 H4 fun v H5=>∃ ys,H5 D=some (.lst ys)/\ys.length < sizeLine/\∃ m',m' < m/\W (i + 1) m' σ2 (upd H5 D (.lst (ys ++ [v])))
   else ∃ m',m' < m/\W (i + 1) m' σ2 H4)
noncomputable def tComp (wi:TI) (own:List Str) (caps:List (Nat×Str)) (g:TG) (tf:TT) (te:TE):TE:=fun σ H Q=>wi σ H fun J H1=>∀ D,H1 D=none->CompW J D (capSt own caps σ) H1 g tf te Q
noncomputable def PTs (X:Cx) (ifs:List Cb) (t:TT):Prop :=
 ∀ (pins:List (A4×Obj)) (s:A3) (σ : St) (H:Hp) (Q:Bool->Hp->Prop),Inv X pins σ H s->t σ H Q->wpAny (model X.prog X.w) X.A (forIn ifs true fun c r=>if r=true then do let ok <- isTrue c X.env (eval c X.env); pure (Dy ok) else pure (Dy r)) (TP X pins σ Q) X.xe s
noncomputable def tTrue:TT:=fun _ H Q=>Q true H
theorem za6 {X:Cx}:PTs X [] tTrue:=fun _ _ _ H _ I h=>wpAny_tests_nil ⟨H,I,h⟩
theorem zcd {X:Cx} {c:Cb} {t:TT} (h:PT X c t):PTs X [c] t:=fun pins s σ H Q I hw=>wpAny_tests_one (h pins s σ H Q I hw)
theorem comp_loop {prog:Aq} {w:Bj} {A:Bb} {R:Result->A3->Prop} {s:A3} {elt target iter:Cb} {ifs:List Cb} {scope:Fn} {pos:Pos} {it acc:A0} {env:Env} (I:Nat->A3->Prop)
  (turn:∀ n s,I n s->wpAny (model prog w) A (pyNext it) (fun r s₁ => match r with
   | none=>R (.ok .next) s₁
   | some v=>wpAny (model prog w) A (letOwnedTupleGo target it v) (fun _ s₁'=>wpAny (model prog w) A (assign target env v) (fun _ s₂ =>
     wpAny (model prog w) A (forIn ifs true fun c r=>if r=true then do let ok <- isTrue c env (eval c env); pure (Dy ok) else pure (Dy r)) (fun ok s₃ =>
      if ok=true then wpAny (model prog w) A (eval elt env) (fun x s₄ =>
       wpAny (model prog w) A (call (.builtin "list.append") [acc,x]) (fun _ s₅ => ∃ m,m < n/\I m s₅) (fun _ _=>False) s₄) (fun _ _=>False) s₃
      else ∃ m,m < n/\I m s₃) (fun _ _=>False) s₂) (fun _ _=>False) s₁') (fun _ _=>False) s₁) (fun _ _=>False) s)
  (n:Nat) (h:I n s) :
  codeAny (model prog w) A (.compLoop (.ListComp elt [⟨target,iter,ifs,0⟩] scope pos) 0 it acc env) R s:=by
 refine codeAny_loop rfl I (fun n s hI => ?_) n h
 show wpAny _ A ((compTurn (.ListComp elt [⟨target,iter,ifs,0⟩] scope pos) 0 it acc env).onRaise (fun x=>do noteFrame x env; theTreesLotGoes x)) _ _ s
 refine wpAny_noted ?_
 rw [compTurn_list]
 refine A1 (K2 (A1 (Di (turn n s hI) (fun r s₁ h₁ => ?_) fun _ _ h'=>h'.elim)))
 cases r with
 | none=>exact Ae h₁
 | some v =>
  refine A1 (Di h₁ (fun _ s₁' h₁' => ?_) fun _ _ h'=>h'.elim)
  refine A1 (Di h₁' (fun _ s₂ h₂ => A1 (Di h₂ (fun ok s₃ h₃ => ?_) fun _ _ h'=>h'.elim)) fun _ _ h'=>h'.elim)
  cases ok with
  | false=>exact Ae ⟨rfl,h₃⟩
  | true =>
   exact A1 (A1 (Di h₃ (fun x s₄ h₄ => A1 (Di h₄ (fun _ s₅ h₅ => Ae (Ae ⟨rfl,h₅⟩)) fun _ _ h'=>h'.elim)) fun _ _ h'=>h'.elim))
section
variable {X:Cx} {pins:List (A4×Obj)} {σ : St}
theorem comp_ok {H2:Hp} {s2:A3} {fp:List A4} {scope:Fn} {N:List Str} {cl:List (Str×A4)} {C:A4} (I2:Inv X pins σ H2 s2) (f2:∀ b∈fp,FpOk X pins H2 b) (hC:s2.heap.objs.size < C)
  (hfs:∀ b∈fp,b < s2.heap.objs.size) (hkind:scope.kind = .function) (hcl:∀ x c,cl.lookup x=some c->X.env.cells.lookup x=some c)
  (hhas:∀ x,((relabel scope X.env).names.lookup x=some .cell\/(relabel scope X.env).names.lookup x=some .free)->∃ c,cl.lookup x=some c) :
  (cxComp X scope N cl C s2 H2 fp (X.pn ++ pins)).Ok where
 mod:=I2.ok.mod
 kind:=hkind
 glob:=I2.ok.glob
 blt:=I2.ok.blt
 above:=Er hC
 inj:=fun x y c h1 h2=>I2.ok.inj x y c (hcl x c h1) (hcl y c h2)
 has:=hhas
 cab:=fun _ _ h _=>by cases h
 hd:=I2.ok.hd
 frames:=I2.ok.frames
 stk := .inl rfl
 exf:=fun b hb=>⟨Bm (Gp (hfs b hb) hC),fun x c e=>(f2 b hb).2.2.2.2.1 x c (hcl x c e)⟩
 bs:=I2.bs
 bsz:=Br I2.ok.bsz I2.sz
 noex:=fun b o e hb=>by
  rcases (f2 b hb).2.2.2.1 with z | z
  ·exact I2.ok.noex b o e z
  ·exact absurd (Ai (Ap e) (Br I2.ok.bsz z)) (Dw _)
 exfs:=fun b hb z=>(B9.mp (I2.stkSub b z)).elim (f2 b hb).2.1 (f2 b hb).2.2.1
 funs:=I2.stack
 frf:=I2.stkFree
theorem comp_start {H2:Hp} {s2:A3} {fp:List A4} {scope:Fn} {own:List Str} {caps:List (Nat×Str)} {cl:List (Str×A4)} {D C:A4} {h1:Bz} {tk:Nat} {m:Str->Option A0}
  (I2:Inv X pins σ H2 s2) (f2:∀ b∈fp,FpOk X pins H2 b) (hC : @Eq Nat C (s2.heap.objs.size + 1)) (hD : @Eq Nat D s2.heap.objs.size)
  (hfs:∀ b∈fp,b < s2.heap.objs.size) (hkind:scope.kind = .function) (hcl:∀ x c,cl.lookup x=some c->X.env.cells.lookup x=some c)
  (hhas:∀ x,((relabel scope X.env).names.lookup x=some .cell\/(relabel scope X.env).names.lookup x=some .free)->∃ c,cl.lookup x=some c)
  (hcap:CapsOk X scope caps) (hns:h1.Ns C m) (old:∀ b o,s2.heap.get? b=some o->h1.get? b=some o) (hlst:∃ n,h1.get? D=some { cls := .type "list",data := .seq #[] n }) :
  Inv (cxComp X scope (own ++ caps.map (·.2)) cl C s2 H2 fp (X.pn ++ pins)) [] (capSt own caps σ) (upd H2 D (.lst [])) { s2 with heap:=h1,toks:=tk }:=by
 have hCs:s2.heap.objs.size < C:=by omega
 have hDn:H2 D=none:=I2.hok.fresh (by omega)
 have hCn:H2 C=none:=I2.hok.fresh (by omega)
 have hCD:C≠D:=by show ¬ @Eq Nat C D; omega
 have hDs:s2.heap.objs.size<=D:=by show @LE.le Nat _ s2.heap.objs.size D; omega
 have new:ObjOk X.prog X.w (upd H2 D (.lst [])) h1 D (.lst []):=let ⟨n,e⟩:=hlst; ⟨Bi _,[],n,.nil,e⟩
 refine ⟨comp_ok I2 f2 hCs hfs hkind hcl hhas,rfl,I2.bare,Un.laid old hDs hDn,⟨m,hns,fun i x v e1 e2 e3 => ?_⟩,fun x c e => ?_,?_,fun x c e => ?_,fun p hp => ?_,I2.hok.laid old hDs new,?_⟩
 ·-- a captured name
  have e2':(capSt own caps σ)[i]?=some (some v):=e2
  unfold capSt at e2'
  by_cases hi:i < own.length
  ·rw [Dq (by simpa using hi),Af] at e2'
   cases q:own[i]? with
   | none=>rw [q] at e2'; cases e2'
   | some y=>rw [q] at e2'; cases e2'
  ·have hle:own.length<=i:=Ka hi
   rw [Dm (by simpa using hle),Af,A2] at e2'
   have e1':(own ++ caps.map (·.2))[i]?=some x:=e1
   rw [Dm hle,Af] at e1'
   cases q:caps[i - own.length]? with
   | none=>rw [q] at e2'; cases e2'
   | some p =>
    rw [q] at e2' e1'
    have ex:p.2=x:=Bh e1'
    have ev:(σ[p.1]?).join=some v:=Bh e2'
    obtain ⟨hN,hf,hv⟩:=hcap.get q
    have hσ : σ[p.1]?=some (some v):=by
     cases r : σ[p.1]? with
     | none=>rw [r] at ev; cases ev
     | some y=>rw [r] at ev; rw [show y=some v from ev]
    obtain ⟨mX,_,hl⟩:=I2.loc
    obtain ⟨u,ru,lk⟩:=hl p.1 p.2 v hN hσ (.inr hv)
    subst ex
    refine ⟨u,ru,.inr ⟨zbq hf,?_⟩⟩
    rcases lk with ⟨k,_⟩ | ⟨_,c,e,z⟩
    ·have k':X.env.scope.names.lookup p.2=some .local:=k
     rw [k'] at hv
     rcases hv with z | z <;> cases z
    ·obtain ⟨c',e'⟩:=hhas p.2 (zbq hf)
     have e2:=hcl p.2 c' e'
     rw [e] at e2
     cases e2
     obtain ⟨o,ho,hd⟩:=z
     exact ⟨c,e',o,old c o ho,hd⟩
 ·obtain ⟨v,o,ho,hd⟩:=I2.cell x c (hcl x c e)
  exact ⟨v,o,old c o ho,hd⟩
 ·show upd H2 D (.lst []) C=none
  rw [zah hCD]; exact hCn
 ·obtain ⟨v,q⟩:=I2.cell x c (hcl x c e)
  rw [zah (Bm (Ai q.lt hDs))]
  exact I2.freeC x c (hcl x c e)
 ·have hp':p∈X.pn ++ pins:=by
   have hp2:p∈(X.pn ++ pins) ++ []:=hp
   rwa [Cd] at hp2
  obtain ⟨e,n,ne,nf,d⟩:=I2.pin p hp'
  have lt:=Ap e
  refine ⟨old p.1 p.2 e,by rw [zah (Bm (Ai lt hDs))]; exact n,?_,fun z=>(B9.mp (I2.stkSub p.1 z)).elim ne nf,d⟩
  exact Bm (Gp lt hCs)
 ·show (capSt own caps σ).length=(own ++ caps.map (·.2)).length
  unfold capSt
  simp
theorem comp_back {H2 H':Hp} {s2 s':A3} {fp:List A4} {scope:Fn} {N:List Str} {cl:List (Str×A4)} {C:A4} {σ':St} {pn:List (A4×Obj)} (I2:Inv X pins σ H2 s2) (f2:∀ b∈fp,FpOk X pins H2 b)
  (J:Inv (cxComp X scope N cl C s2 H2 fp pn) [] σ' H' s'):Inv X pins σ H' s' :=
 I2.call' (s':=s') (ch:=fp) J.os J.base J.hok J.bare fun b hb=>⟨(f2 b hb).2.2.2.1,(f2 b hb).2.1,(f2 b hb).2.2.2.2.1,(f2 b hb).2.2.2.2.2⟩
theorem Inv.gone {H:Hp} {s:A3} {C:A4} {h':Bz} (I:Inv X pins σ H s) (hs:Fv C s.heap h') (hn:H C=none) (h0:X.s₀.heap.objs.size<=C) (hL:C≠X.env.locals) (h2:∀ x c,X.env.cells.lookup x=some c->c≠C) (h3:∀ p∈X.pn ++ pins,p.1≠C) :
  Inv X pins σ H { s with heap:=h' }:=I.turned (t':=s.toks) (fun b o hb e=>(hs.2 b hb).trans e) hn hL (.inr h0) h2 h3
end
theorem free_of_relabel {env:Env} {scope:Fn} {x:Str} (hcell:∀ y∈scope.names,y.2 ≠ .cell) (h:(relabel scope env).names.lookup x=some .cell\/(relabel scope env).names.lookup x=some .free):(x,Ci)∈scope.names:=by
 have all:∀ k,(relabel scope env).names.lookup x=some k->(k = .cell\/k = .free)->(x,Ci)∈scope.names:=by
  intro k e hk
  have m:=zdq e
  obtain ⟨⟨n,j⟩,hm,q⟩:=A7.mp (show (x,k)∈scope.names.map _ from m)
  dsimp only at q
  by_cases c:(j == Ci && env.scope.kind == .function && env.kindOf n == some .cell)=true
  ·rw [if_pos c] at q
   injection q with q1 q2
   subst q1
   have jf:j = .free:=by
    simp only [Cg] at c
    exact eq_of_beq c.1.1
   rw [<- jf]; exact hm
  ·rw [if_neg c] at q
   injection q with q1 q2
   subst q1 q2
   rcases hk with z | z
   ·exact absurd z (hcell _ hm)
   ·rw [z] at hm; exact hm
 rcases h with h | h
 ·exact all _ h (.inl rfl)
 ·exact all _ h (.inr rfl)
structure Steps (Y:Cx) (tg:Cb) (J:It) (fp:List A4) (it:A4) (tn:Nat->Bz->Prop):Prop where
 item:∀ (i:Nat) (pins:List (A4×Obj)) (s:A3) (σ : St) (H:Hp) (E:A0->A3->Prop),Inv Y pins σ H s->(∀ b∈fp,FpOk Y pins H b)->tn i s.heap->J.go i H ->
  wpAny (model Y.prog Y.w) Y.A (pyNext (.ref it)) (fun r s1=>∃ u,r=some u /\
   wpAny (model Y.prog Y.w) Y.A (letOwnedTupleGo tg (.ref it) u) (fun _ s2=>∃ x H',Inv Y pins σ H' s2/\RelV x u/\J.yld i H x H'/\tn (i + 1) s2.heap/\∀ b∈fp,H' b=none) E s1) E s
 done:∀ (i:Nat) (pins:List (A4×Obj)) (s:A3) (σ : St) (H:Hp) (E:A0->A3->Prop),Inv Y pins σ H s->(∀ b∈fp,FpOk Y pins H b)->tn i s.heap->J.stop i H ->
  wpAny (model Y.prog Y.w) Y.A (pyNext (.ref it)) (fun r s1=>r=none/\Inv Y pins σ H s1) E s
structure Trn (P:Aq) (w:Bj) (K:Av) (Z:Cx->Prop) (tg:Cb) (J:It) (fp:List A4) (it:A4) (tn:Nat->Bz->Prop):Prop where
 obj:∀ i h,tn i h->∀ b∈fp,∃ o,h.get? b=some o/\∀ v,o.data ≠ .cell v
 keep:∀ i h h',tn i h->(∀ b∈fp,∀ o,h.get? b=some o->h'.get? b=some o)->tn i h'
 steps:∀ Y:Cx,Y.prog=P->Y.w=w->Y.K=K->Z Y->Steps Y tg J fp it tn
 self:∀ (A:Bb) (i:Nat) (s:A3) (Q:A0->A3->Prop) (E:A0->A3->Prop),tn i s.heap->Q (.ref it) s->wpAny (model P w) A (pyIter (.ref it)) Q E s
noncomputable def PIEq (Z:Cx->Prop) (X:Cx) (pins:List (A4×Obj)) (σ : St) (tg:Cb) (R:It->Hp->Prop) (itv:A0) (s2:A3):Prop :=
 ∃ (it:A4) (fp:List A4) (tn:Nat->Bz->Prop) (J:It) (H':Hp),itv = .ref it/\Inv X pins σ H' s2/\Trn X.prog X.w X.K Z tg J fp it tn/\tn 0 s2.heap/\(∀ b∈fp,FpOk X pins H' b)/\R J H'
noncomputable def PIq (Z:Cx->Prop) (X:Cx) (tg iter:Cb) (wi:TI):Prop :=
 ∀ (pins:List (A4×Obj)) (s:A3) (σ : St) (H:Hp) (R:It->Hp->Prop),Inv X pins σ H s->wi σ H R ->
  wpAny (model X.prog X.w) X.A (eval iter X.env) (fun v s1=>wpAny (model X.prog X.w) X.A (pyIter v) (PIEq Z X pins σ tg R) X.xe s1) X.xe s
theorem PI.q {X:Cx} {tg iter:Cb} {wi:TI} (h:PI X tg iter wi):PIq (fun Y=>Y.calm=true) X tg iter wi:=fun pins s σ H R I q =>
 thn (h pins s σ H R I q) fun v s1 h1=>thn h1 fun itv s2 h2=>by
  obtain ⟨it,fp,tn,J,H',e,I',T,t0,f,r⟩:=h2
  exact ⟨it,fp,tn,J,H',e,I',⟨T.obj,T.keep,fun Y hP hw hK hz=>⟨fun i pins s σ H E=>hP ▸ hw ▸ T.item Y hP hw hK hz i pins s σ H E,fun i pins s σ H E=>hP ▸ hw ▸ T.done Y hP hw hK hz i pins s σ H E⟩,T.self⟩,t0,f,r⟩
section
variable {X:Cx} {elt target iter:Cb} {ifs:List Cb} {scope:Fn} {pos:Pos} {own:List Str} {caps:List (Nat×Str)} {wi:TI} {g:TG} {tf:TT} {te:TE}
structure CompScope (X:Cx) (scope:Fn) (caps:List (Nat×Str)):Prop where
 kind:scope.kind = .function
 cell:(scope.names.all fun y => !(y.2 == .cell))=true
 names:(scope.names.all fun y => !(y.2 == .local) || scope.names.lookup y.1 == some .local)=true
 free:(scope.names.all fun y => !(y.2 == .free) || (X.env.scope.names.lookup y.1 == some .cell || X.env.scope.names.lookup y.1 == some .free))=true
 caps:CapsOk X scope caps
theorem ze2 {use:Option (A0->Sem Unit)} {R:A0->A3->Prop} {pins:List (A4×Obj)} {σ : St} {s:A3} {H:Hp} {Q:VK} (Z:Cx->Prop) (hc:∀ cl C s H fp pins,Z (cxComp X scope (own ++ caps.map (·.2)) cl C s H fp (X.pn ++ pins))) (S:CompScope X scope caps) (hi:PIq Z X target iter wi)
  (hg:∀ cl C s H fp pn,PG (cxComp X scope (own ++ caps.map (·.2)) cl C s H fp pn) target g)
  (ht:∀ cl C s H fp pn,PTs (cxComp X scope (own ++ caps.map (·.2)) cl C s H fp pn) ifs tf)
  (he:∀ cl C s H fp pn,PE (cxComp X scope (own ++ caps.map (·.2)) cl C s H fp pn) elt te)
  (I:Inv X pins σ H s) (h:tComp wi own caps g tf te σ H Q)
  (fin:∀ D C H' s' m,Inv X pins σ H' s'->s'.heap.Ns C m->H' C=none->X.s₀.heap.objs.size<=C->C≠X.env.locals->(∀ x c,X.env.cells.lookup x=some c->c≠C)->(∀ p∈X.pn ++ pins,p.1≠C)->Q (.ref D) H' ->
   compPost (model X.prog X.w) X.A X.xe use R (.ref D) C (.ok .next) s')
  (hs:∀ x,foldedSetIterable iter X.env x=pure x) :
  wpAny (model X.prog X.w) X.A (comprehension (.ListComp elt [⟨target,iter,ifs,0⟩] scope pos) scope X.env (firstIterPos [⟨target,iter,ifs,0⟩] pos) (newList []) false (eval iter X.env) use) R X.xe s:=by
 have hcell:∀ y∈scope.names,y.2 ≠ .cell:=fun y hy z=>by
  have:=Df.mp S.cell y hy
  rw [z] at this; cases this
 have hnames:∀ y∈scope.names,y.2 = .local->scope.names.lookup y.1=some .local:=fun y hy z=>by
  have:=Df.mp S.names y hy
  rw [z] at this
  simpa using this
 have hfree:∀ y∈scope.names,y.2 = .free->X.env.scope.names.lookup y.1=some .cell\/X.env.scope.names.lookup y.1=some .free:=fun y hy z=>by
  have:=Df.mp S.free y hy
  rw [z] at this
  simpa using this
 obtain ⟨cl,hclos,hcl0,hcl1⟩:=closure_ok (env:=X.env) (scope:=scope) fun y hy z=>I.ok.has y.1 (hfree y hy z)
 have hcl:∀ x c,cl.lookup x=some c->X.env.cells.lookup x=some c:=fun x c e=>(hcl0 x c (zdq e)).2
 have hhas:∀ x,((relabel scope X.env).names.lookup x=some .cell\/(relabel scope X.env).names.lookup x=some .free)->∃ c,cl.lookup x=some c:=fun x hx=>by
  obtain ⟨c,hm⟩:=hcl1 x (free_of_relabel hcell hx)
  exact zeM hm
 refine wpAny_comprehension_free (g:=⟨target,iter,ifs,0⟩) (gs := []) rfl hs hclos S.kind hnames (thn (hi pins s σ H _ I h) fun v s1 h1=>thn h1 fun itv s2 h2 => ?_)
 obtain ⟨it,fp,tn,J,H2,e,I2,T,st2,f2,cont⟩:=h2
 subst e
 obtain ⟨W,⟨m0,w0⟩,turn⟩:=cont s2.heap.objs.size (I2.hok.fresh (Ac _))
 refine G9 (wpAny_newFunctionEnv hcell (by intro y hy; simp at hy) (fun h₁ hns₁ hsb₁ => ?_) S.kind)
 dsimp only at hns₁ hsb₁ ⊢
 generalize hH2:s2.heap.push { cls := .type "list",dict:=none,data := .seq ([]:List A0).toArray }=HL at hns₁ hsb₁ ⊢
 have hC:HL.objs.size=s2.heap.objs.size + 1:=by rw [<- hH2,F5]
 have hfs:∀ b∈fp,b < s2.heap.objs.size:=fun b hb=>let ⟨_,e,_⟩:=T.obj 0 _ st2 b hb; Ap e
 have old:∀ b o,s2.heap.get? b=some o->h₁.get? b=some o:=fun b o e =>
  hsb₁.extBut b o (by rw [hC]; exact Bm (Fy (Ap e))) (Ad _ (hH2 ▸ Ad _ e))
 have hlst:∃ n,h₁.get? s2.heap.objs.size=some { cls := .type "list",data := .seq #[] n }:=⟨_,hsb₁.extBut _ _ (by rw [hC]; exact Bm (Em _)) (Ad _ (hH2 ▸ Ba _ rfl))⟩
 have I4:Inv (cxComp X scope (own ++ caps.map (·.2)) cl HL.objs.size s2 H2 fp (X.pn ++ pins)) [] (capSt own caps σ) (upd H2 s2.heap.objs.size (.lst [])) { s2 with heap:=h₁,toks:=s2.toks + ([]:List (Str×A0)).length } :=
  comp_start I2 f2 hC rfl hfs S.kind hcl hhas S.caps hns₁ old hlst
 have st4:tn 0 h₁ := T.keep 0 _ _ st2 fun b hb o e=>old b o e
 have fr4:∀ b∈fp,upd H2 s2.heap.objs.size (.lst []) b=none:=fun b hb=>by
  rw [zah (Bm (hfs b hb))]; exact (f2 b hb).1
 have hCs:s2.heap.objs.size < HL.objs.size:=by rw [hC]; exact Em _
 have loop:codeAny (model X.prog X.w) X.A (.compLoop (.ListComp elt [⟨target,iter,ifs,0⟩] scope pos) 0 (.ref it) (.ref s2.heap.objs.size) (compEnvC scope cl HL.objs.size X.env))
   (compPost (model X.prog X.w) X.A X.xe use R (.ref s2.heap.objs.size) HL.objs.size) { s2 with heap:=h₁,toks:=s2.toks + ([]:List (Str×A0)).length }:=by
  refine comp_loop (fun n s'=>∃ i σ' H',Inv (cxComp X scope (own ++ caps.map (·.2)) cl HL.objs.size s2 H2 fp (X.pn ++ pins)) [] σ' H' s'/\tn i s'.heap/\(∀ b∈fp,H' b=none)/\W i n σ' H') ?_ m0 ⟨0,_,_,I4,st4,fr4,w0⟩
  have U:=T.steps (cxComp X scope (own ++ caps.map (·.2)) cl HL.objs.size s2 H2 fp (X.pn ++ pins)) rfl rfl rfl (hc _ _ _ _ _ _)
  rintro n s3 ⟨i,σ3,H3,I3,st3,fr3,w3⟩
  have stat:∀ {H':Hp},(∀ b∈fp,H' b=none)->∀ b∈fp,FpOk (cxComp X scope (own ++ caps.map (·.2)) cl HL.objs.size s2 H2 fp (X.pn ++ pins)) [] H' b:=fun {H'} hn b hb=>by
   refine ⟨hn b hb,(I3.ok.exf b hb).1,I3.ok.exfs b hb,.inl hb,(I3.ok.exf b hb).2,fun p hp => ?_⟩
   have hp':p∈X.pn ++ pins:=by
    have hp2:p∈(X.pn ++ pins) ++ []:=hp
    rwa [Cd] at hp2
   exact (f2 b hb).2.2.2.2.2 p hp'
  rcases turn i n σ3 H3 w3 with ⟨stop,qn⟩ | ⟨go,step⟩
  ·refine thn (U.done i [] s3 σ3 H3 _ I3 (stat fr3) st3 stop) fun r s4 ⟨hr,I4⟩ => ?_
   subst hr
   obtain ⟨m,hm,_⟩:=I4.loc
   refine fin s2.heap.objs.size HL.objs.size H3 s4 m (comp_back I2 f2 I4) hm I4.free (Br I2.sz (Er hCs)) (M7 (Gp I2.lt hCs)) (fun x c e z => ?_) (fun p hp z => ?_) qn
   ·obtain ⟨v,q⟩:=I2.cell x c e
    exact absurd (Gp q.lt hCs) (by rw [z]; exact Dw _)
   ·exact absurd (Gp (Ap (I2.pin p hp).1) hCs) (by rw [z]; exact Dw _)
  ·refine thn (U.item i [] s3 σ3 H3 _ I3 (stat fr3) st3 go) fun r s4 ⟨u,hr,h4⟩ => ?_
   subst hr
   refine thn h4 fun _ s5 ⟨x,H5,I5,r5,y5,st5,fr5⟩ => ?_
   have I5':=I5.pinned (stat fr5) (T.obj _ _ st5)
   refine thn (hg cl HL.objs.size s2 H2 fp (X.pn ++ pins) _ s5 σ3 H5 x u _ I5' r5 (step x H5 y5)) fun _ s6 ⟨σ6,H6,I6,q6⟩ => ?_
   refine thn (ht cl HL.objs.size s2 H2 fp (X.pn ++ pins) _ s6 σ6 H6 _ I6 q6) fun b s7 ⟨H7,I7,q7⟩ => ?_
   have again:∀ {σ8:St} {H8:Hp} {s8:A3} {m':Nat},Inv (cxComp X scope (own ++ caps.map (·.2)) cl HL.objs.size s2 H2 fp (X.pn ++ pins)) ([] ++ pinsAt fp s5.heap) σ8 H8 s8->m' < n->W (i + 1) m' σ8 H8 ->
     ∃ m,m < n/\∃ i σ' H',Inv (cxComp X scope (own ++ caps.map (·.2)) cl HL.objs.size s2 H2 fp (X.pn ++ pins)) [] σ' H' s8/\tn i s8.heap/\(∀ b∈fp,H' b=none)/\W i m σ' H':=fun {σ8 H8 s8 m'} I8 hm w8=>by
    refine ⟨m',hm,i + 1,σ8,H8,I8.unpinned,T.keep _ _ _ st5 fun b hb o e=>(I8.pin (b,o) (Bg _ (Bg _ (zb3 hb e)))).1,fun b hb => ?_,w8⟩
    obtain ⟨o,e,d⟩:=T.obj _ _ st5 b hb
    exact (I8.pin (b,o) (Bg _ (Bg _ (zb3 hb e)))).2.1
   cases b with
   | false =>
    rw [if_neg A9] at q7 ⊢
    obtain ⟨m',hm,w7⟩:=q7
    exact again I7 hm w7
   | true =>
    rw [if_pos rfl] at q7 ⊢
    refine thnE (he cl HL.objs.size s2 H2 fp (X.pn ++ pins) _ s7 σ6 H7 _ I7 q7) fun y s8 v H8 I8 r8 ⟨ys,hy,hz,m',hm,w8⟩ => ?_
    refine thn (zaV _ s8 σ6 H8 (.ref s2.heap.objs.size) [v] (.ref s2.heap.objs.size) [y] (fun _ H9=>H9=upd H8 s2.heap.objs.size (.lst (ys ++ [v]))) I8 rfl (.cons r8 .nil) ⟨_,ys,v,rfl,rfl,hy,hz,rfl⟩) fun z s9 ⟨_,H9,I9,_,e9⟩ => ?_
    subst e9
    exact again I9 hm w8
 exact codeAny_compStart_list loop (T.self _ 0 _ _ _ st4 loop)
theorem zaS (hc:X.calm=true) (S:CompScope X scope caps) (hi:PI X target iter wi)
  (hg:∀ cl C s H fp pn,PG (cxComp X scope (own ++ caps.map (·.2)) cl C s H fp pn) target g)
  (ht:∀ cl C s H fp pn,PTs (cxComp X scope (own ++ caps.map (·.2)) cl C s H fp pn) ifs tf)
  (he:∀ cl C s H fp pn,PE (cxComp X scope (own ++ caps.map (·.2)) cl C s H fp pn) elt te)
  (hs:∀ x,foldedSetIterable iter X.env x=pure x:=by intro _; rfl):PE X (.ListComp elt [⟨target,iter,ifs,0⟩] scope pos) (tComp wi own caps g tf te):=by
 intro pins s σ H Q I h
 rw [eval_ListComp]
 refine ze2 (Q:=Q) (fun Y=>Y.calm=true) (fun _ _ _ _ _ _=>hc) S hi.q hg ht he I h (fun D C H' s' m I' hm hn h0 hL h2 h3 q => ?_) hs
 exact ⟨m,hm,fun h' hs'=>⟨.ref D,H',I'.gone hs' hn h0 hL h2 h3,rfl,q⟩⟩
theorem zfh {i:Nat} {x:Str} {pos' spos:Pos} (hN:X.N.Nodup) (hn:X.N[i]?=some x) (hx:Loc X.env.scope x) (hc:X.calm=true) (S:CompScope X scope caps) (hi:PI X target iter wi)
  (hg:∀ cl C s H fp pn,PG (cxComp X scope (own ++ caps.map (·.2)) cl C s H fp pn) target g)
  (ht:∀ cl C s H fp pn,PTs (cxComp X scope (own ++ caps.map (·.2)) cl C s H fp pn) ifs tf)
  (he:∀ cl C s H fp pn,PE (cxComp X scope (own ++ caps.map (·.2)) cl C s H fp pn) elt te)
  (hsw:swapsWith (.ListComp elt [⟨target,iter,ifs,0⟩] scope pos) (some (.Name x pos')) spos.line X.env=pure true:=by rfl)
  (hf:X.fn x=true\/X.env.scope.names.lookup x=some .local:=by first | exact .inl rfl | exact .inr rfl | assumption)
  (hs:∀ x,foldedSetIterable iter X.env x=pure x:=by intro _; rfl):PS X (.Assign [.Name x pos'] (.ListComp elt [⟨target,iter,ifs,0⟩] scope pos) spos) (tAsg (tComp wi own caps g tf te) (gName i)):=by
 intro pins s σ H D I h
 rw [exec_Assign_Name_used _ _ _ _ hsw]
 refine A1 (K2 (A1 ?_))
 show wpAny _ _ (do let _ <- comprehension (.ListComp elt [⟨target,iter,ifs,0⟩] scope pos) scope X.env _ (newList []) false (eval iter X.env) (some (assign (.Name x pos') X.env))) _ _ s
 refine A1 (Di (ze2 (use:=some (assign (.Name x pos') X.env)) (R:=fun _ s'=>SP X pins D .next s') (Q:=fun v H1=>gName i v σ H1 D.nx) (fun Y=>Y.calm=true) (fun _ _ _ _ _ _=>hc) S hi.q hg ht he I h (fun Dl C H' s' m I' hm hnC h0 hL h2 h3 q => ?_) hs)
  (fun _ s' hq=>Ae (Ae hq)) fun _ _ e=>e)
 show wpAny _ _ (assign (.Name x pos') X.env (.ref Dl)) _ _ s'
 refine Op (zeu I' hN hn hx (show RelV (.ref Dl) (.ref Dl) from rfl) (fun s'' I'' sb => ?_) hf)
 obtain ⟨a,hsb,ha⟩:=sb
 have hCa:C≠a:=by
  rcases ha with z | z
  ·rw [z]; exact hL
  ·exact Dz (h2 x a z)
 exact ⟨m,hm.sameBut hsb hCa,fun h' hs'=>⟨_,H',I''.gone hs' hnC h0 hL h2 h3,q⟩⟩
end
noncomputable def sgn (c:Nat):V := .str ⟨#[c]⟩
noncomputable def Its (x:Str):It:=⟨fun i _=>i < x.cps.size,fun i H v H'=>H'=H/\∃ c,x.cps[i]?=some c/\v=sgn c,fun i _=>i=x.cps.size⟩
theorem zfG {P:Aq} {w:Bj} {K:Av} {tg:Cb} (it:A4) (x:Str) (t:Tok) (ty:String)
  (hty : ["enumerate","zip","dict_itemiterator","dict_reverseitemiterator","odict_iterator","itertools.zip_longest","itertools.pairwise"].contains ty=false)
  (W:∀ A:Bb,A.handled=none->Walks P w A it [it] [it] x.cps.size (SignAt x) (fun i h=>h.IsStrIter it ty x t i))
  (sf:∀ (A:Bb) (i:Nat) (s:A3) (Q:A0->A3->Prop) (E:A0->A3->Prop),s.heap.IsStrIter it ty x t i->Q (.ref it) s->wpAny (model P w) A (pyIter (.ref it)) Q E s) :
  Turn P w K tg (Its x) [it] it (fun i h=>h.IsStrIter it ty x t i) where
 mem:=by simp
 obj:=fun i h st b hb=>by
  have e:b=it:=by simpa using hb
  subst e
  obtain ⟨o,e,c,d⟩:=st
  exact ⟨o,e,fun v z=>by rw [d] at z; cases z⟩
 keep:=fun i h h' st k=>by
  obtain ⟨o,e,r⟩:=st
  exact ⟨o,k it (by simp) o e,r⟩
 item:=by
  intro X hP hw hK hc i pins s σ H E I hf st hg
  subst hP hw hK
  obtain ⟨f0,f1,f2,f3,f4,f5⟩:=hf it (by simp)
  refine (W X.A (I.ok.hd hc)).item i s _ _ hg st fun v h' tk hv st' kk => ?_
  obtain ⟨c,u,hc',rfl⟩:=hv
  have I1:Inv X pins σ H { s with heap:=h',toks:=tk }:=I.turned (fun b o hb e=>kk b o (by simpa using hb) e) f0 f1 f3 f4 f5
  obtain ⟨o,e,cc,d⟩:=id st'
  exact ⟨_,rfl,zgZ (s:={ s with heap:=h',toks:=tk }) e cc d hty ⟨sgn c,H,I1,⟨u,rfl⟩,⟨rfl,c,hc',rfl⟩,st',fun b hb=>(hf b hb).1⟩⟩
 done:=by
  intro X hP hw hK hc i pins s σ H E I hf st hg
  subst hP hw hK
  obtain ⟨f0,f1,f2,f3,f4,f5⟩:=hf it (by simp)
  have hi:i=x.cps.size:=hg
  subst hi
  exact (W X.A (I.ok.hd hc)).done s _ _ st fun h' tk kk=>⟨rfl,I.turned (fun b o hb e=>kk b o (by simpa using hb) e) f0 f1 f3 f4 f5⟩
 self:=fun A i s Q E st h=>sf A i s Q E st h
section
variable {X:Cx} {tg:Cb}
noncomputable def iStr (tl:TE):TI:=fun σ H R=>tl σ H fun v H1=>∃ x,v = .str x/\R (Its x) H1
theorem zhv {l:Cb} {tl:TE} (hl:PE X l tl):PI X tg l (iStr tl):=by
 intro pins s σ H R I h
 refine thnE (hl pins s σ H _ I h) fun v s1 y H1 I1 r1 q1 => ?_
 obtain ⟨x,e,q⟩:=q1
 subst e
 obtain ⟨t,rfl⟩:=r1
 have hf:∀ o:Obj,∀ b ∈ [s1.heap.objs.size],FpOk X pins H1 b:=fun o b hb=>by
  have e:b=s1.heap.objs.size:=by simpa using hb
  subst e
  exact I1.fpOk (Ac _) (I1.hok.fresh (Ac _))
 cases ha:x.cps.all (· < 128)
 ·exact wpAny_pyIter_wide ha ⟨s1.heap.objs.size,[s1.heap.objs.size],_,_,H1,rfl,I1.kept (t':=s1.toks) fun b o e=>Ad _ e,
   zfG _ x t "str_iterator" (by decide) (fun A hA=>Walks.strWide hA _ x t) (fun A i s Q E st h=>wpAny_pyIter_striter_wide st h),⟨_,Ba _ rfl,rfl,rfl⟩,hf default,q⟩
 ·exact wpAny_pyIter_ascii ha ⟨s1.heap.objs.size,[s1.heap.objs.size],_,_,H1,rfl,I1.kept (t':=s1.toks) fun b o e=>Ad _ e,
   zfG _ x t "str_ascii_iterator" (by decide) (fun A hA=>Walks.strAscii hA _ x t) (fun A i s Q E st h=>wpAny_pyIter_striter_ascii st h),⟨_,Ba _ rfl,rfl,rfl⟩,hf default,q⟩
end
structure Gives (J:It) (Ok:Hp->Prop) (L:List V):Prop where
 go:∀ i H,Ok H->i < L.length->J.go i H
 yld:∀ i H x H',Ok H->J.yld i H x H'->i < L.length->H'=H/\L[i]?=some x
 stop:∀ H,Ok H->J.stop L.length H
theorem zaP (lo:Int) (n:Nat):Gives (Itr lo n) (fun _=>True) ((Ab n).map fun i=>V.int (lo + (i:Nat))) where
 go:=fun i H _ h=>by
  have:i < n:=by simpa using h
  exact this
 yld:=fun i H x H' _ y h=>by
  obtain ⟨e,rfl⟩:=y
  have:i < n:=by simpa using h
  exact ⟨e,by simp [this]⟩
 stop:=fun H _=>by
  show n<=_
  simp
theorem zeV (x:Str):Gives (Its x) (fun _=>True) (x.cps.toList.map sgn) where
 go:=fun i H _ h=>by
  have:i < x.cps.size:=by simpa using h
  exact this
 yld:=fun i H v H' _ y h=>by
  obtain ⟨e,c,hc,rfl⟩:=y
  refine ⟨e,?_⟩
  rw [Af]
  simp [hc]
 stop:=fun H _=>by
  show _=x.cps.size
  simp
theorem zak (K:Av) (a:A4) (xs:List V):Gives (Itl K a) (fun H=>SqL K H a xs) xs where
 go:=fun i H q h=>⟨xs,xs[i],q,by simp [h]⟩
 yld:=fun i H v H' q y h=>⟨y.1,y.2 xs q⟩
 stop:=fun H q=>⟨xs,q,Ac _⟩
theorem gives_tup (K:Av) (a:A4) (xs:List V):Gives (Itt K a) (fun H=>SqT K H a xs) xs where
 go:=fun i H q h=>⟨xs,xs[i],q,by simp [h]⟩
 yld:=fun i H v H' q y h=>⟨y.1,y.2 xs q⟩
 stop:=fun H q=>⟨xs,q,Ac _⟩
theorem zbA {J:It} {Ok:Hp->Prop} {L:List V} {g:TG} {tb:TS} {D:Ends} {σ : St} {H:Hp} (G:Gives J Ok L) (Pv:Nat->St->Hp->Prop) (h0:Pv 0 σ H) (hk:∀ i σ H,i<=L.length->Pv i σ H->Ok H)
  (hs:∀ i x σ H,L[i]?=some x->Pv i σ H->g x σ H fun σ2 H2=>tb { D with nx:=Pv (i + 1),ct:=Pv (i + 1),bk:=D.nx } σ2 H2) (hd:∀ σ H,Pv L.length σ H->D.nx σ H) :
  ∃ W:Nat->Nat->St->Hp->Prop,(∃ m,W 0 m σ H)/\∀ i m σ H,W i m σ H ->
   (J.stop i H/\D.nx σ H)\/(J.go i H/\∃ N:St->Hp->Prop,(∀ σ' H',N σ' H'->∃ m',m' < m/\W (i + 1) m' σ' H')/\∀ x H',J.yld i H x H'->g x σ H' fun σ2 H2=>tb { D with nx:=N,ct:=N,bk:=D.nx } σ2 H2):=by
 refine ⟨fun i m σ H=>m=L.length - i/\i<=L.length/\Pv i σ H,⟨L.length,by simp,Bi _,h0⟩,?_⟩
 rintro i m σ H ⟨rfl,hi,p⟩
 have q:=hk i σ H hi p
 by_cases hlt:i < L.length
 ·refine .inr ⟨G.go i H q hlt,Pv (i + 1),fun σ' H' p'=>⟨L.length - (i + 1),by omega,rfl,hlt,p'⟩,fun x H' y => ?_⟩
  obtain ⟨e,yy⟩:=G.yld i H x H' q y hlt
  subst e
  exact hs i x σ _ yy p
 ·have e:i=L.length:=by omega
  subst e
  exact .inl ⟨G.stop H q,hd σ H p⟩
noncomputable def CNext (D:A4) (L:List V) (Pv:Nat->List V->St->Hp->Prop) (i:Nat) (σ2:St) (v:V) (H5:Hp):Prop :=
 ∃ ys,H5 D=some (.lst ys)/\ys.length < sizeLine/\∃ m',m' < L.length - i/\(m'=L.length - (i + 1)/\i + 1<=L.length/\∃ xs,Pv (i + 1) xs σ2 (upd H5 D (.lst (ys ++ [v]))))
noncomputable def CSkip (L:List V) (Pv:Nat->List V->St->Hp->Prop) (i:Nat) (σ2:St) (H4:Hp):Prop :=
 ∃ m',m' < L.length - i/\(m'=L.length - (i + 1)/\i + 1<=L.length/\∃ xs,Pv (i + 1) xs σ2 H4)
theorem CNext.of {D:A4} {L:List V} {Pv:Nat->List V->St->Hp->Prop} {i:Nat} {σ2:St} {v:V} {H5:Hp} {xs:List V} (hi:i < L.length) (hL:L.length<=sizeLine) (h5:H5 D=some (.lst xs)) (hx:xs.length<=i) (p:Pv (i + 1) (xs ++ [v]) σ2 (upd H5 D (.lst (xs ++ [v])))):CNext D L Pv i σ2 v H5 :=
 ⟨xs,h5,by omega,L.length - (i + 1),by omega,rfl,hi,_,p⟩
theorem CSkip.of {L:List V} {Pv:Nat->List V->St->Hp->Prop} {i:Nat} {σ2:St} {H4:Hp} {xs:List V} (hi:i < L.length) (p:Pv (i + 1) xs σ2 H4):CSkip L Pv i σ2 H4:=⟨L.length - (i + 1),by omega,rfl,hi,_,p⟩
theorem zhc {J:It} {Ok:Hp->Prop} {L:List V} {g:TG} {tf:TT} {te:TE} {D:A4} {σ0:St} {H1:Hp} {Q:VK} (G:Gives J Ok L) (Pv:Nat->List V->St->Hp->Prop) (h0:Pv 0 [] σ0 (upd H1 D (.lst [])))
  (hk:∀ i xs σ H,i<=L.length->Pv i xs σ H->Ok H)
  (hs:∀ i x xs σ H,i < L.length->L[i]?=some x->Pv i xs σ H->g x σ H fun σ2 H3=>tf σ2 H3 fun b H4=>if b=true then te σ2 H4 fun v H5=>CNext D L Pv i σ2 v H5 else CSkip L Pv i σ2 H4)
  (hd:∀ xs σ H,Pv L.length xs σ H->Q (.ref D) H) :
  CompW J D σ0 H1 g tf te Q:=by
 refine ⟨fun i m σ H=>m=L.length - i/\i<=L.length/\∃ xs,Pv i xs σ H,⟨L.length,by simp,Bi _,[],h0⟩,?_⟩
 rintro i m σ H ⟨rfl,hi,xs,p⟩
 have q:=hk i xs σ H hi p
 by_cases hlt:i < L.length
 ·refine .inr ⟨G.go i H q hlt,fun x H' y => ?_⟩
  obtain ⟨e,yy⟩:=G.yld i H x H' q y hlt
  subst e
  exact hs i x xs σ _ hlt yy p
 ·have e:i=L.length:=by omega
  subst e
  exact .inl ⟨G.stop H q,hd xs σ H p⟩
theorem Same.put {H0 H:Hp} {p:A4} {o:HO} (s:Same H0 H) (n:H0 p=none):Same H0 (upd H p o):=fun b u e=>by
 rw [zah (zao e n)]
 exact s b u e
theorem Same.new {H:Hp} {p:A4} {o:HO} (n:H p=none):Same H (upd H p o):=(Same.refl H).put n
theorem Same.tup {K:Av} {H H':Hp} {a:A4} {xs:List V} (e:Same H H') (h:SqT K H a xs):SqT K H' a xs:=by
 rcases h with (h | ⟨o,h⟩) | h
 ·exact .inl (.inl (e _ _ h))
 ·exact .inl (.inr ⟨o,e _ _ h⟩)
 ·exact .inr h
theorem zaB {α : Type} {l:List α} {i:Nat} {x : α} (h:l[i]?=some x):l.take (i + 1)=l.take i ++ [x]:=by
 rw [List.take_add_one,h]
 rfl
theorem zbQ {J:It} {Ok:Hp->Prop} {L:List V} {tf:TT} {te:TE} {D:A4} {σ0 capv:St} {H1:Hp} {Q:VK} (hσ : σ0=none :: capv) (G:Gives J Ok L) (hL:L.length<=sizeLine) (hD:H1 D=none) (hOk:∀ H,Same H1 H->Ok H) (p:V->Bool) (F:V->V)
  (ht:∀ x∈L,∀ H R,Same H1 H->(∀ H',Same H H'->R (p x) H')->tf (some x :: capv) H R)
  (he:∀ x∈L,p x=true->∀ H R,Same H1 H->(∀ H',Same H H'->R (F x) H')->te (some x :: capv) H R)
  (hd:∀ H,Same H1 H->H D=some (.lst ((L.filter p).map F))->Q (.ref D) H) :
  CompW J D σ0 H1 (gName 0) tf te Q:=by
 subst hσ
 refine zhc G (fun i xs σ H=>(∃ o,σ = o :: capv)/\Same H1 H/\H D=some (.lst xs)/\xs=((L.take i).filter p).map F) ⟨⟨none,rfl⟩,Same.new hD,zac,by simp⟩ (fun i xs σ H _ h=>hOk H h.2.1) ?_ ?_
 ·rintro i x xs σ H hi hx ⟨⟨o,rfl⟩,s,e,exs⟩
  have hm:x∈L:=Be hx
  have hxl:xs.length<=i:=by
   rw [exs,A2]
   exact Br (Cn _ _) (by rw [Cq]; omega)
  show tf (some x :: capv) H _
  refine ht x hm H _ s fun H' s' => ?_
  cases hp:p x with
  | true =>
   rw [if_pos rfl]
   refine he x hm hp H' _ (s.trans s') fun H'' s'' => ?_
   have e'':H'' D=some (.lst xs):=s'' _ _ (s' _ _ e)
   refine CNext.of hi hL e'' hxl ⟨⟨some x,rfl⟩,((s.trans s').trans s'').put hD,zac,?_⟩
   rw [zaB hx,Ce,Az,exs]
   simp [hp]
  | false =>
   rw [if_neg A9]
   refine CSkip.of hi ⟨⟨some x,rfl⟩,s.trans s',s' _ _ e,?_⟩
   rw [zaB hx,Ce,Az,exs]
   simp [hp]
 ·rintro xs σ H ⟨_,s,e,exs⟩
  refine hd H s ?_
  rw [e,exs,By]
theorem zcn {P:Aq} {w:Bj} {A:Bb} {E:A0->A3->Prop} {s:A3} {a:A4} {its:List A0} {Q:A0->A3->Prop} (hh:A.handled=none) (hl:s.heap.IsList a its.toArray)
  (h:∀ (I:A4) (s2:A3),s2={ s with heap:=s.heap.push { cls := .type "list_iterator",data := .fields #[.ref a,.int 0 0] } }->I=s.heap.objs.size ->
   Walks P w A I [I,a] [I] its.length (fun i v=>its[i]?=some v) (fun i h=>h.IsListIter I a i/\h.IsList a its.toArray)->(s2.heap.IsListIter I a 0/\s2.heap.IsList a its.toArray)->(∀ b ∈ [I,a],b < s2.heap.objs.size) ->
   (∀ h':Bz,(∀ b o,b ∉ [I]->s2.heap.get? b=some o->h'.get? b=some o)->∀ b o,s.heap.get? b=some o->h'.get? b=some o)->Q (.ref I) s2) :
  wpAny (model P w) A (pyIter (.ref a)) Q E s:=by
 have hlt:a < s.heap.objs.size:=by obtain ⟨_,e,_⟩:=hl; exact Ap e
 refine Oo hl (h _ _ rfl rfl ?_ ⟨⟨_,Ba _ rfl,rfl,rfl⟩,hl.push _⟩ (fun b hb => ?_) (fun h' k b o e=>k b o ?_ (Ad _ e)))
 ·have W:=Walks.list (prog:=P) (w:=w) (A:=A) hh s.heap.objs.size a (Bm hlt) its.toArray
  simpa using W
 ·show b < (s.heap.push _).objs.size
  rw [F5]
  rcases B9.mp hb with rfl | hb
  ·exact Em _
  ·have e:b=a:=by simpa using hb
   subst e
   exact Fy hlt
 ·intro z
  have e2:b=s.heap.objs.size:=by simpa using z
  subst e2
  exact absurd (Ap e) (Dw _)
theorem zfD {xs:List V} {us:List A0} (r:Vals xs us) {i:Nat} {u:A0} (h:us[i]?=some u):∃ x,xs[i]?=some x/\RelV x u:=by
 have hi:i < xs.length:=by rw [r.length]; exact (Ar.mp h).1
 obtain ⟨u',hu,ru⟩:=r.get (x:=xs[i]) (i:=i) (by simp [hi])
 rw [h] at hu
 cases hu
 exact ⟨_,by simp [hi],ru⟩
theorem range_all_map (bs:List Bool):(Ab bs.length).all (fun i=>bs.getD i false)=bs.all id:=by
 rw [B5,Df,Df]
 constructor
 ·intro h x hx
  obtain ⟨i,hi,e⟩:=J7.mp hx
  have:=h i (B7.mpr hi)
  simp only [Ak,hi,getElem?_pos,Hh,e] at this
  exact this
 ·intro h i hi
  have hi':=B7.mp hi
  simp only [Ak,hi',getElem?_pos,Hh]
  exact h _ (Cv hi')
theorem range_any_map (bs:List Bool):(Ab bs.length).any (fun i=>bs.getD i false)=bs.any id:=by
 rw [B5,Bq,Bq]
 constructor
 ·rintro ⟨i,hi,h⟩
  have hi':=B7.mp hi
  simp only [Ak,hi',getElem?_pos,Hh] at h
  exact ⟨_,Cv hi',h⟩
 ·rintro ⟨x,hx,h⟩
  obtain ⟨i,hi,e⟩:=J7.mp hx
  refine ⟨i,B7.mpr hi,?_⟩
  simp only [Ak,hi,getElem?_pos,Hh,e]
  exact h
section
variable {X:Cx}
theorem zfH {P:Aq} {w:Bj} {A:Bb} {bs:List Bool} {its:List A0} (r:Vals (bs.map V.bl) its):TruthOf P w A (fun i v=>its[i]?=some v) (fun i=>bs.getD i false):=by
 intro i v s Q E hv q
 obtain ⟨x,hx,rx⟩:=zfD r hv
 rw [Af] at hx
 cases e:bs[i]? with
 | none=>rw [e] at hx; cases hx
 | some b =>
  rw [e] at hx
  cases hx
  cases (show v=F0 b from rx)
  refine Ct ?_
  have eb:bs.getD i false=b:=by rw [Ak,e]; rfl
  rw [<- eb]
  exact q
theorem zc9 (hc:X.calm=true):CallR X (.builtin "all") (fun xs H Q=>∃ (a:A4) (bs:List Bool),xs = [V.ref a]/\SqL X.K H a (bs.map V.bl)/\Q (.bl (bs.all id)) H):=by
 intro pins s σ H xs us Q I r h
 obtain ⟨a,bs,rfl,hq,q⟩:=h
 obtain ⟨u,rfl,ru⟩:=zbR r
 cases ru
 obtain ⟨its,rv,p,hz⟩:=I.list hq
 refine call_all_walk (zcn (A:=X.A.in1) (I.ok.hd hc) p.isList fun It s2 e2 eI W st hf old => ?_)
 have hl:bs.length=its.length:=by have:=rv.length; rwa [A2] at this
 refine ⟨It,_,_,its.length,_,_,_,rfl,W,st,zfH rv,fun h' tk k => ?_⟩
 subst e2
 rw [<- hl,range_all_map]
 exact ⟨.bl _,H,I.kept (t':=tk) (old h' k),rfl,q⟩
theorem call_any (hc:X.calm=true):CallR X (.builtin "any") (fun xs H Q=>∃ (a:A4) (bs:List Bool),xs = [V.ref a]/\SqL X.K H a (bs.map V.bl)/\Q (.bl (bs.any id)) H):=by
 intro pins s σ H xs us Q I r h
 obtain ⟨a,bs,rfl,hq,q⟩:=h
 obtain ⟨u,rfl,ru⟩:=zbR r
 cases ru
 obtain ⟨its,rv,p,hz⟩:=I.list hq
 refine call_any_walk (zcn (A:=X.A.in1) (I.ok.hd hc) p.isList fun It s2 e2 eI W st hf old => ?_)
 have hl:bs.length=its.length:=by have:=rv.length; rwa [A2] at this
 refine ⟨It,_,_,its.length,_,_,_,rfl,W,st,zfH rv,fun h' tk k => ?_⟩
 subst e2
 rw [<- hl,range_any_map]
 exact ⟨.bl _,H,I.kept (t':=tk) (old h' k),rfl,q⟩
theorem zc5:∀ {ns:List Int} {its:List A0},Vals (ns.map V.int) its->Du its ns
 | [],_,r=>by rw [Fq] at r; cases r; exact .nil
 | n :: ns,_,r=>by
  rw [An] at r
  cases r with
  | cons h t =>
   obtain ⟨tk,e⟩:=(show ∃ t,_=Hn n t from h)
   subst e
   exact .cons n tk (zc5 t)
theorem zei {ns:List Int} {its:List A0} (r:Vals (ns.map V.int) its) {i:Nat} {v:A0} (h:its[i]?=some v):∃ t,v = .int (ns.getD i 0) t:=by
 obtain ⟨x,hx,rx⟩:=zfD r h
 rw [Af] at hx
 cases e:ns[i]? with
 | none=>rw [e] at hx; cases hx
 | some n =>
  rw [e] at hx
  cases hx
  have en:ns.getD i 0=n:=by rw [Ak,e]; rfl
  rw [en]
  exact rx
theorem call_max1 (hc:X.calm=true):CallR X (.builtin "max") (fun xs H Q=>∃ (a:A4) (ns:List Int),xs = [V.ref a]/\SqL X.K H a (ns.map V.int)/\0 < ns.length/\∀ M,M∈ns->(∀ n∈ns,n<=M)->Q (.int M) H):=by
 intro pins s σ H xs us Q I r h
 obtain ⟨a,ns,rfl,hq,hne,q⟩:=h
 obtain ⟨u,rfl,ru⟩:=zbR r
 cases ru
 obtain ⟨its,rv,p,hz⟩:=I.list hq
 have hl:ns.length=its.length:=by have:=rv.length; rwa [A2] at this
 refine call_max_walk (zcn (A:=X.A.in1) (I.ok.hd hc) p.isList fun It s2 e2 eI W st hf old => ?_)
 refine ⟨It,_,_,its.length,_,_,_,rfl,W,st,hf,by omega,CmpOf.ints_gt (fun i=>ns.getD i 0) (fun _ _=>zei rv),fun v h' tk hv k => ?_⟩
 subst e2
 obtain ⟨t,rfl⟩:=zei rv hv
 obtain ⟨h1,h2⟩:=argBest_gt (fun i=>ns.getD i 0) (its.length - 1)
 refine ⟨.int _,H,I.kept (t':=tk) (old h' k),⟨t,rfl⟩,q _ ?_ fun n hn => ?_⟩
 ·have hlt:argBest (fun i j=>decide (ns.getD i 0 > ns.getD j 0)) (its.length - 1) < ns.length:=by omega
  rw [Ak,A8 hlt]
  exact Cv hlt
 ·obtain ⟨j,hj,e⟩:=J7.mp hn
  have:=h2 j (by omega)
  have ej:ns.getD j 0=n:=by
   rw [Ak,A8 hj,e]
   rfl
  rw [ej] at this
  exact this
theorem zdS (ns:List Int):∀ k,k<=ns.length->preSum (fun i=>ns.getD i 0) k=(ns.take k).sum
 | 0,_=>rfl
 | k + 1,h=>by
  have hk:k < ns.length:=by omega
  rw [preSum,zdS ns k (by omega),zaB (x:=ns[k]) (by simp [hk]),Kh]
  simp [Ak,hk]
theorem ze3 (hc:X.calm=true):CallR X (.builtin "sum") (fun xs H Q=>∃ (a:A4) (ns:List Int),xs = [V.ref a]/\SqL X.K H a (ns.map V.int)/\Q (.int ns.sum) H):=by
 intro pins s σ H xs us Q I r h
 obtain ⟨a,ns,rfl,hq,q⟩:=h
 obtain ⟨u,rfl,ru⟩:=zbR r
 cases ru
 obtain ⟨its,rv,p,hz⟩:=I.list hq
 have hl:ns.length=its.length:=by have:=rv.length; rwa [A2] at this
 refine call_sum_walkG (zcn (A:=X.A.in1) (I.ok.hd hc) p.isList fun It s2 e2 eI W st hf old => ?_)
 refine ⟨It,_,_,its.length,_,_,(fun i=>ns.getD i 0),rfl,W,st,hf,(fun _ _=>zei rv),fun h' tk t' k => ?_⟩
 subst e2
 refine ⟨.int _,H,I.kept (t':=tk) (old h' k),⟨t',rfl⟩,?_⟩
 rw [<- hl,zdS ns _ (Ac _),By]
 exact q
noncomputable def many (ns:List Int):Nat:=(firstMet (fun i=>ns.getD i 0) ns.length).length
theorem call_set1 (hc:X.calm=true):CallR X (.type "set") (fun xs H Q=>∃ (a:A4) (ns:List Int),xs = [V.ref a]/\SqL X.K H a (ns.map V.int)/\ns.length + 1 < scanBound/\∀ p,H p=none->Q (.ref p) (upd H p (.set (fun k=>(firstMet (fun i=>ns.getD i 0) ns.length).any (· == k)) (many ns)))):=by
 intro pins s σ H xs us Q I r h
 obtain ⟨a,ns,rfl,hq,hb,q⟩:=h
 obtain ⟨u,rfl,ru⟩:=zbR r
 cases ru
 obtain ⟨its,rv,p,hz⟩:=I.list hq
 have hl:ns.length=its.length:=by have:=rv.length; rwa [A2] at this
 have hsz:its.toArray.size=ns.length:=by rw [B8,hl]
 refine call_set_list (items:=its.toArray) (ns:=ns) (I.ok.hd hc) p.isList (by simpa using zc5 rv) (by rw [hsz]; exact hb) fun h' tk hS k => ?_
 rw [hsz] at hS
 have I':Inv X pins σ (upd H s.heap.objs.size (.set (fun k=>(firstMet (fun i=>ns.getD i 0) ns.length).any (· == k)) (many ns))) { s with heap:=h',toks:=tk } :=
  I.laid (fun b o e=>k b o (Ap e) e) (Ac _) hS
 exact ⟨.ref _,_,I',rfl,q _ (I.hok.fresh (Ac _))⟩
theorem call_lenS:CallR X (.builtin "len") (fun xs H Q=>∃ a S n,xs = [V.ref a]/\H a=some (.set S n)/\Q (.int n) H):=by
 intro pins s σ H xs us Q I r h
 obtain ⟨a,S,n,rfl,hq,q⟩:=h
 obtain ⟨u,rfl,ru⟩:=zbR r
 cases ru
 obtain ⟨o,es,ep,t,h1,h2,h3,h4,h5,h6,h7,h8⟩:=(show s.heap.SetOf (intKind X.prog X.w) a S n from I.hok a _ hq)
 have hfit:(es.size:Int) < 2 ^ 63:=by
  have:(es.size:Int) < 4096:=by unfold scanBound at h6; omega
  exact Int.lt_of_lt_of_le this (by decide)
 exact call_len_set h1 h2 h3 h7 hfit ⟨.int n,H,I.tok _,⟨_,by rw [h8]⟩,q⟩
theorem zeJ:OpR X (compareOp .LtE) (fun x y H Q=>∃ i j,x = .str i/\y = .str j/\Q (.bl (!decide (j.cps.toList < i.cps.toList))) H):=by
 intro pins s σ H x y v u Q I rx ry h
 obtain ⟨i,j,rfl,rfl,q⟩:=h
 obtain ⟨t,rfl⟩:=rx
 obtain ⟨t',rfl⟩:=ry
 exact Nc (zaD I q rfl)
theorem call_isi {c:A0} {cv:V} (hcv:RelV cv c) (huniq:∀ u,RelV cv u->u=c):CallR X (.builtin "isinstance") (fun xs H Q=>∃ x t b,xs = [x,cv]/\TyOf X.K H x t/\K9 X.K t c=some b/\Q (.bl b) H):=by
 intro pins s σ H xs us Q I r h
 obtain ⟨x,t,b,rfl,ty,e,q⟩:=h
 obtain ⟨u,u',rfl,ru,ru'⟩:=zhP r
 have:=huniq u' ru'
 subst this
 exact isinst_ok I ru ty e fun tk=>⟨.bl b,H,I.tok _,rfl,q⟩
theorem zb7 (T:String):CallR X (.builtin "isinstance") (fun xs H Q=>∃ x t b,xs = [x,.ty T]/\TyOf X.K H x t/\K9 X.K t (.type T)=some b/\Q (.bl b) H):=call_isi (c := .type T) (cv := .ty T) rfl fun _ h=>h
end
section
variable {X:Cx}
noncomputable def tCut (t u:TS):TS:=fun D σ H=>∃ M:St->Hp->Prop,t { D with nx:=M } σ H/\∀ σ' H',M σ' H'->u D σ' H'
theorem zbF {st:Cj} {rest:List Cj} {t u:TS} (h1:PS X st t) (h2:PSs X rest u):PSs X (st :: rest) (tCut t u):=by
 intro pins s σ H D I h
 obtain ⟨M,h,hM⟩:=h
 refine Ky (thn (h1 pins s σ H { D with nx:=M } I h) fun f s1 q => ?_)
 cases f with
 | next =>
  obtain ⟨σ',H',I',q⟩:=q
  exact h2 pins s1 σ' H' D I' (hM σ' H' q)
 | ret v=>exact q
 | brk=>exact q
 | cont=>exact q
theorem zaz {scope:Fn} {N:List Str} {cl:List (Str×A4)} {C:A4} {s:A3} {H:Hp} {fp:List A4} {pn:List (A4×Obj)} (h:N.Nodup):(cxComp X scope N cl C s H fp pn).N.Nodup:=h
theorem zbG {x:Str} {i:Int} {pos:Pos} (hg:Gl X x) (hm:∃ t,X.mg x=some (.int i t)) (hd:(x == ("__debug__" : Str))=false:=by decide):PE X (.Name x pos) (tC (.int i)):=by
 obtain ⟨t,hm⟩:=hm
 exact zgH hg hm ⟨t,rfl⟩ hd
end
theorem ln1 {P:List A0->Prop} {p:Str} (h:∀ a,P [a]):∀ us:List A0,us.length = [p].length->P us
 | [a],_=>h a
theorem ln2 {P:List A0->Prop} {p q:Str} (h:∀ a b,P [a,b]):∀ us:List A0,us.length = [p,q].length->P us
 | [a,b],_=>h a b
theorem ln3 {P:List A0->Prop} {p q r:Str} (h:∀ a b c,P [a,b,c]):∀ us:List A0,us.length = [p,q,r].length->P us
 | [a,b,c],_=>h a b c
theorem ln4 {P:List A0->Prop} {p q r s:Str} (h:∀ a b c d,P [a,b,c,d]):∀ us:List A0,us.length = [p,q,r,s].length->P us
 | [a,b,c,d],_=>h a b c d
structure Callee (P:Aq) (w:Bj) (K:Av) (mg:Str->Option A0) (base:Bz) (x:Str) (k:Nat) (ps:List Str) (sp:Sp):Prop where
 ex:∃ f fd,FnOk P w K mg base CX0 k f fd ps sp/\mg x=some (.ref f)/\Dj K (.ref f)=true/\Binds K fd ps []/\∃ o,K.lookup f=some o/\o.data = .func fd
structure DefAt (K:Av) (mg:Str->Option A0) (x:Str) (st:Cj):Prop where
 ex:∃ f fd,Fun K x x st f fd/\mg x=some (.ref f)
theorem def_mk {K:Av} {mg:Str->Option A0} {h:Bz} {x:Str} {st:Cj} {f:A4} {oc:A0} {od an:Option A4} {osl:Array (Option A0)} {kV doc pm cdv ct:A0} (X:K.In h) (G:h.Ns mainGlobals mg)
  (a:Bw K mainGlobals x=some (some (.ref f)))
  (l:K.lookup f=some ⟨oc,od,.func (D4 x x (defArgs st) (defBody st) (defScope st) .none kV doc pm an cdv ct),osl⟩)
  (c:Fh K cdv x=true) (k:Dj K (.ref f)=true):DefAt K mg x st:=⟨f,_,zg1 l c k,Km X G a⟩
theorem int_mk {K:Av} {mg:Str->Option A0} {h:Bz} {x:Str} {i:Int} {t:Tok} (X:K.In h) (G:h.Ns mainGlobals mg) (a:Bw K mainGlobals x=some (some (.int i t))):∃ t,mg x=some (.int i t):=⟨t,Km X G a⟩
section
variable {P:Aq} {w:Bj} {K:Av} {mg:Str->Option A0} {base:Bz}
theorem DefAt.callee {x:Str} {st:Cj} {N ps:List Str} {k:Nat} {sp:Sp} (D:DefAt K mg x st) (S:FnScope N ps (defScope st))
  (hb:∀ (kV doc pm:A0) (an:Option A4) (cdv ct:A0) (us:List A0),us.length=ps.length->bindArgs (D4 x x (defArgs st) (defBody st) (defScope st) .none kV doc pm an cdv ct) ⟨us,[]⟩=pure (ps.zip us))
  (len:∀ vs H Q E,sp vs H Q E->vs.length=ps.length)
  (hbody:∀ (f:A4) (cdv:A0) (A:Bb) (outer:List Env) (s:A3) (H:Hp) (vs:List V) (Q:VK) (E:XK),Room k (A.deeper (envOfC x (defScope st) s.heap.objs.size f cdv))->sp vs H Q E ->
   ∃ t,PSs (cxOf CX0 P w K mg base N x (defScope st) f cdv A outer s H E).nox (defBody st) t/\t { nx:=fun _ H'=>Q .non H',rt:=Q } (start N vs) H):Callee P w K mg base x (k + 1) ps sp:=by
 obtain ⟨f,fd,F,m⟩:=D.ex
 obtain ⟨oc,od,kV,doc,pm,an,cdv,ct,osl,e,lk,hcd⟩:=id F.ex
 exact ⟨f,fd,F.ok S len (fun cdv A outer s H vs Q E hr h=>hbody f cdv A outer s H vs Q E hr h),m,F.kp,F.binds hb,_,lk,rfl⟩
end
section
variable {X:Cx} {x:Str} {k:Nat} {ps:List Str} {sp:Sp} {p pos:Pos} {e:Cb} {es:List Cb} {t:TA}
theorem zaH (C:Callee X.prog X.w X.K X.mg X.base x k ps sp) (hr:Room k X.A) (hg:Gl X x) (ha:PA X (e :: es) t) (hdb:(x == ("__debug__" : Str))=false:=by decide)
  (he:starEach (e :: es) X.env=(false,eval e X.env) :: starEach es X.env:=by rfl) (hpl:(backTo pos (starEach es X.env)).any (·.1)=false:=by rfl):PE X (.Call (.Name x p) (e :: es) [] pos) (tCall sp [] E0 t):=by
 obtain ⟨f,fd,F,hm,hk,hb,_⟩:=C.ex
 exact zgI F hr hg hm hk hb .nil zeH ha hdb he hpl
end
structure Bn (mg:Str->Option A0):Prop where
 n_len:mg "len" = none
 n_all:mg "all" = none
 n_any:mg "any" = none
 n_max:mg "max" = none
 n_min:mg "min" = none
 n_sum:mg "sum" = none
 n_sorted:mg "sorted" = none
 n_isinstance:mg "isinstance" = none
 n_int:mg "int" = none
 n_bool:mg "bool" = none
 n_str:mg "str" = none
 n_list:mg "list" = none
 n_tuple:mg "tuple" = none
 n_dict:mg "dict" = none
 n_set:mg "set" = none
 n_range:mg "range" = none
 n_reversed:mg "reversed" = none
 n_repr:mg "repr" = none
 n_abs:mg "abs" = none
 n_enumerate:mg "enumerate" = none
 n_zip:mg "zip" = none
theorem bn_mk {K:Av} {mg:Str->Option A0} {h:Bz} (X:K.In h) (G:h.Ns mainGlobals mg)
  (a_len:Bw K mainGlobals "len" = some none)
  (a_all:Bw K mainGlobals "all" = some none)
  (a_any:Bw K mainGlobals "any" = some none)
  (a_max:Bw K mainGlobals "max" = some none)
  (a_min:Bw K mainGlobals "min" = some none)
  (a_sum:Bw K mainGlobals "sum" = some none)
  (a_sorted:Bw K mainGlobals "sorted" = some none)
  (a_isinstance:Bw K mainGlobals "isinstance" = some none)
  (a_int:Bw K mainGlobals "int" = some none)
  (a_bool:Bw K mainGlobals "bool" = some none)
  (a_str:Bw K mainGlobals "str" = some none)
  (a_list:Bw K mainGlobals "list" = some none)
  (a_tuple:Bw K mainGlobals "tuple" = some none)
  (a_dict:Bw K mainGlobals "dict" = some none)
  (a_set:Bw K mainGlobals "set" = some none)
  (a_range:Bw K mainGlobals "range" = some none)
  (a_reversed:Bw K mainGlobals "reversed" = some none)
  (a_repr:Bw K mainGlobals "repr" = some none)
  (a_abs:Bw K mainGlobals "abs" = some none)
  (a_enumerate:Bw K mainGlobals "enumerate" = some none)
  (a_zip:Bw K mainGlobals "zip" = some none)
  : Bn mg:=⟨Bf X G a_len,Bf X G a_all,Bf X G a_any,Bf X G a_max,Bf X G a_min,Bf X G a_sum,Bf X G a_sorted,Bf X G a_isinstance,Bf X G a_int,Bf X G a_bool,Bf X G a_str,Bf X G a_list,Bf X G a_tuple,Bf X G a_dict,Bf X G a_set,Bf X G a_range,Bf X G a_reversed,Bf X G a_repr,Bf X G a_abs,Bf X G a_enumerate,Bf X G a_zip⟩
theorem DefAt.entry {P:Aq} {w:Bj} {K:Av} {mg:Str->Option A0} {x p:Str} {st:Cj} {k:Nat} {sp:Sp} {fa:A4} (D:DefAt K mg x st) (hfa:mg x=some (.ref fa))
  (hb:∀ (kV doc pm:A0) (an:Option A4) (cdv ct v:A0),bindArgs (D4 x x (defArgs st) (defBody st) (defScope st) .none kV doc pm an cdv ct) ⟨[v],[]⟩=pure [(p,v)])
  (C:∀ base:Bz,Callee P w K mg base x k [p] sp) :
  ∃ fd:Ej,(∀ (s:A3) (v:A0),Ks s fd ⟨[v],[]⟩ [(p,v)])/\∀ base:Bz,K.In base->base.Ns mainGlobals mg->FnOk P w K mg base CX0 k fa fd [p] sp:=by
 obtain ⟨f,fd,F,m⟩:=D.ex
 rw [m] at hfa
 cases hfa
 obtain ⟨oc,od,kV,doc,pm,an,cdv,ct,osl,rfl,lk,hcd⟩:=F.ex
 refine ⟨_,fun s v => .of_eq (hb kV doc pm an cdv ct v),fun base _ _ => ?_⟩
 obtain ⟨f',fd',G,m',_,_,o,lo,ed⟩:=(C base).ex
 rw [m] at m'
 cases m'
 rw [lk] at lo
 cases lo
 cases ed
 exact G
structure Fly (B:Bz) (l:List Env) (x:A4) (c fl:A0) (h:Bz):Prop where
 stay:B.StaysIn h
 new:B.get? x=none
 frs:h.FunFrames B l
 obj:∃ (oe:Obj) (vs:Array A0) (T:A4) (oT:Obj) (ts:Array A0),h.get? x=some oe/\(oe.cls=c/\oe.dict=none)/\oe.data = .fields vs/\vs[1]?=some (.ref T)/\vs[2]?=some .none/\B.get? T=none/\T≠x/\h.get? T=some oT/\oT.data = .fields ts/\ts[3]?=some fl
structure Fresh (B:Bz) (l:List Env) (x:A4) (c:A0) (h:Bz):Prop where
 stay:B.StaysIn h
 new:B.get? x=none
 frs:h.FunFrames B l
 obj:∃ (oe:Obj) (vs:Array A0),h.get? x=some oe/\(oe.cls=c/\oe.dict=none)/\oe.data = .fields vs/\vs[1]?=some .none/\vs[2]?=some .none
section
variable {M:Hv} {A:Bb} {E:A0->A3->Prop} {s:A3} {B:Bz} {l outer:List Env} {env:Env} {x L:A4} {c:A0}
theorem dict_mapFields (o:Obj) (f:Array A0->Array A0):(o.mapFields f).dict=o.dict:=by
 unfold Fd
 split <;> rfl
theorem zaI {h:Bz} {a b:A4} {o:Obj} {vs:Array A0} {f:Array A0->Array A0} (ha:h.get? a=some o) (hd:o.data = .fields vs) :
  (h.update a (Fd f)).get? a=some (o.mapFields f)/\(b≠a->(h.update a (Fd f)).get? b=h.get? b) :=
 ⟨Is _ ha (Mg (Fi hd f)),fun hb=>Ic _ _ (Dz hb)⟩
theorem zeX {oe:Obj} {vs:Array A0} {head:A0} {hadNext:Bool} {Q:Unit->A3->Prop} (hfr:A.frames=some (env :: outer)) (hl:s.heap.FunFrames B (env :: outer)) (hf:env.frame=some L)
  (st:B.StaysIn s.heap) (nx:B.get? x=none) (hx:s.heap.get? x=some oe) (hc:oe.cls=c/\oe.dict=none) (hd:oe.data = .fields vs) (h2:vs[2]?=some .none)
  (k:∀ h',Fly B (env :: outer) x c (rawInt L) h'->s.heap.UpToSlots h'->Q () { s with heap:=h' }) :
  wpAny M A (do let a <- frameOf env; let pl <- entryPlaceOf L hadNext; let b <- L8 head a .none (rawInt L) .none pl; setField (.ref x) 1 b) Q E s:=by
 have hsz:2 < vs.size:=(Gs.mp h2).1
 have xnf:x ∉ (env :: outer).filterMap (·.frame):=fun hm=>by
  obtain ⟨_,o,ho,hno⟩:=hl.mem hm
  rw [hx] at ho
  cases ho
  exact hno vs hd
 refine A1 (wpAny_frameOf_fun hfr hl hf fun g1 so=>A1 (wpAny_entryPlaceOf fun pl hpl => ?_))
 unfold L8 newFields
 refine A1 (G9 ?_ (hpl.sizeOk5 _ _ _ _ _))
 have hx1:g1.get? x=some oe:=(so.2.1 x xnf).trans hx
 have st1:B.StaysIn g1:=fun b o hb=>by
  refine (so.2.1 b fun hm => ?_).trans (st b o hb)
  have:=(hl.mem hm).1
  rw [hb] at this
  cases this
 have big:x < g1.objs.size:=Ap hx1
 generalize hnew:({ cls := .type "traceback",dict:=none,data := .fields ([head,.ref L,.none,rawInt L,.none] ++ (if pl.isEmpty then C0 6 Ee else pl)).toArray }:Obj)=tb
 have hx2:(g1.push tb).get? x=some oe:=Ad tb hx1
 refine Hj hx2 hd (by omega) (k _ ?_ ?_)
 ·have tx:g1.objs.size≠x:=M7 big
  obtain ⟨e1,e2⟩:=zaI (b:=g1.objs.size) (f:=fun a=>a.setIfInBounds 1 (B1 g1.objs.size)) hx2 hd
  have hT:(g1.push tb).get? g1.objs.size=some tb:=Ba g1 (by rw [<- hnew]; rfl)
  refine ⟨fun b o hb => ?_,nx,hl.of_keeps fun b o hb hno => ?_,_,_,g1.objs.size,tb,_,e1,⟨(No _ _).trans hc.1,(dict_mapFields _ _).trans hc.2⟩,Fi hd _,(by show (vs.setIfInBounds 1 (B1 g1.objs.size))[1]?=_; simp [show 1 < vs.size by omega]),?_,st1.fresh,tx,(e2 tx).trans hT,by rw [<- hnew],?_⟩
  ·obtain ⟨_,e3⟩:=zaI (b:=b) (f:=fun a=>a.setIfInBounds 1 (B1 g1.objs.size)) hx2 hd
   refine (e3 fun z => ?_).trans (Ad tb (st1 b o hb))
   rw [z,nx] at hb
   cases hb
  ·have bx:b≠x:=fun z=>by
    rw [z,hx] at hb
    cases hb
    exact hno vs hd
   obtain ⟨sl,hs⟩:=so.2.2 b o hb
   obtain ⟨_,e3⟩:=zaI (b:=b) (f:=fun a=>a.setIfInBounds 1 (B1 g1.objs.size)) hx2 hd
   exact ⟨_,(e3 bx).trans (Ad tb hs),rfl⟩
  ·rw [Array.getElem?_setIfInBounds_ne (by decide)]
   exact h2
  ·rcases hpl with rfl | ⟨_,_,_,_,_,_,_,rfl⟩ <;> rfl
 ·intro b o hb hno
  have bx:b≠x:=fun z=>by
   rw [z,hx] at hb
   cases hb
   exact hno vs hd
  obtain ⟨sl,hs⟩:=so.2.2 b o hb
  obtain ⟨_,e3⟩:=zaI (b:=b) (f:=fun a=>a.setIfInBounds 1 (B1 g1.objs.size)) hx2 hd
  exact ⟨sl,(e3 bx).trans (Ad tb hs)⟩
theorem zgd {fl:A0} {Q:Unit->A3->Prop} (F:Fly B l x c fl s.heap) (k:∀ h',Fly B l x c .none h'->s.heap.UpToSlots h'->Q () { s with heap:=h' }):wpAny M A (setFlight (.ref x) none) Q E s:=by
 obtain ⟨oe,vs,T,oT,ts,hx,hc,hd,h1,h2,nT,tx,hT,dT,h3⟩:=F.obj
 have hsz:3 < ts.size:=(Gs.mp h3).1
 unfold setFlight
 refine A1 (La hx hd h1 ?_)
 rw [if_pos (by simp)]
 refine Hj hT dT hsz (k _ ?_ ?_)
 ·have e:∀ b,b≠T->(s.heap.update T (Fd (·.setIfInBounds 3 ((none:Option A4).elim Ee fun f=>rawInt f)))).get? b=s.heap.get? b:=fun b hb=>(zaI hT dT).2 hb
  refine ⟨fun b o hb=>(e b fun z => ?_).trans (F.stay b o hb),F.new,F.frs.of_keeps fun b o hb hno=>⟨o,(e b fun z => ?_).trans hb,rfl⟩,oe,vs,T,_,_,(e x (Dz tx)).trans hx,hc,hd,h1,h2,nT,tx,(zaI (b:=T) hT dT).1,Fi dT _,by simp [hsz]⟩
  ·rw [z,nT] at hb; cases hb
  ·rw [z,hT] at hb; cases hb; exact hno ts dT
 ·intro b o hb hno
  refine ⟨o.slots,((zaI hT dT).2 fun z => ?_).trans hb⟩
  rw [z,hT] at hb; cases hb; exact hno ts dT
theorem fly_note {Q:Unit->A3->Prop} (hfr:A.frames=some (env :: outer)) (hf:env.frame=some L) (F:Fly B (env :: outer) x c .none s.heap)
  (k:∀ h',Fly B (env :: outer) x c (rawInt L) h'->s.heap.UpToSlots h'->Q () { s with heap:=h' }):wpAny M A (noteFrame (.ref x) env) Q E s:=by
 obtain ⟨oe,vs,T,oT,ts,hx,hc,hd,h1,h2,nT,tx,hT,dT,h3⟩:=F.obj
 have hsz:3 < ts.size:=(Gs.mp h3).1
 unfold noteFrame
 simp only [hf]
 refine A1 (La hx hd h1 ?_)
 rw [if_pos (by simp)]
 refine A1 (La hT dT h3 ?_)
 rw [if_neg (by simp [rawInt])]
 refine A1 (Hj hT dT hsz ?_)
 have e:∀ b,b≠T->(s.heap.update T (Fd (·.setIfInBounds 3 Ee))).get? b=s.heap.get? b:=fun b hb=>(zaI hT dT).2 hb
 have nf:∀ b o,s.heap.get? b=some o->(∀ vs,o.data ≠ .fields vs)->b≠T:=fun b o hb hno z=>by
  rw [z,hT] at hb; cases hb; exact hno ts dT
 refine zeX hfr (F.frs.of_keeps fun b o hb hno=>⟨o,(e b (nf b o hb hno)).trans hb,rfl⟩) hf (fun b o hb=>(e b fun z => ?_).trans (F.stay b o hb)) F.new ((e x (Dz tx)).trans hx) hc hd h2 fun h' F' u=>k h' F' fun b o hb hno => ?_
 ·rw [z,nT] at hb; cases hb
 ·exact u b o ((e b (nf b o hb hno)).trans hb) hno
theorem fresh_note {Q:Unit->A3->Prop} (hfr:A.frames=some (env :: outer)) (hf:env.frame=some L) (F:Fresh B (env :: outer) x c s.heap)
  (k:∀ h',Fly B (env :: outer) x c (rawInt L) h'->s.heap.UpToSlots h'->Q () { s with heap:=h' }):wpAny M A (noteFrame (.ref x) env) Q E s:=by
 obtain ⟨oe,vs,hx,hc,hd,h1,h2⟩:=F.obj
 unfold noteFrame
 simp only [hf]
 refine A1 (La hx hd h1 ?_)
 rw [if_neg (by decide)]
 exact zeX hfr F.frs hf F.stay F.new hx hc hd h2 k
theorem Fly.tail {fl:A0} {h:Bz} (F:Fly B (env :: outer) x c fl h):Fly B outer x c fl h:=⟨F.stay,F.new,F.frs.2.2,F.obj⟩
theorem fly_leave {Q:Unit->A3->Prop} (hfr:A.frames=some (env :: outer)) (hf:env.frame=some L) (F:Fly B (env :: outer) x c .none s.heap)
  (k:∀ h',Fly B outer x c .none h'->s.heap.UpToSlots h'->Q () { s with heap:=h' }):wpAny M A (leaving env (.ref x)) Q E s:=by
 unfold leaving
 exact A1 (fly_note hfr hf F fun h1 F1 u1=>zgd (s:={ s with heap:=h1 }) F1 fun h2 F2 u2=>k h2 F2.tail (u1.trans u2))
theorem fresh_leave {Q:Unit->A3->Prop} (hfr:A.frames=some (env :: outer)) (hf:env.frame=some L) (F:Fresh B (env :: outer) x c s.heap)
  (k:∀ h',Fly B outer x c .none h'->s.heap.UpToSlots h'->Q () { s with heap:=h' }):wpAny M A (leaving env (.ref x)) Q E s:=by
 unfold leaving
 exact A1 (fresh_note hfr hf F fun h1 F1 u1=>zgd (s:={ s with heap:=h1 }) F1 fun h2 F2 u2=>k h2 F2.tail (u1.trans u2))
end
section
variable {P:Aq} {w:Bj}
theorem ObjOk.there {H:Hp} {h:Bz} {a:A4} {o:HO} (x:ObjOk P w H h a o):∃ ob,h.get? a=some ob:=by
 cases o with
 | lst xs=>obtain ⟨_,_,_,_,e⟩:=x; exact ⟨_,e⟩
 | tup xs=>obtain ⟨_,_,_,o,e,_⟩:=x; exact ⟨o,e⟩
 | dK kvs=>obtain ⟨_,_,_,_,o,_,_,e,_⟩:=x; exact ⟨o,e⟩
 | dT kvs=>obtain ⟨_,_,_,_,o,_,_,e,_⟩:=x; exact ⟨o,e⟩
 | set S n=>obtain ⟨o,_,_,_,e,_⟩:=x; exact ⟨o,e⟩
 | ins C dx fs=>obtain ⟨_,_,_,e,_⟩:=x; exact ⟨_,e⟩
 | own y=>exact x
 | xd fs=>obtain ⟨_,⟨o,_,_,e,_⟩,_⟩:=x; exact ⟨o,e⟩
 | rng lo hi=>obtain ⟨_,_,_,e⟩:=x; exact ⟨_,e⟩
 | frz ob u=>obtain ⟨e,_⟩:=x; exact ⟨_,e⟩
 | tbl ps=>exact ⟨_,(show h.get? a=some _ from x)⟩
 | met f y=>exact ⟨_,(show h.get? a=some _ from x)⟩
 | ext φ => obtain ⟨_,e,_⟩:=x; exact e
noncomputable def CX1 (P:Aq) (w:Bj):CXT:=fun outer H s E e s'=>∃ (x:A4) (c:A0) (B:Bz) (H':Hp),e = .ref x/\Fly B outer x c .none s'.heap/\s'.os=s.os/\Hg s'.gens/\Un (frs outer) [] H H' s.heap s'.heap/\HOk P w H' s'.heap/\H' x=none /\
 (∀ b o,H' b=some o->∃ ob,B.get? b=some ob)/\(∀ b o,s.heap.get? b=some o->b ∉ frs outer->∃ ob,B.get? b=some ob)/\E c none H'
theorem zg2 {B h h':Bz} {H:Hp} (ok:HOk P w H h) (st:B.StaysIn h) (st':B.StaysIn h') (inB:∀ b o,H b=some o->∃ ob,B.get? b=some ob):HOk P w H h':=fun a o e=>by
 refine (ok a o e).stay (fun b u hb q => ?_) (fun _ q=>q) fun _ _ q=>q
 have ⟨ob,hB⟩:∃ ob,B.get? b=some ob:=by
  rcases hb with z | z
  ·rw [z]; exact inB a o e
  ·exact inB b _ z
 have:=st b ob hB
 rw [q] at this
 cases this
 exact st' b _ hB
theorem zhD {B h0 h h':Bz} {fs:List A4} {H H':Hp} (u:Un fs [] H H' h0 h) (st:B.StaysIn h) (st':B.StaysIn h') (up:h.UpToSlots h') (inB:∀ b o,h0.get? b=some o->b ∉ fs->∃ ob,B.get? b=some ob)
  (hfs:∀ b∈fs,∀ o,h.get? b=some o->∀ vs,o.data ≠ .fields vs):Un fs [] H H' h0 h' where
 keep:=fun b o e n hb hx=>by
  obtain ⟨ob,hB⟩:=inB b o e hb
  have q:=u.keep b o e n hb hx
  have:=st b ob hB
  rw [q] at this
  cases this
  exact st' b _ hB
 slot:=fun b o e n hb hx=>by
  obtain ⟨sl,q⟩:=u.slot b o e n hb hx
  obtain ⟨sl',q'⟩:=up b _ q (hfs b hb _ q)
  exact ⟨sl',q'⟩
 free:=u.free
 there:=fun b o e hx=>by
  by_cases hb:b∈fs
  ·obtain ⟨o',q⟩:=u.there b o e hx
   obtain ⟨sl,q'⟩:=up b o' q (hfs b hb o' q)
   exact ⟨_,q'⟩
  ·obtain ⟨ob,hB⟩:=inB b o e hb
   exact ⟨ob,st' b ob hB⟩
 tups:=u.tups
 frzs:=u.frzs
 tbls:=u.tbls
theorem zge {B h:Bz} {l:List Env} (f:h.FunFrames B l):∀ b∈frs l,∀ o,h.get? b=some o->∀ vs,o.data ≠ .fields vs:=fun b hb o e vs=>by
 obtain ⟨_,o',e',hno⟩:=f.mem hb
 rw [e] at e'
 cases e'
 exact hno vs
theorem zdH {X:Cx} {pins:List (A4×Obj)} {σ : St} {H H':Hp} {s:A3} {h':Bz} (I:Inv X pins σ H s) (hex:X.ex = []) (u:Un (frs X.stack) [] H H' s.heap h'):Un X.fs [] X.H₀ H' X.s₀.heap h':=by
 have nl:∀ b o,X.s₀.heap.get? b=some o->b≠X.env.locals:=fun b o e=>Bm (Ai (Ap e) I.ok.above)
 have nst:∀ b o,X.s₀.heap.get? b=some o->b ∉ X.fs->b ∉ frs X.stack:=fun b o e hb z=>(B9.mp (I.stkSub b z)).elim (nl b o e) hb
 have B:=I.base
 rw [hex] at B
 refine ⟨fun b o e n hb hx=>u.keep b o (B.keep b o e n hb hx) (B.free b o e n hx) (nst b o e hb) hx,fun b o e n hb hx => ?_,fun b o e n hx => ?_,fun b o e hx => ?_,fun b xs e=>u.tups b xs (B.tups b xs e),fun b o v e=>u.frzs b o v (B.frzs b o v e),fun b ps e => ?_⟩
 ·obtain ⟨sl,e1⟩:=B.slot b o e n hb hx
  obtain ⟨sl',e2⟩:=u.any e1 (B.free b o e n hx) hx
  exact ⟨sl',e2⟩
 ·obtain ⟨o',e1⟩:=B.there b o e hx
  exact u.free b o' e1 (B.free b o e n hx) hx
 ·obtain ⟨o',e1⟩:=B.there b o e hx
  exact u.there b o' e1 hx
 ·obtain ⟨m1,e1⟩:=B.tbls b ps e
  obtain ⟨m2,e2⟩:=u.tbls b _ e1
  exact ⟨m1 ++ m2,by rw [e2,Jk]⟩
theorem zbz {K:Av} {mg:Str->Option A0} {base:Bz} {N:List Str} {qual:Str} {scope:Fn} {f:A4} {cd:A0} {A:Bb} {outer:List Env} {s₀ : A3} {H₀ : Hp} {E:XK} :
  Passes (CX1 P w) (cxOf (CX1 P w) P w K mg base N qual scope f cd A outer s₀ H₀ E) E:=by
 intro pins σ H s e s' I h
 obtain ⟨x,c,B,H',rfl,F,ho,hg,u,ok,nx,inB,old,q⟩:=h
 have hfr:(A.deeper (envOfC qual scope s₀.heap.objs.size f cd)).frames=some (envOfC qual scope s₀.heap.objs.size f cd :: outer):=I.ok.frames
 have ut:Un (frs outer) [] H₀ H' s₀.heap s'.heap:=zdH I rfl u
 have old':∀ b o,s₀.heap.get? b=some o->b ∉ frs outer->∃ ob,B.get? b=some ob:=fun b o e hb=>by
  obtain ⟨o',e1⟩:=I.base.there b o e (by show b ∉ ([]:List A4); simp)
  refine old b o' e1 fun z => ?_
  rcases B9.mp (I.stkSub b z) with z | z
  ·exact absurd (Ai (Ap e) I.ok.above) (by rw [z]; exact Dw _)
  ·exact hb z
 show wpAny (model P w) _ (leaving _ (.ref x)) _ _ s'
 refine fly_leave hfr rfl F fun h' F' up=>⟨x,c,B,H',rfl,F',(show s'.os=s₀.os from ho.trans I.os),hg,zhD ut F.stay F'.stay up old' (zge F.tail.frs),zg2 ok F.stay F'.stay inB,nx,inB,old',q⟩
theorem pass_no {X:Cx} {E:XK} (hE:∀ c d H,¬ E c d H):Passes (CX1 P w) X E:=fun _ _ _ _ _ _ _ h=>by
 obtain ⟨_,_,_,_,_,_,_,_,_,_,_,_,_,q⟩:=h
 exact (hE _ _ _ q).elim
theorem zaK {X:Cx}:Passes (CX1 P w) X E0:=pass_no fun _ _ _ h=>h
theorem raise_out {K:Av} {mg:Str->Option A0} {base:Bz} {N:List Str} {qual:Str} {scope:Fn} {f:A4} {cd:A0} {A:Bb} {outer:List Env} {s₀ : A3} {H₀ : Hp} {E:XK} {pins:List (A4×Obj)} {σ : St} {H:Hp} {s s':A3} {x:A4} {c:A0} {args:List A0}
  (I:Inv (cxOf (CX1 P w) P w K mg base N qual scope f cd A outer s₀ H₀ E) pins σ H s) (hx:Heap.MadeExcOf s.heap s'.heap x c args) (ho:s'.os=s.os) (hg:Hg s'.gens) (q:E c none H) :
  (cxOf (CX1 P w) P w K mg base N qual scope f cd A outer s₀ H₀ E).xe (.ref x) s':=by
 have hfr:(A.deeper (envOfC qual scope s₀.heap.objs.size f cd)).frames=some (envOfC qual scope s₀.heap.objs.size f cd :: outer):=I.ok.frames
 have hin:∀ env∈envOfC qual scope s₀.heap.objs.size f cd :: outer,∀ a,env.frame=some a->a∈frs (envOfC qual scope s₀.heap.objs.size f cd :: outer):=fun env he a ha=>Jm.mpr ⟨env,he,ha⟩
 have st:(E2 s.heap (frs (envOfC qual scope s₀.heap.objs.size f cd :: outer))).StaysIn s'.heap:=fun b o e=>hx.keeps b o (J8 _ e)
 have nx:(E2 s.heap (frs (envOfC qual scope s₀.heap.objs.size f cd :: outer))).get? x=none:=by
  cases e:(E2 s.heap (frs (envOfC qual scope s₀.heap.objs.size f cd :: outer))).get? x with
  | none=>rfl
  | some o =>
   have:=J8 _ e
   rw [hx.new] at this
   cases this
 have fr0:s.heap.FunFrames (E2 s.heap (frs (envOfC qual scope s₀.heap.objs.size f cd :: outer))) (envOfC qual scope s₀.heap.objs.size f cd :: outer):=PySem.W.funFrames_hide I.stack hin
 obtain ⟨t,hobj,_,_⟩:=hx.there
 have F:Fresh (E2 s.heap (frs (envOfC qual scope s₀.heap.objs.size f cd :: outer))) (envOfC qual scope s₀.heap.objs.size f cd :: outer) x c s'.heap :=
  ⟨st,nx,fr0.of_keeps fun b o hb _=>⟨o,hx.keeps b o hb,rfl⟩,_,_,hobj,⟨rfl,rfl⟩,rfl,rfl,rfl⟩
 have inB:∀ b o,s.heap.get? b=some o->b ∉ frs (envOfC qual scope s₀.heap.objs.size f cd :: outer)->∃ ob,(E2 s.heap (frs (envOfC qual scope s₀.heap.objs.size f cd :: outer))).get? b=some ob:=fun b o e hb=>⟨o,Lr _ e hb⟩
 have trk:∀ b o,H b=some o->∃ ob,(E2 s.heap (frs (envOfC qual scope s₀.heap.objs.size f cd :: outer))).get? b=some ob:=fun b o e=>by
  have lt:=I.hok.lt e
  cases e2:s.heap.get? b with
  | none =>
   exfalso
   have ok:=I.hok b o e
   obtain ⟨ob,hob⟩:=ok.there
   rw [e2] at hob
   cases hob
  | some ob =>
   refine inB b ob e2 fun z => ?_
   have:=I.stkFree b z
   rw [e] at this
   cases this
 have old:∀ b o,s₀.heap.get? b=some o->b ∉ frs outer->∃ ob,(E2 s.heap (frs (envOfC qual scope s₀.heap.objs.size f cd :: outer))).get? b=some ob:=fun b o e hb=>by
  obtain ⟨o',e1⟩:=I.base.there b o e (by show b ∉ ([]:List A4); simp)
  refine inB b o' e1 fun z => ?_
  rcases B9.mp (I.stkSub b z) with z | z
  ·exact absurd (Ai (Ap e) I.ok.above) (by rw [z]; exact Dw _)
  ·exact hb z
 have u0:Un (frs outer) [] H₀ H s₀.heap s.heap:=zdH I rfl Un.refl
 have u1:Un (frs outer) [] H₀ H s₀.heap s'.heap:=u0.trans (Un.kept hx.keeps)
 have ok1:HOk P w H s'.heap:=I.hok.kept hx.keeps
 have nxH:H x=none:=by
  cases e:H x with
  | none=>rfl
  | some o =>
   obtain ⟨ob,hob⟩:=(I.hok x o e).there
   rw [hx.new] at hob
   cases hob
 show wpAny (model P w) _ (leaving _ (.ref x)) _ _ s'
 exact fresh_leave hfr rfl F fun h' F' up=>⟨x,c,_,H,rfl,F',(show s'.os=s₀.os from ho.trans I.os),hg,zhD u1 F.stay F'.stay up old (zge F.frs.2.2),zg2 ok1 F.stay F'.stay trk,nxH,trk,old,q⟩
end
section
variable {prog:Aq} {w:Bj} {A:Bb} {E:A0->A3->Prop} {s:A3}
end
section
variable {X:Cx} {tg:Cb} {e:A4} {oe:Obj}
end
section
variable {X:Cx} {k:Nat} {f:A4} {fd:Ej} {ps:List Str} {sp:Sp} {x:Str} {p pos:Pos} {ex:Cb} {es:List Cb} {t:TA} {e:A4} {oe:Obj}
end
section
variable {X:Cx} {pins:List (A4×Obj)} {σ : St} {H:Hp} {s:A3}
end
section
variable {prog:Aq} {w:Bj} {A:Bb} {E:A0->A3->Prop} {s:A3} {K:Av} {x D:A4} {ox:Obj}
end
section
variable {X:Cx}
end
structure Err (K:Av) (mg:Str->Option A0) (x:Str) (C:A4):Prop where
 bound:mg x=some (.ref C)
 exc:Dh K C [.type "ValueError",.type "Exception",.type "BaseException",.type "object"] "ValueError.__new__" = true
theorem err_obj {K:Av} {h:Bz} {C:A4} {bmB:List A0} {newId:String} (X:K.In h) (q:Dh K C bmB newId=true) :
  ∃ bm N nm q bs hdct sn sub ab col dd k0 k1 k2 k3 k5 mN,h.get? C=some (excClassObj nm q C N bs bm hdct sn sub ab col dd k0 k1 k2 k3 k5 newId)/\h.Ns N mN/\mN "__init__" = none/\OwnTail h bmB bm:=by
 unfold Dh at q
 split at q
 ·next dd cd sl ho =>
  split at q
  ·next C' bm k0 k1 k2 k3 n k5 hm hs =>
   simp only [Cg,beq_iff_eq,Fw] at q
   obtain ⟨⟨⟨⟨⟨r1,r2⟩,hdel⟩,ht⟩,hok⟩,hni⟩:=q
   subst r1 r2
   cases cd with
   | mk nm bs mro ns qn hd sn sub ab col del =>
    dsimp only at hm hdel hok hni
    subst hm hdel
    cases sl with
    | mk l =>
     simp only at hs
     subst hs
     exact ⟨bm,ns,nm,qn,bs,hd,sn,sub,ab,col,dd,k0,k1,k2,k3,k5,_,X _ _ ho,.of_isNs (PySem.W.isNs_of_in X hok),PySem.W.nsMap_none_of_in X hok hni,PySem.W.tail_of_in X ht⟩
  ·cases q
 ·cases q
noncomputable def tRaise (E:XK) (C:A4) (ta:TA):TS:=fun _ σ H=>ta σ H fun vs H1=>vs.length<=sizeLine/\E (.ref C) none H1
section
variable {P:Aq} {w:Bj} {K:Av} {mg:Str->Option A0} {base:Bz} {N:List Str} {qual:Str} {scope:Fn} {f:A4} {cd:A0} {A:Bb} {outer:List Env} {s₀ : A3} {H₀ : Hp} {E:XK}
theorem zbd {x:Str} {C:A4} {np cpos pos:Pos} {e:Cb} {es:List Cb} {t:TA} (O:Err K mg x C) (hg:Gl (cxOf (CX1 P w) P w K mg base N qual scope f cd A outer s₀ H₀ E) x)
  (ha:PA (cxOf (CX1 P w) P w K mg base N qual scope f cd A outer s₀ H₀ E) (e :: es) t) (hd:(x == ("__debug__" : Str))=false:=by decide)
  (he:starEach (e :: es) (envOfC qual scope s₀.heap.objs.size f cd)=(false,eval e (envOfC qual scope s₀.heap.objs.size f cd)) :: starEach es (envOfC qual scope s₀.heap.objs.size f cd):=by rfl)
  (hpl:(backTo cpos (starEach es (envOfC qual scope s₀.heap.objs.size f cd))).any (·.1)=false:=by rfl) :
  PS (cxOf (CX1 P w) P w K mg base N qual scope f cd A outer s₀ H₀ E) (.Raise (some (.Call (.Name x np) (e :: es) [] cpos)) none pos) (tRaise E C t):=by
 intro pins s σ H D I h
 obtain ⟨bm,Nn,nm,q,bs,hdct,sn,sub,ab,col,dd,k0,k1,k2,k3,k5,mN,hC,hN,hni,T⟩:=err_obj I.ok.mod.kin O.exc
 refine wpAny_Raise_call_subT (C:=C) (nm:=nm) (q:=q) (N:=Nn) (bs:=bs) (bm:=bm) (hdct:=hdct) (sn:=sn) (sub:=sub) (ab:=ab) (col:=col) (dd:=dd) (k0:=k0) (k1:=k1) (k2:=k2) (k3:=k3) (k5:=k5) (env:=envOfC qual scope s₀.heap.objs.size f cd)
  F.excBase_ValueError (mN:=mN) (T.hasType F.excBase_ValueError.hasBase) (I.ok.hd rfl) ?_ hni (zeh I hg O.bound ⟨rfl,?_⟩ hd)
 ·rw [he]
  show (false || (backTo cpos (starEach es (envOfC qual scope s₀.heap.objs.size f cd))).any (·.1))=false
  rw [hpl]; rfl
 ·have g:=ha cpos pins s σ H _ I h
  change wpAny _ _ (spliced (backTo cpos (starEach (e :: es) (envOfC qual scope s₀.heap.objs.size f cd)))) _ _ s at g
  rw [he] at g ⊢
  refine Mb (thn g fun us s2 ⟨vs,H1,I1,r,hl,q⟩ => ?_)
  exact ⟨rfl,by rw [<- r.length]; exact hl,I1.bk _ _ hC,hN.keeps I1.bk,T.keeps I1.bk,fun h' x hx=>raise_out I1 hx rfl I1.bare q⟩
end
structure Callee1 (P:Aq) (w:Bj) (K:Av) (mg:Str->Option A0) (base:Bz) (x:Str) (k:Nat) (ps:List Str) (sp:Sp):Prop where
 ex:∃ f fd,FnOk P w K mg base (CX1 P w) k f fd ps sp/\mg x=some (.ref f)/\Dj K (.ref f)=true/\Binds K fd ps []
structure MethAt (K:Av) (C:A4) (cn m:Str) (st:Cj):Prop where
 ex:∃ f fd,Fun K m (cn ++ A5 "." ++ m) st f fd/\Meth K C m f
structure Method (P:Aq) (w:Bj) (K:Av) (mg:Str->Option A0) (base:Bz) (C:A4) (m:Str) (CX:CXT) (k:Nat) (ps:List Str) (sp:Sp):Prop where
 ex:∃ f fd,FnOk P w K mg base CX k f fd ps sp/\Meth K C m f/\Binds K fd ps []
section
variable {P:Aq} {w:Bj} {K:Av} {mg:Str->Option A0} {base:Bz}
theorem Fun.ok1 {x qual:Str} {st:Cj} {f:A4} {fd:Ej} {N ps:List Str} {k:Nat} {sp:Sp} (F:Fun K x qual st f fd) (S:FnScope N ps (defScope st)) (len:∀ vs H Q E,sp vs H Q E->vs.length=ps.length)
  (hbody:∀ (cdv:A0) (A:Bb) (outer:List Env) (s:A3) (H:Hp) (vs:List V) (Q:VK) (E:XK),Room k (A.deeper (envOfC qual (defScope st) s.heap.objs.size f cdv))->sp vs H Q E ->
   ∃ t,PSs (cxOf (CX1 P w) P w K mg base N qual (defScope st) f cdv A outer s H E) (defBody st) t/\t { nx:=fun _ H'=>Q .non H',rt:=Q } (start N vs) H):FnOk P w K mg base (CX1 P w) (k + 1) f fd ps sp:=by
 obtain ⟨oc,od,kV,doc,pm,an,cdv,ct,osl,rfl,lk,hcd⟩:=F.ex
 exact zhU lk hcd S len fun A outer s H vs Q E hr hsp=>hbody cdv A outer s H vs Q E hr hsp
theorem DefAt.callee1 {x:Str} {st:Cj} {N ps:List Str} {k:Nat} {sp:Sp} (D:DefAt K mg x st) (S:FnScope N ps (defScope st))
  (hb:∀ (kV doc pm:A0) (an:Option A4) (cdv ct:A0) (us:List A0),us.length=ps.length->bindArgs (D4 x x (defArgs st) (defBody st) (defScope st) .none kV doc pm an cdv ct) ⟨us,[]⟩=pure (ps.zip us))
  (len:∀ vs H Q E,sp vs H Q E->vs.length=ps.length)
  (hbody:∀ (f:A4) (cdv:A0) (A:Bb) (outer:List Env) (s:A3) (H:Hp) (vs:List V) (Q:VK) (E:XK),Room k (A.deeper (envOfC x (defScope st) s.heap.objs.size f cdv))->sp vs H Q E ->
   ∃ t,PSs (cxOf (CX1 P w) P w K mg base N x (defScope st) f cdv A outer s H E) (defBody st) t/\t { nx:=fun _ H'=>Q .non H',rt:=Q } (start N vs) H):Callee1 P w K mg base x (k + 1) ps sp:=by
 obtain ⟨f,fd,F,m⟩:=D.ex
 exact ⟨f,fd,F.ok1 S len (fun cdv A outer s H vs Q E hr h=>hbody f cdv A outer s H vs Q E hr h),m,F.kp,F.binds hb⟩
theorem MethAt.meth1 {cn m:Str} {C:A4} {st:Cj} {N ps:List Str} {k:Nat} {sp:Sp} (D:MethAt K C cn m st) (S:FnScope N ps (defScope st))
  (hb:∀ (kV doc pm:A0) (an:Option A4) (cdv ct:A0) (us:List A0),us.length=ps.length->bindArgs (D4 m (cn ++ A5 "." ++ m) (defArgs st) (defBody st) (defScope st) .none kV doc pm an cdv ct) ⟨us,[]⟩=pure (ps.zip us))
  (len:∀ vs H Q E,sp vs H Q E->vs.length=ps.length)
  (hbody:∀ (f:A4) (cdv:A0) (A:Bb) (outer:List Env) (s:A3) (H:Hp) (vs:List V) (Q:VK) (E:XK),Room k (A.deeper (envOfC (cn ++ A5 "." ++ m) (defScope st) s.heap.objs.size f cdv))->sp vs H Q E ->
   ∃ t,PSs (cxOf (CX1 P w) P w K mg base N (cn ++ A5 "." ++ m) (defScope st) f cdv A outer s H E) (defBody st) t/\t { nx:=fun _ H'=>Q .non H',rt:=Q } (start N vs) H):Method P w K mg base C m (CX1 P w) (k + 1) ps sp:=by
 obtain ⟨f,fd,F,m⟩:=D.ex
 exact ⟨f,fd,F.ok1 S len (fun cdv A outer s H vs Q E hr h=>hbody f cdv A outer s H vs Q E hr h),m,F.binds hb⟩
theorem MethAt.meth0 {cn m:Str} {C:A4} {st:Cj} {N ps:List Str} {k:Nat} {sp:Sp} (D:MethAt K C cn m st) (S:FnScope N ps (defScope st))
  (hb:∀ (kV doc pm:A0) (an:Option A4) (cdv ct:A0) (us:List A0),us.length=ps.length->bindArgs (D4 m (cn ++ A5 "." ++ m) (defArgs st) (defBody st) (defScope st) .none kV doc pm an cdv ct) ⟨us,[]⟩=pure (ps.zip us))
  (len:∀ vs H Q E,sp vs H Q E->vs.length=ps.length)
  (hbody:∀ (f:A4) (cdv:A0) (A:Bb) (outer:List Env) (s:A3) (H:Hp) (vs:List V) (Q:VK) (E:XK),Room k (A.deeper (envOfC (cn ++ A5 "." ++ m) (defScope st) s.heap.objs.size f cdv))->sp vs H Q E ->
   ∃ t,PSs (cxOf CX0 P w K mg base N (cn ++ A5 "." ++ m) (defScope st) f cdv A outer s H E).nox (defBody st) t/\t { nx:=fun _ H'=>Q .non H',rt:=Q } (start N vs) H):Method P w K mg base C m CX0 (k + 1) ps sp:=by
 obtain ⟨f,fd,F,m⟩:=D.ex
 exact ⟨f,fd,F.ok S len (fun cdv A outer s H vs Q E hr h=>hbody f cdv A outer s H vs Q E hr h),m,F.binds hb⟩
end
section
variable {X:Cx} {x m:Str} {k:Nat} {ps:List Str} {sp:Sp} {p pos apos:Pos} {o e:Cb} {es:List Cb} {ta:TE} {t:TA} {E:XK} {C:A4} {CX:CXT}
theorem zbw (F:Callee1 X.prog X.w X.K X.mg X.base x k ps sp) (hr:Room k X.A) (hx:Passes (CX1 X.prog X.w) X E) (hg:Gl X x) (ha:PA X (e :: es) t) (hdb:(x == ("__debug__" : Str))=false:=by decide)
  (he:starEach (e :: es) X.env=(false,eval e X.env) :: starEach es X.env:=by rfl) (hpl:(backTo pos (starEach es X.env)).any (·.1)=false:=by rfl):PE X (.Call (.Name x p) (e :: es) [] pos) (tCall sp [] E t):=by
 obtain ⟨f,fd,F,hm,hk,hb⟩:=F.ex
 exact zgI F hr hg hm hk hb .nil hx ha hdb he hpl
theorem zgG {pl:Sem Bool} (he:PE X o ta) (c:Cls X.K C) (F:Method X.prog X.w X.K X.mg X.base C m CX k ps sp) (hr:Room k X.A) (hx:Passes CX X E) (ha:PA X (e :: es) t)
  (hst:starEach (e :: es) X.env=(false,eval e X.env) :: starEach es X.env:=by rfl) (hpl:(backTo pos (starEach es X.env)).any (·.1)=false:=by rfl)
  (ht:eval (.Call (.Attribute o m apos) (e :: es) [] pos) X.env=(do
   let ov <- eval o X.env
   standAt apos.atName
   let (f,first) <- holding [ov] (getMethod ov m pl)
   callWith pos f first (backTo pos (starEach (e :: es) X.env)) (backToKw pos (keywordEach [] X.env))):=by rfl) :
  PE X (.Call (.Attribute o m apos) (e :: es) [] pos) (tMeth C m sp [] E ta t):=by
 obtain ⟨f,fd,F,hm,hb⟩:=F.ex
 exact pe_meth he c hm F hr hb .nil hx ha hst hpl ht
theorem pe_mt0 {pl:Sem Bool} (he:PE X o ta) (c:Cls X.K C) (F:Method X.prog X.w X.K X.mg X.base C m CX k ps sp) (hr:Room k X.A) (hx:Passes CX X E)
  (ht:eval (.Call (.Attribute o m apos) [] [] pos) X.env=(do
   let ov <- eval o X.env
   standAt apos.atName
   let (f,first) <- holding [ov] (getMethod ov m pl)
   callWith pos f first (backTo pos (starEach [] X.env)) (backToKw pos (keywordEach [] X.env))):=by rfl) :
  PE X (.Call (.Attribute o m apos) [] [] pos) (tMeth C m sp [] E ta tNil):=by
 obtain ⟨f,fd,F,hm,hb⟩:=F.ex
 exact pe_meth0 he c hm F hr hb .nil hx ht
end
section
variable {X:Cx}
noncomputable def gLst (K:Av) (n:Nat) (t:TGs):TG:=fun v σ H Q=>∃ a xs,v = .ref a/\SqL K H a xs/\xs.length=n/\t xs σ H Q
theorem zfW {es:List Cb} {k:Nat} {t:TGs} {n:Nat} {pos:Pos} (hc:X.calm=true) (h:PGs X es t)
  (hn:(assignEach es X.env).length=n:=by rfl) (hst:(assignEach es X.env).findIdx? (·.1)=none:=by rfl):PG X (.Tuple es k pos) (gLst X.K n t):=by
 intro pins s σ H v u Q I r hw
 obtain ⟨a,xs,e1,hq,hl,hw⟩:=hw
 subst e1
 cases r
 obtain ⟨its,rv,p,hz⟩:=I.list hq
 rw [Pz]
 refine A1 (K2 ?_)
 unfold unpack
 have hsz:(assignEach es X.env).length=its.toArray.size:=by simp [hn,<- hl,rv.length]
 rw [hsz,hst]
 refine A1 (Dp (PySem.W.kun_itemsOf (I.ok.hd hc) p.isList fun h' hx => ?_))
 have I1:Inv X pins σ H { s with heap:=h' }:=I.kept (t':=s.toks) fun b o e=>hx b o (Bm (Ap e)) e
 exact h pins _ σ H xs _ Q I1 (by simpa using rv) hw
end
mutual
inductive VD (K:Av) (H:Hp):V->Ij->Prop
 | non:VD K H .non .none
 | bl (b:Bool):VD K H (.bl b) (.bool b)
 | int (i:Int):VD K H (.int i) (.int i)
 | str (x:Str):VD K H (.str x) (.str x)
 | lst {a:A4} {xs:List V} {ds:List Ij}:SqL K H a xs->VDs K H xs ds->VD K H (.ref a) (.list ds)
 | tup {a:A4} {xs:List V} {ds:List Ij}:SqT K H a xs->VDs K H xs ds->VD K H (.ref a) (.tuple ds)
inductive VDs (K:Av) (H:Hp):List V->List Ij->Prop
 | nil:VDs K H [] []
 | cons {x:V} {d:Ij} {xs:List V} {ds:List Ij}:VD K H x d->VDs K H xs ds->VDs K H (x :: xs) (d :: ds)
end
theorem VDs.map {K:Av} {H:Hp} {α : Type} {f : α -> V} {g : α -> Ij}:∀ {l:List α},(∀ x∈l,VD K H (f x) (g x))->VDs K H (l.map f) (l.map g)
 | [],_ => .nil
 | x :: l,h => .cons (h x Ah) (VDs.map fun y hy=>h y (Aa _ hy))
section
variable {X:Cx} {pins:List (A4×Obj)} {σ : St} {H:Hp} {s:A3}
mutual
theorem VD.reads (I:Inv X pins σ H s):∀ {v:V} {d:Ij} {u:A0},VD X.K H v d->RelV v u->∃ as,Reads s.heap u d as
 | _,_,_,.non,r=>by cases r; exact ⟨_,.none⟩
 | _,_,_,.bl b,r=>by cases r; exact ⟨_,.bool b⟩
 | _,_,_,.int i,r=>by obtain ⟨t,rfl⟩:=r; exact ⟨_,.int i t⟩
 | _,_,_,.str x,r=>by obtain ⟨t,rfl⟩:=r; exact ⟨_,.str x t⟩
 | _,_,_,.lst hq hs,r=>by
  cases r
  obtain ⟨its,rv,⟨o,n,e,c,_,d⟩,_⟩:=I.list hq
  obtain ⟨as,ra⟩:=VDs.reads I hs rv
  exact ⟨_,.list e c d (by simpa using ra)⟩
 | _,_,_,.tup hq hs,r=>by
  cases r
  obtain ⟨its,rv,⟨o,e,c,n,d⟩,_⟩:=I.tuple hq
  obtain ⟨as,ra⟩:=VDs.reads I hs rv
  exact ⟨_,.tuple e c d (by simpa using ra)⟩
theorem VDs.reads (I:Inv X pins σ H s):∀ {vs:List V} {ds:List Ij} {us:List A0},VDs X.K H vs ds->Vals vs us->∃ as,ReadsAll s.heap us ds as
 | _,_,_,.nil,r=>by cases r; exact ⟨_,.nil⟩
 | _,_,_,.cons h hs,r=>by
  cases r with
  | cons r rr =>
   obtain ⟨a1,r1⟩:=VD.reads I h r
   obtain ⟨a2,r2⟩:=VDs.reads I hs rr
   exact ⟨_,.cons r1 r2⟩
end
end
section
variable {X:Cx}
noncomputable def rEqD (K:Av) (neg:Bool):R2:=fun x y H Q=>∃ d e,VD K H x d/\VD K H y e/\Gj d=true/\Gj e=true/\Q (.bl (if neg then !PyData.eqv d e else En d e)) H
theorem op_eqD (hu:X.A.units + 64 < cLine):OpR X (compareOp .Eq) (rEqD X.K false):=by
 intro pins s σ H x y v u Q I rx ry h
 obtain ⟨d,e,hd,he,s1,s2,q⟩:=h
 obtain ⟨a1,r1⟩:=hd.reads I rx
 obtain ⟨a2,r2⟩:=he.reads I ry
 exact eq_dataH r1 r2 s1 s2 hu ⟨.bl _,H,I,rfl,q⟩
theorem op_neD (hu:X.A.units + 64 < cLine):OpR X (compareOp .NotEq) (rEqD X.K true):=by
 intro pins s σ H x y v u Q I rx ry h
 obtain ⟨d,e,hd,he,s1,s2,q⟩:=h
 obtain ⟨a1,r1⟩:=hd.reads I rx
 obtain ⟨a2,r2⟩:=he.reads I ry
 exact ne_dataH r1 r2 s1 s2 hu ⟨.bl _,H,I,rfl,q⟩
theorem zes:∀ {xs:List Str} {us:List A0},Qu us xs->Vals (xs.map V.str) us
 | _,_,.nil => .nil
 | _,_,.cons _ t r => .cons ⟨t,rfl⟩ (zes r)
theorem sorted_fin {pins:List (A4×Obj)} {σ : St} {H:Hp} {s:A3} {Q:VK} {vs:List A0} {out:Array A0} {ys:List V} (I:Inv X pins σ H s) (hl:ys.length<=sizeLine) (r:Vals ys out.toList)
  (q:Q (.ref (s.heap.objs.size + 1)) (upd H (s.heap.objs.size + 1) (.lst ys))):EP X pins σ Q (.ref (s.heap.objs.size + 1)) { s with heap:=sortedAll s.heap vs out }:=by
 obtain ⟨e,he⟩:=sortedAll_at s.heap vs out
 exact ⟨.ref (s.heap.objs.size + 1),_,I.laid (t':=s.toks) (fun b o=>sortedAll_old) (Mu _) (show ObjOk X.prog X.w _ _ _ (.lst ys) from ⟨hl,out.toList,e,r,by simpa using he⟩),rfl,q⟩
theorem zb0:CallR X (.builtin "sorted") (fun xs H Q=>∃ (a:A4) (ns:List Int),xs = [V.ref a]/\SqL X.K H a (ns.map V.int)/\ns.length < 64/\∀ p (ns':List Int),H p=none->ns'.Perm ns->ns'.Pairwise (· <= ·)->Q (.ref p) (upd H p (.lst (ns'.map V.int)))):=by
 intro pins s σ H xs us Q I r h
 obtain ⟨a,ns,rfl,hq,hb,q⟩:=h
 obtain ⟨u,rfl,ru⟩:=zbR r
 cases ru
 obtain ⟨its,rv,p,hz⟩:=I.list hq
 have hl:ns.length=its.length:=by have:=rv.length; rwa [A2] at this
 refine sorted_ints p.isList (zc5 rv) (by omega) fun out ns' a1 a2 a3 => ?_
 exact sorted_fin I (by rw [A2,a2.length_eq]; exact Br (Er hb) (by decide)) (zco a1) (q _ ns' (I.hok.fresh (Mu _)) a2 a3)
end
theorem zdI:∀ {l:List A0} {ss:List Str},l.length=ss.length->(∀ (j:Nat) (v:A0) (x:Str),l[j]?=some v->ss[j]?=some x->∃ t,v = .str x t)->Qu l ss
 | [],[],_,_ => .nil
 | v :: l,x :: ss,hl,h=>by
  obtain ⟨t,rfl⟩:=h 0 v x rfl rfl
  exact .cons _ _ (zdI (by simpa using hl) fun j u y e1 e2=>h (j + 1) u y (by simpa using e1) (by simpa using e2))
theorem KV.get {κ : Type}:∀ {a:List (κ × V)} {b:List (κ × A0)} {i:Nat} {k : κ} {x:A0},KV a b->b[i]?=some (k,x)->∃ v,a[i]?=some (k,v)/\RelV v x
 | [],_,_,_,_,h,e=>by cases h; simp at e
 | (k',v') :: a,_,i,k,x,h,e=>by
  cases h with
  | cons r rr =>
   cases i with
   | zero =>
    simp at e
    obtain ⟨r1,r2⟩:=r
    simp only at r1
    rw [e] at r1 r2
    exact ⟨v',by rw [r1]; rfl,r2⟩
   | succ i=>exact KV.get (i:=i) rr (by simpa using e)
section
variable {X:Cx}
theorem call_sortedD (hc:X.calm=true):CallR X (.builtin "sorted") (fun xs H Q=>∃ (a:A4) (kvs:List (Key×V)) (ss:List Str),xs = [V.ref a]/\Rd H a (.dK kvs)/\kvs.map (·.1)=ss.map D9/\ss.length < 64 /\
  ∀ p (ss':List Str),H p=none->ss'.Perm ss->sortedS ss'=true->Q (.ref p) (upd H p (.lst (ss'.map V.str)))):=by
 intro pins s σ H xs us Q I r h
 obtain ⟨a,kvs,ss,rfl,hq,hk,h64,q⟩:=h
 obtain ⟨u,rfl,ru⟩:=zbR r
 cases ru
 obtain ⟨hz,lo,vs,kv,hD⟩:=(show ObjOk X.prog X.w H s.heap a (.dK kvs) from hq.ok I.hok)
 obtain ⟨ep,hat⟩:=hD.dictAt
 have hlen:vs.length=ss.length:=by
  have e1:=kv.length
  have e2:=congrArg Ed hk
  rw [A2,A2] at e2
  omega
 have big64:(64:Nat)<=sizeLine:=by decide
 refine F7 Nz N7 N9 (Na _) ?_
 unfold Ff.«sorted»
 refine A1 (m:=checkCount "sorted" 1 1 _) (Ae ?_)
 refine A1 (Iy (A:=X.A.in1) (Mp (knd:=mixKind X.prog X.w) (kvs:=vs) (ep:=ep) lo) (I.ok.hd hc) hat (by omega) fun h' tk acc hkeep hacc => ?_)
 have hl:acc.toList.length=vs.length:=by rw [Au]; exact hacc.1
 have hS:Qu acc.toList ss:=by
  refine zdI (by omega) fun j v x e1 e2 => ?_
  obtain ⟨k,y,e3,hk2⟩:=hacc.2 j v (by rw [<- Ck]; exact e1)
  obtain ⟨v',e4,_⟩:=kv.get e3
  have e5:(kvs.map (·.1))[j]?=some k:=by rw [Af,e4]; rfl
  rw [hk,Af,e2] at e5
  have e6:D9 x=k:=Bh e5
  subst e6
  rcases zaF (show keyIs (D9 x) v=true from hk2) with ⟨i,t,e,_⟩ | ⟨y,t,e,e7⟩
  ·cases e
  ·cases e; exact ⟨t,e7⟩
 refine A1 (Ig ?_ (by rw [hl]; omega))
 have hoL:(h'.push (seqObj "list" acc.toList.toArray 0)).get? h'.objs.size=some (seqObj "list" acc.toList.toArray 0):=Ba _ rfl
 refine A1 (Dp (E1 M1 ⟨_,hoL,rfl⟩ Lk (list_sort_treeK strKind_oneLt hoL hS.keysOf (fun v₁ v₂ rest e=>keyKind_strs (by rw [<- e]; exact hS)) (by omega) fun st' hp hs=>⟨_,rfl,?_⟩) (M2 _)))
 obtain ⟨ss',a1,a2,a3⟩:=sorted_out_str hS hp hs
 refine Ae ⟨_,rfl,?_⟩
 obtain ⟨e,he⟩:=Mm (out:=(arrOf st').map (·.2)) hoL
 have I1:Inv X pins σ H { s with heap:=h',toks:=tk }:=I.kept hkeep
 have I2:=Inv.laid (o := .lst (ss'.map V.str)) (a:=h'.objs.size) (h':=sortedHeap (h'.push (seqObj "list" acc.toList.toArray 0)) h'.objs.size acc.toList ((arrOf st').map (·.2))) (t':=tk) I1 (fun b o hb=>by
  have lt:=Ap hb
  rw [M0 (Bm lt) (by rw [F5]; exact Fy lt)]
  exact Ad _ hb) (Ac _) (show ObjOk X.prog X.w _ _ _ (.lst (ss'.map V.str)) from ⟨by rw [A2,a2.length_eq]; omega,_,e,zes a1,by rw [Md]; exact he⟩)
 exact ⟨.ref h'.objs.size,_,I2,rfl,q _ ss' (I1.hok.fresh (Ac _)) a2 a3⟩
end
section
variable {X:Cx} {pins:List (A4×Obj)} {σ : St} {H:Hp} {s:A3} {a:A4} {kvs:List (Key×V)}
end
section
variable {X:Cx} {tg:Cb}
end
section
variable {X:Cx} {f:Str} {k k':Nat} {ps:List Str} {spf:A4->A0->Sp} {p pos:Pos} {e:Cb} {es:List Cb} {t:TA} {x:A4} {c:A0} {ox:Obj} {pn:List (A4×Obj)} {vs:Array A0}
end
structure Maker (P:Aq) (w:Bj) (K:Av) (mg:Str->Option A0) (base:Bz) (x:Str) (C:A4) (CX:CXT) (k:Nat) (ps:List Str) (sp:Sp):Prop where
 ex:∃ f fd,Mk K C f/\FnOk P w K mg base CX k f fd ps sp/\mg x=some (.ref C)/\Binds K fd ps []
theorem pe_mk0 {X:Cx} {x:Str} {C:A4} {CX:CXT} {k:Nat} {ps:List Str} {sp:Sp} {E:XK} {p pos:Pos} (M:Maker X.prog X.w X.K X.mg X.base x C CX k ps sp) (hr:Room (k + 1) X.A) (hx:Passes CX X E) (hg:Gl X x) (hdb:(x == ("__debug__" : Str))=false:=by decide) :
  PE X (.Call (.Name x p) [] [] pos) (tMake C sp [] E tNil):=by
 obtain ⟨f,fd,M,F,m,b⟩:=M.ex
 exact pe_make0 M F hr hg m b .nil hx hdb
section
variable {Y:Cx}
theorem op_notIn_seq' (K:Av) (h:Y.K=K):OpR Y (compareOp .NotIn) (rIn K true):=by subst h; exact zbX
theorem zc4 (K:Av) (h:Y.K=K):IxR Y (rIxL K):=by subst h; exact zay
theorem ix_tup' (K:Av) (h:Y.K=K):IxR Y (rIxT K):=by subst h; exact zbY
end
noncomputable def isStar:Cb->Bool
 | .Starred _ _=>true
 | _=>false
theorem star_cons {e:Cb} (es:List Cb) (env:Env) (h:isStar e=false):starEach (e :: es) env=(false,eval e env) :: starEach es env:=by
 cases e <;> first | rfl | cases h
structure QA (X:Cx) (es:List Cb) (t:TA):Prop where h:PA X es t
structure QE (X:Cx) (e:Cb) (t:TE):Prop where h:PE X e t
section
variable {X:Cx} {e:Cb} {es:List Cb} {te:TE} {t:TA} {pos:Pos}
theorem qe (h:PE X e te):QE X e te:=⟨h⟩
theorem zaL:QA X [] tNil:=⟨zae⟩
theorem zag (ha:QE X e te) (hr:QA X es t) (h:isStar e=false:=by rfl):QA X (e :: es) (tCons te t):=⟨zaa ha.h hr.h (star_cons es X.env h)⟩
theorem za8 {k} (h:QA X es t):QE X (.Tuple es k pos) (tTup t):=⟨zbm h.h⟩
theorem zcx (h:QA X es t):QE X (.List es pos) (tLst t):=⟨za1 h.h⟩
end
structure QS (X:Cx) (st:Cj) (t:TS):Prop where h:PS X st t
structure QSs (X:Cx) (st:List Cj) (t:TS):Prop where h:PSs X st t
section
variable {X:Cx} {st:Cj} {rest:List Cj} {t u:TS} {a b e:Cb} {ta tb te:TE} {pos:Pos}
theorem qs (h:PS X st t):QS X st t:=⟨h⟩
theorem zgB (h:QS X st t):QSs X [st] t:=⟨zaf h.h⟩
theorem qe_ix {r:R2} (hr:IxR X r) (ha:QE X a ta) (hb:QE X b tb) (hs:PlainIx b):QE X (.Subscript a b pos) (tOp r ta tb):=⟨zaM hr ha.h hb.h hs⟩
theorem zhL {op:Operator} {r:R2} (ho:OpR X (binaryOp op) r) (ha:QE X a ta) (hb:QE X b tb):QE X (.BinOp a op b pos) (tOp r ta tb):=⟨zar ho ha.h hb.h⟩
theorem zbb (h:QS X st t) (hr:QSs X rest u):QSs X (st :: rest) (tSeq t u):=⟨zab h.h hr.h⟩
theorem qss_cut (h:QS X st t) (hr:QSs X rest u):QSs X (st :: rest) (tCut t u):=⟨zbF h.h hr.h⟩
theorem zhu (h:QE X e te):QS X (.Return (some e) pos) (tRet te):=⟨zam h.h⟩
theorem zcw {i:Nat} {x:Str} {pos':Pos} (hN:X.N.Nodup) (hi:X.N[i]?=some x) (hx:Loc X.env.scope x) (he:QE X e te) (hs:swapsWith e (some (.Name x pos')) pos.line X.env=pure false:=by rfl) (hf:X.fn x=true\/X.env.scope.names.lookup x=some .local:=by first | exact .inl rfl | exact .inr rfl | assumption) :
  QS X (.Assign [.Name x pos'] e pos) (tAsg te (gName i)):=⟨zaj hN hi hx he.h hs hf⟩
end
theorem DefAt.calleeQ {P:Aq} {w:Bj} {K:Av} {mg:Str->Option A0} {base:Bz} {x:Str} {st:Cj} {N ps:List Str} {k:Nat} {sp:Sp} (D:DefAt K mg x st) (S:FnScope N ps (defScope st))
  (hb:∀ (kV doc pm:A0) (an:Option A4) (cdv ct:A0) (us:List A0),us.length=ps.length->bindArgs (D4 x x (defArgs st) (defBody st) (defScope st) .none kV doc pm an cdv ct) ⟨us,[]⟩=pure (ps.zip us))
  (len:∀ vs H Q E,sp vs H Q E->vs.length=ps.length)
  (hbody:∀ (f:A4) (cdv:A0) (A:Bb) (outer:List Env) (s:A3) (H:Hp) (vs:List V) (Q:VK) (E:XK),Room k (A.deeper (envOfC x (defScope st) s.heap.objs.size f cdv))->sp vs H Q E ->
   ∃ t,QSs (cxOf CX0 P w K mg base N x (defScope st) f cdv A outer s H E).nox (defBody st) t/\t { nx:=fun _ H'=>Q .non H',rt:=Q } (start N vs) H):Callee P w K mg base x (k + 1) ps sp :=
 D.callee S hb len fun f cdv A outer s H vs Q E hr h=>let ⟨t,q,r⟩:=hbody f cdv A outer s H vs Q E hr h; ⟨t,q.h,r⟩
theorem pe_cls {X:Cx} {x:Str} {C:A4} {pos:Pos} (hg:Gl X x) (hm:X.mg x=some (.ref C)) (hd:(x == ("__debug__" : Str))=false:=by decide):PE X (.Name x pos) (tC (.ref C)):=zgH (v := .ref C) hg hm rfl hd
section
variable {K:Av} {C D CE:A4} {oc:A0} {od:Option A4} {cd:ClassData} {sl:Array (Option A0)} {b:Bool}
end
theorem zcB {H:Hp} {p l:A4} {ys:List V} {o:HO} (h:H l=some (.lst ys)) (n:H p=none):upd H p o l=some (.lst ys):=by rw [zah (zao h n)]; exact h
theorem zhK {ns:List Int} {k:Int} (h0:0<=k) (h:k < (ns.length:Int)):atI (ns.map V.int) k=some (V.int (ns.getD k.toNat 0)):=by
 have hk:k.toNat < ns.length:=by omega
 have e:((k.toNat:Nat):Int)=k:=by omega
 rw [<- e]
 refine zaA ?_
 rw [Af,Ak,Cs,A8 hk]
 rfl
theorem getD_big {ns:List Int} {k:Int} (h:¬ k < (ns.length:Int)):ns.getD k.toNat 0=0:=by
 rw [Ak,Co (by omega)]
 rfl
theorem zcG {x:Str}:x.cps.toList.length=x.length:=by simp [Q8]
theorem za0:1000<=sizeLine:=by decide
theorem big {n:Nat} (h:n<=1000):n<=sizeLine:=Br h za0
theorem bigr {n:Nat} (h:Nat.ble n 1000=true):n<=sizeLine:=big (Mh h)
theorem p2:(0:Int) < 2:=by decide
theorem p6:(0:Int) < 6:=by decide
theorem len_app (x y:Str):(x ++ y).length=x.length + y.length:=by
 have:=congrArg Ed (L3 x y)
 rw [Ag,zcG,zcG,zcG] at this
 exact this
theorem zeg (c:Nat):(⟨#[c]⟩:Str).length=1:=rfl
theorem dec_ii {a b:Int}:decide (V.int a=V.int b)=decide (a=b):=by
 rw [decide_eq_decide]
 exact ⟨fun h=>by injection h,fun h=>by rw [h]⟩
theorem zbC {i n:Nat} {lo:Int} {x:V} (h:((Ab n).map fun i=>V.int (lo + ((i:Nat):Int)))[i]?=some x):i < n/\x=V.int (lo + ((i:Nat):Int)):=by
 have hi:i < n:=by
  have:=(Ar.mp h).1
  simpa using this
 rw [Af,Cf hi] at h
 cases h
 exact ⟨hi,rfl⟩
noncomputable def small (c:Nat):Bool:=decide (97<=c) && decide (c<=122)
noncomputable def isName (x:Str):Bool:=(decide (1<=x.length) && decide (x.length<=6)) && x.cps.toList.all small
noncomputable def abc:Str:=A5 "abcdefghijklmnopqrstuvwxyz"
theorem zeq:abc.cps.toList=(Ab 26).map (97 + ·):=by decide +kernel
theorem zfA:abc.length=26:=by decide +kernel
theorem abc_at {k:Int} (h0:0<=k) (h:k < 26):∃ c,atI abc.cps.toList k=some c/\small c=true:=by
 have e:((k.toNat:Nat):Int)=k:=by omega
 refine ⟨97 + k.toNat,?_,?_⟩
 ·rw [<- e]
  refine zaA ?_
  rw [zeq,Af,Cf (by omega),Cs]
  rfl
 ·unfold small
  rw [decide_eq_true (by omega:97<=97 + k.toNat),decide_eq_true (by omega:97 + k.toNat<=122)]
  rfl
theorem zgL {x:Str} (h1:1<=x.length) (h2:x.length<=6) (h3:x.cps.toList.all small=true):isName x=true:=by
 unfold isName
 rw [decide_eq_true h1,decide_eq_true h2,h3]
 rfl
theorem name_one {c:Nat} (h:small c=true):isName ⟨#[c]⟩=true:=zgL (by rw [zeg]; decide) (by rw [zeg]; decide) (by simp [h])
theorem name_len {x:Str} (h:isName x=true):1<=x.length/\x.length<=6:=by
 unfold isName at h
 simp only [Cg,decide_eq_true_eq] at h
 exact h.1
theorem app_list (x y:Str):(x ++ y).cps.toList=x.cps.toList ++ y.cps.toList:=L3 x y
theorem zc2 {α : Type} [DecidableEq α]:∀ {l m:List α},l.Nodup->(∀ x∈l,x∈m)->l.length<=m.length
 | [],_,_,_=>Bi _
 | x :: l,m,hn,h=>by
  have hx:=h x Ah
  have hn:=Do.mp hn
  have ih:=zc2 (m:=m.erase x) hn.2 fun y hy=>(List.mem_erase_of_ne (fun z:y=x=>hn.1 (by rw [<- z]; exact hy))).mpr (h y (Aa _ hy))
  have e:=Lg hx
  have:=Lw hx
  rw [At]
  omega
theorem zgU (x:Str) (us:List Str):inV (V.str x) (us.map V.str)=decide (x∈us):=by
 unfold inV
 rw [Js,B5,Bq,decide_eq_true_eq]
 constructor
 ·rintro ⟨y,hy,e⟩
  have e':(y == x)=true:=e
  rw [<- eq_of_beq e']; exact hy
 ·intro h
  exact ⟨x,h,beq_self_eq_true x⟩
theorem zeY (us:List Str):(us.map V.str).all flatV=true:=by
 rw [Ia,Df]
 intro x _
 rfl
theorem spare_some (us:List Str) (h:us.length<=25):∃ c∈abc.cps.toList,(⟨#[c]⟩:Str) ∉ us:=by
 apply Dn
 intro hn
 have hall:∀ y∈abc.cps.toList.map (fun c=>(⟨#[c]⟩:Str)),y∈us:=fun y hy=>by
  obtain ⟨c,hc,rfl⟩:=A7.mp hy
  exact Dn fun z=>hn ⟨c,hc,z⟩
 have nd:(abc.cps.toList.map (fun c=>(⟨#[c]⟩:Str))).Nodup:=by
  rw [zeq,B6]
  decide +kernel
 have:=zc2 nd hall
 rw [A2,zcG,zfA] at this
 omega
theorem abc_small {c:Nat} (h:c∈abc.cps.toList):small c=true:=by
 rw [zeq] at h
 obtain ⟨i,hi,rfl⟩:=A7.mp h
 have:=B7.mp hi
 unfold small
 rw [decide_eq_true (by omega:97<=97 + i),decide_eq_true (by omega:97 + i<=122)]
 rfl
theorem zdz:∀ (ns acc:List Int),(ns.foldl Hm acc).length<=acc.length + ns.length/\(acc.Nodup->((ns.foldl Hm acc).length=acc.length + ns.length ↔ (acc ++ ns).Nodup))
 | [],acc=>⟨by simp,fun h=>by simp [h]⟩
 | n :: ns,acc=>by
  rw [Iq]
  by_cases hm:n∈acc
  ·have e:Hm acc n=acc:=by
    unfold Hm
    rw [if_pos (Bq.mpr ⟨n,hm,by simp⟩)]
   rw [e]
   have ih:=zdz ns acc
   refine ⟨by have:=ih.1; rw [At]; omega,fun _=>⟨fun z => ?_,fun z => ?_⟩⟩
   ·have:=ih.1
    rw [At] at z
    omega
   ·exact absurd rfl ((Cy.mp z).2.2 n hm n Ah)
  ·have e:Hm acc n=acc ++ [n]:=by
    unfold Hm
    rw [if_neg]
    intro z
    obtain ⟨x,hx,ex⟩:=Bq.mp z
    have:x=n:=by simpa using ex
    subst this
    exact hm hx
   rw [e]
   have ih:=zdz ns (acc ++ [n])
   rw [Ag,Bp,As] at ih
   refine ⟨by have:=ih.1; rw [At]; omega,fun h => ?_⟩
   have hn:(acc ++ [n]).Nodup:=by
    refine Cy.mpr ⟨h,by simp,fun a ha b hb => ?_⟩
    have:b=n:=by simpa using hb
    subst this
    intro z
    subst z
    exact hm ha
   have:=ih.2 hn
   rw [At]
   rw [show acc.length + (ns.length + 1)=acc.length + 1 + ns.length by omega]
   exact this
theorem many_eq (ns:List Int):many ns=(ns.foldl Hm []).length:=by
 unfold many firstMet
 congr 2
 apply Ft
 intro i
 rw [Af]
 by_cases h:i < ns.length
 ·rw [Cf h]
  simp [Ak,h]
 ·rw [Co (by simpa using h),Co (by simpa using h)]
  rfl
theorem many_nodup (ns:List Int):many ns=ns.length ↔ ns.Nodup:=by
 rw [many_eq]
 have:=(zdz ns []).2 Db
 simpa using this
noncomputable def inR (t:Int):Bool:=decide (0<=t) && decide (t<=7)
noncomputable def areTeeth (ts:List Int):Bool:=decide (0∈ts) && (decide (many ts=ts.length) && ts.all inR)
theorem in_zero (ts:List Int):inV (V.int 0) (ts.map V.int)=decide (0∈ts):=by
 unfold inV
 rw [Js,B5,Bq,decide_eq_true_eq]
 constructor
 ·rintro ⟨x,hx,e⟩
  have:x=0:=by
   have e':(x == 0)=true:=e
   exact eq_of_beq e'
  rw [<- this]; exact hx
 ·intro h
  exact ⟨0,h,rfl⟩
theorem zho (ts:List Int):(ts.map V.int).all flatV=true:=by
 rw [Ia,Df]
 intro x _
 rfl
noncomputable def KindsL (G:A4->Prop) (H:Hp):List V->List (Str×List Int)->Prop
 | [],[]=>True
 | v :: vs,k :: ks=>(∃ q t,v = .ref q/\H q=some (.lst [.str k.1,.ref t])/\H t=some (.lst (k.2.map V.int))/\G q/\G t)/\KindsL G H vs ks
 | _,_=>False
theorem KindsL.mono {G G':A4->Prop} {H H':Hp} (s:∀ a o,G a->H a=some o->H' a=some o) (g:∀ a,G a->G' a):∀ {vs:List V} {ks:List (Str×List Int)},KindsL G H vs ks->KindsL G' H' vs ks
 | [],[],_=>trivial
 | _ :: _,_ :: _,⟨⟨q,t,e,h1,h2,g1,g2⟩,r⟩=>⟨⟨q,t,e,s _ _ g1 h1,s _ _ g2 h2,g _ g1,g _ g2⟩,KindsL.mono s g r⟩
 | [],_ :: _,h=>h.elim
 | _ :: _,[],h=>h.elim
theorem KindsL.same {G:A4->Prop} {H H':Hp} {vs:List V} {ks:List (Str×List Int)} (s:Same H H') (h:KindsL G H vs ks):KindsL G H' vs ks:=h.mono (fun a o _ e=>s a o e) fun _ g=>g
theorem KindsL.upd {G:A4->Prop} {H:Hp} {p:A4} {o:HO} {vs:List V} {ks:List (Str×List Int)} (h:KindsL G H vs ks) (n:¬ G p):KindsL G (upd H p o) vs ks:=h.mono (fun a u g e=>by rw [zah (fun z:a=p=>n (by rw [<- z]; exact g))]; exact e) fun _ g=>g
theorem KindsL.snoc {G:A4->Prop} {H:Hp} {q t:A4} {k:Str×List Int} (h1:H q=some (.lst [.str k.1,.ref t])) (h2:H t=some (.lst (k.2.map V.int))) (g1:G q) (g2:G t):∀ {vs:List V} {ks:List (Str×List Int)},KindsL G H vs ks->KindsL G H (vs ++ [.ref q]) (ks ++ [k])
 | [],[],_=>⟨⟨q,t,rfl,h1,h2,g1,g2⟩,trivial⟩
 | _ :: _,_ :: _,⟨a,b⟩=>⟨a,KindsL.snoc h1 h2 g1 g2 b⟩
 | [],_ :: _,x=>x.elim
 | _ :: _,[],x=>x.elim
theorem KindsL.length {G:A4->Prop} {H:Hp}:∀ {vs:List V} {ks:List (Str×List Int)},KindsL G H vs ks->vs.length=ks.length
 | [],[],_=>rfl
 | _ :: _,_ :: _,⟨_,b⟩=>by rw [At,At,KindsL.length b]
 | [],_ :: _,x=>x.elim
 | _ :: _,[],x=>x.elim
theorem KindsL.get {G:A4->Prop} {H:Hp}:∀ {vs:List V} {ks:List (Str×List Int)} {i:Nat} {v:V},KindsL G H vs ks->vs[i]?=some v->∃ k q t,ks[i]?=some k/\v = .ref q/\H q=some (.lst [.str k.1,.ref t])/\H t=some (.lst (k.2.map V.int))
 | [],[],_,_,_,e=>by simp at e
 | _ :: _,k :: _,0,_,⟨⟨q,t,e,h1,h2,_⟩,_⟩,z=>by
  simp at z
  subst z
  exact ⟨k,q,t,rfl,e,h1,h2⟩
 | _ :: _,_ :: _,i + 1,_,⟨_,b⟩,z=>by
  obtain ⟨k,q,t,h⟩:=KindsL.get (i:=i) b (by simpa using z)
  exact ⟨k,q,t,by simpa using h⟩
 | [],_ :: _,_,_,x,_=>x.elim
 | _ :: _,[],_,_,x,_=>x.elim
noncomputable def GT (ts:List Int):Prop:=∃ f:Nat->Bool,ts=((Ab 8).filter f).map (fun i=>((i:Nat):Int))/\f 0=true
structure Drawn (G:A4->Prop) (H:Hp) (vs:List V) (ks:List (Str×List Int)):Prop where
 rows:KindsL G H vs ks
 nd:(ks.map (·.1)).Nodup
 good:∀ k∈ks,isName k.1=true/\GT k.2
theorem Drawn.same {G:A4->Prop} {H H':Hp} {vs:List V} {ks:List (Str×List Int)} (d:Drawn G H vs ks) (s:Same H H'):Drawn G H' vs ks:=⟨d.rows.same s,d.nd,d.good⟩
theorem Drawn.upd {G:A4->Prop} {H:Hp} {p:A4} {o:HO} {vs:List V} {ks:List (Str×List Int)} (d:Drawn G H vs ks) (n:¬ G p):Drawn G (upd H p o) vs ks:=⟨d.rows.upd n,d.nd,d.good⟩
theorem Drawn.any {G:A4->Prop} {H:Hp} {vs:List V} {ks:List (Str×List Int)} (d:Drawn G H vs ks):Drawn (fun _=>True) H vs ks:=⟨d.rows.mono (fun _ _ _ e=>e) fun _ _=>trivial,d.nd,d.good⟩
theorem Drawn.snoc {G:A4->Prop} {H:Hp} {vs:List V} {ks:List (Str×List Int)} {q t:A4} {k:Str×List Int} (d:Drawn G H vs ks) (h1:H q=some (.lst [.str k.1,.ref t])) (h2:H t=some (.lst (k.2.map V.int))) (g1:G q) (g2:G t) (hn:k.1 ∉ ks.map (·.1)) (hk:isName k.1=true/\GT k.2):Drawn G H (vs ++ [.ref q]) (ks ++ [k]):=by
 refine ⟨KindsL.snoc h1 h2 g1 g2 d.rows,?_,fun x hx => ?_⟩
 ·rw [Az]
  refine Cy.mpr ⟨d.nd,by simp,fun a ha b hb => ?_⟩
  have e:b=k.1:=by simpa using hb
  rw [e]
  exact fun z=>hn (z ▸ ha)
 ·rcases Al.mp hx with z | z
  ·exact d.good x z
  ·rw [A6.mp z]; exact hk
noncomputable abbrev Combs:=List (Str×List Int)
noncomputable def cGet (cs:Combs) (x:Str):Option (List Int):=(cs.find? fun c=>decide (c.1=x)).map (·.2)
noncomputable def cPut (cs:Combs) (x:Str) (ts:List Int):Combs:=if (cs.any fun c=>decide (c.1=x))=true then cs.map (fun c=>if c.1=x then (c.1,ts) else c) else cs ++ [(x,ts)]
noncomputable def canon (ts:List Int):List Int:=((Ab 8).filter fun i=>decide (((i:Nat):Int)∈ts)).map fun i=>((i:Nat):Int)
theorem zhA (f:Nat->Bool):(((Ab 8).filter f).map fun i=>((i:Nat):Int)).Pairwise (· < ·):=by
 rw [Bd]
 refine Bc Cp ?_
 refine Ek ?_ (D6 (n:=8))
 intro a b h
 omega
theorem zep (ts:List Int):(canon ts).Pairwise (· < ·):=zhA _
theorem mem_canon {ts:List Int} {t:Int}:t∈canon ts ↔ t∈ts/\0<=t/\t<=7:=by
 unfold canon
 simp only [A7,Ax,B7,decide_eq_true_eq]
 constructor
 ·rintro ⟨i,⟨hi,hm⟩,rfl⟩
  exact ⟨hm,by omega,by omega⟩
 ·rintro ⟨hm,h0,h7⟩
  refine ⟨t.toNat,⟨by omega,?_⟩,by omega⟩
  rwa [show ((t.toNat:Nat):Int)=t by omega]
theorem zaO {l:List Int} (h:l.Pairwise (· < ·)):l.Nodup:=h.imp fun h=>by omega
theorem zcj (ts:List Int):(canon ts).Nodup:=zaO (zep ts)
theorem zbk {a b:List Int} (hp:a.Perm b) (ha:a.Pairwise (· <= ·)) (hb:b.Pairwise (· <= ·)):a=b :=
 hp.eq_of_pairwise (fun x y _ _ h1 h2=>Int.le_antisymm h1 h2) ha hb
theorem zc8 {ns ts:List Int} (hp:ns.Perm ts) (hs:ns.Pairwise (· <= ·)) (hn:ts.Nodup) (hr:∀ t∈ts,0<=t/\t<=7):ns=canon ts:=by
 refine zbk (hp.trans ?_) hs ((zep ts).imp fun h=>by omega)
 rw [D0 hn (zcj ts)]
 intro t
 rw [mem_canon]
 exact ⟨fun h=>⟨h,hr t h⟩,fun h=>h.1⟩
theorem zek {ts:List Int} (h:GT ts):ts.Pairwise (· < ·):=by
 obtain ⟨f,rfl,_⟩:=h
 exact zhA f
theorem zbZ {ts:List Int} (h:GT ts):∀ t∈ts,0<=t/\t<=7:=by
 obtain ⟨f,rfl,_⟩:=h
 intro t ht
 obtain ⟨i,hi,rfl⟩:=A7.mp ht
 have:=B7.mp (Ax.mp hi).1
 omega
theorem zcN {ts:List Int} (h:GT ts):(0:Int)∈ts:=by
 obtain ⟨f,rfl,h0⟩:=h
 exact A7.mpr ⟨0,Ax.mpr ⟨by decide,h0⟩,rfl⟩
theorem zgc {ts:List Int} (h0:(0:Int)∈ts):GT (canon ts):=⟨_,rfl,decide_eq_true h0⟩
theorem gt_eq {ts:List Int} (h:GT ts):canon ts=ts:=by
 symm
 refine zc8 (K0 _) ((zek h).imp fun h=>by omega) (zaO (zek h)) (zbZ h)
theorem zgY {ts:List Int} (h:GT ts):ts.length<=8:=by
 obtain ⟨f,rfl,_⟩:=h
 rw [A2]
 exact Br (Cn _ _) (by simp)
theorem canon_len (ts:List Int):(canon ts).length<=8:=by
 unfold canon
 rw [A2]
 exact Br (Cn _ _) (by simp)
theorem inR_iff {t:Int}:inR t=true ↔ 0<=t/\t<=7:=by unfold inR; simp
theorem teeth_iff {ts:List Int}:areTeeth ts=true ↔ (0:Int)∈ts/\ts.Nodup/\∀ t∈ts,0<=t/\t<=7:=by
 unfold areTeeth
 simp only [Cg,decide_eq_true_eq,many_nodup,Df,inR_iff]
theorem zdc {ts:List Int} (hn:ts.Nodup) (hr:∀ t∈ts,0<=t/\t<=7):ts.length<=8:=by
 have:ts.length<=(canon ts).length:=zc2 hn fun x hx=>mem_canon.mpr ⟨hx,hr x hx⟩
 have:=canon_len ts
 omega
theorem gt_teeth {ts:List Int} (h:GT ts):areTeeth ts=true:=teeth_iff.mpr ⟨zcN h,zaO (zek h),zbZ h⟩
structure Good (cs:Combs):Prop where
 len:cs.length<=8
 nd:(cs.map (·.1)).Nodup
 ok:∀ c∈cs,isName c.1=true/\GT c.2
theorem good_nil:Good []:=⟨by decide,Db,by simp⟩
theorem zel {cs:Combs} {x:Str} {ts:List Int} (h:cGet cs x=some ts):(x,ts)∈cs:=by
 unfold cGet at h
 obtain ⟨c,hc,rfl⟩:=Lf.mp h
 have h1:=L6 hc
 have h2:c.1=x:=by simpa using O3 hc
 rw [<- h2]
 exact h1
theorem get_none {cs:Combs} {x:Str}:cGet cs x=none ↔ x ∉ cs.map (·.1):=by
 unfold cGet
 rw [Option.map_eq_none_iff,N3]
 simp only [decide_eq_true_eq,A7,not_exists,not_and]
theorem zfz {cs:Combs} {x:Str}:(cs.any fun c=>decide (c.1=x))=(cGet cs x).isSome:=by
 rw [B5,Bq,Option.isSome_iff_ne_none,ne_eq,get_none,Qz,A7]
 simp
theorem zc6 {c:Str×List Int} {cs:Combs} {x:Str}:cGet (c :: cs) x=if c.1=x then some c.2 else cGet cs x:=by
 unfold cGet
 rw [Eb]
 by_cases h:c.1=x
 ·simp [h]
 ·simp [h]
theorem zgC {cs:Combs} {x:Str} {ts:List Int} (h:cGet cs x=none):cPut cs x ts=cs ++ [(x,ts)]:=by
 unfold cPut
 rw [zfz,h]
 rfl
theorem zfg {cs:Combs} {x:Str} {ts us:List Int} (h:cGet cs x=some us):cPut cs x ts=cs.map (fun c=>if c.1=x then (c.1,ts) else c):=by
 unfold cPut
 rw [zfz,h]
 rfl
theorem put_keys {cs:Combs} {x:Str} {ts us:List Int} (h:cGet cs x=some us):(cPut cs x ts).map (·.1)=cs.map (·.1):=by
 rw [zfg h,B6]
 apply C7
 intro c _
 show (if c.1=x then (c.1,ts) else c).1=c.1
 split <;> rfl
theorem Good.put {cs:Combs} {x:Str} {ts:List Int} (g:Good cs) (hx:isName x=true) (ht:GT ts) (hl:cs.length < 8\/(cGet cs x).isSome=true):Good (cPut cs x ts):=by
 cases e:cGet cs x with
 | none =>
  rw [zgC e]
  refine ⟨?_,?_,?_⟩
  ·rw [e] at hl
   rw [Ag,Bp]
   rcases hl with h | h
   ·omega
   ·cases h
  ·rw [Az]
   exact zgK g.nd (get_none.mp e)
  ·intro c hc
   rcases Al.mp hc with h | h
   ·exact g.ok c h
   ·rw [A6.mp h]; exact ⟨hx,ht⟩
 | some us =>
  refine ⟨?_,by rw [put_keys e]; exact g.nd,?_⟩
  ·rw [zfg e,A2]; exact g.len
  ·rw [zfg e]
   intro c hc
   obtain ⟨c0,h0,rfl⟩:=A7.mp hc
   split
   ·exact ⟨(g.ok c0 h0).1,ht⟩
   ·exact g.ok c0 h0
noncomputable def KvR (G:A4->Prop) (H:Hp):List (Key×V)->Combs->Prop:=Bs fun kv c=>∃ t,kv=(D9 c.1,V.ref t)/\H t=some (.lst (c.2.map V.int))/\G t
noncomputable def DictR (G:A4->Prop) (H:Hp) (d:A4) (cs:Combs):Prop:=G d/\∃ kvs,H d=some (.dK kvs)/\KvR G H kvs cs
theorem KvR.mono {G G':A4->Prop} {H H':Hp} {kvs:List (Key×V)} {cs:Combs} (s:∀ a o,G a->H a=some o->H' a=some o) (g:∀ a,G a->G' a) (h:KvR G H kvs cs):KvR G' H' kvs cs :=
 Lv (fun _ _ ⟨t,e,h1,g1⟩=>⟨t,e,s _ _ g1 h1,g _ g1⟩) h
theorem DictR.mono {G G':A4->Prop} {H H':Hp} {d:A4} {cs:Combs} (s:∀ a o,G a->H a=some o->H' a=some o) (g:∀ a,G a->G' a) (h:DictR G H d cs):DictR G' H' d cs :=
 let ⟨g0,kvs,e,r⟩:=h
 ⟨g _ g0,kvs,s _ _ g0 e,r.mono s g⟩
theorem KvR.keys {G:A4->Prop} {H:Hp}:∀ {kvs:List (Key×V)} {cs:Combs},KvR G H kvs cs->kvs.map (·.1)=(cs.map (·.1)).map D9
 | _,_,.nil=>rfl
 | _,_,.cons ⟨t,e,_⟩ r=>by
  subst e
  show _ :: _=_ :: _
  rw [show Jq _ _=_ from KvR.keys r]
theorem KvR.val {G:A4->Prop} {H:Hp} {x:Str}:∀ {kvs:List (Key×V)} {cs:Combs},KvR G H kvs cs ->
  (cGet cs x=none/\valV kvs (D9 x)=none)\/∃ ts t,cGet cs x=some ts/\valV kvs (D9 x)=some (.ref t)/\H t=some (.lst (ts.map V.int))/\G t
 | _,_,.nil => .inl ⟨rfl,rfl⟩
 | _,_,.cons (b:=c) ⟨t,e,h1,g1⟩ r=>by
  subst e
  by_cases h:c.1=x
  ·refine .inr ⟨c.2,t,by rw [zc6,if_pos h],zaY (by rw [h]),h1,g1⟩
  ·have hn:¬ ((D9 c.1:Key)=D9 x):=fun z=>h (Ll z)
   rcases KvR.val (x:=x) r with ⟨e1,e2⟩ | ⟨ts,t',e1,e2,e3⟩
   ·exact .inl ⟨by rw [zc6,if_neg h]; exact e1,by rw [zaT hn]; exact e2⟩
   ·exact .inr ⟨ts,t',by rw [zc6,if_neg h]; exact e1,by rw [zaT hn]; exact e2,e3⟩
theorem KvR.some {G:A4->Prop} {H:Hp} {kvs:List (Key×V)} {cs:Combs} {x:Str} (r:KvR G H kvs cs):(valV kvs (D9 x)).isSome=(cGet cs x).isSome:=by
 rcases r.val (x:=x) with ⟨e1,e2⟩ | ⟨ts,t',e1,e2,e3⟩
 ·rw [e1,e2]; rfl
 ·rw [e1,e2]; rfl
theorem KvR.map {G:A4->Prop} {H:Hp} {x:Str} {t:A4} {ts:List Int} (h1:H t = .some (.lst (ts.map V.int))) (g1:G t):∀ {kvs:List (Key×V)} {cs:Combs},KvR G H kvs cs ->
  KvR G H (kvs.map fun kv=>if kv.1=D9 x then (kv.1,V.ref t) else kv) (cs.map fun c=>if c.1=x then (c.1,ts) else c)
 | _,_,.nil => .nil
 | _,_,.cons (b:=c) ⟨t',e,h2,g2⟩ r=>by
  subst e
  refine .cons ?_ (KvR.map h1 g1 r)
  dsimp only
  by_cases hx:c.1=x
  ·rw [if_pos hx,if_pos (by rw [hx])]
   exact ⟨t,rfl,h1,g1⟩
  ·rw [if_neg hx,if_neg (fun z=>hx (Ll z))]
   exact ⟨t',rfl,h2,g2⟩
theorem KvR.put {G:A4->Prop} {H:Hp} {kvs:List (Key×V)} {cs:Combs} {x:Str} {t:A4} {ts:List Int} (r:KvR G H kvs cs) (h1:H t = .some (.lst (ts.map V.int))) (g1:G t):KvR G H (putK kvs (D9 x) (.ref t)) (cPut cs x ts):=by
 unfold putK cPut
 rw [zbi,zfz,r.some]
 split
 ·exact r.map h1 g1
 ·exact El r ⟨t,rfl,h1,g1⟩
noncomputable abbrev PastR (G:A4->Prop) (H:Hp):List V->List Combs->Prop:=Bs fun v cs=>∃ d,v = .ref d/\DictR G H d cs
structure Bk (C:A4) (G:A4->Prop) (H:Hp) (b l:A4) (cs:Combs) (past:List Combs):Prop where
 live:∀ x,G x->H x≠none
 nb:¬ G b
 nl:¬ G l
 ins:∃ dx d,H b=some (.ins C dx [("combs",.ref d),("past",.ref l)])/\DictR G H d cs
 lst:∃ vs,H l=some (.lst vs)/\PastR G H vs past
 good:Good cs
 goods:∀ p∈past,Good p
 few:past.length<=300
theorem Bk.move {C:A4} {G:A4->Prop} {H H':Hp} {b l:A4} {cs:Combs} {past:List Combs} (B:Bk C G H b l cs past) (s:∀ a o,G a\/a=b\/a=l->H a=some o->H' a=some o):Bk C G H' b l cs past:=by
 have s':∀ a o,G a->H a=some o->H' a=some o:=fun a o g e=>s a o (.inl g) e
 obtain ⟨dx,d,e1,r1⟩:=B.ins
 obtain ⟨vs,e2,r2⟩:=B.lst
 refine ⟨fun x g => ?_,B.nb,B.nl,⟨dx,d,s _ _ (.inr (.inl rfl)) e1,r1.mono s' fun _ g=>g⟩,⟨vs,s _ _ (.inr (.inr rfl)) e2,?_⟩,B.good,B.goods,B.few⟩
 ·have:=B.live x g
  cases e:H x with
  | none=>exact absurd e this
  | some o=>rw [s' x o g e]; simp
 ·exact Lv (fun _ _ ⟨d,e,r⟩=>⟨d,e,r.mono s' fun _ g=>g⟩) r2
theorem Bk.same {C:A4} {G:A4->Prop} {H H':Hp} {b l:A4} {cs:Combs} {past:List Combs} (B:Bk C G H b l cs past) (s:Same H H'):Bk C G H' b l cs past:=B.move fun a o _ e=>s a o e
theorem Bk.liveB {C:A4} {G:A4->Prop} {H:Hp} {b l:A4} {cs:Combs} {past:List Combs} (B:Bk C G H b l cs past):H b≠none/\H l≠none:=by
 obtain ⟨dx,d,e1,r1⟩:=B.ins
 obtain ⟨vs,e2,r2⟩:=B.lst
 exact ⟨by rw [e1]; simp,by rw [e2]; simp⟩
structure Mv (b l:A4) (G G':A4->Prop) (H H':Hp):Prop where
 keep:∀ a o,H a=some o->a≠b->a≠l->H' a=some o
 on:∀ a,H a≠none->H' a≠none
 new:∀ a,G' a->G a\/H a=none
theorem zeN {H H':Hp} (s:Same H H'):∀ a,H a≠none->H' a≠none:=fun a h=>by
 cases e:H a with
 | none=>exact absurd e h
 | some o=>rw [s a o e]; simp
theorem Mv.ofSame {b l:A4} {G:A4->Prop} {H H':Hp} (s:Same H H'):Mv b l G G H H':=⟨fun a o e _ _=>s a o e,zeN s,fun _ g => .inl g⟩
theorem Mv.trans {b l:A4} {G G1 G2:A4->Prop} {H H1 H2:Hp} (m:Mv b l G G1 H H1) (m':Mv b l G1 G2 H1 H2):Mv b l G G2 H H2:=by
 refine ⟨fun a o e n1 n2=>m'.keep a o (m.keep a o e n1 n2) n1 n2,fun a h=>m'.on a (m.on a h),fun a g => ?_⟩
 rcases m'.new a g with g1 | e
 ·exact m.new a g1
 ·refine .inr ?_
  cases q:H a with
  | none=>rfl
  | some o=>exact absurd e (m.on a (by rw [q]; simp))
noncomputable def Deed (ea:Nat->A4) (C:A4) (G:A4->Prop) (H:Hp) (b l:A4) (cs:Combs) (past:List Combs) (Q:VK) (E:XK):Except Nat Combs->Prop
 | .error j=>∀ H',Same H H'->E (.ref (ea j)) none H'
 | .ok cs'=>∀ H' G',Mv b l G G' H H'->Bk C G' H' b l cs' (past ++ [cs])->Q (.int ((past.length:Int) + 1)) H'
theorem Deed.from {ea:Nat->A4} {C:A4} {G:A4->Prop} {H H1:Hp} {b l:A4} {cs:Combs} {past:List Combs} {Q:VK} {E:XK} {r:Except Nat Combs} (d:Deed ea C G H b l cs past Q E r) (s:Same H H1):Deed ea C G H1 b l cs past Q E r:=by
 cases r with
 | error j=>exact fun H' s'=>d H' (s.trans s')
 | ok cs'=>exact fun H' G' m B=>d H' G' ((Mv.ofSame s).trans m) B
noncomputable def full (past:List Combs) (cs':Combs):Except Nat Combs:=if 300<=past.length then .error 9 else .ok cs'
noncomputable def putD (cs:Combs) (past:List Combs) (x:Str) (ts:List Int):Except Nat Combs :=
 if isName x=false then .error 0 else if areTeeth ts=false then .error 1 else if (cGet cs x).isSome=true then .error 2 else if 8<=cs.length then .error 3 else full past (cPut cs x (canon ts))
theorem call_dictD {X:Cx}:CallR X (.type "dict") (fun xs H Q=>∃ a kvs,xs = [V.ref a]/\Rd H a (.dK kvs)/\∀ p,H p=none->Q (.ref p) (upd H p (.dK kvs))):=by
 intro pins s σ H xs us Q I r h
 obtain ⟨a,kvs,rfl,ha,q⟩:=h
 obtain ⟨u,rfl,ru⟩:=zbR r
 cases ru
 exact d_copyOf I ha fun p s' np I'=>⟨.ref p,_,I',rfl,q p np⟩
noncomputable def sle (a b:Str):Prop:=a.cps.toList<=b.cps.toList
theorem sle_iff {a b:Str}:sle a b ↔ ltCps b.cps.toList a.cps.toList=false:=by
 unfold sle
 rw [ltCps_eq,decide_eq_false_iff_not,P7]
theorem sle_trans {a b c:Str} (h1:sle a b) (h2:sle b c):sle a c:=Om h1 h2
theorem sle_antisymm {a b:Str} (h1:sle a b) (h2:sle b a):a=b:=by
 have:=Nq h1 h2
 cases a; cases b
 simp only at this
 rw [Str.mk.injEq,<- K1]
 exact this
theorem zdP:∀ {l:List Str} {p:Str},risingS p l=true->(p :: l).Pairwise sle
 | [],p,_=>by simp
 | x :: r,p,h=>by
  simp only [risingS,Cg,Fw] at h
  have ih:=zdP h.2
  have hpx:sle p x:=sle_iff.mpr h.1
  refine Gw.mpr ⟨fun y hy => ?_,ih⟩
  rcases B9.mp hy with rfl | hm
  ·exact hpx
  ·exact sle_trans hpx ((Gw.mp ih).1 y hm)
theorem zcI {l:List Str} (h:sortedS l=true):l.Pairwise sle:=by
 cases l with
 | nil=>exact Gc
 | cons x r=>exact zdP h
theorem strs_same {a b:List Str} (hp:a.Perm b) (ha:sortedS a=true) (hb:sortedS b=true):a=b :=
 hp.eq_of_pairwise (fun _ _ _ _ h1 h2=>sle_antisymm h1 h2) (zcI ha) (zcI hb)
theorem zfx {α : Type} {xs:List α} {k:Int} {v : α} (h0:0<=k) (h:xs[k.toNat]?=some v):atI xs k=some v:=by
 have e:((k.toNat:Nat):Int)=k:=by omega
 rw [<- e]
 exact zaA h
noncomputable def valErr:List A0 := [.type "ValueError",.type "Exception",.type "BaseException",.type "object"]
structure BookAt (K:Av) (C:A4):Prop where
 cls:Cls K C
 nc:NoAttr K C "combs"
 np:NoAttr K C "past"
noncomputable def bookChk (K:Av) (C:A4):Bool:=Fx K C Qe && (Gu K C && (Jg K C && (Cm K (.ref C) "__setattr__" == some (some (.builtin "object.__setattr__")) && (Cm K (.ref C) "combs" == some none && Cm K (.ref C) "past" == some none))))
theorem book_of {K:Av} {C:A4} (h:bookChk K C=true):BookAt K C:=by
 unfold bookChk at h
 simp only [Cg,beq_iff_eq] at h
 obtain ⟨h1,h2,h3,h4,h5,h6⟩:=h
 exact ⟨⟨h1,h2,h3,h4⟩,h5,h6⟩
theorem meth_mk {K:Av} {C:A4} {cn m:Str} {st:Cj} {f:A4} {oc:A0} {od an:Option A4} {osl:Array (Option A0)} {kV doc pm cdv ct:A0} (a:Cm K (.ref C) m=some (some (.ref f)))
  (l:K.lookup f=some ⟨oc,od,.func (D4 m (cn ++ A5 "." ++ m) (defArgs st) (defBody st) (defScope st) .none kV doc pm an cdv ct),osl⟩) (c:Fh K cdv (cn ++ A5 "." ++ m)=true) (k:Dj K (.ref f)=true) (i:Ho K (.ref f)=true):MethAt K C cn m st :=
 ⟨f,_,zg1 l c k,a,i,k⟩
structure InitAt (K:Av) (mg:Str->Option A0) (C:A4) (x qual:Str) (st:Cj):Prop where
 ex:∃ f fd,Mk K C f/\Fun K "__init__" qual st f fd
 m:mg x=some (.ref C)
theorem init_mk {K:Av} {mg:Str->Option A0} {C:A4} {x qual:Str} {st:Cj} {f:A4} {oc:A0} {od an:Option A4} {osl:Array (Option A0)} {kV doc pm cdv ct:A0} (hm:mg x=some (.ref C)) (a:Cm K (.ref C) "__init__" = some (some (.ref f)))
  (l:K.lookup f=some ⟨oc,od,.func (D4 "__init__" qual (defArgs st) (defBody st) (defScope st) .none kV doc pm an cdv ct),osl⟩) (c:Fh K cdv qual=true) (k:Dj K (.ref f)=true) (i:Ho K (.ref f)=true) (k2:Dj K (.ref C)=true) (mk:Jw K C=true):InitAt K mg C x qual st :=
 ⟨⟨f,_,⟨mk,a,i,k2⟩,zg1 l c k⟩,hm⟩
theorem ref_mk {K:Av} {mg:Str->Option A0} {h:Bz} {x:Str} {f:A4} (X:K.In h) (G:h.Ns mainGlobals mg) (a:Bw K mainGlobals x=some (some (.ref f))):mg x=some (.ref f):=Km X G a
theorem zhf {α : Type} (l:List α) (a : α):atI (l ++ [a]) (-1)=some a:=by
 unfold atI ixN
 rw [if_neg (by decide),if_pos (by rw [Ag,Bp]; omega)]
 have e:((-1:Int) + (((l ++ [a]).length:Nat):Int)).toNat=l.length:=by rw [Ag,Bp]; omega
 rw [e]
 simp
section
variable {X:Cx}
end
section
variable {X:Cx} {T id:String} {name:Str} {r:V->List V->Hp->VK->Prop} {o e:Cb} {es:List Cb} {to:TE} {t:TA} {apos cpos:Pos}
end
noncomputable def pw (t:Int):Int:=2 ^ t.toNat
noncomputable def worth (ts:List Int):Int:=(ts.map pw).sum
noncomputable def aheadOf (n:Int):List Int:=((Ab 7).filter fun d=>n.toNat.testBit d).map fun i=>((i:Nat):Int)
noncomputable def meets (ah ts:List Int):Bool:=ts.any fun t=>decide (t∈ah)
noncomputable def afterOf (ah ts:List Int):List Int:=((canon (ah ++ ts)).filter fun d=>decide (0 < d)).map fun d=>d - 1
theorem zer:worth []=0:=rfl
theorem zaX (t:Int) (ts:List Int):worth (t :: ts)=pw t + worth ts:=rfl
theorem zcP (a b:List Int):worth (a ++ b)=worth a + worth b:=by
 induction a with
 | nil=>simp [worth]
 | cons t a ih=>rw [K5,zaX,zaX,ih]; omega
theorem worth_perm {a b:List Int} (h:a.Perm b):worth a=worth b:=by
 induction h with
 | nil=>rfl
 | cons x _ ih=>rw [zaX,zaX,ih]
 | swap x y l=>simp only [zaX]; omega
 | trans _ _ h1 h2=>exact h1.trans h2
theorem pw_pos (t:Int):0 < pw t:=by unfold pw; exact Int.pow_pos (by decide)
theorem zfC (ts:List Int):0<=worth ts:=by
 induction ts with
 | nil=>exact Dg _
 | cons t ts ih=>rw [zaX]; have:=pw_pos t; omega
noncomputable def bitSum (f:Nat->Bool):Nat->Nat
 | 0=>0
 | k + 1=>2 ^ k * (if f k then 1 else 0) + bitSum f k
theorem zcl (f:Nat->Bool) (k:Nat):bitSum f (k + 1)=2 ^ k * (if f k then 1 else 0) + bitSum f k:=rfl
theorem zcE (f:Nat->Bool):∀ k,bitSum f k < 2 ^ k
 | 0=>O7
 | k + 1=>by
  have:=zcE f k
  rw [zcl]
  rw [M6]
  cases f k
  ·simp; omega
  ·simp; omega
theorem zbJ (f:Nat->Bool) (i:Nat):∀ k,(bitSum f k).testBit i=(decide (i < k) && f i)
 | 0=>by simp [bitSum]
 | k + 1=>by
  rw [zcl,Nat.testBit_two_pow_mul_add _ (zcE f k),zbJ f i k]
  by_cases h:i < k
  ·rw [if_pos h,decide_eq_true h,decide_eq_true (show i < k + 1 by omega)]
  ·rw [if_neg h]
   by_cases e:i=k
   ·subst e
    rw [Im,decide_eq_true (Em i)]
    cases f i <;> rfl
   ·rw [decide_eq_false (show ¬ i < k + 1 by omega),F6]
    cases f k
    ·exact Gb _
    ·show (1:Nat).testBit (i - k)=false
     rw [Bool.eq_false_iff]
     exact fun z=>absurd (Nat.testBit_one_eq_true_iff_self_eq_zero.mp z) (by omega)
theorem zb2 (f:Nat->Bool):∀ k,worth (((Ab k).filter f).map fun i=>((i:Nat):Int))=((bitSum f k:Nat):Int)
 | 0=>rfl
 | k + 1=>by
  rw [De,Ce,Az,zcP,zb2 f k,zcl]
  cases h:f k
  ·simp [h,worth]
  ·simp only [h,C4,Ec,if_true,An,Fq,zaX,zer]
   unfold pw
   rw [Cs]
   push_cast
   omega
theorem zdB {f:Nat->Bool} {k:Nat} (i:Nat):(worth (((Ab k).filter f).map fun i=>((i:Nat):Int))).toNat.testBit i=(decide (i < k) && f i):=by
 rw [zb2,Cs,zbJ]
theorem ahead_worth (f:Nat->Bool):aheadOf (worth (((Ab 7).filter f).map fun i=>((i:Nat):Int)))=((Ab 7).filter f).map fun i=>((i:Nat):Int):=by
 unfold aheadOf
 congr 1
 refine Ev fun i hi => ?_
 rw [zdB,decide_eq_true (B7.mp hi),Fb]
theorem zba {n:Int} (h0:0<=n) (h1:n < 128):worth (aheadOf n)=n:=by
 unfold aheadOf
 rw [zb2]
 have:bitSum (fun d=>n.toNat.testBit d) 7=n.toNat:=by
  refine J9 fun i => ?_
  rw [zbJ]
  by_cases h:i < 7
  ·rw [decide_eq_true h,Fb]
  ·rw [decide_eq_false h,F6]
   symm
   refine Il (Ai (show n.toNat < 2 ^ 7 by omega) (Gd (by decide) (by omega)))
 rw [this]
 omega
theorem mem_ahead {n t:Int}:t∈aheadOf n ↔ 0<=t/\t<=6/\n.toNat.testBit t.toNat=true:=by
 unfold aheadOf
 simp only [A7,Ax,B7]
 constructor
 ·rintro ⟨i,⟨hi,hb⟩,rfl⟩
  exact ⟨by omega,by omega,by simpa using hb⟩
 ·rintro ⟨h0,h6,hb⟩
  exact ⟨t.toNat,⟨by omega,hb⟩,by omega⟩
theorem meets_false {ah ts:List Int}:meets ah ts=false ↔ ∀ t∈ts,t ∉ ah:=by
 unfold meets
 simp [Jt]
theorem zfa {n:Int} {ts:List Int} (h0:0<=n) (h1:n < 128) (g:GT ts):Dt n (worth ts)=0 ↔ meets (aheadOf n) ts=false:=by
 have hb:Dt n (worth ts)=((n.toNat &&& (worth ts).toNat:Nat):Int):=by
  unfold Dt
  rw [decide_eq_true h0,decide_eq_true (zfC ts)]
 rw [hb,meets_false]
 obtain ⟨f,rfl,_⟩:=g
 constructor
 ·intro h t ht ha
  obtain ⟨t0,t6,tb⟩:=mem_ahead.mp ha
  obtain ⟨i,hi,rfl⟩:=A7.mp ht
  obtain ⟨hr,hf⟩:=Ax.mp hi
  have z:(n.toNat &&& (worth (((Ab 8).filter f).map fun i=>((i:Nat):Int))).toNat)=0:=by omega
  have z:=congrArg (fun m=>m.testBit i) z
  simp only [O8,zdB,Gb] at z
  rw [Cs] at tb
  rw [tb,hf,decide_eq_true (B7.mp hr)] at z
  exact absurd z (by decide)
 ·intro h
  have z:(n.toNat &&& (worth (((Ab 8).filter f).map fun i=>((i:Nat):Int))).toNat)=0:=by
   refine J9 fun i => ?_
   rw [O8,zdB,Gb]
   cases e:n.toNat.testBit i with
   | false=>rfl
   | true =>
    have hi:i < 7:=by
     apply Dn
     intro hn
     have:=Il (Ai (show n.toNat < 2 ^ 7 by omega) (Gd (by decide) (show 7<=i by omega)))
     rw [this] at e
     exact absurd e (by decide)
    cases ef:f i with
    | false=>simp
    | true =>
     exfalso
     refine h (i:Int) (A7.mpr ⟨i,Ax.mpr ⟨B7.mpr (by omega),ef⟩,rfl⟩) (mem_ahead.mpr ⟨by omega,by omega,?_⟩)
     rwa [Cs]
  omega
theorem worth_half (l:List Int) (h:∀ t∈l,0<=t):worth l=2 * worth ((l.filter fun d=>decide (0 < d)).map fun d=>d - 1) + ((l.count 0:Nat):Int):=by
 induction l with
 | nil=>rfl
 | cons t l ih =>
  have ih:=ih fun x hx=>h x (Aa _ hx)
  have t0:=h t Ah
  rw [zaX,C4,List.count_cons]
  by_cases e:t=0
  ·subst e
   rw [ih]
   simp [pw]
   omega
  ·have hp:0 < t:=by omega
   have:pw t=2 * pw (t - 1):=by
    unfold pw
    rw [show t.toNat=(t - 1).toNat + 1 by omega,Int.pow_succ]
    omega
   rw [if_pos (decide_eq_true hp),An,zaX,this,ih]
   rw [if_neg (by simpa using e)]
   omega
theorem zgi {ah ts:List Int}:∀ d∈afterOf ah ts,0<=d/\d<=6:=by
 intro d hd
 obtain ⟨x,hx,rfl⟩:=A7.mp hd
 obtain ⟨hc,hp⟩:=Ax.mp hx
 have:=(mem_canon.mp hc).2
 have:=of_decide_eq_true hp
 omega
theorem zdb (ah ts:List Int):(afterOf ah ts).Pairwise (· < ·):=by
 unfold afterOf
 rw [Bd]
 exact ((zep (ah ++ ts)).sublist Cp).imp fun h=>by omega
theorem zcm (n:Int):(aheadOf n).Nodup:=by
 refine zaO ?_
 unfold aheadOf
 rw [Bd]
 refine Bc Cp (Ek ?_ (D6 (n:=7)))
 intro a b h
 omega
theorem zdE {ah ts:List Int} (ha:ah.Nodup) (hr:∀ t∈ah,0<=t/\t<=6) (ht:ts.Nodup) (hr':∀ t∈ts,0<=t/\t<=7) (hm:meets ah ts=false):worth (afterOf ah ts)=(worth ah + worth ts) / 2:=by
 have hn:(ah ++ ts).Nodup:=Cy.mpr ⟨ha,ht,fun a h1 b h2 e=>meets_false.mp hm b h2 (e ▸ h1)⟩
 have hp:(canon (ah ++ ts)).Perm (ah ++ ts):=by
  rw [D0 (zcj _) hn]
  intro t
  rw [mem_canon]
  refine ⟨fun h=>h.1,fun h=>⟨h,?_⟩⟩
  rcases Al.mp h with z | z
  ·have:=hr t z; omega
  ·exact hr' t z
 have hw:=worth_half (canon (ah ++ ts)) fun t h=>(mem_canon.mp h).2.1
 rw [worth_perm hp,zcP] at hw
 have hc:=List.nodup_iff_count.mp (zcj (ah ++ ts)) 0
 unfold afterOf
 omega
theorem zbx {n:Int}:∀ t∈aheadOf n,0<=t/\t<=6:=fun t h=>⟨(mem_ahead.mp h).1,(mem_ahead.mp h).2.1⟩
theorem zdG {n:Int} (h0:0<=n):(0:Int)∈aheadOf n ↔ n % 2=1:=by
 rw [mem_ahead]
 have:n.toNat.testBit 0=decide (n.toNat % 2=1):=Nat.testBit_zero _
 rw [show (0:Int).toNat=0 from rfl,this,decide_eq_true_eq]
 omega
noncomputable def stepsOf (cs:Combs) (n:Int):List (Str×Int):=if n % 2=1 then [("",n / 2)] else (cs.filter fun c=>decide (Builtin.bitAnd n (worth c.2)=0)).map fun c=>(c.1,(n + worth c.2) / 2)
noncomputable def goesOf (cs:Combs) (ah:List Int):List (Str×List Int):=if (0:Int)∈ah then [("",afterOf ah [])] else (cs.filter fun c => !meets ah c.2).map fun c=>(c.1,afterOf ah c.2)
theorem zdK {cs:Combs} {n:Int} (h0:0<=n) (h1:n < 128) (g:∀ c∈cs,GT c.2):(goesOf cs (aheadOf n)).map (fun p=>(p.1,worth p.2))=stepsOf cs n:=by
 unfold goesOf stepsOf
 by_cases e:n % 2=1
 ·rw [if_pos e,if_pos ((zdG h0).mpr e),An,Fq,zdE (zcm n) zbx Db (by simp) (by rfl),zba h0 h1,zer,Int.add_zero]
 ·rw [if_neg e,if_neg fun z=>e ((zdG h0).mp z),B6]
  have hf:(cs.filter fun c => !meets (aheadOf n) c.2)=cs.filter fun c=>decide (Dt n (worth c.2)=0):=by
   refine Ev fun c hc => ?_
   rw [B5,decide_eq_true_eq,zfa h0 h1 (g c hc),Fw]
  rw [hf]
  refine C7 fun c hc => ?_
  obtain ⟨hc,hz⟩:=Ax.mp hc
  have gc:=g c hc
  show (c.1,worth (afterOf (aheadOf n) c.2))=_
  rw [zdE (zcm n) zbx (zaO (zek gc)) (zbZ gc) ((zfa h0 h1 gc).mp (of_decide_eq_true hz)),zba h0 h1]
theorem steps_lt {cs:Combs} {n:Int} (h0:0<=n) (h1:n < 128) (g:∀ c∈cs,GT c.2):∀ p∈stepsOf cs n,0<=p.2/\p.2 < 128:=by
 rw [<- zdK h0 h1 g]
 intro p hp
 obtain ⟨q,hq,rfl⟩:=A7.mp hp
 have:∃ a b,q.2=afterOf a b:=by
  unfold goesOf at hq
  split at hq
  ·rw [A6.mp hq]; exact ⟨_,_,rfl⟩
  ·obtain ⟨c,_,rfl⟩:=A7.mp hq; exact ⟨_,_,rfl⟩
 obtain ⟨a,b,e⟩:=this
 show 0<=worth q.2/\worth q.2 < 128
 rw [e]
 refine ⟨zfC _,?_⟩
 have hs:afterOf a b=((Ab 7).filter fun i=>decide (((i:Nat):Int)∈afterOf a b)).map fun i=>((i:Nat):Int):=by
  refine zbk ?_ ((zdb a b).imp fun h=>by omega) ?_
  ·rw [D0 (zaO (zdb a b))]
   ·intro t
    simp only [A7,Ax,B7,decide_eq_true_eq]
    constructor
    ·intro h
     have:=zgi t h
     exact ⟨t.toNat,⟨by omega,by rwa [show ((t.toNat:Nat):Int)=t by omega]⟩,by omega⟩
    ·rintro ⟨i,⟨_,h⟩,rfl⟩
     exact h
   ·refine zaO ?_
    rw [Bd]
    refine Bc Cp (Ek ?_ (D6 (n:=7)))
    intro a b h
    omega
  ·rw [Bd]
   refine Bc Cp (Ek ?_ (D6 (n:=7)))
   intro a b h
   omega
 rw [hs,zb2]
 have:=zcE (fun i=>decide (((i:Nat):Int)∈afterOf a b)) 7
 omega
noncomputable def StepsR (H:Hp):List V->List (Str×Int)->Prop
 | [],[]=>True
 | v :: vs,s :: ss=>(∃ q,v = .ref q/\H q=some (.tup [.str s.1,.int s.2]))/\StepsR H vs ss
 | _,_=>False
theorem StepsR.mono {H H':Hp} (m:∀ q xs,H q=some (.tup xs)->H' q=some (.tup xs)):∀ {vs:List V} {ss:List (Str×Int)},StepsR H vs ss->StepsR H' vs ss
 | [],[],_=>trivial
 | _ :: _,_ :: _,⟨⟨q,e,h⟩,r⟩=>⟨⟨q,e,m q _ h⟩,r.mono m⟩
 | [],_ :: _,x=>x.elim
 | _ :: _,[],x=>x.elim
theorem StepsR.length {H:Hp}:∀ {vs:List V} {ss:List (Str×Int)},StepsR H vs ss->vs.length=ss.length
 | [],[],_=>rfl
 | _ :: _,_ :: _,⟨_,r⟩=>by rw [At,At,r.length]
 | [],_ :: _,x=>x.elim
 | _ :: _,[],x=>x.elim
theorem StepsR.snoc {H:Hp} {q:A4} {s:Str×Int} (hq:H q=some (.tup [.str s.1,.int s.2])):∀ {vs:List V} {ss:List (Str×Int)},StepsR H vs ss->StepsR H (vs ++ [.ref q]) (ss ++ [s])
 | [],[],_=>⟨⟨q,rfl,hq⟩,trivial⟩
 | _ :: _,_ :: _,⟨a,r⟩=>⟨a,r.snoc hq⟩
 | [],_ :: _,x=>x.elim
 | _ :: _,[],x=>x.elim
theorem StepsR.get {H:Hp} {i:Nat} {s:Str×Int}:∀ {vs:List V} {ss:List (Str×Int)},StepsR H vs ss->ss[i]?=some s->∃ q,vs[i]?=some (.ref q)/\H q=some (.tup [.str s.1,.int s.2]):=by
 induction i with
 | zero =>
  intro vs ss r e
  match vs,ss,r with
  | [],[],_=>simp at e
  | v :: _,x :: _,⟨⟨q,ev,h⟩,_⟩ =>
   simp at e
   subst e
   exact ⟨q,by rw [ev]; rfl,h⟩
 | succ i ih =>
  intro vs ss r e
  match vs,ss,r with
  | [],[],_=>simp at e
  | v :: vs,x :: ss,⟨_,r⟩ =>
   obtain ⟨q,e1,e2⟩:=ih r (by simpa using e)
   exact ⟨q,by simpa using e1,e2⟩
noncomputable def byNames (cs:Combs) (nm:List Str):Combs:=nm.map fun x=>(x,(cGet cs x).getD [])
theorem byNames_snoc {cs:Combs} {nm:List Str} {x:Str} {ts:List Int} (h:cGet cs x=some ts):byNames cs (nm ++ [x])=byNames cs nm ++ [(x,ts)]:=by
 unfold byNames
 rw [Az,An,Fq,h]
 rfl
theorem zdJ {cs:Combs} {c:Str×List Int} {n:Int} (h:¬ n % 2=1):stepsOf (cs ++ [c]) n=stepsOf cs n ++ if Builtin.bitAnd n (worth c.2)=0 then [(c.1,(n + worth c.2) / 2)] else []:=by
 unfold stepsOf
 rw [if_neg h,if_neg h,Ce,Az]
 congr 1
 by_cases e:Dt n (worth c.2)=0
 ·rw [if_pos e,C4,if_pos (decide_eq_true e)]
  rfl
 ·rw [if_neg e,C4,if_neg (by simpa using e)]
  rfl
theorem steps_nil {n:Int} (h:¬ n % 2=1):stepsOf [] n = []:=by
 unfold stepsOf
 rw [if_neg h]
 rfl
theorem zev {cs:Combs} {n:Int} (h:n % 2=1):stepsOf cs n = [((Str.ofString "" : Str),n / 2)]:=by
 unfold stepsOf
 exact if_pos h
theorem steps_len {cs:Combs} {n:Int} (h:¬ n % 2=1):(stepsOf cs n).length<=cs.length:=by
 unfold stepsOf
 rw [if_neg h,A2]
 exact Cn _ _
theorem zfp (t:Int) (ts:List Int):inV (V.int t) (ts.map V.int)=decide (t∈ts):=by
 unfold inV
 rw [Js,B5,Bq,decide_eq_true_eq]
 constructor
 ·rintro ⟨x,hx,e⟩
  have:x=t:=by
   have e':(x == t)=true:=e
   exact eq_of_beq e'
  rw [<- this]; exact hx
 ·intro h
  exact ⟨t,h,beq_self_eq_true t⟩
theorem after_canon {ah ts ns:List Int} (ha:ah.Nodup) (hr:∀ t∈ah,0<=t/\t<=6) (ht:ts.Nodup) (hr':∀ t∈ts,0<=t/\t<=7) (hm:meets ah ts=false) (hp:ns.Perm (ah ++ ts)) (hs:ns.Pairwise (· <= ·)):ns=canon (ah ++ ts):=by
 refine zc8 hp hs (Cy.mpr ⟨ha,ht,fun a h1 b h2 e=>meets_false.mp hm b h2 (e ▸ h1)⟩) fun t h => ?_
 rcases Al.mp h with z | z
 ·have:=hr t z; omega
 ·exact hr' t z
noncomputable def GoesR (H:Hp):List V->List (Str×List Int)->Prop
 | [],[]=>True
 | v :: vs,s :: ss=>(∃ q t,v = .ref q/\H q=some (.tup [.str s.1,.ref t])/\H t=some (.tup (s.2.map V.int)))/\GoesR H vs ss
 | _,_=>False
theorem GoesR.mono {H H':Hp} (m:∀ q xs,H q=some (.tup xs)->H' q=some (.tup xs)):∀ {vs:List V} {ss:List (Str×List Int)},GoesR H vs ss->GoesR H' vs ss
 | [],[],_=>trivial
 | _ :: _,_ :: _,⟨⟨q,t,e,h,h2⟩,r⟩=>⟨⟨q,t,e,m q _ h,m t _ h2⟩,r.mono m⟩
 | [],_ :: _,x=>x.elim
 | _ :: _,[],x=>x.elim
theorem GoesR.length {H:Hp}:∀ {vs:List V} {ss:List (Str×List Int)},GoesR H vs ss->vs.length=ss.length
 | [],[],_=>rfl
 | _ :: _,_ :: _,⟨_,r⟩=>by rw [At,At,r.length]
 | [],_ :: _,x=>x.elim
 | _ :: _,[],x=>x.elim
theorem GoesR.snoc {H:Hp} {q t:A4} {s:Str×List Int} (hq:H q=some (.tup [.str s.1,.ref t])) (ht:H t=some (.tup (s.2.map V.int))):∀ {vs:List V} {ss:List (Str×List Int)},GoesR H vs ss->GoesR H (vs ++ [.ref q]) (ss ++ [s])
 | [],[],_=>⟨⟨q,t,rfl,hq,ht⟩,trivial⟩
 | _ :: _,_ :: _,⟨a,r⟩=>⟨a,r.snoc hq ht⟩
 | [],_ :: _,x=>x.elim
 | _ :: _,[],x=>x.elim
theorem GoesR.get {H:Hp} {i:Nat} {s:Str×List Int}:∀ {vs:List V} {ss:List (Str×List Int)},GoesR H vs ss->ss[i]?=some s->∃ q t,vs[i]?=some (.ref q)/\H q=some (.tup [.str s.1,.ref t])/\H t=some (.tup (s.2.map V.int)):=by
 induction i with
 | zero =>
  intro vs ss r e
  match vs,ss,r with
  | [],[],_=>simp at e
  | v :: _,x :: _,⟨⟨q,t,ev,h,h2⟩,_⟩ =>
   simp at e
   subst e
   exact ⟨q,t,by rw [ev]; rfl,h,h2⟩
 | succ i ih =>
  intro vs ss r e
  match vs,ss,r with
  | [],[],_=>simp at e
  | v :: vs,x :: ss,⟨_,r⟩ =>
   obtain ⟨q,t,e1,e2⟩:=ih r (by simpa using e)
   exact ⟨q,t,by simpa using e1,e2⟩
theorem goes_in {cs:Combs} {ah:List Int} (h:(0:Int)∈ah):goesOf cs ah = [((A5 "" : Str),afterOf ah [])]:=by
 unfold goesOf
 exact if_pos h
theorem goes_nil {ah:List Int} (h:(0:Int) ∉ ah):goesOf [] ah = []:=by
 unfold goesOf
 rw [if_neg h]
 rfl
theorem zeS {cs:Combs} {c:Str×List Int} {ah:List Int} (h:(0:Int) ∉ ah):goesOf (cs ++ [c]) ah=goesOf cs ah ++ if meets ah c.2=true then [] else [(c.1,afterOf ah c.2)]:=by
 unfold goesOf
 rw [if_neg h,if_neg h,Ce,Az]
 congr 1
 by_cases e:meets ah c.2=true
 ·rw [if_pos e,C4,if_neg (by rw [e]; decide)]
  rfl
 ·rw [if_neg e,C4,if_pos (by simpa using e)]
  rfl
end L2
namespace L2
open PySem PySem.Spec PyProof.Rows PySem.W
structure LtOk (n:Nat) (lt:Nat->Nat->Bool):Prop where
 tr:∀ {a b c},lt a b=true->lt b c=true->lt a c=true
 tot:∀ {a b},a < n->b < n->a≠b->lt a b=false->lt b a=true
 irr:∀ a,lt a a=false
noncomputable abbrev gd (p:Array Nat) (i:Nat):Nat:=p.getD i 0
section
variable {n:Nat} {lt:Nat->Nat->Bool} {cmp:Nat->Nat->(Bool->A3->Prop)->A3->Prop} {s:A3}
variable (L:LtOk n lt) (hc:∀ i j C,i < n->j < n->i≠j->C (lt i j) s->cmp i j C s)
include L hc
omit hc L in
omit hc L in
omit hc L in
end
end L2
namespace L2
open PySem PySem.Spec PyProof.Rows PySem.W
open AutoSeq1 (wpAny_loadPart')
open MeetsSeq MeetsSeq2 MeetsSeq3
section
variable {prog:Aq} {w:Bj} {A:Bb} {E:A0->A3->Prop} {s:A3}
end
noncomputable def kd (ks:List (Str×List Int)) (i:Nat):Str×List Int:=ks.getD i (A5 "",[])
section
variable {X:Cx}
end
noncomputable def intsChk:List A0->List Int->Bool
 | [],[]=>true
 | .int i _ :: r,k :: s=>decide (i=k) && intsChk r s
 | _,_=>false
theorem zf6:∀ {us:List A0} {ns:List Int},intsChk us ns=true->Vals (ns.map V.int) us
 | [],[],_ => .nil
 | .int i t :: r,k :: s,h=>by
  simp only [intsChk,Cg,decide_eq_true_eq] at h
  obtain ⟨rfl,h⟩:=h
  exact .cons ⟨t,rfl⟩ (zf6 h)
 | [],_ :: _,h=>by cases h
noncomputable def tupChk (K:Av) (a:A4) (ns:List Int):Bool:=match K.lookup a with
 | some o=>(o.cls == .type "tuple") && match o.data with
  | .seq its _=>intsChk its.toList ns && decide (its.size<=1000)
  | _=>false
 | none=>false
theorem tup_chk {K:Av} {a:A4} {ns:List Int} (h:tupChk K a ns=true) (H:Hp):SqT K H a (ns.map V.int):=by
 unfold tupChk at h
 split at h
 ·rename_i o e
  rw [Cg] at h
  obtain ⟨hc,h⟩:=h
  split at h
  ·rename_i its n ed
   rw [Cg] at h
   exact .inr ⟨o,its,n,e,eq_of_beq hc,ed,big (of_decide_eq_true h.2),zf6 h.1⟩
  ·cases h
 ·cases h
end L2
namespace L2
open PySem PySem.Spec PyProof.Rows
theorem zhI {J:It} {Ok:Hp->Prop} {L:List V} {tf:TT} {te:TE} {D:A4} {σ0 capv:St} {H1:Hp} {Q:VK} (hσ : σ0=none :: capv) (G:Gives J Ok L) (hL:L.length<=sizeLine) (hD:H1 D=none) (hOk:∀ H,Same H1 H->Ok H) (p:Nat->Bool) (Rel:Hp->Nat->V->Prop)
  (hm:∀ H H' i v,Same H H'->Rel H i v->Rel H' i v) (hw:∀ H i v l l',v ≠ .ref D->H D=some (.lst l)->Rel H i v->Rel (upd H D (.lst l')) i v)
  (ht:∀ (i:Nat) x,L[i]?=some x->∀ H R,Same H1 H->(∀ H',Same H H'->R (p i) H')->tf (some x :: capv) H R)
  (he:∀ (i:Nat) x,L[i]?=some x->p i=true->∀ H R,Same H1 H->H D≠none->(∀ H' v,Same H H'->v ≠ .ref D->Rel H' i v->R v H')->te (some x :: capv) H R)
  (hd:∀ H ys,Same H1 H->H D=some (.lst ys)->Bs (fun i y=>y ≠ .ref D/\Rel H i y) ((Ab L.length).filter p) ys->Q (.ref D) H) :
  CompW J D σ0 H1 (gName 0) tf te Q:=by
 subst hσ
 refine zhc G (fun i xs σ H=>(∃ o,σ = o :: capv)/\Same H1 H/\H D=some (.lst xs)/\Bs (fun i y=>y ≠ .ref D/\Rel H i y) ((Ab i).filter p) xs) ⟨⟨none,rfl⟩,Same.new hD,zac,.nil⟩ (fun i xs σ H _ h=>hOk H h.2.1) ?_ ?_
 ·rintro i x xs σ H hi hx ⟨⟨o,rfl⟩,s,e,hr⟩
  show tf (some x :: capv) H _
  refine ht i x hx H _ s fun H' s' => ?_
  have hxl:xs.length<=i:=by
   rw [<- C3 hr]
   exact Br (Cn _ _) (by rw [Aw]; omega)
  have efil:(Ab (i + 1)).filter p=(Ab i).filter p ++ if p i=true then [i] else []:=by
   rw [De,Ce]
   congr 1
   rw [C4,Ec]
  cases hp:p i with
  | true =>
   rw [if_pos rfl]
   refine he i x hx hp H' _ (s.trans s') (by rw [s' _ _ e]; exact nofun) fun H2 v s2 hv rv => ?_
   have e2:=s2 _ _ (s' _ _ e)
   refine CNext.of hi hL e2 hxl ⟨⟨some x,rfl⟩,((s.trans s').trans s2).put hD,zac,?_⟩
   rw [efil,if_pos hp]
   exact El (Bs.mapP hr fun j y z=>⟨z.1,hw _ _ _ _ _ z.1 e2 (hm _ _ _ _ (s'.trans s2) z.2)⟩) ⟨hv,hw _ _ _ _ _ hv e2 rv⟩
  | false =>
   rw [if_neg A9]
   refine CSkip.of (xs:=xs) hi ⟨⟨some x,rfl⟩,s.trans s',s' _ _ e,?_⟩
   rw [efil,if_neg (by rw [hp]; exact A9),Cd]
   exact Bs.mapP hr fun j y z=>⟨z.1,hm _ _ _ _ s' z.2⟩
 ·rintro xs σ H ⟨_,s,e,hr⟩
  exact hd H xs s e hr
theorem Bs.at {α β : Type} {R : α -> β -> Prop}:∀ {l:List α} {m:List β} {i:Nat} {x : α},Bs R l m->l[i]?=some x->∃ y,m[i]?=some y/\R x y
 | _,_,i,x,.nil,h=>by simp at h
 | _,_,0,x,.cons h r,e=>by
  simp at e
  subst e
  exact ⟨_,rfl,h⟩
 | _,_,i + 1,x,.cons h r,e=>by
  obtain ⟨y,e1,e2⟩:=Bs.at (i:=i) r (by simpa using e)
  exact ⟨y,by simpa using e1,e2⟩
theorem zgg {J:It} {Ok:Hp->Prop} {L:List V} {tf:TT} {te:TE} {D:A4} {σ0 capv:St} {H1:Hp} {Q:VK} (hσ : σ0=none :: capv) (G:Gives J Ok L) (hL:L.length<=sizeLine) (hD:H1 D=none) (hOk:∀ H,Same H1 H->Ok H) (p:Nat->Bool) (F:Nat->V) (hF:∀ i,i < L.length->p i=true->F i ≠ .ref D)
  (ht:∀ (i:Nat) x,L[i]?=some x->∀ H R,Same H1 H->(∀ H',Same H H'->R (p i) H')->tf (some x :: capv) H R)
  (he:∀ (i:Nat) x,L[i]?=some x->p i=true->∀ H R,Same H1 H->(∀ H',Same H H'->R (F i) H')->te (some x :: capv) H R)
  (hd:∀ H,Same H1 H->H D=some (.lst (((Ab L.length).filter p).map F))->Q (.ref D) H) :
  CompW J D σ0 H1 (gName 0) tf te Q:=by
 refine zhI hσ G hL hD hOk p (fun _ i v=>v=F i) (fun _ _ _ _ _ h=>h) (fun _ _ _ _ _ _ _ h=>h) ht (fun i x hx hp H R s _ h=>he i x hx hp H R s fun H' s'=>h H' _ s' (hF i (Ar.mp hx).1 hp) rfl) fun H ys s e pr=>hd H s ?_
 rw [e]
 have:∀ {l:List Nat} {m:List V},Bs (fun i y=>y ≠ .ref D/\y=F i) l m->m=l.map F:=by
  intro l m q
  induction q with
  | nil=>rfl
  | cons h _ ih=>rw [An,<- ih,h.2]
 rw [this pr]
noncomputable def nmSort (cs:Combs):List Str:=(cs.map (·.1)).mergeSort fun a b=>decide (a.cps.toList<=b.cps.toList)
theorem zfl (cs:Combs):(nmSort cs).Perm (cs.map (·.1)):=List.mergeSort_perm _ _
theorem zeL (cs:Combs):sortedS (nmSort cs)=true:=by
 refine sortedS_of_pairwise _ ?_
 have h:=List.pairwise_mergeSort (le:=fun a b:Str=>decide (a.cps.toList<=b.cps.toList)) (fun a b c h1 h2=>decide_eq_true (Om (of_decide_eq_true h1) (of_decide_eq_true h2))) (fun a b=>by
  rcases List.le_total a.cps.toList b.cps.toList with h | h
  ·rw [decide_eq_true h]; rfl
  ·rw [decide_eq_true h,Lz]) (cs.map (·.1))
 exact h.imp fun {a b} h=>sle_iff.mp (show a.cps.toList<=b.cps.toList from of_decide_eq_true h)
noncomputable def srt (cs:Combs):Combs:=byNames cs (nmSort cs)
theorem zcf {cs:Combs} (nd:(cs.map (·.1)).Nodup) {c:Str×List Int} (h:c∈cs):cGet cs c.1=some c.2:=by
 induction cs with
 | nil=>cases h
 | cons d cs ih =>
  rw [zc6]
  rw [An,Do] at nd
  rcases B9.mp h with rfl | h
  ·exact if_pos rfl
  ·rw [if_neg (fun z:d.1=c.1=>nd.1 (z ▸ A7.mpr ⟨c,h,rfl⟩))]
   exact ih nd.2 h
theorem by_same {cs ks:Combs} (nd:(cs.map (·.1)).Nodup) (p:ks.Perm cs):byNames cs (ks.map (·.1))=ks:=by
 unfold byNames
 rw [B6]
 conv=>rhs; rw [<- Fj ks]
 refine C7 fun k hk => ?_
 show (k.1,(cGet cs k.1).getD [])=k
 rw [zcf nd (p.mem_iff.mp hk)]
 rfl
theorem zd5 {cs:Combs} (nd:(cs.map (·.1)).Nodup):(srt cs).Perm cs:=by
 have h:(byNames cs (nmSort cs)).Perm (byNames cs (cs.map (·.1))):=(zfl cs).map _
 rw [by_same nd (K0 _)] at h
 exact h
noncomputable def stp (C:Combs) (s:Nat):List (Str×Int):=stepsOf C (s:Int)
noncomputable abbrev tr (r:List Bool) (s:Nat):Bool:=r.getD s false
noncomputable def GC (C:Combs):Prop:=∀ c∈C,GT c.2
theorem zcQ {C:Combs} (g:GC C) {s:Nat} (h:s < 128) {p:Str×Int} (hp:p∈stp C s):0<=p.2/\p.2.toNat < 128:=by
 have:=steps_lt (n:=(s:Int)) (by omega) (by omega) g p hp
 omega
theorem zbl (lo:Int) (n:Nat):((Ab n).map fun i=>V.int (lo + ((i:Nat):Int))).length=n:=by rw [A2,Aw]
theorem at0 {x y:V}:atI [x,y] 0=some x:=show atI [x,y] ((0:Nat):Int)=_ from zaA rfl
theorem at1 {x y:V}:atI [x,y] 1=some y:=show atI [x,y] ((1:Nat):Int)=_ from zaA rfl
theorem zdd {C:Combs} (h8:C.length<=8) (s:Nat):(stp C s).length<=8:=by
 unfold stp
 by_cases e:(s:Int) % 2=1
 ·rw [zev e]; exact Mh rfl
 ·exact Br (steps_len e) h8
theorem at_end {α : Type} {ws:List α} {m:Nat} {x : α} (hl:ws.length=m + 1) (h:ws[m]?=some x):atI ws (-1)=some x:=by
 have hne:ws ≠ []:=fun z=>by rw [z] at hl; simp at hl
 have e:ws=ws.dropLast ++ [ws.getLast hne]:=(Gf hne).symm
 have e2:ws.getLast hne=x:=by
  rw [Lo]
  have:ws[m]?=some (ws[ws.length - 1]'(by omega)):=by rw [A8 (by omega)]; congr 2; omega
  rw [h] at this
  exact (Bh this).symm
 rw [e,e2]
 exact zhf _ _
section
variable {X:Cx}
end
theorem zaw:∀ (n:Nat) (l:List Nat),l.Nodup->(∀ x∈l,x < n)->l.length<=n
 | 0,[],_,_=>Ac _
 | 0,x :: l,_,h=>absurd (h x Ah) (by omega)
 | n + 1,l,nd,h=>by
  by_cases hn:n∈l
  ·have e:=Lg hn
   have:=zaw n (l.erase n) (nd.erase n) (fun x hx=>by
    have h1:=h x (List.mem_of_mem_erase hx)
    have h2:x≠n:=((Qt nd).mp hx).1
    omega)
   omega
  ·have:=zaw n l nd (fun x hx=>by
    have h1:=h x hx
    have h2:x≠n:=fun z=>hn (z ▸ hx)
    omega)
   omega
noncomputable def nx (C:Combs) (row:List Bool) (s:Nat):Option (Str×Int):=(stp C s).find? fun p=>tr row p.2.toNat
noncomputable def LaysR (H:Hp) (vs:List V) (n:Nat->Str) (i:Nat):Prop:=Bs (fun (j:Nat) (v:V)=>∃ q,v = .ref q/\H q=some (.tup [.int (j:Int),.str (n j)])) ((Ab i).filter fun j=>decide (n j≠A5 "")) vs
theorem LaysR.mono {H H':Hp} {vs:List V} {n:Nat->Str} {i:Nat} (m:∀ q xs,H q=some (.tup xs)->H' q=some (.tup xs)) (r:LaysR H vs n i):LaysR H' vs n i:=Bs.mapP r fun _ _ ⟨q,a,b⟩=>⟨q,a,m _ _ b⟩
theorem LaysR.skip {H:Hp} {vs:List V} {n:Nat->Str} {i:Nat} (r:LaysR H vs n i) (h:n i=A5 ""):LaysR H vs n (i + 1):=by
 unfold LaysR
 rw [De,Ce,C4,if_neg (by simpa using h),Ec,Cd]
 exact r
theorem LaysR.snoc {H:Hp} {vs:List V} {n:Nat->Str} {i:Nat} {q:A4} (r:LaysR H vs n i) (h:n i≠A5 "") (hq:H q=some (.tup [.int (i:Int),.str (n i)])):LaysR H (vs ++ [.ref q]) n (i + 1):=by
 unfold LaysR
 rw [De,Ce,C4,if_pos (by simpa using h),Ec]
 exact El r ⟨q,rfl,hq⟩
theorem LaysR.len {H:Hp} {vs:List V} {n:Nat->Str} {i:Nat} (r:LaysR H vs n i):vs.length<=i:=by
 rw [<- C3 r]
 exact Br (Cn _ _) (by rw [Aw]; omega)
section
variable {prog:Aq} {w:Bj} {A:Bb} {E:A0->A3->Prop} {s:A3} {d it:A4} {o:Obj} {es:Array J4} {ep i:Nat}
theorem zg4 (ho:s.heap.get? d=some o) (hc:o.ExactDict):s.TypeIs (.ref d) "dict" := ⟨o,ho,hc.1⟩
theorem zg6 {Q:A0->A3->Prop} (hd:(d == sysModules)=false) (ho:s.heap.get? d=some o) (hc:o.ExactDict) (hdat:o.data = .dict es ep)
  (hQ:Q (.ref s.heap.objs.size) { s with heap:=s.heap.push { cls := .type "dict_keyiterator",data := .fields #[.ref d,.int 0 0,.int es.size 0,.int ep 0] } }):wpAny (model prog w) A (pyIter (.ref d)) Q E s:=by
 have hT:=zg4 ho hc
 refine wpAny_pyIter_slot hT F.slot_dict_iter (E1 F.slot_dict_iter hT F.entry_dict_iter (show wpAny _ _ (Ff.«dict.__iter__» _) _ _ _ from ?_) (F.args_dict_iter_1 _))
 unfold Ff.«dict.__iter__»; refine A1 ?_
 unfold Q3; refine A1 (wpAny_notOrdered_dict hT (show wpAny _ _ (pure (B1 d)) _ _ s from Ae (show wpAny _ _ (Kd d >>= _) _ _ s from ?_)))
 unfold Kd; rw [if_neg (by rw [hd]; exact A9)]
 refine A1 (Ae (A1 (Hs ho hdat (A1 (Lj ho hdat (A1 (G9 (Ae ⟨_,rfl,"dict_keyiterator",_,⟨_,Ba _ rfl,rfl⟩,F.slot_dict_keyiterator_next.lookup,?_⟩))))))))
 simpa [rawInt] using hQ
theorem zg5 {Q:Option A0->A3->Prop} (hit:s.heap.IsKeyIter it d i es.size ep) (hod:s.heap.get? d=some o) (hdd:o.data = .dict es ep) (hlt:i < es.size)
  (hQ:∀ h',h'.IsKeyIter it d (i + 1) es.size ep->Fv it s.heap h'->Q (some es[i].key) { s with heap:=h' }):wpAny (model prog w) A (pyNext (.ref it)) Q E s:=by
 obtain ⟨oi,hi,hc,hd⟩:=id hit
 have hown:Ie "dict_keyiterator" = false:=by decide
 unfold pyNext
 refine A1 (K3 (Iw (name:=A5 "__next__") hit.typeIs F.slot_dict_keyiterator_next (E1 F.slot_dict_keyiterator_next hit.typeIs F.entry_dict_keyiterator_next ?_ (F.args_dict_keyiterator_next_1 _))))
 refine A1 (Ae (A1 (A1 ?_)))
 first | refine A1 (Eu hit.typeIs (Ae (A1 (Jn hi hd ?_)))) | refine A1 (Fm hit.typeIs (Ae (A1 (Jn hi hd ?_))))
 simp only [hown,Bo,if_false]
 show wpAny _ _ (if (B1 d == Ee)=true then _ else _) _ _ s
 rw [if_neg (show ¬ ((B1 d == Ee)=true) from A9)]; refine A1 (Ae (A1 (Hs hod hdd ?_)))
 rw [if_neg (by simp)]; refine A1 (Ae (A1 (Lj hod hdd ?_)))
 rw [if_neg (by simp)]; refine Ae ?_
 simp only [show ¬ ((i:Int) < 0) from by omega,if_false,Cs,Gz hlt]; refine A1 ?_
 first | refine A1 (Eu hit.typeIs (Ae (A1 (Je hit.typeIs ?_)))) | refine A1 (Fm hit.typeIs (Ae (A1 (Je hit.typeIs ?_))))
 have hit':(s.heap.update it (Fd (·.setIfInBounds 1 (rawInt ((i:Int) + 1))))).IsKeyIter it d (i + 1) es.size ep:=⟨_,Is _ hi (Mg (Fi hd _)),(No ..).trans hc,by rw [Fi hd]; simp [rawInt]⟩
 refine (show wpAny _ _ (setField (.ref it) 1 (rawInt ((i:Int) + 1)) >>= _) _ _ s from A1 (Hj hi hd (by simp) (A1 (Dp (A1 (Je (s:={ s with heap:=s.heap.update it (Fd (·.setIfInBounds 1 (rawInt ((i:Int) + 1)))) }) hit'.typeIs ?_))))))
 show wpAny _ _ (pure es[i].key) _ _ _
 exact Ae (Ae ⟨_,rfl,Ae (hQ _ hit' (Kq ..))⟩)
theorem zhF {Q:Option A0->A3->Prop} (hh:A.handled=none) (hit:s.heap.IsKeyIter it d i es.size ep) (hod:s.heap.get? d=some o) (hdd:o.data = .dict es ep) (hge:es.size<=i)
  (hQ:∀ h',Heap.ExtBut it s.heap h'->Q none { s with heap:=h' }):wpAny (model prog w) A (pyNext (.ref it)) Q E s:=by
 obtain ⟨oi,hi,hc,hd⟩:=id hit
 have hown:Ie "dict_keyiterator" = false:=by decide
 unfold pyNext
 refine A1 (K3 (Iw (name:=A5 "__next__") hit.typeIs F.slot_dict_keyiterator_next (E1 F.slot_dict_keyiterator_next hit.typeIs F.entry_dict_keyiterator_next ?_ (F.args_dict_keyiterator_next_1 _))))
 refine A1 (Ae (A1 (A1 ?_)))
 first | refine A1 (Eu hit.typeIs (Ae (A1 (Jn hi hd ?_)))) | refine A1 (Fm hit.typeIs (Ae (A1 (Jn hi hd ?_))))
 simp only [hown,Bo,if_false]
 show wpAny _ _ (if (B1 d == Ee)=true then _ else _) _ _ s
 rw [if_neg (show ¬ ((B1 d == Ee)=true) from A9)]; refine A1 (Ae (A1 (Hs hod hdd ?_)))
 rw [if_neg (by simp)]; refine A1 (Ae (A1 (Lj hod hdd ?_)))
 rw [if_neg (by simp)]; refine Ae ?_
 simp only [show ¬ ((i:Int) < 0) from by omega,if_false,Cs,Array.getElem?_eq_none hge]; refine A1 ?_
 first | refine A1 (Eu hit.typeIs (Ae ?_)) | refine A1 (Fm hit.typeIs (Ae ?_))
 refine (show wpAny _ _ (setField (.ref it) 0 .none >>= _) _ _ s from A1 (Hj hi hd (by simp) (show wpAny _ _ (newExc (.type "StopIteration") [] >>= _) _ _ _ from A1 ?_)))
 simp only [newExc,newTuple]; refine A1 (G9 ?_ (by size_fits))
 refine A1 (m:=firstArgMember _ _) (wpAny_of_eq (a:=Ee) (by first | rfl | (simp only [firstArgMember]; rfl)) (G9 ?_ (by size_fits)))
 simp only [raiseNew]; refine A1 (wpAny_handled ?_); rw [show A.in1.handled=none from hh]
 refine A1 (Ae (wpAny_throw ?_)); refine A1 (Iv (T := "StopIteration") (b:=true) ⟨_,Ba _ rfl,rfl⟩ isSubtype_stop ?_); exact Ae (hQ _ (((Kq ..).extBut.push _).push _))
end
theorem Bs.rev {α β : Type} {R : α -> β -> Prop}:∀ {l:List α} {m:List β} {i:Nat} {y : β},Bs R l m->m[i]?=some y->∃ x,l[i]?=some x/\R x y
 | _,_,i,x,.nil,h=>by simp at h
 | _,_,0,x,.cons h r,e=>by
  simp at e
  subst e
  exact ⟨_,rfl,h⟩
 | _,_,i + 1,x,.cons h r,e=>by
  obtain ⟨y,e1,e2⟩:=Bs.rev (i:=i) r (by simpa using e)
  exact ⟨y,by simpa using e1,e2⟩
section
variable {X:Cx} {pins:List (A4×Obj)} {σ : St} {H:Hp} {s:A3} {a:A4} {kvs:List (List Key×V)}
theorem Inv.freezeT (I:Inv X pins σ H s) (h:H a=some (.dT kvs)):∃ o,s.heap.get? a=some o/\Inv X pins σ (upd H a (.frz o (.dT kvs))) s:=by
 have ok:=(show ObjOk X.prog X.w H s.heap a (.dT kvs) from I.hok a _ h)
 obtain ⟨o,ho⟩:=ok.there
 refine ⟨o,ho,?_⟩
 have:=Inv.write (x:=a) (e:=a) (o := .frz o (.dT kvs)) (h':=s.heap) (t':=s.toks) I (by rw [h]; trivial) (.inl rfl) (fun _ _ _ q=>q) ⟨o,ho⟩ ⟨ho,ok.stay (fun _ _ _ q=>q) (fun b q=>by rw [zah (fun z=>by rw [z,h] at q; cases q)]; exact q) fun b xs q=>by rw [zah (fun z=>by rw [z,h] at q; cases q)]; exact q⟩
 exact this
theorem Inv.unfreezeT {o:Obj} (I:Inv X pins σ H s) (h:H a=some (.frz o (.dT kvs))) (h0:∀ o u,X.H₀ a≠some (.frz o u)):Inv X pins σ (upd H a (.dT kvs)) s:=by
 have nn:∀ b,H b=none->b≠a:=fun b q z=>by rw [z,h] at q; cases q
 obtain ⟨ho,ok⟩:=(show ObjOk X.prog X.w H s.heap a (.frz o (.dT kvs)) from I.hok a _ h)
 have own:∀ b y,H b=some (.own y)->upd H a (.dT kvs) b=some (.own y):=fun b y q=>by rw [zah (fun z=>by rw [z,h] at q; cases q)]; exact q
 have tups:∀ b xs,H b=some (.tup xs)->upd H a (.dT kvs) b=some (.tup xs):=fun b y q=>by rw [zah (fun z=>by rw [z,h] at q; cases q)]; exact q
 refine ⟨I.ok,I.os,I.bare,⟨I.base.keep,I.base.slot,fun b u q n hx => ?_,I.base.there,fun b xs q=>tups b xs (I.base.tups b xs q),fun b u v q => ?_,fun b ps q => ?_⟩,I.loc,I.cell,?_,fun y c e => ?_,fun p hp => ?_,fun b u q => ?_,I.len⟩
 ·have:=I.base.free b u q n hx
  rw [zah (nn b this)]; exact this
 ·have q':=I.base.frzs b u v q
  rw [zah (fun z=>h0 _ _ (z ▸ q))]; exact q'
 ·obtain ⟨m,e⟩:=I.base.tbls b ps q
  exact ⟨m,by rw [zah (fun z=>by rw [z,h] at e; cases e)]; exact e⟩
 ·rw [zah (nn _ I.free)]; exact I.free
 ·rw [zah (nn _ (I.freeC y c e))]; exact I.freeC y c e
 ·obtain ⟨e1,e2,e3,e4,e5⟩:=I.pin p hp
  exact ⟨e1,by rw [zah (nn _ e2)]; exact e2,e3,e4,e5⟩
 ·by_cases hb:b=a
  ·subst hb
   rw [zac] at q
   cases q
   exact ok.stay (fun _ _ _ q=>q) (fun c q=>own c _ q) tups
  ·rw [zah hb] at q
   exact (I.hok b u q).stay (fun _ _ _ q=>q) (fun c q=>own c _ q) tups
end
noncomputable def IttD (a:A4) (o:Obj) (kvs:List (List Key×V)):It:=⟨fun i H=>H a=some (.frz o (.dT kvs))/\i < kvs.length,fun i H v H'=>H'=H/\∃ k y b,kvs[i]?=some (k,y)/\v = .ref b/\H b=some (.tup (k.map kV)),fun i H=>H a=some (.frz o (.dT kvs))/\kvs.length<=i⟩
theorem zfs {X:Cx} {pins:List (A4×Obj)} {σ : St} {H:Hp} {s:A3} {a:A4} {o:Obj} {kvs:List (List Key×V)} {es:Array J4} {ep:Nat} (I:Inv X pins σ H s) (h:H a=some (.frz o (.dT kvs))) (hd:o.data = .dict es ep) :
  s.heap.get? a=some o/\(a == sysModules)=false/\o.ExactDict/\es.size=kvs.length/\∀ i (hi:i < es.size),∃ k y b,kvs[i]?=some (k,y)/\es[i].key = .ref b/\H b=some (.tup (k.map kV)):=by
 obtain ⟨ho,hz,lo,xs,kt,o',es',ep',ho',c,d,r,_⟩:=(show ObjOk X.prog X.w H s.heap a (.frz o (.dT kvs)) from I.hok a _ h)
 rw [ho] at ho'
 cases ho'
 rw [hd] at d
 cases d
 have hl:=C3 kt
 have hl2:es.size=xs.length:=by rw [<- Au,r,A2]
 refine ⟨ho,lo,c,by omega,fun i hi => ?_⟩
 have e1:es.toList[i]?=some es[i]:=by simp [hi]
 rw [r,Af] at e1
 cases ex:xs[i]? with
 | none=>rw [ex] at e1; cases e1
 | some x =>
  rw [ex] at e1
  obtain ⟨p,ep,h1,h2,h3⟩:=Bs.rev kt ex
  refine ⟨p.1,p.2,x.2.1,ep,?_,h2⟩
  rw [<- Bh e1]
  rfl
theorem turn_dictT {P:Aq} {w:Bj} {K:Av} {tg:Cb} (a it:A4) (o:Obj) (kvs:List (List Key×V)) (es:Array J4) (ep:Nat) (hd:o.data = .dict es ep) :
  Turn P w K tg (IttD a o kvs) [it] it (fun i h=>h.IsKeyIter it a i es.size ep) where
 mem:=by simp
 obj:=fun i h st b hb=>by
  have e:b=it:=by simpa using hb
  subst e
  obtain ⟨o,e,c,d⟩:=st
  exact ⟨o,e,fun v z=>by rw [d] at z; cases z⟩
 keep:=fun i h h' st k=>by
  obtain ⟨o,e,r⟩:=st
  exact ⟨o,k it (by simp) o e,r⟩
 item:=by
  intro X hP hw hK hc i pins s σ H E I hf st hg
  subst hP hw hK
  obtain ⟨hz,hi⟩:=hg
  obtain ⟨ho,lo,hex,hsz,hk⟩:=zfs I hz hd
  obtain ⟨f0,f1,f2,f3,f4,f5⟩:=hf it (by simp)
  obtain ⟨k,y,b,e1,e2,e3⟩:=hk i (by omega)
  refine zg5 st ho hd (by omega) fun h' st' sb => ?_
  have I1:Inv X pins σ H { s with heap:=h' }:=I.turned (t':=s.toks) (fun b o hb e=>(sb.2 b hb).trans e) f0 f1 f3 f4 f5
  obtain ⟨o',e,c,d⟩:=id st'
  refine ⟨_,rfl,zgZ (s:={ s with heap:=h' }) e c d (by decide) ⟨.ref b,H,I1,e2,⟨rfl,k,y,b,e1,rfl,e3⟩,st',fun b hb=>(hf b hb).1⟩⟩
 done:=by
  intro X hP hw hK hc i pins s σ H E I hf st hg
  subst hP hw hK
  obtain ⟨hz,hi⟩:=hg
  obtain ⟨ho,lo,hex,hsz,hk⟩:=zfs I hz hd
  obtain ⟨f0,f1,f2,f3,f4,f5⟩:=hf it (by simp)
  exact zhF (I.ok.hd hc) st ho hd (by omega) fun h' eb=>⟨rfl,I.turned (t':=s.toks) (fun b o hb e=>eb b o hb e) f0 f1 f3 f4 f5⟩
 self:=fun A i s Q E st h=>by
  obtain ⟨o,e,c,d⟩:=st
  exact Nw ⟨o,e,c,d⟩ h
section
variable {X:Cx} {tg:Cb}
noncomputable def iDicT (i:Nat):TI:=fun σ H R=>∃ a o kvs,σ[i]?=some (some (.ref a))/\H a=some (.frz o (.dT kvs))/\R (IttD a o kvs) H
theorem pi_dicT {i:Nat} {x:Str} {np:Pos} (hx:PE X (.Name x np) (tVar i)):PI X tg (.Name x np) (iDicT i):=by
 intro pins s σ H R I h
 obtain ⟨a,o,kvs,hσ,ha,q⟩:=h
 refine thnE (hx pins s σ H (fun v H1=>v = .ref a/\H1=H) I ⟨_,hσ,rfl,rfl⟩) fun v s1 y H1 I1 r1 ⟨e1,e2⟩ => ?_
 subst e1 e2
 cases r1
 obtain ⟨ho,_,_,_,_,o',es,ep,ho',_,d,_⟩:=(show ObjOk X.prog X.w H1 s1.heap a (.frz o (.dT kvs)) from I1.hok a _ ha)
 rw [ho] at ho'
 cases ho'
 obtain ⟨_,lo,hex,hsz,_⟩:=zfs I1 ha d
 refine zg6 lo ho hex d ?_
 refine ⟨s1.heap.objs.size,[s1.heap.objs.size],_,_,H1,rfl,I1.kept (t':=s1.toks) fun b o e=>Ad _ e,turn_dictT a _ o kvs es ep d,?_,fun b hb => ?_,q⟩
 ·exact ⟨_,Ba _ rfl,rfl,rfl⟩
 ·have e:b=s1.heap.objs.size:=by simpa using hb
  subst e
  exact I1.fpOk (Ac _) (I1.hok.fresh (Ac _))
noncomputable def DfrzT (a:A4) (o:Obj) (kvs:List (List Key×V)) (D:Ends):Ends:={ nx:=fun σ H=>H a=some (.frz o (.dT kvs))/\D.nx σ (upd H a (.dT kvs)),rt:=fun v H=>H a=some (.frz o (.dT kvs))/\D.rt v (upd H a (.dT kvs)),bk:=fun σ H=>H a=some (.frz o (.dT kvs))/\D.bk σ (upd H a (.dT kvs)),ct:=fun σ H=>H a=some (.frz o (.dT kvs))/\D.ct σ (upd H a (.dT kvs)) }
noncomputable def tForT (i:Nat) (g:TG) (tb:TS):TS:=fun D σ H=>∃ a kvs,σ[i]?=some (some (.ref a))/\H a=some (.dT kvs)/\∀ o,∃ W:Nat->Nat->St->Hp->Prop,(∃ m,W 0 m σ (upd H a (.frz o (.dT kvs))))/\∀ j m σ H,W j m σ H ->
 ((IttD a o kvs).stop j H/\(DfrzT a o kvs D).nx σ H)\/((IttD a o kvs).go j H/\∃ N:St->Hp->Prop,(∀ σ' H',N σ' H'->∃ m',m' < m/\W (j + 1) m' σ' H') /\
  ∀ x H',(IttD a o kvs).yld j H x H'->g x σ H' fun σ2 H2=>tb { DfrzT a o kvs D with nx:=N,ct:=N,bk:=(DfrzT a o kvs D).nx } σ2 H2)
theorem ps_forT {i:Nat} {x:Str} {body:List Cj} {g:TG} {tb:TS} {np pos:Pos} (hp:P5 (model X.prog X.w) X.A X.env X.xe) (hc:X.calm=true) (hx:PE X (.Name x np) (tVar i)) (hg:PG X tg g) (hb:PSs X body tb)
  (hs:∀ y,foldedSetIterable (.Name x np) X.env y=pure y:=by intro _; rfl):PS X (.For tg (.Name x np) body [] pos) (tForT i g tb):=by
 intro pins s σ H D I h
 obtain ⟨a,kvs,hσ,ha,h⟩:=h
 obtain ⟨o,ho,I1⟩:=I.freezeT ha
 have h0:∀ o u,X.H₀ a≠some (.frz o u):=fun o' u z=>by
  have:=I.base.frzs a o' u z
  rw [ha] at this
  cases this
 refine Di (zaZ hp hc (pi_dicT hx) hg hb hs pins s σ (upd H a (.frz o (.dT kvs))) (DfrzT a o kvs D) I1 ⟨a,o,kvs,hσ,zac,h o⟩) (fun f s' q => ?_) fun _ _ z=>z
 cases f with
 | next=>obtain ⟨σ',H',J,e,q⟩:=q; exact ⟨σ',_,J.unfreezeT e h0,q⟩
 | brk=>obtain ⟨σ',H',J,e,q⟩:=q; exact ⟨σ',_,J.unfreezeT e h0,q⟩
 | cont=>obtain ⟨σ',H',J,e,q⟩:=q; exact ⟨σ',_,J.unfreezeT e h0,q⟩
 | ret u=>obtain ⟨v,σ',H',J,r,e,q⟩:=q; exact ⟨v,σ',_,J.unfreezeT e h0,r,q⟩
end
section
variable {prog:Aq} {w:Bj} {A:Bb} {E:A0->A3->Prop} {s:A3} {d:A4} {o:Obj} {es:Array J4} {ep:Nat}
theorem ed_len {Q:A0->A3->Prop} (hd:(d == sysModules)=false) (ho:s.heap.get? d=some o) (hc:o.ExactDict) (hdat:o.data = .dict es ep) (hfit:(es.size:Int) < 2 ^ 63) (h:Q (.int es.size (s.toks + 1)) { s with toks:=s.toks + 1 + 1 }):wpAny (model prog w) A (call (.builtin "len") [.ref d]) Q E s:=by
 have hT:=zg4 ho hc
 refine F7 kind_len plain_len entry_len (args_len1 _) (show wpAny _ _ (Ff.«len» _) _ _ _ from ?_)
 unfold Ff.«len»; refine A1 (m:=oneArg "len" _) (Ae ?_)
 refine A1 (m:=callSpecial? (.ref d) (A5 "__len__")) (Iw (name:=A5 "__len__") hT F.slot_dict_len (E1 F.slot_dict_len hT F.entry_dict_len (show wpAny _ _ (dictSize d >>= _) _ _ s from ?_) (F.args_dict_len_1 _)))
 unfold dictSize; refine A1 (A1 (Hs ho hdat (Ae (show wpAny _ _ (Q2 d >>= _) _ _ s from A1 (wpAny_pendingCount_other hd (Pc ?_))))))
 show wpAny _ _ _ _ _ { s with toks:=s.toks + 1 }; refine A1 (Dp (Ae (A1 (wpAny_letGo ?_))))
 show wpAny _ _ (if ((es.size + 0:Nat):Int) < 0 then _ else _) _ _ _
 rw [if_neg (by omega)]
 show wpAny _ _ (if ((es.size + 0:Nat):Int)>=2 ^ 63 then _ else _) _ _ _
 rw [if_neg (by omega)]
 exact A1 (wpAny_mkInt (Ae ⟨_,rfl,h⟩))
end
noncomputable def kI (ns:List Int):List Key:=ns.map Dv
theorem kI_V (ns:List Int):(kI ns).map kV=ns.map V.int:=by unfold kI; rw [B6]; rfl
theorem zdX:∀ {a b:List Int},kI a=kI b->a=b
 | [],[],_=>rfl
 | [],_ :: _,h=>by cases h
 | _ :: _,[],h=>by cases h
 | x :: a,y :: b,h=>by
  unfold kI at h
  rw [An,An] at h
  injection h with h1 h2
  injection h1 with h1
  rw [h1,zdX h2]
section
variable {X:Cx}
theorem ze4:CallR X (.builtin "len") (fun xs H Q=>∃ (a:A4) (kvs:List (List Key×V)),xs = [V.ref a]/\H a=some (.dT kvs)/\Q (.int kvs.length) H):=by
 intro pins s σ H xs us Q I r h
 obtain ⟨a,kvs,rfl,ha,q⟩:=h
 obtain ⟨u,rfl,ru⟩:=zbR r
 cases ru
 obtain ⟨hz,lo,xs,kt,o,es,ep,ho,c,d,e,_⟩:=(show ObjOk X.prog X.w H s.heap a (.dT kvs) from I.hok a _ ha)
 have hl:=C3 kt
 have hl2:es.size=xs.length:=by rw [<- Au,e,A2]
 have hz2:sizeLine < 2 ^ 62:=by decide
 refine ed_len lo ho c d (by omega) ⟨.int _,H,I.tok _,⟨_,rfl⟩,?_⟩
 rw [show es.size=kvs.length by omega]
 exact q
end
theorem steps_perm {C C':Combs} (p:C.Perm C') (n:Int):(stepsOf C n).Perm (stepsOf C' n):=by
 unfold stepsOf
 split
 ·exact K0 _
 ·exact (p.filter _).map _
theorem any_perm {α : Type} {l l':List α} (p:l.Perm l') (f : α -> Bool):l.any f=l'.any f:=by
 rw [B5,Bq,Bq]
 exact ⟨fun ⟨x,h,e⟩=>⟨x,p.mem_iff.mp h,e⟩,fun ⟨x,h,e⟩=>⟨x,p.mem_iff.mpr h,e⟩⟩
theorem fold_max (l:List Int) (a:Int):(∀ x∈l,x<=l.foldl max a)/\a<=l.foldl max a/\(l.foldl max a=a\/l.foldl max a∈l):=by
 induction l generalizing a with
 | nil=>exact ⟨by simp,Dg _,.inl rfl⟩
 | cons x l ih =>
  obtain ⟨h1,h2,h3⟩:=ih (max a x)
  rw [Iq]
  refine ⟨fun y hy => ?_,by omega,?_⟩
  ·rcases B9.mp hy with rfl | hy
   ·omega
   ·exact h1 y hy
  ·rcases h3 with h | h
   ·rcases Int.le_total a x with z | z
    ·exact .inr (by rw [h,Int.max_eq_right z]; exact Ah)
    ·exact .inl (by rw [h,Int.max_eq_left z])
   ·exact .inr (Aa _ h)
theorem zdD {a b:Nat} (ha:a < 128) (hb:b < 128) (h:aheadOf (a:Int)=aheadOf (b:Int)):a=b:=by
 have h1:=zba (n:=(a:Int)) (by omega) (by omega)
 have h2:=zba (n:=(b:Int)) (by omega) (by omega)
 rw [h,h2] at h1
 omega
noncomputable def akey (s:Nat):List Key:=kI (aheadOf (s:Int))
theorem zda {a b:Nat} (ha:a < 128) (hb:b < 128) (h:akey a=akey b):a=b:=zdD ha hb (zdX h)
theorem valV_mem {κ : Type} [DecidableEq κ] {kvs:List (κ × V)} {k : κ}:(valV kvs k).isSome=true ↔ k∈kvs.map (·.1):=by
 rw [<- zbi,Bq,A7]
 constructor
 ·rintro ⟨x,hx,e⟩; exact ⟨x,hx,of_decide_eq_true e⟩
 ·rintro ⟨x,hx,e⟩; exact ⟨x,hx,decide_eq_true e⟩
theorem zfe {κ : Type} [DecidableEq κ]:∀ {kvs:List (κ × V)} {i:Nat} {k : κ} {v:V},(kvs.map (·.1)).Nodup->kvs[i]?=some (k,v)->valV kvs k=some v
 | [],_,_,_,_,h=>by simp at h
 | p :: kvs,0,k,v,nd,h=>by
  simp at h
  subst h
  exact zaY rfl
 | p :: kvs,i + 1,k,v,nd,h=>by
  rw [An,Do] at nd
  have h':kvs[i]?=some (k,v):=by simpa using h
  rw [zaT (fun z=>nd.1 (z ▸ A7.mpr ⟨(k,v),Be h',rfl⟩))]
  exact zfe nd.2 h'
theorem zbj {ks:Combs} {s:Nat} (hs:s < 128) (g:GC ks):(goesOf ks (aheadOf (s:Int))).map (fun p=>(p.1,worth p.2))=stp ks s:=zdK (by omega) (by omega) g
theorem zb4 {ks:Combs} {s:Nat} (hs:s < 128) (g:GC ks) {p:Str×List Int} (hp:p∈goesOf ks (aheadOf (s:Int))):(worth p.2).toNat < 128/\0<=worth p.2/\kI p.2=akey (worth p.2).toNat/\(p.1,worth p.2)∈stp ks s:=by
 have hm:(p.1,worth p.2)∈stp ks s:=by rw [<- zbj hs g]; exact A7.mpr ⟨p,hp,rfl⟩
 have hlt:=zcQ g hs hm
 refine ⟨hlt.2,hlt.1,?_,hm⟩
 have:∃ a b,p.2=afterOf a b:=by
  unfold goesOf at hp
  split at hp
  ·rw [A6.mp hp]; exact ⟨_,_,rfl⟩
  ·obtain ⟨c,_,rfl⟩:=A7.mp hp; exact ⟨_,_,rfl⟩
 obtain ⟨a,b,e⟩:=this
 unfold akey
 rw [show (((worth p.2).toNat:Nat):Int)=worth p.2 by have:=hlt.1; show _=_; omega]
 congr 1
 rw [e]
 have hs:afterOf a b=((Ab 7).filter fun i=>decide (((i:Nat):Int)∈afterOf a b)).map fun i=>((i:Nat):Int):=by
  refine zbk ?_ ((zdb a b).imp fun h=>by omega) ?_
  ·rw [D0 (zaO (zdb a b))]
   ·intro t
    simp only [A7,Ax,B7,decide_eq_true_eq]
    constructor
    ·intro h
     have:=zgi t h
     exact ⟨t.toNat,⟨by omega,by rwa [show ((t.toNat:Nat):Int)=t by omega]⟩,by omega⟩
    ·rintro ⟨i,⟨_,h⟩,rfl⟩
     exact h
   ·refine zaO ?_
    rw [Bd]
    refine Bc Cp (Ek ?_ (D6 (n:=7)))
    intro a b h
    omega
  ·rw [Bd]
   refine Bc Cp (Ek ?_ (D6 (n:=7)))
   intro a b h
   omega
 rw [hs]
 exact (ahead_worth _).symm
theorem forT_g {a:A4} {o:Obj} {kvs:List (List Key×V)} {g:TG} {tb:TS} {D:Ends} {σ : St} {H:Hp} (Pv:Nat->St->Hp->Prop) (h0:Pv 0 σ H) (hk:∀ i σ H,Pv i σ H->H a=some (.frz o (.dT kvs)))
  (hs:∀ i k y b σ H,kvs[i]?=some (k,y)->H b=some (.tup (k.map kV))->Pv i σ H->g (.ref b) σ H fun σ2 H2=>tb { D with nx:=Pv (i + 1),ct:=Pv (i + 1),bk:=D.nx } σ2 H2) (hd:∀ σ H,Pv kvs.length σ H->D.nx σ H) :
  ∃ W:Nat->Nat->St->Hp->Prop,(∃ m,W 0 m σ H)/\∀ j m σ H,W j m σ H->((IttD a o kvs).stop j H/\D.nx σ H)\/((IttD a o kvs).go j H/\∃ N:St->Hp->Prop,(∀ σ' H',N σ' H'->∃ m',m' < m/\W (j + 1) m' σ' H') /\
   ∀ x H',(IttD a o kvs).yld j H x H'->g x σ H' fun σ2 H2=>tb { D with nx:=N,ct:=N,bk:=D.nx } σ2 H2):=by
 refine ⟨fun j m σ H=>m=kvs.length - j/\j<=kvs.length/\Pv j σ H,⟨_,rfl,Bi _,h0⟩,?_⟩
 rintro j m σ H ⟨rfl,hj,p⟩
 by_cases hlt:j < kvs.length
 ·refine .inr ⟨⟨hk _ _ _ p,hlt⟩,Pv (j + 1),fun σ' H' p'=>⟨kvs.length - (j + 1),by omega,rfl,hlt,p'⟩,?_⟩
  rintro x H' ⟨rfl,k,y,b,e1,rfl,e3⟩
  exact hs j k y b σ _ e1 e3 p
 ·have e:j=kvs.length:=by omega
  subst e
  exact .inl ⟨⟨hk _ _ _ p,Ac _⟩,hd σ H p⟩
theorem zhb {K:Av} {J:It} {Ok:Hp->Prop} {L:List V} {tf:TT} {te:TE} {D:A4} {σ0 capv:St} {H1:Hp} {Q:VK} (hσ : σ0=none :: none :: capv) (G:Gives J Ok L) (hL:L.length<=sizeLine) (hD:H1 D=none) (hOk:∀ H,Same H1 H->Ok H) (X Y:Nat->V) (hXY:∀ (i:Nat) x,L[i]?=some x->∃ q,x = .ref q/\H1 q=some (.tup [X i,Y i])) (p:Nat->Bool) (Rel:Hp->Nat->V->Prop)
  (hm:∀ H H' i v,Same H H'->Rel H i v->Rel H' i v) (hw:∀ H i v l l',v ≠ .ref D->H D=some (.lst l)->Rel H i v->Rel (upd H D (.lst l')) i v)
  (ht:∀ i,i < L.length->∀ H R,Same H1 H->(∀ H',Same H H'->R (p i) H')->tf (some (X i) :: some (Y i) :: capv) H R)
  (he:∀ i,i < L.length->p i=true->∀ H R,Same H1 H->H D≠none->(∀ H' v,Same H H'->v ≠ .ref D->Rel H' i v->R v H')->te (some (X i) :: some (Y i) :: capv) H R)
  (hd:∀ H ys,Same H1 H->H D=some (.lst ys)->Bs (fun i y=>y ≠ .ref D/\Rel H i y) ((Ab L.length).filter p) ys->Q (.ref D) H) :
  CompW J D σ0 H1 (gTup K 2 (gCons (gName 0) (gCons (gName 1) gNil))) tf te Q:=by
 subst hσ
 refine zhc G (fun i xs σ H=>(∃ o1 o2,σ = o1 :: o2 :: capv)/\Same H1 H/\H D=some (.lst xs)/\Bs (fun i y=>y ≠ .ref D/\Rel H i y) ((Ab i).filter p) xs) ⟨⟨none,none,rfl⟩,Same.new hD,zac,.nil⟩ (fun i xs σ H _ h=>hOk H h.2.1) ?_ ?_
 ·rintro i x xs σ H hi hx ⟨⟨o1,o2,rfl⟩,s,e,hr⟩
  obtain ⟨qx,rfl,hqx⟩:=hXY i x hx
  refine ⟨qx,[X i,Y i],rfl,SqT.of (s _ _ hqx),rfl,_,_,rfl,_,_,rfl,rfl,?_⟩
  show tf (some (X i) :: some (Y i) :: capv) H _
  refine ht i hi H _ s fun H' s' => ?_
  have hxl:xs.length<=i:=by
   rw [<- C3 hr]
   exact Br (Cn _ _) (by rw [Aw]; omega)
  have efil:(Ab (i + 1)).filter p=(Ab i).filter p ++ if p i=true then [i] else []:=by
   rw [De,Ce]
   congr 1
   rw [C4,Ec]
  cases hp:p i with
  | true =>
   rw [if_pos rfl]
   refine he i hi hp H' _ (s.trans s') (by rw [s' _ _ e]; exact nofun) fun H2 v s2 hv rv => ?_
   have e2:=s2 _ _ (s' _ _ e)
   refine CNext.of hi hL e2 hxl ⟨⟨_,_,rfl⟩,((s.trans s').trans s2).put hD,zac,?_⟩
   rw [efil,if_pos hp]
   exact El (Bs.mapP hr fun j y z=>⟨z.1,hw _ _ _ _ _ z.1 e2 (hm _ _ _ _ (s'.trans s2) z.2)⟩) ⟨hv,hw _ _ _ _ _ hv e2 rv⟩
  | false =>
   rw [if_neg A9]
   refine CSkip.of (xs:=xs) hi ⟨⟨_,_,rfl⟩,s.trans s',s' _ _ e,?_⟩
   rw [efil,if_neg (by rw [hp]; exact A9),Cd]
   exact Bs.mapP hr fun j y z=>⟨z.1,hm _ _ _ _ s' z.2⟩
 ·rintro xs σ H ⟨_,s,e,hr⟩
  exact hd H xs s e hr
theorem zfv {K:Av} {J:It} {Ok:Hp->Prop} {L:List V} {tf:TT} {te:TE} {D:A4} {σ0 capv:St} {H1:Hp} {Q:VK} (hσ : σ0=none :: none :: capv) (G:Gives J Ok L) (hL:L.length<=sizeLine) (hD:H1 D=none) (hOk:∀ H,Same H1 H->Ok H) (X Y:Nat->V) (hXY:∀ (i:Nat) x,L[i]?=some x->∃ q,x = .ref q/\H1 q=some (.tup [X i,Y i])) (p:Nat->Bool) (F:Nat->V) (hF:∀ i,i < L.length->p i=true->F i ≠ .ref D)
  (ht:∀ i,i < L.length->∀ H R,Same H1 H->(∀ H',Same H H'->R (p i) H')->tf (some (X i) :: some (Y i) :: capv) H R)
  (he:∀ i,i < L.length->p i=true->∀ H R,Same H1 H->(∀ H',Same H H'->R (F i) H')->te (some (X i) :: some (Y i) :: capv) H R)
  (hd:∀ H,Same H1 H->H D=some (.lst (((Ab L.length).filter p).map F))->Q (.ref D) H) :
  CompW J D σ0 H1 (gTup K 2 (gCons (gName 0) (gCons (gName 1) gNil))) tf te Q:=by
 refine zhb hσ G hL hD hOk X Y hXY p (fun _ i v=>v=F i) (fun _ _ _ _ _ h=>h) (fun _ _ _ _ _ _ _ h=>h) ht (fun i hi hp H R s _ h=>he i hi hp H R s fun H' s'=>h H' _ s' (hF i hi hp) rfl) fun H ys s e pr=>hd H s ?_
 rw [e]
 have:∀ {l:List Nat} {m:List V},Bs (fun i y=>y ≠ .ref D/\y=F i) l m->m=l.map F:=by
  intro l m q
  induction q with
  | nil=>rfl
  | cons h _ ih=>rw [An,<- ih,h.2]
 rw [this pr]
theorem GoesR.nth {H:Hp} {vs:List V} {gs:List (Str×List Int)} (r:GoesR H vs gs) {i:Nat} {x:V} (h:vs[i]?=some x):∃ q t,x = .ref q/\H q=some (.tup [.str (gs.getD i ("",[])).1,.ref t])/\H t=some (.tup ((gs.getD i ("",[])).2.map V.int))/\i < gs.length:=by
 have hi:i < gs.length:=by rw [<- r.length]; exact (Ar.mp h).1
 obtain ⟨q,t,e1,e2,e3⟩:=r.get (A8 hi)
 rw [h] at e1
 cases e1
 refine ⟨q,t,rfl,?_,?_,hi⟩
 ·rw [Ak,A8 hi]; exact e2
 ·rw [Ak,A8 hi]; exact e3
noncomputable def tupY (H:Hp) (vs:List V) (i:Nat):V:=match vs[i]? with
 | some (.ref q)=>match H q with
  | some (.tup [_,y])=>y
  | _ => .non
 | _ => .non
theorem zgn {H:Hp} {vs:List V} {i:Nat} {q:A4} {x y:V} (h1:vs[i]?=some (.ref q)) (h2:H q=some (.tup [x,y])):tupY H vs i=y:=by
 unfold tupY
 rw [h1]
 simp only [h2]
theorem zd9 {X:Cx} {pos:Pos} (K:Av) (hK:X.K=K) {es:List Cb} {k:Nat} {t:TGs} {n:Nat} (hc:X.calm=true) (h:PGs X es t)
  (hn:(assignEach es X.env).length=n:=by rfl) (hst:(assignEach es X.env).findIdx? (·.1)=none:=by rfl):PG X (.Tuple es k pos) (gTup K n t):=by
 subst hK
 exact zeD hc h hn hst
noncomputable def ind (b:Bool):Nat:=if b=true then 1 else 0
structure Tile (sp:Nat) (al ta:Nat->Nat->Bool):Prop where
 pos:1<=sp
 pa:∀ k d,al (k + sp) d=al k d
 pt:∀ k d,ta (k + sp) d=ta k d
 la:∀ k d,7<=d->al k d=false
 lt:∀ k d,8<=d->ta k d=false
 one:∀ k,ind (al k 0) + ind (ta k 0)=1
 step:∀ k d,ind (al (k + 1) d)=ind (al k (d + 1)) + ind (ta k (d + 1))
namespace Tile
variable {sp:Nat} {al ta:Nat->Nat->Bool}
end Tile
noncomputable def tkOf (C:Combs) (x:Str):List Int:=(cGet C x).getD []
theorem zdr {ah ts:List Int} (ha:∀ t∈ah,0<=t/\t<=6) (ht:∀ t∈ts,0<=t/\t<=7) (d:Nat):(d:Int)∈afterOf ah ts ↔ ((d + 1:Nat):Int)∈ah\/((d + 1:Nat):Int)∈ts:=by
 unfold afterOf
 rw [A7]
 constructor
 ·rintro ⟨y,hy,e⟩
  obtain ⟨h1,h2⟩:=Ax.mp hy
  have h3:=(mem_canon.mp h1).1
  rw [show ((d + 1:Nat):Int)=y by omega]
  exact Al.mp h3
 ·intro h
  refine ⟨((d + 1:Nat):Int),Ax.mpr ⟨mem_canon.mpr ⟨Al.mpr h,?_⟩,decide_eq_true (by omega)⟩,by omega⟩
  rcases h with h | h
  ·have:=ha _ h; omega
  ·exact ht _ h
theorem tk_perm {C C':Combs} (p:C.Perm C') (nd:(C.map (·.1)).Nodup) (x:Str):cGet C x=cGet C' x:=by
 have nd':(C'.map (·.1)).Nodup:=(p.map _).nodup_iff.mp nd
 cases e:cGet C x with
 | none =>
  symm
  rw [get_none] at e ⊢
  exact fun z=>e ((p.map _).mem_iff.mpr z)
 | some ts=>exact (zcf nd' (p.mem_iff.mp (zel e))).symm
noncomputable def laid (nm:Nat->Str) (sp:Nat):List Nat:=(Ab sp).filter fun j=>decide (nm j≠A5 "")
theorem KindsL.getG {G:A4->Prop} {H:Hp}:∀ {vs:List V} {ks:List (Str×List Int)} {i:Nat} {v:V},KindsL G H vs ks->vs[i]?=some v->∃ k q t,ks[i]?=some k/\v = .ref q/\H q=some (.lst [.str k.1,.ref t])/\H t=some (.lst (k.2.map V.int))/\G t
 | [],[],_,_,_,e=>by simp at e
 | _ :: _,k :: _,0,_,⟨⟨q,t,e,h1,h2,g1,g2⟩,_⟩,z=>by
  simp at z
  subst z
  exact ⟨k,q,t,rfl,e,h1,h2,g2⟩
 | _ :: _,_ :: _,i + 1,_,⟨_,b⟩,z=>by
  obtain ⟨k,q,t,h⟩:=KindsL.getG (i:=i) b (by simpa using z)
  exact ⟨k,q,t,by simpa using h⟩
 | [],_ :: _,_,_,x,_=>x.elim
 | _ :: _,[],_,_,x,_=>x.elim
theorem KindsL.live {G:A4->Prop} {H:Hp}:∀ {vs:List V} {ks:List (Str×List Int)},KindsL G H vs ks->KindsL (fun x=>H x≠none) H vs ks
 | [],[],_=>trivial
 | _ :: _,_ :: _,⟨⟨q,t,e,h1,h2,_,_⟩,r⟩=>⟨⟨q,t,e,h1,h2,(show H q≠none by rw [h1]; exact nofun),(show H t≠none by rw [h2]; exact nofun)⟩,KindsL.live r⟩
 | [],_ :: _,x=>x.elim
 | _ :: _,[],x=>x.elim
theorem Drawn.live {G:A4->Prop} {H:Hp} {vs:List V} {ks:List (Str×List Int)} (d:Drawn G H vs ks):Drawn (fun x=>H x≠none) H vs ks:=⟨d.rows.live,d.nd,d.good⟩
noncomputable abbrev gallopS:Bool->Keyed->Array Keyed->Nat->Nat->Nat->StateT SortSt Sem (Option Nat):=sortPriv% PySem.Builtin.gallop
structure Ranks (prog:Aq) (w:Bj) (A:Bb) (E:A0->A3->Prop) (s:A3) (kd:F3) (S:Ay->Prop) (rk:Ay->Int):Prop where
 ask:∀ {x y:Ay} {st:Bu} {Q:Option Bool->Bu->Prop},S x->S y->kindOf st=kd->Q (some (decide (rk x < rk y))) st->wpS (model prog w) A E s (lt' x y) Q st
section
variable {prog:Aq} {w:Bj} {A:Bb} {E:A0->A3->Prop} {s:A3} {kd:F3} {S:Ay->Prop} {rk:Ay->Int}
noncomputable def kAt (rk:Ay->Int) (arr:Array Ay) (i:Nat):Int:=match arr[i]? with
 | some x=>rk x
 | none=>0
theorem zaW {arr:Array Ay} {i:Nat} (h:i < arr.size):kAt rk arr i=rk arr[i]:=by unfold kAt; rw [Gz h]
theorem zaG {arr:Array Ay} {i:Nat} {Q:Ay->Bu->Prop} {st:Bu} (h:i < arr.size) (q:Q arr[i] st):wpS (model prog w) A E s (elem' arr i) Q st:=by
 rw [elem'_eq,Gz h]
 exact Ao q
noncomputable def Up2 (rk:Ay->Int) (arr:Array Ay) (lo hi:Nat):Prop:=∀ i j,lo<=i->i<=j->j < hi->kAt rk arr i<=kAt rk arr j
theorem zbD (C:Ranks prog w A E s kd S rk) {left:Bool} {key:Ay} {arr:Array Ay} {b n hint:Nat} {Q:Option Nat->Bu->Prop} {st:Bu} (hk:S key) (hS:∀ i (h:i < arr.size),b<=i->i < b + n->S arr[i]) (sz:b + n<=arr.size) (hh:hint < n) (up:Up2 rk arr b (b + n)) (hst:kindOf st=kd)
  (q:∀ k,k<=n->(∀ i,i < k->(if left=true then kAt rk arr (b + i) < rk key else kAt rk arr (b + i)<=rk key))->(∀ i,k<=i->i < n->(if left=true then rk key<=kAt rk arr (b + i) else rk key < kAt rk arr (b + i)))->Q (some k) st) :
  wpS (model prog w) A E s (gallopS left key arr b n hint) Q st:=by
 obtain ⟨P,hP⟩:∃ P:Nat->Bool,P=fun i=>if left=true then decide (kAt rk arr (b + i) < rk key) else decide (kAt rk arr (b + i)<=rk key):=⟨_,rfl⟩
 have mono:∀ i j,i<=j->j < n->P j=true->P i=true:=fun i j hij hj h=>by
  have:=up (b + i) (b + j) (by omega) (by omega) (by omega)
  rw [hP] at h ⊢
  dsimp only at h ⊢
  cases left
  ·simp at h ⊢; omega
  ·simp at h ⊢; omega
 have q':∀ k,k<=n->(∀ i,i < k->P i=true)->(∀ i,k<=i->i < n->P i=false)->Q (some k) st:=fun k h1 h2 h3=>by
  refine q k h1 (fun i hi => ?_) (fun i h4 h5 => ?_)
  ·have:=h2 i hi
   rw [hP] at this
   cases left <;> simpa using this
  ·have:=h3 i h4 h5
   rw [hP] at this
   cases left <;> simpa using this
 have bey:∀ i,i < n->∀ (Q':Option Bool->Bu->Prop),Q' (some (P i)) st->wpS (model prog w) A E s (do
   let x <- elem' arr (b + i)
   if left=true then lt' x key else do
    let r <- lt' key x
    pure (Ot (fun x => !x) r)) Q' st:=fun i hi Q' h=>by
  refine Aj (zaG (by omega) ?_)
  have hSi:=hS (b + i) (by omega) (by omega) (by omega)
  have e:=zaW (rk:=rk) (show b + i < arr.size by omega)
  cases hl:left with
  | true =>
   rw [if_pos rfl]
   refine C.ask hSi hk hst ?_
   rw [hP,hl] at h
   simpa [e] using h
  | false =>
   rw [if_neg A9]
   refine Aj (C.ask hk hSi hst (Ao ?_))
   rw [hP,hl] at h
   have e2:(!decide (rk key < rk arr[b + i]))=decide (kAt rk arr (b + i)<=rk key):=by
    rw [e,<- decide_not,decide_eq_decide]; omega
   show Q' (some (!decide (rk key < rk arr[b + i]))) st
   rw [e2]
   simpa using h
 have bin:∀ lo hi,lo<=hi->hi<=n->(∀ i,i < lo->P i=true)->(∀ i,hi<=i->i < n->P i=false)->∀ (F:Nat->Option (Option Nat)×Nat×Nat->StateT Bu Sem (ForInStep (Option (Option Nat)×Nat×Nat))),
   (∀ x lo hi,lo < hi->hi<=n->∀ R:ForInStep (Option (Option Nat)×Nat×Nat)->Bu->Prop,R (.yield (none,if P (lo + (hi - lo) / 2)=true then (lo + (hi - lo) / 2 + 1,hi) else (lo,lo + (hi - lo) / 2))) st->wpS (model prog w) A E s (F x (none,lo,hi)) R st) ->
   (∀ x lo hi,hi<=lo->∀ R:ForInStep (Option (Option Nat)×Nat×Nat)->Bu->Prop,R (.done (none,lo,hi)) st->wpS (model prog w) A E s (F x (none,lo,hi)) R st) ->
   wpS (model prog w) A E s (forIn [:n] (none,lo,hi) F) (fun c st'=>st'=st/\∃ k,c.1=none/\c.2.2=k/\k<=n/\(∀ i,i < k->P i=true)/\(∀ i,k<=i->i < n->P i=false)) st:=fun lo hi h1 h2 h3 h4 F f1 f2=>by
  refine Cz (I:=fun x c st'=>st'=st/\∃ lo hi,c=(none,lo,hi)/\lo<=hi/\hi<=n/\hi - lo + x<=n/\(∀ i,i < lo->P i=true)/\(∀ i,hi<=i->i < n->P i=false)) ?_ ?_ ⟨rfl,lo,hi,rfl,h1,h2,by omega,h3,h4⟩
  ·rintro x c st' _ hx ⟨rfl,lo,hi,rfl,a1,a2,a3,a4,a5⟩
   by_cases e:lo < hi
   ·refine f1 x lo hi e a2 _ ?_
    dsimp only
    cases hm:P (lo + (hi - lo) / 2) with
    | true=>exact ⟨rfl,lo + (hi - lo) / 2 + 1,hi,rfl,by omega,a2,by omega,fun i hi'=>mono i (lo + (hi - lo) / 2) (by omega) (by omega) hm,a5⟩
    | false =>
     refine ⟨rfl,lo,lo + (hi - lo) / 2,rfl,by omega,by omega,by omega,a4,fun i h6 h7 => ?_⟩
     cases hz:P i with
     | false=>rfl
     | true=>rw [mono _ i h6 h7 hz] at hm; cases hm
   ·exact f2 x lo hi (by omega) _ ⟨rfl,hi,rfl,rfl,a2,fun i hi'=>a4 i (by omega),a5⟩
  ·rintro c st' ⟨rfl,lo,hi,rfl,a1,a2,a3,a4,a5⟩
   exact ⟨rfl,hi,rfl,rfl,a2,fun i hi'=>a4 i (by omega),a5⟩
 refine Aj (bey hint hh _ ?_)
 dsimp only
 cases hr:P hint with
 | true =>
  rw [if_pos rfl]
  refine Aj (E5 (Cz (I:=fun x c st'=>st'=st/\∃ la off,c=(none,la,off)/\la < off/\x + 1<=off/\hint + la < n/\P (hint + la)=true) (Q:=fun c st'=>st'=st/\∃ la off,c=(none,la,off)/\la < off/\hint + la < n/\P (hint + la)=true/\(n - hint<=off\/(off < n - hint/\P (hint + off)=false))) ?step ?fin ⟨rfl,0,1,rfl,by omega,by omega,by omega,hr⟩) ?post)
  case fin =>
   rintro c st' ⟨rfl,la,off,rfl,a1,a2,a3,a4⟩
   exact ⟨rfl,la,off,rfl,a1,a3,a4,.inl (by omega)⟩
  case step =>
   rintro x c st' _ hx ⟨rfl,la,off,rfl,a1,a2,a3,a4⟩
   dsimp only
   by_cases e:off>=n - hint
   ·rw [if_pos e]
    exact Ao ⟨rfl,la,off,rfl,a1,a3,a4,.inl e⟩
   ·rw [if_neg e]
    refine Aj (bey (hint + off) (by omega) _ ?_)
    dsimp only
    cases hm:P (hint + off) with
    | true =>
     rw [if_neg (by decide)]
     exact Ao ⟨rfl,off,2 * off + 1,rfl,by omega,by omega,by omega,hm⟩
    | false =>
     rw [if_pos (by decide)]
     exact Ao ⟨rfl,la,off,rfl,a1,a3,a4,.inr ⟨by omega,hm⟩⟩
  case post =>
   rintro c st' ⟨rfl,la,off,rfl,a1,a3,a4,a5⟩
   dsimp only
   refine Aj (E5 (bin (hint + la + 1) (hint + min off (n - hint)) (by omega) (by omega) (fun i hi=>mono i (hint + la) (by omega) a3 a4) (fun i h6 h7 => ?_) _ (fun x lo hi h1 h2 R hR => ?_) fun x lo hi h1 R hR => ?_) (by rintro ⟨r,lo',hi'⟩ st2 ⟨rfl,k,e1,e2,h1,h2,h3⟩; dsimp only at e1 e2 ⊢; subst e1 e2; exact Ao (q' _ h1 h2 h3)))
   ·rcases a5 with z | ⟨z1,z2⟩
    ·omega
    ·cases hz:P i with
     | false=>rfl
     | true=>rw [mono (hint + off) i (by omega) h7 hz] at z2; cases z2
   ·dsimp only
    rw [if_neg (by omega)]
    refine Aj (bey _ (by omega) _ ?_)
    dsimp only
    cases hm:P (lo + (hi - lo) / 2) with
    | true=>rw [if_pos rfl]; rw [hm,if_pos rfl] at hR; exact Ao hR
    | false=>rw [if_neg A9]; rw [hm,if_neg A9] at hR; exact Ao hR
   ·dsimp only
    rw [if_pos h1]
    exact Ao hR
 | false =>
  rw [if_neg A9]
  refine Aj (E5 (Cz (I:=fun x c st'=>st'=st/\∃ la off,c=(none,la,off)/\la < off/\x + 1<=off/\la<=hint/\P (hint - la)=false) (Q:=fun c st'=>st'=st/\∃ la off,c=(none,la,off)/\la < off/\la<=hint/\P (hint - la)=false/\(hint + 1<=off\/(off < hint + 1/\P (hint - off)=true))) ?step ?fin ⟨rfl,0,1,rfl,by omega,by omega,by omega,hr⟩) ?post)
  case fin =>
   rintro c st' ⟨rfl,la,off,rfl,a1,a2,a3,a4⟩
   exact ⟨rfl,la,off,rfl,a1,a3,a4,.inl (by omega)⟩
  case step =>
   rintro x c st' _ hx ⟨rfl,la,off,rfl,a1,a2,a3,a4⟩
   dsimp only
   by_cases e:off>=hint + 1
   ·rw [if_pos e]
    exact Ao ⟨rfl,la,off,rfl,a1,a3,a4,.inl e⟩
   ·rw [if_neg e]
    refine Aj (bey (hint - off) (by omega) _ ?_)
    dsimp only
    cases hm:P (hint - off) with
    | true =>
     rw [if_pos rfl]
     exact Ao ⟨rfl,la,off,rfl,a1,a3,a4,.inr ⟨by omega,hm⟩⟩
    | false =>
     rw [if_neg A9]
     exact Ao ⟨rfl,off,2 * off + 1,rfl,by omega,by omega,by omega,hm⟩
  case post =>
   rintro c st' ⟨rfl,la,off,rfl,a1,a3,a4,a5⟩
   dsimp only
   refine Aj (E5 (bin (hint + 1 - min off (hint + 1)) (hint - la) (by omega) (by omega) (fun i hi => ?_) (fun i h6 h7 => ?_) _ (fun x lo hi h1 h2 R hR => ?_) fun x lo hi h1 R hR => ?_) (by rintro ⟨r,lo',hi'⟩ st2 ⟨rfl,k,e1,e2,h1,h2,h3⟩; dsimp only at e1 e2 ⊢; subst e1 e2; exact Ao (q' _ h1 h2 h3)))
   ·rcases a5 with z | ⟨z1,z2⟩
    ·omega
    ·exact mono i (hint - off) (by omega) (by omega) z2
   ·cases hz:P i with
    | false=>rfl
    | true=>rw [mono (hint - la) i h6 h7 hz] at a4; cases a4
   ·dsimp only
    rw [if_neg (by omega)]
    refine Aj (bey _ (by omega) _ ?_)
    dsimp only
    cases hm:P (lo + (hi - lo) / 2) with
    | true=>rw [if_pos rfl]; rw [hm,if_pos rfl] at hR; exact Ao hR
    | false=>rw [if_neg A9]; rw [hm,if_neg A9] at hR; exact Ao hR
   ·dsimp only
    rw [if_pos h1]
    exact Ao hR
end
noncomputable abbrev Srt (rk:Ay->Int) (l:List Ay):Prop:=l.Pairwise fun x y=>rk x<=rk y
structure MI (rk:Ay->Int) (la lb out:List Ay) (ia ib:Nat):Prop where
 perm:out.Perm (la.take ia ++ lb.take ib)
 srt:Srt rk out
 low:∀ x∈out,(∀ y∈la.drop ia,rk x<=rk y)/\∀ y∈lb.drop ib,rk x<=rk y
noncomputable def MFin (rk:Ay->Int) (la lb res:List Ay):Prop:=res.Perm (la ++ lb)/\Srt rk res
section
variable {rk:Ay->Int} {la lb out:List Ay} {ia ib:Nat}
theorem za3 {l:List Ay} {i:Nat} (h:i < l.length):l.drop i=l[i] :: l.drop (i + 1):=Ea h
theorem zd6 {l:List Ay} (s:Srt rk l) {i:Nat} (h:i < l.length):∀ y∈l.drop (i + 1),rk l[i]<=rk y:=by
 have:=Bc (Fu i l) s
 rw [za3 h] at this
 exact (Gw.mp this).1
theorem MI.pushA (m:MI rk la lb out ia ib) (sa:Srt rk la) (h:ia < la.length) (hb:∀ y∈lb.drop ib,rk la[ia]<=rk y):MI rk la lb (out ++ [la[ia]]) (ia + 1) ib:=by
 have hd:=za3 h
 refine ⟨?_,?_,fun x hx => ?_⟩
 ·rw [Cw h]
  have:=m.perm.append_right [la[ia]]
  refine this.trans ?_
  rw [As,As]
  exact D8 _ Dr
 ·refine Bv.mpr ⟨m.srt,by simp,fun x hx y hy => ?_⟩
  rw [A6.mp hy]
  exact (m.low x hx).1 _ (by rw [hd]; exact Ah)
 ·rcases Al.mp hx with z | z
  ·exact ⟨fun y hy=>(m.low x z).1 y (by rw [hd]; exact Aa _ hy),(m.low x z).2⟩
  ·rw [A6.mp z]
   exact ⟨zd6 sa h,hb⟩
theorem MI.pushB (m:MI rk la lb out ia ib) (sb:Srt rk lb) (h:ib < lb.length) (ha:∀ y∈la.drop ia,rk lb[ib]<=rk y):MI rk la lb (out ++ [lb[ib]]) ia (ib + 1):=by
 have hd:=za3 h
 refine ⟨?_,?_,fun x hx => ?_⟩
 ·rw [Cw h]
  have:=m.perm.append_right [lb[ib]]
  rwa [As] at this
 ·refine Bv.mpr ⟨m.srt,by simp,fun x hx y hy => ?_⟩
  rw [A6.mp hy]
  exact (m.low x hx).2 _ (by rw [hd]; exact Ah)
 ·rcases Al.mp hx with z | z
  ·exact ⟨(m.low x z).1,fun y hy=>(m.low x z).2 y (by rw [hd]; exact Aa _ hy)⟩
  ·rw [A6.mp z]
   exact ⟨ha,zd6 sb h⟩
theorem MI.moreA (sa:Srt rk la):∀ {k ia:Nat} {out:List Ay},MI rk la lb out ia ib->ia + k<=la.length->(∀ i (h:i < la.length),ia<=i->i < ia + k->∀ y∈lb.drop ib,rk la[i]<=rk y)->MI rk la lb (out ++ (la.drop ia).take k) (ia + k) ib
 | 0,ia,out,m,_,_=>by simpa using m
 | k + 1,ia,out,m,h,hy=>by
  have m1:=m.pushA sa (by omega) (hy ia (by omega) (Ac _) (by omega))
  have m2:=MI.moreA sa (k:=k) m1 (by omega) fun i hi h1 h2=>hy i hi (by omega) (by omega)
  rw [za3 (show ia < la.length by omega),Gk]
  rw [As,M8,show ia + 1 + k=ia + (k + 1) by omega] at m2
  exact m2
theorem MI.moreB (sb:Srt rk lb):∀ {k ib:Nat} {out:List Ay},MI rk la lb out ia ib->ib + k<=lb.length->(∀ i (h:i < lb.length),ib<=i->i < ib + k->∀ y∈la.drop ia,rk lb[i]<=rk y)->MI rk la lb (out ++ (lb.drop ib).take k) ia (ib + k)
 | 0,ib,out,m,_,_=>by simpa using m
 | k + 1,ib,out,m,h,hy=>by
  have m1:=m.pushB sb (by omega) (hy ib (by omega) (Ac _) (by omega))
  have m2:=MI.moreB sb (k:=k) m1 (by omega) fun i hi h1 h2=>hy i hi (by omega) (by omega)
  rw [za3 (show ib < lb.length by omega),Gk]
  rw [As,M8,show ib + 1 + k=ib + (k + 1) by omega] at m2
  exact m2
theorem MI.restA (m:MI rk la lb out ia lb.length) (sa:Srt rk la):MFin rk la lb (out ++ la.drop ia):=by
 refine ⟨?_,Bv.mpr ⟨m.srt,Bc (Fu _ _) sa,fun x hx y hy=>(m.low x hx).1 y hy⟩⟩
 have:=m.perm.append_right (la.drop ia)
 rw [By] at this
 refine this.trans ?_
 rw [As]
 refine (D8 _ Dr).trans ?_
 rw [<- As,C6]
theorem MI.restB (m:MI rk la lb out la.length ib) (sb:Srt rk lb):MFin rk la lb (out ++ lb.drop ib):=by
 refine ⟨?_,Bv.mpr ⟨m.srt,Bc (Fu _ _) sb,fun x hx y hy=>(m.low x hx).2 y hy⟩⟩
 have:=m.perm.append_right (lb.drop ib)
 rw [By,As,C6] at this
 exact this
theorem MI.restBA (m:MI rk la lb out ia ib) (sa:Srt rk la) (sb:Srt rk lb) (h:∀ x∈lb.drop ib,∀ y∈la.drop ia,rk x<=rk y):MFin rk la lb (out ++ lb.drop ib ++ la.drop ia):=by
 refine ⟨?_,Bv.mpr ⟨Bv.mpr ⟨m.srt,Bc (Fu _ _) sb,fun x hx y hy=>(m.low x hx).2 y hy⟩,Bc (Fu _ _) sa,fun x hx y hy => ?_⟩⟩
 ·have:=m.perm.append_right (lb.drop ib ++ la.drop ia)
  rw [<- As] at this
  refine this.trans ?_
  rw [As,<- As (lb.take ib),C6]
  refine (D8 _ Dr).trans ?_
  rw [<- As,C6]
 ·rcases Al.mp hx with z | z
  ·exact (m.low x z).1 y hy
  ·exact h x z y hy
end
theorem zaN (a:Array Ay) (i j:Nat):(a.extract i j).toList=(a.toList.drop i).take (j - i):=by simp
theorem zaQ (a:Array Ay) (i:Nat):(a.extract i).toList=a.toList.drop i:=by
 rw [zaN]
 exact Hw (by simp)
noncomputable def Like (st st':Bu):Prop:=kindOf st'=kindOf st/\arrOf st'=arrOf st/\pendingOf st'=pendingOf st/\failedOf st'=failedOf st
theorem Like.refl (st:Bu):Like st st:=⟨rfl,rfl,rfl,rfl⟩
noncomputable abbrev mergeLoS:Array Keyed->Array Keyed->StateT SortSt Sem (Array Keyed):=sortPriv% PySem.Builtin.mergeLo
theorem zhk {rk:Ay->Int} {arr:Array Ay} (s:Srt rk arr.toList) {lo hi:Nat} (h:hi<=arr.size):Up2 rk arr lo hi:=fun i j _ hij hj=>by
 rw [zaW (show i < arr.size by omega),zaW (show j < arr.size by omega)]
 by_cases e:i=j
 ·subst e; exact Dg _
 ·have:=D7.mp s i j (by simpa using (show i < arr.size by omega)) (by simpa using (show j < arr.size by omega)) (by omega)
  simpa using this
theorem zaq (a:Array Ay) {i:Nat} (h:i < a.size):a.toList[i]'(by simpa using h)=a[i]:=by simp
theorem zcg {l:List Ay} {i:Nat} {y:Ay} (h:y∈l.drop i):∃ j,∃ hj:j < l.length,i<=j/\l[j]=y:=by
 obtain ⟨j,hj,e⟩:=Ei h
 rw [G7] at hj
 rw [Jr] at e
 exact ⟨i + j,by omega,by omega,e⟩
theorem zcX {rk:Ay->Int} {l:List Ay} (s:Srt rk l) {i:Nat} (h:i < l.length):∀ y∈l.drop i,rk l[i]<=rk y:=fun y hy=>by
 rw [za3 h] at hy
 rcases B9.mp hy with rfl | z
 ·exact Dg _
 ·exact zd6 s h y z
theorem zan {M:Hv} {A:Bb} {E:A0->A3->Prop} {s:A3} {σ α : Type} {c:Prop} [Decidable c] {x y:StateT σ Sem α} {Q : α -> σ -> Prop} {st : σ} (h1:c->wpS M A E s x Q st) (h2:¬ c->wpS M A E s y Q st):wpS M A E s (if c then x else y) Q st:=by
 by_cases h:c
 ·rw [if_pos h]; exact h1 h
 ·rw [if_neg h]; exact h2 h
theorem zfB {M:Hv} {A:Bb} {E:A0->A3->Prop} {s:A3} {σ α : Type} {c:Prop} [Decidable c] {x y:StateT σ Sem α} {Q : α -> σ -> Prop} {st : σ} (h2:¬ c->wpS M A E s y Q st) (h1:c->wpS M A E s x Q st):wpS M A E s (if c then x else y) Q st:=zan h1 h2
theorem zgr {X G:Prop} (k:X->G) (h:X):G:=k h
theorem za9 {M:Hv} {A:Bb} {E:A0->A3->Prop} {s:A3} {f:Bu->Bu} {Q:PUnit->Bu->Prop} {st:Bu} (hf:Like st (f st)) (h:∀ st',Like st st'->Q ⟨⟩ st'):wpS M A E s (modify f:StateT Bu Sem PUnit) Q st:=K6 (h _ hf)
theorem Like.trans {a b c:Bu} (h:Like a b) (k:Like b c):Like a c:=⟨k.1.trans h.1,k.2.1.trans h.2.1,k.2.2.1.trans h.2.2.1,k.2.2.2.trans h.2.2.2⟩
section
variable {prog:Aq} {w:Bj} {A:Bb} {E:A0->A3->Prop} {s:A3} {kd:F3} {S:Ay->Prop} {rk:Ay->Int}
theorem mergeLo_ok (C:Ranks prog w A E s kd S rk) {a b:Array Ay} {Q:Array Ay->Bu->Prop} {st:Bu} (ha:0 < a.size) (hb:0 < b.size) (sa:Srt rk a.toList) (sb:Srt rk b.toList) (Sa:∀ i (h:i < a.size),S a[i]) (Sb:∀ i (h:i < b.size),S b[i]) (h0:∀ y∈a.toList,rk b[0]<=rk y) (hl:∀ y∈b.toList,rk y<=rk (a[a.size - 1]'(by omega))) (hst:kindOf st=kd)
  (q:∀ res st',Like st st'->MFin rk a.toList b.toList res.toList->Q res st'):wpS (model prog w) A E s (mergeLoS a b) Q st:=by
 have la:a.toList.length=a.size:=Au
 have lb:b.toList.length=b.size:=Au
 have m0:MI rk a.toList b.toList [b[0]] 0 1:=by
  have mm:MI rk a.toList b.toList [] 0 0:=⟨by simp,Gc,fun x hx=>by cases hx⟩
  have:=mm.pushB sb (by omega) (by rw [Oc,zaq b hb]; exact h0)
  rw [zaq b hb] at this
  exact this
 have lastA:∀ ib,∀ x∈b.toList.drop ib,∀ ia,ia + 1=a.size->∀ y∈a.toList.drop ia,rk x<=rk y:=fun ib x hx ia e y hy=>by
  obtain ⟨j,hj,h1,e2⟩:=zcg hy
  have:j=a.size - 1:=by omega
  subst this
  rw [<- e2,zaq a (by omega)]
  exact hl x (List.mem_of_mem_drop hx)
 have doneA:∀ {out:List Ay} {ia ib:Nat},MI rk a.toList b.toList out ia ib->ib=b.size->MFin rk a.toList b.toList (out ++ a.toList.drop ia ++ b.toList.drop ib):=fun m e=>by
  subst e
  rw [<- lb] at m ⊢
  rw [Nu,Cd]
  exact m.restA sa
 have doneB:∀ {out:List Ay} {ia ib:Nat},MI rk a.toList b.toList out ia ib->ia=a.size->MFin rk a.toList b.toList (out ++ a.toList.drop ia ++ b.toList.drop ib):=fun m e=>by
  subst e
  rw [<- la] at m ⊢
  rw [Nu,Cd]
  exact m.restB sb
 refine Aj (Iu (Gh ⟨rfl,?_⟩))
 dsimp only
 refine Aj (zaG hb ?_)
 refine zan (fun e1 => ?_) (fun e1 => ?_)
 ·have e1:1=b.size:=by simpa using e1
  refine Ao (q _ st (Like.refl st) ?_)
  have:=doneA m0 e1
  simp only [B0,Cc,zaQ]
  exact this
 refine zan (fun e2 => ?_) (fun e2 => ?_)
 ·have e2:0 + 1=a.size:=by simpa using e2
  refine Ao (q _ st (Like.refl st) ?_)
  have:=m0.restBA sa sb (fun x hx y hy=>lastA 1 x hx 0 e2 y hy)
  simp only [B0,Cc,zaQ]
  exact this
 have e1:¬ 1=b.size:=by simpa using e1
 have e2:¬ 0 + 1=a.size:=by simpa using e2
 refine Aj (Hd ?_)
 refine Aj (E5 (Cz (I:=fun x c st'=>Like st st'/\∃ (out:Array Ay) (ia ib g:Nat),c=(none,out,ia,ib,g)/\MI rk a.toList b.toList out.toList ia ib/\ia + 1 < a.size/\ib < b.size/\x < ia + ib) (Q:=fun c st'=>Like st st'/\∃ res:Array Ay,c.1=some res/\MFin rk a.toList b.toList res.toList) ?step ?fin ⟨Like.refl st,_,_,_,_,rfl,m0,by omega,by omega,by omega⟩) ?post)
 case fin =>
  rintro c st' ⟨_,out,ia,ib,g,rfl,_,h1,h2,h3⟩
  omega
 case post =>
  rintro ⟨r,out,ia,ib,g⟩ st' ⟨hL,res,e,hf⟩
  dsimp only at e ⊢
  subst e
  exact Ao (q res st' hL hf)
 case step =>
  rintro x c st1 _ hx ⟨hL,out,ia,ib,g,rfl,m,h1,h2,h3⟩
  dsimp only
  have hk1:kindOf st1=kd:=hL.1.trans hst
  refine Aj (E5 (Cz (I:=fun y c st'=>st'=st1/\∃ (out:Array Ay) (ia ib ac bc:Nat),c=(none,out,ia,ib,ac,bc)/\MI rk a.toList b.toList out.toList ia ib/\ia + 1 < a.size/\ib < b.size/\x < ia + ib/\(0 < y->x + 1 < ia + ib)) (Q:=fun c st'=>st'=st1/\((∃ res:Array Ay,c.1=some res/\MFin rk a.toList b.toList res.toList)\/∃ (out:Array Ay) (ia ib ac bc:Nat),c=(none,out,ia,ib,ac,bc)/\MI rk a.toList b.toList out.toList ia ib/\ia + 1 < a.size/\ib < b.size/\x + 1 < ia + ib)) ?step ?fin ⟨rfl,_,_,_,_,_,rfl,m,h1,h2,h3,by omega⟩) ?post)
  case fin =>
   rintro c st' ⟨rfl,out,ia,ib,ac,bc,rfl,m,h1,h2,h3,h4⟩
   exact ⟨rfl,.inr ⟨out,ia,ib,ac,bc,rfl,m,h1,h2,h4 (by omega)⟩⟩
  case step =>
   rintro y c st' _ hy ⟨rfl,out,ia,ib,ac,bc,rfl,m,h1,h2,h3,h4⟩
   dsimp only
   refine Aj (zaG h2 (Aj (zaG (show ia < a.size by omega) (Aj (C.ask (Sb _ h2) (Sa _ (by omega)) hk1 ?_)))))
   dsimp only
   refine zan (fun hw => ?_) (fun hw => ?_)
   ·have hw:rk b[ib] < rk a[ia]:=by simpa using hw
    have m':=m.pushB sb (by omega) (fun y hy=>by
     have:=zcX sa (show ia < a.toList.length by omega) y hy
     rw [zaq a (by omega)] at this
     rw [zaq b h2]
     omega)
    rw [zaq b h2] at m'
    refine Aj (zaG h2 ?_)
    refine zan (fun e => ?_) (fun e => ?_)
    ·have e:ib + 1=b.size:=by simpa using e
     refine Ao ⟨rfl,.inl ⟨_,rfl,?_⟩⟩
     have:=doneA m' e
     simp only [B0,Cc,zaQ]
     exact this
    have e:¬ ib + 1=b.size:=by simpa using e
    refine zan (fun _=>Ao ⟨rfl,.inr ⟨_,_,_,_,_,rfl,by simpa using m',h1,by omega,by omega⟩⟩) (fun _=>Ao ⟨rfl,_,_,_,_,_,rfl,by simpa using m',h1,by omega,by omega,by omega⟩)
   ·have hw:rk a[ia]<=rk b[ib]:=by simpa using hw
    have m':=m.pushA sa (by omega) (fun y hy=>by
     have:=zcX sb (show ib < b.toList.length by omega) y hy
     rw [zaq b h2] at this
     rw [zaq a (by omega)]
     omega)
    rw [zaq a (by omega)] at m'
    refine Aj (zaG (show ia < a.size by omega) ?_)
    refine zan (fun e => ?_) (fun e => ?_)
    ·have e:ia + 1 + 1=a.size:=by simpa using e
     refine Ao ⟨rfl,.inl ⟨_,rfl,?_⟩⟩
     have:=m'.restBA sa sb (fun x hx y hy=>lastA _ x hx _ e y hy)
     simp only [B0,Cc,zaQ]
     exact this
    have e:¬ ia + 1 + 1=a.size:=by simpa using e
    refine zan (fun _=>Ao ⟨rfl,.inr ⟨_,_,_,_,_,rfl,by simpa using m',by omega,h2,by omega⟩⟩) (fun _=>Ao ⟨rfl,_,_,_,_,_,rfl,by simpa using m',by omega,h2,by omega,by omega⟩)
  case post =>
   rintro ⟨r,out,ia,ib,ac,bc⟩ st' ⟨rfl,hres | ⟨out',ia',ib',ac',bc',e,m,h1,h2,h3⟩⟩
   ·obtain ⟨res,e,hf⟩:=hres
    dsimp only at e ⊢
    subst e
    exact Ao ⟨hL,res,rfl,hf⟩
   cases e
   dsimp only
   refine Aj (Iu (Gh ⟨rfl,?_⟩))
   refine Aj (E5 (Cz (I:=fun y c st'=>Like st st'/\∃ (out:Array Ay) (ia ib g ac bc:Nat),c=(none,out,ia,ib,g,ac,bc)/\MI rk a.toList b.toList out.toList ia ib/\ia + 1 < a.size/\ib < b.size/\x + 1 < ia + ib) (Q:=fun c st'=>Like st st'/\((∃ res:Array Ay,c.1=some res/\MFin rk a.toList b.toList res.toList)\/∃ (out:Array Ay) (ia ib g ac bc:Nat),c=(none,out,ia,ib,g,ac,bc)/\MI rk a.toList b.toList out.toList ia ib/\ia + 1 < a.size/\ib < b.size/\x + 1 < ia + ib)) ?step ?fin ⟨hL,_,_,_,_,_,_,rfl,m,h1,h2,h3⟩) ?post)
   case fin =>
    rintro c st' ⟨hL2,h⟩
    exact ⟨hL2,.inr h⟩
   case post =>
    rintro ⟨r,out,ia,ib,g,ac,bc⟩ st2 ⟨hL2,hres | ⟨out',ia',ib',g',ac',bc',e,m,h1,h2,h3⟩⟩
    ·obtain ⟨res,e,hf⟩:=hres
     dsimp only at e ⊢
     subst e
     exact Ao ⟨hL2,res,rfl,hf⟩
    cases e
    dsimp only
    exact Aj (za9 ⟨rfl,rfl,rfl,rfl⟩ fun st3 hL3=>Ao ⟨hL2.trans hL3,_,_,_,_,rfl,m,h1,h2,h3⟩)
   case step =>
    rintro y c st2 _ hy ⟨hL2,out,ia,ib,g,ac,bc,rfl,m,h1,h2,h3⟩
    dsimp only
    apply zgr
    ·intro R
     refine zan (fun h0=>Aj (za9 ⟨rfl,rfl,rfl,rfl⟩ ?_)) (fun h0=>Aj (za9 ⟨rfl,rfl,rfl,rfl⟩ ?_))
     ·clear h0
      generalize g - 1=g'
      revert g'
      exact R
     ·exact R g
    intro g' st3 hL3
    have hL4:=hL2.trans hL3
    have hk3:kindOf st3=kd:=hL4.1.trans hst
    refine Aj (zaG h2 ?_)
    refine Aj (zbD C (Sb _ h2) (fun i h _ _=>Sa i h) (by omega) (by omega) (zhk sa (by omega)) hk3 fun k j1 j2 j3 => ?_)
    dsimp only
    simp only [Bo,if_false] at j2 j3
    have mA:=m.moreA sa (k:=k) (by omega) (fun i hi g1 g2 y hy=>by
     have h5:=j2 (i - ia) (by omega)
     rw [show ia + (i - ia)=i by omega,zaW (by omega)] at h5
     have h6:=zcX sb (show ib < b.toList.length by omega) y hy
     rw [zaq b h2] at h6
     rw [zaq a (by omega)]
     omega)
    have gtB:∀ y∈a.toList.drop (ia + k),rk b[ib]<=rk y:=fun y hy=>by
     obtain ⟨j,hj,g1,e⟩:=zcg hy
     have h5:=j3 (j - ia) (by omega) (by omega)
     rw [show ia + (j - ia)=j by omega,zaW (by omega)] at h5
     rw [<- e,zaq a (by omega)]
     omega
    have ex:(a.extract ia (ia + k)).toList=(a.toList.drop ia).take k:=by rw [zaN,C5]
    rw [<- ex,<- B0] at mA
    have f12:∀ (_:¬ (ia + k + 1 == a.size)=true) (_:¬ (ia + k == a.size)=true),ia + k + 1 < a.size:=fun e5 e6=>by
     have e5:¬ ia + k + 1=a.size:=by simpa using e5
     have e6:¬ ia + k=a.size:=by simpa using e6
     omega
    have f32:x + 1 < ia + k + ib:=by omega
    apply zgr
    ·intro R
     refine zfB (fun k0 => ?b2) (fun k0=>zan (fun e => ?x2) (fun e5=>zan (fun e => ?y2) (fun e6 => ?a2)))
     rotate_right
     have h12:=f12 e5 e6
     have h32:=f32
     clear e5 e6 k0
     have mA':=mA
     have gtB':=gtB
     generalize out ++ a.extract ia (ia + k)=out2 at mA' ⊢
     generalize ia + k=ia2 at mA' gtB' h12 h32 ⊢
     revert out2 ia2
     exact R
     ·have e7:k=0:=by omega
      have gtB2:=gtB
      rw [e7,Io] at gtB2
      exact R out ia m gtB2 h1 h3
     ·have e:ia + k + 1=a.size:=by simpa using e
      refine Ao ⟨hL4,.inl ⟨_,rfl,?_⟩⟩
      have:=mA.restBA sa sb (fun x hx y hy=>lastA _ x hx _ e y hy)
      simp only [B0,zaQ] at this ⊢
      exact this
     ·have e:ia + k=a.size:=by simpa using e
      refine Ao ⟨hL4,.inl ⟨_,rfl,?_⟩⟩
      have:=doneB mA e
      simp only [B0,zaQ] at this ⊢
      exact this
    intro out2 ia2 mA gtB h12 h32
    have mB:=mA.pushB sb (by omega) (fun y hy=>by rw [zaq b h2]; exact gtB y hy)
    rw [zaq b h2] at mB
    refine Aj (zaG h2 ?_)
    refine zan (fun e => ?_) (fun e => ?_)
    ·have e:ib + 1=b.size:=by simpa using e
     refine Ao ⟨hL4,.inl ⟨_,rfl,?_⟩⟩
     have:=doneA mB e
     simp only [B0,Cc,zaQ]
     exact this
    have e8:¬ ib + 1=b.size:=by simpa using e
    have hia2:ia2 < a.size:=by omega
    have hb4:ib + 1 < b.size:=by omega
    have h34:x + 1 < ia2 + (ib + 1):=by omega
    rw [<- Cc] at mB
    generalize out2.push b[ib]=out4 at mB ⊢
    generalize ib + 1=ib4 at mB hb4 h34 ⊢
    refine Aj (zaG hia2 ?_)
    refine Aj (zbD C (Sa _ hia2) (fun i h _ _=>Sb i h) (by omega) (by omega) (zhk sb (by omega)) hk3 fun k2 j4 j5 j6 => ?_)
    dsimp only
    simp only [if_true] at j5 j6
    have mC:=mB.moreB sb (k:=k2) (by omega) (fun i hi g1 g2 y hy=>by
     have h5:=j5 (i - ib4) (by omega)
     rw [show ib4 + (i - ib4)=i by omega,zaW (by omega)] at h5
     have h6:=zcX sa (show ia2 < a.toList.length by omega) y hy
     rw [zaq a hia2] at h6
     rw [zaq b (by omega)]
     omega)
    have leA:∀ y∈b.toList.drop (ib4 + k2),rk a[ia2]<=rk y:=fun y hy=>by
     obtain ⟨j,hj,g1,e⟩:=zcg hy
     have h5:=j6 (j - ib4) (by omega) (by omega)
     rw [show ib4 + (j - ib4)=j by omega,zaW (by omega)] at h5
     rw [<- e,zaq b (by omega)]
     omega
    have ex2:(b.extract ib4 (ib4 + k2)).toList=(b.toList.drop ib4).take k2:=by rw [zaN,C5]
    rw [<- ex2,<- B0] at mC
    have f22:∀ (_:¬ (ib4 + k2 == b.size)=true),ib4 + k2 < b.size:=fun e5=>by
     have e5:¬ ib4 + k2=b.size:=by simpa using e5
     omega
    have f33:x + 1 < ia2 + (ib4 + k2):=by omega
    apply zgr
    ·intro R
     refine zfB (fun k1 => ?b3) (fun k1=>zan (fun e => ?x3) (fun e5 => ?a3))
     rotate_right
     have h22:=f22 e5
     have h33:=f33
     clear e5 k1
     have mC':=mC
     have leA':=leA
     generalize out4 ++ b.extract ib4 (ib4 + k2)=out3 at mC' ⊢
     generalize ib4 + k2=ib2 at mC' leA' h22 h33 ⊢
     revert out3 ib2
     exact R
     ·have e7:k2=0:=by omega
      have leA2:=leA
      rw [e7,Io] at leA2
      exact R out4 ib4 mB leA2 hb4 h34
     ·have e:ib4 + k2=b.size:=by simpa using e
      refine Ao ⟨hL4,.inl ⟨_,rfl,?_⟩⟩
      have:=doneA mC e
      simp only [B0,Cc,zaQ] at this ⊢
      exact this
    intro out3 ib2 mC leA h22 h33
    have mD:=mC.pushA sa (by omega) (fun y hy=>by rw [zaq a hia2]; exact leA y hy)
    rw [zaq a hia2,<- Cc] at mD
    refine Aj (zaG hia2 ?_)
    refine zan (fun e => ?_) (fun e => ?_)
    ·have e:ia2 + 1 + 1=a.size:=by simpa using e
     refine Ao ⟨hL4,.inl ⟨_,rfl,?_⟩⟩
     have:=mD.restBA sa sb (fun x hx y hy=>lastA _ x hx _ e y hy)
     simp only [B0,Cc,zaQ] at this ⊢
     exact this
    have e9:¬ ia2 + 1 + 1=a.size:=by simpa using e
    exact zan (fun _=>Ao ⟨hL4,.inr ⟨_,_,_,_,_,_,rfl,mD,by omega,h22,by omega⟩⟩) (fun _=>Ao ⟨hL4,_,_,_,_,_,_,rfl,mD,by omega,h22,by omega⟩)
end
structure HI (rk:Ay->Int) (la lb out:List Ay) (na nb:Nat):Prop where
 perm:out.Perm (la.drop na ++ lb.drop nb)
 srt:out.Pairwise fun x y=>rk y<=rk x
 high:∀ x∈out,(∀ y∈la.take na,rk y<=rk x)/\∀ y∈lb.take nb,rk y<=rk x
section
variable {rk:Ay->Int} {la lb out:List Ay} {na nb:Nat}
theorem zbp {l:List Ay} {n:Nat} {y:Ay} (h:y∈l.take n):∃ j,∃ hj:j < l.length,j < n/\l[j]=y:=by
 obtain ⟨j,hj,e⟩:=Ei h
 rw [Cq] at hj
 rw [He] at e
 exact ⟨j,by omega,by omega,e⟩
theorem zdL {l:List Ay} (s:Srt rk l) {n:Nat} (h0:0 < n) (h:n<=l.length):∀ y∈l.take n,rk y<=rk (l[n - 1]'(by omega)):=fun y hy=>by
 obtain ⟨j,hj,h1,rfl⟩:=zbp hy
 by_cases e:j=n - 1
 ·subst e; exact Dg _
 ·exact D7.mp s j (n - 1) hj (by omega) (by omega)
theorem zcp {l:List Ay} {m n:Nat} (h:m<=n) {y:Ay} (hy:y∈l.take m):y∈l.take n:=by
 have:l.take m=(l.take n).take m:=by rw [List.take_take,Nat.min_eq_left h]
 rw [this] at hy
 exact J6 hy
theorem HI.pushA (m:HI rk la lb out na nb) (sa:Srt rk la) (h0:0 < na) (h:na<=la.length) (hb:∀ y∈lb.take nb,rk y<=rk (la[na - 1]'(by omega))):HI rk la lb (out ++ [la[na - 1]'(by omega)]) (na - 1) nb:=by
 have hd:la.drop (na - 1)=la[na - 1]'(by omega) :: la.drop na:=by
  have:=za3 (l:=la) (i:=na - 1) (by omega)
  rwa [Nf h0] at this
 have hm:la[na - 1]'(by omega)∈la.take na:=by
  rw [L5]
  exact ⟨na - 1,by omega,rfl⟩
 refine ⟨?_,Bv.mpr ⟨m.srt,by simp,fun x hx y hy => ?_⟩,fun x hx => ?_⟩
 ·rw [hd,K5]
  exact (m.perm.append_right _).trans Dr
 ·rw [A6.mp hy]
  exact (m.high x hx).1 _ hm
 ·rcases Al.mp hx with z | z
  ·exact ⟨fun y hy=>(m.high x z).1 y (zcp (by omega) hy),(m.high x z).2⟩
  ·rw [A6.mp z]
   exact ⟨fun y hy=>zdL sa h0 h y (zcp (by omega) hy),hb⟩
theorem HI.pushB (m:HI rk la lb out na nb) (sb:Srt rk lb) (h0:0 < nb) (h:nb<=lb.length) (ha:∀ y∈la.take na,rk y<=rk (lb[nb - 1]'(by omega))):HI rk la lb (out ++ [lb[nb - 1]'(by omega)]) na (nb - 1):=by
 have hd:lb.drop (nb - 1)=lb[nb - 1]'(by omega) :: lb.drop nb:=by
  have:=za3 (l:=lb) (i:=nb - 1) (by omega)
  rwa [Nf h0] at this
 have hm:lb[nb - 1]'(by omega)∈lb.take nb:=by
  rw [L5]
  exact ⟨nb - 1,by omega,rfl⟩
 refine ⟨?_,Bv.mpr ⟨m.srt,by simp,fun x hx y hy => ?_⟩,fun x hx => ?_⟩
 ·rw [hd]
  refine (m.perm.append_right _).trans ?_
  rw [As]
  refine D8 _ ?_
  exact Dr
 ·rw [A6.mp hy]
  exact (m.high x hx).2 _ hm
 ·rcases Al.mp hx with z | z
  ·exact ⟨(m.high x z).1,fun y hy=>(m.high x z).2 y (zcp (by omega) hy)⟩
  ·rw [A6.mp z]
   exact ⟨ha,fun y hy=>zdL sb h0 h y (zcp (by omega) hy)⟩
theorem HI.moreA (m:HI rk la lb out na nb) (sa:Srt rk la) (h:na<=la.length):∀ {d p:Nat},p + d=na->(∀ i (h:i < la.length),p<=i->i < na->∀ y∈lb.take nb,rk y<=rk la[i])->HI rk la lb (out ++ ((la.drop p).take d).reverse) p nb
 | 0,p,e,_=>by
  have:p=na:=by omega
  subst this
  simpa using m
 | d + 1,p,e,hy=>by
  have m1:=HI.moreA m sa h (d:=d) (p:=p + 1) (by omega) fun i hi h1 h2=>hy i hi (by omega) h2
  have m2:=m1.pushA sa (by omega) (by omega) (hy (p + 1 - 1) (by omega) (by omega) (by omega))
  rw [za3 (show p < la.length by omega),Gk,Nj,<- As]
  simpa only [Nh] using m2
theorem HI.moreB (m:HI rk la lb out na nb) (sb:Srt rk lb) (h:nb<=lb.length):∀ {d p:Nat},p + d=nb->(∀ i (h:i < lb.length),p<=i->i < nb->∀ y∈la.take na,rk y<=rk lb[i])->HI rk la lb (out ++ ((lb.drop p).take d).reverse) na p
 | 0,p,e,_=>by
  have:p=nb:=by omega
  subst this
  simpa using m
 | d + 1,p,e,hy=>by
  have m1:=HI.moreB m sb h (d:=d) (p:=p + 1) (by omega) fun i hi h1 h2=>hy i hi (by omega) h2
  have m2:=m1.pushB sb (by omega) (by omega) (hy (p + 1 - 1) (by omega) (by omega) (by omega))
  rw [za3 (show p < lb.length by omega),Gk,Nj,<- As]
  simpa only [Nh] using m2
theorem HI.rev (m:HI rk la lb out na nb):Srt rk out.reverse:=List.pairwise_reverse.mpr m.srt
theorem HI.restAB (m:HI rk la lb out na nb) (sa:Srt rk la) (sb:Srt rk lb) (h:∀ x∈la.take na,∀ y∈lb.take nb,rk x<=rk y):MFin rk la lb (la.take na ++ lb.take nb ++ out.reverse):=by
 refine ⟨?_,Bv.mpr ⟨Bv.mpr ⟨Bc (Fp _ _) sa,Bc (Fp _ _) sb,h⟩,m.rev,fun x hx y hy => ?_⟩⟩
 ·refine (D8 _ ((Ni out).trans m.perm)).trans ?_
  have e:la.take na ++ lb.take nb ++ (la.drop na ++ lb.drop nb)=la.take na ++ (lb.take nb ++ la.drop na) ++ lb.drop nb:=by simp
  rw [e]
  refine (Hf _ (D8 _ Dr)).trans ?_
  rw [<- As,C6,As,C6]
 ·have:=m.high y (Np.mp hy)
  rcases Al.mp hx with z | z
  ·exact this.1 x z
  ·exact this.2 x z
theorem HI.restBA (m:HI rk la lb out na nb) (sa:Srt rk la) (sb:Srt rk lb) (h:∀ x∈lb.take nb,∀ y∈la.take na,rk x<=rk y):MFin rk la lb (lb.take nb ++ la.take na ++ out.reverse):=by
 refine ⟨?_,Bv.mpr ⟨Bv.mpr ⟨Bc (Fp _ _) sb,Bc (Fp _ _) sa,h⟩,m.rev,fun x hx y hy => ?_⟩⟩
 ·refine (D8 _ ((Ni out).trans m.perm)).trans ?_
  have e:lb.take nb ++ la.take na ++ (la.drop na ++ lb.drop nb)=lb.take nb ++ la ++ lb.drop nb:=by
   have:=C6 na la
   rw [As,<- As (la.take na),this,<- As]
  rw [e]
  refine (Hf _ Dr).trans ?_
  rw [As,C6]
 ·have:=m.high y (Np.mp hy)
  rcases Al.mp hx with z | z
  ·exact this.2 x z
  ·exact this.1 x z
end
theorem zaC (a:Array Ay) (n:Nat):(a.extract 0 n).toList=a.toList.take n:=by
 rw [zaN,Oc,M5]
noncomputable abbrev mergeHiS:Array Keyed->Array Keyed->StateT SortSt Sem (Array Keyed):=sortPriv% PySem.Builtin.mergeHi
section
variable {prog:Aq} {w:Bj} {A:Bb} {E:A0->A3->Prop} {s:A3} {kd:F3} {S:Ay->Prop} {rk:Ay->Int}
theorem mergeHi_ok (C:Ranks prog w A E s kd S rk) {a b:Array Ay} {Q:Array Ay->Bu->Prop} {st:Bu} (ha:0 < a.size) (hb:0 < b.size) (sa:Srt rk a.toList) (sb:Srt rk b.toList) (Sa:∀ i (h:i < a.size),S a[i]) (Sb:∀ i (h:i < b.size),S b[i]) (h0:∀ y∈a.toList,rk b[0]<=rk y) (hl:∀ y∈b.toList,rk y<=rk (a[a.size - 1]'(by omega))) (hst:kindOf st=kd)
  (q:∀ res st',Like st st'->MFin rk a.toList b.toList res.toList->Q res st'):wpS (model prog w) A E s (mergeHiS a b) Q st:=by
 have la:a.toList.length=a.size:=Au
 have lb:b.toList.length=b.size:=Au
 have m0:HI rk a.toList b.toList [a[a.size - 1]'(by omega)] (a.size - 1) b.size:=by
  have mm:HI rk a.toList b.toList [] a.size b.size:=⟨by rw [<- la,<- lb]; simp,Gc,fun x hx=>by cases hx⟩
  have:=mm.pushA sa ha (by omega) (fun y hy=>by rw [zaq a (by omega)]; exact hl y (J6 hy))
  rw [zaq a (by omega)] at this
  exact this
 have firstB:∀ nb,nb=1->∀ na,∀ x∈b.toList.take nb,∀ y∈a.toList.take na,rk x<=rk y:=fun nb e na x hx y hy=>by
  subst e
  obtain ⟨j,hj,h1,e2⟩:=zbp hx
  have:j=0:=by omega
  subst this
  rw [<- e2,zaq b hb]
  exact h0 y (J6 hy)
 have doneA:∀ {out:List Ay} {na nb:Nat},HI rk a.toList b.toList out na nb->na=0->MFin rk a.toList b.toList (a.toList.take na ++ b.toList.take nb ++ out.reverse):=fun m e=>by
  subst e
  exact m.restAB sa sb (fun x hx=>by simp at hx)
 have doneB:∀ {out:List Ay} {na nb:Nat},HI rk a.toList b.toList out na nb->nb=0->MFin rk a.toList b.toList (a.toList.take na ++ b.toList.take nb ++ out.reverse):=fun m e=>by
  subst e
  exact m.restAB sa sb (fun x _ y hy=>by simp at hy)
 refine Aj (Iu (Gh ⟨rfl,?_⟩))
 dsimp only
 refine Aj (zaG (by omega) ?_)
 refine zan (fun e1 => ?_) (fun e1 => ?_)
 ·have e1:a.size - 1=0:=by simpa using e1
  refine Ao (q _ st (Like.refl st) ?_)
  have:=doneA m0 e1
  simp only [B0,Ch,zaC]
  exact this
 refine zan (fun e2 => ?_) (fun e2 => ?_)
 ·have e2:b.size=1:=by simpa using e2
  refine Ao (q _ st (Like.refl st) ?_)
  have:=m0.restBA sa sb (fun x hx y hy=>firstB _ e2 _ x hx y hy)
  simp only [B0,Ch,zaC]
  exact this
 have e1:¬ a.size - 1=0:=by simpa using e1
 have e2:¬ b.size=1:=by simpa using e2
 refine Aj (Hd ?_)
 refine Aj (E5 (Cz (I:=fun x c st'=>Like st st'/\∃ (out:Array Ay) (na nb g:Nat),c=(none,na,nb,out,g)/\HI rk a.toList b.toList out.toList na nb/\0 < na/\na<=a.size/\1 < nb/\nb<=b.size/\x + na + nb < a.size + b.size) (Q:=fun c st'=>Like st st'/\∃ res:Array Ay,c.1=some res/\MFin rk a.toList b.toList res.toList) ?step ?fin ⟨Like.refl st,_,_,_,_,rfl,m0,by omega,by omega,by omega,by omega,by omega⟩) ?post)
 case fin =>
  rintro c st' ⟨_,out,na,nb,g,rfl,_,h1,h2,h3,h4,h5⟩
  omega
 case post =>
  rintro ⟨r,na,nb,out,g⟩ st' ⟨hL,res,e,hf⟩
  dsimp only at e ⊢
  subst e
  exact Ao (q res st' hL hf)
 case step =>
  rintro x c st1 _ hx ⟨hL,out,na,nb,g,rfl,m,h1,h1',h2,h2',h3⟩
  dsimp only
  have hk1:kindOf st1=kd:=hL.1.trans hst
  refine Aj (E5 (Cz (I:=fun y c st'=>st'=st1/\∃ (out:Array Ay) (na nb ac bc:Nat),c=(none,na,nb,out,ac,bc)/\HI rk a.toList b.toList out.toList na nb/\0 < na/\na<=a.size/\1 < nb/\nb<=b.size/\x + na + nb < a.size + b.size/\(0 < y->x + 1 + na + nb < a.size + b.size)) (Q:=fun c st'=>st'=st1/\((∃ res:Array Ay,c.1=some res/\MFin rk a.toList b.toList res.toList)\/∃ (out:Array Ay) (na nb ac bc:Nat),c=(none,na,nb,out,ac,bc)/\HI rk a.toList b.toList out.toList na nb/\0 < na/\na<=a.size/\1 < nb/\nb<=b.size/\x + 1 + na + nb < a.size + b.size)) ?step ?fin ⟨rfl,_,_,_,_,_,rfl,m,h1,h1',h2,h2',h3,by omega⟩) ?post)
  case fin =>
   rintro c st' ⟨rfl,out,na,nb,ac,bc,rfl,m,h1,h1',h2,h2',h3,h4⟩
   exact ⟨rfl,.inr ⟨out,na,nb,ac,bc,rfl,m,h1,h1',h2,h2',h4 (by omega)⟩⟩
  case step =>
   rintro y c st' _ hy ⟨rfl,out,na,nb,ac,bc,rfl,m,h1,h1',h2,h2',h3,h4⟩
   dsimp only
   have ib:nb - 1 < b.size:=by omega
   have ia:na - 1 < a.size:=by omega
   refine Aj (zaG ib (Aj (zaG ia (Aj (C.ask (Sb _ ib) (Sa _ ia) hk1 ?_)))))
   dsimp only
   refine zan (fun hw => ?_) (fun hw => ?_)
   ·have hw:rk b[nb - 1] < rk a[na - 1]:=by simpa using hw
    have m':=m.pushA sa h1 (by omega) (fun y hy=>by
     have:=zdL sb (show 0 < nb by omega) (by omega) y hy
     rw [zaq b ib] at this
     rw [zaq a ia]
     omega)
    rw [zaq a ia,<- Cc] at m'
    refine Aj (zaG ia ?_)
    refine zan (fun e => ?_) (fun e => ?_)
    ·have e:na - 1=0:=by simpa using e
     refine Ao ⟨rfl,.inl ⟨_,rfl,?_⟩⟩
     have:=doneA m' e
     simp only [B0,Ch,zaC]
     exact this
    have e:¬ na - 1=0:=by simpa using e
    refine zan (fun _=>Ao ⟨rfl,.inr ⟨_,_,_,_,_,rfl,m',by omega,by omega,h2,h2',by omega⟩⟩) (fun _=>Ao ⟨rfl,_,_,_,_,_,rfl,m',by omega,by omega,h2,h2',by omega,by omega⟩)
   ·have hw:rk a[na - 1]<=rk b[nb - 1]:=by simpa using hw
    have m':=m.pushB sb (by omega) (by omega) (fun y hy=>by
     have:=zdL sa h1 (by omega) y hy
     rw [zaq a ia] at this
     rw [zaq b ib]
     omega)
    rw [zaq b ib,<- Cc] at m'
    refine Aj (zaG ib ?_)
    refine zan (fun e => ?_) (fun e => ?_)
    ·have e:nb - 1=1:=by simpa using e
     refine Ao ⟨rfl,.inl ⟨_,rfl,?_⟩⟩
     have:=m'.restBA sa sb (fun x hx y hy=>firstB _ e _ x hx y hy)
     simp only [B0,Ch,zaC]
     exact this
    have e:¬ nb - 1=1:=by simpa using e
    refine zan (fun _=>Ao ⟨rfl,.inr ⟨_,_,_,_,_,rfl,m',h1,h1',by omega,by omega,by omega⟩⟩) (fun _=>Ao ⟨rfl,_,_,_,_,_,rfl,m',h1,h1',by omega,by omega,by omega,by omega⟩)
  case post =>
   rintro ⟨r,na,nb,out,ac,bc⟩ st' ⟨rfl,hres | ⟨out',na',nb',ac',bc',e,m,h1,h1',h2,h2',h3⟩⟩
   ·obtain ⟨res,e,hf⟩:=hres
    dsimp only at e ⊢
    subst e
    exact Ao ⟨hL,res,rfl,hf⟩
   cases e
   dsimp only
   refine Aj (Iu (Gh ⟨rfl,?_⟩))
   refine Aj (E5 (Cz (I:=fun y c st'=>Like st st'/\∃ (out:Array Ay) (na nb g ac bc:Nat),c=(none,na,nb,out,g,ac,bc)/\HI rk a.toList b.toList out.toList na nb/\0 < na/\na<=a.size/\1 < nb/\nb<=b.size/\x + 1 + na + nb < a.size + b.size) (Q:=fun c st'=>Like st st'/\((∃ res:Array Ay,c.1=some res/\MFin rk a.toList b.toList res.toList)\/∃ (out:Array Ay) (na nb g ac bc:Nat),c=(none,na,nb,out,g,ac,bc)/\HI rk a.toList b.toList out.toList na nb/\0 < na/\na<=a.size/\1 < nb/\nb<=b.size/\x + 1 + na + nb < a.size + b.size)) ?step ?fin ⟨hL,_,_,_,_,_,_,rfl,m,h1,h1',h2,h2',h3⟩) ?post)
   case fin =>
    rintro c st' ⟨hL2,h⟩
    exact ⟨hL2,.inr h⟩
   case post =>
    rintro ⟨r,na,nb,out,g,ac,bc⟩ st2 ⟨hL2,hres | ⟨out',na',nb',g',ac',bc',e,m,h1,h1',h2,h2',h3⟩⟩
    ·obtain ⟨res,e,hf⟩:=hres
     dsimp only at e ⊢
     subst e
     exact Ao ⟨hL2,res,rfl,hf⟩
    cases e
    dsimp only
    exact Aj (za9 ⟨rfl,rfl,rfl,rfl⟩ fun st3 hL3=>Ao ⟨hL2.trans hL3,_,_,_,_,rfl,m,h1,h1',h2,h2',by omega⟩)
   case step =>
    rintro y c st2 _ hy ⟨hL2,out,na,nb,g,ac,bc,rfl,m,h1,h1',h2,h2',h3⟩
    dsimp only
    have ib:nb - 1 < b.size:=by omega
    refine zan (fun _=>Aj (za9 ⟨rfl,rfl,rfl,rfl⟩ fun st3 hL3 => ?_)) (fun _=>Aj (za9 ⟨rfl,rfl,rfl,rfl⟩ fun st3 hL3 => ?_))
    all_goals
     have hL4:=hL2.trans hL3
     have hk3:kindOf st3=kd:=hL4.1.trans hst
     refine Aj (zaG ib ?_)
     refine Aj (zbD C (Sb _ ib) (fun i h _ _=>Sa i h) (by omega) (by omega) (zhk sa (by omega)) hk3 fun p j1 j2 j3 => ?_)
     dsimp only
     simp only [Bo,if_false,Jy] at j2 j3
     have mA:=m.moreA sa (by omega) (d:=na - p) (p:=p) (by omega) (fun i hi g1 g2 y hy=>by
      have h5:=j3 i g1 g2
      rw [zaW (by omega)] at h5
      have h6:=zdL sb (show 0 < nb by omega) (by omega) y hy
      rw [zaq b ib] at h6
      rw [zaq a (by omega)]
      omega)
     have leB:∀ y∈a.toList.take p,rk y<=rk b[nb - 1]:=fun y hy=>by
      obtain ⟨j,hj,g1,e⟩:=zbp hy
      have h5:=j2 j g1
      rw [zaW (by omega)] at h5
      rw [<- e,zaq a (by omega)]
      exact h5
     rw [<- zaN,<- Ch,<- B0] at mA
     refine zan (fun k0 => ?_) (fun k0 => ?_)
     rotate_left
     have mA:=m
     have h12:=h1
     have h12':=h1'
     have h32:=h3
     have e7:p=na:=by omega
     rw [e7] at leB ⊢
     generalize out=out2 at mA ⊢
     generalize na=na2 at mA leB h12 h12' h32 ⊢
     rotate_left
     refine zan (fun e => ?_) (fun e => ?_)
     ·have e:p=0:=by simpa using e
      refine Ao ⟨hL4,.inl ⟨_,rfl,?_⟩⟩
      have:=doneA mA e
      simp only [B0,Ch,zaC] at this ⊢
      exact this
     have e5:¬ p=0:=by simpa using e
     have h12:0 < p:=by omega
     have h12':p<=a.size:=by omega
     have h32:x + 1 + p + nb < a.size + b.size:=by omega
     generalize out ++ (a.extract p na).reverse=out2 at mA ⊢
     generalize na - p=kk at k0 ⊢
     generalize p=na2 at mA leB h12 h12' h32 ⊢
    all_goals
     have mB:=mA.pushB sb (by omega) (by omega) (fun y hy=>by rw [zaq b ib]; exact leB y hy)
     rw [zaq b ib,<- Cc] at mB
     refine Aj (zaG ib ?_)
     refine zan (fun e => ?_) (fun e => ?_)
     ·have e:nb - 1=1:=by simpa using e
      refine Ao ⟨hL4,.inl ⟨_,rfl,?_⟩⟩
      have:=mB.restBA sa sb (fun x hx y hy=>firstB _ e _ x hx y hy)
      simp only [B0,Ch,zaC]
      exact this
     have e8:¬ nb - 1=1:=by simpa using e
     have hia2:na2 - 1 < a.size:=by omega
     refine Aj (zaG hia2 ?_)
     refine Aj (zbD C (Sa _ hia2) (fun i h _ _=>Sb i h) (by omega) (by omega) (zhk sb (by omega)) hk3 fun p2 j4 j5 j6 => ?_)
     dsimp only
     simp only [if_true,Jy] at j5 j6
     have mC:=mB.moreB sb (by omega) (d:=nb - 1 - p2) (p:=p2) (by omega) (fun i hi g1 g2 y hy=>by
      have h5:=j6 i g1 g2
      rw [zaW (by omega)] at h5
      have h6:=zdL sa h12 (by omega) y hy
      rw [zaq a hia2] at h6
      rw [zaq b (by omega)]
      omega)
     have leA:∀ y∈b.toList.take p2,rk y<=rk a[na2 - 1]:=fun y hy=>by
      obtain ⟨j,hj,g1,e⟩:=zbp hy
      have h5:=j5 j g1
      rw [zaW (by omega)] at h5
      rw [<- e,zaq b (by omega)]
      omega
     rw [<- zaN,<- Ch,<- B0] at mC
     refine zan (fun k1 => ?_) (fun k1 => ?_)
     rotate_left
     have mC:=mB
     have h22:1 < nb - 1:=by omega
     have h22':nb - 1<=b.size:=by omega
     have h33:x + 1 + na2 + (nb - 1) < a.size + b.size:=by omega
     have e7:p2=nb - 1:=by omega
     rw [e7] at leA ⊢
     generalize out2.push b[nb - 1]=out3 at mC ⊢
     generalize nb - 1=nb2 at mC leA h22 h22' h33 ⊢
     rotate_left
     refine zan (fun e => ?_) (fun e => ?_)
     ·have e:p2=1:=by simpa using e
      refine Ao ⟨hL4,.inl ⟨_,rfl,?_⟩⟩
      have:=mC.restBA sa sb (fun x hx y hy=>firstB _ e _ x hx y hy)
      simp only [B0,Ch,zaC] at this ⊢
      exact this
     have e5:¬ p2=1:=by simpa using e
     refine zan (fun e => ?_) (fun e => ?_)
     ·have e:p2=0:=by simpa using e
      refine Ao ⟨hL4,.inl ⟨_,rfl,?_⟩⟩
      have:=doneB mC e
      simp only [B0,Ch,zaC] at this ⊢
      exact this
     have e6:¬ p2=0:=by simpa using e
     have h22:1 < p2:=by omega
     have h22':p2<=b.size:=by omega
     have h33:x + 1 + na2 + p2 < a.size + b.size:=by omega
     generalize out2.push b[nb - 1] ++ (b.extract p2 (nb - 1)).reverse=out3 at mC ⊢
     generalize nb - 1 - p2=kk2 at k1 ⊢
     generalize p2=nb2 at mC leA h22 h22' h33 ⊢
    all_goals
     have mD:=mC.pushA sa h12 (by omega) (fun y hy=>by rw [zaq a hia2]; exact leA y hy)
     rw [zaq a hia2,<- Cc] at mD
     refine Aj (zaG hia2 ?_)
     refine zan (fun e => ?_) (fun e => ?_)
     ·have e:na2 - 1=0:=by simpa using e
      refine Ao ⟨hL4,.inl ⟨_,rfl,?_⟩⟩
      have:=doneA mD e
      simp only [B0,Ch,zaC] at this ⊢
      exact this
     have e9:¬ na2 - 1=0:=by simpa using e
     exact zan (fun _=>Ao ⟨hL4,.inr ⟨_,_,_,_,_,_,rfl,mD,by omega,by omega,h22,h22',by omega⟩⟩) (fun _=>Ao ⟨hL4,_,_,_,_,_,_,rfl,mD,by omega,by omega,h22,h22',by omega⟩)
end
theorem za2 {rk:Ay->Int} {xs ys:Array Ay} {i j:Nat} (h:xs[i]?=ys[j]?):kAt rk xs i=kAt rk ys j:=by unfold kAt; rw [h]
theorem zcM {rk:Ay->Int} {xs:Array Ay} {i j:Nat} (hj:j<=xs.size) (k:Nat):kAt rk (mirror xs i j ((j - i) / 2)) k=if i<=k/\k < j then kAt rk xs (i + j - 1 - k) else kAt rk xs k:=by
 have e:=O4 (i:=i) hj k
 by_cases h:i<=k/\k < j
 ·rw [if_pos h] at e ⊢; exact za2 e
 ·rw [if_neg h] at e ⊢; exact za2 e
theorem zbr {rk:Ay->Int} {xs:Array Ay} {i j:Nat} (hj:j<=xs.size) (h:∀ k,i<=k->k < j->kAt rk xs k=kAt rk xs (j - 1)) (k:Nat):kAt rk (mirror xs i j ((j - i) / 2)) k=kAt rk xs k:=by
 rw [zcM hj]
 by_cases e:i<=k/\k < j
 ·rw [if_pos e,h _ (by omega) (by omega),h k e.1 e.2]
 ·rw [if_neg e]
theorem zdY {rk:Ay->Int} {xs:Array Ay} {src d:Nat} (hs:src < xs.size) (hd:d<=src) (k:Nat):kAt rk (bubble xs src d) k=if k=src - d then kAt rk xs src else if src - d < k/\k<=src then kAt rk xs (k - 1) else kAt rk xs k:=by
 have e:=Pe hs d hd k
 by_cases h:k=src - d
 ·rw [if_pos h] at e ⊢; exact za2 e
 ·rw [if_neg h] at e ⊢
  by_cases h2:src - d < k/\k<=src
  ·rw [if_pos h2] at e ⊢; exact za2 e
  ·rw [if_neg h2] at e ⊢; exact za2 e
structure Chg (lo hi:Nat) (st st':Bu):Prop where
 kind:kindOf st'=kindOf st
 pend:pendingOf st'=pendingOf st
 fail:failedOf st'=failedOf st
 perm:(arrOf st').Perm (arrOf st)
 out:∀ i,(i < lo\/hi<=i)->(arrOf st')[i]?=(arrOf st)[i]?
theorem Chg.refl {lo hi:Nat} (st:Bu):Chg lo hi st st:=⟨rfl,rfl,rfl,G5 _,fun _ _=>rfl⟩
theorem Chg.size {lo hi:Nat} {st st':Bu} (h:Chg lo hi st st'):(arrOf st').size=(arrOf st).size:=h.perm.size_eq
theorem Chg.trans {lo hi:Nat} {a b c:Bu} (h:Chg lo hi a b) (k:Chg lo hi b c):Chg lo hi a c:=⟨k.kind.trans h.kind,k.pend.trans h.pend,k.fail.trans h.fail,k.perm.trans h.perm,fun i hi=>(k.out i hi).trans (h.out i hi)⟩
theorem Chg.wide {lo hi lo' hi':Nat} {a b:Bu} (h:Chg lo hi a b) (h1:lo'<=lo) (h2:hi<=hi'):Chg lo' hi' a b:=⟨h.kind,h.pend,h.fail,h.perm,fun i hi=>h.out i (by omega)⟩
theorem Chg.mirror {lo hi i j:Nat} {st st':Bu} (h:Chg lo hi st st') (hi':lo<=i) (hj:j<=hi) (hs:j<=(arrOf st').size):Chg lo hi st (setArr st' (mirror (arrOf st') i j ((j - i) / 2))) :=
 h.trans ⟨rfl,rfl,rfl,mirror_perm _ _ _ _,fun k hk=>by
  show (Pw (arrOf st') i j ((j - i) / 2))[k]?=_
  rw [O4 hs,if_neg (by omega)]⟩
theorem Chg.bubble {lo hi src d:Nat} {st st':Bu} (h:Chg lo hi st st') (h1:lo + d<=src) (h2:src < hi) (hs:src < (arrOf st').size):Chg lo hi st (setArr st' (bubble (arrOf st') src d)) :=
 h.trans ⟨rfl,rfl,rfl,bubble_perm _ _ _,fun k hk=>by
  show (Py (arrOf st') src d)[k]?=_
  rw [Pe hs _ (by omega),if_neg (by omega),if_neg (by omega)]⟩
theorem zb8 {S:Ay->Prop} {a b:Array Ay} (p:b.Perm a) (h:∀ x∈a.toList,S x):∀ x∈b.toList,S x:=fun x hx=>h x ((Gr.mp p).mem_iff.mp hx)
theorem zhh {S:Ay->Prop} {a:Array Ay} (h:∀ x∈a.toList,S x) (i:Nat) (hi:i < a.size):S a[i]:=h _ (by simp)
theorem Up2.more {rk:Ay->Int} {arr:Array Ay} {lo hi:Nat} (u:Up2 rk arr lo hi) (h:lo < hi) (e:kAt rk arr (hi - 1)<=kAt rk arr hi):Up2 rk arr lo (hi + 1):=fun i j h1 h2 h3=>by
 by_cases ej:j=hi
 ·by_cases ei:i=hi
  ·rw [ei,ej]; exact Dg _
  ·have:=u i (hi - 1) h1 (by omega) (by omega)
   rw [ej]; omega
 ·exact u i j h1 h2 (by omega)
noncomputable def Dn2 (rk:Ay->Int) (arr:Array Ay) (lo hi:Nat):Prop:=∀ i j,lo<=i->i<=j->j < hi->kAt rk arr j<=kAt rk arr i
theorem Dn2.more {rk:Ay->Int} {arr:Array Ay} {lo hi:Nat} (u:Dn2 rk arr lo hi) (h:lo < hi) (e:kAt rk arr hi<=kAt rk arr (hi - 1)):Dn2 rk arr lo (hi + 1):=fun i j h1 h2 h3=>by
 by_cases ej:j=hi
 ·by_cases ei:i=hi
  ·rw [ei,ej]; exact Dg _
  ·have:=u i (hi - 1) h1 (by omega) (by omega)
   rw [ej]; omega
 ·exact u i j h1 h2 (by omega)
theorem Dn2.like {rk:Ay->Int} {arr arr':Array Ay} {lo hi:Nat} (u:Dn2 rk arr lo hi) (h:∀ k,kAt rk arr' k=kAt rk arr k):Dn2 rk arr' lo hi:=fun i j h1 h2 h3=>by
 rw [h,h]; exact u i j h1 h2 h3
section
variable {prog:Aq} {w:Bj} {A:Bb} {E:A0->A3->Prop} {s:A3} {kd:F3} {S:Ay->Prop} {rk:Ay->Int}
theorem zgP (C:Ranks prog w A E s kd S rk) {i j:Nat} {st:Bu} {Q:Option Bool->Bu->Prop} (hS:∀ x∈(arrOf st).toList,S x) (hk:kindOf st=kd) (hi:i < (arrOf st).size) (hj:j < (arrOf st).size) (q:Q (some (decide (kAt rk (arrOf st) i < kAt rk (arrOf st) j))) st):wpS (model prog w) A E s (ltAt' i j) Q st:=by
 rw [ltAt'_eq]
 refine Aj (Hd (Aj (zaG hi (Aj (zaG hj (C.ask (zhh hS i hi) (zhh hS j hj) hk ?_))))))
 rw [zaW hi,zaW hj] at q
 exact q
theorem zhg (C:Ranks prog w A E s kd S rk) {st:Bu} {lo a nrem:Nat} (hS:∀ x∈(arrOf st).toList,S x) (hk:kindOf st=kd) (hn:lo + nrem<=(arrOf st).size) (ha:1<=a) (han:a<=nrem) (u:Up2 rk (arrOf st) lo (lo + a)) {F:Nat->Option (Option Nat)×Nat->StateT Bu Sem (ForInStep (Option (Option Nat)×Nat))}
  (f:∀ x n R,lo + n < (arrOf st).size->1<=n->(if kAt rk (arrOf st) (lo + n) < kAt rk (arrOf st) (lo + n - 1) then R (Qx (none,n)) st else R (Dy (none,n + 1)) st)->wpS (model prog w) A E s (F x (none,n)) R st) :
  wpS (model prog w) A E s (forIn [a:nrem] (none,a) F) (fun c st'=>st'=st/\∃ n,c=(none,n)/\a<=n/\n<=nrem/\Up2 rk (arrOf st) lo (lo + n)/\(n=nrem\/kAt rk (arrOf st) (lo + n) < kAt rk (arrOf st) (lo + n - 1))) st:=by
 refine Cz (I:=fun x c st'=>st'=st/\c=(none,x)/\Up2 rk (arrOf st) lo (lo + x)) ?step ?fin ⟨rfl,rfl,u⟩
 case fin =>
  rintro c st' ⟨rfl,rfl,u'⟩
  rw [show max a nrem=nrem by omega] at u' ⊢
  exact ⟨rfl,nrem,rfl,han,Ac _,u',.inl rfl⟩
 case step =>
  rintro x c st' hax hxn ⟨rfl,rfl,u'⟩
  refine f x x _ (by omega) (by omega) ?_
  by_cases hl:kAt rk (arrOf st') (lo + x) < kAt rk (arrOf st') (lo + x - 1)
  ·rw [if_pos hl]
   exact ⟨rfl,x,rfl,hax,by omega,u',.inr hl⟩
  ·rw [if_neg hl]
   exact ⟨rfl,rfl,by have:=u'.more (by omega) (by omega); rwa [show lo + x + 1=lo + (x + 1) by omega] at this⟩
theorem countRun_ok (C:Ranks prog w A E s kd S rk) {st:Bu} {lo nrem:Nat} {Q:Option Nat->Bu->Prop} (hS:∀ x∈(arrOf st).toList,S x) (hk:kindOf st=kd) (hn:lo + nrem<=(arrOf st).size) (h1:1<=nrem)
  (q:∀ m st',Chg lo (lo + nrem) st st'->1<=m->m<=nrem->Up2 rk (arrOf st') lo (lo + m)->Q (some m) st'):wpS (model prog w) A E s (countRun' lo nrem) Q st:=by
 rw [countRun'_eq]
 have asc1:∀ {st1:Bu},Chg lo (lo + nrem) st st1->∀ {i j:Nat} {R:Option Bool->Bu->Prop},i < (arrOf st).size->j < (arrOf st).size->R (some (decide (kAt rk (arrOf st1) i < kAt rk (arrOf st1) j))) st1->wpS (model prog w) A E s (ltAt' i j) R st1:=fun {st1} c i j R hi hj r =>
  zgP C (zb8 c.perm hS) (c.kind.trans hk) (by rw [c.size]; exact hi) (by rw [c.size]; exact hj) r
 refine Aj (E5 (zhg C hS hk hn (Ac 1) h1 (fun i j a b c=>by rw [show i=j by omega]; exact Dg _) fun x n R b1 b2 r => ?_) ?_)
 ·refine Aj (asc1 (Chg.refl st) (by omega) (by omega) ?_)
  dsimp only
  refine zan (fun e => ?_) (fun e => ?_)
  ·rw [if_pos (by simpa using e)] at r; exact Ao r
  ·rw [if_neg (by simpa using e)] at r; exact Ao r
 rintro ⟨r,n⟩ st0 ⟨e0,n',e,hn1,hn2,u,hor⟩
 cases e
 rw [e0]
 clear e0 st0
 dsimp only
 refine zan (fun e=>Ao (q n _ (Chg.refl _) hn1 hn2 u)) (fun e => ?_)
 have e:¬ n=nrem:=by simpa using e
 have hlt:=hor.resolve_left e
 refine zan (fun g => ?_) (fun g => ?_)
 refine Aj (asc1 (Chg.refl st) (by omega) (by omega) ?_)
 dsimp only
 refine zan (fun _=>Ao (q n _ (Chg.refl _) hn1 hn2 u)) (fun ng => ?_)
 have ng:kAt rk (arrOf st) (lo + n - 1)<=kAt rk (arrOf st) lo:=by simpa using ng
 have all:∀ k,lo<=k->k < lo + n->kAt rk (arrOf st) k=kAt rk (arrOf st) (lo + n - 1):=fun k a b=>by
  have a1:=u lo k (Ac _) a b
  have a2:=u k (lo + n - 1) a (by omega) (by omega)
  omega
 refine Aj (L9 ?_)
 have c1:=(Chg.refl (lo:=lo) (hi:=lo + nrem) st).mirror (i:=lo) (j:=lo + n) (Ac _) (by omega) (by omega)
 have d1:Dn2 rk (arrOf (setArr st (mirror (arrOf st) lo (lo + n) ((lo + n - lo) / 2)))) lo (lo + (n + 1)):=by
  refine Dn2.like (arr:=arrOf st) ?_ (zbr (by omega) all)
  have d0:Dn2 rk (arrOf st) lo (lo + n):=fun i j a b c=>by rw [all i a (by omega),all j (by omega) c]; exact Dg _
  exact d0.more (by omega) (by omega)
 generalize setArr st (mirror (arrOf st) lo (lo + n) ((lo + n - lo) / 2))=st1 at c1 d1 ⊢
 rotate_left
 have c1:=Chg.refl (lo:=lo) (hi:=lo + nrem) st
 have d1:Dn2 rk (arrOf st) lo (lo + (n + 1)):=by
  have d0:Dn2 rk (arrOf st) lo (lo + n):=fun i j a b c=>by rw [show i=j by omega]; exact Dg _
  exact d0.more (by omega) (by omega)
 obtain ⟨st1,hh⟩:∃ st1,st1=st:=⟨_,rfl⟩
 have c1:Chg lo (lo + nrem) st st1:=by rw [hh]; exact c1
 have d1:Dn2 rk (arrOf st1) lo (lo + (n + 1)):=by rw [hh]; exact d1
 rw [<- hh]
 clear hh
 all_goals
  refine Aj (Iu (Gh ⟨rfl,?_⟩))
  refine Aj (E5 (Cz (I:=fun x c st'=>∃ neq,c=(none,x,neq)/\Chg lo (lo + nrem) st st'/\Dn2 rk (arrOf st') lo (lo + x)/\neq + 1<=x/\∀ i,lo + x - (neq + 1)<=i->i < lo + x->kAt rk (arrOf st') i=kAt rk (arrOf st') (lo + x - 1))
   (Q:=fun c st'=>∃ m neq,c=(none,m,neq)/\Chg lo (lo + nrem) st st'/\n + 1<=m/\m<=nrem/\Dn2 rk (arrOf st') lo (lo + m)/\neq + 1<=m/\∀ i,lo + m - (neq + 1)<=i->i < lo + m->kAt rk (arrOf st') i=kAt rk (arrOf st') (lo + m - 1)) ?step ?fin ⟨0,rfl,c1,d1,by omega,fun i a b=>by congr 1; omega⟩) ?post)
  case fin =>
   rintro c st' ⟨neq,rfl,a1,a2,a3,a4⟩
   rw [show max (n + 1) nrem=nrem by omega] at a2 a3 a4 ⊢
   exact ⟨nrem,neq,rfl,a1,by omega,Ac _,a2,a3,a4⟩
  case step =>
   rintro x c st' hx1 hx2 ⟨neq,rfl,a1,a2,a3,a4⟩
   dsimp only
   have sz:=a1.size
   refine Aj (asc1 a1 (by omega) (by omega) ?_)
   dsimp only
   refine zan (fun e1 => ?_) (fun e1 => ?_)
   ·have e1:kAt rk (arrOf st') (lo + x) < kAt rk (arrOf st') (lo + x - 1):=by simpa using e1
    have d2:Dn2 rk (arrOf st') lo (lo + (x + 1)):=a2.more (by omega) (by omega)
    refine zan (fun e2=>Aj (L9 (Ao ?_))) (fun e2=>Ao ?_)
    ·exact ⟨0,rfl,a1.mirror (by omega) (by omega) (by omega),d2.like (zbr (by omega) a4),by omega,fun i a b=>by congr 1; omega⟩
    ·exact ⟨0,rfl,a1,d2,by omega,fun i a b=>by congr 1; omega⟩
   ·have e1:kAt rk (arrOf st') (lo + x - 1)<=kAt rk (arrOf st') (lo + x):=by simpa using e1
    refine Aj (asc1 a1 (by omega) (by omega) ?_)
    dsimp only
    refine zan (fun e2=>Ao ?_) (fun e2=>Ao ?_)
    ·exact ⟨x,neq,rfl,a1,hx1,by omega,a2,a3,a4⟩
    ·have e2:kAt rk (arrOf st') (lo + x)<=kAt rk (arrOf st') (lo + x - 1):=by simpa using e2
     refine ⟨neq + 1,rfl,a1,a2.more (by omega) e2,by omega,fun i a b => ?_⟩
     rw [show lo + (x + 1) - 1=lo + x by omega]
     by_cases ei:i=lo + x
     ·rw [ei]
     ·rw [a4 i (by omega) (by omega)]; omega
  case post =>
   rintro ⟨r,m,neq⟩ st' ⟨m',neq',e2,a1,am,am2,a2,a3,a4⟩
   cases e2
   dsimp only
   have sz:=a1.size
   refine zan (fun g2 => ?_) (fun g2 => ?_)
   refine Aj (L9 ?_)
   have a5:=a1.mirror (i:=lo + m - (neq + 1)) (j:=lo + m) (by omega) (by omega) (by omega)
   have a6:Dn2 rk (arrOf (setArr st' (mirror (arrOf st') (lo + m - (neq + 1)) (lo + m) ((lo + m - (lo + m - (neq + 1))) / 2)))) lo (lo + m):=a2.like (zbr (by omega) a4)
   generalize setArr st' (mirror (arrOf st') (lo + m - (neq + 1)) (lo + m) ((lo + m - (lo + m - (neq + 1))) / 2))=st2 at a5 a6 ⊢
   rotate_left
   have a5:=a1
   have a6:=a2
   clear a1 a2 a3 a4
   generalize st'=st2 at a5 a6 ⊢
   all_goals
    have sz2:=a5.size
    have a7:=a5.mirror (i:=lo) (j:=lo + m) (Ac _) (by omega) (by omega)
    have a8:Up2 rk (arrOf (setArr st2 (mirror (arrOf st2) lo (lo + m) ((lo + m - lo) / 2)))) lo (lo + m):=fun i j b1 b2 b3=>by
     show kAt rk (mirror (arrOf st2) lo (lo + m) ((lo + m - lo) / 2)) i<=kAt rk (mirror (arrOf st2) lo (lo + m) ((lo + m - lo) / 2)) j
     rw [zcM (by omega),zcM (by omega),if_pos (by omega),if_pos (by omega)]
     exact a6 _ _ (by omega) (by omega) (by omega)
    refine Aj (L9 ?_)
    generalize setArr st2 (mirror (arrOf st2) lo (lo + m) ((lo + m - lo) / 2))=st3 at a7 a8 ⊢
    have sz3:=a7.size
    refine Aj (E5 (zhg C (zb8 a7.perm hS) (a7.kind.trans hk) (by omega) (show 1<=m by omega) (by omega) a8 fun x n R b1 b2 r => ?_) ?_)
    ·refine Aj (asc1 a7 (by omega) (by omega) ?_)
     dsimp only
     refine zan (fun e => ?_) (fun e => ?_)
     ·rw [if_pos (by simpa using e)] at r; exact Ao r
     ·rw [if_neg (by simpa using e)] at r; exact Ao r
    rintro ⟨r,k⟩ st4 ⟨e0,k',ek,b1,b2,b3,_⟩
    cases ek
    rw [e0]
    exact Ao (q k _ a7 (by omega) b2 b3)
theorem binSort_ok (C:Ranks prog w A E s kd S rk) {st:Bu} {lo n ok:Nat} {Q:Bool->Bu->Prop} (hS:∀ x∈(arrOf st).toList,S x) (hk:kindOf st=kd) (hn:lo + n<=(arrOf st).size) (hok:ok<=n) (u:Up2 rk (arrOf st) lo (lo + ok))
  (q:∀ st',Chg lo (lo + n) st st'->Up2 rk (arrOf st') lo (lo + n)->Q true st'):wpS (model prog w) A E s (binarySort' lo n ok) Q st:=by
 rw [binarySort'_eq]
 refine Aj (E5 (Cz (I:=fun k c st'=>c=(none,())/\Chg lo (lo + n) st st'/\Up2 rk (arrOf st') lo (lo + min k n)) (Q:=fun c st'=>c=(none,())/\Chg lo (lo + n) st st'/\Up2 rk (arrOf st') lo (lo + n)) ?step ?fin ?init) ?post)
 case post =>
  rintro c st' ⟨rfl,a,b⟩
  exact Ao (q st' a b)
 case init =>
  refine ⟨rfl,Chg.refl _,fun i j a b c => ?_⟩
  by_cases h1:ok=0
  ·rw [show i=j by omega]; exact Dg _
  ·exact u i j a b (by omega)
 case fin =>
  rintro c st' ⟨rfl,a,b⟩
  refine ⟨rfl,a,?_⟩
  rwa [show min (max (max ok 1) n) n=n by omega] at b
 case step =>
  rintro k c st' hk1 hk2 ⟨rfl,a,b⟩
  rw [show min k n=k by omega] at b
  have sz:=a.size
  refine Aj (E5 (Cz (I:=fun x c st''=>st''=st'/\∃ l r,c=(none,l,r)/\l<=r/\r<=k/\r - l<=k - x/\(∀ i,i < l->kAt rk (arrOf st') (lo + i)<=kAt rk (arrOf st') (lo + k))/\(∀ i,r<=i->i < k->kAt rk (arrOf st') (lo + k) < kAt rk (arrOf st') (lo + i)))
   (Q:=fun c st''=>st''=st'/\∃ l r,c=(none,l,r)/\l<=k/\(∀ i,i < l->kAt rk (arrOf st') (lo + i)<=kAt rk (arrOf st') (lo + k))/\(∀ i,l<=i->i < k->kAt rk (arrOf st') (lo + k) < kAt rk (arrOf st') (lo + i))) ?istep ?ifin ⟨rfl,0,k,rfl,by omega,by omega,by omega,fun i hi=>by omega,fun i h1 h2=>by omega⟩) ?ipost)
  case ifin =>
   rintro c st'' ⟨rfl,l,r,rfl,b1,b2,b3,b4,b5⟩
   exact ⟨rfl,l,r,rfl,by omega,b4,fun i h1 h2=>b5 i (by omega) h2⟩
  case istep =>
   rintro x c st'' _ hx ⟨rfl,l,r,rfl,b1,b2,b3,b4,b5⟩
   dsimp only
   refine zan (fun e=>Ao ⟨rfl,l,r,rfl,by omega,b4,fun i h1 h2=>b5 i (by omega) h2⟩) (fun e => ?_)
   refine Aj (zgP C (zb8 a.perm hS) (a.kind.trans hk) (by omega) (by omega) ?_)
   dsimp only
   refine zan (fun e1=>Ao ?_) (fun e1=>Ao ?_)
   ·have e1:kAt rk (arrOf st'') (lo + k) < kAt rk (arrOf st'') (lo + (l + r) / 2):=by simpa using e1
    refine ⟨rfl,l,(l + r) / 2,rfl,by omega,by omega,by omega,b4,fun i h1 h2 => ?_⟩
    have:=b (lo + (l + r) / 2) (lo + i) (by omega) (by omega) (by omega)
    omega
   ·have e1:kAt rk (arrOf st'') (lo + (l + r) / 2)<=kAt rk (arrOf st'') (lo + k):=by simpa using e1
    refine ⟨rfl,(l + r) / 2 + 1,r,rfl,by omega,by omega,by omega,fun i h1 => ?_,b5⟩
    have:=b (lo + i) (lo + (l + r) / 2) (by omega) (by omega) (by omega)
    omega
  case ipost =>
   rintro ⟨r0,l,r⟩ st'' ⟨e0,l',r',e,b2,b4,b5⟩
   cases e
   rw [e0]
   dsimp only
   rw [moveDown'_eq]
   refine Aj (K6 (Ao ⟨rfl,a.bubble (by omega) (by omega) (by omega),?_⟩))
   rw [show min (k + 1) n=k + 1 by omega]
   intro i j h1 h2 h3
   show kAt rk (bubble (arrOf st') (lo + k) (lo + k - (lo + l))) i<=kAt rk (bubble (arrOf st') (lo + k) (lo + k - (lo + l))) j
   rw [zdY (by omega) (by omega),zdY (by omega) (by omega),show lo + k - (lo + k - (lo + l))=lo + l by omega]
   by_cases e1:i=lo + l
   ·rw [if_pos e1]
    by_cases e2:j=lo + l
    ·rw [if_pos e2]; exact Dg _
    ·rw [if_neg e2,if_pos (by omega)]
     have:=b5 (j - 1 - lo) (by omega) (by omega)
     rw [show lo + (j - 1 - lo)=j - 1 by omega] at this
     omega
   ·rw [if_neg e1]
    by_cases e3:lo + l < i/\i<=lo + k
    ·rw [if_pos e3,if_neg (by omega),if_pos (by omega)]
     exact b _ _ (by omega) (by omega) (by omega)
    ·rw [if_neg e3]
     by_cases e2:j=lo + l
     ·rw [if_pos e2]
      have:=b4 (i - lo) (by omega)
      rwa [show lo + (i - lo)=i by omega] at this
     ·rw [if_neg e2]
      by_cases e4:lo + l < j/\j<=lo + k
      ·rw [if_pos e4]
       exact b _ _ (by omega) (by omega) (by omega)
      ·rw [if_neg e4]
       exact b _ _ (by omega) (by omega) (by omega)
end
theorem wpS_setSt {M:Hv} {A:Bb} {E:A0->A3->Prop} {s:A3} {σ : Type} {x : σ} {Q:PUnit -> σ -> Prop} {st : σ} (h:Q ⟨⟩ x):wpS M A E s (set x:StateT σ Sem PUnit) Q st:=by
 unfold wpS; rw [StateT.run_set]; exact Ae ⟨rfl,h⟩
theorem wpS_setLike {M:Hv} {A:Bb} {E:A0->A3->Prop} {s:A3} {x:Bu} {Q:PUnit->Bu->Prop} {st:Bu} (h:∀ st',kindOf st'=kindOf x->arrOf st'=arrOf x->pendingOf st'=pendingOf x->failedOf st'=failedOf x->Q ⟨⟩ st'):wpS M A E s (set x:StateT Bu Sem PUnit) Q st:=wpS_setSt (h x rfl rfl rfl rfl)
noncomputable abbrev seg (l:List Ay) (lo n:Nat):List Ay:=(l.drop lo).take n
theorem mem_seg {l:List Ay} {lo n:Nat} {y:Ay} (h:y∈seg l lo n):∃ j,∃ hj:j < l.length,lo<=j/\j < lo + n/\l[j]=y:=by
 obtain ⟨j,hj,h1,e⟩:=zbp h
 rw [G7] at hj
 rw [Jr] at e
 exact ⟨lo + j,by omega,by omega,by omega,e⟩
theorem seg_split (l:List Ay) (lo m n:Nat):seg l lo (m + n)=seg l lo m ++ seg l (lo + m) n:=by
 unfold seg
 rw [Ol,Kx]
theorem seg_whole (l:List Ay) (lo n:Nat):l=l.take lo ++ seg l lo n ++ l.drop (lo + n):=by
 unfold seg
 conv=>lhs; rw [<- C6 lo l,<- C6 n (l.drop lo)]
 rw [Kx,As]
theorem zd8 {rk:Ay->Int} {arr:Array Ay} {lo hi:Nat} (u:Up2 rk arr lo hi) (h:hi<=arr.size):Srt rk (seg arr.toList lo (hi - lo)):=by
 refine D7.mpr fun i j hi1 hj hij => ?_
 have l1:(seg arr.toList lo (hi - lo)).length<=hi - lo:=List.length_take_le _ _
 have:=u (lo + i) (lo + j) (by omega) (by omega) (by omega)
 rw [zaW (by omega),zaW (by omega)] at this
 simpa [seg,He,Jr] using this
theorem up_seg {rk:Ay->Int} {arr:Array Ay} {P L R:List Ay} (e:arr.toList=P ++ L ++ R) (s:Srt rk L):Up2 rk arr P.length (P.length + L.length):=by
 have hz:arr.size=P.length + L.length + R.length:=by
  rw [<- Au,e,Ag,Ag]
 intro i j h1 h2 h3
 have g:∀ k (hk:P.length<=k) (hk2:k < P.length + L.length),kAt rk arr k=rk (L[k - P.length]'(by omega)):=fun k hk hk2=>by
  rw [zaW (by omega),<- zaq arr (by omega)]
  congr 1
  have:arr.toList[k]?=some (L[k - P.length]'(by omega)):=by
   rw [e,Dq (by rw [Ag]; omega),Dm hk,A8 (by omega)]
  rw [A8 (by rw [Au]; omega)] at this
  exact Bh this
 rw [g i h1 (by omega),g j (by omega) h3]
 by_cases eij:i=j
 ·subst eij; exact Dg _
 ·exact D7.mp s _ _ (by omega) (by omega) (by omega)
theorem ze9 (base:Nat):∀ (l:List Ay) (n:Nat) (arr:Array Ay),base + n + l.length<=arr.size ->
  ((l.zipIdx n).foldl (fun (a:Array Ay) (x:Ay×Nat)=>a.setIfInBounds (base + x.2) x.1) arr).toList=arr.toList.take (base + n) ++ l ++ arr.toList.drop (base + n + l.length)
 | [],n,arr,h=>by simp
 | x :: l,n,arr,h=>by
  rw [At] at h
  rw [List.zipIdx_cons,Iq,ze9 base l (n + 1) _ (by rw [Array.size_setIfInBounds]; omega)]
  dsimp only
  rw [Kt]
  have hb:base + n < arr.toList.length:=by rw [Au]; omega
  have e1:(arr.toList.set (base + n) x).take (base + (n + 1))=arr.toList.take (base + n) ++ [x]:=by
   rw [show base + (n + 1)=base + n + 1 by omega,Cw (by rw [O2]; exact hb),List.getElem_set_self,List.take_set_of_le (Ac _)]
  have e2:(arr.toList.set (base + n) x).drop (base + (n + 1) + l.length)=arr.toList.drop (base + n + (x :: l).length):=by
   rw [List.drop_set_of_lt (by omega),At]
   congr 1; omega
  rw [e1,e2]
  simp
noncomputable abbrev Pend:=Array (Nat×Nat×Nat)
theorem pend_at {p:Pend} {pre post:List (Nat×Nat×Nat)} {x y:Nat×Nat×Nat} (e:p.toList=pre ++ x :: y :: post):p[pre.length]?=some x/\p[pre.length + 1]?=some y:=by
 constructor
 ·rw [<- Ck,e]; simp
 ·rw [<- Ck,e]; simp
theorem pend_new {p:Pend} {pre post:List (Nat×Nat×Nat)} {x y z:Nat×Nat×Nat} (e:p.toList=pre ++ x :: y :: post):((p.setIfInBounds pre.length z).eraseIdxIfInBounds (pre.length + 1)).toList=pre ++ z :: post:=by
 rw [Array.toList_eraseIdxIfInBounds,Kt,e]
 simp [List.eraseIdx_append_of_length_le]
theorem back_out {arr arr':Array Ay} {b:Nat} {M:List Ay} (e:arr'.toList=arr.toList.take b ++ M ++ arr.toList.drop (b + M.length)) (h:b + M.length<=arr.size):∀ i,(i < b\/b + M.length<=i)->arr'[i]?=arr[i]?:=fun i hi=>by
 rw [<- Ck,<- Ck,e]
 have lb:(arr.toList.take b).length=b:=by rw [Cq,Au]; omega
 rcases hi with z | z
 ·rw [Dq (by rw [Ag]; omega),Dq (by omega),Lh z]
 ·rw [Dm (by rw [Ag]; omega),List.getElem?_drop,Ag,lb]
  congr 1; omega
theorem zcF {M:Hv} {A:Bb} {E:A0->A3->Prop} {s:A3} {f:Bu->Bu} {Q:PUnit->Bu->Prop} {st:Bu} (h:∀ st',kindOf st'=kindOf (f st)->arrOf st'=arrOf (f st)->pendingOf st'=pendingOf (f st)->failedOf st'=failedOf (f st)->Q ⟨⟩ st'):wpS M A E s (modify f:StateT Bu Sem PUnit) Q st:=K6 (h _ rfl rfl rfl rfl)
section
variable {prog:Aq} {w:Bj} {A:Bb} {E:A0->A3->Prop} {s:A3} {kd:F3} {S:Ay->Prop} {rk:Ay->Int}
structure Mrg (rk:Ay->Int) (lo hi:Nat) (st st':Bu) (p':List (Nat×Nat×Nat)):Prop where
 kind:kindOf st'=kindOf st
 fail:failedOf st'=failedOf st
 pend:(pendingOf st').toList=p'
 perm:(arrOf st').Perm (arrOf st)
 out:∀ i,(i < lo\/hi<=i)->(arrOf st')[i]?=(arrOf st)[i]?
 up:Up2 rk (arrOf st') lo hi
theorem mergeAt_ok (C:Ranks prog w A E s kd S rk) {st:Bu} {sa na p1 nb p2:Nat} {pre post:List (Nat×Nat×Nat)} {Q:Bool->Bu->Prop} (hS:∀ x∈(arrOf st).toList,S x) (hk:kindOf st=kd) (hf:failedOf st=none) (hp:(pendingOf st).toList=pre ++ (sa,na,p1) :: (sa + na,nb,p2) :: post) (h1:0 < na) (h2:0 < nb) (hz:sa + na + nb<=(arrOf st).size) (ua:Up2 rk (arrOf st) sa (sa + na)) (ub:Up2 rk (arrOf st) (sa + na) (sa + na + nb))
  (q:∀ st',Mrg rk sa (sa + na + nb) st st' (pre ++ (sa,na + nb,p1) :: post)->Q true st'):wpS (model prog w) A E s (mergeAt' pre.length) Q st:=by
 obtain ⟨g1,g2⟩:=pend_at hp
 have hn:=pend_new (z:=(sa,na + nb,p1)) hp
 refine Aj (Hd ?_)
 dsimp only
 unfold pendingOf at g1 g2
 rw [g1,g2]
 dsimp only
 refine Aj (wpS_setLike fun st1 k1 a1 q1 f1 => ?_)
 have k1:kindOf st1=kindOf st:=k1
 have a1:arrOf st1=arrOf st:=a1
 have f1:failedOf st1=failedOf st:=f1
 have q1:(pendingOf st1).toList=pre ++ (sa,na + nb,p1) :: post:=by rw [q1]; exact hn
 have hk1:kindOf st1=kd:=k1.trans hk
 have same:Up2 rk (arrOf st) sa (sa + na + nb)->Q true st1:=fun u=>q st1 ⟨k1,f1,q1,a1 ▸ G5 _,fun i _=>by rw [a1],by rw [a1]; exact u⟩
 have hA:=zhh hS
 have i1:sa + na < (arrOf st).size:=by omega
 refine Aj (zaG i1 ?_)
 refine Aj (zbD C (arr:=arrOf st) (hA _ i1) (fun i h _ _=>hA i h) (by omega) (by omega) ua hk1 fun k j1 j2 j3 => ?_)
 dsimp only
 simp only [Bo,if_false,<- zaW (rk:=rk) i1] at j2 j3
 refine zan (fun e=>Ao (same ?_)) (fun e => ?_)
 ·have e:na - k=0:=by simpa using e
  intro i j b1 b2 b3
  by_cases e1:j < sa + na
  ·exact ua i j b1 b2 e1
  by_cases e2:sa + na<=i
  ·exact ub i j e2 b2 b3
  have a2:=j2 (i - sa) (by omega)
  rw [show sa + (i - sa)=i by omega] at a2
  have a3:=ub (sa + na) j (Ac _) (by omega) b3
  omega
 have e:¬ na - k=0:=by simpa using e
 have hidx:sa + k + (na - k) - 1=sa + na - 1:=by omega
 rw [hidx]
 have i2:sa + na - 1 < (arrOf st).size:=by omega
 refine Aj (zaG i2 ?_)
 refine Aj (zbD C (arr:=arrOf st) (hA _ i2) (fun i h _ _=>hA i h) (by omega) (by omega) ub hk1 fun m j4 j5 j6 => ?_)
 dsimp only
 simp only [if_true,<- zaW (rk:=rk) i2] at j5 j6
 refine zan (fun e0=>Ao (same ?_)) (fun e0 => ?_)
 ·have e0:m=0:=by simpa using e0
  intro i j b1 b2 b3
  by_cases e1:j < sa + na
  ·exact ua i j b1 b2 e1
  by_cases e2:sa + na<=i
  ·exact ub i j e2 b2 b3
  have a2:=j6 (j - (sa + na)) (by omega) (by omega)
  rw [show sa + na + (j - (sa + na))=j by omega] at a2
  have a3:=ua i (sa + na - 1) b1 (by omega) (by omega)
  omega
 have e0:¬ m=0:=by simpa using e0
 have lL:(arrOf st).toList.length=(arrOf st).size:=Au
 have xl:((arrOf st).extract (sa + k) (sa + na)).toList=seg (arrOf st).toList (sa + k) (na - k):=by rw [zaN,show sa + na - (sa + k)=na - k by omega]
 have yl:((arrOf st).extract (sa + na) (sa + na + m)).toList=seg (arrOf st).toList (sa + na) m:=by rw [zaN,C5]
 have xs:((arrOf st).extract (sa + k) (sa + na)).size=na - k:=by rw [Mx]; omega
 have ys:((arrOf st).extract (sa + na) (sa + na + m)).size=m:=by rw [Mx]; omega
 have srtX:Srt rk (seg (arrOf st).toList (sa + k) (na - k)):=by
  have:=zd8 (lo:=sa + k) (hi:=sa + na) (fun i j b1 b2 b3=>ua i j (by omega) b2 b3) (by omega)
  rwa [show sa + na - (sa + k)=na - k by omega] at this
 have srtY:Srt rk (seg (arrOf st).toList (sa + na) m):=by
  have:=zd8 (lo:=sa + na) (hi:=sa + na + m) (fun i j b1 b2 b3=>ub i j (by omega) b2 (by omega)) (by omega)
  rwa [C5] at this
 have atSeg:∀ {lo n:Nat} {y:Ay},y∈seg (arrOf st).toList lo n->∃ j,lo<=j/\j < lo + n/\j < (arrOf st).size/\rk y=kAt rk (arrOf st) j:=fun {lo n y} hy=>by
  obtain ⟨j,hj,b1,b2,b3⟩:=mem_seg hy
  have hj2:j < (arrOf st).size:=by omega
  refine ⟨j,b1,b2,hj2,?_⟩
  rw [<- b3,zaW hj2,zaq _ hj2]
 have cX:∀ y∈seg (arrOf st).toList (sa + k) (na - k),kAt rk (arrOf st) (sa + na)<=rk y/\rk y<=kAt rk (arrOf st) (sa + na - 1):=fun y hy=>by
  obtain ⟨j,b1,b2,b3,b4⟩:=atSeg hy
  have a2:=j3 (j - sa) (by omega) (by omega)
  rw [show sa + (j - sa)=j by omega] at a2
  have a3:=ua j (sa + na - 1) (by omega) (by omega) (by omega)
  omega
 have cY:∀ y∈seg (arrOf st).toList (sa + na) m,kAt rk (arrOf st) (sa + na)<=rk y/\rk y<=kAt rk (arrOf st) (sa + na - 1):=fun y hy=>by
  obtain ⟨j,b1,b2,b3,b4⟩:=atSeg hy
  have a2:=j5 (j - (sa + na)) (by omega)
  rw [show sa + na + (j - (sa + na))=j by omega] at a2
  have a3:=ub (sa + na) j (by omega) (by omega) (by omega)
  omega
 have fin:∀ (res:Array Ay) (st2:Bu),Like st1 st2->MFin rk ((arrOf st).extract (sa + k) (sa + na)).toList ((arrOf st).extract (sa + na) (sa + na + m)).toList res.toList->∀ st3,kindOf st3=kindOf st2->arrOf st3=Kw (fun (a:Array Ay) (x:Ay×Nat)=>a.setIfInBounds (sa + k + x.2) x.1) (arrOf st2) res.toList.zipIdx->pendingOf st3=pendingOf st2->failedOf st3=failedOf st2->Mrg rk sa (sa + na + nb) st st3 (pre ++ (sa,na + nb,p1) :: post):=fun res st2 hL hM st3 k3 a3 q3 f3=>by
  rw [xl,yl] at hM
  have lM:res.toList.length=na - k + m:=by
   rw [hM.1.length_eq,Ag,<- xl,<- yl,Au,Au,xs,ys]
  rw [hL.2.1,a1] at a3
  have b3:=congrArg Lq a3
  rw [ze9 (sa + k) res.toList 0 (arrOf st) (by omega),Io] at b3
  have ew:(arrOf st).toList=(arrOf st).toList.take (sa + k) ++ (seg (arrOf st).toList (sa + k) (na - k) ++ seg (arrOf st).toList (sa + na) m) ++ (arrOf st).toList.drop (sa + k + res.toList.length):=by
   rw [lM]
   have:=seg_whole (arrOf st).toList (sa + k) (na - k + m)
   rwa [seg_split,show sa + k + (na - k)=sa + na by omega] at this
  refine ⟨k3.trans (hL.1.trans k1),f3.trans (hL.2.2.2.trans f1),by rw [q3,hL.2.2.1,q1],?_,fun i hi=>back_out b3 (by omega) i (by omega),?_⟩
  ·refine Gr.mpr ?_
   rw [b3]
   conv=>rhs; rw [ew]
   exact Hf _ (D8 _ hM.1)
  ·have e1:(arrOf st).toList.take (sa + k)=(arrOf st).toList.take sa ++ seg (arrOf st).toList sa k:=Ol
   have e2:(arrOf st).toList.drop (sa + k + res.toList.length)=seg (arrOf st).toList (sa + na + m) (nb - m) ++ (arrOf st).toList.drop (sa + na + nb):=by
    rw [lM,show sa + k + (na - k + m)=sa + na + m by omega]
    unfold seg
    conv=>lhs; rw [<- C6 (nb - m) ((arrOf st).toList.drop (sa + na + m))]
    rw [Kx,show sa + na + m + (nb - m)=sa + na + nb by omega]
   have e3:(arrOf st3).toList=(arrOf st).toList.take sa ++ (seg (arrOf st).toList sa k ++ res.toList ++ seg (arrOf st).toList (sa + na + m) (nb - m)) ++ (arrOf st).toList.drop (sa + na + nb):=by
    rw [b3,e1,e2]; simp
   have cM:∀ y∈res.toList,kAt rk (arrOf st) (sa + na)<=rk y/\rk y<=kAt rk (arrOf st) (sa + na - 1):=fun y hy=>by
    rcases Al.mp (hM.1.mem_iff.mp hy) with z | z
    ·exact cX y z
    ·exact cY y z
   have cA:∀ y∈seg (arrOf st).toList sa k,rk y<=kAt rk (arrOf st) (sa + na):=fun y hy=>by
    obtain ⟨j,b1,b2,b3,b4⟩:=atSeg hy
    have a2:=j2 (j - sa) (by omega)
    rw [show sa + (j - sa)=j by omega] at a2
    omega
   have cB:∀ y∈seg (arrOf st).toList (sa + na + m) (nb - m),kAt rk (arrOf st) (sa + na - 1)<=rk y/\kAt rk (arrOf st) (sa + na)<=rk y:=fun y hy=>by
    obtain ⟨j,b1,b2,b3,b4⟩:=atSeg hy
    have a2:=j6 (j - (sa + na)) (by omega) (by omega)
    rw [show sa + na + (j - (sa + na))=j by omega] at a2
    have a3:=ub (sa + na) j (by omega) (by omega) (by omega)
    omega
   have sA:Srt rk (seg (arrOf st).toList sa k):=by
    have:=zd8 (lo:=sa) (hi:=sa + k) (fun i j b1 b2 b3=>ua i j (by omega) b2 (by omega)) (by omega)
    rwa [C5] at this
   have sB:Srt rk (seg (arrOf st).toList (sa + na + m) (nb - m)):=by
    have:=zd8 (lo:=sa + na + m) (hi:=sa + na + nb) (fun i j b1 b2 b3=>ub i j (by omega) b2 (by omega)) (by omega)
    rwa [show sa + na + nb - (sa + na + m)=nb - m by omega] at this
   have sAll:Srt rk (seg (arrOf st).toList sa k ++ res.toList ++ seg (arrOf st).toList (sa + na + m) (nb - m)):=by
    refine Bv.mpr ⟨Bv.mpr ⟨sA,hM.2,fun x hx y hy=>Ma (cA x hx) (cM y hy).1⟩,sB,fun x hx y hy => ?_⟩
    rcases Al.mp hx with z | z
    ·exact Ma (cA x z) (cB y hy).2
    ·exact Ma (cM x z).2 (cB y hy).1
   have:=up_seg e3 sAll
   have l1:((arrOf st).toList.take sa).length=sa:=by rw [Cq]; omega
   have l2:(seg (arrOf st).toList sa k ++ res.toList ++ seg (arrOf st).toList (sa + na + m) (nb - m)).length=na + nb:=by
    rw [Ag,Ag,lM]
    unfold seg
    rw [Cq,Cq,G7,G7]
    omega
   rwa [l1,l2,<- Eh] at this
 have x0:0 < ((arrOf st).extract (sa + k) (sa + na)).size:=by omega
 have y0:0 < ((arrOf st).extract (sa + na) (sa + na + m)).size:=by omega
 have hX:Srt rk ((arrOf st).extract (sa + k) (sa + na)).toList:=by rw [xl]; exact srtX
 have hY:Srt rk ((arrOf st).extract (sa + na) (sa + na + m)).toList:=by rw [yl]; exact srtY
 have SX:∀ i (h:i < ((arrOf st).extract (sa + k) (sa + na)).size),S ((arrOf st).extract (sa + k) (sa + na))[i]:=fun i h=>by rw [G3]; exact hA _ _
 have SY:∀ i (h:i < ((arrOf st).extract (sa + na) (sa + na + m)).size),S ((arrOf st).extract (sa + na) (sa + na + m))[i]:=fun i h=>by rw [G3]; exact hA _ _
 have Y0:rk (((arrOf st).extract (sa + na) (sa + na + m))[0]'y0)=kAt rk (arrOf st) (sa + na):=by
  rw [zaW i1,G3]; rfl
 have XL:rk (((arrOf st).extract (sa + k) (sa + na))[((arrOf st).extract (sa + k) (sa + na)).size - 1]'(by omega))=kAt rk (arrOf st) (sa + na - 1):=by
  rw [zaW i2,G3]
  congr 2
  rw [xs]; omega
 have hh0:∀ y∈((arrOf st).extract (sa + k) (sa + na)).toList,rk (((arrOf st).extract (sa + na) (sa + na + m))[0]'y0)<=rk y:=fun y hy=>by
  rw [xl] at hy; rw [Y0]; exact (cX y hy).1
 have hhl:∀ y∈((arrOf st).extract (sa + na) (sa + na + m)).toList,rk y<=rk (((arrOf st).extract (sa + k) (sa + na))[((arrOf st).extract (sa + k) (sa + na)).size - 1]'(by omega)):=fun y hy=>by
  rw [yl] at hy; rw [XL]; exact (cY y hy).2
 refine zan (fun _=>Aj (mergeLo_ok C x0 y0 hX hY SX SY hh0 hhl hk1 fun res st2 hL hM=>Aj (zcF fun st3 k3 a3 q3 f3 => ?_))) (fun _=>Aj (mergeHi_ok C x0 y0 hX hY SX SY hh0 hhl hk1 fun res st2 hL hM=>Aj (zcF fun st3 k3 a3 q3 f3 => ?_)))
 all_goals
  have r:=fin res st2 hL hM st3 k3 a3 q3 f3
  have fl:failedOf st3=none:=r.fail.trans hf
  refine Aj (Hd ?_)
  unfold failedOf at fl
  rw [fl]
  exact Ao (q st3 r)
end
noncomputable def Stk (rk:Ay->Int) (arr:Array Ay):List (Nat×Nat×Nat)->Nat->Nat->Prop
 | [],a,e=>a=e
 | x :: r,a,e=>x.1=a/\0 < x.2.1/\Up2 rk arr a (a + x.2.1)/\Stk rk arr r (a + x.2.1) e
section
variable {rk:Ay->Int} {arr arr':Array Ay}
theorem Stk.le:∀ {l:List (Nat×Nat×Nat)} {a e:Nat},Stk rk arr l a e->a + l.length<=e
 | [],a,e,h=>by have h:a=e:=h; simp; omega
 | x :: r,a,e,⟨h1,h2,h3,h4⟩=>by have:=Stk.le h4; rw [At]; omega
theorem Stk.congr:∀ {l:List (Nat×Nat×Nat)} {a e:Nat},(∀ i,a<=i->i < e->kAt rk arr' i=kAt rk arr i)->Stk rk arr l a e->Stk rk arr' l a e
 | [],a,e,_,h=>h
 | x :: r,a,e,hc,⟨h1,h2,h3,h4⟩=>by
  have:=Stk.le h4
  refine ⟨h1,h2,fun i j b1 b2 b3 => ?_,Stk.congr (fun i b1 b2=>hc i (by omega) b2) h4⟩
  rw [hc i b1 (by omega),hc j (by omega) (by omega)]
  exact h3 i j b1 b2 b3
theorem Stk.split:∀ {l m:List (Nat×Nat×Nat)} {a e:Nat},Stk rk arr (l ++ m) a e->∃ b,Stk rk arr l a b/\Stk rk arr m b e
 | [],m,a,e,h=>⟨a,rfl,h⟩
 | x :: r,m,a,e,⟨h1,h2,h3,h4⟩=>by
  obtain ⟨b,g1,g2⟩:=Stk.split h4
  exact ⟨b,⟨h1,h2,h3,g1⟩,g2⟩
theorem Stk.join:∀ {l m:List (Nat×Nat×Nat)} {a b e:Nat},Stk rk arr l a b->Stk rk arr m b e->Stk rk arr (l ++ m) a e
 | [],m,a,b,e,h,k=>by have h:a=b:=h; rw [h]; exact k
 | x :: r,m,a,b,e,⟨h1,h2,h3,h4⟩,k=>⟨h1,h2,h3,Stk.join h4 k⟩
theorem Stk.mod {f:Nat×Nat×Nat->Nat×Nat×Nat} (hf:∀ x,(f x).1=x.1/\(f x).2.1=x.2.1):∀ {l:List (Nat×Nat×Nat)} {i a e:Nat},Stk rk arr l a e->Stk rk arr (l.modify i f) a e
 | [],i,a,e,h=>by cases i <;> simpa [List.modify_nil] using h
 | x :: r,0,a,e,⟨h1,h2,h3,h4⟩=>by
  show Stk rk arr (f x :: r) a e
  refine ⟨(hf x).1.trans h1,?_,?_,?_⟩
  ·rw [(hf x).2]; exact h2
  ·rw [(hf x).2]; exact h3
  ·rw [(hf x).2]; exact h4
 | x :: r,i + 1,a,e,⟨h1,h2,h3,h4⟩=>⟨h1,h2,h3,Stk.mod hf h4⟩
theorem two_at {α : Type} {l:List α} {i:Nat} (h:i + 1 < l.length):∃ pre x y post,l=pre ++ x :: y :: post/\pre.length=i:=by
 refine ⟨l.take i,l[i]'(by omega),l[i + 1],l.drop (i + 2),?_,by rw [Cq]; omega⟩
 conv=>lhs; rw [<- C6 i l]
 rw [Ea (show i < l.length by omega),Ea h]
end
section
variable {prog:Aq} {w:Bj} {A:Bb} {E:A0->A3->Prop} {s:A3} {kd:F3} {S:Ay->Prop} {rk:Ay->Int}
structure Stg (rk:Ay->Int) (kd:F3) (a₀ : Array Ay) (st:Bu) (e:Nat):Prop where
 kind:kindOf st=kd
 fail:failedOf st=none
 perm:(arrOf st).Perm a₀
 stk:Stk rk (arrOf st) (pendingOf st).toList 0 e
 le:e<=a₀.size
theorem zdp (C:Ranks prog w A E s kd S rk) {a₀ : Array Ay} {st:Bu} {i e:Nat} {Q:Bool->Bu->Prop} (hS:∀ x∈a₀.toList,S x) (g:Stg rk kd a₀ st e) (hi:i + 1 < (pendingOf st).size)
  (q:∀ st',Stg rk kd a₀ st' e->(pendingOf st').size + 1=(pendingOf st).size->(∀ j,e<=j->(arrOf st')[j]?=(arrOf st)[j]?)->Q true st'):wpS (model prog w) A E s (mergeAt' i) Q st:=by
 obtain ⟨pre,⟨sa,na,p1⟩,⟨sb,nb,p2⟩,post,hp,rfl⟩:=two_at (l:=(pendingOf st).toList) (i:=i) (by rw [Au]; exact hi)
 have hs:=g.stk
 rw [hp] at hs
 obtain ⟨b,s1,e1,n1,u1,e2,n2,u2,s2⟩:=hs.split
 dsimp only at e1 n1 u1 e2 n2 u2 s2
 subst e1 e2
 have sz:=g.perm.size_eq
 have l2:=s2.le
 have le:=g.le
 refine mergeAt_ok C (zb8 g.perm hS) g.kind g.fail hp n1 n2 (by omega) u1 u2 fun st' m => ?_
 refine q st' ⟨m.kind.trans g.kind,m.fail.trans g.fail,m.perm.trans g.perm,?_,g.le⟩ ?_ fun j hj=>m.out j (.inr (by omega))
 ·rw [m.pend]
  refine Stk.join (b:=sa) (s1.congr fun i b1 b2=>za2 (m.out i (.inl b2))) ⟨rfl,by show 0 < na + nb; omega,?_,?_⟩
  ·have:=m.up; show Up2 rk _ sa (sa + (na + nb)); rwa [<- Eh]
  ·show Stk rk _ post (sa + (na + nb)) e
   rw [<- Eh]
   exact s2.congr fun i b1 b2=>za2 (m.out i (.inr b1))
 ·rw [<- Au,<- Au,m.pend,hp,Ag,Ag,At,At,At]
  omega
theorem zdf (C:Ranks prog w A E s kd S rk) {st:Bu} {Q:Unit->Bu->Prop} (hS:∀ x∈(arrOf st).toList,S x) (hk:kindOf st=kd) (hf:failedOf st=none) (hp:pendingOf st = #[]) (h2:2<=(arrOf st).size)
  (q:∀ st',(arrOf st').Perm (arrOf st)->failedOf st'=none->Up2 rk (arrOf st') 0 (arrOf st).size->Q () st'):wpS (model prog w) A E s sortRuns' Q st:=by
 rw [sortRuns'_eq]
 refine Aj (Hd ?_)
 dsimp only
 obtain ⟨a₀,ha⟩:∃ a,a=arrOf st:=⟨_,rfl⟩
 have g0:Stg rk kd a₀ st 0:=⟨hk,hf,ha ▸ G5 _,by rw [hp]; exact rfl,Bi _⟩
 rw [<- ha] at hS h2 ⊢
 rw [<- ha] at q
 refine Aj (E5 (Cz (I:=fun x c st'=>∃ lo,c=(none,lo)/\Stg rk kd a₀ st' lo/\(x<=lo\/lo=a₀.size)) (Q:=fun c st'=>∃ lo,c=(none,lo)/\Stg rk kd a₀ st' lo/\lo=a₀.size) ?step ?fin ⟨0,rfl,g0,.inl (Bi _)⟩) ?post)
 case fin =>
  rintro c st' ⟨lo,rfl,g,h⟩
  have:=g.le
  exact ⟨lo,rfl,g,by omega⟩
 case step =>
  rintro x c st1 _ hx ⟨lo,rfl,g,hlo⟩
  dsimp only
  have gle:=g.le
  refine zan (fun e=>Ao ⟨lo,rfl,g,by omega⟩) (fun e => ?_)
  have sz:=g.perm.size_eq
  refine Aj (countRun_ok C (zb8 g.perm hS) g.kind (by omega) (by omega) fun n st2 c2 n1 n2 u2 => ?_)
  have keep:∀ {st2:Bu},Chg lo a₀.size st1 st2->Stg rk kd a₀ st2 lo:=fun c2=>⟨c2.kind.trans g.kind,c2.fail.trans g.fail,c2.perm.trans g.perm,by rw [c2.pend]; exact g.stk.congr fun i b1 b2=>za2 (c2.out i (.inl b2)),g.le⟩
  have c2':Chg lo a₀.size st1 st2:=c2.wide (Ac _) (by omega)
  have g2:=keep c2'
  have sz2:=g2.perm.size_eq
  dsimp only
  refine zan (fun hm=>Aj (Iu (Gh ⟨rfl,Aj (binSort_ok C (zb8 g2.perm hS) g2.kind (by omega) (by omega) u2 fun st3 c3 u3 => ?_)⟩))) (fun hm => ?_)
  simp only [Ef,Bo,if_false]
  have g3:=keep (c2'.trans (c3.wide (Ac _) (by omega)))
  generalize hn3:min (a₀.size - lo) (minRun' a₀.size a₀.size 0)=n3 at u3 ⊢
  have n31:1<=n3:=by omega
  have n32:lo + n3<=a₀.size:=by omega
  rotate_left
  have g3:=g2
  have u3:=u2
  have n31:=n1
  have n32:lo + n<=a₀.size:=by omega
  clear c2 c2' u2 g2 n2 n1 hm sz2
  generalize st2=st3 at g3 u3 ⊢
  generalize n=n3 at u3 n31 n32 ⊢
  all_goals
   have push:∀ {st4:Bu},Stg rk kd a₀ st4 lo->Up2 rk (arrOf st4) lo (lo + n3)->Stg rk kd a₀ (setPending st4 ((pendingOf st4).push (lo,n3,0))) (lo + n3):=fun {st4} g4 u4=>⟨g4.kind,g4.fail,g4.perm,by
    show Stk rk (arrOf st4) ((pendingOf st4).push (lo,n3,0)).toList 0 (lo + n3)
    rw [Cc]
    exact g4.stk.join ⟨rfl,n31,u4,rfl⟩,n32⟩
   refine Aj (Hd ?_)
   cases hb:(pendingOf st3).back? with
   | none=>exact Aj (K6 (Ao ⟨lo + n3,rfl,push g3 u3,by omega⟩))
   | some t =>
    obtain ⟨s1,n1',pp⟩:=t
    dsimp only
    refine Aj (E5 (Cz (I:=fun _ c st'=>c=(none,())/\Stg rk kd a₀ st' lo/\Up2 rk (arrOf st') lo (lo + n3)) (Q:=fun c st'=>c=(none,())/\Stg rk kd a₀ st' lo/\Up2 rk (arrOf st') lo (lo + n3)) ?_ (fun _ _ h=>h) ⟨rfl,g3,u3⟩) ?_)
    ·rintro y c st4 _ _ ⟨rfl,g4,u4⟩
     refine Aj (Hd ?_)
     by_cases hps:(pendingOf st4).size > 1
     ·rw [if_pos hps]
      cases hq:(pendingOf st4)[(pendingOf st4).size - 2]? with
      | none=>exact Ao ⟨rfl,g4,u4⟩
      | some t =>
       obtain ⟨t1,t2,older⟩:=t
       dsimp only
       refine zan (fun _=>Ao ⟨rfl,g4,u4⟩) (fun _=>Aj (zdp C hS g4 (by omega) fun st5 g5 _ o5 => ?_))
       simp only [Ef,Bo,if_false]
       refine Ao ⟨rfl,g5,fun i j b1 b2 b3 => ?_⟩
       rw [za2 (o5 i b1),za2 (o5 j (by omega))]
       exact u4 i j b1 b2 b3
     ·rw [if_neg hps]
      exact Ao ⟨rfl,g4,u4⟩
    ·rintro c st4 ⟨rfl,g4,u4⟩
     dsimp only
     refine Aj (zcF fun st5 k5 a5 q5 f5=>Aj (K6 (Ao ⟨lo + n3,rfl,push (st4:=st5) ?_ ?_,by omega⟩)))
     ·refine ⟨k5.trans g4.kind,f5.trans g4.fail,by rw [a5]; exact g4.perm,?_,g4.le⟩
      rw [a5,q5]
      show Stk rk (arrOf st4) ((pendingOf st4).modify _ _).toList 0 lo
      rw [Array.toList_modify]
      refine Stk.mod ?_ g4.stk
      exact fun x=>⟨rfl,rfl⟩
     ·rw [a5]; exact u4
 case post =>
  rintro c st1 ⟨lo,rfl,g,rfl⟩
  dsimp only
  have l1:=g.stk.le
  rw [Au] at l1
  refine Aj (E5 (Cz (I:=fun x c st'=>c=(none,())/\Stg rk kd a₀ st' a₀.size/\((pendingOf st').size<=1\/(pendingOf st').size + x<=a₀.size)) (Q:=fun c st'=>c=(none,())/\Stg rk kd a₀ st' a₀.size/\(pendingOf st').size<=1) ?_ ?_ ⟨rfl,g,.inr (by omega)⟩) ?_)
  ·rintro x c st2 _ hx ⟨rfl,g2,hp2⟩
   refine Aj (Hd ?_)
   refine zan (fun e=>Ao ⟨rfl,g2,e⟩) (fun e => ?_)
   refine Aj (zdp C hS g2 ?_ fun st5 g5 z5 o5 => ?_)
   ·by_cases hb:Option.any (fun x=>decide (x < Option.elim (pendingOf st2)[(pendingOf st2).size - 2 + 1]? 0 fun x=>x.2.1)) (if (pendingOf st2).size - 2 > 0 then Ot (fun x=>x.2.1) (pendingOf st2)[(pendingOf st2).size - 2 - 1]? else none)=true
    ·rw [if_pos hb]; omega
    ·rw [if_neg hb]; omega
   ·simp only [Ef,Bo,if_false]
    exact Ao ⟨rfl,g5,by omega⟩
  ·rintro c st2 ⟨rfl,g2,hp2⟩
   exact ⟨rfl,g2,by omega⟩
  ·rintro c st2 ⟨rfl,g2,hp2⟩
   refine Ao (q st2 g2.perm g2.fail ?_)
   have hs:=g2.stk
   have hl:(pendingOf st2).toList.length<=1:=by rw [Au]; exact hp2
   match hm:(pendingOf st2).toList,hs,hl with
   | [],hs,_=>have hs:0=a₀.size:=hs; omega
   | [x],⟨b1,b2,b3,b4⟩,_ =>
    have b4:0 + x.2.1=a₀.size:=b4
    rwa [b4] at b3
end
end L2
namespace L2
open PySem PySem.Spec PyProof.Rows PySem.W
noncomputable def rkI:Ay->Int:=fun k=>numOf k.1
section
variable {prog:Aq} {w:Bj} {A:Bb} {E:A0->A3->Prop} {s:A3}
theorem ranks_int:Ranks prog w A E s oneType' (fun k=>∃ n t,k.1 = .int n t) rkI:=⟨fun {x y st Q} hx hy hk q=>by
 obtain ⟨x1,x2⟩:=x
 obtain ⟨y1,y2⟩:=y
 obtain ⟨n,t,e⟩:=hx
 obtain ⟨m,u,e2⟩:=hy
 dsimp only at e e2
 subst e e2
 rw [lt'_eq]
 refine Aj (Hd ?_)
 rw [hk,Q7]
 exact Aj (Iu (K3 (oneLt_int ⟨rfl,Ao q⟩)))⟩
theorem sortI {a:A4} {vs:List A0} {ns:List Int} {n:Nat} {P:Nd->A3->Prop} (ho:s.heap.get? a=some (seqObj "list" vs.toArray n)) (hI:Du vs ns) (hb:vs.length<=sizeLine)
  (q:∀ (out:Array A0) (ns':List Int),Du out.toList ns'->ns'.Perm ns->ns'.Pairwise (· <= ·)->P (.done (.ret .none)) { s with heap:=sortedHeap s.heap a vs out }) :
  wpAny (model prog w) A (Ff.«list.sort» ⟨[.ref a],[]⟩) P E s:=by
 have fin:∀ st':Bu,(arrOf st').Perm (pairsOf vs)->Up2 rkI (arrOf st') 0 (pairsOf vs).size->P (.done (.ret .none)) { s with heap:=sortedHeap s.heap a vs ((arrOf st').map (·.2)) }:=fun st' hp hs=>by
  obtain ⟨ns',b1,b2,b3⟩:=sorted_out hI hp (fun i j hij hj=>hs i j (Bi _) hij hj)
  exact q _ ns' b1 b2 b3
 rw [Pd]; have hlt:=Ap ho
 obtain ⟨e1,o1⟩:∃ e,(s.heap.update a (Eg fun _=>(#[]:Array A0))).get? a=some (seqObj "list" #[] e):=⟨_,Pf ho fun _ => #[]⟩
 have hz:vs.toArray.size=vs.length:=B8
 refine A1 (N8 ho rfl (A1 (Gn ho rfl (A1 (Ht o1 rfl (A1 (Q5 (A1 (Ig (Dp ?_) (Bi _))) (by show vs.length<=_; omega))))) (by rw [hz]; omega) (Bi _))))
 have o6:(((s.heap.update a (Eg fun _=>(#[]:Array A0))).push (seqObj "tuple" vs.toArray 0)).push (seqObj "list" #[] 0)).get? a=some (seqObj "list" #[] e1):=Ad _ (Ad _ o1)
 show wpAny (model prog w) A _ P E { s with heap:=((s.heap.update a (Eg fun _=>(#[]:Array A0))).push (seqObj "tuple" vs.toArray 0)).push (seqObj "list" #[] 0) }; dsimp only
 by_cases h2:vs.toArray.size < 2
 ·rw [if_pos h2,if_pos h2]; refine A1 (Ae ?_)
  rw [Nb]; refine A1 (Ae ?_)
  dsimp only
  refine A1 (Ht o6 rfl (A1 (Gn o6 rfl ?_ (Bi _) (by rw [J5]; show (pairsOf vs).size<=_; rw [Fc]; omega))))
  simp only [bne_self_eq_false,Bo,if_false]
  refine Ae (fin (Ke general' (vs.toArray.zip vs.toArray) #[] 7 none) (G5 _) fun i j _ hij hj => ?_)
  rw [Fc] at hj
  rw [show i=j by omega]; exact Dg _
 ·rw [if_neg h2,if_neg h2]
  have hkk:keyKind' vs.toArray=pure oneType':=by
   match vs,hI,h2 with
   | [],_,h2=>simp at h2
   | [_],_,h2=>simp at h2
   | v₁ :: v₂ :: r,hI,_=>exact keyKind_ints hI
  rw [hkk]
  refine A1 (Ae ?_)
  refine A1 (Di (zdf (ranks_int (E:=E)) (st:=Ke oneType' (vs.toArray.zip vs.toArray) #[] 7 none) (Q:=fun _ st'=>(arrOf st').Perm (pairsOf vs)/\failedOf st'=none/\Up2 rkI (arrOf st') 0 (pairsOf vs).size) hI.intKeys rfl rfl rfl (by show 2<=(pairsOf vs).size; rw [Fc]; omega) fun st' c1 c2 c3=>⟨c1,c2,c3⟩) ?_ fun _ _ e=>e)
  rintro ⟨⟨⟩,st'⟩ s' ⟨rfl,hp,hf,hs⟩
  dsimp only
  refine A1 (Ht o6 rfl (A1 (Gn o6 rfl ?_ (Bi _) (by rw [J5,hp.size_eq,Fc]; omega))))
  rw [hf]
  simp only [bne_self_eq_false,Bo,if_false]
  exact Ae (fin st' hp hs)
end
theorem zdZ:∀ {l:List A0} {ns:List Int},l.length=ns.length->(∀ (j:Nat) (v:A0) (x:Int),l[j]?=some v->ns[j]?=some x->∃ t,v = .int x t)->Du l ns
 | [],[],_,_ => .nil
 | v :: l,x :: ns,hl,h=>by
  obtain ⟨t,rfl⟩:=h 0 v x rfl rfl
  exact .cons _ _ (zdZ (by simpa using hl) fun j u y e1 e2=>h (j + 1) u y (by simpa using e1) (by simpa using e2))
section
variable {X:Cx}
theorem call_sortedDI (hc:X.calm=true):CallR X (.builtin "sorted") (fun xs H Q=>∃ (a:A4) (kvs:List (Key×V)) (ns:List Int),xs = [V.ref a]/\Rd H a (.dK kvs)/\kvs.map (·.1)=ns.map Dv/\ns.length<=4096 /\
  ∀ p (ns':List Int),H p=none->ns'.Perm ns->ns'.Pairwise (· <= ·)->Q (.ref p) (upd H p (.lst (ns'.map V.int)))):=by
 intro pins s σ H xs us Q I r h
 obtain ⟨a,kvs,ns,rfl,hq,hk,hb,q⟩:=h
 obtain ⟨u,rfl,ru⟩:=zbR r
 cases ru
 obtain ⟨hz,lo,vs,kv,hD⟩:=(show ObjOk X.prog X.w H s.heap a (.dK kvs) from hq.ok I.hok)
 obtain ⟨ep,hat⟩:=hD.dictAt
 have hlen:vs.length=ns.length:=by
  have e1:=kv.length
  have e2:=congrArg Ed hk
  rw [A2,A2] at e2
  omega
 have big:(4096:Nat)<=sizeLine:=by decide
 refine F7 Nz N7 N9 (Na _) ?_
 unfold Ff.«sorted»
 refine A1 (m:=checkCount "sorted" 1 1 _) (Ae ?_)
 refine A1 (Iy (A:=X.A.in1) (Mp (knd:=mixKind X.prog X.w) (kvs:=vs) (ep:=ep) lo) (I.ok.hd hc) hat (by omega) fun h' tk acc hkeep hacc => ?_)
 have hl:acc.toList.length=vs.length:=by rw [Au]; exact hacc.1
 have hS:Du acc.toList ns:=by
  refine zdZ (by omega) fun j v x e1 e2 => ?_
  obtain ⟨k,y,e3,hk2⟩:=hacc.2 j v (by rw [<- Ck]; exact e1)
  obtain ⟨v',e4,_⟩:=kv.get e3
  have e5:(kvs.map (·.1))[j]?=some k:=by rw [Af,e4]; rfl
  rw [hk,Af,e2] at e5
  have e6:Dv x=k:=Bh e5
  subst e6
  rcases zaF (show keyIs (Dv x) v=true from hk2) with ⟨i,t,e,e7⟩ | ⟨y,t,e,e7⟩
  ·cases e; exact ⟨t,e7⟩
  ·cases e
 refine A1 (Ig ?_ (by rw [hl]; omega))
 have hoL:(h'.push (seqObj "list" acc.toList.toArray 0)).get? h'.objs.size=some (seqObj "list" acc.toList.toArray 0):=Ba _ rfl
 refine A1 (Dp (E1 M1 ⟨_,hoL,rfl⟩ Lk (sortI hoL hS (by omega) fun out ns' a1 a2 a3=>⟨_,rfl,?_⟩) (M2 _)))
 refine Ae ⟨_,rfl,?_⟩
 obtain ⟨e,he⟩:=Mm (out:=out) hoL
 have I1:Inv X pins σ H { s with heap:=h',toks:=tk }:=I.kept hkeep
 have I2:=Inv.laid (o := .lst (ns'.map V.int)) (a:=h'.objs.size) (h':=sortedHeap (h'.push (seqObj "list" acc.toList.toArray 0)) h'.objs.size acc.toList out) (t':=tk) I1 (fun b o hb=>by
  have lt:=Ap hb
  rw [M0 (Bm lt) (by rw [F5]; exact Fy lt)]
  exact Ad _ hb) (Ac _) (show ObjOk X.prog X.w _ _ _ (.lst (ns'.map V.int)) from ⟨by rw [A2,a2.length_eq]; omega,_,e,zco a1,by rw [Md]; exact he⟩)
 exact ⟨.ref h'.objs.size,_,I2,rfl,q _ ns' (I1.hok.fresh (Ac _)) a2 a3⟩
end
end L2
namespace L2
open PySem PySem.Spec PyProof.Rows
noncomputable def behN (C:Combs) (l:List Nat):List Nat:=(Ab 128).filter fun s=>l.any fun t=>(stp C t).any fun p=>decide (p.2.toNat=s)
noncomputable def rowN (C:Combs):Nat->List Nat
 | 0 => [0]
 | k + 1=>behN C (rowN C k)
theorem beh_mem {C:Combs} {l:List Nat} {s:Nat}:s∈behN C l ↔ s < 128/\∃ t∈l,∃ p∈stp C t,p.2.toNat=s:=by
 unfold behN
 rw [Ax,B7]
 constructor
 ·rintro ⟨h,e⟩
  obtain ⟨t,ht,e⟩:=Bq.mp e
  obtain ⟨p,hp,e⟩:=Bq.mp e
  exact ⟨h,t,ht,p,hp,of_decide_eq_true e⟩
 ·rintro ⟨h,t,ht,p,hp,e⟩
  exact ⟨h,Bq.mpr ⟨t,ht,Bq.mpr ⟨p,hp,decide_eq_true e⟩⟩⟩
theorem zhe (C:Combs) (l:List Nat):(behN C l).Pairwise (· < ·):=Bc Cp D6
theorem zfw (C:Combs) (l:List Nat):(behN C l).length<=128:=by
 have:=Cn (fun s=>l.any fun t=>(stp C t).any fun p=>decide (p.2.toNat=s)) (Ab 128)
 rwa [Aw] at this
theorem zff (C:Combs):∀ k,(∀ s∈rowN C k,s < 128)/\(rowN C k).length<=128
 | 0=>⟨fun s h=>by rw [show rowN C 0 = [0] from rfl,A6] at h; omega,by show 1<=128; decide⟩
 | k + 1=>⟨fun s h=>(beh_mem.mp h).1,zfw C _⟩
theorem beh_keys {C:Combs} (g:GC C) {l:List Nat} (hl:∀ t∈l,t < 128) {rs:List Int} (nd:rs.Nodup) (hm:∀ n,n∈rs ↔ ∃ t∈l,∃ p∈stp C t,p.2=n):rs.Perm ((behN C l).map fun s=>((s:Nat):Int)):=by
 refine (D0 nd ?_).mpr fun n => ?_
 ·refine zaO ?_
  rw [Bd]
  exact (zhe C l).imp fun h=>by omega
 ·rw [hm,A7]
  constructor
  ·rintro ⟨t,ht,p,hp,rfl⟩
   have:=zcQ g (hl t ht) hp
   exact ⟨p.2.toNat,beh_mem.mpr ⟨this.2,t,ht,p,hp,rfl⟩,by omega⟩
  ·rintro ⟨s,hs,rfl⟩
   obtain ⟨h1,t,ht,p,hp,e⟩:=beh_mem.mp hs
   have:=zcQ g (hl t ht) hp
   exact ⟨t,ht,p,hp,by omega⟩
theorem beh_sorted (C:Combs) (l:List Nat):((behN C l).map fun s=>((s:Nat):Int)).Pairwise (· <= ·):=by
 rw [Bd]
 exact (zhe C l).imp fun h=>by omega
theorem zeC {κ : Type} [DecidableEq κ] (kvs:List (κ × V)) (k : κ) (v:V):(putK kvs k v).map (·.1)=if k∈kvs.map (·.1) then kvs.map (·.1) else kvs.map (·.1) ++ [k]:=by
 unfold putK
 by_cases h:(kvs.any fun kv=>decide (kv.1=k))=true
 ·rw [if_pos h,if_pos (valV_mem.mp (by rw [<- zbi]; exact h)),B6]
  refine C7 fun kv _ => ?_
  show (if kv.1=k then (kv.1,v) else kv).1=kv.1
  split <;> rfl
 ·rw [if_neg h,if_neg (fun z=>h (by rw [zbi]; exact valV_mem.mpr z)),Az]
  rfl
noncomputable def GrL (H:Hp) (kvs:List (List Key×V)) (ks:Combs) (L:List Nat):Prop:=Bs (fun (s:Nat) (kv:List Key×V)=>kv.1=akey s/\∃ q vs,kv.2 = .ref q/\H q=some (.lst vs)/\GoesR H vs (goesOf ks (aheadOf (s:Int)))) L kvs
theorem GrL.mono {H H':Hp} {kvs:List (List Key×V)} {ks:Combs} {L:List Nat} (r:GrL H kvs ks L) (m:∀ kv∈kvs,∀ q vs,kv.2 = .ref q->H q=some (.lst vs)->H' q=some (.lst vs)) (mt:∀ q xs,H q=some (.tup xs)->H' q=some (.tup xs)):GrL H' kvs ks L:=by
 induction r with
 | nil=>exact .nil
 | cons h _ ih =>
  obtain ⟨a,q,vs,b,c,d⟩:=h
  exact .cons ⟨a,q,vs,b,m _ Ah q vs b c,d.mono mt⟩ (ih fun kv hkv=>m kv (Aa _ hkv))
theorem GrL.same {H H':Hp} {kvs:List (List Key×V)} {ks:Combs} {L:List Nat} (r:GrL H kvs ks L) (s:Same H H'):GrL H' kvs ks L:=r.mono (fun _ _ _ _ _ e=>s _ _ e) fun _ _ e=>s _ _ e
theorem GrL.len {H:Hp} {kvs:List (List Key×V)} {ks:Combs} {L:List Nat} (r:GrL H kvs ks L):kvs.length=L.length:=(C3 r).symm
theorem GrL.keys {H:Hp} {kvs:List (List Key×V)} {ks:Combs} {L:List Nat} (r:GrL H kvs ks L):kvs.map (·.1)=L.map akey:=by
 induction r with
 | nil=>rfl
 | cons h _ ih=>rw [An,An,ih,h.1]
theorem akeys_nd {L:List Nat} (nd:L.Nodup) (lt:∀ s∈L,s < 128):(L.map akey).Nodup:=by
 rw [E8,Bd]
 rw [E8] at nd
 exact Ew (fun {a b} ha hb hab e=>hab (zda (lt a ha) (lt b hb) e)) nd
theorem GrL.val {H:Hp} {kvs:List (List Key×V)} {ks:Combs} {L:List Nat} (r:GrL H kvs ks L) (nd:L.Nodup) (lt:∀ s∈L,s < 128) {s:Nat} (hs:s∈L):∃ q vs,valV kvs (akey s)=some (.ref q)/\H q=some (.lst vs)/\GoesR H vs (goesOf ks (aheadOf (s:Int))):=by
 obtain ⟨i,hi,rfl⟩:=Ei hs
 obtain ⟨kv,e1,e2,q,vs,e3,e4,e5⟩:=Bs.at r (A8 hi)
 refine ⟨q,vs,?_,e4,e5⟩
 rw [<- e3]
 exact zfe (by rw [r.keys]; exact akeys_nd nd lt) (by rw [e1,<- e2])
theorem GrL.has {H:Hp} {kvs:List (List Key×V)} {ks:Combs} {L:List Nat} (r:GrL H kvs ks L) (lt:∀ s∈L,s < 128) {s:Nat} (hs:s < 128):(valV kvs (akey s)).isSome=decide (s∈L):=by
 rw [B5,valV_mem,r.keys,decide_eq_true_eq,A7]
 exact ⟨fun ⟨j,hj,e⟩=>zda (lt j hj) hs e ▸ hj,fun h=>⟨s,h,rfl⟩⟩
theorem GrL.snoc {H:Hp} {kvs:List (List Key×V)} {ks:Combs} {L:List Nat} {s:Nat} {q:A4} {vs:List V} (r:GrL H kvs ks L) (h1:H q=some (.lst vs)) (h2:GoesR H vs (goesOf ks (aheadOf (s:Int)))):GrL H (kvs ++ [(akey s,.ref q)]) ks (L ++ [s]):=El r ⟨rfl,q,vs,rfl,h1,h2⟩
noncomputable def ClsS (C:Combs) (L:List Nat):Prop:=(∀ s∈L,s < 128)/\∀ s∈L,∀ p∈stp C s,p.2.toNat∈L
theorem akeysL_kI (L:List Nat):L.map akey=(L.map fun (s:Nat)=>aheadOf (s:Int)).map kI:=by rw [B6]; rfl
noncomputable def ov (al:Nat->Nat->Bool) (i p:Nat):Nat:=if p < i then 1 else ind (al i (p - i))
section
variable {al ta:Nat->Nat->Bool}
noncomputable def cn (nm:Nat->Str) (i:Nat):Nat:=(laid nm i).length
end
theorem laid_up (nm:Nat->Str) (n:Nat):(laid nm n).Pairwise (· < ·):=Bc Cp D6
noncomputable def PL (H:Hp) (vs:List V) (nm:Nat->Str) (L:List Nat):Prop:=Bs (fun (j:Nat) (v:V)=>∃ q,v = .ref q/\H q=some (.tup [.int (j:Int),.str (nm j)])) L vs
theorem PL.lays {H:Hp} {vs:List V} {nm:Nat->Str} {n:Nat}:PL H vs nm (laid nm n) ↔ LaysR H vs nm n:=Nv
theorem zgM {n j:Nat} (f:Nat->V) (v:V) (h:j < n):((Ab n).map f).set j v=(Ab n).map fun p=>if p=j then v else f p:=by
 refine Ft fun i => ?_
 rw [List.getElem?_set,Af,A2,Aw]
 by_cases e:j=i
 ·subst e
  rw [if_pos rfl,if_pos h,Af,Cf h,Cu,if_pos rfl]
 ·rw [if_neg e,Af]
  by_cases hi:i < n
  ·rw [Cf hi,Cu,Cu,if_neg (fun z=>e z.symm)]
  ·rw [Co (by rw [Aw]; omega)]
   rfl
theorem count_teeth {ts:List Int} (nd:ts.Nodup) (h0:∀ t∈ts,0<=t) (i p:Nat):(ts.map fun t=>i + t.toNat).count p=if i<=p then ind (decide (((p - i:Nat):Int)∈ts)) else 0:=by
 have nd2:(ts.map fun t=>i + t.toNat).Nodup:=by
  rw [E8,Bd]
  rw [E8] at nd
  refine Ew (fun {a b} ha hb hab e=>hab ?_) nd
  have:=h0 a ha
  have:=h0 b hb
  omega
 have hm:p∈(ts.map fun t=>i + t.toNat) ↔ i<=p/\((p - i:Nat):Int)∈ts:=by
  rw [A7]
  constructor
  ·rintro ⟨t,ht,rfl⟩
   have:=h0 t ht
   exact ⟨by omega,by rw [show ((i + t.toNat - i:Nat):Int)=t by omega]; exact ht⟩
  ·rintro ⟨h,ht⟩
   exact ⟨_,ht,by omega⟩
 rw [nd2.count]
 by_cases h:i<=p
 ·rw [if_pos h]
  by_cases h2:((p - i:Nat):Int)∈ts
  ·rw [if_pos (hm.mpr ⟨h,h2⟩),decide_eq_true h2]; rfl
  ·rw [if_neg (fun z=>h2 (hm.mp z).2),decide_eq_false h2]; rfl
 ·rw [if_neg h,if_neg (fun z=>h (hm.mp z).1)]
end L2
namespace L2
open PySem PySem.Spec PyProof.Rows PySem.W
noncomputable def lexR:Nat->List Int->Nat
 | 0,_=>0
 | _ + 1,[]=>0
 | n + 1,x :: xs=>(x.toNat + 1) * 9 ^ n + lexR n xs
noncomputable def Smalls (ns:List Int):Prop:=ns.length<=8/\∀ x∈ns,0<=x/\x<=7
theorem zfm:∀ (n:Nat) (l:List Int),(∀ x∈l,0<=x/\x<=7)->lexR n l < 9 ^ n
 | 0,_,_=>O7
 | n + 1,[],_=>Ms (by decide)
 | n + 1,x :: l,h=>by
  have i:=zfm n l fun y hy=>h y (Aa _ hy)
  have hx:=h x Ah
  show (x.toNat + 1) * 9 ^ n + lexR n l < 9 ^ (n + 1)
  rw [M6]
  have:(x.toNat + 1) * 9 ^ n<=8 * 9 ^ n:=Ge _ (by omega)
  omega
theorem zef:∀ (n:Nat) (a b:List Int),a.length<=n->b.length<=n->(∀ x∈a,0<=x/\x<=7)->(∀ x∈b,0<=x/\x<=7)->(lexR n a < lexR n b ↔ HT.lexLt a b=true)/\(lexR n a=lexR n b->a=b)
 | 0,[],[],_,_,_,_=>⟨by rw [HT.lexLt_nil_nil]; simp [lexR],fun _=>rfl⟩
 | 0,_ :: _,_,h,_,_,_=>absurd h (by simp)
 | 0,_,_ :: _,_,h,_,_=>absurd h (by simp)
 | n + 1,[],[],_,_,_,_=>⟨by rw [HT.lexLt_nil_nil]; simp [lexR],fun _=>rfl⟩
 | n + 1,[],y :: b,_,_,_,_=>by
  have p:0 < 9 ^ n:=Ms (by decide)
  have:0 < (y.toNat + 1) * 9 ^ n:=Mt (by omega) p
  rw [HT.lexLt_nil_cons]
  refine ⟨?_,?_⟩
  ·show 0 < (y.toNat + 1) * 9 ^ n + lexR n b ↔ _
   exact ⟨fun _=>rfl,fun _=>by omega⟩
  ·show 0=(y.toNat + 1) * 9 ^ n + lexR n b->_
   intro h; omega
 | n + 1,x :: a,[],_,_,_,_=>by
  have p:0 < 9 ^ n:=Ms (by decide)
  have:0 < (x.toNat + 1) * 9 ^ n:=Mt (by omega) p
  rw [HT.lexLt_cons_nil]
  refine ⟨?_,?_⟩
  ·show (x.toNat + 1) * 9 ^ n + lexR n a < 0 ↔ _
   exact ⟨fun h=>by omega,fun h=>by cases h⟩
  ·show (x.toNat + 1) * 9 ^ n + lexR n a=0->_
   intro h; omega
 | n + 1,x :: a,y :: b,ha,hb,sa,sb=>by
  have i:=zef n a b (by simpa using ha) (by simpa using hb) (fun z hz=>sa z (Aa _ hz)) (fun z hz=>sb z (Aa _ hz))
  have la:=zfm n a fun z hz=>sa z (Aa _ hz)
  have lb:=zfm n b fun z hz=>sb z (Aa _ hz)
  have hx:=sa x Ah
  have hy:=sb y Ah
  rw [HT.lexLt_cons]
  show ((x.toNat + 1) * 9 ^ n + lexR n a < (y.toNat + 1) * 9 ^ n + lexR n b ↔ _)/\((x.toNat + 1) * 9 ^ n + lexR n a=(y.toNat + 1) * 9 ^ n + lexR n b->_)
  rcases Int.lt_trichotomy x y with h | h | h
  ·have:(x.toNat + 1 + 1) * 9 ^ n<=(y.toNat + 1) * 9 ^ n:=Ge _ (by omega)
   rw [Kg (x.toNat + 1) 1] at this
   rw [if_neg (by omega),decide_eq_true h]
   exact ⟨⟨fun _=>rfl,fun _=>by omega⟩,fun z=>by omega⟩
  ·subst h
   rw [if_pos rfl]
   refine ⟨⟨fun z=>i.1.mp (by omega),fun z => ?_⟩,fun z => ?_⟩
   ·have:=i.1.mpr z; omega
   ·rw [i.2 (by omega)]
  ·have:(y.toNat + 1 + 1) * 9 ^ n<=(x.toNat + 1) * 9 ^ n:=Ge _ (by omega)
   rw [Kg (y.toNat + 1) 1] at this
   rw [if_neg (by omega),decide_eq_false (by omega)]
   exact ⟨⟨fun z=>by omega,fun z=>by cases z⟩,fun z=>by omega⟩
section
variable {prog:Aq} {w:Bj} {A:Bb} {E:A0->A3->Prop} {s:A3}
theorem sortR {a:A4} {vs:List A0} {n:Nat} {P:Nd->A3->Prop} (rk:Ay->Int) (S:Ay->Prop) (ho:s.heap.get? a=some (seqObj "list" vs.toArray n)) (hS:∀ v∈vs,S (v,v)) (hb:vs.length<=sizeLine)
  (hk:2<=vs.length->∀ h':Bz,(∀ b o,b≠a->s.heap.get? b=some o->h'.get? b=some o)->∃ kd:F3,(∀ Q:F3->A3->Prop,Q kd { s with heap:=h' }->wpAny (model prog w) A (keyKind' vs.toArray) Q E { s with heap:=h' })/\Ranks prog w A E { s with heap:=h' } kd S rk)
  (q:∀ out:List A0,out.Perm vs->out.Pairwise (fun x y=>rk (x,x)<=rk (y,y))->P (.done (.ret .none)) { s with heap:=sortedHeap s.heap a vs out.toArray }) :
  wpAny (model prog w) A (Ff.«list.sort» ⟨[.ref a],[]⟩) P E s:=by
 have hpl:(pairsOf vs).toList=vs.map fun v=>(v,v):=by
  unfold pairsOf
  rw [Array.toList_zip]
  simp [List.zip_eq_zipWith,List.zipWith_self]
 have fin:∀ st':Bu,(arrOf st').Perm (pairsOf vs)->Up2 rk (arrOf st') 0 (pairsOf vs).size->P (.done (.ret .none)) { s with heap:=sortedHeap s.heap a vs ((arrOf st').map (·.2)) }:=fun st' hp hs=>by
  have hp':(arrOf st').toList.Perm (vs.map fun v=>(v,v)):=by rw [<- hpl]; exact Gr.mp hp
  have hx:∀ x∈(arrOf st').toList,x=(x.2,x.2):=fun x hx=>by
   obtain ⟨v,_,rfl⟩:=A7.mp (hp'.mem_iff.mp hx)
   rfl
  have e:(arrOf st').map (·.2)=((arrOf st').toList.map (·.2)).toArray:=by
   refine K1.mp ?_
   rw [Array.toList_map]
  rw [e]
  refine q _ ?_ ?_
  ·have:=hp'.map (·.2)
   rw [B6] at this
   have e2:vs.map ((fun x:Ay=>x.2) ∘ fun v=>(v,v))=vs:=by
    conv=>rhs; rw [<- Fj vs]
    rfl
   rw [e2] at this
   exact this
  ·rw [Bd,D7]
   intro i j hi hj hij
   have hz:(arrOf st').size=(pairsOf vs).size:=hp.size_eq
   rw [Au] at hi hj
   have:=hs i j (Bi _) (by omega) (by omega)
   rw [zaW hi,zaW hj] at this
   have e1:=hx _ (Cv (l:=(arrOf st').toList) (n:=i) (by rw [Au]; exact hi))
   have e2:=hx _ (Cv (l:=(arrOf st').toList) (n:=j) (by rw [Au]; exact hj))
   rw [<- e1,<- e2]
   simpa using this
 rw [Pd]; have hlt:=Ap ho
 obtain ⟨e1,o1⟩:∃ e,(s.heap.update a (Eg fun _=>(#[]:Array A0))).get? a=some (seqObj "list" #[] e):=⟨_,Pf ho fun _ => #[]⟩
 have hz:vs.toArray.size=vs.length:=B8
 refine A1 (N8 ho rfl (A1 (Gn ho rfl (A1 (Ht o1 rfl (A1 (Q5 (A1 (Ig (Dp ?_) (Bi _))) (by show vs.length<=_; omega))))) (by rw [hz]; omega) (Bi _))))
 have o6:(((s.heap.update a (Eg fun _=>(#[]:Array A0))).push (seqObj "tuple" vs.toArray 0)).push (seqObj "list" #[] 0)).get? a=some (seqObj "list" #[] e1):=Ad _ (Ad _ o1)
 have keep:∀ b o,b≠a->s.heap.get? b=some o->(((s.heap.update a (Eg fun _=>(#[]:Array A0))).push (seqObj "tuple" vs.toArray 0)).push (seqObj "list" #[] 0)).get? b=some o:=fun b o hb e =>
  Ad _ (Ad _ (by rw [Heap.get?_update_ne _ _ _ _ hb]; exact e))
 show wpAny (model prog w) A _ P E { s with heap:=((s.heap.update a (Eg fun _=>(#[]:Array A0))).push (seqObj "tuple" vs.toArray 0)).push (seqObj "list" #[] 0) }; dsimp only
 by_cases h2:vs.toArray.size < 2
 ·rw [if_pos h2,if_pos h2]; refine A1 (Ae ?_)
  rw [Nb]; refine A1 (Ae ?_)
  dsimp only
  refine A1 (Ht o6 rfl (A1 (Gn o6 rfl ?_ (Bi _) (by rw [J5]; show (pairsOf vs).size<=_; rw [Fc]; omega))))
  simp only [bne_self_eq_false,Bo,if_false]
  refine Ae (fin (Ke general' (vs.toArray.zip vs.toArray) #[] 7 none) (G5 _) fun i j _ hij hj => ?_)
  rw [Fc] at hj
  rw [show i=j by omega]; exact Dg _
 ·rw [if_neg h2,if_neg h2]
  obtain ⟨kd,hkk,hrk⟩:=hk (by omega) _ keep
  refine A1 (hkk _ ?_)
  refine A1 (Di (zdf hrk (st:=Ke kd (vs.toArray.zip vs.toArray) #[] 7 none) (Q:=fun _ st'=>(arrOf st').Perm (pairsOf vs)/\failedOf st'=none/\Up2 rk (arrOf st') 0 (pairsOf vs).size) ?_ rfl rfl rfl (by show 2<=(pairsOf vs).size; rw [Fc]; omega) fun st' c1 c2 c3=>⟨c1,c2,c3⟩) ?_ fun _ _ e=>e)
  ·intro x hx
   have hx:x∈(pairsOf vs).toList:=hx
   rw [hpl] at hx
   obtain ⟨v,hv,rfl⟩:=A7.mp hx
   exact hS v hv
  rintro ⟨⟨⟩,st'⟩ s' ⟨rfl,hp,hf,hs⟩
  dsimp only
  refine A1 (Ht o6 rfl (A1 (Gn o6 rfl ?_ (Bi _) (by rw [J5,hp.size_eq,Fc]; omega))))
  rw [hf]
  simp only [bne_self_eq_false,Bo,if_false]
  exact Ae (fin st' hp hs)
end
section
variable {prog:Aq} {w:Bj} {A:Bb} {E:A0->A3->Prop} {s:A3}
theorem zf5 {fin:Bool} {Q:Bool->A3->Prop} {X Y:Nat} (hf:fin=decide (X < Y)):∀ {xs ys:List A0} {ns ms:List Int} (i:Nat),Du xs ns->Du ys ms->ns.length + Y=ms.length + X->Q (HT.lexLt ns ms) s->KatLex prog w A true fin Q (xs.zip ys) i s
 | _,_,_,_,i,.nil,.nil,hl,q=>by
  rw [HT.lexLt_nil_nil] at q
  refine kat_nil ?_
  rw [hf,decide_eq_false (by simp at hl; omega)]
  exact q
 | _,_,_,_,i,.nil,.cons c u hw,hl,q=>by
  rw [HT.lexLt_nil_cons] at q
  refine kat_nil ?_
  rw [hf,decide_eq_true (by simp at hl; omega)]
  exact q
 | _,_,_,_,i,.cons a t hv,.nil,hl,q=>by
  rw [HT.lexLt_cons_nil] at q
  refine kat_nil ?_
  rw [hf,decide_eq_false (by simp at hl; omega)]
  exact q
 | _,_,_,_,i,.cons a t hv,.cons c u hw,hl,q=>by
  rw [HT.lexLt_cons] at q
  rw [Gv]
  obtain ⟨e,he,hiff⟩:=HT.eqAt_int A s a t c u
  refine kat_cons (he prog w _ _ ?_)
  cases e with
  | true =>
   rw [if_pos (hiff.mp rfl)] at q
   exact kat_yes (zf5 hf (i + 1) hv hw (by simp at hl; omega) q)
  | false =>
   rw [if_neg (fun z=>absurd (hiff.mpr z) A9)] at q
   refine kat_no ?_
   rw [Fb]
   cases hi:(i == 0) with
   | true=>exact oneLt_int q
   | false=>exact kat_one _ _ (Kn q)
noncomputable def TKind (kd:F3):Prop:=kd=tuples' true\/kd=general'\/kd=oneType'
theorem keyLt_tup {kd:F3} (hkd:TKind kd) {l b:A4} {items items2:Array A0} {ns ms:List Int} {Q:Bool->A3->Prop} (hl:Jd s.heap l items) (hb:Jd s.heap b items2) (hi:Du items.toList ns) (hj:Du items2.toList ms)
  (hu:A.units < cLine) (q:Q (HT.lexLt ns ms) s):wpAny (model prog w) A (keyLt' kd (.ref l) (.ref b)) Q E s:=by
 rcases hkd with rfl | rfl | rfl
 ·obtain ⟨o,ho,_,n,hd⟩:=hl
  obtain ⟨o2,ho2,_,n2,hd2⟩:=hb
  refine kat_lt ho hd ho2 hd2 (zf5 rfl 0 hi hj ?_ q)
  have:=hi.length
  have:=hj.length
  simp at *
  omega
 ·show wpAny _ _ (oneLt' false (.ref l) (.ref b)) _ _ _
  exact kat_one _ _ (HT.lt_tupInts hl hb hi hj hu q)
 ·rw [Q7,oneLt'_eq]
  simp only [if_true]
  refine A1 (wpAny_cRoomFor hu ?_)
  obtain ⟨⟨cls,dd,data,sl⟩,ho,hc,n,hd⟩:=id hl
  obtain ⟨⟨cls2,dd2,data2,sl2⟩,ho2,hc2,n2,hd2⟩:=id hb
  simp only at hc hd hc2 hd2
  subst hc hd hc2 hd2
  refine A1 (wpAny_callSpecialIfBound?_slot (T := "tuple") ⟨_,ho,rfl⟩ Hr (K8 Hr ⟨_,ho,rfl⟩ L4 (Ku _ _) (HT.tuple_lt_ints l b items items2 n n2 dd dd2 sl sl2 ns ms hi hj) ⟨ho,ho2,?_⟩))
  exact Ct q
noncomputable def TupS (h:Bz) (f:A4->List Int) (k:Ay):Prop:=∃ a items,k.1 = .ref a/\Jd h a items/\Du items.toList (f a)/\Smalls (f a)
noncomputable def rkT (f:A4->List Int) (k:Ay):Int:=match k.1 with
 | .ref a=>((lexR 8 (f a):Nat):Int)
 | _=>0
theorem ranks_tup {kd:F3} (hkd:TKind kd) (hu:A.units < cLine) (f:A4->List Int) {h0:Bz} (hk:∀ a items,Jd h0 a items->Jd s.heap a items):Ranks prog w A E s kd (TupS h0 f) (rkT f):=⟨fun {x y st Q} hx hy he q=>by
 obtain ⟨x1,x2⟩:=x
 obtain ⟨y1,y2⟩:=y
 obtain ⟨a,items,e,ta,ia,sa⟩:=hx
 obtain ⟨b,items2,e2,tb,ib,sb⟩:=hy
 dsimp only at e e2
 subst e e2
 rw [lt'_eq]
 refine Aj (Hd ?_)
 rw [he]
 have hq:decide (rkT f (.ref a,x2) < rkT f (.ref b,y2))=HT.lexLt (f a) (f b):=by
  have:=(zef 8 (f a) (f b) sa.1 sb.1 sa.2 sb.2).1
  show decide (((lexR 8 (f a):Nat):Int) < ((lexR 8 (f b):Nat):Int))=_
  rw [B5,decide_eq_true_eq,<- this]
  omega
 rw [hq] at q
 exact Aj (Iu (K3 (keyLt_tup hkd (hk _ _ ta) (hk _ _ tb) ia ib hu ⟨rfl,Ao q⟩)))⟩
noncomputable def IsFirst (h:Bz) (v:A0) (f:Option A0):Prop:=∃ a o xs n,v = .ref a/\h.get? a=some o/\o.cls = .type "tuple" /\ o.data = .seq xs n/\f=xs[0]?
theorem zcH {M:Hv}:∀ (vs:List A0) (fs:List (Option A0)) {Q:List (Option A0)->A3->Prop},Bs (IsFirst s.heap) vs fs->Q fs s->wpAny M A (vs.mapM firstOfTuple') Q E s
 | _,_,_,.nil,h=>by rw [List.mapM_nil]; exact Ae h
 | _,_,Q,.cons (l₁ := vs) (l₂ := fs) r t,h=>by
  obtain ⟨a,o,xs,n,rfl,ho,hc,hd,rfl⟩:=r
  rw [List.mapM_cons]
  refine A1 ?_
  rw [kas_first_eq]
  refine A1 (Looks.here (show Looks M s.heap (typeOf (.ref a)) o.cls from (Looks.ld ho).andThen .now) ?_)
  rw [hc,if_neg (by first | decide | simp)]
  refine A1 (N8 ho hd (Ae ?_))
  exact A1 (zcH vs fs (Q:=fun bs s'=>wpAny M A (pure (xs[0]? :: bs)) Q E s') t (Ae h))
theorem tup_kind {M:Hv} {vs:List A0} (hv:∀ v∈vs,∃ a items ns,v = .ref a/\Jd s.heap a items/\Du items.toList ns) (h2:2<=vs.length):∃ kd,TKind kd/\∀ Q:F3->A3->Prop,Q kd s->wpAny M A (keyKind' vs.toArray) Q E s:=by
 obtain ⟨fs,pf⟩:∃ fs,Bs (IsFirst s.heap) vs fs:=by
  clear h2
  induction vs with
  | nil=>exact ⟨[],.nil⟩
  | cons v vs ih =>
   obtain ⟨fs,pf⟩:=ih fun u hu=>hv u (Aa _ hu)
   obtain ⟨a,items,ns,rfl,⟨o,ho,hc,n,hd⟩,_⟩:=hv v Ah
   exact ⟨_ :: fs,.cons ⟨a,o,items,n,rfl,ho,hc,hd,rfl⟩ pf⟩
 by_cases hall:fs.toArray.all (fun x=>x.isSome)=true
 ·have kt:∃ gs,KatTups s.heap vs gs/\gs.length=vs.length/\∀ g∈gs,∃ i t,g=Hn i t:=by
   have hall':∀ x∈fs,x.isSome=true:=by simpa using hall
   clear h2 hall
   induction pf with
   | nil=>exact ⟨[],.nil,rfl,by simp⟩
   | @cons v f vs fs r t ih =>
    obtain ⟨gs,g1,g2,g3⟩:=ih (fun u hu=>hv u (Aa _ hu)) fun x hx=>hall' x (Aa _ hx)
    obtain ⟨a,o,xs,n,rfl,ho,hc,hd,rfl⟩:=r
    obtain ⟨a',items,ns,e,⟨o',ho',hc',n',hd'⟩,hI⟩:=hv _ Ah
    cases e
    rw [ho] at ho'
    cases ho'
    rw [hd] at hd'
    injection hd' with e1 e2
    subst e1
    obtain ⟨g,hg⟩:=F9.mp (hall' _ Ah)
    obtain ⟨t',e3⟩:=hI.int_at 0 g (by rw [Ck]; exact hg)
    exact ⟨g :: gs,.cons ho hc hd hg g1,by rw [At,g2,At],fun u hu=>by
     rcases B9.mp hu with rfl | hu
     ·exact ⟨_,_,e3⟩
     ·exact g3 u hu⟩
  obtain ⟨gs,g1,g2,g3⟩:=kt
  refine ⟨tuples' true,.inl rfl,fun Q q=>kat_kind (T := .type "int") g1 (by omega) (fun v hv => ?_) (by decide) (by
   have:(Eo "int" != Eo "tuple")=true:=by decide
   rw [this]; exact q)⟩
  obtain ⟨i,t,rfl⟩:=g3 v hv
  exact .now
 ·have hne:¬ (fs.toArray.all (fun x=>x.isSome)=true):=hall
  by_cases hfst:(fs.toArray[0]?.bind id).isSome=true
  ·refine ⟨general',.inr (.inl rfl),fun Q q => ?_⟩
   rw [kat_kind_eq,Jp,map_eq_pure_bind]
   refine A1 (A1 (zcH vs _ pf (Ae ?_)))
   rw [if_neg hne,if_pos hfst]
   exact Ae q
  ·refine ⟨oneType',.inr (.inr rfl),fun Q q => ?_⟩
   rw [kat_kind_eq,Jp,map_eq_pure_bind]
   refine A1 (A1 (zcH vs _ pf (Ae ?_)))
   rw [if_neg hne,if_neg hfst]
   rw [oneTypeOnly'_eq,Jp,map_eq_pure_bind]
   refine A1 (A1 (A1 (kas_mapM (r:=Eo "tuple") _ (fun v hv' Q' hq => ?_) (Ae ?_))))
   ·obtain ⟨a,items,ns,rfl,⟨o,ho,hc,n,hd⟩,_⟩:=hv v hv'
    refine Looks.here (show Looks M s.heap (typeOf (.ref a)) o.cls from (Looks.ld ho).andThen .now) ?_
    rw [hc]
    exact hq
   ·obtain ⟨v₁,rest,rfl⟩:∃ v₁ rest,vs=v₁ :: rest:=by
     match vs,h2 with
     | v₁ :: rest,_=>exact ⟨v₁,rest,rfl⟩
    have hall2:((Jq (fun _=>Eo "tuple") (v₁ :: rest)).toArray.all fun x=>x == Eo "tuple")=true:=by
     simp only [List.all_toArray,Ia,Df]
     intro _ _
     show (Eo "tuple" == Eo "tuple")=true
     decide
    have h0:(Jq (fun _=>Eo "tuple") (v₁ :: rest)).toArray[0]?=some (Eo "tuple"):=by simp
    rw [h0]
    simp only [hall2,if_true]
    exact Ae (Ae q)
end
section
variable {prog:Aq} {w:Bj} {A:Bb} {E:A0->A3->Prop} {s:A3} {d:A4} {o:Obj} {es:Array J4} {ep:Nat}
theorem ed_walks (hh:A.handled=none) (I:A4) (hne:d≠I) (hdat:o.data = .dict es ep):Walks prog w A I [I,d] [I] es.size (fun i v=>∃ e,es[i]?=some e/\v=e.key) (fun i h=>h.IsKeyIter I d i es.size ep/\h.get? d=some o) where
 sub:=fun b hb=>by simp at hb; simp [hb]
 frame:=fun _ _ _ st hk=>⟨st.1.at fun o e=>hk I (by simp) o e,hk d (by simp) _ st.2⟩
 item:=fun i s Q E hi st hQ=>by
  refine zg5 st.1 st.2 hdat hi fun h' hit' hs' => ?_
  exact hQ _ h' s.toks ⟨es[i],by simp [hi],rfl⟩ ⟨hit',by rw [hs'.2 d hne]; exact st.2⟩ fun b o hb e=>hs'.extBut b o (fun h=>hb (by simp [h])) e
 done:=fun s Q E st hQ=>zhF hh st.1 st.2 hdat (Ac _) fun h' he'=>hQ h' s.toks fun b o hb e=>he' b o (fun h=>hb (by simp [h])) e
 self:=fun _ _ _ _ st hQ=>Nw st.1 hQ
theorem kdl_ed (lo:(d == sysModules)=false) (hc:o.ExactDict) (hdat:o.data = .dict es ep):KdlSrc prog w "dict" d d es.size (fun i v=>∃ e,es[i]?=some e/\v=e.key) (fun h=>h.get? d=some o) where
 type:=fun s hm=>⟨o,hm,hc.1⟩
 there:=fun _ hm=>⟨Ap hm,Ap hm⟩
 keep:=fun _ _ hm hk=>hk d (.inl rfl) _ hm
 notList:=by decide
 notTuple:=by decide
 hint:=fun _ _ s _ hm hq=>kdl_hint_dict (s:=s) ⟨o,hm,hc.1⟩ hq
 iter:=fun _ _ hh hm=>⟨_,_,(fun _ _ hq=>zg6 lo hm hc hdat hq),ed_walks hh _ (Bm (Ap hm)) hdat,⟨⟨_,Ba _ rfl,rfl,rfl⟩,Ad _ hm⟩⟩
end
noncomputable def tupF (H:Hp) (b:A4):List Int:=match H b with
 | some (.tup xs)=>xs.map fun v=>match v with | .int i=>i | _=>0
 | _ => []
theorem zgo {H:Hp} {b:A4} {ns:List Int} (h:H b=some (.tup (ns.map V.int))):tupF H b=ns:=by
 unfold tupF
 rw [h]
 show (ns.map V.int).map _=ns
 rw [B6]
 exact List.map_id'' (fun _=>rfl) ns
noncomputable def adr:A0->A4
 | .ref b=>b
 | _=>0
noncomputable def TupsR (H:Hp) (nss:List (List Int)) (ws:List V):Prop:=Bs (fun (ns:List Int) (v:V)=>∃ q,v = .ref q/\H q=some (.tup (ns.map V.int))) nss ws
section
variable {X:Cx}
theorem call_sortedDT (hc:X.calm=true) (hu:X.A.units + 64 < cLine):CallR X (.builtin "sorted") (fun xs H Q=>∃ (a:A4) (kvs:List (List Key×V)) (nss:List (List Int)),xs = [V.ref a]/\Rd H a (.dT kvs)/\kvs.map (·.1)=nss.map kI/\(∀ ns∈nss,Smalls ns)/\nss.length<=4096 /\
  ∀ p (nss':List (List Int)) (ws:List V),H p=none->nss'.Perm nss->nss'.Pairwise (fun x y=>lexR 8 x<=lexR 8 y)->TupsR H nss' ws->Q (.ref p) (upd H p (.lst ws))):=by
 intro pins s σ H xs us Q I r h
 obtain ⟨a,kvs,nss,rfl,hq,hk,hsm,hb,q⟩:=h
 obtain ⟨u,rfl,ru⟩:=zbR r
 cases ru
 obtain ⟨hz,lo,xs,pr,o,es,ep,ho,hex,hdat,hes,hnd⟩:=(show ObjOk X.prog X.w H s.heap a (.dT kvs) from hq.ok I.hok)
 have hlx:kvs.length=xs.length:=C3 pr
 have hle:es.size=xs.length:=by rw [<- Au,hes,A2]
 have hlen:xs.length=nss.length:=by
  have e2:=congrArg Ed hk
  rw [A2,A2] at e2
  omega
 have big:(4096:Nat)<=sizeLine:=by decide
 refine F7 Nz N7 N9 (Na _) ?_
 unfold Ff.«sorted»
 refine A1 (m:=checkCount "sorted" 1 1 _) (Ae ?_)
 refine A1 (Iy (A:=X.A.in1) (kdl_ed (ep:=ep) lo hex hdat) (I.ok.hd hc) ho (by omega) fun h' tk acc hkeep hacc => ?_)
 have hl:acc.toList.length=xs.length:=by rw [Au,<- hle]; exact hacc.1
 have hrow:∀ (j:Nat) v,acc.toList[j]?=some v->∃ b ns items,v = .ref b/\nss[j]?=some ns/\H b=some (.tup (ns.map V.int))/\Jd s.heap b items/\Du items.toList ns:=by
  intro j v e1
  obtain ⟨e,e2,e3⟩:=hacc.2 j v (by rw [<- Ck]; exact e1)
  rw [<- Ck,hes,Af] at e2
  cases hx:xs[j]? with
  | none=>rw [hx] at e2; cases e2
  | some x =>
   rw [hx] at e2
   cases e2
   obtain ⟨kv,e4,e5,e6,_⟩:=Bs.rev pr hx
   have e7:(kvs.map (·.1))[j]?=some kv.1:=by rw [Af,e4]; rfl
   rw [hk,Af] at e7
   cases hn:nss[j]? with
   | none=>rw [hn] at e7; cases e7
   | some ns =>
    rw [hn] at e7
    have e7:kI ns=kv.1:=Bh e7
    rw [<- e7,kI_V] at e6
    obtain ⟨_,its,rv,it⟩:=(show ObjOk X.prog X.w H s.heap x.2.1 (.tup (ns.map V.int)) from I.hok _ _ e6)
    exact ⟨_,ns,its.toArray,e3,rfl,e6,it,by simpa using zc5 rv⟩
 have hmem:∀ v∈acc.toList,∃ b items,v = .ref b/\Jd s.heap b items/\Du items.toList (tupF H b)/\Smalls (tupF H b)/\H b=some (.tup ((tupF H b).map V.int)):=fun v hv=>by
  obtain ⟨j,hj,e⟩:=Ei hv
  obtain ⟨b,ns,items,rfl,e1,e2,e3,e4⟩:=hrow j v (by rw [A8 hj,e])
  have:=zgo e2
  rw [<- this] at e1 e2 e4
  exact ⟨b,items,rfl,e3,e4,hsm _ (Be e1),e2⟩
 have hmap:acc.toList.map (fun v=>tupF H (adr v))=nss:=by
  refine Ft fun j => ?_
  rw [Af]
  by_cases hj:j < acc.toList.length
  ·obtain ⟨b,ns,items,e0,e1,e2,_,_⟩:=hrow j _ (A8 hj)
   rw [A8 hj,e1,Cu,e0]
   show some (tupF H b)=_
   rw [zgo e2]
  ·rw [Co (by omega),Co (by omega)]
   rfl
 refine A1 (Ig ?_ (by rw [hl]; omega))
 have hoL:(h'.push (seqObj "list" acc.toList.toArray 0)).get? h'.objs.size=some (seqObj "list" acc.toList.toArray 0):=Ba _ rfl
 refine A1 (Dp (E1 M1 ⟨_,hoL,rfl⟩ Lk (sortR (rkT (tupF H)) (TupS s.heap (tupF H)) hoL (fun v hv => ?_) (by omega) (fun h2 h3 hk3 => ?_) fun out a2 a3=>⟨_,rfl,?_⟩) (M2 _)))
 ·obtain ⟨b,items,rfl,e3,e4,e5,_⟩:=hmem v hv
  exact ⟨b,items,rfl,e3,e4,e5⟩
 ·have kp:∀ a items,Jd s.heap a items->Jd h3 a items:=fun b items it=>by
   obtain ⟨o',e1,e2⟩:=it
   exact ⟨o',hk3 b _ (Bm (Ap (hkeep _ _ e1))) (Ad _ (hkeep _ _ e1)),e2⟩
  obtain ⟨kd,k1,k2⟩:=tup_kind (M:=model X.prog X.w) (A:=X.A.in1.in1) (E:=fun e s'=>_) (s:={ s with heap:=h3,toks:=tk }) (vs:=acc.toList) (fun v hv=>by
   obtain ⟨b,items,rfl,e3,e4,_⟩:=hmem v hv
   exact ⟨b,items,_,rfl,kp _ _ e3,e4⟩) h2
  exact ⟨kd,k2,ranks_tup (s:={ s with heap:=h3,toks:=tk }) k1 (by show X.A.units + 1 + 1 < cLine; omega) (tupF H) kp⟩
 ·refine Ae ⟨_,rfl,?_⟩
  obtain ⟨e,he⟩:=Mm (out:=out.toArray) hoL
  have I1:Inv X pins σ H { s with heap:=h',toks:=tk }:=I.kept hkeep
  have hvo:Vals (out.map fun v=>V.ref (adr v)) out:=by
   have:∀ v∈out,∃ b,v = .ref b:=fun v hv=>by
    obtain ⟨b,_,e,_⟩:=hmem v (a2.mem_iff.mp hv)
    exact ⟨b,e⟩
   clear a2 a3 he
   induction out with
   | nil=>exact .nil
   | cons v out ih =>
    obtain ⟨b,rfl⟩:=this v Ah
    exact .cons rfl (ih fun u hu=>this u (Aa _ hu))
  have I2:=Inv.laid (o := .lst (out.map fun v=>V.ref (adr v))) (a:=h'.objs.size) (h':=sortedHeap (h'.push (seqObj "list" acc.toList.toArray 0)) h'.objs.size acc.toList out.toArray) (t':=tk) I1 (fun b o hb=>by
   have lt:=Ap hb
   rw [M0 (Bm lt) (by rw [F5]; exact Fy lt)]
   exact Ad _ hb) (Ac _) (show ObjOk X.prog X.w _ _ _ (.lst (out.map fun v=>V.ref (adr v))) from ⟨by rw [A2,a2.length_eq]; omega,out,e,hvo,he⟩)
  refine ⟨.ref h'.objs.size,_,I2,rfl,q _ (out.map fun v=>tupF H (adr v)) _ (I1.hok.fresh (Ac _)) ?_ ?_ ?_⟩
  ·rw [<- hmap]
   exact a2.map _
  ·rw [Bd]
   refine Ew (fun {x y} hx hy h => ?_) a3
   obtain ⟨b,_,rfl,_⟩:=hmem x (a2.mem_iff.mp hx)
   obtain ⟨c,_,rfl,_⟩:=hmem y (a2.mem_iff.mp hy)
   have h:((lexR 8 (tupF H b):Nat):Int)<=((lexR 8 (tupF H c):Nat):Int):=h
   show lexR 8 (tupF H b)<=lexR 8 (tupF H c)
   omega
  ·have hm:∀ v∈out,H (adr v)=some (.tup ((tupF H (adr v)).map V.int)):=fun v hv=>by
    obtain ⟨b,_,rfl,_,_,_,e⟩:=hmem v (a2.mem_iff.mp hv)
    exact e
   clear a2 a3 he hvo I2
   induction out with
   | nil=>exact .nil
   | cons v out ih=>exact .cons ⟨_,rfl,hm v Ah⟩ (ih fun u hu=>hm u (Aa _ hu))
end
section
variable {X:Cx}
end
theorem behN_perm {C C':Combs} (p:C.Perm C') (l:List Nat):behN C l=behN C' l:=by
 unfold behN
 refine Ev fun s _ => ?_
 congr 1
 funext t
 exact any_perm (steps_perm p _) _
theorem zeA {C C':Combs} (p:C.Perm C'):∀ k,rowN C k=rowN C' k
 | 0=>rfl
 | k + 1=>by
  show behN C (rowN C k)=behN C' (rowN C' k)
  rw [zeA p k,behN_perm p]
theorem beh_nd (C:Combs) (l:List Nat):(behN C l).Nodup:=(zhe C l).imp fun h=>Bm h
theorem zdg (s:Nat):Smalls (aheadOf (s:Int)):=by
 refine ⟨?_,fun x hx=>by have:=zbx x hx; omega⟩
 unfold aheadOf
 rw [A2]
 exact Br (Cn _ _) (by rw [Aw]; decide)
end L2
set_option maxHeartbeats 4000000
namespace L2
open PySem PySem.Spec PyProof.Rows PySem.W
section
variable {prog:Aq} {w:Bj} {A:Bb} {E:A0->A3->Prop} {s:A3}
end
noncomputable def storeAll (kvs:List (Key×A0)):List (Key×A0):=kvs.foldl (fun m p=>stored m p.1 p.2) []
section
variable {prog:Aq} {w:Bj} {A:Bb} {E:A0->A3->Prop} {s:A3}
end
section
variable {prog:Aq} {w:Bj} {A:Bb} {E:A0->A3->Prop} {s:A3}
end
section
variable {X:Cx}
end
end L2
namespace L2
open PySem PySem.Spec PyProof.Rows
section
variable {X:Cx} {pins:List (A4×Obj)} {σ : St} {H:Hp} {s:A3} {h':Bz}
end
end L2
namespace Att
open PySem PySem.W PySem.Calls PyProof.Rows
end Att
namespace L2
open PySem PySem.Spec PyProof.Rows
section
variable {X:Cx}
theorem zeb:OpR X (binaryOp .Mult) (rI IntMulOk fun i j => .int (i * j)):=opI fun _ _ _ _ _ _ _ hc q=>mul_int q hc
end
theorem zaR {s d:Nat} (hs:s < 128):((d:Nat):Int)∈aheadOf (s:Int) ↔ s.testBit d=true:=by
 rw [mem_ahead]
 constructor
 ·rintro ⟨_,_,h⟩
  simpa using h
 ·intro h
  refine ⟨by omega,Gm fun z => ?_,by simpa using h⟩
  have h7:7<=d:=by omega
  rw [Il (Ai hs (show 128<=2 ^ d from Gd (n:=2) (by decide) h7))] at h
  cases h
theorem zck {a b:Nat} (h:∀ d,a.testBit d=b.testBit d):a=b:=J9 h
noncomputable def StB (C:Combs) (s:Nat) (x:Str) (n:Nat):Prop:=(s.testBit 0=true/\x=A5 "" /\ ∀ d,n.testBit d=s.testBit (d + 1))\/(s.testBit 0=false/\∃ c∈C,x=c.1/\(∀ d:Nat,s.testBit d=true->(d:Int) ∉ c.2)/\∀ d,n.testBit d=(s.testBit (d + 1) || decide (((d + 1:Nat):Int)∈c.2)))
theorem zeU {C:Combs} (g:GC C) {s:Nat} (hs:s < 128) {p:Str×List Int} (hp:p∈goesOf C (aheadOf (s:Int))):∃ m:Nat,m < 128/\worth p.2=(m:Int)/\StB C s p.1 m:=by
 obtain ⟨k1,k2,k3,_⟩:=zb4 hs g hp
 refine ⟨(worth p.2).toNat,k1,by omega,?_⟩
 have e:=zdX k3
 generalize (worth p.2).toNat=m at k1 e
 unfold goesOf at hp
 by_cases h0:(0:Int)∈aheadOf (s:Int)
 ·rw [if_pos h0] at hp
  have hp:=A6.mp hp
  refine .inl ⟨(zaR hs).mp h0,by rw [hp],fun d => ?_⟩
  rw [B5,<- zaR k1,<- zaR hs,<- e,hp,zdr zbx (by simp)]
  simp
 ·rw [if_neg h0] at hp
  obtain ⟨c,hc,rfl⟩:=A7.mp hp
  obtain ⟨hc1,hc2⟩:=Ax.mp hc
  have hm:meets (aheadOf (s:Int)) c.2=false:=by simpa using hc2
  refine .inr ⟨?_,c,hc1,rfl,fun d hd z=>meets_false.mp hm _ z ((zaR hs).mpr hd),fun d => ?_⟩
  ·cases z:s.testBit 0 with
   | false=>rfl
   | true=>exact absurd ((zaR hs).mpr z) h0
  ·rw [B5,<- zaR k1,Kk,decide_eq_true_eq,<- zaR hs,<- e]
   exact zdr zbx (zbZ (g c hc1)) d
theorem zcW {C:Combs} (g:GC C) {s n:Nat} (hs:s < 128) {x:Str}:(x,(n:Int))∈stp C s ↔ n < 128/\StB C s x n:=by
 rw [<- zbj hs g,A7]
 constructor
 ·rintro ⟨p,hp,e⟩
  obtain ⟨m,m1,m2,m3⟩:=zeU g hs hp
  injection e with e1 e2
  have:m=n:=by omega
  subst this
  exact ⟨m1,e1 ▸ m3⟩
 ·rintro ⟨hn,h⟩
  have key:∀ p∈goesOf C (aheadOf (s:Int)),p.1=x->(∀ m,worth p.2=(m:Nat)->StB C s p.1 m->m=n)->∃ p∈goesOf C (aheadOf (s:Int)),(p.1,worth p.2)=(x,(n:Int)):=fun p hp e1 e2=>by
   obtain ⟨m,_,m2,m3⟩:=zeU g hs hp
   exact ⟨p,hp,by rw [e1,m2,e2 m m2 m3]⟩
  rcases h with ⟨h0,rfl,hb⟩ | ⟨h0,c,hc,rfl,hx,hb⟩
  ·refine key (A5 "",afterOf (aheadOf (s:Int)) []) ?_ rfl fun m _ hm => ?_
   ·unfold goesOf
    rw [if_pos (show (0:Int)∈aheadOf (s:Int) from (zaR hs).mpr h0)]
    exact A6.mpr rfl
   ·rcases hm with ⟨_,_,hb'⟩ | ⟨h0',_⟩
    ·exact zck fun d=>by rw [hb,hb']
    ·rw [h0] at h0'; cases h0'
  ·have n0:(0:Int) ∉ aheadOf (s:Int):=fun z=>by
    have:=(zaR (d:=0) hs).mp z
    rw [h0] at this; cases this
   have hp:(c.1,afterOf (aheadOf (s:Int)) c.2)∈goesOf C (aheadOf (s:Int)):=by
    unfold goesOf
    rw [if_neg n0]
    refine A7.mpr ⟨c,Ax.mpr ⟨hc,?_⟩,rfl⟩
    have:meets (aheadOf (s:Int)) c.2=false:=meets_false.mpr fun t ht z=>by
     have h1:=zbx t z
     obtain ⟨d,rfl⟩:=Fl h1.1
     exact hx d ((zaR hs).mp z) ht
    rw [this]; rfl
   obtain ⟨k1,k2,k3,_⟩:=zb4 hs g hp
   have e:=zdX k3
   refine ⟨_,hp,?_⟩
   have e2:(worth (afterOf (aheadOf (s:Int)) c.2)).toNat=n:=by
    refine zck fun d => ?_
    rw [B5,<- zaR k1,hb,Kk,decide_eq_true_eq,<- zaR hs]
    dsimp only at e ⊢
    rw [<- e]
    exact zdr zbx (zbZ (g c hc)) d
   dsimp only at k2 e2 ⊢
   rw [<- e2,show (((worth (afterOf (aheadOf (s:Int)) c.2)).toNat:Nat):Int)=worth (afterOf (aheadOf (s:Int)) c.2) by omega]
noncomputable def hit (C:Combs) (x:Nat×Str) (q:Nat):Bool:=decide (x.1<=q) && decide (((q - x.1:Nat):Int)∈tkOf C x.2)
noncomputable def cov (C:Combs) (l:List (Nat×Str)) (q:Nat):Nat:=(l.map fun x=>ind (hit C x q)).sum
theorem zb5 (C:Combs) (l:List (Nat×Str)) (x:Nat×Str) (q:Nat):cov C (l ++ [x]) q=cov C l q + ind (hit C x q):=by
 unfold cov
 rw [Az,Kh]
 simp
noncomputable def chs (C:Combs):Nat->List (List (Nat×Str))
 | 0 => [[]]
 | p + 1=>(chs C p).flatMap fun r=>r :: C.map fun c=>r ++ [(p,c.1)]
noncomputable def OkC (C:Combs) (l:List (Nat×Str)) (p:Nat):Prop:=(∀ q,q < p->cov C l q=1)/\∀ q,q < p + 8->cov C l q<=1
noncomputable def shp (C:Combs) (l:List (Nat×Str)) (p:Nat):Nat:=bitSum (fun d=>decide (cov C l (p + d)=1)) 7
theorem zcO {C:Combs}:∀ {p:Nat} {l:List (Nat×Str)},l∈chs C p->∀ x∈l,x.1 < p/\x.2∈C.map (·.1)
 | 0,l,h,x,hx=>by
  rw [A6.mp (show l ∈ [[]] from h)] at hx
  cases hx
 | p + 1,l,h,x,hx=>by
  obtain ⟨r,hr,h⟩:=Ds.mp h
  rcases B9.mp h with rfl | h
  ·have:=zcO hr x hx
   exact ⟨by omega,this.2⟩
  ·obtain ⟨c,hc,rfl⟩:=A7.mp h
   rcases Al.mp hx with z | z
   ·have:=zcO hr x z
    exact ⟨by omega,this.2⟩
   ·rw [A6.mp z]
    exact ⟨Em _,A7.mpr ⟨c,hc,rfl⟩⟩
theorem tk_in {C:Combs} (g:GC C) {x:Str} {t:Int} (h:t∈tkOf C x):0<=t/\t<=7:=by
 unfold tkOf at h
 cases e:cGet C x with
 | none=>rw [e] at h; cases h
 | some ts=>rw [e] at h; exact zbZ (g _ (zel e)) t h
theorem zfI {α : Type} {l:List α} {f : α -> Nat} (h:∀ x∈l,f x=0):(l.map f).sum=0:=by
 induction l with
 | nil=>rfl
 | cons a l ih =>
  rw [An,D5,h a Ah,ih fun x hx=>h x (Aa _ hx)]
theorem zci {C:Combs} (g:GC C) {p:Nat} {l:List (Nat×Str)} (h:l∈chs C p) {q:Nat} (hq:p + 7<=q):cov C l q=0:=zfI fun x hx=>by
 have:=(zcO h x hx).1
 unfold hit
 rw [decide_eq_false (show ¬ ((q - x.1:Nat):Int)∈tkOf C x.2 from fun z=>by have:=(tk_in g z).2; omega),Bool.and_false]
 rfl
theorem zdM (C:Combs) (l:List (Nat×Str)) (p:Nat):shp C l p < 128:=zcE _ 7
theorem zaE {C:Combs} (g:GC C) {p:Nat} {l:List (Nat×Str)} (h:l∈chs C p) (d:Nat):(shp C l p).testBit d=decide (cov C l (p + d)=1):=by
 unfold shp
 rw [zbJ]
 by_cases hd:d < 7
 ·rw [decide_eq_true hd,Fb]
 ·rw [decide_eq_false hd,F6,zci g h (by omega)]
  rfl
theorem zga {C:Combs} (nd:(C.map (·.1)).Nodup) {c:Str×List Int} (hc:c∈C) (p d:Nat):hit C (p,c.1) (p + d)=decide ((d:Int)∈c.2):=by
 unfold hit tkOf
 rw [zcf nd hc]
 simp
theorem hit_below {C:Combs} {p q:Nat} {x:Str} (h:q < p):hit C (p,x) q=false:=by
 unfold hit
 rw [decide_eq_false (show ¬ p<=q by omega),F6]
theorem zfk {C:Combs} {p:Nat} {l:List (Nat×Str)} (hl:l∈chs C p) (g:GC C):OkC C l (p + 1) ↔ OkC C l p/\cov C l p=1:=by
 constructor
 ·rintro ⟨h1,h2⟩
  exact ⟨⟨fun q hq=>h1 q (by omega),fun q hq=>h2 q (by omega)⟩,h1 p (by omega)⟩
 ·rintro ⟨⟨h1,h2⟩,h3⟩
  refine ⟨fun q hq => ?_,fun q hq => ?_⟩
  ·by_cases e:q=p
   ·rw [e]; exact h3
   ·exact h1 q (by omega)
  ·by_cases e:q < p + 8
   ·exact h2 q e
   ·rw [zci g hl (by omega)]; omega
theorem zfj {C:Combs} {p:Nat} {l:List (Nat×Str)} (hl:l∈chs C p) (g:GC C) (nd:(C.map (·.1)).Nodup) {c:Str×List Int} (hc:c∈C):OkC C (l ++ [(p,c.1)]) (p + 1) ↔ OkC C l p/\cov C l p=0/\∀ d:Nat,cov C l (p + d)=1->(d:Int) ∉ c.2:=by
 have e1:∀ q,q < p->cov C (l ++ [(p,c.1)]) q=cov C l q:=fun q hq=>by rw [zb5,hit_below hq]; rfl
 have e2:∀ d,cov C (l ++ [(p,c.1)]) (p + d)=cov C l (p + d) + ind (decide ((d:Int)∈c.2)):=fun d=>by rw [zb5,zga nd hc]
 have h0:(0:Int)∈c.2:=zcN (g c hc)
 have e0:cov C (l ++ [(p,c.1)]) p=cov C l p + 1:=by
  have:=e2 0
  rw [decide_eq_true (show ((0:Nat):Int)∈c.2 from h0)] at this
  exact this
 constructor
 ·rintro ⟨h1,h2⟩
  have hp:=h1 p (by omega)
  refine ⟨⟨fun q hq=>by rw [<- e1 q hq]; exact h1 q (by omega),fun q hq => ?_⟩,by omega,fun d hd z => ?_⟩
  ·by_cases e:q < p
   ·rw [<- e1 q e]; exact h2 q (by omega)
   ·have:=h2 q (by omega)
    have e3:=e2 (q - p)
    rw [show p + (q - p)=q by omega] at e3
    omega
  ·have e3:=e2 d
   rw [hd,decide_eq_true z] at e3
   have hd8:d<=7:=by have:=(zbZ (g c hc) _ z).2; omega
   have:=h2 (p + d) (by omega)
   rw [e3] at this
   exact absurd this (by decide)
 ·rintro ⟨⟨h1,h2⟩,h3,h4⟩
  refine ⟨fun q hq => ?_,fun q hq => ?_⟩
  ·by_cases e:q=p
   ·rw [e,e0,h3]
   ·rw [e1 q (by omega)]; exact h1 q (by omega)
  ·by_cases e:q < p
   ·rw [e1 q e]; exact h2 q (by omega)
   ·have e3:=e2 (q - p)
    rw [show p + (q - p)=q by omega] at e3
    have hle:cov C l q<=1:=by
     by_cases e':q < p + 8
     ·exact h2 q e'
     ·rw [zci g hl (by omega)]; omega
    rw [e3]
    by_cases z:((q - p:Nat):Int)∈c.2
    ·have:cov C l q≠1:=fun y=>h4 (q - p) (by rw [show p + (q - p)=q by omega]; exact y) z
     rw [decide_eq_true z]
     show cov C l q + 1<=1
     omega
    ·rw [decide_eq_false z]
     exact hle
theorem zhd {C:Combs} (g:GC C) (nd:(C.map (·.1)).Nodup):∀ (p n:Nat),n∈rowN C p ↔ ∃ l∈chs C p,OkC C l p/\shp C l p=n
 | 0,n=>by
  show n ∈ [0] ↔ ∃ l ∈ [[]],OkC C l 0/\shp C l 0=n
  have e:shp C [] 0=0:=rfl
  have o:OkC C [] 0:=⟨fun q hq=>by omega,fun q _=>Bi _⟩
  rw [A6]
  constructor
  ·rintro rfl
   exact ⟨[],A6.mpr rfl,o,e⟩
  ·rintro ⟨l,hl,_,h⟩
   rw [A6.mp hl,e] at h
   exact h.symm
 | p + 1,n=>by
  have ih:=zhd g nd p
  rw [show rowN C (p + 1)=behN C (rowN C p) from rfl,beh_mem]
  have bn:∀ l∈chs C p,∀ d,(shp C l (p + 1)).testBit d=decide (cov C l (p + 1 + d)=1):=fun l hl d=>zaE g (p:=p + 1) (Ds.mpr ⟨l,hl,Ah⟩) d
  have bs:∀ l∈chs C p,∀ c∈C,∀ d,(shp C (l ++ [(p,c.1)]) (p + 1)).testBit d=decide (cov C (l ++ [(p,c.1)]) (p + 1 + d)=1):=fun l hl c hc d=>zaE g (p:=p + 1) (Ds.mpr ⟨l,hl,Aa _ (A7.mpr ⟨c,hc,rfl⟩)⟩) d
  constructor
  ·rintro ⟨hn,t,ht,pr,hp,e⟩
   have t128:=(zff C p).1 t ht
   obtain ⟨l,hl,ol,rfl⟩:=(ih t).mp ht
   obtain ⟨x,y⟩:=pr
   have hy:=(zcQ g t128 hp).1
   dsimp only at e hy
   have:y=(n:Int):=by omega
   subst this
   obtain ⟨_,hb⟩:=(zcW g t128).mp hp
   rcases hb with ⟨h0,_,hb⟩ | ⟨h0,c,hc,_,hx,hb⟩
   ·rw [zaE g hl,decide_eq_true_eq] at h0
    refine ⟨l,Ds.mpr ⟨l,hl,Ah⟩,(zfk hl g).mpr ⟨ol,h0⟩,zck fun d => ?_⟩
    rw [bn l hl,hb,zaE g hl,show p + 1 + d=p + (d + 1) by omega]
   ·rw [zaE g hl,decide_eq_false_iff_not] at h0
    have hz:cov C l p=0:=by have:=ol.2 p (by omega); have h0:¬ cov C l p=1:=h0; omega
    refine ⟨l ++ [(p,c.1)],Ds.mpr ⟨l,hl,Aa _ (A7.mpr ⟨c,hc,rfl⟩)⟩,(zfj hl g nd hc).mpr ⟨ol,hz,fun d hd=>hx d (by rw [zaE g hl,decide_eq_true hd])⟩,zck fun d => ?_⟩
    rw [bs l hl c hc,hb,zaE g hl,show p + 1 + d=p + (d + 1) by omega,zb5,zga nd hc]
    have hx':=hx (d + 1)
    rw [zaE g hl,decide_eq_true_eq] at hx'
    have hle:cov C l (p + (d + 1))<=1:=by
     by_cases e':d + 1 < 8
     ·exact ol.2 _ (by omega)
     ·rw [zci g hl (by omega)]; omega
    by_cases a:cov C l (p + (d + 1))=1
    ·rw [decide_eq_false (hx' a),a]; rfl
    ·have a0:cov C l (p + (d + 1))=0:=by omega
     by_cases z:((d + 1:Nat):Int)∈c.2
     ·rw [decide_eq_true z,a0]; rfl
     ·rw [decide_eq_false z,a0]; rfl
  ·rintro ⟨l',hl',ol',rfl⟩
   refine ⟨zdM _ _ _,?_⟩
   obtain ⟨l,hl,h⟩:=Ds.mp hl'
   rcases B9.mp h with rfl | h
   ·obtain ⟨ol,h0⟩:=(zfk hl g).mp ol'
    refine ⟨shp C l' p,(ih _).mpr ⟨l',hl,ol,rfl⟩,(A5 "",((shp C l' (p + 1):Nat):Int)),(zcW g (zdM _ _ _)).mpr ⟨zdM _ _ _,.inl ⟨?_,rfl,fun d => ?_⟩⟩,by simp⟩
    ·rw [zaE g hl]; exact decide_eq_true h0
    ·rw [bn l' hl,zaE g hl,show p + 1 + d=p + (d + 1) by omega]
   ·obtain ⟨c,hc,rfl⟩:=A7.mp h
    obtain ⟨ol,h0,hx⟩:=(zfj hl g nd hc).mp ol'
    refine ⟨shp C l p,(ih _).mpr ⟨l,hl,ol,rfl⟩,(c.1,((shp C (l ++ [(p,c.1)]) (p + 1):Nat):Int)),(zcW g (zdM _ _ _)).mpr ⟨zdM _ _ _,.inr ⟨?_,c,hc,rfl,fun d hd => ?_,fun d => ?_⟩⟩,by simp⟩
    ·rw [zaE g hl]; exact decide_eq_false (by rw [show p + 0=p from rfl,h0]; decide)
    ·rw [zaE g hl,decide_eq_true_eq] at hd
     exact hx d hd
    ·rw [bs l hl c hc,zaE g hl,show p + 1 + d=p + (d + 1) by omega,zb5,zga nd hc]
     have hx':=hx (d + 1)
     have hle:cov C l (p + (d + 1))<=1:=by
      by_cases e':d + 1 < 8
      ·exact ol.2 _ (by omega)
      ·rw [zci g hl (by omega)]; omega
     by_cases a:cov C l (p + (d + 1))=1
     ·rw [decide_eq_false (hx' a),a]; rfl
     ·have a0:cov C l (p + (d + 1))=0:=by omega
      by_cases z:((d + 1:Nat):Int)∈c.2
      ·rw [decide_eq_true z,a0]; rfl
      ·rw [decide_eq_false z,a0]; rfl
section
variable {P:Aq} {w:Bj} {A:Bb} {E:A0->A3->Prop} {s:A3}
noncomputable def Inner (P:Aq) (w:Bj) (h:Bz):List (List Key)->List A0->Prop:=Bs fun k v=>∃ b,v = .ref b/\M9 (mixKind P w) h k b
noncomputable def IsNest (P:Aq) (w:Bj) (h:Bz) (ks:List (List Key)) (a:A4):Prop:=∃ ob its m,h.get? a=some ob/\ob.cls = .type "tuple" /\ ob.data = .seq its m/\Inner P w h ks its.toList
theorem IsNest.type {ks:List (List Key)} {a:A4} (x:IsNest P w s.heap ks a):s.TypeIs (.ref a) "tuple" := by
 obtain ⟨ob,_,_,e1,e2,_⟩:=x
 exact ⟨ob,e1,e2⟩
theorem zeR {h:Bz}:∀ {x y:List (List Key)} {vs:List A0},Inner P w h x vs->Inner P w h y vs->x=y
 | _,_,_,.nil,.nil=>rfl
 | _,_,_,.cons ⟨b,e,k⟩ r,.cons ⟨c,e',k'⟩ r'=>by
  rw [e] at e'
  cases e'
  rw [k.inj k',zeR r r']
theorem zf0 {h:Bz} {a:A4} {x y:List (List Key)} (hx:IsNest P w h x a) (hy:IsNest P w h y a):x=y:=by
 obtain ⟨ob,its,m,e1,_,e2,r⟩:=hx
 obtain ⟨ob',its',m',e1',_,e2',r'⟩:=hy
 rw [e1] at e1'
 cases e1'
 rw [e2] at e2'
 cases e2'
 exact zeR r r'
theorem nest_keeps {h h':Bz} {ks:List (List Key)} {a d:A4} {o:Obj} {es:Array J4} {ep:Nat} (x:IsNest P w h ks a) (ho:h.get? d=some o) (hd:o.data = .dict es ep) (hs:Fv d h h'):IsNest P w h' ks a:=by
 obtain ⟨ob,its,m,e1,e2,e3,r⟩:=x
 refine ⟨ob,its,m,?_,e2,e3,Bs.mapP r fun k v ⟨b,e,kk⟩=>⟨b,e,kk.keeps ho hd hs⟩⟩
 rw [<- e1]
 refine hs.2 a fun z => ?_
 rw [z,ho] at e1
 cases e1
 rw [hd] at e3
 cases e3
noncomputable def nestHash (P:Aq) (w:Bj) (ks:List (List Key)):Int:=reduceHash (Et (ks.map (tupleKeyHash (mixKind P w))))
noncomputable def nestDraws (ks:List (List Key)):Nat:=(ks.map fun k=>k.length + 1).sum + 1
theorem nest_hash {ks:List (List Key)} {a:A4} {Q:Int->A3->Prop} (hu:A.units + 4 < cLine) (hk:IsNest P w s.heap ks a) (q:Q (nestHash P w ks) { s with toks:=s.toks + nestDraws ks }):wpAny (model P w) A (pyHash (.ref a)) Q E s:=by
 have ty:=hk.type
 obtain ⟨ob,its,m,e1,_,e3,r⟩:=hk
 unfold pyHash pyHashByItsType
 refine A1 (wpAny_cRoomFor_or (.inr (by omega)) (A1 (Gx ty F.slot_tuple_hash.lookup ?_)))
 dsimp only
 rw [if_neg (by rw [beq_builtin_none]; decide)]
 refine A1 (Gx ty F.slot_tuple_hash.lookup ?_)
 refine A1 (wpAny_callSpecialIfBoundUnlessNone?_slot ty F.slot_tuple_hash (E1 F.slot_tuple_hash ty F.entry_tuple_hash ?_ (F.args_tuple_hash_1 _)))
 change wpAny (model P w) A.in1 (P9 (B1 a) >>= fun arr=>_) _ E s
 refine A1 (K7 e1 e3 (A1 ?_))
 rw [<- Jj]
 refine Gi _ (fun rest (b:Array Int) s'=>∃ done left,ks=done ++ left/\Inner P w s.heap left rest/\b.toList=done.map (tupleKeyHash (mixKind P w))/\s'={ s with toks:=s.toks + (done.map fun k=>k.length + 1).sum }) _ ?_ ?_ _ _ ⟨[],ks,rfl,r,rfl,rfl⟩
 ·rintro v rest b s' ⟨done,left,rfl,hl,hb,rfl⟩
  cases hl with
  | @cons k _ ks' _ h1 hl' =>
   obtain ⟨c,rfl,hc⟩:=h1
   have fin:∃ done' left',done ++ k :: ks'=done' ++ left'/\Inner P w s.heap left' rest/\(b.push (tupleKeyHash (mixKind P w) k)).toList=done'.map (tupleKeyHash (mixKind P w))/\({ s with toks:=s.toks + (done.map fun k=>k.length + 1).sum + (k.length + 1) }:A3)={ s with toks:=s.toks + (done'.map fun k=>k.length + 1).sum } :=
    ⟨done ++ [k],ks',by simp,hl',by simp [hb],by simp [Eh]⟩
   refine A1 (wpAny_pyHash_tuple (knd:=mixKind P w) (s:={ s with toks:=s.toks + (done.map fun k=>k.length + 1).sum }) (by rw [Kz]; omega) hc ?_)
   first
    | exact Ae fin
    | exact A1 (Ae (Ae fin))
 ·rintro b s' ⟨done,left,rfl,hl,hb,rfl⟩
  cases hl
  rw [Cd] at q
  change wpAny (model P w) A.in1 (retInt (Et b.toList)) _ E _
  rw [hb]
  refine Pc ?_
  unfold nestHash reduceHash at q
  unfold nestDraws at q
  rw [<- Eh] at q
  change wpAny (model P w) A (if (decide (-(2:Int) ^ 63<=Et (done.map (tupleKeyHash (mixKind P w)))) && decide (Et (done.map (tupleKeyHash (mixKind P w))) < 2 ^ 63))=true then _ else _) Q E _
  split
  ·rename_i c
   rw [if_pos c] at q
   exact Ae q
  ·rename_i c
   rw [if_neg c] at q
   exact A1 (Gh (Ae q))
theorem nest_eq_tree {x y:List (List Key)} {a b:A4} {R:Nd->A3->Prop} (hu:A.units < cLine) (hx:IsNest P w s.heap x a) (hy:IsNest P w s.heap y b) (q:R (.done (.ret (.bool (decide (x=y))))) s) :
  wpAny (model P w) A (Ff.«tuple.__eq__» ⟨[.ref a,.ref b],[]⟩) R E s:=by
 have ty:=hy.type
 obtain ⟨oa,xs,na,a1,_,a3,ra⟩:=hx
 obtain ⟨ob,ys,nb,b1,_,b3,rb⟩:=hy
 change wpAny (model P w) A (isInstance (B1 b) (.type "tuple") >>= fun c=>_) R E s
 refine A1 (Iv ty Jf ?_)
 simp only [Ef,Bo,if_false]
 refine A1 (K7 a1 a3 (A1 (K7 b1 b3 (A1 ?_))))
 refine Gi _ (fun rest r s'=>r.1=none/\s'=s/\∃ x' y' xs' ys',rest=List.zip xs' ys'/\Inner P w s.heap x' xs'/\Inner P w s.heap y' ys'/\(x'=y' ↔ x=y)/\(xs'.length=ys'.length ↔ xs.size=ys.size)) _ ?_ ?_ _ _ ⟨rfl,rfl,x,y,xs.toList,ys.toList,rfl,ra,rb,Nv,by simp⟩
 ·rintro ⟨u,v⟩ rest r s' ⟨hr,rfl,x',y',xs',ys',hz,hx',hy',hd,hl⟩
  cases hx' with
  | nil=>simp at hz
  | @cons k1 u' x2 xs2 h1 t1 =>
   cases hy' with
   | nil=>simp at hz
   | @cons k2 v' y2 ys2 h2 t2 =>
    rw [Gv] at hz
    injection hz with hz1 hz2
    injection hz1 with z1 z2
    subst z1 z2 hz2
    obtain ⟨c1,rfl,g1⟩:=h1
    obtain ⟨c2,rfl,g2⟩:=h2
    refine A1 (wpAny_eqBool_tuple hu g1 g2 ?_)
    by_cases e:k1=k2
    ·subst e
     rw [decide_eq_true rfl]
     simp only [Ef,Bo,if_false]
     exact Ae ⟨rfl,rfl,x2,y2,xs2,ys2,rfl,t1,t2,by rw [<- hd]; simp,by rw [<- hl]; simp⟩
    ·rw [decide_eq_false e]
     simp only [Bool.not_false,if_true]
     have ne:¬ x=y:=fun z=>by
      have:=hd.mpr z
      injection this with z1 _
      exact e z1
     rw [decide_eq_false ne] at q
     exact A1 (Ae (Ae (Ae q)))
 ·rintro ⟨r1,r2⟩ s' ⟨hr,rfl,x',y',xs',ys',hz,hx',hy',hd,hl⟩
  dsimp only at hr
  subst hr
  refine Ae ?_
  have e:(xs.size == ys.size)=decide (x=y):=by
   rw [B5,beq_iff_eq,decide_eq_true_eq,<- hd,<- hl]
   cases hx' with
   | nil=>cases hy' with
    | nil=>simp
    | cons _ _=>simp
   | cons _ _=>cases hy' with
    | nil=>simp
    | cons _ _=>simp at hz
  change R (.done (.ret (.bool (xs.size == ys.size)))) s'
  rw [e]
  exact q
theorem nest_eq {x y:List (List Key)} {a b:A4} {Q:Bool->A3->Prop} (hu:A.units + 4 < cLine) (hx:IsNest P w s.heap x a) (hy:IsNest P w s.heap y b) (q:Q (decide (x=y)) s):wpAny (model P w) A (eqBool (.ref a) (.ref b)) Q E s:=by
 unfold eqBool
 try with_reducible refine Dp ?_
 change wpAny (model P w) A (if (B1 a == B1 b)=true then _ else _) Q E s
 by_cases e:(B1 a == B1 b)=true
 ·rw [if_pos e]
  have e':=eq_of_beq e
  cases e'
  rw [decide_eq_true (zf0 hx hy)] at q
  exact A1 (Gh (Ae q))
 ·rw [if_neg e]
  exact A1 (wpAny_richCompare_same_room (op := .Eq) hx.type hy.type F.slot_tuple_eq (E1 F.slot_tuple_eq hx.type F.entry_tuple_eq (nest_eq_tree (by rw [Kz]; omega) hx hy ⟨_,rfl,(fun z=>nomatch z),Ct q⟩) (F.args_tuple_eq_2 _ _)) (by omega))
theorem tup_quiet {M:Hv} {n:Nat} {ks:List Key} {a:A4} {Q:Bool->A3->Prop} (hk:M9 (mixKind P w) s.heap ks a) (q:Q true s):wpAny M A (eqIsQuiet (n + 1) (.ref a)) Q E s:=by
 have ty:=hk.typeIs
 obtain ⟨ob,its,m,e1,_,e3,r⟩:=hk
 unfold eqIsQuiet
 refine A1 (Gx ty F.slot_tuple_eq.lookup ?_)
 change wpAny M A (isInstance (B1 a) (.type "tuple") >>= fun c=>_) Q E s
 refine A1 (Iv ty Jf ?_)
 simp only [Ef,Bo,if_false]
 refine A1 (Q4 e1 e3 (A1 ?_))
 change wpAny M A (forIn its _ _) _ E s
 rw [<- Jj]
 refine Gi _ (fun rest r s'=>r.1=none/\s'=s/\∀ v∈rest,carriedByValue v=true) _ ?_ ?_ _ _ ⟨rfl,rfl,r.byValue⟩
 ·rintro v rest r s' ⟨_,rfl,hv⟩
  rw [eqIsQuiet_byValue _ (hv v Ah)]
  refine A1 (Ae ?_)
  simp only [Ef,Bo,if_false]
  exact Ae ⟨rfl,rfl,fun u hu'=>hv u (Aa _ hu')⟩
 ·rintro ⟨r1,r2⟩ s' ⟨hr,rfl,_⟩
  dsimp only at hr
  subst hr
  exact Ae q
theorem nest_quiet {M:Hv} {ks:List (List Key)} {a:A4} {Q:Bool->A3->Prop} (hk:IsNest P w s.heap ks a) (q:Q true s):wpAny M A (eqIsQuiet 8 (.ref a)) Q E s:=by
 have ty:=hk.type
 obtain ⟨ob,its,m,e1,_,e3,r⟩:=hk
 unfold eqIsQuiet
 refine A1 (Gx ty F.slot_tuple_eq.lookup ?_)
 change wpAny M A (isInstance (B1 a) (.type "tuple") >>= fun c=>_) Q E s
 refine A1 (Iv ty Jf ?_)
 simp only [Ef,Bo,if_false]
 refine A1 (Q4 e1 e3 (A1 ?_))
 change wpAny M A (forIn its _ _) _ E s
 rw [<- Jj]
 have hall:∀ v∈its.toList,∃ k b,v = .ref b/\M9 (mixKind P w) s.heap k b:=fun v hv=>by
  obtain ⟨i,hi⟩:=G6.mp hv
  obtain ⟨k,_,b,e,hk⟩:=Bs.rev r hi
  exact ⟨k,b,e,hk⟩
 refine Gi _ (fun rest r s'=>r.1=none/\s'=s/\∀ v∈rest,∃ k b,v = .ref b/\M9 (mixKind P w) s.heap k b) _ ?_ ?_ _ _ ⟨rfl,rfl,hall⟩
 ·rintro v rest r s' ⟨_,rfl,hv⟩
  obtain ⟨k,b,rfl,hk⟩:=hv v Ah
  refine A1 (tup_quiet (n:=6) hk ?_)
  simp only [Ef,Bo,if_false]
  exact Ae ⟨rfl,rfl,fun u hu'=>hv u (Aa _ hu')⟩
 ·rintro ⟨r1,r2⟩ s' ⟨hr,rfl,_⟩
  dsimp only at hr
  subst hr
  exact Ae q
end
noncomputable def nestKind (P:Aq) (w:Bj):HeapKind P w (List (List Key)) where
 is:=IsNest P w
 hash:=nestHash P w
 draws:=nestDraws
 room:=fun A=>A.units + 4 < cLine
 inj:=zf0
 keeps:=nest_keeps
 pyHash:=nest_hash
 eqBool:=nest_eq
 quiet:=nest_quiet
noncomputable def NestAt (H:Hp) (b:A4) (ks:List (List Key)):Prop:=∃ ws,H b=some (.tup ws)/\Bs (fun (k:List Key) (v:V)=>∃ c,v = .ref c/\H c=some (.tup (k.map kV))) ks ws
noncomputable abbrev NX:=List (List Key)×A4×V
noncomputable def nestIn (P:Aq) (w:Bj) (a:A4) (xs:List NX) (h:Bz):Prop:=xs.length<=sizeLine/\(a == sysModules)=false/\∃ ys:List (List (List Key)×A4×A0),Bs (fun (p:NX) (q:List (List Key)×A4×A0)=>p.1=q.1/\p.2.1=q.2.1/\RelV p.2.2 q.2.2) xs ys /\
 ∃ o es ep,h.get? a=some o/\o.ExactDict/\o.data = .dict es ep/\es.toList=ys.map (entryOfKey (nestKind P w))/\(ys.map (·.1)).Nodup
noncomputable def DN (P:Aq) (w:Bj) (a:A4) (xs:List NX):HO := .ext (nestIn P w a xs)
noncomputable def nks (xs:List NX):List (List (List Key)):=xs.map (·.1)
noncomputable def hasN (l:List (List (List Key))) (ks:List (List Key)):Bool:=l.any fun z=>decide (z=ks)
theorem hasN_iff {l:List (List (List Key))} {ks:List (List Key)}:hasN l ks=true ↔ ks∈l:=by
 unfold hasN
 rw [Bq]
 exact ⟨fun ⟨x,h1,h2⟩=>of_decide_eq_true h2 ▸ h1,fun h=>⟨ks,h,decide_eq_true rfl⟩⟩
theorem zgb {l:List (List (List Key))} {ks:List (List Key)} (h:ks ∉ l):hasN l ks=false:=by
 cases e:hasN l ks with
 | false=>rfl
 | true=>exact absurd (hasN_iff.mp e) h
noncomputable def KeysN (H:Hp) (xs:List NX):Prop:=∀ x∈xs,NestAt H x.2.1 x.1
noncomputable def NDict (P:Aq) (w:Bj) (H:Hp) (a:A4) (xs:List NX):Prop:=((xs = []/\H a=some (.dK []))\/H a=some (DN P w a xs))/\KeysN H xs
theorem NestAt.same {H H':Hp} {b:A4} {ks:List (List Key)} (n:NestAt H b ks) (m:∀ q xs,H q=some (.tup xs)->H' q=some (.tup xs)):NestAt H' b ks:=by
 obtain ⟨ws,e,r⟩:=n
 exact ⟨ws,m _ _ e,Bs.mapP r fun _ _ ⟨c,e1,e2⟩=>⟨c,e1,m _ _ e2⟩⟩
theorem KeysN.same {H H':Hp} {xs:List NX} (n:KeysN H xs) (m:∀ q xs,H q=some (.tup xs)->H' q=some (.tup xs)):KeysN H' xs:=fun x hx=>(n x hx).same m
section
variable {P:Aq} {w:Bj} {H:Hp} {h:Bz} {a b:A4} {xs:List NX} {ks:List (List Key)}
theorem NDict.same {H':Hp} (n:NDict P w H a xs) (sm:Same H H'):NDict P w H' a xs:=⟨n.1.imp (fun z=>⟨z.1,sm _ _ z.2⟩) fun z=>sm _ _ z,n.2.same fun _ _ e=>sm _ _ e⟩
theorem zec (ok:HOk P w H h) (n:NestAt H b ks):IsNest P w h ks b:=by
 obtain ⟨ws,e,r⟩:=n
 obtain ⟨_,its,rv,o,h1,h2,m,h3⟩:=(show ObjOk P w H h b (.tup ws) from ok b _ e)
 refine ⟨o,its.toArray,m,h1,h2,h3,?_⟩
 have:∀ {ks:List (List Key)} {ws:List V} {its:List A0},Bs (fun (k:List Key) (v:V)=>∃ c,v = .ref c/\H c=some (.tup (k.map kV))) ks ws->Vals ws its->Inner P w h ks its:=by
  intro ks ws its r
  induction r generalizing its with
  | nil=>intro rv; cases rv; exact .nil
  | cons q _ ih =>
   intro rv
   cases rv with
   | cons rv1 rv2 =>
    obtain ⟨c,rfl,ec⟩:=q
    exact .cons ⟨c,rv1,zdv ok ec⟩ (ih rv2)
 simpa using this r rv
theorem zc3 (ok:HOk P w H h) (n:NDict P w H a xs):xs.length<=sizeLine/\(a == sysModules)=false/\∃ ys,Bs (fun (p:NX) (q:List (List Key)×A4×A0)=>p.1=q.1/\p.2.1=q.2.1/\RelV p.2.2 q.2.2) xs ys/\h.DictOfH (nestKind P w) a ys:=by
 obtain ⟨n1,n2⟩:=n
 rcases n1 with ⟨rfl,e⟩ | e
 ·obtain ⟨_,hd,vs,rel,o,es,ep,h1,h2,h3,_,h4,_⟩:=zhW ok e
  cases rel
  refine ⟨Bi _,hd,[],.nil,o,es,ep,h1,h2,h3,?_,fun x hx=>absurd hx List.not_mem_nil,Db⟩
  generalize es.toList=l at h4 ⊢
  cases h4
  rfl
 ·obtain ⟨⟨z,hd,ys,r,o,es,ep,h1,h2,h3,h4,h5⟩,_,_⟩:=(show ObjOk P w H h a (DN P w a xs) from ok a _ e)
  refine ⟨z,hd,ys,r,o,es,ep,h1,h2,h3,h4,fun y hy => ?_,h5⟩
  obtain ⟨i,hi⟩:=G6.mp hy
  obtain ⟨x,hx,e1,e2,_⟩:=Bs.rev r hi
  have:=zec ok (n2 x (Be hx))
  rw [e1,e2] at this
  exact this
theorem zhT {ys:List (List (List Key)×A4×A0)} (r:Bs (fun (p:NX) (q:List (List Key)×A4×A0)=>p.1=q.1/\p.2.1=q.2.1/\RelV p.2.2 q.2.2) xs ys):ys.map (·.1)=nks xs:=by
 unfold nks
 induction r with
 | nil=>rfl
 | cons q _ ih=>rw [An,An,ih,q.1]
theorem zd3 {ys:List (List (List Key)×A4×A0)} {ks:List (List Key)}:(atKey ys ks).isSome=hasN (ys.map (·.1)) ks:=by
 unfold atKey
 rw [Gy,B5,List.find?_isSome,hasN_iff,A7]
 exact ⟨fun ⟨x,h1,h2⟩=>⟨x,h1,of_decide_eq_true h2⟩,fun ⟨x,h1,h2⟩=>⟨x,h1,decide_eq_true h2⟩⟩
end
section
variable {X:Cx} {pins:List (A4×Obj)} {σ : St} {H:Hp} {s:A3} {a b:A4} {xs:List NX} {ks:List (List Key)} {A:Bb} {E:A0->A3->Prop}
theorem n_notIn {Q:A0->A3->Prop} (hu:A.units + 5 < cLine) (I:Inv X pins σ H s) (n:NDict X.prog X.w H a xs) (hb:NestAt H b ks) (q:∀ s',Inv X pins σ H s'->Q (.bool (!hasN (nks xs) ks)) s') :
  wpAny (model X.prog X.w) A (compareOp .NotIn (.ref b) (.ref a)) Q E s:=by
 obtain ⟨z,hd,ys,r,dd⟩:=zc3 I.hok n
 refine Ou (knd:=nestKind X.prog X.w) (show A.in1.units + 4 < cLine by rw [Kz]; omega) (zec I.hok hb) hd dd ?_
 rw [zd3,zhT r]
 exact q _ (I.tok _)
theorem n_getItem {Q:A0->A3->Prop} {c:A4} {v:V} (hu:A.units + 5 < cLine) (I:Inv X pins σ H s) (n:NDict X.prog X.w H a xs) (hb:NestAt H b ks) (hm:(ks,c,v)∈xs) (q:∀ w' s',Inv X pins σ H s'->RelV v w'->Q w' s') :
  wpAny (model X.prog X.w) A (getItem (.ref a) (.ref b)) Q E s:=by
 obtain ⟨z,hd,ys,r,dd⟩:=zc3 I.hok n
 obtain ⟨i,hi⟩:=G6.mp hm
 obtain ⟨⟨k',c',v'⟩,hy,e1,e2,rv⟩:=Bs.at r hi
 dsimp only at e1 e2 rv
 subst e1 e2
 obtain ⟨_,_,_,_,_,_,_,_,nd⟩:=id dd
 refine Of (knd:=nestKind X.prog X.w) (show A.in1.units + 4 < cLine by rw [Kz]; omega) (zec I.hok hb) dd (atKey_of_get nd hy) (q _ _ (I.tok _) rv)
theorem n_setItem {Q:Unit->A3->Prop} {v:V} {u:A0} (hu:A.units + 5 < cLine) (I:Inv X pins σ H s) (n:NDict X.prog X.w H a xs) (hb:NestAt H b ks) (hn:ks ∉ nks xs) (hl:xs.length < sizeLine) (rv:RelV v u)
  (q:∀ s',Inv X pins σ (upd H a (DN X.prog X.w a (xs ++ [(ks,b,v)]))) s'->Q () s'):wpAny (model X.prog X.w) A (setItem (.ref a) (.ref b) u) Q E s:=by
 have mu:Mut (H a):=by
  rcases n.1 with ⟨_,e⟩ | e <;> rw [e] <;> exact E7
 obtain ⟨z,hd,ys,r,dd⟩:=zc3 I.hok n
 have e0:atKey ys ks=none:=by
  have:=zd3 (ys:=ys) (ks:=ks)
  rw [zhT r,zgb hn] at this
  cases e:atKey ys ks with
  | none=>rfl
  | some y=>rw [e] at this; cases this
 refine Oe (knd:=nestKind X.prog X.w) (hsz:=by rw [<- C3 r]; omega) (show A.in1.units + 4 < cLine by rw [Kz]; omega) (zec I.hok hb) dd fun h' dd' hs=>q _ ?_
 obtain ⟨o,es,ep,h1,h2,h3,h4,_,h5⟩:=dd'
 have fin:nestIn X.prog X.w a (xs ++ [(ks,b,v)]) h':=by
  refine ⟨by rw [Ag,Bp]; omega,hd,_,?_,o,es,ep,h1,h2,h3,h4,h5⟩
  rw [storedH_new e0]
  exact El r ⟨rfl,rfl,rv⟩
 refine zen I mu hs ⟨o,h1⟩ ⟨fin,⟨o,h1⟩,fun g1 g2 x hx => ?_⟩
 obtain ⟨y1,y2,ys',y3,o',es',ep',y4,y5⟩:=x
 exact ⟨y1,y2,ys',y3,o',es',ep',hx _ y4,y5⟩
theorem n_type (I:Inv X pins σ H s) (n:NDict X.prog X.w H a xs):s.TypeIs (.ref a) "dict" := by
 obtain ⟨_,_,ys,_,dd⟩:=zc3 I.hok n
 exact dd.typeIs
end
noncomputable def tNNotIn (P:Aq) (w:Bj) (ty td:TE):TE:=fun σ H Q=>ty σ H fun y H1=>td σ H1 fun x H2=>∃ a b xs ks,x = .ref a/\y = .ref b/\NDict P w H2 a xs/\NestAt H2 b ks/\Q (.bl (!hasN (nks xs) ks)) H2
noncomputable def tNGet (P:Aq) (w:Bj) (td ty:TE):TE:=fun σ H Q=>td σ H fun x H1=>ty σ H1 fun y H2=>∃ a b c xs ks v,x = .ref a/\y = .ref b/\NDict P w H2 a xs/\NestAt H2 b ks/\(ks,c,v)∈xs/\Q v H2
noncomputable def sNPut (P:Aq) (w:Bj) (td ty tv:TE):TS:=fun D σ H=>tv σ H fun v H1=>td σ H1 fun x H2=>ty σ H2 fun y H3=>∃ a b xs ks,x = .ref a/\y = .ref b/\NDict P w H3 a xs/\NestAt H3 b ks/\ks ∉ nks xs/\xs.length < sizeLine/\D.nx σ (upd H3 a (DN P w a (xs ++ [(ks,b,v)])))
section
variable {X:Cx} {o i e value:Cb} {pos pos' tpos:Pos} {td ty tv:TE}
theorem pc_nnotin (hu:X.A.units + 64 < cLine) (hi:PE X i ty) (ho:PE X o td):PC X .NotIn i o (tNNotIn X.prog X.w ty td):=by
 intro pins s σ H Q I h
 refine thnE (hi pins s σ H _ I h) fun iv s1 y H1 I1 ry q1=>thnE (ho pins s1 σ H1 _ I1 q1) fun u s2 x H2 I2 rx ⟨a,b,xs,ks,ex,ey,n,hb,q2⟩ => ?_
 subst ex ey
 cases (show u=B1 a from rx)
 cases (show iv=B1 b from ry)
 exact n_notIn (by omega) I2 n hb fun s3 I3=>⟨.bl _,H2,I3,rfl,q2⟩
theorem pe_nget (hu:X.A.units + 64 < cLine) (ho:PE X o td) (hi:PE X i ty) (hs:NoSl i):PE X (.Subscript o i pos) (tNGet X.prog X.w td ty):=by
 intro pins s σ H Q I h
 refine zgq Kf.lookup hs (thnE (ho pins s σ H _ I h) fun u s1 x H1 I1 rx q1=>thnE (hi pins s1 σ H1 _ I1 q1) fun iv s2 y H2 I2 ry ⟨a,b,c,xs,ks,v,ex,ey,n,hb,hm,q2⟩ => ?_)
 subst ex ey
 cases (show u=B1 a from rx)
 cases (show iv=B1 b from ry)
 exact ⟨n_type I2 n,n_getItem (by omega) I2 n hb hm fun w' s3 I3 rw'=>⟨v,H2,I3,rw',q2⟩⟩
theorem ps_nput (hu:X.A.units + 64 < cLine) (ho:PE X o td) (hi:PE X i ty) (hv:PE X value tv) (hs:swapsWith value (some (.Subscript o i pos')) pos.line X.env=pure false):PS X (.Assign [.Subscript o i pos'] value pos) (sNPut X.prog X.w td ty tv):=by
 intro pins s σ H D I h
 refine N4 (thnE (hv pins s σ H _ I h) fun r s1 v H1 I1 rv q1=>thnE (ho pins s1 σ H1 _ I1 q1) fun u s2 x H2 I2 rx q2=>thnE (hi pins s2 σ H2 _ I2 q2) fun iv s3 y H3 I3 ry ⟨a,b,xs,ks,ex,ey,n,hb,hn,hl,q3⟩ => ?_) hs
 subst ex ey
 cases (show u=B1 a from rx)
 cases (show iv=B1 b from ry)
 exact n_setItem (by omega) I3 n hb hn hl rv fun s4 I4=>⟨σ,_,I4,q3⟩
noncomputable def rInT (K:Av):R2:=fun x y H Q=>∃ d es,VD K H x d/\VD K H y (.tuple es)/\d.canLay0=true/\Cr es=true/\d.depth<=50/\Q (.bl (es.any fun e=>En e d)) H
theorem op_inT (hu:X.A.units + 64 < cLine):OpR X (compareOp .In) (rInT X.K):=by
 intro pins s σ H x y v u Q I rx ry h
 obtain ⟨d,es,hd,he,c1,c2,dp,q⟩:=h
 obtain ⟨a1,r1⟩:=hd.reads I rx
 obtain ⟨a2,r2⟩:=he.reads I ry
 exact SeqAt.in_tuple_reads r2 r1 c2 c1 (by have:=Nat.min_le_right (Ep es) d.depth; omega) ⟨.bl _,H,I,rfl,q⟩
theorem call_max1' (K:Av) (hK:X.K=K) (hc:X.calm=true):CallR X (.builtin "max") (fun xs H Q=>∃ (a:A4) (ns:List Int),xs = [V.ref a]/\SqL K H a (ns.map V.int)/\0 < ns.length/\∀ M,M∈ns->(∀ n∈ns,n<=M)->Q (.int M) H):=hK ▸ call_max1 hc
end
noncomputable def tDisp1T (tk tv:TE):TE:=fun σ H Q=>∀ p,H p=none->tk σ (upd H p (.dT [])) fun x H1=>tv σ H1 fun y H2=>∃ k b,H2 p=some (.dT [])/\x = .ref b/\H2 b=some (.tup (k.map kV))/\Q (.ref p) (upd H2 p (.dT [(k,y)]))
theorem pe_disp1T {X:Cx} {pos:Pos} {k v:Cb} {tk tv:TE} (hu:X.A.units + 1 < cLine) (hk:PE X k tk) (hv:PE X v tv):PE X (.Dict [some k] [v] pos) (tDisp1T tk tv):=by
 intro pins s σ H Q I q
 have hn:=I.hok.fresh (Ac s.heap.objs.size)
 have I1:=I.laid (a:=s.heap.objs.size) (o := .dT []) (h':=s.heap.push { cls := .type "dict",data := .dict #[] }) (t':=s.toks) (fun _ _ q=>Ad _ q) (Ac _) (zgf s.heap I.big)
 refine wpAny_Dict_any rfl rfl (by simp) (show 1<=15 by decide) (pairTrees_cons_walk (thnE (hk pins _ σ _ _ I1 (q _ hn)) fun u s1 x H1 J1 rx q1=>thnE (hv pins s1 σ H1 _ J1 q1) fun r s2 y H2 J2 ry ⟨kk,b,hp,ex,hb,q2⟩=>pairTrees_nil_walk ?_))
 subst ex
 cases (show u=B1 b from rx)
 unfold PySem.storeAll
 rw [Kj]
 obtain ⟨z,hd,xs,rel,dd⟩:=zhV J2.hok hp
 cases rel
 refine A1 (A1 (wpAny_dictSet_heap (knd:=tupleKind (mixKind X.prog X.w)) (hsz:=Bi _) (by show X.A.units < cLine; omega) (zdv J2.hok hb) dd fun h' dd' hs=>Ae ?_))
 dsimp only
 rw [List.forIn_nil]
 refine Ae ⟨.ref s.heap.objs.size,_,?_,rfl,q2⟩
 obtain ⟨o,es,ep,h1,h2,h3,h4,_,h5⟩:=dd'
 refine zen J2 (by rw [hp]; exact E7) hs ⟨o,h1⟩ ⟨show 1<=sizeLine from Br (by decide) za0,hd,_,.cons ⟨rfl,?_,ry⟩ .nil,o,es,ep,h1,h2,h3,h4,h5⟩
 rw [zah (zhO hb hp (fun z=>nomatch z))]
 exact hb
section
variable {X:Cx} {o i e value:Cb} {pos pos' tpos:Pos} {td ty tv:TE}
theorem pc_nnotin' (P:Aq) (w:Bj) (hP:X.prog=P) (hw:X.w=w) (hu:X.A.units + 64 < cLine) (hi:PE X i ty) (ho:PE X o td):PC X .NotIn i o (tNNotIn P w ty td):=by subst hP hw; exact pc_nnotin hu hi ho
theorem pe_nget' (P:Aq) (w:Bj) (hP:X.prog=P) (hw:X.w=w) (hu:X.A.units + 64 < cLine) (ho:PE X o td) (hi:PE X i ty) (hs:NoSl i):PE X (.Subscript o i pos) (tNGet P w td ty):=by subst hP hw; exact pe_nget hu ho hi hs
theorem ps_nput' (P:Aq) (w:Bj) (hP:X.prog=P) (hw:X.w=w) (hu:X.A.units + 64 < cLine) (ho:PE X o td) (hi:PE X i ty) (hv:PE X value tv) (hs:swapsWith value (some (.Subscript o i pos')) pos.line X.env=pure false):PS X (.Assign [.Subscript o i pos'] value pos) (sNPut P w td ty tv):=by subst hP hw; exact ps_nput hu ho hi hv hs
end
noncomputable def st1 (C:Combs) (s t:Nat):Prop:=∃ p∈stp C s,p.2.toNat=t
noncomputable def rch (C:Combs) (s:Nat):Nat->Nat->Prop
 | 0,t=>t=s
 | n + 1,t=>∃ u,rch C s n u/\st1 C u t
theorem zhs {C:Combs} (g:GC C) {s t:Nat} (hs:s < 128) (h:st1 C s t):t < 128:=by
 obtain ⟨p,hp,rfl⟩:=h
 exact (zcQ g hs hp).2
theorem zcc {C:Combs} (g:GC C) {s:Nat} (hs:s < 128):∀ {n t:Nat},rch C s n t->t < 128
 | 0,t,h=>by rw [show t=s from h]; exact hs
 | n + 1,t,⟨u,h1,h2⟩=>zhs g (zcc g hs h1) h2
theorem zbU {C:Combs} {s m u:Nat} (h:rch C s m u):∀ {n t:Nat},rch C u n t->rch C s (m + n) t
 | 0,t,h2=>by rw [show t=u from h2]; exact h
 | n + 1,t,⟨v,h1,h2⟩=>⟨v,zbU h h1,h2⟩
theorem zdi {C:Combs} {s m:Nat}:∀ {n t:Nat},rch C s (m + n) t->∃ u,rch C s m u/\rch C u n t
 | 0,t,h=>⟨t,h,rfl⟩
 | n + 1,t,⟨v,h1,h2⟩=>by
  obtain ⟨u,a,b⟩:=zdi h1
  exact ⟨u,a,v,b,h2⟩
theorem zby {C:Combs} (g:GC C):∀ {k t:Nat},t∈rowN C k ↔ rch C 0 k t
 | 0,t=>A6
 | k + 1,t=>by
  rw [show rowN C (k + 1)=behN C (rowN C k) from rfl,beh_mem]
  constructor
  ·rintro ⟨_,u,hu,p,hp,e⟩
   exact ⟨u,(zby g).mp hu,p,hp,e⟩
  ·rintro ⟨u,hu,h⟩
   exact ⟨zhs g (zcc g (by decide) hu) h,u,(zby g).mpr hu,h⟩
noncomputable def Fil (C:Combs) (n:Nat):Prop:=rch C 0 n 0
theorem zem (C:Combs):Fil C 0:=rfl
theorem zft {C:Combs} {m n:Nat} (h1:Fil C m) (h2:Fil C n):Fil C (m + n):=zbU h1 h2
theorem zg3 {C:Combs} {m:Nat} (h:Fil C m):∀ k,Fil C (k * m)
 | 0=>by rw [Ik]; exact zem C
 | k + 1=>by rw [Ir]; exact zft (zg3 h k) h
theorem zgA {C:Combs} {s:Nat}:∀ {n t:Nat},rch C s n t->∃ f:Nat->Nat,f n=t/\∀ i,i<=n->rch C s i (f i)/\rch C (f i) (n - i) t
 | 0,t,h=>⟨fun _=>t,rfl,fun i hi=>by
  have:i=0:=by omega
  subst this
  exact ⟨h,rfl⟩⟩
 | n + 1,t,⟨u,h1,h2⟩=>by
  obtain ⟨f,e,hf⟩:=zgA h1
  refine ⟨fun i=>if i<=n then f i else t,if_neg (by omega),fun i hi => ?_⟩
  dsimp only
  by_cases z:i<=n
  ·rw [if_pos z]
   refine ⟨(hf i z).1,?_⟩
   rw [show n + 1 - i=n - i + 1 by omega]
   exact ⟨u,(hf i z).2,h2⟩
  ·rw [if_neg z]
   have:i=n + 1:=by omega
   subst this
   rw [Im]
   exact ⟨⟨u,h1,h2⟩,rfl⟩
theorem twice {f:Nat->Nat} (h:∀ i,i<=128->f i < 128):∃ i j,i < j/\j<=128/\f i=f j:=by
 refine Dn fun z => ?_
 have nd:((Ab 129).map f).Nodup:=by
  rw [Ib,Bd,D7]
  intro i j hi hj hij e
  rw [N2,N2] at e
  rw [Aw] at hj
  exact z ⟨i,j,hij,by omega,e⟩
 have:=zaw 128 _ nd (fun x hx=>by
  obtain ⟨i,hi,rfl⟩:=A7.mp hx
  exact h i (by have:=B7.mp hi; omega))
 rw [A2,Aw] at this
 omega
theorem ze0 {C:Combs} (g:GC C):∀ (n:Nat),Fil C n->1<=n->∃ m,1<=m/\m<=128/\Fil C m:=by
 intro n
 induction n using O9 with
 | _ n ih =>
  intro h h1
  by_cases hn:n<=128
  ·exact ⟨n,h1,hn,h⟩
  obtain ⟨f,e,hf⟩:=zgA h
  obtain ⟨i,j,hij,hj,ef⟩:=twice (f:=f) fun i hi=>zcc g (by decide) (hf i (by omega)).1
  have a:=(hf i (by omega)).1
  have b:=(hf j (by omega)).2
  rw [<- ef] at b
  exact ih (i + (n - j)) (by omega) (zbU a b) (by omega)
noncomputable def HR (C:Combs) (k s:Nat):Prop:=rch C 0 k s/\∃ n,rch C s n 0
theorem hr_zero (C:Combs) (s:Nat):HR C 0 s ↔ s=0:=⟨fun h=>h.1,fun h=>⟨h,0,h.symm⟩⟩
theorem zfq {C:Combs} (k t:Nat):HR C (k + 1) t ↔ (∃ s,HR C k s/\st1 C s t)/\∃ n,rch C t n 0:=by
 constructor
 ·rintro ⟨⟨u,h1,h2⟩,n,h3⟩
  have h4:rch C u 1 t:=⟨u,rfl,h2⟩
  exact ⟨⟨u,⟨h1,1 + n,zbU h4 h3⟩,h2⟩,n,h3⟩
 ·rintro ⟨⟨u,⟨h1,_⟩,h2⟩,h3⟩
  exact ⟨⟨u,h1,h2⟩,h3⟩
theorem zgW {C:Combs} {k:Nat}:HR C k 0 ↔ Fil C k:=⟨fun h=>h.1,fun h=>⟨h,0,rfl⟩⟩
theorem zgV {C:Combs} {i j:Nat} (h:∀ s,HR C i s ↔ HR C j s):∀ k s,HR C (i + k) s ↔ HR C (j + k) s
 | 0,s=>h s
 | k + 1,s=>by
  have ih:=zgV h k
  rw [<- Eh,<- Eh,zfq,zfq]
  constructor
  ·rintro ⟨⟨u,h1,h2⟩,h3⟩
   exact ⟨⟨u,(ih u).mp h1,h2⟩,h3⟩
  ·rintro ⟨⟨u,h1,h2⟩,h3⟩
   exact ⟨⟨u,(ih u).mpr h1,h2⟩,h3⟩
theorem hr_turn {C:Combs} {t:Nat} (h:Fil C t) {k s:Nat} (hk:HR C k s):HR C (t + k) s:=⟨zbU h hk.1,hk.2⟩
open Classical in
theorem zf8 {C:Combs} (g:GC C) {M:Nat} (nd:∀ i j,i < j->j<=M->¬ ∀ s,HR C i s ↔ HR C j s):M<=16512:=by
 refine Gm fun big => ?_
 by_cases ht:∃ t,1<=t/\t<=128/\Fil C t
 ·obtain ⟨t,t1,t2,hf⟩:=ht
  let A:Nat->List Nat:=fun j=>(Ab 128).filter fun s=>decide (HR C (j * t) s)
  have less:∀ j,j < 129->(A j).length < (A (j + 1)).length:=fun j hj=>by
   have hm:∀ s,HR C (j * t) s->HR C ((j + 1) * t) s:=fun s h=>by
    rw [Ir,Gq]
    exact hr_turn hf h
   have hle:(j + 1) * t<=129 * 128:=Nat.mul_le_mul (by omega) t2
   have hne:¬ ∀ s,HR C (j * t) s ↔ HR C ((j + 1) * t) s:=nd _ _ (by rw [Ir]; omega) (by omega)
   have ex:∃ s,HR C ((j + 1) * t) s/\¬ HR C (j * t) s:=Dn fun z=>hne fun s=>⟨hm s,fun h=>Dn fun y=>z ⟨s,h,y⟩⟩
   obtain ⟨s,h1,h2⟩:=ex
   have hs:s < 128:=zcc g (by decide) h1.1
   have sub:∀ x∈s :: A j,x∈A (j + 1):=fun x hx=>by
    rcases B9.mp hx with rfl | hx
    ·exact Ax.mpr ⟨B7.mpr hs,decide_eq_true h1⟩
    ·obtain ⟨a,b⟩:=Ax.mp hx
     exact Ax.mpr ⟨a,decide_eq_true (hm x (of_decide_eq_true b))⟩
   have n1:(s :: A j).Nodup:=Do.mpr ⟨fun z=>h2 (of_decide_eq_true (Ax.mp z).2),List.nodup_range.sublist Cp⟩
   have:=zc2 n1 sub
   rw [At] at this
   omega
  have up:∀ j,j<=129->j<=(A j).length:=fun j=>by
   induction j with
   | zero=>exact fun _=>Bi _
   | succ j ih=>exact fun h=>by have:=ih (by omega); have:=less j (by omega); omega
  have h1:=up 129 (by omega)
  have h2:(A 129).length<=128:=Br (Cn _ _) (by rw [Aw]; exact Ac _)
  omega
 ·have none:∀ k,1<=k->∀ s,¬ HR C k s:=fun k hk s ⟨h1,n,h2⟩=>by
   obtain ⟨m,a,b,c⟩:=ze0 g (k + n) (zbU h1 h2) (by omega)
   exact ht ⟨m,a,b,c⟩
  exact nd 1 2 (by omega) (by omega) fun s=>⟨fun h=>absurd h (none 1 (by omega) s),fun h=>absurd h (none 2 (by omega) s)⟩
theorem zb6 (C:Combs) (P:Nat×Str->Bool) (q:Nat):∀ l:List (Nat×Str),cov C (l.filter P) q=(l.map fun x=>if P x=true then ind (hit C x q) else 0).sum
 | []=>rfl
 | x :: l=>by
  have ih:=zb6 C P q l
  rw [C4,An,D5,<- ih]
  split
  ·unfold cov
   rw [An,D5]
  ·rw [Jy]
theorem cov_app (C:Combs) (l m:List (Nat×Str)) (q:Nat):cov C (l ++ m) q=cov C l q + cov C m q:=by
 unfold cov
 rw [Az,Kh]
noncomputable def inOrder (l:List (Nat×Str)) (p:Nat):List (Nat×Str):=(Ab p).flatMap fun j=>l.filter fun x=>decide (x.1=j)
theorem zcU (l:List (Nat×Str)) (p:Nat):inOrder l (p + 1)=inOrder l p ++ l.filter fun x=>decide (x.1=p):=by
 unfold inOrder
 rw [De,List.flatMap_append]
 simp
theorem zgp {α : Type} (f g : α -> Nat):∀ l:List α,(l.map f).sum + (l.map g).sum=(l.map fun x=>f x + g x).sum
 | []=>rfl
 | a :: l=>by
  have:=zgp f g l
  simp only [An,D5]
  omega
theorem zfJ {α : Type} {f g : α -> Nat} {l:List α} (h:∀ x∈l,f x=g x):(l.map f).sum=(l.map g).sum:=by
 rw [C7 h]
theorem zdA (C:Combs) (l:List (Nat×Str)) (q:Nat):∀ p,cov C (inOrder l p) q=cov C (l.filter fun x=>decide (x.1 < p)) q
 | 0=>by
  rw [List.filter_eq_nil_iff.mpr (fun x _=>by rw [decide_eq_true_eq]; omega)]
  rfl
 | p + 1=>by
  rw [zcU,cov_app,zdA C l q p,zb6,zb6,zb6,zgp]
  refine zfJ fun x _ => ?_
  by_cases h1:x.1 < p
  ·rw [decide_eq_true h1,decide_eq_false (show ¬ x.1=p by omega),decide_eq_true (show x.1 < p + 1 by omega)]
   rfl
  ·by_cases h2:x.1=p
   ·rw [decide_eq_false h1,decide_eq_true h2,decide_eq_true (show x.1 < p + 1 by omega)]
    simp
   ·rw [decide_eq_false h1,decide_eq_false h2,decide_eq_false (show ¬ x.1 < p + 1 by omega)]
    rfl
noncomputable def Lay (C:Combs) (l:List (Nat×Str)):Prop:=∀ x∈l,x.2∈C.map (·.1)
theorem zhl {C:Combs} (nd:(C.map (·.1)).Nodup) {x:Str} (h:x∈C.map (·.1)):∃ c∈C,c.1=x/\tkOf C x=c.2:=by
 obtain ⟨c,hc,rfl⟩:=A7.mp h
 exact ⟨c,hc,rfl,by unfold tkOf; rw [zcf nd hc]; rfl⟩
theorem zf9 {C:Combs} (g:GC C) (nd:(C.map (·.1)).Nodup) {x:Nat×Str} (h:x.2∈C.map (·.1)):hit C x x.1=true:=by
 obtain ⟨c,hc,e,e2⟩:=zhl nd h
 unfold hit
 rw [e2,decide_eq_true (Ac _),Im,decide_eq_true (show ((0:Nat):Int)∈c.2 from zcN (g c hc))]
 rfl
theorem cov_one {C:Combs} {l:List (Nat×Str)} {x:Nat×Str} (hx:x∈l) {q:Nat} (h:hit C x q=true):1<=cov C l q:=by
 induction l with
 | nil=>cases hx
 | cons y l ih =>
  unfold cov
  rw [An,D5]
  rcases B9.mp hx with rfl | hx
  ·rw [h]; show 1<=1 + _; omega
  ·have:=ih hx
   unfold cov at this
   omega
theorem filter_cov {C:Combs} (g:GC C) (nd:(C.map (·.1)).Nodup) {l:List (Nat×Str)} (hl:Lay C l) (j:Nat):(l.filter fun x=>decide (x.1=j)).length<=cov C l j:=by
 induction l with
 | nil=>exact Bi _
 | cons y l ih =>
  have ih:=ih fun x hx=>hl x (Aa _ hx)
  unfold cov at ih ⊢
  rw [An,D5,C4]
  by_cases e:y.1=j
  ·have:=zf9 g nd (hl y Ah)
   rw [e] at this
   rw [if_pos (decide_eq_true e),At,this]
   show _<=1 + _
   omega
  ·rw [if_neg (by rw [decide_eq_true_eq]; exact e)]
   omega
theorem zdw {C:Combs} (g:GC C) (nd:(C.map (·.1)).Nodup) {l:List (Nat×Str)} (hl:Lay C l):∀ p,(∀ q,q < p->cov C l q<=1)->inOrder l p∈chs C p
 | 0,_=>A6.mpr rfl
 | p + 1,h=>by
  have ih:=zdw g nd hl p fun q hq=>h q (by omega)
  have h1:=Br (filter_cov g nd hl p) (h p (by omega))
  rw [zcU]
  refine Ds.mpr ⟨_,ih,?_⟩
  cases e:l.filter fun x=>decide (x.1=p) with
  | nil=>rw [Cd]; exact Ah
  | cons x m =>
   rw [e,At] at h1
   have hm:m = []:=Kc (by omega)
   subst hm
   have hx:x∈l.filter fun x=>decide (x.1=p):=by rw [e]; exact A6.mpr rfl
   obtain ⟨h2,h3⟩:=Ax.mp hx
   obtain ⟨c,hc,ec⟩:=A7.mp (hl x h2)
   refine Aa _ (A7.mpr ⟨c,hc,?_⟩)
   rw [ec,<- of_decide_eq_true h3]
noncomputable def Cover (C:Combs) (l:List (Nat×Str)) (n:Nat):Prop:=∀ q,cov C l q=if q < n then 1 else 0
theorem Cover.below {C:Combs} (g:GC C) (nd:(C.map (·.1)).Nodup) {l:List (Nat×Str)} {n:Nat} (hl:Lay C l) (h:Cover C l n) {x:Nat×Str} (hx:x∈l) {q:Nat} (hq:hit C x q=true):q < n:=by
 have h1:=cov_one hx hq
 rw [h q] at h1
 by_cases z:q < n
 ·exact z
 ·rw [if_neg z] at h1; omega
theorem zd7 {C:Combs} (g:GC C) {l:List (Nat×Str)} {n:Nat} (hl:l∈chs C n):(OkC C l n/\shp C l n=0) ↔ Cover C l n:=by
 constructor
 ·rintro ⟨⟨h1,h2⟩,h3⟩ q
  by_cases z:q < n
  ·rw [if_pos z]; exact h1 q z
  ·rw [if_neg z]
   have h4:=zaE g hl (q - n)
   rw [h3,Gb,show n + (q - n)=q by omega] at h4
   have h5:=of_decide_eq_false h4.symm
   by_cases y:q < n + 8
   ·have:=h2 q y; omega
   ·exact zci g hl (by omega)
 ·intro h
  refine ⟨⟨fun q hq=>by rw [h q,if_pos hq],fun q _=>by rw [h q]; split <;> omega⟩,zck fun d => ?_⟩
  rw [zaE g hl,h,if_neg (by omega),Gb]
  rfl
theorem ze1 {C:Combs} (g:GC C) (nd:(C.map (·.1)).Nodup) {n:Nat}:Fil C n ↔ ∃ l,Lay C l/\Cover C l n:=by
 unfold Fil
 rw [<- zby g,zhd g nd]
 constructor
 ·rintro ⟨l,hl,h⟩
  exact ⟨l,fun x hx=>(zcO hl x hx).2,(zd7 g hl).mp h⟩
 ·rintro ⟨l,hl,h⟩
  have hi:=zdw g nd hl n fun q hq=>by rw [h q]; split <;> omega
  have hc:Cover C (inOrder l n) n:=fun q=>by
   rw [zdA,<- h q,C8.mpr]
   intro x hx
   exact decide_eq_true (h.below g nd hl hx (zf9 g nd (hl x hx)))
  exact ⟨inOrder l n,hi,(zd7 g hi).mpr hc⟩
noncomputable def mxT (ts:List Int):Int:=ts.foldl max 0
noncomputable def turnT (ts:List Int):List Int:=canon (ts.map fun t=>mxT ts - t)
noncomputable def turnC (C:Combs):Combs:=C.map fun c=>(c.1,turnT c.2)
theorem zdo {ts:List Int} (g:GT ts):mxT ts∈ts/\(∀ t∈ts,t<=mxT ts)/\0<=mxT ts/\mxT ts<=7:=by
 obtain ⟨h1,h2,h3⟩:=fold_max ts 0
 have hm:mxT ts∈ts:=by
  rcases h3 with z | z
  ·unfold mxT; rw [z]; exact zcN g
  ·exact z
 exact ⟨hm,h1,h2,(zbZ g _ hm).2⟩
theorem zcz {ts:List Int} (g:GT ts) {t:Int}:t∈turnT ts ↔ mxT ts - t∈ts:=by
 obtain ⟨h1,h2,h3,h4⟩:=zdo g
 unfold turnT
 rw [mem_canon,A7]
 constructor
 ·rintro ⟨⟨u,hu,rfl⟩,_⟩
  rw [show mxT ts - (mxT ts - u)=u by omega]
  exact hu
 ·intro h
  have:=h2 _ h
  have:=zbZ g _ h
  exact ⟨⟨_,h,by omega⟩,by omega,by omega⟩
theorem zdx {ts:List Int} (g:GT ts):GT (turnT ts):=zgc (A7.mpr ⟨mxT ts,(zdo g).1,by omega⟩)
theorem mx_turn {ts:List Int} (g:GT ts):mxT (turnT ts)=mxT ts:=by
 obtain ⟨h1,h2,h3,h4⟩:=zdo g
 obtain ⟨k1,k2,k3,k4⟩:=zdo (zdx g)
 have a:mxT ts∈turnT ts:=(zcz g).mpr (by rw [Int.sub_self]; exact zcN g)
 have b:=k2 _ a
 have c:=zbZ g _ ((zcz g).mp k1)
 omega
theorem lt_ext {a b:List Int} (ha:a.Pairwise (· < ·)) (hb:b.Pairwise (· < ·)) (h:∀ t,t∈a ↔ t∈b):a=b :=
 zbk ((D0 (zaO ha) (zaO hb)).mpr h) (ha.imp fun h=>by omega) (hb.imp fun h=>by omega)
theorem turn_turn {ts:List Int} (g:GT ts):turnT (turnT ts)=ts:=by
 refine lt_ext (zek (zdx (zdx g))) (zek g) fun t => ?_
 rw [zcz (zdx g),zcz g,mx_turn g,show mxT ts - (mxT ts - t)=t by omega]
theorem zbE (C:Combs):(turnC C).map (·.1)=C.map (·.1):=by
 unfold turnC
 rw [B6]
 rfl
theorem zd4 {C:Combs} (g:GC C):GC (turnC C):=fun c hc=>by
 obtain ⟨d,hd,rfl⟩:=A7.mp hc
 exact zdx (g d hd)
theorem turnC_turnC {C:Combs} (g:GC C):turnC (turnC C)=C:=by
 unfold turnC
 rw [B6]
 conv=>rhs; rw [<- Fj C]
 refine C7 fun c hc => ?_
 show (c.1,turnT (turnT c.2))=c
 rw [turn_turn (g c hc)]
theorem tk_turn {C:Combs} (nd:(C.map (·.1)).Nodup) {x:Str} (h:x∈C.map (·.1)):tkOf (turnC C) x=turnT (tkOf C x):=by
 obtain ⟨c,hc,rfl,e⟩:=zhl nd h
 have nd':((turnC C).map (·.1)).Nodup:=by rw [zbE]; exact nd
 have hc':(c.1,turnT c.2)∈turnC C:=A7.mpr ⟨c,hc,rfl⟩
 rw [e]
 unfold tkOf
 rw [zcf nd' hc']
 rfl
noncomputable def mir (C:Combs) (n:Nat) (x:Nat×Str):Nat×Str:=(n - 1 - x.1 - (mxT (tkOf C x.2)).toNat,x.2)
theorem hit_mir {C:Combs} (g:GC C) (nd:(C.map (·.1)).Nodup) {n:Nat} {x:Nat×Str} (h:x.2∈C.map (·.1)) (hin:x.1 + (mxT (tkOf C x.2)).toNat < n) (q:Nat):hit (turnC C) (mir C n x) q=(decide (q < n) && hit C x (n - 1 - q)):=by
 obtain ⟨c,hc,e,e2⟩:=zhl nd h
 have gc:=g c hc
 obtain ⟨h1,h2,h3,h4⟩:=zdo gc
 unfold hit mir
 dsimp only
 rw [e2] at hin
 rw [tk_turn nd h,e2]
 rw [B5,Cg,Cg,Cg,decide_eq_true_eq,decide_eq_true_eq,decide_eq_true_eq,decide_eq_true_eq,decide_eq_true_eq,zcz gc]
 constructor
 ·rintro ⟨a,b⟩
  have b1:=zbZ gc _ b
  refine ⟨by omega,by omega,?_⟩
  rw [show ((n - 1 - q - x.1:Nat):Int)=mxT c.2 - ((q - (n - 1 - x.1 - (mxT c.2).toNat):Nat):Int) by omega]
  exact b
 ·rintro ⟨a,b,d⟩
  have d1:=h2 _ d
  refine ⟨by omega,?_⟩
  rw [show mxT c.2 - ((q - (n - 1 - x.1 - (mxT c.2).toNat):Nat):Int)=((n - 1 - q - x.1:Nat):Int) by omega]
  exact d
theorem cover_in {C:Combs} (g:GC C) (nd:(C.map (·.1)).Nodup) {l:List (Nat×Str)} {n:Nat} (hl:Lay C l) (h:Cover C l n) {x:Nat×Str} (hx:x∈l):x.1 + (mxT (tkOf C x.2)).toNat < n:=by
 obtain ⟨c,hc,e,e2⟩:=zhl nd (hl x hx)
 obtain ⟨h1,_,h3,_⟩:=zdo (g c hc)
 refine h.below g nd hl hx ?_
 unfold hit
 rw [e2,decide_eq_true (by omega),decide_eq_true]
 ·rfl
 ·rw [show ((x.1 + (mxT c.2).toNat - x.1:Nat):Int)=mxT c.2 by omega]
  exact h1
theorem cover_mir {C:Combs} (g:GC C) (nd:(C.map (·.1)).Nodup) {l:List (Nat×Str)} {n:Nat} (hl:Lay C l) (h:Cover C l n):Lay (turnC C) (l.map (mir C n))/\Cover (turnC C) (l.map (mir C n)) n:=by
 refine ⟨fun y hy => ?_,fun q => ?_⟩
 ·obtain ⟨x,hx,rfl⟩:=A7.mp hy
  rw [zbE]
  exact hl x hx
 ·have e:cov (turnC C) (l.map (mir C n)) q=(l.map fun x=>ind (decide (q < n) && hit C x (n - 1 - q))).sum:=by
   unfold cov
   rw [B6]
   refine zfJ fun x hx => ?_
   show ind (hit (turnC C) (mir C n x) q)=_
   rw [hit_mir g nd (hl x hx) (cover_in g nd hl h hx)]
  rw [e]
  by_cases z:q < n
  ·rw [if_pos z,decide_eq_true z]
   have:=h (n - 1 - q)
   rw [if_pos (by omega)] at this
   exact this
  ·rw [if_neg z,decide_eq_false z]
   exact zfI fun _ _=>rfl
theorem fil_turn {C:Combs} (g:GC C) (nd:(C.map (·.1)).Nodup) {n:Nat}:Fil (turnC C) n ↔ Fil C n:=by
 have nd':((turnC C).map (·.1)).Nodup:=by rw [zbE]; exact nd
 have one:∀ {C:Combs},GC C->(C.map (·.1)).Nodup->Fil C n->Fil (turnC C) n:=fun {C} g nd h=>by
  obtain ⟨l,h1,h2⟩:=(ze1 g nd).mp h
  exact (ze1 (zd4 g) (by rw [zbE]; exact nd)).mpr ⟨_,cover_mir g nd h1 h2⟩
 refine ⟨fun h => ?_,one g nd⟩
 have:=one (zd4 g) nd' h
 rwa [turnC_turnC g] at this
noncomputable def Fst (C:Combs) (t ℓ s:Nat):Prop:=rch C 0 ℓ s/\∀ ℓ',ℓ' < ℓ -> ℓ' % t = ℓ % t->¬ rch C 0 ℓ' s
theorem zfr {C:Combs} {t ℓ u:Nat} (h:Fst C t (ℓ + 1) u):∃ s,Fst C t ℓ s/\st1 C s u:=by
 obtain ⟨⟨s,h1,h2⟩,h3⟩:=h
 refine ⟨s,⟨h1,fun ℓ' hl hm hr=>h3 (ℓ' + 1) (by omega) ?_ ⟨s,hr,h2⟩⟩,h2⟩
 rw [Q1,hm,<- Q1]
theorem fst_down {C:Combs} {t:Nat} {ℓ u:Nat}:∀ k,Fst C t (ℓ + k) u->∃ s,Fst C t ℓ s
 | 0,h=>⟨u,h⟩
 | k + 1,h=>by
  have h:Fst C t (ℓ + k + 1) u:=h
  obtain ⟨s,h1,_⟩:=zfr h
  exact fst_down' k h1
where fst_down' {C:Combs} {t:Nat} {ℓ : Nat}:∀ {u:Nat} (k:Nat),Fst C t (ℓ + k) u->∃ s,Fst C t ℓ s
 | u,0,h=>⟨u,h⟩
 | u,k + 1,h=>by
  obtain ⟨s,h1,_⟩:=zfr (show Fst C t (ℓ + k + 1) u from h)
  exact fst_down' k h1
theorem rch_fst {C:Combs} {t:Nat}:∀ (n:Nat) {s:Nat},rch C 0 n s->∃ ℓ,ℓ <= n /\ ℓ % t=n % t/\Fst C t ℓ s:=by
 intro n
 induction n using O9 with
 | _ n ih =>
  intro s h
  by_cases z:∀ ℓ',ℓ' < n -> ℓ' % t=n % t->¬ rch C 0 ℓ' s
  ·exact ⟨n,Ac _,rfl,h,z⟩
  ·have:∃ ℓ',ℓ' < n /\ ℓ' % t=n % t/\rch C 0 ℓ' s:=Classical.byContradiction fun y=>z fun ℓ' a b c=>y ⟨ℓ',a,b,c⟩
   obtain ⟨ℓ',a,b,c⟩:=this
   obtain ⟨ℓ,h1,h2,h3⟩:=ih ℓ' a c
   exact ⟨ℓ,by omega,by omega,h3⟩
noncomputable def LeastL (C:Combs) (t N:Nat) (l:List (Nat×Nat)):Prop:=(l.map (·.1)).Nodup/\∀ r ℓ,(r,ℓ)∈l ↔ ℓ < N/\r = ℓ % t/\Fst C t ℓ 0
theorem least_fil {C:Combs} {t N:Nat} (ht:Fil C t) {l:List (Nat×Nat)} (h:LeastL C t N l) (hN:∀ s,¬ Fst C t N s) (n:Nat):Fil C n ↔ ∃ ℓ,(n % t,ℓ)∈l /\ ℓ <= n:=by
 constructor
 ·intro hf
  obtain ⟨ℓ,h1,h2,h3⟩:=rch_fst (t:=t) n hf
  refine ⟨ℓ,(h.2 _ _).mpr ⟨?_,h2.symm,h3⟩,h1⟩
  refine Gm fun z => ?_
  have : ℓ = N + (ℓ - N):=by omega
  rw [this] at h3
  obtain ⟨s,hs⟩:=fst_down (ℓ - N) h3
  exact hN s hs
 ·rintro ⟨ℓ,h1,h2⟩
  obtain ⟨_,h3,h4⟩:=(h.2 _ _).mp h1
  have e:n=n / t * t - ℓ / t * t + ℓ := by
   have a:=Ko n t
   have b:=Ko ℓ t
   have c : ℓ / t<=n / t:=Nat.div_le_div_right h2
   have d : ℓ / t * t<=n / t * t:=Ge _ c
   rw [Jz] at a b
   omega
  rw [e,<- Nat.mul_sub_right_distrib]
  exact zft (zg3 ht _) h4.1
theorem fil_perm {C C':Combs} (g:GC C) (g':GC C') (p:C.Perm C') (n:Nat):Fil C n ↔ Fil C' n:=by
 unfold Fil
 rw [<- zby g,<- zby g',zeA p]
noncomputable def Wy (C:Combs):Nat->Nat->Nat
 | 0,s=>if s=0 then 1 else 0
 | k + 1,s=>((stp C s).map fun p=>Wy C k p.2.toNat).sum
noncomputable def bh (x:Str) (A B:Nat->Nat) (p:Str×Int):Nat:=if p.1=x then A p.2.toNat else B p.2.toNat
theorem sum_pos {α : Type} {l:List α} {f : α -> Nat}:0 < (l.map f).sum ↔ ∃ x∈l,0 < f x:=by
 induction l with
 | nil=>simp
 | cons a l ih =>
  rw [An,D5]
  constructor
  ·intro h
   by_cases z:0 < f a
   ·exact ⟨a,Ah,z⟩
   ·obtain ⟨x,hx,h'⟩:=ih.mp (by omega)
    exact ⟨x,Aa _ hx,h'⟩
  ·rintro ⟨x,hx,h⟩
   rcases B9.mp hx with rfl | hx
   ·omega
   ·have:=ih.mpr ⟨x,hx,h⟩
    omega
theorem Wy_pos {C:Combs}:∀ {k s:Nat},0 < Wy C k s ↔ rch C s k 0
 | 0,s=>by
  show 0 < (if s=0 then 1 else 0) ↔ 0=s
  by_cases h:s=0
  ·rw [if_pos h]; exact ⟨fun _=>h.symm,fun _=>by omega⟩
  ·rw [if_neg h]; exact ⟨fun z=>by omega,fun z=>absurd z.symm h⟩
 | k + 1,s=>by
  show 0 < ((stp C s).map fun p=>Wy C k p.2.toNat).sum ↔ _
  rw [sum_pos]
  constructor
  ·rintro ⟨p,hp,h⟩
   have h1:rch C s 1 p.2.toNat:=⟨s,rfl,p,hp,rfl⟩
   have:=zbU h1 (Wy_pos.mp h)
   rwa [Gq] at this
  ·intro h
   rw [Gq] at h
   obtain ⟨u,⟨v,e,p,hp,hu⟩,h2⟩:=zdi h
   rw [show v=s from e] at hp
   subst hu
   exact ⟨p,hp,Wy_pos.mpr h2⟩
structure Sel (C:Combs) (x:Str) (B:Nat->Nat->Nat):Prop where
 zero:∀ s,0 < B 0 s->s=0
 succ:∀ k s,B (k + 1) s=((stp C s).map (bh x (Wy C k) (B k))).sum
noncomputable def ro (C:Combs) (B:Nat->Nat->Nat) (fl:Bool) (k:Nat):Nat->Nat:=if fl=true then Wy C k else B k
noncomputable def sel (C:Combs) (x:Str) (B:Nat->Nat->Nat) (s:Nat) (fl:Bool) (k:Nat):Option (Str×Int):=(stp C s).find? fun p=>decide (0 < bh x (Wy C k) (ro C B fl k) p)
noncomputable def fw (C:Combs) (x:Str) (B:Nat->Nat->Nat) (n:Nat):Nat->Nat×Bool
 | 0=>(0,false)
 | i + 1=>match sel C x B (fw C x B n i).1 (fw C x B n i).2 (n - 1 - i) with
  | some p=>(p.2.toNat,(fw C x B n i).2 || decide (p.1=x))
  | none=>(0,false)
noncomputable def fnm (C:Combs) (x:Str) (B:Nat->Nat->Nat) (n i:Nat):Str:=((sel C x B (fw C x B n i).1 (fw C x B n i).2 (n - 1 - i)).map (·.1)).getD (A5 "")
theorem zgs (C:Combs) (x:Str):Sel C x (Wy C):=by
 refine ⟨fun s h => ?_,fun k s => ?_⟩
 ·have:0 < (if s=0 then 1 else 0):=h
  by_cases z:s=0
  ·exact z
  ·rw [if_neg z] at this; omega
 ·show ((stp C s).map fun p=>Wy C k p.2.toNat).sum=_
  refine zfJ fun p _ => ?_
  unfold bh
  split <;> rfl
theorem ro_succ {C:Combs} {x:Str} {B:Nat->Nat->Nat} (S:Sel C x B) (fl:Bool) (k s:Nat):ro C B fl (k + 1) s=((stp C s).map (bh x (Wy C k) (ro C B fl k))).sum:=by
 cases fl with
 | false=>exact S.succ k s
 | true=>exact (zgs C x).succ k s
theorem zfM {C:Combs} (g:GC C) {x:Str} {B:Nat->Nat->Nat} (S:Sel C x B) {s k:Nat} (hs:s < 128) {fl:Bool} (h:0 < ro C B fl (k + 1) s):∃ p,sel C x B s fl k=some p/\p∈stp C s/\0<=p.2/\p.2.toNat < 128/\0 < ro C B (fl || decide (p.1=x)) k p.2.toNat:=by
 rw [ro_succ S,sum_pos] at h
 obtain ⟨p,hp,h1⟩:=h
 cases e:sel C x B s fl k with
 | none =>
  unfold sel at e
  rw [N3] at e
  exact absurd (decide_eq_true h1) (e p hp)
 | some p' =>
  unfold sel at e
  have h2:=O3 e
  have h3:=L6 e
  have h4:=zcQ g hs h3
  refine ⟨p',rfl,h3,h4.1,h4.2,?_⟩
  have h5:=of_decide_eq_true h2
  unfold bh at h5
  by_cases z:p'.1=x
  ·rw [if_pos z] at h5
   rw [decide_eq_true z,Lz]
   exact h5
  ·rw [if_neg z] at h5
   rw [decide_eq_false z,Ji]
   exact h5
theorem zgm {C:Combs} (g:GC C) {x:Str} {B:Nat->Nat->Nat} (S:Sel C x B) {n:Nat} (h:0 < B n 0):∀ i,i<=n->(fw C x B n i).1 < 128/\0 < ro C B (fw C x B n i).2 (n - i) (fw C x B n i).1
 | 0,_=>⟨show 0 < 128 by decide,h⟩
 | i + 1,hi=>by
  obtain ⟨h1,h2⟩:=zgm g S h i (by omega)
  rw [show n - i=n - 1 - i + 1 by omega] at h2
  obtain ⟨p,e,_,_,p3,p4⟩:=zfM g S h1 h2
  have ef:fw C x B n (i + 1)=(p.2.toNat,(fw C x B n i).2 || decide (p.1=x)):=by
   show (match sel C x B (fw C x B n i).1 (fw C x B n i).2 (n - 1 - i) with
    | some p=>(p.2.toNat,(fw C x B n i).2 || decide (p.1=x))
    | none=>(0,false))=_
   rw [e]
  rw [ef,show n - (i + 1)=n - 1 - i by omega]
  exact ⟨p3,p4⟩
theorem zdy {C:Combs} (g:GC C) {x:Str} {B:Nat->Nat->Nat} (S:Sel C x B) {n:Nat} (h:0 < B n 0) {i:Nat} (hi:i < n):sel C x B (fw C x B n i).1 (fw C x B n i).2 (n - 1 - i)=some (fnm C x B n i,((fw C x B n (i + 1)).1:Int))/\(fw C x B n (i + 1)).2=((fw C x B n i).2 || decide (fnm C x B n i=x))/\(fnm C x B n i,((fw C x B n (i + 1)).1:Int))∈stp C (fw C x B n i).1:=by
 obtain ⟨h1,h2⟩:=zgm g S h i (by omega)
 rw [show n - i=n - 1 - i + 1 by omega] at h2
 obtain ⟨p,e,p1,p2,p3,p4⟩:=zfM g S h1 h2
 have ef:fw C x B n (i + 1)=(p.2.toNat,(fw C x B n i).2 || decide (p.1=x)):=by
  show (match sel C x B (fw C x B n i).1 (fw C x B n i).2 (n - 1 - i) with
   | some p=>(p.2.toNat,(fw C x B n i).2 || decide (p.1=x))
   | none=>(0,false))=_
  rw [e]
 have en:fnm C x B n i=p.1:=by unfold fnm; rw [e]; rfl
 have ep:(fnm C x B n i,((fw C x B n (i + 1)).1:Int))=p:=by
  rw [en,ef]
  refine O6 rfl ?_
  show ((p.2.toNat:Nat):Int)=p.2
  omega
 rw [ep,e]
 exact ⟨rfl,by rw [ef,en],p1⟩
theorem zg0 {C:Combs} (g:GC C) {x:Str} {B:Nat->Nat->Nat} (S:Sel C x B) {n:Nat} (h:0 < B n 0):(fw C x B n n).1=0:=by
 have h2:=(zgm g S h n (Ac _)).2
 rw [Im] at h2
 unfold ro at h2
 split at h2
 ·exact (zgs C x).zero _ h2
 ·exact S.zero _ h2
theorem step_lay {C:Combs} (g:GC C) (nd:(C.map (·.1)).Nodup) (ne:∀ c∈C,c.1≠A5 "") {p n:Nat} {l:List (Nat×Str)} (hl:l∈chs C p) (ol:OkC C l p) {x:Str} (h:(x,(n:Int))∈stp C (shp C l p)) :
  (if x=A5 "" then l else l ++ [(p,x)])∈chs C (p + 1)/\OkC C (if x=A5 "" then l else l ++ [(p,x)]) (p + 1)/\shp C (if x=A5 "" then l else l ++ [(p,x)]) (p + 1)=n:=by
 obtain ⟨_,hb⟩:=(zcW g (zdM _ _ _)).mp h
 rcases hb with ⟨h0,rfl,hb⟩ | ⟨h0,c,hc,rfl,hx,hb⟩
 ·rw [if_pos rfl]
  rw [zaE g hl,decide_eq_true_eq] at h0
  have hm:l∈chs C (p + 1):=Ds.mpr ⟨l,hl,Ah⟩
  refine ⟨hm,(zfk hl g).mpr ⟨ol,h0⟩,zck fun d => ?_⟩
  rw [zaE g hm,hb,zaE g hl,show p + 1 + d=p + (d + 1) by omega]
 ·rw [if_neg (ne c hc)]
  rw [zaE g hl,decide_eq_false_iff_not] at h0
  have hz:cov C l p=0:=by have:=ol.2 p (by omega); have h0:¬ cov C l p=1:=h0; omega
  have hm:l ++ [(p,c.1)]∈chs C (p + 1):=Ds.mpr ⟨l,hl,Aa _ (A7.mpr ⟨c,hc,rfl⟩)⟩
  refine ⟨hm,(zfj hl g nd hc).mpr ⟨ol,hz,fun d hd=>hx d (by rw [zaE g hl,decide_eq_true hd])⟩,zck fun d => ?_⟩
  rw [zaE g hm,hb,zaE g hl,show p + 1 + d=p + (d + 1) by omega,zb5,zga nd hc]
  have hx':=hx (d + 1)
  rw [zaE g hl,decide_eq_true_eq] at hx'
  have hle:cov C l (p + (d + 1))<=1:=by
   by_cases e':d + 1 < 8
   ·exact ol.2 _ (by omega)
   ·rw [zci g hl (by omega)]; omega
  by_cases a:cov C l (p + (d + 1))=1
  ·rw [decide_eq_false (hx' a),a]; rfl
  ·have a0:cov C l (p + (d + 1))=0:=by omega
   by_cases z:((d + 1:Nat):Int)∈c.2
   ·rw [decide_eq_true z,a0]; rfl
   ·rw [decide_eq_false z,a0]; rfl
noncomputable def laysOf (nm:Nat->Str) (n:Nat):List (Nat×Str):=(laid nm n).map fun j=>(j,nm j)
theorem laysOf_succ (nm:Nat->Str) (i:Nat):laysOf nm (i + 1)=if nm i=A5 "" then laysOf nm i else laysOf nm i ++ [(i,nm i)]:=by
 unfold laysOf laid
 rw [De,Ce]
 by_cases h:nm i=A5 ""
 ·rw [if_pos h,C4,if_neg (by simp [h]),Ec,Cd]
 ·rw [if_neg h,C4,if_pos (by simp [h]),Ec,Az]
  rfl
theorem zgJ {C:Combs} (g:GC C) (nd:(C.map (·.1)).Nodup) (ne:∀ c∈C,c.1≠A5 "") {f:Nat->Nat} {nm:Nat->Str} {n:Nat} (h0:f 0=0) (hs:∀ i,i < n->(nm i,(f (i + 1):Int))∈stp C (f i)):∀ i,i<=n->laysOf nm i∈chs C i/\OkC C (laysOf nm i) i/\shp C (laysOf nm i) i=f i
 | 0,_=>⟨A6.mpr rfl,⟨fun q hq=>by omega,fun q _=>Bi _⟩,by rw [h0]; rfl⟩
 | i + 1,hi=>by
  obtain ⟨h1,h2,h3⟩:=zgJ g nd ne h0 hs i (by omega)
  have:=step_lay g nd ne h1 h2 (x:=nm i) (n:=f (i + 1)) (by rw [h3]; exact hs i (by omega))
  rw [laysOf_succ]
  exact this
theorem zdT {C:Combs} (g:GC C) (nd:(C.map (·.1)).Nodup) (ne:∀ c∈C,c.1≠A5 "") {f:Nat->Nat} {nm:Nat->Str} {n:Nat} (h0:f 0=0) (hn:f n=0) (hs:∀ i,i < n->(nm i,(f (i + 1):Int))∈stp C (f i)):laysOf nm n∈chs C n/\Cover C (laysOf nm n) n:=by
 obtain ⟨h1,h2,h3⟩:=zgJ g nd ne h0 hs n (Ac _)
 exact ⟨h1,(zd7 g h1).mp ⟨h2,by rw [h3,hn]⟩⟩
theorem fw_cover {C:Combs} (g:GC C) (nd:(C.map (·.1)).Nodup) (ne:∀ c∈C,c.1≠A5 "") {x:Str} {B:Nat->Nat->Nat} (S:Sel C x B) {n:Nat} (h:0 < B n 0):laysOf (fnm C x B n) n∈chs C n/\Cover C (laysOf (fnm C x B n) n) n :=
 zdT g nd ne (f:=fun i=>(fw C x B n i).1) rfl (zg0 g S h) fun i hi=>(zdy g S h hi).2.2
noncomputable def LyR (H:Hp) (vs:List V) (l:List (Nat×Str)):Prop:=Bs (fun (x:Nat×Str) (u:V)=>∃ t,u = .ref t/\H t=some (.tup [.int (x.1:Int),.str x.2])) l vs
theorem zgR {H:Hp} {vs:List V} {nm:Nat->Str} {n:Nat} (r:LaysR H vs nm n):LyR H vs (laysOf nm n):=by
 have all:∀ {L:List Nat} {vs:List V},Bs (fun (j:Nat) (v:V)=>∃ q,v = .ref q/\H q=some (.tup [.int (j:Int),.str (nm j)])) L vs->LyR H vs (L.map fun j=>(j,nm j)):=by
  intro L vs r
  induction r with
  | nil=>exact .nil
  | cons h _ ih=>exact .cons h ih
 exact all r
theorem zeP (nm:Nat->Str) (n:Nat):(laysOf nm n).Pairwise fun x y=>x.1 < y.1:=by
 unfold laysOf
 rw [Bd]
 exact laid_up nm n
theorem cov_perm {C C':Combs} (p:C.Perm C') (nd:(C.map (·.1)).Nodup) (l:List (Nat×Str)) (q:Nat):cov C l q=cov C' l q:=by
 unfold cov
 refine zfJ fun x _ => ?_
 unfold hit tkOf
 rw [tk_perm p nd]
theorem zd2 {C C':Combs} (p:C.Perm C') (nd:(C.map (·.1)).Nodup) {l:List (Nat×Str)} {n:Nat} (h:Cover C l n):Cover C' l n:=fun q=>by rw [<- cov_perm p nd]; exact h q
theorem zf4 {C C':Combs} (p:C.Perm C') {l:List (Nat×Str)} (h:Lay C l):Lay C' l:=fun x hx=>(p.map _).mem_iff.mp (h x hx)
noncomputable abbrev KB:=List Key×Bool
section
variable {P:Aq} {w:Bj} {A:Bb} {E:A0->A3->Prop} {s:A3}
end
noncomputable abbrev PX:=KB×A4×V
section
variable {P:Aq} {w:Bj} {H:Hp} {h:Bz} {a b:A4} {xs:List PX} {k:KB}
end
section
variable {X:Cx} {pins:List (A4×Obj)} {σ : St} {H:Hp} {s:A3} {a b:A4} {xs:List PX} {k:KB} {A:Bb} {E:A0->A3->Prop}
end
section
variable {X:Cx} {o i e f value k v:Cb} {pos pos' apos cpos:Pos} {td ty tv tx tk:TE}
end
section
variable {X:Cx} {pins:List (A4×Obj)} {σ : St} {H:Hp} {s:A3} {a:A4} {u:HO}
end
section
variable {X:Cx} {tg:Cb}
end
section
variable {C:Combs} {x:Str}
end
section
variable {mvs:List PX} {rs:List (Nat×Bool)} {G:Nat×Bool->Nat}
end
section
variable {X:Cx}
end
theorem pl_congr {H:Hp} {nm nm':Nat->Str} {L:List Nat}:∀ {ws:List V},(∀ j∈L,nm j=nm' j)->PL H ws nm L->PL H ws nm' L:=fun {ws} e r=>by
 unfold PL at r ⊢
 induction r with
 | nil=>exact .nil
 | cons h _ ih =>
  obtain ⟨q,e1,e2⟩:=h
  exact .cons ⟨q,e1,by rw [<- e _ Ah]; exact e2⟩ (ih fun j hj=>e j (Aa _ hj))
theorem per_min {F:Nat->Bool} {i m:Nat} (him:i < m) (per:∀ k,i<=k->F (k + (m - i))=F k) (n:Nat) {y e:Int} (hy:y=(i:Int) + ((n:Int) - (i:Int)) % ((m:Int) - (i:Int))) (he:e=if y < (n:Int) then y else (n:Int)):0<=e/\e.toNat < m/\F e.toNat=F n:=by
 have hp:(0:Int) < (m:Int) - (i:Int):=by omega
 have y0:=Fg ((n:Int) - (i:Int)) (show (m:Int) - (i:Int)≠0 by omega)
 have y1:=Es ((n:Int) - (i:Int)) hp
 by_cases hn:n < i
 ·have:¬ y < (n:Int):=by omega
  rw [he,if_neg this]
  exact ⟨by omega,by omega,by rw [Cs]⟩
 ·obtain ⟨d,rfl⟩:=Fk (Ka hn)
  obtain ⟨p,rfl⟩:=Fk (Er him)
  have e1:((i + d:Nat):Int) - (i:Int)=(d:Nat):=by omega
  have e2:((i + p:Nat):Int) - (i:Int)=(p:Nat):=by omega
  rw [e1,e2,<- Int.natCast_emod] at hy
  have hd:=Nat.mod_le d p
  have hl:=Nat.mod_lt d (show 0 < p by omega)
  have ee:e=((i + d % p:Nat):Int):=by
   rw [he]
   split <;> omega
  rw [ee,Cs]
  refine ⟨by omega,by omega,?_⟩
  have pm:∀ j,F (i + d % p + j * p)=F (i + d % p):=by
   intro j
   induction j with
   | zero=>rw [Ik,Io]
   | succ j ih =>
    have:=per (i + d % p + j * p) (by omega)
    rw [C5] at this
    rw [Ir,<- Eh,this,ih]
  have:=pm (d / p)
  rw [<- this]
  congr 1
  have:=Ko d p
  rw [Jz (d / p) p]
  omega
end L2
set_option maxHeartbeats 4000000
namespace L2
open PySem PySem.Spec PyProof.Rows PySem.W
open AutoSeq1 (wpAny_loadPart')
open MeetsSeq MeetsSeq2 MeetsSeq3
noncomputable def ltS:List Str->List Str->Bool
 | [],[]=>false
 | [],_ :: _=>true
 | _ :: _,[]=>false
 | x :: xs,y :: ys=>if (x.cps.toList == y.cps.toList)=true then ltS xs ys else decide (x.cps.toList < y.cps.toList)
noncomputable def cmS (op:Hq) (a b:List Str):Bool:=match op with
 | .Lt=>ltS a b
 | .LtE => !ltS b a
 | _=>ltS b a
noncomputable def SA (its:Array A0) (as:List Str):Prop:=its.size=as.length/\∀ (j:Nat) x,as[j]?=some x->∃ t,its[j]?=some (.str x t)
theorem zhJ (op:Hq) (h:op = .Lt\/op = .LtE\/op = .Gt) {as bs:List Str} {i:Nat} (h1:i<=as.length) (h2:i<=bs.length) (h3:i=as.length\/i=bs.length) :
  (match op with | .Eq=>as.length == bs.length | .NotEq=>as.length != bs.length | .Lt=>decide (as.length < bs.length) | .LtE=>decide (as.length<=bs.length) | .Gt=>decide (as.length > bs.length) | _=>decide (as.length>=bs.length))=cmS op (as.drop i) (bs.drop i):=by
 have lt:∀ {as bs:List Str},i<=as.length->i<=bs.length->(i=as.length\/i=bs.length)->ltS (as.drop i) (bs.drop i)=decide (as.length < bs.length):=by
  intro as bs h1 h2 h3
  by_cases e1:i=as.length
  ·rw [I0 (show as.length<=i by omega)]
   by_cases e2:i=bs.length
   ·rw [I0 (show bs.length<=i by omega),decide_eq_false (show ¬ as.length < bs.length by omega)]; rfl
   ·cases h:bs.drop i with
    | nil=>have:=congrArg Ed h; rw [G7] at this; simp at this; omega
    | cons y ys=>rw [decide_eq_true (show as.length < bs.length by omega)]; rfl
  ·have e2:i=bs.length:=by omega
   rw [I0 (show bs.length<=i by omega),decide_eq_false (show ¬ as.length < bs.length by omega)]
   cases h:as.drop i with
   | nil=>rfl
   | cons y ys=>rfl
 rcases h with rfl | rfl | rfl
 ·exact (lt h1 h2 h3).symm
 ·show decide (as.length<=bs.length) = !ltS (bs.drop i) (as.drop i)
  rw [lt h2 h1 h3.symm]
  by_cases z:bs.length < as.length
  ·rw [decide_eq_true z,decide_eq_false (by omega)]; rfl
  ·rw [decide_eq_false z,decide_eq_true (by omega)]; rfl
 ·exact (lt h2 h1 h3.symm).symm
theorem cm_step (op:Hq) {x y:Str} {xs ys:List Str} (h:(x.cps.toList == y.cps.toList)=true):cmS op (x :: xs) (y :: ys)=cmS op xs ys:=by
 have h':(y.cps.toList == x.cps.toList)=true:=by rw [beq_iff_eq] at h ⊢; exact h.symm
 have e1:ltS (x :: xs) (y :: ys)=ltS xs ys:=by unfold ltS; rw [if_pos h]; cases xs <;> cases ys <;> rfl
 have e2:ltS (y :: ys) (x :: xs)=ltS ys xs:=by unfold ltS; rw [if_pos h']; cases xs <;> cases ys <;> rfl
 unfold cmS
 cases op <;> simp only [e1,e2]
theorem cm_diff (op:Hq) {x y:Str} {xs ys:List Str} (h:(x.cps.toList == y.cps.toList)=false):cmS op (x :: xs) (y :: ys)=match op with | .Lt=>decide (x.cps.toList < y.cps.toList) | .LtE => !decide (y.cps.toList < x.cps.toList) | _=>decide (y.cps.toList < x.cps.toList):=by
 have h':(y.cps.toList == x.cps.toList)=false:=by rw [beq_eq_false_iff_ne] at h ⊢; exact fun z=>h z.symm
 have e1:ltS (x :: xs) (y :: ys)=decide (x.cps.toList < y.cps.toList):=by unfold ltS; rw [if_neg (by rw [h]; exact A9)]
 have e2:ltS (y :: ys) (x :: xs)=decide (y.cps.toList < x.cps.toList):=by unfold ltS; rw [if_neg (by rw [h']; exact A9)]
 unfold cmS
 cases op <;> simp only [e1,e2]
theorem str_cmp {prog:Aq} {w:Bj} {A:Bb} {E:A0->A3->Prop} {s:A3} (op:Hq) (h:op = .Lt\/op = .LtE\/op = .Gt) {x y:Str} {t u:Tok} {Q:A0->A3->Prop}
  (q:Q (.bool (match op with | .Lt=>decide (x.cps.toList < y.cps.toList) | .LtE => !decide (y.cps.toList < x.cps.toList) | _=>decide (y.cps.toList < x.cps.toList))) s):wpAny (model prog w) A (richCompare op (.str x t) (.str y u)) Q E s:=by
 rcases h with rfl | rfl | rfl
 ·show wpAny _ _ (compareOp .Lt _ _) _ _ _
  exact PySem.P.lt_str q
 ·show wpAny _ _ (compareOp .LtE _ _) _ _ _
  exact Nc q
 ·show wpAny _ _ (compareOp .Gt _ _) _ _ _
  exact PySem.P.gt_str q
theorem zeo (op:Hq) (code:Int) (hop:(op = .Lt/\code=0)\/(op = .LtE/\code=1)\/(op = .Gt/\code=4)) (l b:A4) (its its2:Array A0) (n n2:Nat) (dd dd2:Option A4) (sl sl2:Array (Option A0)) {as bs:List Str} (ha:SA its as) (hb':SA its2 bs) (k:Nat) :
  ∀ i:Nat,as.length - i=k->i<=as.length->i<=bs.length->Qa (Ff.«list.__eq__.loop» ⟨[.ref l,.ref b,rawInt i,rawInt code],[]⟩)
   (fun _ R s=>s.heap.get? l=some { cls := .type "list",dict:=dd,data := .seq its n,slots:=sl }/\s.heap.get? b=some { cls := .type "list",dict:=dd2,data := .seq its2 n2,slots:=sl2 } /\
    R (.ok (.ret (.bool (cmS op (as.drop i) (bs.drop i))))) s):=by
 induction k with
 | zero =>
  intro i hk h1 h2 prog w A R s h
  obtain ⟨hp,g,d,tk,os⟩:=s; obtain ⟨hl,hb,h⟩:=h
  have hi1:its[((i:Nat):Int).toNat]?=none:=by simp; rw [ha.1]; omega
  have he:=zhJ op (by rcases hop with h | h | h <;> simp [h.1]) (as:=as) (bs:=bs) (i:=i) h1 h2 (by omega)
  rw [<- he] at h
  rcases hop with ⟨rfl,rfl⟩ | ⟨rfl,rfl⟩ | ⟨rfl,rfl⟩
  all_goals
   wp_walk using Bt hl,Bt hb
   rw [hi1]
   wp_walk using Bt hl,Bt hb
   rw [<- ha.1,<- hb'.1] at h
   exact h
 | succ k ih =>
  intro i hk h1 h2 prog w A R s h
  obtain ⟨hp,g,d,tk,os⟩:=s; obtain ⟨hl,hb,h⟩:=h
  have hlt:i < as.length:=by omega
  by_cases hlt2:i < bs.length
  ·obtain ⟨t,e1⟩:=ha.2 i _ (A8 hlt)
   obtain ⟨u,e2⟩:=hb'.2 i _ (A8 hlt2)
   have hi1:its[((i:Nat):Int).toNat]?=some (.str as[i] t):=e1
   have hi2:its2[((i:Nat):Int).toNat]?=some (.str bs[i] u):=e2
   have hc:((i:Int) + 1)=((i + 1:Nat):Int):=by push_cast; rfl
   rw [Ea hlt,Ea hlt2] at h
   rcases hop with ⟨rfl,rfl⟩ | ⟨rfl,rfl⟩ | ⟨rfl,rfl⟩
   all_goals
    wp_walk using Bt hl,Bt hb
    rw [hi1,hi2]
    refine A1 (O1 _ _ t u prog w _ _ _ _ ?_)
    cases hq:(as[i].cps.toList == bs[i].cps.toList) with
    | true =>
     rw [cm_step _ hq] at h
     wp_walk
     rw [hc]
     exact ⟨K4 plain_eq_loop _,Jb entry_eq_loop (by
      rw [G8 plain_eq_loop _]
      exact ih (i + 1) (by omega) (by omega) (by omega) prog w A R _ ⟨hl,hb,h⟩)⟩
    | false =>
     rw [cm_diff _ hq] at h
     wp_walk using Bt hl,Bt hb
     rw [hi1,hi2]
     refine A1 ?_
     refine str_cmp _ ?_ ?_
     ·first
       | exact .inl rfl
       | exact .inr (.inl rfl)
       | exact .inr (.inr rfl)
     wp_walk
     exact h
  ·have e2:i=bs.length:=by omega
   obtain ⟨t,e1⟩:=ha.2 i _ (A8 hlt)
   have hi1:its[((i:Nat):Int).toNat]?=some (.str as[i] t):=e1
   have hi2:its2[((i:Nat):Int).toNat]?=none:=by simp; rw [hb'.1]; omega
   have he:=zhJ op (by rcases hop with h | h | h <;> simp [h.1]) (as:=as) (bs:=bs) (i:=i) h1 h2 (by omega)
   rw [<- he] at h
   rcases hop with ⟨rfl,rfl⟩ | ⟨rfl,rfl⟩ | ⟨rfl,rfl⟩
   all_goals
    wp_walk using Bt hl,Bt hb
    rw [hi1,hi2]
    wp_walk using Bt hl,Bt hb
    rw [<- ha.1,<- hb'.1] at h
    exact h
end L2
set_option maxHeartbeats 4000000
namespace L2
open PySem PySem.Spec PyProof.Rows PySem.W
open AutoSeq1 (wpAny_loadPart')
open MeetsSeq MeetsSeq2 MeetsSeq3
theorem list_ltS (l b:A4) (its its2:Array A0) (n n2:Nat) (dd dd2:Option A4) (sl sl2:Array (Option A0)) {as bs:List Str} (ha:SA its as) (hb':SA its2 bs) :
  Qa (Ff.«list.__lt__» ⟨[.ref l,.ref b],[]⟩)
   (fun _ R s=>s.heap.get? l=some { cls := .type "list",dict:=dd,data := .seq its n,slots:=sl }/\s.heap.get? b=some { cls := .type "list",dict:=dd2,data := .seq its2 n2,slots:=sl2 } /\
    R (.ok (.ret (.bool (cmS .Lt as bs)))) s):=by
 intro prog w A R s h
 obtain ⟨hp,g,d,tk,os⟩:=s; obtain ⟨hl,hb,h⟩:=h
 have f3:=Hi
 wp_walk using Bt hl,Bt hb
 exact ⟨K4 plain_eq_loop _,Jb entry_eq_loop (by
  rw [G8 plain_eq_loop _]
  exact zeo .Lt 0 (.inl ⟨rfl,rfl⟩) l b its its2 n n2 dd dd2 sl sl2 ha hb' _ 0 rfl (Bi _) (Bi _) prog w A R _ ⟨hl,hb,h⟩)⟩
theorem list_leS (l b:A4) (its its2:Array A0) (n n2:Nat) (dd dd2:Option A4) (sl sl2:Array (Option A0)) {as bs:List Str} (ha:SA its as) (hb':SA its2 bs) :
  Qa (Ff.«list.__le__» ⟨[.ref l,.ref b],[]⟩)
   (fun _ R s=>s.heap.get? l=some { cls := .type "list",dict:=dd,data := .seq its n,slots:=sl }/\s.heap.get? b=some { cls := .type "list",dict:=dd2,data := .seq its2 n2,slots:=sl2 } /\
    R (.ok (.ret (.bool (cmS .LtE as bs)))) s):=by
 intro prog w A R s h
 obtain ⟨hp,g,d,tk,os⟩:=s; obtain ⟨hl,hb,h⟩:=h
 have f3:=Hi
 wp_walk using Bt hl,Bt hb
 exact ⟨K4 plain_eq_loop _,Jb entry_eq_loop (by
  rw [G8 plain_eq_loop _]
  exact zeo .LtE 1 (.inr (.inl ⟨rfl,rfl⟩)) l b its its2 n n2 dd dd2 sl sl2 ha hb' _ 0 rfl (Bi _) (Bi _) prog w A R _ ⟨hl,hb,h⟩)⟩
theorem list_gtS (l b:A4) (its its2:Array A0) (n n2:Nat) (dd dd2:Option A4) (sl sl2:Array (Option A0)) {as bs:List Str} (ha:SA its as) (hb':SA its2 bs) :
  Qa (Ff.«list.__gt__» ⟨[.ref l,.ref b],[]⟩)
   (fun _ R s=>s.heap.get? l=some { cls := .type "list",dict:=dd,data := .seq its n,slots:=sl }/\s.heap.get? b=some { cls := .type "list",dict:=dd2,data := .seq its2 n2,slots:=sl2 } /\
    R (.ok (.ret (.bool (cmS .Gt as bs)))) s):=by
 intro prog w A R s h
 obtain ⟨hp,g,d,tk,os⟩:=s; obtain ⟨hl,hb,h⟩:=h
 have f3:=Hi
 wp_walk using Bt hl,Bt hb
 exact ⟨K4 plain_eq_loop _,Jb entry_eq_loop (by
  rw [G8 plain_eq_loop _]
  exact zeo .Gt 4 (.inr (.inr ⟨rfl,rfl⟩)) l b its its2 n n2 dd dd2 sl sl2 ha hb' _ 0 rfl (Bi _) (Bi _) prog w A R _ ⟨hl,hb,h⟩)⟩
theorem zhR {as:List Str} {us:List A0} (r:Vals (as.map V.str) us):SA us.toArray as:=by
 refine ⟨by rw [B8,<- r.length,A2],fun j x hx => ?_⟩
 obtain ⟨u,h1,t,h2⟩:=r.get (i:=j) (x := .str x) (by rw [Af,hx]; rfl)
 exact ⟨t,by rw [List.getElem?_toArray,h1,h2]⟩
section
variable {prog:Aq} {w:Bj} {A:Bb} {E:A0->A3->Prop} {s:A3}
theorem cmp_lists (op:Hq) (hop:op = .Lt\/op = .LtE\/op = .Gt) {l b:A4} {items items2:Array A0} {as bs:List Str} {Q:A0->A3->Prop} (hl:s.heap.IsList l items) (hb:s.heap.IsList b items2) (hi:SA items as) (hj:SA items2 bs)
  (hu:A.units < cLine) (h:Q (.bool (cmS op as bs)) s):wpAny (model prog w) A (compareOp op (.ref l) (.ref b)) Q E s:=by
 obtain ⟨⟨cls,dd,data,sl⟩,ho,hc,n,hd⟩:=id hl
 obtain ⟨⟨cls2,dd2,data2,sl2⟩,ho2,hc2,n2,hd2⟩:=id hb
 simp only at hc hd hc2 hd2
 subst hc hd hc2 hd2
 have z:∀ v:Bool,F0 v≠Ez:=fun v x=>nomatch x
 rcases hop with rfl | rfl | rfl
 ·exact Ga (op := .Lt) ⟨_,ho,rfl⟩ ⟨_,ho2,rfl⟩ PySem.F.slot_list_lt PySem.F.entry_list_lt (PySem.F.args_list_lt_2 _ _) (list_ltS l b items items2 n n2 dd dd2 sl sl2 hi hj) ⟨ho,ho2,show F0 (cmS .Lt as bs)≠Ez/\Q (.bool (cmS .Lt as bs)) s from ⟨z _,h⟩⟩ hu
 ·exact Ga (op := .LtE) ⟨_,ho,rfl⟩ ⟨_,ho2,rfl⟩ PySem.F.slot_list_le PySem.F.entry_list_le (PySem.F.args_list_le_2 _ _) (list_leS l b items items2 n n2 dd dd2 sl sl2 hi hj) ⟨ho,ho2,show F0 (cmS .LtE as bs)≠Ez/\Q (.bool (cmS .LtE as bs)) s from ⟨z _,h⟩⟩ hu
 ·exact Ga (op := .Gt) ⟨_,ho,rfl⟩ ⟨_,ho2,rfl⟩ PySem.F.slot_list_gt PySem.F.entry_list_gt (PySem.F.args_list_gt_2 _ _) (list_gtS l b items items2 n n2 dd dd2 sl sl2 hi hj) ⟨ho,ho2,show F0 (cmS .Gt as bs)≠Ez/\Q (.bool (cmS .Gt as bs)) s from ⟨z _,h⟩⟩ hu
end
noncomputable def rCmS (K:Av) (op:Hq):R2:=fun x y H Q=>∃ a b as bs,x = .ref a/\y = .ref b/\SqL K H a (as.map V.str)/\SqL K H b (bs.map V.str)/\Q (.bl (cmS op as bs)) H
section
variable {X:Cx}
theorem op_cmS (op:Hq) (hop:op = .Lt\/op = .LtE\/op = .Gt) (hu:X.A.units + 64 < cLine):OpR X (compareOp op) (rCmS X.K op):=by
 intro pins s σ H x y v u Q I rx ry h
 obtain ⟨a,b,as,bs,rfl,rfl,ha,hb,q⟩:=h
 cases rx
 cases ry
 obtain ⟨its,r1,p1,_⟩:=I.list ha
 obtain ⟨its2,r2,p2,_⟩:=I.list hb
 exact cmp_lists op hop p1.isList p2.isList (zhR r1) (zhR r2) (Ng (Kb _ 64) hu) ⟨.bl (cmS op as bs),H,I,rfl,q⟩
end
end L2
namespace L2
open PySem PySem.Spec PyProof.Rows
theorem str_cps {x y:Str} (h:x.cps.toList=y.cps.toList):x=y:=by
 cases x; cases y
 simp only at h
 congr 1
 exact K1.mp h
theorem zgN:∀ l:List Str,ltS l l=false
 | []=>rfl
 | x :: l=>by
  unfold ltS
  rw [if_pos (by simp)]
  exact zgN l
theorem zgO {x y:Str} (h:x.cps.toList < y.cps.toList) (r r':List Str):∀ p:List Str,ltS (p ++ x :: r) (p ++ y :: r')=true/\ltS (p ++ y :: r') (p ++ x :: r)=false
 | []=>by
  have hne:(x.cps.toList == y.cps.toList)=false:=by
   rw [beq_eq_false_iff_ne]
   intro z
   rw [z] at h
   exact List.lt_irrefl _ h
  have hne':(y.cps.toList == x.cps.toList)=false:=by rw [beq_eq_false_iff_ne] at hne ⊢; exact fun z=>hne z.symm
  refine ⟨?_,?_⟩
  ·show (if (x.cps.toList == y.cps.toList)=true then ltS r r' else decide (x.cps.toList < y.cps.toList))=true
   rw [if_neg (by rw [hne]; exact A9),decide_eq_true h]
  ·show (if (y.cps.toList == x.cps.toList)=true then ltS r' r else decide (y.cps.toList < x.cps.toList))=false
   rw [if_neg (by rw [hne']; exact A9),decide_eq_false (List.lt_asymm h)]
 | a :: p=>by
  obtain ⟨h1,h2⟩:=zgO h r r' p
  refine ⟨?_,?_⟩
  ·show (if (a.cps.toList == a.cps.toList)=true then ltS (p ++ x :: r) (p ++ y :: r') else _)=true
   rw [if_pos (by simp)]; exact h1
  ·show (if (a.cps.toList == a.cps.toList)=true then ltS (p ++ y :: r') (p ++ x :: r) else _)=false
   rw [if_pos (by simp)]; exact h2
noncomputable def namesOf (nm:Nat->Str) (n:Nat):List Str:=(laid nm n).map nm
theorem zdm (nm:Nat->Str) (i r:Nat) (h:nm i≠A5 ""):∃ R,namesOf nm (i + 1 + r)=namesOf nm i ++ nm i :: R:=by
 refine ⟨(((Ab r).map fun k=>i + 1 + k).filter fun j=>decide (nm j≠A5 "")).map nm,?_⟩
 unfold namesOf laid
 rw [Ob,De,Ce,Ce,Az,Az,C4,if_pos (decide_eq_true h),Ec,An,Fq,As]
 rfl
theorem zdn {nm nm':Nat->Str} {n:Nat} (h:∀ j,j < n->nm j=nm' j):namesOf nm n=namesOf nm' n:=by
 unfold namesOf laid
 have e:(Ab n).filter (fun j=>decide (nm j≠A5 ""))=(Ab n).filter fun j=>decide (nm' j≠A5 ""):=Ev fun j hj=>by rw [h j (B7.mp hj)]
 rw [e]
 exact C7 fun j hj=>h j (B7.mp (Ax.mp hj).1)
noncomputable def Ord (C:Combs):Prop:=C.Pairwise fun c d=>c.1.cps.toList < d.1.cps.toList
theorem by_names (cs:Combs) (l:List Str):(byNames cs l).map (·.1)=l:=by
 unfold byNames
 rw [B6]
 conv=>rhs; rw [<- Fj l]
 rfl
theorem srt_ord {cs:Combs} (nd:(cs.map (·.1)).Nodup):Ord (srt cs):=by
 have h1:=zcI (zeL cs)
 have h2:(nmSort cs).Nodup:=(zfl cs).nodup_iff.mpr nd
 have h3:(nmSort cs).Pairwise fun a b=>a.cps.toList < b.cps.toList:=by
  refine (h1.and h2).imp fun {a b} h => ?_
  have h4:a.cps.toList<=b.cps.toList:=h.1
  by_cases z:a.cps.toList < b.cps.toList
  ·exact z
  ·exact absurd (str_cps (Nq h4 (P7.mp z))) h.2
 unfold Ord
 have e:(srt cs).map (·.1)=nmSort cs:=by_names cs _
 rw [<- e,Bd] at h3
 exact h3
theorem stp_ord {C:Combs} (o:Ord C) (s:Nat):(stp C s).Pairwise fun p q=>p.1.cps.toList < q.1.cps.toList:=by
 unfold stp stepsOf
 split
 ·exact Ln _ _
 ·rw [Bd]
  exact Bc Cp o
theorem zd1 {α : Type} {R : α -> α -> Prop} {p : α -> Bool} {a b : α}:∀ {l:List α},l.Pairwise R->l.find? p=some a->b∈l->p b=true->a=b\/R a b
 | x :: l,hp,hf,hb,hpb=>by
  rw [Eb] at hf
  rw [Gw] at hp
  cases hx:p x with
  | true =>
   rw [hx] at hf
   cases hf
   rcases B9.mp hb with rfl | hb
   ·exact .inl rfl
   ·exact .inr (hp.1 b hb)
  | false =>
   rw [hx] at hf
   rcases B9.mp hb with rfl | hb
   ·rw [hx] at hpb; cases hpb
   ·exact zd1 hp.2 hf hb hpb
theorem zhr {C:Combs} {s:Nat} {p q:Str×Int} (ne:∀ c∈C,c.1≠A5 "") (hp:p∈stp C s) (hq:q∈stp C s) (h:p≠q):p.1≠A5 "" := by
 unfold stp stepsOf at hp hq
 split at hp
 ·rw [if_pos ‹_›] at hq
  exact absurd ((A6.mp hp).trans (A6.mp hq).symm) h
 ·obtain ⟨c,hc,rfl⟩:=A7.mp hp
  exact ne c (Ax.mp hc).1
theorem fw_least {C:Combs} (g:GC C) (nd:(C.map (·.1)).Nodup) (ne:∀ c∈C,c.1≠A5 "") (o:Ord C) {x:Str} {B:Nat->Nat->Nat} (S:Sel C x B) {n:Nat} (h:0 < B n 0) {f:Nat->Nat} {nm:Nat->Str} {fl:Nat->Bool} (h0:f 0=0) (hf0:fl 0=false)
  (hs:∀ i,i < n->(nm i,(f (i + 1):Int))∈stp C (f i)) (hfl:∀ i,i < n->fl (i + 1)=(fl i || decide (nm i=x))) (hpos:∀ i,i < n->0 < bh x (Wy C (n - 1 - i)) (ro C B (fl i) (n - 1 - i)) (nm i,(f (i + 1):Int))) :
  namesOf (fnm C x B n) n=namesOf nm n\/ltS (namesOf (fnm C x B n) n) (namesOf nm n)=true/\ltS (namesOf nm n) (namesOf (fnm C x B n) n)=false:=by
 have key:∀ k,k<=n->(∀ i,i < k->fnm C x B n i=nm i)/\(fw C x B n k).1=f k/\(fw C x B n k).2=fl k\/∃ i,i < n/\(∀ j,j < i->fnm C x B n j=nm j)/\fnm C x B n i≠A5 "" /\ nm i≠A5 "" /\ (fnm C x B n i).cps.toList < (nm i).cps.toList:=by
  intro k
  induction k with
  | zero=>exact fun _ => .inl ⟨fun i hi=>by omega,by rw [h0]; rfl,by rw [hf0]; rfl⟩
  | succ k ih =>
   intro hk
   rcases ih (by omega) with ⟨a1,a2,a3⟩ | r
   ·obtain ⟨b1,b2,b3⟩:=zdy g S h (show k < n by omega)
    have hm:=hs k (by omega)
    have hq:=hpos k (by omega)
    have ford:(stp C (f k)).find? (fun p=>decide (0 < bh x (Wy C (n - 1 - k)) (ro C B (fl k) (n - 1 - k)) p))=some (fnm C x B n k,((fw C x B n (k + 1)).1:Int)):=by
     have:=b1
     unfold sel at this
     rwa [a2,a3] at this
    rw [a2] at b3
    by_cases e:(fnm C x B n k,((fw C x B n (k + 1)).1:Int))=(nm k,(f (k + 1):Int))
    ·injection e with e1 e2
     refine .inl ⟨fun i hi => ?_,by omega,by rw [b2,a3,e1,hfl k (by omega)]⟩
     by_cases z:i=k
     ·subst z; exact e1
     ·exact a1 i (by omega)
    ·rcases zd1 (stp_ord o (f k)) ford hm (decide_eq_true hq) with z | z
     ·exact absurd z e
     ·exact .inr ⟨k,by omega,a1,zhr ne b3 hm e,zhr ne hm b3 (Dz e),z⟩
   ·exact .inr r
 rcases key n (Ac _) with ⟨a1,_⟩ | ⟨i,hi,a1,a2,a3,a4⟩
 ·exact .inl (zdn a1)
 ·obtain ⟨r,rfl⟩:=Fk (show i + 1<=n by omega)
  obtain ⟨R,eR⟩:=zdm (fnm C x B (i + 1 + r)) i r a2
  obtain ⟨R',eR'⟩:=zdm nm i r a3
  rw [eR,eR',zdn a1]
  exact .inr (zgO a4 _ _ _)
theorem zdQ {α β : Type} (l:List α) (d : α) (f : α -> β):(Ab l.length).map (fun i=>f (l.getD i d))=l.map f:=by
 refine Nt (by simp) fun i h1 h2 => ?_
 rw [A2,Aw] at h1
 simp [h1]
theorem zdV {H:Hp} {D:A4} {wl:List V} {nm:Nat->Str} {n:Nat} (hl:wl.length=(laid nm n).length) (e:H D=some (.lst (((Ab wl.length).filter fun _=>true).map fun j=>V.str (nm ((laid nm n).getD j 0))))):H D=some (.lst ((namesOf nm n).map V.str)):=by
 rw [e,C8.mpr fun _ _=>rfl,hl,zdQ (laid nm n) 0 fun j=>V.str (nm j)]
 unfold namesOf
 rw [B6]
 rfl
theorem zhq {α : Type} {l:List α} {f g : α -> Nat} (h:∀ x∈l,f x<=g x):(l.map f).sum<=(l.map g).sum:=by
 induction l with
 | nil=>exact Ac _
 | cons a l ih =>
  rw [An,An,D5,D5]
  exact Nat.add_le_add (h a Ah) (ih fun x hx=>h x (Aa _ hx))
theorem sum_mul {α : Type} (l:List α) (f : α -> Nat) (c:Nat):(l.map f).sum * c=(l.map fun x=>f x * c).sum:=by
 induction l with
 | nil=>exact Ik c
 | cons a l ih=>rw [An,An,D5,D5,Kg,ih]
theorem zhi (C:Combs) (n:Nat):∀ m s,Wy C m s * Wy C n 0<=Wy C (m + n) s
 | 0,s=>by
  show (if s=0 then 1 else 0) * _<=_
  by_cases h:s=0
  ·rw [if_pos h,Q0,Jy,h]; exact Ac _
  ·rw [if_neg h,Ik]; exact Bi _
 | m + 1,s=>by
  rw [show m + 1 + n=m + n + 1 by omega]
  show ((stp C s).map fun p=>Wy C m p.2.toNat).sum * _<=((stp C s).map fun p=>Wy C (m + n) p.2.toNat).sum
  rw [sum_mul]
  exact zhq fun p _=>zhi C n m _
theorem zgj {C:Combs} (h8:C.length<=8):∀ k s,Wy C k s<=8 ^ k
 | 0,s=>by show (if s=0 then 1 else 0)<=1; split <;> omega
 | k + 1,s=>by
  show ((stp C s).map fun p=>Wy C k p.2.toNat).sum<=_
  have h1:=zhq (l:=stp C s) (f:=fun p=>Wy C k p.2.toNat) (g:=fun _=>8 ^ k) fun p _=>zgj h8 k _
  have h2:∀ l:List (Str×Int),(l.map fun _=>8 ^ k).sum=l.length * 8 ^ k:=fun l=>by
   induction l with
   | nil=>exact (Ik _).symm
   | cons a l ih=>rw [An,D5,ih,At,Kg,Q0,Gq]
  rw [h2] at h1
  refine Br h1 ?_
  rw [M6,Jz]
  exact Mz _ (zdd h8 s)
theorem zhj {C:Combs} (h8:C.length<=8) {k:Nat} (hk:k<=200):Qc ((Wy C k 0:Nat):Int)<=2 ^ 20:=by
 have h1:=zgj h8 k 0
 have h2:(8:Nat) ^ k<=8 ^ 200:=Gd (by decide) hk
 have h3:(8:Nat) ^ 200 < 2 ^ 601:=by decide +kernel
 refine Br (m:=601) (PySem.intBits_le_iff.mpr ?_) (by decide)
 rw [Int.natAbs_natCast]
 omega
noncomputable def join {α : Type} (m:Nat) (f g:Nat -> α):Nat -> α := fun i=>if i < m then f i else g (i - m)
theorem laid_join (nm nm':Nat->Str) (m n:Nat):laid (join m nm nm') (m + n)=laid nm m ++ (laid nm' n).map fun j=>m + j:=by
 unfold laid
 rw [Ob,Ce]
 congr 1
 ·exact Ev fun j hj=>by
   have:=B7.mp hj
   unfold join
   rw [if_pos this]
 ·rw [Fe]
  congr 1
  refine Ev fun j _ => ?_
  show decide (join m nm nm' (m + j)≠_)=_
  unfold join
  rw [if_neg (by omega),C5]
theorem path_join {C:Combs} {f g:Nat->Nat} {nm nm':Nat->Str} {m n:Nat} (hf:f m=0) (g0:g 0=0) (h1:∀ i,i < m->(nm i,(f (i + 1):Int))∈stp C (f i)) (h2:∀ i,i < n->(nm' i,(g (i + 1):Int))∈stp C (g i)) :
  ∀ i,i < m + n->(join m nm nm' i,((join m f g (i + 1):Nat):Int))∈stp C (join m f g i):=fun i hi=>by
 unfold join
 by_cases h:i < m
 ·rw [if_pos h,if_pos h]
  by_cases e:i + 1 < m
  ·rw [if_pos e]; exact h1 i h
  ·rw [if_neg e,show i + 1 - m=0 by omega,g0,<- hf]
   have:=h1 i h
   rwa [show i + 1=m by omega] at this
 ·rw [if_neg h,if_neg h,if_neg (by omega),show i + 1 - m=i - m + 1 by omega]
  exact h2 (i - m) (by omega)
theorem join_zero {f g:Nat->Nat} {m:Nat} (h:f 0=0) (hg:g 0=0):join m f g 0=0:=by
 unfold join
 split
 ·exact h
 ·rw [Nat.zero_sub]; exact hg
theorem lays_join {H:Hp} {ws ws':List V} {nm nm':Nat->Str} {m n:Nat} (r1:PL H ws nm (laid nm m)) (r2:Bs (fun (j:Nat) (v:V)=>∃ q,v = .ref q/\H q=some (.tup [.int ((m:Nat) + (j:Int)),.str (nm' j)])) (laid nm' n) ws'):LaysR H (ws ++ ws') (join m nm nm') (m + n):=by
 refine PL.lays.mp ?_
 rw [laid_join]
 have a1:PL H ws (join m nm nm') (laid nm m):=pl_congr (fun j hj=>by
  have:=B7.mp (Ax.mp hj).1
  unfold join
  rw [if_pos this]) r1
 have a2:PL H ws' (join m nm nm') ((laid nm' n).map fun j=>m + j):=by
  unfold PL
  generalize laid nm' n=L at r2
  induction r2 with
  | nil=>exact .nil
  | cons h _ ih =>
   obtain ⟨q,e1,e2⟩:=h
   refine .cons ⟨q,e1,?_⟩ ih
   rw [e2]
   show _=some (HO.tup [V.int ((m + _:Nat):Int),V.str (join m nm nm' (m + _))])
   unfold join
   rw [if_neg (Nat.not_lt.mpr (Kb _ _)),C5,Kp]
 unfold PL at a1 a2 ⊢
 generalize laid nm m=L1 at a1
 generalize (laid nm' n).map (fun j=>m + j)=L2' at a2
 clear r1 r2
 induction a1 with
 | nil=>exact a2
 | cons h _ ih=>exact .cons h ih
theorem zgF {l:List Nat} (h:l ≠ []) (c:Int):0 < ((l.map fun n=>V.int ((n:Nat):Int)).length:Int)/\∃ n∈l,atI (l.map fun n=>V.int ((n:Nat):Int)) (c % ((l.map fun n=>V.int ((n:Nat):Int)).length:Int))=some (.int ((n:Nat):Int)):=by
 have hl:=Mw.mpr h
 have el:((l.map fun n=>V.int ((n:Nat):Int)).length:Int)=(l.length:Int):=by rw [A2]
 rw [el]
 have i0:=Fg c (show (l.length:Int)≠0 by omega)
 have i1:=Es c (show (0:Int) < (l.length:Int) by omega)
 have hi:(c % (l.length:Int)).toNat < l.length:=by omega
 refine ⟨by omega,l[(c % (l.length:Int)).toNat],List.getElem_mem hi,zfx i0 ?_⟩
 rw [Af,A8 hi]
 rfl
theorem zeE {F:Nat->Bool} {i p:Nat} (h:∀ k,i<=k->F (k + p)=F k) {k:Nat} (hk:i<=k):∀ j,F (k + p * j)=F k
 | 0=>by rw [Nat.mul_zero,Io]
 | j + 1=>by rw [Nat.mul_add,Nat.mul_one,<- Eh,h _ (by omega),zeE h hk j]
theorem paired_map {α β γ : Type} {R : β -> γ -> Prop} {f : α -> β} {l:List α} {vs:List γ} (h:Bs (fun a v=>R (f a) v) l vs):Bs R (l.map f) vs:=by
 induction h with
 | nil=>exact .nil
 | cons h _ ih=>exact .cons h ih
noncomputable def ext (i:Nat) (l:List (Nat×Str)) (x:Str):List (Nat×Str):=if x=A5 "" then l else l ++ [(i,x)]
noncomputable def has (x:Str) (l:List (Nat×Str)):Bool:=decide (x∈l.map (·.2))
noncomputable def wt (C:Combs) (x:Str) (B:Nat->Nat->Nat) (k:Nat) (a:Nat×List (Nat×Str)):Nat:=ro C B (has x a.2) k a.1
end L2
set_option maxHeartbeats 4000000
namespace K32
open PySem L2 PyProof.Rows
noncomputable def top (i:Nat):Cj:=PySem.Challenge.pw_combstrip_k32_whole_sum.main.body.getD i (.Pass ⟨0,0,0,0⟩)
noncomputable abbrev s__wall:Cj:=top 0
noncomputable abbrev s_shape_steps:Cj:=top 21
noncomputable abbrev s_teeth_worth:Cj:=top 22
noncomputable abbrev s_step_table:Cj:=top 23
noncomputable abbrev s_shapes_behind:Cj:=top 24
noncomputable abbrev s_fits_flush:Cj:=top 26
noncomputable abbrev s_shortest_length:Cj:=top 27
noncomputable abbrev s_least_lengths:Cj:=top 28
noncomputable abbrev s_is_reached:Cj:=top 29
noncomputable abbrev s_is_name:Cj:=top 31
noncomputable abbrev s_is_small_letter:Cj:=top 32
noncomputable abbrev s_are_teeth:Cj:=top 33
noncomputable abbrev s_Book___init__:Cj:=inClass (top 35) 0
noncomputable abbrev s_Book_put:Cj:=inClass (top 35) 1
noncomputable abbrev s_Book_drop:Cj:=inClass (top 35) 2
noncomputable abbrev s_Book_add_tooth:Cj:=inClass (top 35) 3
noncomputable abbrev s_Book_take_off:Cj:=inClass (top 35) 4
noncomputable abbrev s_Book_undo:Cj:=inClass (top 35) 5
noncomputable abbrev s_Book_deeds:Cj:=inClass (top 35) 6
noncomputable abbrev s_Book_names:Cj:=inClass (top 35) 7
noncomputable abbrev s_Book_teeth:Cj:=inClass (top 35) 8
noncomputable abbrev s_Book_check_comb:Cj:=inClass (top 35) 9
noncomputable abbrev s_Book_set_comb:Cj:=inClass (top 35) 10
noncomputable abbrev s_Book_do_deed:Cj:=inClass (top 35) 11
noncomputable abbrev s_first_filling:Cj:=top 37
noncomputable abbrev s_count_fillings:Cj:=top 38
noncomputable abbrev s_check_length:Cj:=top 39
noncomputable abbrev s_ways_to_close:Cj:=top 40
noncomputable abbrev s_ways_from:Cj:=top 41
noncomputable abbrev s_ways_behind:Cj:=top 42
noncomputable abbrev s_lay_first:Cj:=top 43
noncomputable abbrev s_first_open_step:Cj:=top 44
noncomputable abbrev s_at:Cj:=top 46
noncomputable abbrev s_mixed:Cj:=top 47
noncomputable abbrev s_word:Cj:=top 48
noncomputable abbrev s_spare:Cj:=top 49
noncomputable abbrev s_menu:Cj:=top 50
noncomputable abbrev s_combs:Cj:=top 51
noncomputable abbrev s_book:Cj:=top 52
noncomputable abbrev s_turned:Cj:=top 53
noncomputable abbrev s_after:Cj:=top 54
noncomputable abbrev s_goes:Cj:=top 55
noncomputable abbrev s_graph:Cj:=top 56
noncomputable abbrev s_home:Cj:=top 57
noncomputable abbrev s_fits:Cj:=top 58
noncomputable abbrev s_whole:Cj:=top 59
noncomputable abbrev s_laying:Cj:=top 60
noncomputable abbrev s_layings:Cj:=top 61
noncomputable abbrev s_teeth:Cj:=top 62
noncomputable abbrev s_covers:Cj:=top 63
noncomputable abbrev s_drawn:Cj:=top 64
noncomputable abbrev s_joined:Cj:=top 65
noncomputable abbrev s_law:Cj:=top 66
section
variable {P:Aq} {w:Bj} {K:Av} {mg:Str->Option A0} {base:Bz}
theorem zhB {a b:Nat}:([a] < [b]) ↔ a < b:=by
 rw [List.cons_lt_cons_iff]
 simp
theorem le_a (c:Nat):(!decide ((⟨#[c]⟩:Str).cps.toList < (A5 "a").cps.toList))=decide (97<=c):=by
 have e:(A5 "a").cps.toList = [97]:=by decide +kernel
 rw [e]
 show (!decide ([c] < [97]))=_
 rw [B5]
 simp only [Fw,decide_eq_false_iff_not,decide_eq_true_eq,zhB]
 omega
theorem le_z (c:Nat):(!decide ((A5 "z").cps.toList < (⟨#[c]⟩:Str).cps.toList))=decide (c<=122):=by
 have e:(A5 "z").cps.toList = [122]:=by decide +kernel
 rw [e]
 show (!decide ([122] < [c]))=_
 rw [B5]
 simp only [Fw,decide_eq_false_iff_not,decide_eq_true_eq,zhB]
 omega
noncomputable def sp_small:Sp:=fun vs H Q _=>∃ c:Nat,vs = [sgn c]/\Q (.bl (small c)) H
theorem zbt:FnScope ["sign"] ["sign"] (defScope s_is_small_letter):=⟨rfl,rfl,rfl,by decide +kernel,rfl,by decide +kernel,by decide +kernel⟩
theorem ok_small (D:DefAt K mg "is_small_letter" s_is_small_letter) (T:Bn mg):Callee P w K mg base "is_small_letter" 1 ["sign"] sp_small:=by
 refine D.callee zbt (fun _ _ _ _ _ _=>ln1 fun _=>rfl) (fun vs H Q E h => ?_) (fun f cdv A outer s H vs Q E hr h => ?_)
 ·obtain ⟨c,rfl,_⟩:=h
  rfl
 ·obtain ⟨c,rfl,q⟩:=h
  have S:=zbt
  refine ⟨_,zaf (zam (zfX zeJ zeJ (za4) (pv 0) (za4))),?_⟩
  refine ⟨_,rfl,_,_,rfl,rfl,_,rfl,?_⟩
  rw [le_a]
  have q':Q (.bl (decide (97<=c) && decide (c<=122))) H:=q
  cases e:decide (97<=c) with
  | false =>
   rw [if_neg A9]
   rw [e] at q'
   exact q'
  | true =>
   rw [if_pos rfl]
   refine ⟨_,_,rfl,rfl,?_⟩
   rw [le_z]
   rw [e] at q'
   exact q'
noncomputable def sp_name:Sp:=fun vs H Q _=>∃ x:Str,vs = [.str x]/\x.length<=sizeLine/\∀ H',Same H H'->Q (.bl (isName x)) H'
theorem zdO:FnScope ["text"] ["text"] (defScope s_is_name):=⟨rfl,rfl,rfl,by decide +kernel,rfl,by decide +kernel,by decide +kernel⟩
theorem ok_name (D:DefAt K mg "is_name" s_is_name) (T:Bn mg) (V_MOST_NAME:∃ t,mg "MOST_NAME" = some (.int 6 t)) (C_is_small_letter:Callee P w K mg base "is_small_letter" 1 ["sign"] sp_small):Callee P w K mg base "is_name" 2 ["text"] sp_name:=by
 refine D.callee zdO (fun _ _ _ _ _ _=>ln1 fun _=>rfl) (fun vs H Q E h => ?_) (fun f cdv A outer s H vs Q E hr h => ?_)
 ·obtain ⟨c,rfl,_⟩:=h
  rfl
 ·obtain ⟨x,rfl,hx,q⟩:=h
  have S:=zdO
  refine ⟨_,zab (zaJ (zbe (zcZ zdl zdl (zad) (zal call_len_str rfl T.n_len Bx (zaa (pv 0) zae)) (zbG rfl V_MOST_NAME)))
   (zaf (zam (zbH)))
   (zap))
  (zaf (zam (zal (zc9 rfl) rfl T.n_all O0 (zaa (zaS (own := ["sign"]) (caps := []) rfl ⟨rfl,rfl,rfl,rfl,trivial⟩ (zhv (pv 0)) (fun _ _ _ _ _ _=>zai (i:=0) (zaz (by decide +kernel)) rfl (Am rfl)) (fun _ _ _ _ _ _=>za6) (fun _ _ _ _ _ _=>zaH C_is_small_letter (hr.mono (by decide)) rfl (zaa (pv 0) zae))) zae)))),?_⟩
  have fin:∀ H',Same H H'->(decide (1<=x.length) && decide (x.length<=6))=false->Q (.bl false) H':=fun H' s' e=>by
   have:=q H' s'
   unfold isName at this
   rw [e] at this
   exact this
  refine ⟨_,rfl,_,rfl,hx,_,_,rfl,rfl,_,rfl,?_⟩
  refine ite2 (fun h1 => ?_) (fun h1 => ?_)
  ·refine ⟨_,_,rfl,rfl,_,rfl,?_⟩
   refine ite2 (fun h2 => ?_) (fun h2 => ?_)
   ·refine fin H (Same.refl H) ?_
    have:¬ (x.length:Int)<=6:=by simpa using h2
    rw [Mc]
    exact .inr (decide_eq_false (by omega))
   ·refine ⟨_,rfl,_,rfl,fun D hD => ?_⟩
    refine zbQ (capv := []) (L:=x.cps.toList.map sgn) (by rfl) (zeV x) (by rw [A2,zcG]; exact hx) hD ?_ (fun _=>true) (fun v=>match v with | .str y => .bl (small (y.cps.getD 0 0)) | _ => .non) ?_ ?_ ?_
    ·exact fun _ _=>trivial
    ·exact fun v hv H' R s' h=>h H' (Same.refl _)
    ·intro v hv _ H' R s' h
     obtain ⟨c,hc,rfl⟩:=A7.mp hv
     exact ⟨_,rfl,c,rfl,h H' (Same.refl _)⟩
    ·intro H' s' e
     refine ⟨_,x.cps.toList.map small,rfl,?_,?_⟩
     ·refine SqL.of ?_
      rw [e]
      congr 2
      rw [C8.mpr (fun _ _=>rfl),B6,B6]
      rfl
     ·have:=q H' s'
      unfold isName at this
      have h3:¬ ¬ (x.length:Int)<=6:=by simpa using h2
      have h1':(1:Int)<=x.length:=by simpa using h1
      rw [decide_eq_true (show 1<=x.length by omega),decide_eq_true (show x.length<=6 by omega)] at this
      rw [Ia]
      exact this
  ·refine ⟨_,rfl,?_⟩
   refine fin H (Same.refl H) ?_
   have h1':¬ (1:Int)<=x.length:=by simpa using h1
   rw [Mc]
   exact .inl (decide_eq_false (by omega))
noncomputable def sp_teeth (K:Av):Sp:=fun vs H Q _=>∃ (a:A4) (ts:List Int),vs = [.ref a]/\SqL K H a (ts.map V.int)/\ts.length<=1000/\∀ H',Same H H'->Q (.bl (areTeeth ts)) H'
theorem zcT:FnScope ["teeth"] ["teeth"] (defScope s_are_teeth):=⟨rfl,rfl,rfl,by decide +kernel,rfl,by decide +kernel,by decide +kernel⟩
theorem ok_teeth (D:DefAt K mg "are_teeth" s_are_teeth) (T:Bn mg) (V_MOST_TOOTH:∃ t,mg "MOST_TOOTH" = some (.int 7 t)):Callee P w K mg base "are_teeth" 1 ["teeth"] (sp_teeth K):=by
 refine D.callee zcT (fun _ _ _ _ _ _=>ln1 fun _=>rfl) (fun vs H Q E h => ?_) (fun f cdv A outer s H vs Q E hr h => ?_)
 ·obtain ⟨a,ts,rfl,_⟩:=h
  rfl
 ·obtain ⟨a,ts,rfl,ha,hl,q⟩:=h
  have S:=zcT
  unfold areTeeth at q
  refine ⟨_,zab (zaJ (zas zbX (zad) (pv 0) (by with_unfolding_all rfl))
   (zaf (zam (zbH)))
   (zap))
  (zab (zaJ (zas zhn (zal call_lenS rfl T.n_len Bx (zaa (zbn (call_set1 rfl) rfl T.n_set boot_set (zaa (pv 0) zae)) zae)) (zal zat rfl T.n_len Bx (zaa (pv 0) zae)) (zax _))
   (zaf (zam (zbH)))
   (zap))
  (zaf (zam (zal (zc9 rfl) rfl T.n_all O0 (zaa (zaS (own := ["tooth"]) (caps := []) rfl ⟨rfl,rfl,rfl,rfl,trivial⟩ (zav (pv 0)) (fun _ _ _ _ _ _=>zai (i:=0) (zaz (by decide +kernel)) rfl (Am rfl)) (fun _ _ _ _ _ _=>za6) (fun _ _ _ _ _ _=>zfX zdl zdl (zad) (pv 0) (zbG rfl V_MOST_TOOTH))) zae))))),?_⟩
  refine ⟨_,rfl,_,_,rfl,.inl ha,rfl,zho ts,_,rfl,?_⟩
  rw [if_pos rfl,in_zero]
  refine ite2 (fun hc => ?_) (fun hc => ?_)
  ·have h0:decide (0∈ts)=false:=by simpa using hc
   rw [h0] at q
   exact q H (Same.refl H)
  ·have h0:decide (0∈ts)=true:=by simpa using hc
   rw [h0,Fb] at q
   refine ⟨_,rfl,_,ts,rfl,ha,?_,fun p np => ?_⟩
   ·show ts.length + 1 < 4096
    omega
   have s1:Same H (upd H p (.set (fun k=>(firstMet (fun i=>ts.getD i 0) ts.length).any (· == k)) (many ts))):=Same.new np
   refine ⟨_,_,_,rfl,zac,_,rfl,_,_,rfl,.inl (s1.seq ha),rfl,_,rfl,?_⟩
   rw [A2]
   refine ite2 (fun hm => ?_) (fun hm => ?_)
   ·have h1:¬ many ts=ts.length:=fun z=>by simp [z] at hm
    rw [decide_eq_false h1,F6] at q
    exact q _ s1
   ·have h1:many ts=ts.length:=by
     have:(many ts:Int)=(ts.length:Int):=by simpa using hm
     omega
    rw [decide_eq_true h1,Fb] at q
    refine ⟨_,rfl,_,rfl,⟨_,s1.seq ha⟩,fun D hD => ?_⟩
    refine zbQ (capv := []) (L:=ts.map V.int) (by rfl) (zak K a (ts.map V.int)) (by rw [A2]; exact big hl) hD ?_ (fun _=>true) (fun v=>match v with | .int t => .bl (inR t) | _ => .non) ?_ ?_ ?_
    ·exact fun H' s'=>(s1.trans s').seq ha
    ·exact fun v hv H' R s' h=>h H' (Same.refl _)
    ·intro v hv _ H' R s' h
     obtain ⟨t,ht,rfl⟩:=A7.mp hv
     have h:=h H' (Same.refl _)
     have h:R (.bl (decide (0<=t) && decide (t<=7))) H':=h
     refine ⟨_,rfl,_,_,rfl,rfl,_,rfl,?_⟩
     cases e:decide (0<=t) with
     | false =>
      rw [e] at h
      exact iteF h
     | true =>
      rw [e] at h
      exact iteT ⟨_,_,rfl,rfl,h⟩
    ·intro H' s' e
     refine ⟨_,ts.map inR,rfl,?_,?_⟩
     ·refine SqL.of ?_
      rw [e]
      congr 2
      rw [C8.mpr (fun _ _=>rfl),B6,B6]
      rfl
     ·have:=q H' (s1.trans s')
      rw [Ia]
      exact this
theorem zbI {d l:V}:([("combs",d),("past",l)]:List (Str×V)).lookup (A5 "combs")=some d:=rfl
theorem zee {d l:V}:([("combs",d),("past",l)]:List (Str×V)).lookup (A5 "past")=some l:=rfl
theorem putF_combs {y d l:V}:putF (A5 "combs") y [("combs",d),("past",l)] = [(A5 "combs",y),(A5 "past",l)]:=by
 unfold putF
 rw [if_pos rfl]
theorem putF_new {y:V}:putF (A5 "combs") y [] = [(A5 "combs",y)]:=rfl
theorem putF_past {y d:V}:putF (A5 "past") y [("combs",d)] = [(A5 "combs",d),(A5 "past",y)]:=by
 have h:¬ (A5 "combs" = A5 "past"):=by decide +kernel
 unfold putF
 rw [if_neg h]
 rfl
theorem two_len {a b:Str×V} : [a,b].length < 1000:=show 2 < 1000 by decide
noncomputable def sp_check (ea:Nat->A4) (C:A4):Sp:=fun vs H Q E=>∃ b l G cs past x,vs = [.ref b,.str x]/\Bk C G H b l cs past/\(if (cGet cs x).isSome=true then Q .non H else E (.ref (ea 4)) none H)
theorem zbv:FnScope ["self","name"] ["self","name"] (defScope s_Book_check_comb):=⟨rfl,rfl,rfl,by decide +kernel,rfl,by decide +kernel,by decide +kernel⟩
theorem ok_check {ea:Nat->A4} {C:A4} (D:MethAt K C "Book" "check_comb" s_Book_check_comb) (T:Bn mg) (BA:BookAt K C) (O_NoComb:Err K mg "NoComb" (ea 4)):Method P w K mg base C "check_comb" (CX1 P w) 1 ["self","name"] (sp_check ea C):=by
 refine D.meth1 zbv (fun _ _ _ _ _ _=>ln2 fun _ _=>rfl) (fun vs H Q E h => ?_) (fun f cdv A outer s H vs Q E hr h => ?_)
 ·obtain ⟨b,l,G,cs,past,x,rfl,_⟩:=h
  rfl
 ·obtain ⟨b,l,G,cs,past,x,rfl,B,q⟩:=h
  have S:=zbv
  have hu:=zcC hr
  obtain ⟨dx,d,hb,gd,kvs,hd,kr⟩:=B.ins
  refine ⟨_,zaf (zaJ (zdR (zdk hu (pv 1) (zbV (pv 0) rfl)))
   (zaf (zbd O_NoComb rfl (zaa (za4) zae)))
   (zap)),?_⟩
  refine ⟨_,rfl,_,rfl,_,_,_,_,_,rfl,hb,BA.cls,BA.nc,zbI,d,_,rfl,DGet.k (k:=D9 x) hd,_,rfl,?_⟩
  rw [kr.some]
  cases e:(cGet cs x).isSome with
  | false =>
   rw [e] at q
   exact iteT ⟨bigr rfl,q⟩
  | true =>
   rw [e] at q
   exact iteF q
noncomputable def sp_do (ea:Nat->A4) (C:A4):Sp:=fun vs H Q E=>∃ b l G cs past d D cs',vs = [.ref b,.ref d]/\Bk C G H b l cs past/\DictR D H d cs'/\Good cs'/\(∀ x,D x->x≠b/\x≠l/\H x≠none) /\
 (if 300<=past.length then E (.ref (ea 9)) none H else ∀ H',(∀ a,a≠b->a≠l->H' a=H a)->Bk C (fun a=>G a\/D a) H' b l cs' (past ++ [cs])->Q (.int ((past.length:Int) + 1)) H')
theorem zbT:FnScope ["self","combs"] ["self","combs"] (defScope s_Book_do_deed):=⟨rfl,rfl,rfl,by decide +kernel,rfl,by decide +kernel,by decide +kernel⟩
theorem ok_do {ea:Nat->A4} {C:A4} (D:MethAt K C "Book" "do_deed" s_Book_do_deed) (T:Bn mg) (BA:BookAt K C) (V_MOST_DEEDS:∃ t,mg "MOST_DEEDS" = some (.int 300 t)) (O_DeedsFull:Err K mg "DeedsFull" (ea 9)):Method P w K mg base C "do_deed" (CX1 P w) 1 ["self","combs"] (sp_do ea C):=by
 refine D.meth1 zbT (fun _ _ _ _ _ _=>ln2 fun _ _=>rfl) (fun vs H Q E h => ?_) (fun f cdv A outer s H vs Q E hr h => ?_)
 ·obtain ⟨b,l,G,cs,past,d,D,cs',rfl,_⟩:=h
  rfl
 ·obtain ⟨b,l,G,cs,past,d1,Dd,cs',rfl,B,dr,gd',nD,q⟩:=h
  have S:=zbT
  have hu:=zcC hr
  obtain ⟨dx,d,hb,dr0⟩:=B.ins
  obtain ⟨vs,hl,pr⟩:=B.lst
  have hlen:=pr.length
  have hbl:b≠l:=zhO hb hl (by intro z; cases z)
  refine ⟨_,zab (zaJ (zas zgl (zal zat rfl T.n_len Bx (zaa (zbV (pv 0) rfl) zae)) (zbG rfl V_MOST_DEEDS) (zax _))
   (zaf (zbd O_DeedsFull rfl (zaa (za4) zae)))
   (zap))
  (zab (za7 (zdF C2 Ca C9 zaV (zbV (pv 0) rfl) (zaa (zbV (pv 0) rfl) zae)))
  (zab (zgD (pv 0) (pv 1) rfl)
  (zaf (zam (zal zat rfl T.n_len Bx (zaa (zbV (pv 0) rfl) zae)))))),?_⟩
  refine ⟨_,rfl,_,_,_,_,_,rfl,hb,BA.cls,BA.np,zee,_,_,rfl,.inl (SqL.of hl),_,_,rfl,rfl,_,rfl,?_⟩
  refine ite2 (fun hc => ?_) (fun hc => ?_)
  ·have h300:300<=past.length:=by
    have:(300:Int)<=(vs.length:Int):=by simpa using hc
    omega
   rw [if_pos h300] at q
   exact ⟨bigr rfl,q⟩
  ·have h300:¬ 300<=past.length:=by
    have:¬ (300:Int)<=(vs.length:Int):=by simpa using hc
    omega
   rw [if_neg h300] at q
   refine ⟨_,rfl,_,_,_,_,_,rfl,hb,BA.cls,BA.np,zee,.inl ⟨rfl,_,SqL.of hl⟩,_,rfl,_,_,_,_,_,rfl,hb,BA.cls,BA.nc,zbI,_,_,_,rfl,rfl,hl,?_,?_⟩
   ·exact Ai (by omega:vs.length < 1000) za0
   have hb1:upd H l (.lst (vs ++ [.ref d])) b=some (.ins C dx [("combs",.ref d),("past",.ref l)]):=by rw [zah hbl]; exact hb
   refine ⟨_,rfl,_,rfl,_,_,_,_,rfl,hb1,BA.cls,BA.nc,two_len,?_⟩
   rw [putF_combs]
   have hb2:upd (upd H l (.lst (vs ++ [.ref d]))) b (.ins C dx [("combs",.ref d1),("past",.ref l)]) b=some (.ins C dx [("combs",.ref d1),("past",.ref l)]):=zac
   have hl2:upd (upd H l (.lst (vs ++ [.ref d]))) b (.ins C dx [("combs",.ref d1),("past",.ref l)]) l=some (.lst (vs ++ [.ref d])):=by rw [zah (Dz hbl),zac]
   have off:∀ a,a≠b->a≠l->upd (upd H l (.lst (vs ++ [.ref d]))) b (.ins C dx [("combs",.ref d1),("past",.ref l)]) a=H a:=fun a n1 n2=>by rw [zah n1,zah n2]
   generalize upd (upd H l (.lst (vs ++ [.ref d]))) b (.ins C dx [("combs",.ref d1),("past",.ref l)])=H2 at hb2 hl2 off
   refine ⟨_,rfl,_,_,_,_,_,rfl,hb2,BA.cls,BA.np,zee,_,_,rfl,.inl (SqL.of hl2),?_⟩
   rw [Ag,Bp,hlen]
   have sG:∀ a o,G a->H a=some o->H2 a=some o:=fun a o g e=>(off a (fun z=>B.nb (z ▸ g)) (fun z=>B.nl (z ▸ g))).trans e
   have sD:∀ a o,Dd a->H a=some o->H2 a=some o:=fun a o g e=>(off a (nD a g).1 (nD a g).2.1).trans e
   refine q H2 off ⟨?_,?_,?_,⟨dx,d1,hb2,dr.mono sD fun _ g => .inr g⟩,⟨_,hl2,?_⟩,gd',?_,?_⟩
   ·rintro x (g | g)
    ·rw [off x (fun z=>B.nb (z ▸ g)) (fun z=>B.nl (z ▸ g))]; exact B.live x g
    ·rw [off x (nD x g).1 (nD x g).2.1]; exact (nD x g).2.2
   ·rintro (g | g)
    ·exact B.nb g
    ·exact (nD b g).1 rfl
   ·rintro (g | g)
    ·exact B.nl g
    ·exact (nD l g).2.1 rfl
   ·exact El (Lv (fun _ _ ⟨d,e,r⟩=>⟨d,e,r.mono sG fun _ g => .inl g⟩) pr) ⟨d,rfl,dr0.mono sG fun _ g => .inl g⟩
   ·intro p hp
    rcases Al.mp hp with z | z
    ·exact B.goods p z
    ·rw [A6.mp z]; exact B.good
   ·rw [Ag,Bp]; omega
noncomputable def sp_deeds (C:A4):Sp:=fun vs H Q _=>∃ b l G cs past,vs = [.ref b]/\Bk C G H b l cs past/\Q (.int (past.length:Int)) H
theorem zcv:FnScope ["self"] ["self"] (defScope s_Book_deeds):=⟨rfl,rfl,rfl,by decide +kernel,rfl,by decide +kernel,by decide +kernel⟩
theorem ok_deeds {C:A4} (D:MethAt K C "Book" "deeds" s_Book_deeds) (T:Bn mg) (BA:BookAt K C):Method P w K mg base C "deeds" CX0 1 ["self"] (sp_deeds C):=by
 refine D.meth0 zcv (fun _ _ _ _ _ _=>ln1 fun _=>rfl) (fun vs H Q E h => ?_) (fun f cdv A outer s H vs Q E hr h => ?_)
 ·obtain ⟨b,l,G,cs,past,rfl,_⟩:=h
  rfl
 ·obtain ⟨b,l,G,cs,past,rfl,B,q⟩:=h
  have S:=zcv
  obtain ⟨dx,d,hb,dr0⟩:=B.ins
  obtain ⟨vs,hl,pr⟩:=B.lst
  refine ⟨_,zaf (zam (zal zat rfl T.n_len Bx (zaa (zbV (pv 0) rfl) zae))),?_⟩
  refine ⟨_,rfl,_,_,_,_,_,rfl,hb,BA.cls,BA.np,zee,_,_,rfl,.inl (SqL.of hl),?_⟩
  rw [pr.length]
  exact q
noncomputable def sp_names (C:A4):Sp:=fun vs H Q _=>∃ b l G cs past,vs = [.ref b]/\Bk C G H b l cs past/\∀ p (nm:List Str),H p=none->nm.Perm (cs.map (·.1))->sortedS nm=true->Q (.ref p) (upd H p (.lst (nm.map V.str)))
theorem zcu:FnScope ["self"] ["self"] (defScope s_Book_names):=⟨rfl,rfl,rfl,by decide +kernel,rfl,by decide +kernel,by decide +kernel⟩
theorem ok_names {C:A4} (D:MethAt K C "Book" "names" s_Book_names) (T:Bn mg) (BA:BookAt K C):Method P w K mg base C "names" CX0 1 ["self"] (sp_names C):=by
 refine D.meth0 zcu (fun _ _ _ _ _ _=>ln1 fun _=>rfl) (fun vs H Q E h => ?_) (fun f cdv A outer s H vs Q E hr h => ?_)
 ·obtain ⟨b,l,G,cs,past,rfl,_⟩:=h
  rfl
 ·obtain ⟨b,l,G,cs,past,rfl,B,q⟩:=h
  have S:=zcu
  obtain ⟨dx,d,hb,gd,kvs,hd,kr⟩:=B.ins
  refine ⟨_,zaf (zam (zal (call_sortedD rfl) rfl T.n_sorted Hu (zaa (zbV (pv 0) rfl) zae))),?_⟩
  refine ⟨_,rfl,_,_,_,_,_,rfl,hb,BA.cls,BA.nc,zbI,d,kvs,cs.map (·.1),rfl,.inl hd,kr.keys,?_,q⟩
  rw [A2]
  have:=B.good.len
  omega
noncomputable def sp_bteeth (ea:Nat->A4) (C:A4):Sp:=fun vs H Q E=>∃ b l G cs past x,vs = [.ref b,.str x]/\Bk C G H b l cs past/\(match cGet cs x with | some ts=>∀ p,H p=none->Q (.ref p) (upd H p (.lst (ts.map V.int))) | none=>E (.ref (ea 4)) none H)
theorem zct:FnScope ["self","name"] ["self","name"] (defScope s_Book_teeth):=⟨rfl,rfl,rfl,by decide +kernel,rfl,by decide +kernel,by decide +kernel⟩
theorem ok_bteeth {ea:Nat->A4} {C:A4} (D:MethAt K C "Book" "teeth" s_Book_teeth) (T:Bn mg) (BA:BookAt K C) (M_check_comb:Method P w K mg base C "check_comb" (CX1 P w) 1 ["self","name"] (sp_check ea C)):Method P w K mg base C "teeth" (CX1 P w) 2 ["self","name"] (sp_bteeth ea C):=by
 refine D.meth1 zct (fun _ _ _ _ _ _=>ln2 fun _ _=>rfl) (fun vs H Q E h => ?_) (fun f cdv A outer s H vs Q E hr h => ?_)
 ·obtain ⟨b,l,G,cs,past,x,rfl,_⟩:=h
  rfl
 ·obtain ⟨b,l,G,cs,past,x,rfl,B,q⟩:=h
  have S:=zct
  have hu:=zcC hr
  have B_cls:=BA.cls
  obtain ⟨dx,d,hb,gd,kvs,hd,kr⟩:=id B.ins
  refine ⟨_,zab (za7 (zgG (pv 0) B_cls M_check_comb (hr.mono (by decide)) (by first | exact zeH | exact pass_try | exact zbz | exact zaK) (zaa (pv 1) zae)))
  (zaf (zam (zbn zb1 rfl T.n_list My (zaa (zdj hu (zbV (pv 0) rfl) (pv 1) (fun _ _=>rfl)) zae)))),?_⟩
  refine ⟨_,rfl,_,_,_,rfl,hb,rfl,_,rfl,b,l,G,cs,past,x,rfl,B,?_⟩
  rcases kr.val (x:=x) with ⟨e1,e2⟩ | ⟨ts,t,e1,e2,e3,e4⟩
  ·rw [e1] at q ⊢
   exact q
  ·rw [e1] at q ⊢
   refine iteT ?_
   refine ⟨_,rfl,_,_,_,_,_,rfl,hb,BA.cls,BA.nc,zbI,_,rfl,d,_,rfl,?_,_,_,rfl,.inl (SqL.of e3),q⟩
   rw [<- e2]
   exact DGet.k (k:=D9 x) hd
noncomputable def sp_init (C:A4):Sp:=fun vs H Q _=>∃ b dx,vs = [.ref b]/\H b=some (.ins C dx [])/\∀ H' l d,Mv b b (fun _=>False) (fun a=>a=d) H H'->H l=none->H d=none->Bk C (fun a=>a=d) H' b l [] []->Q .non H'
theorem zbP:FnScope ["self"] ["self"] (defScope s_Book___init__):=⟨rfl,rfl,rfl,by decide +kernel,rfl,by decide +kernel,by decide +kernel⟩
theorem ok_init {C:A4} {f:A4} {fd:Ej} (F:Fun K "__init__" "Book.__init__" s_Book___init__ f fd) (T:Bn mg) (BA:BookAt K C):FnOk P w K mg base CX0 1 f fd ["self"] (sp_init C):=by
 refine F.ok zbP (fun vs H Q E h => ?_) (fun cdv A outer s H vs Q E hr h => ?_)
 ·obtain ⟨b,dx,rfl,_⟩:=h
  rfl
 ·obtain ⟨b,dx,rfl,hb,q⟩:=h
  have S:=zbP
  refine ⟨_,zab (zgD (pv 0) (zc1) rfl)
  (zaf (zgD (pv 0) (za1 (zae)) rfl)),?_⟩
  refine fun d nd => ?_
  have hbd:b≠d:=zao hb nd
  have hb1:upd H d (.dK []) b=some (.ins C dx []):=by rw [zah hbd]; exact hb
  refine ⟨_,rfl,_,_,_,_,rfl,hb1,BA.cls,BA.nc,by decide,?_⟩
  rw [putF_new]
  refine ⟨bigr rfl,fun l nl => ?_⟩
  have hbl:b≠l:=fun z=>by rw [<- z,zac] at nl; cases nl
  have nl1:upd H d (.dK []) l=none:=by rw [zah (Dz hbl)] at nl; exact nl
  have hdl:d≠l:=fun z=>by rw [<- z,zac] at nl1; cases nl1
  have hln:H l=none:=by rw [zah (Dz hdl)] at nl1; exact nl1
  have hb2:upd (upd (upd H d (.dK [])) b (.ins C dx [(A5 "combs",V.ref d)])) l (.lst []) b=some (.ins C dx [("combs",.ref d)]):=by rw [zah hbl,zac]
  refine ⟨_,rfl,_,_,_,_,rfl,hb2,BA.cls,BA.np,(show 1 < 1000 by decide),?_⟩
  rw [putF_past]
  have hb3:upd (upd (upd (upd H d (.dK [])) b (.ins C dx [(A5 "combs",V.ref d)])) l (.lst [])) b (.ins C dx [(A5 "combs",V.ref d),(A5 "past",V.ref l)]) b=some (.ins C dx [("combs",.ref d),("past",.ref l)]):=zac
  have hd3:upd (upd (upd (upd H d (.dK [])) b (.ins C dx [(A5 "combs",V.ref d)])) l (.lst [])) b (.ins C dx [(A5 "combs",V.ref d),(A5 "past",V.ref l)]) d=some (.dK []):=by
   rw [zah (Dz hbd),zah hdl,zah (Dz hbd),zac]
  have hl3:upd (upd (upd (upd H d (.dK [])) b (.ins C dx [(A5 "combs",V.ref d)])) l (.lst [])) b (.ins C dx [(A5 "combs",V.ref d),(A5 "past",V.ref l)]) l=some (.lst []):=by
   rw [zah (Dz hbl),zac]
  have off:∀ a o,H a=some o->a≠b->upd (upd (upd (upd H d (.dK [])) b (.ins C dx [(A5 "combs",V.ref d)])) l (.lst [])) b (.ins C dx [(A5 "combs",V.ref d),(A5 "past",V.ref l)]) a=some o:=fun a o e n=>by
   rw [zah n,zah (zao e hln),zah n,zah (zao e nd)]; exact e
  generalize upd (upd (upd (upd H d (.dK [])) b (.ins C dx [(A5 "combs",V.ref d)])) l (.lst [])) b (.ins C dx [(A5 "combs",V.ref d),(A5 "past",V.ref l)])=H3 at hb3 hd3 hl3 off
  refine q H3 l d ⟨fun a o e n _=>off a o e n,fun a h => ?_,fun a g => .inr (by rw [g]; exact nd)⟩ hln nd ⟨fun x g => ?_,hbd,fun z=>hdl z.symm,⟨dx,d,hb3,rfl,[],hd3,.nil⟩,⟨[],hl3,.nil⟩,good_nil,by simp,by decide⟩
  ·by_cases z:a=b
   ·rw [z,hb3]; simp
   ·cases e:H a with
    | none=>exact absurd e h
    | some o=>rw [off a o e z]; simp
  ·rw [show x=d from g,hd3]; simp
noncomputable def sp_set (ea:Nat->A4) (C:A4):Sp:=fun vs H Q E=>∃ b l G cs past x a ts,vs = [.ref b,.str x,.ref a]/\Bk C G H b l cs past/\SqL K H a (ts.map V.int)/\areTeeth ts=true/\isName x=true/\(cs.length < 8\/(cGet cs x).isSome=true)/\Deed ea C G H b l cs past Q E (full past (cPut cs x (canon ts)))
theorem zbO:FnScope ["self","name","teeth","combs"] ["self","name","teeth"] (defScope s_Book_set_comb):=⟨rfl,rfl,rfl,by decide +kernel,rfl,by decide +kernel,by decide +kernel⟩
theorem ok_set {ea:Nat->A4} {C:A4} (D:MethAt K C "Book" "set_comb" s_Book_set_comb) (T:Bn mg) (BA:BookAt K C) (M_do_deed:Method P w K mg base C "do_deed" (CX1 P w) 1 ["self","combs"] (sp_do ea C)):Method P w K mg base C "set_comb" (CX1 P w) 2 ["self","name","teeth"] (sp_set (K:=K) ea C):=by
 refine D.meth1 zbO (fun _ _ _ _ _ _=>ln3 fun _ _ _=>rfl) (fun vs H Q E h => ?_) (fun f cdv A outer s H vs Q E hr h => ?_)
 ·obtain ⟨b,l,G,cs,past,x,a,ts,rfl,_⟩:=h
  rfl
 ·obtain ⟨b,l,G,cs,past,x,a,ts,rfl,B,ha,ht,hx,hn,q⟩:=h
  have S:=zbO
  have hu:=zcC hr
  have B_cls:=BA.cls
  obtain ⟨t0,tn,tr⟩:=teeth_iff.mp ht
  obtain ⟨dx,d,hb,gd,kvs,hd,kr⟩:=id B.ins
  refine ⟨_,zab (zaj (i:=3) S.nd rfl (Am rfl) (zbn call_dictD rfl T.n_dict boot_dict (zaa (zbV (pv 0) rfl) zae)))
  (zab (zce hu (pv 3) (pv 1) (zal zb0 rfl T.n_sorted Hu (zaa (pv 2) zae)) rfl)
  (zaf (zam (zgG (pv 0) B_cls M_do_deed (hr.mono (by decide)) (by first | exact zeH | exact pass_try | exact zbz | exact zaK) (zaa (pv 3) zae))))),?_⟩
  refine ⟨_,rfl,_,_,_,_,_,rfl,hb,BA.cls,BA.nc,zbI,d,kvs,rfl,.inl hd,fun p np => ?_⟩
  have s1:Same H (upd H p (.dK kvs)):=Same.new np
  refine ⟨_,rfl,a,ts,rfl,s1.seq ha,?_,fun r ns nr hp hs => ?_⟩
  ·have:=zdc tn tr
   omega
  have hc:=zc8 hp hs tn tr
  subst hc
  have npr:p≠r:=fun z=>by rw [<- z,zac] at nr; cases nr
  have hr0:H r=none:=s1.free nr
  have s2:Same H (upd (upd H p (.dK kvs)) r (.lst ((canon ts).map V.int))):=s1.put hr0
  have hp2:upd (upd H p (.dK kvs)) r (.lst ((canon ts).map V.int)) p=some (.dK kvs):=by rw [zah npr,zac]
  have hkl:kvs.length < sizeLine:=by
   have:=kr.length
   have:=B.good.len
   exact Ai (by omega:kvs.length < 1000) za0
  refine ⟨_,rfl,_,rfl,p,_,rfl,DPut.k (k:=D9 x) hp2 hkl,?_⟩
  have s3:Same H (upd (upd (upd H p (.dK kvs)) r (.lst ((canon ts).map V.int))) p (.dK (putK kvs (D9 x) (.ref r)))):=s2.put np
  have hr3:upd (upd (upd H p (.dK kvs)) r (.lst ((canon ts).map V.int))) p (.dK (putK kvs (D9 x) (.ref r))) r=some (.lst ((canon ts).map V.int)):=by rw [zah (Dz npr),zac]
  have hp3:upd (upd (upd H p (.dK kvs)) r (.lst ((canon ts).map V.int))) p (.dK (putK kvs (D9 x) (.ref r))) p=some (.dK (putK kvs (D9 x) (.ref r))):=zac
  generalize upd (upd (upd H p (.dK kvs)) r (.lst ((canon ts).map V.int))) p (.dK (putK kvs (D9 x) (.ref r)))=H3 at s3 hr3 hp3
  have B3:=B.same s3
  obtain ⟨lb,ll⟩:=B.liveB
  refine ⟨_,rfl,b,dx,_,rfl,s3 _ _ hb,rfl,_,rfl,b,l,G,cs,past,p,fun a=>G a\/a=p\/a=r,cPut cs x (canon ts),rfl,B3,⟨.inr (.inl rfl),_,hp3,?_⟩,B.good.put hx (zgc t0) hn,?_,?_⟩
  ·exact (kr.mono (fun a o _ e=>s3 a o e) fun _ g => .inl g).put hr3 (.inr (.inr rfl))
  ·rintro y (g | g | g)
   ·exact ⟨fun z=>B.nb (z ▸ g),fun z=>B.nl (z ▸ g),B3.live y g⟩
   ·subst g
    exact ⟨fun z=>lb (z ▸ np),fun z=>ll (z ▸ np),by rw [hp3]; simp⟩
   ·subst g
    exact ⟨fun z=>lb (z ▸ hr0),fun z=>ll (z ▸ hr0),by rw [hr3]; simp⟩
  ·unfold full at q
   by_cases h3:300<=past.length
   ·rw [if_pos h3] at q ⊢
    exact q H3 s3
   ·rw [if_neg h3] at q ⊢
    intro H4 off B4
    refine q H4 _ ⟨fun a o e n1 n2=>(off a n1 n2).trans (s3 a o e),fun a h => ?_,fun a g => ?_⟩ B4
    ·obtain ⟨lb4,ll4⟩:=B4.liveB
     by_cases z:a=b
     ·rw [z]; exact lb4
     ·by_cases z2:a=l
      ·rw [z2]; exact ll4
      ·rw [off a z z2]; exact zeN s3 a h
    ·rcases g with g | g | g | g
     ·exact .inl g
     ·exact .inl g
     ·rw [g]; exact .inr np
     ·rw [g]; exact .inr hr0
noncomputable def sp_put (ea:Nat->A4) (C:A4):Sp:=fun vs H Q E=>∃ b l G cs past x a ts,vs = [.ref b,.str x,.ref a]/\Bk C G H b l cs past/\SqL K H a (ts.map V.int)/\x.length<=sizeLine/\ts.length<=1000/\Deed ea C G H b l cs past Q E (putD cs past x ts)
theorem zdh:FnScope ["self","name","teeth"] ["self","name","teeth"] (defScope s_Book_put):=⟨rfl,rfl,rfl,by decide +kernel,rfl,by decide +kernel,by decide +kernel⟩
theorem ok_put {ea:Nat->A4} {C:A4} (D:MethAt K C "Book" "put" s_Book_put) (T:Bn mg) (BA:BookAt K C) (V_MOST_COMBS:∃ t,mg "MOST_COMBS" = some (.int 8 t)) (O_BadName:Err K mg "BadName" (ea 0)) (O_BadTeeth:Err K mg "BadTeeth" (ea 1)) (O_NameTaken:Err K mg "NameTaken" (ea 2)) (O_BookFull:Err K mg "BookFull" (ea 3))
  (C_is_name:Callee P w K mg base "is_name" 2 ["text"] sp_name) (C_are_teeth:Callee P w K mg base "are_teeth" 1 ["teeth"] (sp_teeth K)) (M_set_comb:Method P w K mg base C "set_comb" (CX1 P w) 2 ["self","name","teeth"] (sp_set (K:=K) ea C)):Method P w K mg base C "put" (CX1 P w) 3 ["self","name","teeth"] (sp_put (K:=K) ea C):=by
 refine D.meth1 zdh (fun _ _ _ _ _ _=>ln3 fun _ _ _=>rfl) (fun vs H Q E h => ?_) (fun f cdv A outer s H vs Q E hr h => ?_)
 ·obtain ⟨b,l,G,cs,past,x,a,ts,rfl,_⟩:=h
  rfl
 ·obtain ⟨b,l,G,cs,past,x,a,ts,rfl,B,ha,hxl,htl,q⟩:=h
  have S:=zdh
  have hu:=zcC hr
  have B_cls:=BA.cls
  unfold putD at q
  refine ⟨_,zab (zaJ (zbe (zbh (zaH C_is_name (hr.mono (by decide)) rfl (zaa (pv 1) zae))))
   (zaf (zbd O_BadName rfl (zaa (za4) zae)))
   (zap))
  (zab (zaJ (zbe (zbh (zaH C_are_teeth (hr.mono (by decide)) rfl (zaa (pv 2) zae))))
   (zaf (zbd O_BadTeeth rfl (zaa (za4) zae)))
   (zap))
  (zab (zaJ (zdR (zfY hu (pv 1) (zbV (pv 0) rfl)))
   (zaf (zbd O_NameTaken rfl (zaa (za4) zae)))
   (zap))
  (zab (zaJ (zas zgl (zal call_lenD rfl T.n_len Bx (zaa (zbV (pv 0) rfl) zae)) (zbG rfl V_MOST_COMBS) (zax _))
   (zaf (zbd O_BookFull rfl (zaa (za4) zae)))
   (zap))
  (zaf (zam (zgG (pv 0) B_cls M_set_comb (hr.mono (by decide)) (by first | exact zeH | exact pass_try | exact zbz | exact zaK) (zaa (pv 1) (zaa (pv 2) zae)))))))),?_⟩
  refine ⟨_,rfl,x,rfl,hxl,fun H1 s1=>⟨_,rfl,?_⟩⟩
  cases e1:isName x with
  | false =>
   rw [e1,if_pos rfl] at q
   exact iteT ⟨bigr rfl,q H1 s1⟩
  | true =>
   rw [e1,if_neg (by decide)] at q
   refine iteF ?_
   refine ⟨_,rfl,a,ts,rfl,s1.seq ha,htl,fun H2 s2=>⟨_,rfl,?_⟩⟩
   have s12:=s1.trans s2
   cases e2:areTeeth ts with
   | false =>
    rw [e2,if_pos rfl] at q
    exact iteT ⟨bigr rfl,q H2 s12⟩
   | true =>
    rw [e2,if_neg (by decide)] at q
    refine iteF ?_
    have B2:=B.same s12
    obtain ⟨dx,d,hb,gd,kvs,hd,kr⟩:=id B2.ins
    refine ⟨_,rfl,_,rfl,_,_,_,_,_,rfl,hb,BA.cls,BA.nc,zbI,d,_,rfl,DGet.k (k:=D9 x) hd,_,rfl,?_⟩
    rw [kr.some]
    cases e3:(cGet cs x).isSome with
    | true =>
     rw [e3,if_pos rfl] at q
     exact iteT ⟨bigr rfl,q H2 s12⟩
    | false =>
     rw [e3,if_neg (by decide)] at q
     refine iteF ?_
     refine ⟨_,rfl,_,_,_,_,_,rfl,hb,BA.cls,BA.nc,zbI,_,_,rfl,hd,_,_,rfl,rfl,_,rfl,?_⟩
     rw [kr.length]
     refine ite2 (fun hc => ?_) (fun hc => ?_)
     ·have h8:8<=cs.length:=by
       have:(8:Int)<=(cs.length:Int):=by simpa using hc
       omega
      rw [if_pos h8] at q
      exact ⟨bigr rfl,q H2 s12⟩
     ·have h8:¬ 8<=cs.length:=by
       have:¬ (8:Int)<=(cs.length:Int):=by simpa using hc
       omega
      rw [if_neg h8] at q
      exact ⟨_,rfl,b,dx,_,rfl,hb,rfl,_,rfl,_,rfl,b,l,G,cs,past,x,a,ts,rfl,B2,s12.seq ha,e2,e1,.inl (by omega),q.from s12⟩
noncomputable def worths:List Int := [1,2,4,8,16,32,64,128]
theorem at_worths {t:Int} (h0:0<=t) (h7:t<=7):atI (worths.map V.int) t=some (.int (pw t)):=by
 have:t=0\/t=1\/t=2\/t=3\/t=4\/t=5\/t=6\/t=7:=by omega
 rcases this with h | h | h | h | h | h | h | h <;> subst h <;> rfl
noncomputable def sp_worth (K:Av):Sp:=fun vs H Q _=>∃ (a:A4) (ts:List Int),vs = [.ref a]/\SqL K H a (ts.map V.int)/\(∀ t∈ts,0<=t/\t<=7)/\ts.length<=1000/\∀ H',Same H H'->Q (.int (worth ts)) H'
theorem zca:FnScope ["teeth"] ["teeth"] (defScope s_teeth_worth):=⟨rfl,rfl,rfl,by decide +kernel,rfl,by decide +kernel,by decide +kernel⟩
theorem ok_worth {tw:A4} (D:DefAt K mg "teeth_worth" s_teeth_worth) (T:Bn mg) (G_TOOTH_WORTH:mg "TOOTH_WORTH" = some (.ref tw)) (HTW:∀ H,SqT K H tw (worths.map V.int)):Callee P w K mg base "teeth_worth" 1 ["teeth"] (sp_worth K):=by
 refine D.callee zca (fun _ _ _ _ _ _=>ln1 fun _=>rfl) (fun vs H Q E h => ?_) (fun f cdv A outer s H vs Q E hr h => ?_)
 ·obtain ⟨a,ts,rfl,_⟩:=h
  rfl
 ·obtain ⟨a,ts,rfl,ha,hr7,hl,q⟩:=h
  have S:=zca
  refine ⟨_,zaf (zam (zal (ze3 rfl) rfl T.n_sum boot_sum (zaa (zaS (own := ["tooth"]) (caps := []) rfl ⟨rfl,rfl,rfl,rfl,trivial⟩ (zav (pv 0)) (fun _ _ _ _ _ _=>zai (i:=0) (zaz (by decide +kernel)) rfl (Am rfl)) (fun _ _ _ _ _ _=>za6) (fun _ _ _ _ _ _=>zaM (ix_tup' K rfl) (pe_cls rfl G_TOOTH_WORTH) (pv 0) (fun _ _=>rfl))) zae))),?_⟩
  refine ⟨_,rfl,_,rfl,⟨_,ha⟩,fun D hD => ?_⟩
  refine zbQ (capv := []) (L:=ts.map V.int) (by rfl) (zak K a (ts.map V.int)) (by rw [A2]; exact big hl) hD ?_ (fun _=>true) (fun v=>match v with | .int t => .int (pw t) | _ => .non) ?_ ?_ ?_
  ·exact fun H' s'=>s'.seq ha
  ·exact fun v hv H' R s' h=>h H' (Same.refl _)
  ·intro v hv _ H' R s' h
   obtain ⟨t,ht,rfl⟩:=A7.mp hv
   have h:R (.int (pw t)) H':=h H' (Same.refl _)
   obtain ⟨h0,h7⟩:=hr7 t ht
   exact ⟨_,rfl,_,_,_,_,rfl,rfl,HTW H',at_worths h0 h7,h⟩
  ·intro H' s' e
   refine ⟨_,ts.map pw,rfl,?_,q H' s'⟩
   refine SqL.of ?_
   rw [e]
   congr 2
   rw [C8.mpr (fun _ _=>rfl),B6,B6]
   rfl
noncomputable def sp_steps (ea:Nat->A4) (C:A4):Sp:=fun vs H Q E=>∃ b l G cs past n,vs = [.ref b,.int n]/\Bk C G H b l cs past /\
 (if 0<=n/\n < 128 then ∀ p H' ws,Same H H'->H p=none->H' p=some (.lst ws)->(∀ nm:List Str,nm.Perm (cs.map (·.1))->sortedS nm=true->StepsR H' ws (stepsOf (byNames cs nm) n))->Q (.ref p) H' else E (.ref (ea 11)) none H)
theorem zcb:FnScope ["book","shape","steps","name","worth"] ["book","shape"] (defScope s_shape_steps):=⟨rfl,rfl,rfl,by decide +kernel,rfl,by decide +kernel,by decide +kernel⟩
theorem ok_steps {ea:Nat->A4} {C:A4} (D:DefAt K mg "shape_steps" s_shape_steps) (T:Bn mg) (BA:BookAt K C) (V_SHAPES:∃ t,mg "SHAPES" = some (.int 128 t)) (O_BadShape:Err K mg "BadShape" (ea 11)) (C_teeth_worth:Callee P w K mg base "teeth_worth" 1 ["teeth"] (sp_worth K))
  (M_names:Method P w K mg base C "names" CX0 1 ["self"] (sp_names C)) (M_teeth:Method P w K mg base C "teeth" (CX1 P w) 2 ["self","name"] (sp_bteeth ea C)):Callee1 P w K mg base "shape_steps" 3 ["book","shape"] (sp_steps ea C):=by
 refine D.callee1 zcb (fun _ _ _ _ _ _=>ln2 fun _ _=>rfl) (fun vs H Q E h => ?_) (fun f cdv A outer s H vs Q E hr h => ?_)
 ·obtain ⟨b,l,G,cs,past,n,rfl,_⟩:=h
  rfl
 ·obtain ⟨b,l,G,cs,past,n,rfl,B,q⟩:=h
  have S:=zcb
  have hu:=zcC hr
  have B_cls:=BA.cls
  refine ⟨_,zab (zaJ (zbe (zcZ zdl zhN (zad) (pv 1) (zbG rfl V_SHAPES)))
   (zaf (zbd O_BadShape rfl (zaa (za4) zae)))
   (zap))
  (zab (zaJ (zas zcV (zar za5 (pv 1) (zad)) (zad) (zax _))
   (zaf (zam (za1 (zaa (zbm (zaa (za4) (zaa (zar zbo (pv 1) (zad)) zae))) zae))))
   (zap))
  (zab (zaj (i:=2) S.nd rfl (Am rfl) (za1 (zae)))
  (zab (zaZ Lu rfl (zav (pe_mt0 (pv 0) B_cls M_names (hr.mono (by decide)) (by first | exact zeH | exact pass_try | exact zbz | exact zaK))) (zai (i:=3) S.nd rfl (Am rfl))
   (zab (zaj (i:=4) S.nd rfl (Am rfl) (zaH C_teeth_worth (hr.mono (by decide)) rfl (zaa (zgG (pv 0) B_cls M_teeth (hr.mono (by decide)) (by first | exact zeH | exact pass_try | exact zbz | exact zaK) (zaa (pv 3) zae)) zae)))
   (zaf (zaJ (zas zcV (zar zhz (pv 1) (pv 4)) (zad) (zax _))
    (zaf (za7 (zdF C2 Ca C9 zaV (pv 2) (zaa (zbm (zaa (pv 3) (zaa (zar zbo (zar zaU (pv 1) (pv 4)) (zad)) zae))) zae))))
    (zap)))))
  (zaf (zam (pv 2)))))),?_⟩
  refine ⟨_,rfl,_,_,rfl,rfl,_,rfl,?_⟩
  refine ite2 (fun h0 => ?_) (fun h0 => ?_)
  rotate_left
  ·have h0:¬ (0:Int)<=n:=by simpa using h0
   rw [if_neg (fun z=>h0 z.1)] at q
   exact ⟨_,rfl,iteT ⟨bigr rfl,q⟩⟩
  have h0:(0:Int)<=n:=by simpa using h0
  refine ⟨_,_,rfl,rfl,_,rfl,?_⟩
  by_cases h1:n < 128
  case neg =>
   rw [if_neg (fun z=>h1 z.2)] at q
   rw [decide_eq_false h1]
   exact iteT ⟨bigr rfl,q⟩
  rw [if_pos ⟨h0,h1⟩] at q
  rw [decide_eq_true h1]
  refine iteF ?_
  have p2:(0:Int) < 2:=by decide
  refine ⟨_,rfl,_,_,rfl,rfl,p2,rfl,_,rfl,?_⟩
  refine ite2 (fun hc => ?_) (fun hc => ?_)
  ·have hc:n % 2=1:=by simpa using hc
   refine ⟨_,rfl,_,_,rfl,rfl,⟨p2,by decide⟩,bigr rfl,fun t nt=>⟨bigr rfl,fun p np => ?_⟩⟩
   have s1:Same H (upd H t (.tup [.str "",.int (n / 2)])):=Same.new nt
   refine q p _ [.ref t] (s1.trans (Same.new np)) (s1.free np) zac fun nm _ _ => ?_
   rw [zev hc]
   refine ⟨⟨t,rfl,?_⟩,trivial⟩
   rw [zah (fun z=>by rw [<- z,zac] at np; cases np)]
   exact zac
  ·have hc:¬ n % 2=1:=by simpa using hc
   refine ⟨bigr rfl,fun pl npl => ?_⟩
   have s1:Same H (upd H pl (.lst [])):=Same.new npl
   obtain ⟨dx,d,hb,_⟩:=id (B.same s1).ins
   refine ⟨_,rfl,b,dx,_,rfl,hb,rfl,b,l,G,cs,past,rfl,B.same s1,fun pn nm npn hnp hns=>⟨_,rfl,⟨_,SqL.of zac⟩,?_⟩⟩
   have nlp:pn≠pl:=fun z=>by rw [z,zac] at npn; cases npn
   have s2:Same H (upd (upd H pl (.lst [])) pn (.lst (nm.map V.str))):=s1.trans (Same.new npn)
   have hnl:nm.length<=8:=by
    have:=hnp.length_eq
    rw [A2] at this
    have:=B.good.len
    omega
   refine zbA (zak K pn (nm.map V.str)) (fun i σ Hx=>Same H Hx/\Hx pn=some (.lst (nm.map V.str))/\∃ ws x3 x4,σ = [some (.ref b),some (.int n),some (.ref pl),x3,x4]/\Hx pl=some (.lst ws)/\ws.length<=i/\StepsR Hx ws (stepsOf (byNames cs (nm.take i)) n)) ⟨s2,zac,[],_,_,rfl,(by rw [zah nlp.symm]; exact zac),Ac _,?_⟩ (fun i σ Hx _ h=>SqL.of h.2.1) ?_ ?_
   ·rw [Oa]
    show StepsR _ [] (stepsOf [] n)
    rw [steps_nil hc]
    trivial
   ·rintro i x σ Hx hx ⟨sx,hpn,ws,x3,x4,rfl,hpl,hwl,hst⟩
    rw [Af] at hx
    cases hk:nm[i]? with
    | none=>rw [hk] at hx; cases hx
    | some y =>
     rw [hk] at hx
     cases hx
     have hi:i < nm.length:=(Ar.mp hk).1
     have hy:y∈cs.map (·.1):=hnp.mem_iff.mp (Be hk)
     cases hts:cGet cs y with
     | none=>exact absurd hy (get_none.mp hts)
     | some ts =>
      have gts:GT ts:=(B.good.ok _ (zel hts)).2
      obtain ⟨dx2,d2,hb2,_⟩:=id (B.same sx).ins
      refine ⟨_,rfl,b,dx2,_,rfl,hb2,rfl,_,rfl,b,l,G,cs,past,y,rfl,B.same sx,?_⟩
      rw [hts]
      intro p3 np3
      refine ⟨p3,ts,rfl,SqL.of zac,zbZ gts,by have:=zgY gts; omega,fun H4 s4 => ?_⟩
      have s34:Same Hx H4:=(Same.new np3).trans s4
      have eN:byNames cs (nm.take (i + 1))=byNames cs (nm.take i) ++ [(y,ts)]:=by
       rw [zaB hk,byNames_snoc hts]
      refine ⟨_,rfl,_,rfl,_,_,rfl,rfl,rfl,_,rfl,?_⟩
      refine ite2 (fun hz => ?_) (fun hz => ?_)
      ·have hz:Dt n (worth ts)=0:=by simpa using hz
       refine ⟨_,rfl,.inl ⟨rfl,_,SqL.of (s34 _ _ hpl)⟩,_,rfl,_,rfl,_,rfl,_,_,rfl,rfl,_,_,rfl,rfl,⟨p2,by decide⟩,bigr rfl,fun t nt => ?_⟩
       have s5:Same Hx (upd H4 t (.tup [.str y,.int ((n + worth ts) / 2)])):=s34.trans (Same.new nt)
       have nplt:t≠pl:=fun z=>by rw [z,s34 _ _ hpl] at nt; cases nt
       refine ⟨pl,_,_,rfl,rfl,s5 _ _ hpl,Ai (by omega:ws.length < 1000) za0,?_⟩
       refine ⟨(sx.trans s5).put npl,(by rw [zah nlp]; exact s5 _ _ hpn),_,_,_,rfl,zac,(by rw [Ag,Bp]; omega),?_⟩
       rw [eN,zdJ hc,if_pos hz]
       refine StepsR.snoc ?_ (hst.mono fun q' xs hq' => ?_)
       ·rw [zah nplt]; exact zac
       ·have:q'≠pl:=fun z=>by rw [z,hpl] at hq'; cases hq'
        rw [zah this]; exact s5 _ _ hq'
      ·have hz:¬ Dt n (worth ts)=0:=by simpa using hz
       refine ⟨sx.trans s34,s34 _ _ hpn,ws,_,_,rfl,s34 _ _ hpl,by omega,?_⟩
       rw [eN,zdJ hc,if_neg hz,Cd]
       exact hst.mono fun q' xs hq'=>s34 _ _ hq'
   ·rintro σ Hx ⟨sx,hpn,ws,x3,x4,rfl,hpl,hwl,hst⟩
    rw [A2,By] at hst
    refine ⟨_,rfl,q pl Hx ws sx npl hpl fun nm' hp' hs' => ?_⟩
    rw [strs_same (hp'.trans hnp.symm) hs' hns]
    exact hst
noncomputable def TabR (H:Hp) (ts:List V) (C:Combs):Prop:=ts.length=128/\∀ s:Nat,s < 128->∃ q ws,ts[s]?=some (.ref q)/\H q=some (.lst ws)/\StepsR H ws (stp C s)
theorem TabR.same {H H':Hp} {ts:List V} {C:Combs} (t:TabR H ts C) (s:Same H H'):TabR H' ts C :=
 ⟨t.1,fun i h=>let ⟨q,ws,a,b,c⟩:=t.2 i h; ⟨q,ws,a,s _ _ b,c.mono fun _ _ e=>s _ _ e⟩⟩
noncomputable def sp_table (C:A4):Sp:=fun vs H Q _=>∃ b l G cs past,vs = [.ref b]/\Bk C G H b l cs past/\∀ p H' ts,Same H H'->H p=none->H' p=some (.lst ts)->TabR H' ts (srt cs)->Q (.ref p) H'
theorem zcq:FnScope ["book"] ["book"] (defScope s_step_table):=⟨rfl,rfl,rfl,by decide +kernel,rfl,by decide +kernel,by decide +kernel⟩
theorem ok_table {ea:Nat->A4} {C:A4} (D:DefAt K mg "step_table" s_step_table) (T:Bn mg) (V_SHAPES:∃ t,mg "SHAPES" = some (.int 128 t)) (C_shape_steps:Callee1 P w K mg base "shape_steps" 3 ["book","shape"] (sp_steps ea C)):Callee1 P w K mg base "step_table" 4 ["book"] (sp_table C):=by
 refine D.callee1 zcq (fun _ _ _ _ _ _=>ln1 fun _=>rfl) (fun vs H Q E h => ?_) (fun f cdv A outer s H vs Q E hr h => ?_)
 ·obtain ⟨b,l,G,cs,past,rfl,_⟩:=h
  rfl
 ·obtain ⟨b,l,G,cs,past,rfl,B,q⟩:=h
  have S:=zcq
  refine ⟨_,zaf (zam (zaS (own := ["shape"]) (caps := [(0,"book")]) rfl ⟨rfl,rfl,rfl,rfl,⟨⟨rfl,rfl,.inl rfl⟩,trivial⟩⟩ (zbf rfl T.n_range (zaa (zbG rfl V_SHAPES) zae)) (fun _ _ _ _ _ _=>zai (i:=0) (zaz (by decide +kernel)) rfl (Am rfl)) (fun _ _ _ _ _ _=>za6) (fun _ _ _ _ _ _=>zbw C_shape_steps (hr.mono (by decide)) (by first | exact pass_try | exact zbz | exact zaK) rfl (zaa (pv 1) (zaa (pv 0) zae))))),?_⟩
  refine ⟨_,rfl,by decide,by decide,fun D hD => ?_⟩
  refine zhI (capv := [some (.ref b)]) (by rfl) (zaP 0 (128:Int).toNat) (by rw [zbl]; exact big (by decide)) hD (fun _ _=>trivial) (fun _=>true) (fun H i v=>∃ (q:A4) (ws:List V),v = .ref q/\H q=some (.lst ws)/\StepsR H ws (stp (srt cs) i)) ?_ ?_ (fun i x hx H R s' h=>h H (Same.refl _)) ?_ ?_
  ·rintro H H' i v s' ⟨qa,ws,e2,e3,e4⟩
   exact ⟨qa,ws,e2,s' _ _ e3,e4.mono fun _ _ e=>s' _ _ e⟩
  ·rintro H i v l' l'' hv hH ⟨qa,ws,e2,e3,e4⟩
   subst e2
   have hne:qa≠D:=fun z=>hv (by rw [z])
   refine ⟨qa,ws,rfl,(by rw [zah hne]; exact e3),e4.mono fun q' xs e => ?_⟩
   rw [zah (fun z=>by rw [z,hH] at e; cases e)]
   exact e
  ·intro i x hx _ H' R s' hDn h
   obtain ⟨hi,rfl⟩:=zbC hx
   rw [Fz]
   refine ⟨_,rfl,_,rfl,b,l,G,cs,past,((i:Nat):Int),rfl,B.same s',?_⟩
   rw [if_pos ⟨by omega,by have:i < 128:=hi; omega⟩]
   intro p H2 ws s2 np hp st
   exact h H2 _ s2 (fun z=>hDn (by injection z with z; rw [<- z]; exact np)) ⟨p,ws,rfl,hp,st _ (zfl cs) (zeL cs)⟩
  ·intro H' ys s' hD' pr
   rw [zbl,C8.mpr (fun _ _=>rfl)] at pr
   refine q _ H' ys s' hD hD' ⟨by rw [<- C3 pr,Aw]; rfl,fun i hi => ?_⟩
   obtain ⟨y,ey,_,qa,ws,rfl,e3,e4⟩:=Bs.at pr (Cf (show i < (128:Int).toNat from hi))
   exact ⟨qa,ws,ey,e3,e4⟩
noncomputable def sp_behind:Sp:=fun vs H Q _=>∃ (a l:A4) (ts:List V) (C:Combs) (ns:List Nat),vs = [.ref a,.ref l]/\H a=some (.lst ts)/\TabR H ts C/\GC C/\C.length<=8/\H l=some (.lst (ns.map fun s=>V.int (s:Nat)))/\(∀ s∈ns,s < 128)/\ns.length<=128/\∀ p H',Same H H'->H p=none->H' p=some (.lst ((behN C ns).map fun s=>V.int (s:Nat)))->Q (.ref p) H'
theorem zbL:FnScope ["table","shapes","reached","shape","step"] ["table","shapes"] (defScope s_shapes_behind):=⟨rfl,rfl,rfl,by decide +kernel,rfl,by decide +kernel,by decide +kernel⟩
theorem ok_behind (D:DefAt K mg "shapes_behind" s_shapes_behind) (T:Bn mg):Callee P w K mg base "shapes_behind" 1 ["table","shapes"] sp_behind:=by
 refine D.callee zbL (fun _ _ _ _ _ _=>ln2 fun _ _=>rfl) (fun vs H Q E h => ?_) (fun f cdv A outer s H vs Q E hr h => ?_)
 ·obtain ⟨a,l,ts,C,ns,rfl,_⟩:=h
  rfl
 ·obtain ⟨a,l,ts,C,ns,rfl,ha,tb,gc,h8,hl,hlt,hnl,q⟩:=h
  have S:=zbL
  have hu:=zcC hr
  refine ⟨_,zab (zaj (i:=2) S.nd rfl (Am rfl) (zc1))
  (zab (zaZ Bl rfl (zav (pv 1)) (zai (i:=3) S.nd rfl (Am rfl))
   (zaf (zaZ Bl rfl (zav (zaM zay (pv 0) (pv 3) (fun _ _=>rfl))) (zai (i:=4) S.nd rfl (Am rfl))
    (zaf (zce hu (pv 2) (zaM zbY (pv 4) (zad) (fun _ _=>rfl)) (zbH) rfl)))))
  (zaf (zam (zal (call_sortedDI rfl) rfl T.n_sorted Hu (zaa (pv 2) zae))))),?_⟩
  refine fun d nd => ?_
  have s1:Same H (upd H d (.dK [])):=Same.new nd
  refine ⟨_,rfl,_,rfl,⟨_,SqL.of (s1 _ _ hl)⟩,?_⟩
  refine zbA (zak K l _) (fun i σ Hx=>Same H Hx/\∃ kvs rs x3 x4,σ = [some (.ref a),some (.ref l),some (.ref d),x3,x4]/\Hx d=some (.dK kvs)/\kvs.map (·.1)=rs.map Dv/\rs.Nodup/\kvs.length<=8 * i/\∀ n:Int,n∈rs ↔ ∃ t∈ns.take i,∃ p∈stp C t,p.2=n) ⟨s1,[],[],_,_,rfl,zac,rfl,Db,Bi _,fun n=>by simp⟩ (fun i σ Hx _ h=>SqL.of (h.1 _ _ hl)) ?_ ?_
  ·rintro i x σ Hx hx ⟨sx,kvs,rs,x3,x4,rfl,hd,hk,rn,hkl,hm⟩
   rw [Af] at hx
   cases ht:ns[i]? with
   | none=>rw [ht] at hx; cases hx
   | some t =>
    rw [ht] at hx
    cases hx
    have hti:i < ns.length:=(Ar.mp ht).1
    have t128:=hlt t (Be ht)
    obtain ⟨qs,wss,e1,e2,e3⟩:=(tb.same sx).2 t t128
    have hwl:=e3.length
    have hw8:=zdd h8 t
    refine ⟨_,rfl,_,rfl,_,_,_,_,rfl,rfl,SqL.of (sx _ _ ha),zaA e1,_,rfl,⟨_,SqL.of e2⟩,?_⟩
    have ek:ns.take (i + 1)=ns.take i ++ [t]:=zaB ht
    refine zbA (zak K qs wss) (fun j σ Hy=>Same Hx (upd Hy d (.dK kvs))/\Same H Hy/\(∀ q o,q≠d->Hx q=some o->Hy q=some o)/\∃ kvs' rs' x4,σ = [some (.ref a),some (.ref l),some (.ref d),some (.int (t:Nat)),x4]/\Hy d=some (.dK kvs')/\kvs'.map (·.1)=rs'.map Dv/\rs'.Nodup/\kvs'.length<=8 * i + j/\∀ n:Int,n∈rs' ↔ (∃ t∈ns.take i,∃ p∈stp C t,p.2=n)\/∃ p∈(stp C t).take j,p.2=n) ⟨?_,sx,fun _ _ _ e=>e,kvs,rs,_,rfl,hd,hk,rn,by omega,fun n=>by rw [hm]; simp⟩ (fun j σ Hy _ h=>SqL.of (h.2.2.1 _ _ (fun z=>by rw [z,hd] at e2; cases e2) e2)) ?_ ?_
    ·intro q o e
     by_cases z:q=d
     ·rw [z,zac,<- hd,<- z,e]
     ·rw [zah z]; exact e
    ·rintro j y σ Hy hy ⟨s0,sy,ky,kvs',rs',x4',rfl,hd',hk',rn',hkl',hm'⟩
     have hj:j < (stp C t).length:=by rw [<- hwl]; exact (Ar.mp hy).1
     obtain ⟨qa,e4,e5⟩:=e3.get (A8 hj)
     rw [hy] at e4
     cases e4
     have e5':=ky _ _ (fun z=>by rw [z,hd] at e5; cases e5) e5
     refine ⟨_,rfl,_,rfl,_,_,_,_,rfl,rfl,SqT.of e5',at1,_,_,rfl,DPut.k (k:=Dv _) hd' (Ai (by omega:kvs'.length < 2000) (by decide)),?_⟩
     refine ⟨?_,sy.put nd,fun q o z e=>(by rw [zah z]; exact ky q o z e),_,if (stp C t)[j].2∈rs' then rs' else rs' ++ [(stp C t)[j].2],_,rfl,zac,?_,?_,?_,?_⟩
     ·intro q o e
      by_cases z:q=d
      ·rw [z,zac,<- hd,<- z,e]
      ·rw [zah z,zah z]; exact ky q o z e
     ·rw [zeC,hk']
      have:(Dv (stp C t)[j].2:Key)∈rs'.map Dv ↔ (stp C t)[j].2∈rs':=by
       rw [A7]
       exact ⟨fun ⟨z,hz,e⟩=>by injection e with e; rwa [<- e],fun h=>⟨_,h,rfl⟩⟩
      by_cases z:(stp C t)[j].2∈rs'
      ·rw [if_pos (this.mpr z),if_pos z]
      ·rw [if_neg (fun h=>z (this.mp h)),if_neg z,Az]
       rfl
     ·split
      ·exact rn'
      ·rename_i z
       refine Cy.mpr ⟨rn',by simp,fun u hu v hv e => ?_⟩
       rw [A6.mp hv] at e
       exact z (e ▸ hu)
     ·have:=zch kvs' (Dv (stp C t)[j].2:Key) (.bl true)
      omega
     ·intro n
      rw [Cw hj]
      have:n∈(if (stp C t)[j].2∈rs' then rs' else rs' ++ [(stp C t)[j].2]) ↔ n∈rs'\/(stp C t)[j].2=n:=by
       split
       ·rename_i z
        exact ⟨.inl,fun h=>h.elim id fun e=>e ▸ z⟩
       ·rw [Al,A6]
        exact ⟨fun h=>h.elim .inl fun e => .inr e.symm,fun h=>h.elim .inl fun e => .inr e.symm⟩
      rw [this,hm']
      constructor
      ·rintro ((h | ⟨p,hp,e⟩) | e)
       ·exact .inl h
       ·exact .inr ⟨p,C1 _ hp,e⟩
       ·exact .inr ⟨_,Bg _ (A6.mpr rfl),e⟩
      ·rintro (h | ⟨p,hp,e⟩)
       ·exact .inl (.inl h)
       ·rcases Al.mp hp with z | z
        ·exact .inl (.inr ⟨p,z,e⟩)
        ·rw [A6.mp z] at e
         exact .inr e
    ·rintro σ Hy ⟨s0,sy,ky,kvs',rs',x4',rfl,hd',hk',rn',hkl',hm'⟩
     refine ⟨sy,kvs',rs',_,_,rfl,hd',hk',rn',by omega,fun n => ?_⟩
     rw [hm',hwl,By,ek]
     constructor
     ·rintro (⟨t',ht',p,hp,e⟩ | ⟨p,hp,e⟩)
      ·exact ⟨t',C1 _ ht',p,hp,e⟩
      ·exact ⟨t,Bg _ (A6.mpr rfl),p,hp,e⟩
     ·rintro ⟨t',ht',p,hp,e⟩
      rcases Al.mp ht' with z | z
      ·exact .inl ⟨t',z,p,hp,e⟩
      ·rw [A6.mp z] at hp
       exact .inr ⟨p,hp,e⟩
  ·rintro σ Hx ⟨sx,kvs,rs,x3,x4,rfl,hd,hk,rn,hkl,hm⟩
   rw [A2] at hkl hm
   rw [By] at hm
   have pm:=beh_keys gc hlt rn hm
   have hrl:rs.length<=128:=by
    rw [pm.length_eq,A2]
    exact zfw C ns
   refine ⟨_,rfl,d,kvs,rs,rfl,.inl hd,hk,by omega,fun p ns' np pp pw => ?_⟩
   have e:=zbk (pp.trans pm) pw (beh_sorted C ns)
   refine q p _ (sx.trans (Same.new np)) (sx.free np) ?_
   rw [zac,e,B6]
   rfl
theorem zde {C:A4} {G:A4->Prop} {H:Hp} {b l:A4} {cs:Combs} {past:List Combs} (B:Bk C G H b l cs past):GC (srt cs)/\(srt cs).length<=8:=by
 have g:=B.good
 have p:=zd5 g.nd
 exact ⟨fun c hc=>(g.ok c (p.mem_iff.mp hc)).2,by rw [p.length_eq]; exact g.len⟩
noncomputable def sp_short:Sp:=fun vs H Q _=>∃ (a:A4) (ts:List V) (C:Combs),vs = [.ref a]/\H a=some (.lst ts)/\TabR H ts C/\GC C/\C.length<=8/\∀ (t:Nat) (H':Hp),Same H H'->((t=0/\∀ n,1<=n->¬ Fil C n)\/(1<=t/\t<=128/\Fil C t))->Q (.int (t:Nat)) H'
theorem zf1 (l:List Nat):(l.map fun s=>V.int (s:Nat))=(l.map fun (s:Nat)=>(s:Int)).map V.int:=by rw [B6]; rfl
theorem in_nats (x:Nat) (l:List Nat):inV (V.int (x:Nat)) (l.map fun s=>V.int (s:Nat))=decide (x∈l):=by
 rw [zf1,zfp,decide_eq_decide,A7]
 exact ⟨fun ⟨y,h,e⟩=>by rw [show x=y by omega]; exact h,fun h=>⟨x,h,rfl⟩⟩
theorem zf7 (l:List Nat):inV (V.int 0) (l.map fun s=>V.int (s:Nat))=decide (0∈l):=in_nats 0 l
theorem zeZ (l:List Nat):(l.map fun s=>V.int (s:Nat)).all flatV=true:=by rw [zf1]; exact zho _
theorem zbs:FnScope ["table","shapes","length"] ["table"] (defScope s_shortest_length):=⟨rfl,rfl,rfl,by decide +kernel,rfl,by decide +kernel,by decide +kernel⟩
theorem ok_short (D:DefAt K mg "shortest_length" s_shortest_length) (T:Bn mg) (V_SHAPES:∃ t,mg "SHAPES" = some (.int 128 t)) (C_shapes_behind:Callee P w K mg base "shapes_behind" 1 ["table","shapes"] sp_behind):Callee P w K mg base "shortest_length" 2 ["table"] sp_short:=by
 refine D.callee zbs (fun _ _ _ _ _ _=>ln1 fun _=>rfl) (fun vs H Q E h => ?_) (fun f cdv A outer s H vs Q E hr h => ?_)
 ·obtain ⟨a,ts,C,rfl,_⟩:=h
  rfl
 ·obtain ⟨a,ts,C,rfl,ha,tb,gc,h8,q⟩:=h
  have S:=zbs
  refine ⟨_,zab (zaj (i:=1) S.nd rfl (Am rfl) (za1 (zaa (zad) zae)))
  (zab (zaZ Bl rfl (pi_range2 rfl T.n_range (zaa (zad) (zaa (zar zaU (zbG rfl V_SHAPES) (zad)) zae))) (zai (i:=2) S.nd rfl (Am rfl))
   (zab (zaj (i:=1) S.nd rfl (Am rfl) (zaH C_shapes_behind (hr.mono (by decide)) rfl (zaa (pv 0) (zaa (pv 1) zae))))
   (zaf (zaJ (zas zcy (zad) (pv 1) (by with_unfolding_all rfl))
    (zaf (zam (pv 2)))
    (zap)))))
  (zaf (zam (zad)))),?_⟩
  refine ⟨bigr rfl,fun p0 np0 => ?_⟩
  have s1:Same H (upd H p0 (.lst [.int 0])):=Same.new np0
  refine ⟨_,_,rfl,rfl,_,_,rfl,by decide,?_⟩
  refine zbA (zaP 1 ((128:Int) + 1 - 1).toNat) (fun i σ Hx=>Same H Hx/\(∀ n,1<=n->n<=i->¬ Fil C n)/\∃ p x2,σ = [some (.ref a),some (.ref p),x2]/\Hx p=some (.lst ((rowN C i).map fun s=>V.int (s:Nat)))) ⟨s1,fun n h1 h2=>by omega,p0,_,rfl,zac⟩ (fun _ _ _ _ _=>trivial) ?_ ?_
  ·rintro i x σ Hx hx ⟨sx,hno,p,x2,rfl,hp⟩
   obtain ⟨hi,rfl⟩:=zbC hx
   have hi:i < 128:=hi
   refine ⟨_,rfl,_,rfl,a,p,ts,C,rowN C i,rfl,sx _ _ ha,tb.same sx,gc,h8,hp,(zff C i).1,(zff C i).2,fun p2 H2 s2 np2 hp2 => ?_⟩
   have hf:decide (0∈rowN C (i + 1))=true ↔ Fil C (i + 1):=by
    rw [decide_eq_true_eq,zby gc]; exact Nv
   refine ⟨_,rfl,_,_,rfl,.inl (SqL.of hp2),rfl,zeZ _,_,rfl,?_⟩
   rw [if_neg A9,zf7]
   refine ite2 (fun h0 => ?_) (fun h0 => ?_)
   ·refine ⟨_,rfl,?_⟩
    have:=q (i + 1) H2 (sx.trans s2) (.inr ⟨by omega,by omega,hf.mp h0⟩)
    rw [show (1:Int) + ((i:Nat):Int)=((i + 1:Nat):Int) by omega]
    exact this
   ·refine ⟨sx.trans s2,fun n h1 h2 hn => ?_,p2,_,rfl,hp2⟩
    by_cases z:n=i + 1
    ·subst z; exact h0 (hf.mpr hn)
    ·exact hno n h1 (by omega) hn
  ·rintro σ Hx ⟨sx,hno,p,x2,rfl,hp⟩
   rw [zbl] at hno
   refine q 0 Hx sx (.inl ⟨rfl,fun n h1 hn => ?_⟩)
   obtain ⟨m,m1,m2,m3⟩:=ze0 gc n hn h1
   exact hno m m1 m2 m3
noncomputable def lkv (l:List (Nat×Nat)):List (Key×V):=l.map fun x=>(Dv ((x.1:Nat):Int),V.int ((x.2:Nat):Int))
noncomputable def pkey (x:Nat×Nat):List Key:=kI [((x.1:Nat):Int),((x.2:Nat):Int)]
theorem pkey_inj {x y:Nat×Nat} (h:pkey x=pkey y):x=y:=by
 have:=zdX h
 injection this with a b
 injection b with b _
 exact O6 (by omega) (by omega)
theorem pkey_mem {S:List (Nat×Nat)} {x:Nat×Nat}:pkey x∈S.map pkey ↔ x∈S:=by
 rw [A7]
 exact ⟨fun ⟨y,h,e⟩=>pkey_inj e ▸ h,fun h=>⟨x,h,rfl⟩⟩
theorem zf3 (l:List (Nat×Nat)):(lkv l).map (·.1)=l.map fun x=>(Dv ((x.1:Nat):Int):Key):=by
 unfold lkv; rw [B6]; rfl
theorem inl_nd {l:List (Nat×Nat)} (nd:(l.map (·.1)).Nodup):((lkv l).map (·.1)).Nodup:=by
 rw [zf3,Ib,Bd]
 rw [Ib,Bd] at nd
 exact nd.imp fun h e=>h (by injection e with e; omega)
theorem zed {l:List (Nat×Nat)} (nd:(l.map (·.1)).Nodup) {r ℓ : Nat} (h:(r,ℓ)∈l):valV (lkv l) (Dv ((r:Nat):Int))=some (.int ((ℓ : Nat):Int)):=by
 obtain ⟨i,hi⟩:=G6.mp h
 refine zfe (inl_nd nd) (i:=i) ?_
 unfold lkv
 rw [Af,hi]
 rfl
theorem zf2 {l:List (Nat×Nat)} {r:Nat} (h:∀ ℓ,(r,ℓ) ∉ l):valV (lkv l) (Dv ((r:Nat):Int))=none:=by
 cases e:valV (lkv l) (Dv ((r:Nat):Int)) with
 | none=>rfl
 | some v =>
  exfalso
  have:=valV_mem.mp (show (valV (lkv l) (Dv ((r:Nat):Int):Key)).isSome=true by rw [e]; rfl)
  rw [zf3,A7] at this
  obtain ⟨x,hx,ex⟩:=this
  injection ex with ex
  have:x.1=r:=by omega
  exact h x.2 (by rw [<- this]; exact hx)
theorem pairs_bound {S:List (Nat×Nat)} (nd:S.Nodup) (h:∀ x∈S,x.1 < 128/\x.2 < 128):S.length<=16384:=by
 have:=zaw 16384 (S.map fun x=>x.1 + 128 * x.2) (by
  rw [Ib,Bd]
  rw [E8] at nd
  refine Ew (fun {x y} hx hy hn e=>hn ?_) nd
  have:=h x hx
  have:=h y hy
  exact O6 (by omega) (by omega)) (fun y hy=>by
  obtain ⟨x,hx,rfl⟩:=A7.mp hy
  have:=h x hx
  omega)
 rwa [A2] at this
noncomputable def sp_least:Sp:=fun vs H Q _=>∃ (a:A4) (ts:List V) (C:Combs) (t:Nat),vs = [.ref a,.int (t:Nat)]/\H a=some (.lst ts)/\TabR H ts C/\GC C/\C.length<=8/\1<=t/\t<=128/\∀ (d:A4) (l:List (Nat×Nat)) (N:Nat) (H':Hp),Same H H'->H d=none->H' d=some (.dK (lkv l))->LeastL C t N l->(∀ s,¬ Fst C t N s)->N<=16384->Q (.ref d) H'
theorem zbM:FnScope ["table","turn","least","seen","shapes","length","rest","shape","behind"] ["table","turn"] (defScope s_least_lengths):=⟨rfl,rfl,rfl,by decide +kernel,rfl,by decide +kernel,by decide +kernel⟩
theorem ok_least (D:DefAt K mg "least_lengths" s_least_lengths) (T:Bn mg) (C_shapes_behind:Callee P w K mg base "shapes_behind" 1 ["table","shapes"] sp_behind):Callee P w K mg base "least_lengths" 2 ["table","turn"] sp_least:=by
 refine D.callee zbM (fun _ _ _ _ _ _=>ln2 fun _ _=>rfl) (fun vs H Q E h => ?_) (fun f cdv A outer s H vs Q E hr h => ?_)
 ·obtain ⟨a,ts,C,t,rfl,_⟩:=h
  rfl
 ·obtain ⟨a,ts,C,t,rfl,ha,tb,gc,h8,t1,t2,q⟩:=h
  have S:=zbM
  have hu:=zcC hr
  have hsz:(20000:Nat)<=sizeLine:=by decide
  refine ⟨_,zab (zaj (i:=2) S.nd rfl (Am rfl) (zc1))
  (zab (zaj (i:=3) S.nd rfl (Hc rfl) (zea))
  (zab (zaj (i:=4) S.nd rfl (Am rfl) (za1 (zaa (zad) zae)))
  (zab (zaj (i:=5) S.nd rfl (Hc rfl) (zad))
  (zab (zc0 Bl (zas zfi (zal zat rfl T.n_len Bx (zaa (pv 4) zae)) (zad) (zax _))
   (zab (zaj (i:=6) S.nd rfl (Am rfl) (zar za5 (pv 5) (pv 1)))
   (zbF (zaJ (zas zcy (zad) (pv 4) (by with_unfolding_all rfl))
    (zaf (zce hu (pv 2) (pv 6) (pv 5) rfl))
    (zap))
   (zab (zaZ Bl rfl (zav (pv 4)) (zai (i:=7) S.nd rfl (Am rfl))
    (zaf (zce hu (pv 3) (zbm (zaa (pv 7) (zaa (pv 6) zae))) (zbH) rfl)))
   (zab (zaj (i:=5) S.nd rfl (Hc rfl) (zar zaU (pv 5) (zad)))
   (zab (zaj (i:=8) S.nd rfl (Am rfl) (zaH C_shapes_behind (hr.mono (by decide)) rfl (zaa (pv 0) (zaa (pv 4) zae))))
   (zaf (zfh (i:=4) S.nd rfl (Am rfl) (own := ["further"]) (caps := [(5,"length"),(1,"turn"),(3,"seen")]) rfl ⟨rfl,rfl,rfl,rfl,⟨⟨rfl,rfl,.inl rfl⟩,⟨rfl,rfl,.inl rfl⟩,⟨rfl,rfl,.inl rfl⟩,trivial⟩⟩ (zav (pv 8)) (fun _ _ _ _ _ _=>zai (i:=0) (zaz (by decide +kernel)) rfl (Am rfl)) (fun _ _ _ _ _ _=>zcd (zdR (zdk hu (zbm (zaa (pv 0) (zaa (zar za5 (pv 1) (pv 2)) zae))) (pv 3)))) (fun _ _ _ _ _ _=>pv 0)))))))))
  (zaf (zam (pv 2))))))),?_⟩
  refine fun d nd => ?_
  have s1:Same H (upd H d (.dK [])):=Same.new nd
  have hd1:upd H d (.dK []) d=some (.dK []):=zac
  generalize upd H d (.dK [])=H1 at s1 hd1 ⊢
  refine fun se nse => ?_
  have s2:Same H1 (upd H1 se (.dT [])):=Same.new nse
  have hse2:upd H1 se (.dT []) se=some (.dT []):=zac
  have nse0:=s1.free nse
  have hds:d≠se:=fun z=>by rw [<- z,hd1] at nse; cases nse
  have hd2:=s2 _ _ hd1
  have s12:=s1.trans s2
  generalize upd H1 se (.dT [])=H2 at s12 hse2 hd2 ⊢
  refine ⟨bigr rfl,fun p0 np0 => ?_⟩
  have s3:Same H2 (upd H2 p0 (.lst [.int 0])):=Same.new np0
  have hp3:upd H2 p0 (.lst [.int 0]) p0=some (.lst (([0]:List Nat).map fun s=>V.int (s:Nat))):=zac
  have s13:=s12.trans s3
  have hd3:=s3 _ _ hd2
  have hse3:=s3 _ _ hse2
  generalize upd H2 p0 (.lst [.int 0])=H3 at s13 hp3 hd3 hse3 ⊢
  let J:Nat->Hp->L2.St->Prop:=fun m Hx σ => Same H Hx/\∃ (ℓ : Nat) (p:Addr) (sh:List Nat) (l:List (Nat×Nat)) (svs:List (List Key×V)) (Sn:List (Nat×Nat)) (x6 x7 x8:Option V),m=20000 - Sn.length /\ σ = [some (.ref a),some (.int (t:Nat)),some (.ref d),some (.ref se),some (.ref p),some (.int (ℓ : Nat)),x6,x7,x8]/\Hx p=some (.lst (sh.map fun s=>V.int (s:Nat)))/\sh.Nodup/\(∀ s,s∈sh ↔ Fst C t ℓ s)/\Hx d=some (.dK (lkv l))/\LeastL C t ℓ l/\Hx se=some (.dT svs)/\svs.map (·.1)=Sn.map pkey/\Sn.Nodup/\(∀ s r,(s,r)∈Sn ↔ ∃ ℓ',ℓ' < ℓ /\ r = ℓ' % t/\rch C 0 ℓ' s) /\ ℓ <= Sn.length
  have J0:J 20000 H3 [some (.ref a),some (.int (t:Nat)),some (.ref d),some (.ref se),some (.ref p0),some (.int 0),none,none,none]:=by
   refine ⟨s13,0,p0,[0],[],[],[],none,none,none,rfl,rfl,hp3,by simp,fun s => ?_,hd3,⟨Db,fun r ℓ => ?_⟩,hse3,rfl,Db,fun s r => ?_,Ac _⟩
   ·rw [A6]
    exact ⟨fun h=>⟨h,fun ℓ' h'=>by omega⟩,fun h=>h.1⟩
   ·exact ⟨fun h=>(by cases h),fun h=>(by omega)⟩
   ·exact ⟨fun h=>(by cases h),fun ⟨ℓ',h,_⟩=>(by omega)⟩
  refine ⟨fun m σ Hx=>J m Hx σ,⟨_,J0⟩,?_⟩
  clear J0 s13 hp3 hd3 hse3
  rintro m σ Hx ⟨sx,ℓ,p,sh,l,svs,Sn,x6,x7,x8,rfl,rfl,hp,shn,hsh,hd,hl,hse,hsk,snn,hSn,hle⟩
  have hlt:∀ s∈sh,s < 128:=fun s hs=>zcc gc (by decide) ((hsh s).mp hs).1
  have hs128:=zaw 128 sh shn hlt
  have hmod:∀ n,n % t < t:=fun n=>Nat.mod_lt _ (by omega)
  have snb:Sn.length<=16384:=pairs_bound snn fun x hx=>by
   obtain ⟨s,r⟩:=x
   obtain ⟨ℓ',_,e,h⟩:=(hSn s r).mp hx
   exact ⟨zcc gc (by decide) h,by have:=hmod ℓ'; show r < 128; omega⟩
  refine ⟨_,rfl,_,_,rfl,.inl (SqL.of hp),_,_,rfl,rfl,_,rfl,?_⟩
  rw [A2]
  by_cases hem:sh = []
  ·subst hem
   rw [decide_eq_false (by simp)]
   refine iteF ?_
   exact ⟨_,rfl,q d l ℓ Hx sx nd hd hl (fun s hs=>by have:=(hsh s).mpr hs; cases this) (by omega)⟩
  have hpos:0 < sh.length:=Mw.mpr hem
  rw [decide_eq_true (show (0:Int) < ((sh.length:Nat):Int) by omega)]
  refine iteT ?_
  refine ⟨fun σ' H'=>∃ m',m' < 20000 - Sn.length/\J m' H' σ',fun _ _ h=>h,?_⟩
  have emod:((ℓ : Nat):Int) % ((t:Nat):Int)=((ℓ % t:Nat):Int):=(Int.natCast_emod ℓ t).symm
  refine ⟨_,rfl,_,rfl,_,_,rfl,rfl,show (0:Int) < ((t:Nat):Int) by omega,?_⟩
  refine ⟨fun σ Hy=>Same H Hy/\Hy p=some (.lst (sh.map fun s=>V.int (s:Nat)))/\Hy se=some (.dT svs) /\ σ = [some (.ref a),some (.int (t:Nat)),some (.ref d),some (.ref se),some (.ref p),some (.int (ℓ : Nat)),some (.int (((ℓ : Nat):Int) % ((t:Nat):Int))),x7,x8]/\∃ l',Hy d=some (.dK (lkv l'))/\LeastL C t (ℓ + 1) l',?_,?_⟩
  ·refine ⟨_,rfl,_,_,rfl,.inl (SqL.of hp),rfl,zeZ _,_,rfl,?_⟩
   rw [if_neg A9,zf7]
   refine ite2 (fun h0 => ?_) (fun h0 => ?_)
   ·have h0:=(hsh 0).mp (of_decide_eq_true h0)
    have hno:∀ ℓ',(ℓ % t,ℓ') ∉ l:=fun ℓ' z=>by
     obtain ⟨a1,a2,a3⟩:=(hl.2 _ _).mp z
     exact h0.2 ℓ' a1 a2.symm a3.1
    have hln:l.length<=16384:=by
     have:=zaw 16384 (l.map (·.1)) hl.1 (fun y hy=>by
      obtain ⟨⟨r,ℓ'⟩,hx,rfl⟩:=A7.mp hy
      obtain ⟨_,a2,_⟩:=(hl.2 _ _).mp hx
      have:=hmod ℓ'
      show r < 16384
      omega)
     rwa [A2] at this
    refine ⟨_,rfl,_,rfl,_,rfl,d,_,rfl,DPut.k (k:=Sum.inl (((ℓ : Nat):Int) % ((t:Nat):Int))) hd (by unfold lkv; rw [List.length_map]; omega),?_⟩
    rw [emod,zcY _ (zf2 hno)]
    have hpd:p≠d:=fun z=>by rw [z,hd] at hp; cases hp
    refine ⟨sx.put nd,by rw [zah hpd]; exact hp,by rw [zah hds.symm]; exact hse,rfl,l ++ [(ℓ % t,ℓ)],?_,?_⟩
    ·rw [zac]
     unfold lkv
     rw [Az]
     rfl
    ·refine ⟨?_,fun r ℓ' => ?_⟩
     ·rw [Az]
      refine Cy.mpr ⟨hl.1,by simp,fun u hu' v hv e => ?_⟩
      obtain ⟨⟨r,ℓ'⟩,hx,rfl⟩:=A7.mp hu'
      have hv:v = ℓ % t:=by simpa using hv
      rw [hv] at e
      dsimp only at e
      rw [e] at hx
      exact hno _ hx
     ·rw [Al,hl.2,A6]
      constructor
      ·rintro (⟨a1,a2,a3⟩ | e)
       ·exact ⟨by omega,a2,a3⟩
       ·injection e with e1 e2
        subst e1 e2
        exact ⟨by omega,rfl,h0⟩
      ·rintro ⟨a1,a2,a3⟩
       by_cases z : ℓ' = ℓ
       ·subst z; exact .inr (by rw [a2])
       ·exact .inl ⟨by omega,a2,a3⟩
   ·refine ⟨sx,hp,hse,rfl,l,hd,hl.1,fun r ℓ' => ?_⟩
    rw [hl.2]
    constructor
    ·rintro ⟨a1,a2,a3⟩
     exact ⟨by omega,a2,a3⟩
    ·rintro ⟨a1,a2,a3⟩
     refine ⟨?_,a2,a3⟩
     by_cases z : ℓ' = ℓ
     ·subst z; exact absurd (decide_eq_true ((hsh 0).mpr a3)) h0
     ·omega
  rintro σ Hy ⟨sy,hpy,hsey,rfl,l',hdy,hl'⟩
  rw [emod]
  clear hp hse hd
  have hnewS:∀ s∈sh,(s,ℓ % t) ∉ Sn:=fun s hs z=>by
   obtain ⟨ℓ',a1,a2,a3⟩:=(hSn _ _).mp z
   exact ((hsh s).mp hs).2 ℓ' a1 a2.symm a3
  have hpse:p≠se:=fun z=>by rw [z,hsey] at hpy; cases hpy
  refine ⟨_,rfl,_,rfl,⟨_,SqL.of hpy⟩,?_⟩
  refine zbA (zak K p _) (fun i σ Hz=>Same H Hz/\Hz p=some (.lst (sh.map fun s=>V.int (s:Nat)))/\Hz d=some (.dK (lkv l'))/\∃ (svs':List (List Key×V)) (x7:Option V),σ = [some (.ref a),some (.int (t:Nat)),some (.ref d),some (.ref se),some (.ref p),some (.int (ℓ : Nat)),some (.int ((ℓ % t:Nat):Int)),x7,x8]/\Hz se=some (.dT svs')/\svs'.map (·.1)=(Sn ++ (sh.take i).map fun s=>(s,ℓ % t)).map pkey) ⟨sy,hpy,hdy,svs,_,rfl,hsey,by rw [List.take_zero,List.map_nil,List.append_nil]; exact hsk⟩ (fun i σ Hz _ h=>SqL.of h.2.1) ?_ ?_
  ·rintro i x σ Hz hx ⟨sz,hpz,hdz,svs',x7',rfl,hsez,hskz⟩
   rw [Af] at hx
   cases es:sh[i]? with
   | none=>rw [es] at hx; cases hx
   | some s0 =>
    rw [es] at hx
    cases hx
    have hi:i < sh.length:=(Ar.mp es).1
    refine ⟨_,rfl,_,rfl,_,rfl,bigr rfl,fun tk ntk => ?_⟩
    have s5:Same Hz (upd Hz tk (.tup [.int ((s0:Nat):Int),.int ((ℓ % t:Nat):Int)])):=Same.new ntk
    have htk:upd Hz tk (.tup [.int ((s0:Nat):Int),.int ((ℓ % t:Nat):Int)]) tk=some (.tup ((pkey (s0,ℓ % t)).map kV)):=by
     rw [zac]; unfold pkey; rw [kI_V]; rfl
    have hvl:svs'.length<=17000:=by
     have:=congrArg Ed hskz
     rw [A2,A2,Ag,A2,Cq] at this
     omega
    refine ⟨se,_,rfl,DPut.t (k:=pkey (s0,ℓ % t)) (s5 _ _ hsez) htk (by omega),?_⟩
    have hnone:valV svs' (pkey (s0,ℓ % t))=none:=by
     cases ez:valV svs' (pkey (s0,ℓ % t)) with
     | none=>rfl
     | some v =>
      exfalso
      have z:=valV_mem.mp (show (valV svs' (pkey (s0,ℓ % t))).isSome=true by rw [ez]; rfl)
      rw [hskz,pkey_mem] at z
      rcases Al.mp z with z | z
      ·exact hnewS s0 (Be es) z
      ·obtain ⟨s',hs',e'⟩:=A7.mp z
       injection e' with e' _
       subst e'
       obtain ⟨n,hn,en⟩:=Ei hs'
       rw [Cq] at hn
       rw [He] at en
       have:n=i:=(Nk (l:=sh) (by omega) shn).mp (by rw [es,A8 (by omega),en])
       omega
    rw [zcY _ hnone]
    refine ⟨(sz.trans s5).put nse0,by rw [zah hpse]; exact s5 _ _ hpz,by rw [zah hds]; exact s5 _ _ hdz,_,_,rfl,zac,?_⟩
    rw [Az,hskz,zaB es]
    simp only [Az,As]
    rfl
  rintro σ Hz ⟨sz,hpz,hdz,svs',x7',rfl,hsez,hskz⟩
  rw [A2,By] at hskz
  generalize hS2:Sn ++ sh.map (fun s=>(s,ℓ % t))=S2 at hskz
  have S2n:S2.Nodup:=by
   rw [<- hS2]
   refine Cy.mpr ⟨snn,?_,fun u hu' v hv e => ?_⟩
   ·rw [Ib,Bd]
    exact shn.imp fun h e=>h (by injection e)
   ·obtain ⟨s',hs',rfl⟩:=A7.mp hv
    rw [e] at hu'
    exact hnewS s' hs' hu'
  have hS2m:∀ s r,(s,r)∈S2 ↔ ∃ ℓ',ℓ' < ℓ + 1/\r = ℓ' % t/\rch C 0 ℓ' s:=fun s r=>by
   rw [<- hS2,Al,hSn]
   constructor
   ·rintro (⟨ℓ',a1,a2⟩ | z)
    ·exact ⟨ℓ',by omega,a2⟩
    ·obtain ⟨s',hs',e'⟩:=A7.mp z
     injection e' with e1 e2
     subst e1 e2
     exact ⟨ℓ,by omega,rfl,((hsh s').mp hs').1⟩
   ·rintro ⟨ℓ',a1,a2,a3⟩
    by_cases z : ℓ' = ℓ
    ·subst z
     by_cases y:s∈sh
     ·exact .inr (A7.mpr ⟨s,y,by rw [a2]⟩)
     ·have:∃ ℓ'',ℓ'' < ℓ' /\ ℓ'' % t = ℓ' % t/\rch C 0 ℓ'' s:=Classical.byContradiction fun w=>y ((hsh s).mpr ⟨a3,fun ℓ'' b1 b2 b3=>w ⟨ℓ'',b1,b2,b3⟩⟩)
      obtain ⟨ℓ'',b1,b2,b3⟩:=this
      exact .inl ⟨ℓ'',b1,by rw [a2,b2],b3⟩
    ·exact .inl ⟨ℓ',by omega,a2,a3⟩
  have S2l:S2.length=Sn.length + sh.length:=by rw [<- hS2,Ag,A2]
  have e1:((ℓ : Nat):Int) + 1=((ℓ + 1:Nat):Int):=by omega
  refine ⟨_,rfl,_,_,rfl,rfl,?_⟩
  refine ⟨_,rfl,_,rfl,a,p,ts,C,sh,rfl,sz _ _ ha,tb.same sz,gc,h8,hpz,hlt,hs128,fun b H4 s4 nb hb => ?_⟩
  refine ⟨_,rfl,_,rfl,⟨_,SqL.of hb⟩,fun D hD => ?_⟩
  have emod1:(((ℓ : Nat):Int) + 1) % ((t:Nat):Int)=(((ℓ + 1) % t:Nat):Int):=by rw [e1]; exact (Int.natCast_emod (ℓ + 1) t).symm
  have hse4:=s4 _ _ hsez
  refine zbQ (capv := [some (.int (((ℓ : Nat):Int) + 1)),some (.int (t:Nat)),some (.ref se)]) (by rfl) (zak K b _) (by rw [List.length_map]; exact big (by have:=zfw C sh; omega)) hD (fun H' s'=>SqL.of (s' _ _ hb)) (fun v=>match v with | .int x=>decide ((x.toNat,(ℓ + 1) % t) ∉ S2) | _=>false) id ?_ ?_ ?_
  ·intro x hx H' R s' h
   obtain ⟨s0,hs0,rfl⟩:=A7.mp hx
   refine ⟨_,rfl,_,rfl,_,rfl,_,_,rfl,rfl,show (0:Int) < ((t:Nat):Int) by omega,bigr rfl,fun tk ntk => ?_⟩
   have s5:Same H' (upd H' tk (.tup [.int ((s0:Nat):Int),.int ((((ℓ : Nat):Int) + 1) % ((t:Nat):Int))])):=Same.new ntk
   have htk:upd H' tk (.tup [.int ((s0:Nat):Int),.int ((((ℓ : Nat):Int) + 1) % ((t:Nat):Int))]) tk=some (.tup ((pkey (s0,(ℓ + 1) % t)).map kV)):=by
    rw [zac,emod1]; unfold pkey; rw [kI_V]; rfl
   refine ⟨_,rfl,se,_,rfl,DGet.t (s5 _ _ (s' _ _ hse4)) htk,_,rfl,?_⟩
   have ev:(!(valV svs' (pkey (s0,(ℓ + 1) % t))).isSome)=decide ((((s0:Nat):Int).toNat,(ℓ + 1) % t) ∉ S2):=by
    rw [show ((s0:Nat):Int).toNat=s0 by omega]
    by_cases z:(s0,(ℓ + 1) % t)∈S2
    ·rw [decide_eq_false (fun y=>y z),valV_mem.mpr (by rw [hskz]; exact pkey_mem.mpr z)]; rfl
    ·rw [decide_eq_true z]
     cases ez:(valV svs' (pkey (s0,(ℓ + 1) % t))).isSome with
     | false=>rfl
     | true =>
      have:=valV_mem.mp ez
      rw [hskz] at this
      exact absurd (pkey_mem.mp this) z
   rw [ev]
   exact h _ s5
  ·intro x hx _ H' R s' h
   exact ⟨_,rfl,h H' (Same.refl _)⟩
  intro H5 s5 e5
  have s45:=s4.trans s5
  refine ⟨20000 - S2.length,by omega,sz.trans s45,ℓ + 1,D,(behN C sh).filter fun s=>decide ((s,(ℓ + 1) % t) ∉ S2),l',svs',S2,_,_,_,rfl,by rw [<- e1]; rfl,?_,(beh_nd C sh).sublist List.filter_sublist,fun s => ?_,s45 _ _ hdz,hl',s45 _ _ hsez,hskz,S2n,hS2m,by omega⟩
  ·rw [e5,Fj,Fe]
   congr 2
  ·rw [Ax,beh_mem,decide_eq_true_eq]
   constructor
   ·rintro ⟨⟨_,u,hu',h1⟩,h2⟩
    refine ⟨⟨u,((hsh u).mp hu').1,h1⟩,fun ℓ' a1 a2 a3=>h2 ((hS2m _ _).mpr ⟨ℓ',a1,a2.symm,a3⟩)⟩
   ·intro hf
    obtain ⟨u,hu',h1⟩:=zfr hf
    refine ⟨⟨zcc gc (by decide) hf.1,u,(hsh u).mpr hu',h1⟩,fun z => ?_⟩
    obtain ⟨ℓ',a1,a2,a3⟩:=(hS2m _ _).mp z
    exact hf.2 ℓ' a1 a2.symm a3
noncomputable def reachB (l:List (Nat×Nat)) (t n:Nat):Bool:=l.any fun x=>decide (x.1=n % t/\x.2<=n)
theorem reach_fil {C:Combs} {t N:Nat} (ht:Fil C t) {l:List (Nat×Nat)} (h:LeastL C t N l) (hN:∀ s,¬ Fst C t N s) (n:Nat):reachB l t n=true ↔ Fil C n:=by
 rw [least_fil ht h hN]
 unfold reachB
 rw [Bq]
 constructor
 ·rintro ⟨⟨r,ℓ⟩,hx,hd⟩
  obtain ⟨e1,e2⟩:=of_decide_eq_true hd
  dsimp only at e1 e2
  subst e1
  exact ⟨ℓ,hx,e2⟩
 ·rintro ⟨ℓ,hx,e2⟩
  exact ⟨_,hx,decide_eq_true ⟨rfl,e2⟩⟩
noncomputable def sp_reached:Sp:=fun vs H Q _=>∃ (d:A4) (l:List (Nat×Nat)) (t n:Nat),vs = [.ref d,.int (t:Nat),.int (n:Nat)]/\H d=some (.dK (lkv l))/\(l.map (·.1)).Nodup/\1<=t/\Q (.bl (reachB l t n)) H
theorem zcr:FnScope ["least","turn","length","rest"] ["least","turn","length"] (defScope s_is_reached):=⟨rfl,rfl,rfl,by decide +kernel,rfl,by decide +kernel,by decide +kernel⟩
theorem ok_reached (D:DefAt K mg "is_reached" s_is_reached) (T:Bn mg):Callee P w K mg base "is_reached" 1 ["least","turn","length"] sp_reached:=by
 refine D.callee zcr (fun _ _ _ _ _ _=>ln3 fun _ _ _=>rfl) (fun vs H Q E h => ?_) (fun f cdv A outer s H vs Q E hr h => ?_)
 ·obtain ⟨d,l,t,n,rfl,_⟩:=h
  rfl
 ·obtain ⟨d,l,t,n,rfl,hd,nd,t1,q⟩:=h
  have S:=zcr
  have hu:=zcC hr
  have emod:((n:Nat):Int) % ((t:Nat):Int)=((n % t:Nat):Int):=(Int.natCast_emod n t).symm
  refine ⟨_,zab (zaj (i:=3) S.nd rfl (Am rfl) (zar za5 (pv 2) (pv 1)))
  (zaf (zam (zeG (zhy (zfY hu (pv 3) (pv 0))) (zeF (zbW zdl (zdj hu (pv 0) (pv 3) (fun _ _=>rfl)) (pv 2) (zax _)))))),?_⟩
  refine ⟨_,rfl,_,rfl,_,_,rfl,rfl,show (0:Int) < ((t:Nat):Int) by omega,?_⟩
  refine ⟨_,rfl,_,rfl,d,_,rfl,DGet.k (k:=Sum.inl (((n:Nat):Int) % ((t:Nat):Int))) hd,_,rfl,?_⟩
  rw [emod]
  by_cases h:∃ ℓ,(n % t,ℓ)∈l
  ·obtain ⟨ℓ,hℓ⟩:=h
   rw [zed nd hℓ]
   refine iteT ?_
   have dg:DGet H d (.int (((n:Nat):Int) % ((t:Nat):Int))) (some (.int (ℓ : Nat))):=by
    have e:=DGet.k (k:=Sum.inl ((n % t:Nat):Int)) hd
    rw [zed nd hℓ] at e
    rw [emod]
    exact e
   refine ⟨_,rfl,_,rfl,d,_,rfl,dg,_,rfl,_,_,rfl,rfl,?_⟩
   have er:decide (((ℓ : Nat):Int)<=((n:Nat):Int))=reachB l t n:=by
    unfold reachB
    rw [B5,decide_eq_true_eq,Bq]
    constructor
    ·intro z
     exact ⟨_,hℓ,decide_eq_true ⟨rfl,by show ℓ <= n; omega⟩⟩
    ·rintro ⟨⟨r,ℓ'⟩,hx,hz⟩
     obtain ⟨e1,e2⟩:=of_decide_eq_true hz
     dsimp only at e1 e2
     subst e1
     have e3:=zed nd hx
     rw [zed nd hℓ] at e3
     injection e3 with e3
     injection e3 with e3
     omega
   rw [<- er] at q
   exact q
  ·have hno:∀ ℓ,(n % t,ℓ) ∉ l:=fun ℓ z=>h ⟨ℓ,z⟩
   rw [zf2 hno]
   refine iteF ?_
   have er:reachB l t n=false:=by
    unfold reachB
    rw [Jt]
    rintro ⟨r,ℓ⟩ hx hz
    obtain ⟨e1,_⟩:=of_decide_eq_true hz
    dsimp only at e1
    subst e1
    exact hno ℓ hx
   rw [er] at q
   exact q
noncomputable def sp_fitsf (ea:Nat->A4) (C:A4):Sp:=fun vs H Q E=>∃ b l G cs past n,vs = [.ref b,.int n]/\Bk C G H b l cs past /\
 (if 0<=n/\n<=1000000000000 then ∀ H',Same H H'->Q (.bl (decide (0∈rowN (srt cs) n.toNat))) H' else E (.ref (ea 13)) none H)
theorem zcs:FnScope ["book","length","table","turn"] ["book","length"] (defScope s_fits_flush):=⟨rfl,rfl,rfl,by decide +kernel,rfl,by decide +kernel,by decide +kernel⟩
theorem ok_fitsf {ea:Nat->A4} {C:A4} (D:DefAt K mg "fits_flush" s_fits_flush) (T:Bn mg) (V_MOST_LENGTH:∃ t,mg "MOST_LENGTH" = some (.int 1000000000000 t)) (O_BadLength:Err K mg "BadLength" (ea 13)) (C_step_table:Callee1 P w K mg base "step_table" 4 ["book"] (sp_table C)) (C_shortest_length:Callee P w K mg base "shortest_length" 2 ["table"] sp_short) (C_least_lengths:Callee P w K mg base "least_lengths" 2 ["table","turn"] sp_least) (C_is_reached:Callee P w K mg base "is_reached" 1 ["least","turn","length"] sp_reached):Callee1 P w K mg base "fits_flush" 5 ["book","length"] (sp_fitsf ea C):=by
 refine D.callee1 zcs (fun _ _ _ _ _ _=>ln2 fun _ _=>rfl) (fun vs H Q E h => ?_) (fun f cdv A outer s H vs Q E hr h => ?_)
 ·obtain ⟨b,l,G,cs,past,n,rfl,_⟩:=h
  rfl
 ·obtain ⟨b,l,G,cs,past,n,rfl,B,q⟩:=h
  have S:=zcs
  have hu:=zcC hr
  obtain ⟨gc,h8⟩:=zde B
  refine ⟨_,zab (zaJ (zbe (zcZ zdl zdl (zad) (pv 1) (zbG rfl V_MOST_LENGTH)))
   (zaf (zbd O_BadLength rfl (zaa (za4) zae)))
   (zap))
  (zab (zaj (i:=2) S.nd rfl (Am rfl) (zbw C_step_table (hr.mono (by decide)) (by first | exact pass_try | exact zbz | exact zaK) rfl (zaa (pv 0) zae)))
  (zab (zaj (i:=3) S.nd rfl (Am rfl) (zaH C_shortest_length (hr.mono (by decide)) rfl (zaa (pv 2) zae)))
  (zab (zaJ (zas zcV (pv 3) (zad) (zax _))
   (zaf (zam (zbW zcV (pv 1) (zad) (zax _))))
   (zap))
  (zaf (zam (zaH C_is_reached (hr.mono (by decide)) rfl (zaa (zaH C_least_lengths (hr.mono (by decide)) rfl (zaa (pv 2) (zaa (pv 3) zae))) (zaa (pv 3) (zaa (pv 1) zae))))))))),?_⟩
  refine ⟨_,rfl,_,_,rfl,rfl,_,rfl,?_⟩
  refine ite2 (fun h0 => ?_) (fun h0 => ?_)
  rotate_left
  ·have h0:¬ (0:Int)<=n:=by simpa using h0
   rw [if_neg (fun z=>h0 z.1)] at q
   exact ⟨_,rfl,iteT ⟨bigr rfl,q⟩⟩
  have h0:(0:Int)<=n:=by simpa using h0
  refine ⟨_,_,rfl,rfl,_,rfl,?_⟩
  by_cases h1:n<=1000000000000
  case neg =>
   rw [if_neg (fun z=>h1 z.2)] at q
   rw [decide_eq_false h1]
   exact iteT ⟨bigr rfl,q⟩
  rw [if_pos ⟨h0,h1⟩] at q
  rw [decide_eq_true h1]
  refine iteF ?_
  obtain ⟨k,rfl⟩:=Fl h0
  rw [show ((k:Nat):Int).toNat=k by omega] at q
  have hf:decide (0∈rowN (srt cs) k)=true ↔ Fil (srt cs) k:=by rw [decide_eq_true_eq,zby gc]; exact Nv
  refine ⟨_,rfl,b,l,G,cs,past,rfl,B,fun a H1 ts s1 na ha tb => ?_⟩
  refine ⟨_,rfl,a,ts,srt cs,rfl,ha,tb,gc,h8,fun t H2 s2 hcase => ?_⟩
  have s12:=s1.trans s2
  refine ⟨_,rfl,rfl,_,rfl,?_⟩
  rcases hcase with ⟨rfl,hno⟩ | ⟨t1,t2,ht⟩
  ·rw [decide_eq_true (show V.int ((0:Nat):Int)=V.int 0 from rfl)]
   refine iteT ⟨_,rfl,rfl,?_⟩
   have:=q H2 s12
   have e:decide (0∈rowN (srt cs) k)=decide (V.int ((k:Nat):Int)=V.int 0):=by
    rw [B5,hf,decide_eq_true_eq]
    constructor
    ·intro z
     by_cases y:k=0
     ·rw [y]; rfl
     ·exact absurd z (hno k (by omega))
    ·intro z
     injection z with z
     have:k=0:=by omega
     rw [this]; exact zem _
   rw [e] at this
   exact this
  rw [decide_eq_false (show ¬ V.int ((t:Nat):Int)=V.int 0 from fun z=>by injection z with z; omega)]
  refine iteF ?_
  refine ⟨_,rfl,_,rfl,a,ts,srt cs,t,rfl,s2 _ _ ha,tb.same s2,gc,h8,t1,t2,fun d ll N H3 s3 nd hd hl hN hNb => ?_⟩
  refine ⟨_,rfl,_,rfl,d,ll,t,k,rfl,hd,hl.1,t1,?_⟩
  have e:reachB ll t k=decide (0∈rowN (srt cs) k):=by rw [B5,hf]; exact reach_fil ht hl hN k
  rw [e]
  exact q H3 (s12.trans s3)
noncomputable def wrow (A:Nat->Nat):List V:=(Ab 128).map fun s=>V.int ((A s:Nat):Int)
theorem zfd (A:Nat->Nat) {s:Nat} (h:s < 128):atI (wrow A) ((s:Nat):Int)=some (.int ((A s:Nat):Int)):=by
 refine zaA ?_
 unfold wrow
 rw [Af,Cf h]
 rfl
theorem wrow_len (A:Nat->Nat):(wrow A).length=128:=by unfold wrow; rw [A2,Aw]
noncomputable def sp_behindw:Sp:=fun vs H Q _=>∃ (st a b:A4) (x:Str) (p:Str×Int) (A B:Nat->Nat),vs = [.ref st,.ref a,.ref b,.str x]/\H st=some (.tup [.str p.1,.int p.2])/\0<=p.2/\p.2.toNat < 128/\H a=some (.lst (wrow A))/\H b=some (.lst (wrow B))/\Q (.int ((bh x A B p:Nat):Int)) H
theorem zb9:FnScope ["step","ways","wanted","name","row"] ["step","ways","wanted","name"] (defScope s_ways_behind):=⟨rfl,rfl,rfl,by decide +kernel,rfl,by decide +kernel,by decide +kernel⟩
theorem ok_behindw (D:DefAt K mg "ways_behind" s_ways_behind) (T:Bn mg):Callee P w K mg base "ways_behind" 1 ["step","ways","wanted","name"] sp_behindw:=by
 refine D.callee zb9 (fun _ _ _ _ _ _=>ln4 fun _ _ _ _=>rfl) (fun vs H Q E h => ?_) (fun f cdv A outer s H vs Q E hr h => ?_)
 ·obtain ⟨st,a,b,x,p,A',B',rfl,_⟩:=h
  rfl
 ·obtain ⟨st,a,b,x,⟨p1,p2⟩,A',B',rfl,hst,h0,h1,ha,hb,q⟩:=h
  have S:=zb9
  dsimp only at hst h0 h1
  refine ⟨_,zbF (zaj (i:=4) S.nd rfl (Am rfl) (pe_ifExp (zas zcV (zaM zbY (pv 0) (zad) (fun _ _=>rfl)) (pv 3) (zax _)) (pv 1) (pv 2)))
  (zaf (zam (zaM zay (pv 4) (zaM zbY (pv 0) (zad) (fun _ _=>rfl)) (fun _ _=>rfl)))),?_⟩
  have e2:p2=((p2.toNat:Nat):Int):=by omega
  refine ⟨fun σ Hx=>Hx=H/\∃ (r:A4),H r=some (.lst (wrow (if p1=x then A' else B'))) /\ σ = [some (.ref st),some (.ref a),some (.ref b),some (.str x),some (.ref r)],?_,?_⟩
  ·refine ⟨_,rfl,_,_,_,_,rfl,rfl,SqT.of hst,at0,_,rfl,rfl,_,rfl,?_⟩
   by_cases e:p1=x
   ·rw [decide_eq_true (by rw [e])]
    refine iteT ?_
    exact ⟨_,rfl,rfl,a,by rw [if_pos e]; exact ha,rfl⟩
   ·rw [decide_eq_false (fun z=>e (by injection z))]
    refine iteF ?_
    exact ⟨_,rfl,rfl,b,by rw [if_neg e]; exact hb,rfl⟩
  rintro σ Hx ⟨rfl,r,hr',rfl⟩
  refine ⟨_,rfl,_,rfl,_,_,_,_,rfl,rfl,SqT.of hst,at1,_,_,_,_,rfl,rfl,SqL.of hr',by rw [e2]; exact zfd _ h1,?_⟩
  have e3:(if p1=x then A' else B') p2.toNat=bh x A' B' (p1,p2):=by
   unfold bh
   dsimp only
   split <;> rfl
  rw [e3]
  exact q
noncomputable def sp_from:Sp:=fun vs H Q _=>∃ (l a b:A4) (x:Str) (ws:List V) (ps:List (Str×Int)) (A B:Nat->Nat),vs = [.ref l,.ref a,.ref b,.str x]/\H l=some (.lst ws)/\StepsR H ws ps/\ps.length<=100/\(∀ p∈ps,0<=p.2/\p.2.toNat < 128)/\H a=some (.lst (wrow A))/\H b=some (.lst (wrow B))/\∀ H',Same H H'->Q (.int (((ps.map (bh x A B)).sum:Nat):Int)) H'
theorem sum_cast (l:List Nat):(l.map fun (n:Nat)=>(n:Int)).sum=((l.sum:Nat):Int):=by
 induction l with
 | nil=>rfl
 | cons a l ih=>rw [An,D5,D5,ih]; omega
theorem zcR:FnScope ["steps","ways","wanted","name"] ["steps","ways","wanted","name"] (defScope s_ways_from):=⟨rfl,rfl,rfl,by decide +kernel,rfl,by decide +kernel,by decide +kernel⟩
theorem ok_from (D:DefAt K mg "ways_from" s_ways_from) (T:Bn mg) (C_ways_behind:Callee P w K mg base "ways_behind" 1 ["step","ways","wanted","name"] sp_behindw):Callee P w K mg base "ways_from" 2 ["steps","ways","wanted","name"] sp_from:=by
 refine D.callee zcR (fun _ _ _ _ _ _=>ln4 fun _ _ _ _=>rfl) (fun vs H Q E h => ?_) (fun f cdv A outer s H vs Q E hr h => ?_)
 ·obtain ⟨l,a,b,x,ws,ps,A',B',rfl,_⟩:=h
  rfl
 ·obtain ⟨l,a,b,x,ws,ps,A',B',rfl,hl,sr,hpl,hps,ha,hb,q⟩:=h
  have S:=zcR
  have hwl:=sr.length
  refine ⟨_,zaf (zam (zal (ze3 rfl) rfl T.n_sum boot_sum (zaa (zaS (own := ["step"]) (caps := [(1,"ways"),(2,"wanted"),(3,"name")]) rfl ⟨rfl,rfl,rfl,rfl,⟨⟨rfl,rfl,.inl rfl⟩,⟨rfl,rfl,.inl rfl⟩,⟨rfl,rfl,.inl rfl⟩,trivial⟩⟩ (zav (pv 0)) (fun _ _ _ _ _ _=>zai (i:=0) (zaz (by decide +kernel)) rfl (Am rfl)) (fun _ _ _ _ _ _=>za6) (fun _ _ _ _ _ _=>zaH C_ways_behind (hr.mono (by decide)) rfl (zaa (pv 0) (zaa (pv 1) (zaa (pv 2) (zaa (pv 3) zae)))))) zae))),?_⟩
  refine ⟨_,rfl,_,rfl,⟨_,SqL.of hl⟩,fun D hD => ?_⟩
  refine zgg (capv := [some (.ref a),some (.ref b),some (.str x)]) (by rfl) (zak K l ws) (big (by omega)) hD (fun H' s'=>SqL.of (s' _ _ hl)) (fun _=>true) (fun u=>V.int ((bh x A' B' (ps.getD u ("",0)):Nat):Int)) (fun _ _ _=>nofun) (fun u y hy H' R s' h=>h H' (Same.refl _)) ?_ ?_
  ·intro u y hy _ H' R s' h
   have hu:u < ps.length:=by rw [<- hwl]; exact (Ar.mp hy).1
   obtain ⟨qa,e4,e5⟩:=sr.get (A8 hu)
   rw [hy] at e4
   cases e4
   have hm:=hps _ (Cv hu)
   refine ⟨_,rfl,_,rfl,_,rfl,_,rfl,qa,a,b,x,ps[u],A',B',rfl,s' _ _ e5,hm.1,hm.2,s' _ _ ha,s' _ _ hb,?_⟩
   have:=h H' (Same.refl _)
   rw [Ak,A8 hu] at this
   exact this
  intro H1 s1 e1
  refine ⟨D,ps.map fun p=>((bh x A' B' p:Nat):Int),rfl,SqL.of ?_,?_⟩
  ·rw [e1,C8.mpr (fun _ _=>rfl),hwl,B6]
   congr 2
   refine Ft fun u => ?_
   rw [Af,Af]
   by_cases z:u < ps.length
   ·rw [Cf z,A8 z,Cu,Cu,Ak,A8 z]
    rfl
   ·rw [Co (by rw [Aw]; omega),Co (by omega)]
    rfl
  have e2:(ps.map fun p=>((bh x A' B' p:Nat):Int)).sum=(((ps.map (bh x A' B')).sum:Nat):Int):=by
   rw [<- sum_cast,B6]
   rfl
  rw [e2]
  exact q H1 s1
noncomputable def WaysR (N:A4->Prop) (H:Hp) (ws:List V) (A:Nat->Nat->Nat) (n:Nat):Prop:=ws.length=n + 1/\∀ k:Nat,k<=n->∃ q,ws[k]?=some (.ref q)/\N q/\H q=some (.lst (wrow (A k)))
theorem WaysR.mono {N N':A4->Prop} {H H':Hp} {ws:List V} {A:Nat->Nat->Nat} {n:Nat} (r:WaysR N H ws A n) (hn:∀ q,N q->N' q) (m:∀ q o,N q->H q=some o->H' q=some o):WaysR N' H' ws A n:=⟨r.1,fun k hk=>let ⟨q,a,b,c⟩:=r.2 k hk; ⟨q,a,hn q b,m _ _ b c⟩⟩
theorem WaysR.snoc {N:A4->Prop} {H:Hp} {ws:List V} {A:Nat->Nat->Nat} {n:Nat} {q:A4} (r:WaysR N H ws A n) (hq:H q=some (.lst (wrow (A (n + 1))))) (hn:N q):WaysR N H (ws ++ [.ref q]) A (n + 1):=by
 refine ⟨by rw [Ag,r.1]; rfl,fun k hk => ?_⟩
 by_cases e:k=n + 1
 ·subst e
  exact ⟨q,by rw [Dm (by rw [r.1]; exact Ac _),r.1,Im]; rfl,hn,hq⟩
 ·obtain ⟨q',a,b,c⟩:=r.2 k (by omega)
  exact ⟨q',by rw [Dq (by rw [r.1]; omega)]; exact a,b,c⟩
noncomputable def sp_close:Sp:=fun vs H Q _=>∃ (a:A4) (ts:List V) (C:Combs) (n:Nat),vs = [.ref a,.int (n:Nat)]/\H a=some (.lst ts)/\TabR H ts C/\GC C/\C.length<=8/\n<=200/\∀ (r:A4) (ws:List V) (H':Hp),Same H H'->H' r=some (.lst ws)->WaysR (fun _=>True) H' ws (Wy C) n->Q (.ref r) H'
theorem zbK:FnScope ["table","length","rows","passed"] ["table","length"] (defScope s_ways_to_close):=⟨rfl,rfl,rfl,by decide +kernel,rfl,by decide +kernel,by decide +kernel⟩
theorem ok_close (D:DefAt K mg "ways_to_close" s_ways_to_close) (T:Bn mg) (C_ways_from:Callee P w K mg base "ways_from" 2 ["steps","ways","wanted","name"] sp_from):Callee P w K mg base "ways_to_close" 3 ["table","length"] sp_close:=by
 refine D.callee zbK (fun _ _ _ _ _ _=>ln2 fun _ _=>rfl) (fun vs H Q E h => ?_) (fun f cdv A outer s H vs Q E hr h => ?_)
 ·obtain ⟨a,ts,C,n,rfl,_⟩:=h
  rfl
 ·obtain ⟨a,ts,C,n,rfl,ha,tb,gc,h8,hn,q⟩:=h
  have S:=zbK
  have htl:=tb.1
  refine ⟨_,zab (zaj (i:=2) S.nd rfl (Hc rfl) (za1 (zaa (zaS (own := ["steps"]) (caps := []) rfl ⟨rfl,rfl,rfl,rfl,trivial⟩ (zav (pv 0)) (fun _ _ _ _ _ _=>zai (i:=0) (zaz (by decide +kernel)) rfl (Am rfl)) (fun _ _ _ _ _ _=>za6) (fun _ _ _ _ _ _=>zad)) zae)))
  (zab (zgE (zad) (zhw (zaM zay (pv 2) (zad) (fun _ _=>rfl)) (zad) zfL))
  (zab (zaZ Bl rfl (zbf rfl T.n_range (zaa (pv 1) zae)) (zai (i:=3) S.nd rfl (Am rfl))
   (zaf (za7 (zdF C2 Ca C9 zaV (pv 2) (zaa (zaS (own := ["steps"]) (caps := [(2,"rows")]) rfl ⟨rfl,rfl,rfl,rfl,⟨⟨rfl,rfl,.inl rfl⟩,trivial⟩⟩ (zav (pv 0)) (fun _ _ _ _ _ _=>zai (i:=0) (zaz (by decide +kernel)) rfl (Am rfl)) (fun _ _ _ _ _ _=>za6) (fun _ _ _ _ _ _=>zaH C_ways_from (hr.mono (by decide)) rfl (zaa (pv 0) (zaa (zaM (zc4 K rfl) (pv 1) (zhm zfF (zad)) (fun _ _=>rfl)) (zaa (zaM (zc4 K rfl) (pv 1) (zhm zfF (zad)) (fun _ _=>rfl)) (zaa (za4) zae)))))) zae)))))
  (zaf (zam (pv 2))))),?_⟩
  refine ⟨_,rfl,_,rfl,⟨_,SqL.of ha⟩,fun D hD => ?_⟩
  refine zbQ (capv := []) (by rfl) (zak K a ts) (big (by omega)) hD (fun H' s'=>SqL.of (s' _ _ ha)) (fun _=>true) (fun _=>V.int 0) (fun x hx H' R s' h=>h H' (Same.refl _)) (fun x hx _ H' R s' h=>h H' (Same.refl _)) ?_
  intro H1 s1 e1
  have e1':H1 D=some (.lst ((Ab 128).map fun _=>V.int 0)):=by
   rw [e1,C8.mpr (fun _ _=>rfl)]
   congr 2
   refine Nt (by rw [A2,A2,Aw]; omega) fun i h1 h2 => ?_
   rw [Nr,Nr]
  refine ⟨bigr rfl,fun r nr => ?_⟩
  have s2:Same H1 (upd H1 r (.lst [.ref D])):=Same.new nr
  have hr2:upd H1 r (.lst [.ref D]) r=some (.lst [.ref D]):=zac
  have hD2:=s2 _ _ e1'
  have hDr:D≠r:=fun z=>by rw [<- z,e1'] at nr; cases nr
  have s12:=s1.trans s2
  have nr0:=s1.free nr
  generalize upd H1 r (.lst [.ref D])=H2 at s12 hr2 hD2 ⊢
  have hix:ixN ((Ab 128).map fun _=>V.int 0).length 0=some 0:=by rw [A2,Aw]; decide
  refine ⟨_,rfl,_,_,_,_,rfl,rfl,SqL.of hr2,(show atI [V.ref D] ((0:Nat):Int)=_ from zaA rfl),D,_,_,_,rfl,rfl,hD2,hix,?_⟩
  have ew:((Ab 128).map fun _=>V.int 0).set 0 (V.int 1)=wrow (Wy C 0):=by
   unfold wrow
   rw [zgM _ _ (by decide)]
   refine C7 fun s _ => ?_
   show _=V.int (((if s=0 then 1 else 0:Nat)):Int)
   split <;> rfl
  rw [ew]
  have hDn0:H D=none:=hD
  have s3:Same H (upd H2 D (.lst (wrow (Wy C 0)))):=s12.put hDn0
  have hD3:upd H2 D (.lst (wrow (Wy C 0))) D=some (.lst (wrow (Wy C 0))):=zac
  have hr3:upd H2 D (.lst (wrow (Wy C 0))) r=some (.lst [.ref D]):=by rw [zah hDr.symm]; exact hr2
  generalize upd H2 D (.lst (wrow (Wy C 0)))=H3 at s3 hD3 hr3 ⊢
  refine ⟨_,rfl,_,rfl,by omega,by omega,?_⟩
  refine zbA (zaP 0 ((n:Nat):Int).toNat) (fun i σ Hx=>Same H Hx/\∃ (ws:List V) (x3:Option V),σ = [some (.ref a),some (.int (n:Nat)),some (.ref r),x3]/\Hx r=some (.lst ws)/\WaysR (fun z=>z≠r) Hx ws (Wy C) i) ⟨s3,[.ref D],_,rfl,hr3,rfl,fun k hk=>by
    have:k=0:=by omega
    subst this
    exact ⟨D,rfl,hDr,hD3⟩⟩ (fun _ _ _ _ _=>trivial) ?_ ?_
  ·rintro i x σ Hx hx ⟨sx,ws,x3,rfl,hrx,wr⟩
   obtain ⟨hi,rfl⟩:=zbC hx
   have hi':i < n:=by omega
   obtain ⟨qk,eqk,_,hqk⟩:=wr.2 i (Ac _)
   have hat:atI ws (-1)=some (.ref qk):=at_end wr.1 eqk
   refine ⟨_,rfl,.inl ⟨rfl,_,SqL.of hrx⟩,_,rfl,_,rfl,⟨_,SqL.of (sx _ _ ha)⟩,fun D2 hD2 => ?_⟩
   refine zgg (capv := [some (.ref r)]) (by rfl) (zak K a ts) (big (by omega)) hD2 (fun H' s'=>SqL.of (s' _ _ (sx _ _ ha))) (fun _=>true) (fun s=>V.int ((Wy C (i + 1) s:Nat):Int)) (fun _ _ _=>nofun) (fun u y hy H' R s' h=>h H' (Same.refl _)) ?_ ?_
   ·intro u y hy _ H' R s' h
    have hu:u < 128:=by rw [<- htl]; exact (Ar.mp hy).1
    obtain ⟨qs,wss,e1,e2,e3⟩:=(tb.same (sx.trans s')).2 u hu
    rw [hy] at e1
    cases e1
    refine ⟨_,rfl,_,rfl,_,rfl,_,_,_,_,rfl,rfl,SqL.of (s' _ _ hrx),hat,_,rfl,_,rfl,_,_,_,_,rfl,rfl,SqL.of (s' _ _ hrx),hat,?_⟩
    refine ⟨qs,qk,qk,A5 "",wss,stp C u,Wy C i,Wy C i,rfl,e2,e3,by have:=zdd h8 u; omega,fun p hp=>zcQ gc hu hp,s' _ _ hqk,s' _ _ hqk,fun H'' s'' => ?_⟩
    have e:((stp C u).map (bh (A5 "") (Wy C i) (Wy C i))).sum=Wy C (i + 1) u:=((zgs C (A5 "")).succ i u).symm
    rw [e]
    exact h H'' s''
   intro H4 s4 e4
   have hr4:=s4 _ _ hrx
   have hD2r:D2≠r:=fun z=>by rw [z,hrx] at hD2; cases hD2
   have e4':H4 D2=some (.lst (wrow (Wy C (i + 1)))):=by
    rw [e4,C8.mpr (fun _ _=>rfl),htl]
    rfl
   refine ⟨r,_,_,rfl,rfl,hr4,Ai (by have:=wr.1; omega:ws.length < 1000) za0,?_⟩
   refine ⟨(sx.trans s4).put nr0,_,_,rfl,zac,?_⟩
   exact (WaysR.mono wr (fun _ z=>z) fun z o hz e=>by rw [zah hz]; exact s4 _ _ e).snoc (by rw [zah hD2r]; exact e4') hD2r
  ·rintro σ Hx ⟨sx,ws,x3,rfl,hrx,wr⟩
   rw [zbl,show ((n:Nat):Int).toNat=n by omega] at wr
   exact ⟨_,rfl,q r ws Hx sx hrx (wr.mono (fun _ _=>trivial) fun _ _ _ e=>e)⟩
noncomputable def sp_open:Sp:=fun vs H Q _=>∃ (l a b:A4) (x:Str) (ws:List V) (ps:List (Str×Int)) (A B:Nat->Nat) (p:Str×Int),vs = [.ref l,.ref a,.ref b,.str x]/\H l=some (.lst ws)/\StepsR H ws ps/\ps.length<=100/\(∀ p∈ps,0<=p.2/\p.2.toNat < 128)/\H a=some (.lst (wrow A))/\H b=some (.lst (wrow B))/\ps.find? (fun p=>decide (0 < bh x A B p))=some p/\∀ q H',Same H H'->H' q=some (.tup [.str p.1,.int p.2])->Q (.ref q) H'
theorem find_filterO {α : Type} {ps:List α} {f : α -> Bool} {p d : α} (h:ps.find? f=some p):∃ i,((Ab ps.length).filter fun i=>f (ps.getD i d))[0]?=some i/\ps[i]?=some p:=by
 induction ps with
 | nil=>cases h
 | cons x ps ih =>
  rw [At,List.range_succ_eq_map,C4]
  by_cases e:f x=true
  ·rw [List.find?_cons_of_pos e] at h
   cases h
   exact ⟨0,by rw [if_pos (by simpa using e)]; rfl,rfl⟩
  ·rw [List.find?_cons_of_neg e] at h
   obtain ⟨i,h1,h2⟩:=ih h
   refine ⟨i + 1,?_,by simpa using h2⟩
   rw [if_neg (by simpa using e),Fe,Af]
   show (((Ab ps.length).filter fun i=>f (ps.getD i d))[0]?).map _=_
   rw [h1]
   rfl
theorem zbu:FnScope ["steps","ways","wanted","name"] ["steps","ways","wanted","name"] (defScope s_first_open_step):=⟨rfl,rfl,rfl,by decide +kernel,rfl,by decide +kernel,by decide +kernel⟩
theorem ok_open (D:DefAt K mg "first_open_step" s_first_open_step) (T:Bn mg) (C_ways_behind:Callee P w K mg base "ways_behind" 1 ["step","ways","wanted","name"] sp_behindw):Callee P w K mg base "first_open_step" 2 ["steps","ways","wanted","name"] sp_open:=by
 refine D.callee zbu (fun _ _ _ _ _ _=>ln4 fun _ _ _ _=>rfl) (fun vs H Q E h => ?_) (fun f cdv A outer s H vs Q E hr h => ?_)
 ·obtain ⟨l,a,b,x,ws,ps,A',B',p,rfl,_⟩:=h
  rfl
 ·obtain ⟨l,a,b,x,ws,ps,A',B',p,rfl,hl,st,hpl,hps,ha,hb,hf,q⟩:=h
  have S:=zbu
  have hlw:=st.length
  refine ⟨_,zaf (zam (zaM zay (zaS (own := ["step"]) (caps := [(1,"ways"),(2,"wanted"),(3,"name")]) rfl ⟨rfl,rfl,rfl,rfl,⟨⟨rfl,rfl,.inl rfl⟩,⟨rfl,rfl,.inl rfl⟩,⟨rfl,rfl,.inl rfl⟩,trivial⟩⟩ (zav (pv 0)) (fun _ _ _ _ _ _=>zai (i:=0) (zaz (by decide +kernel)) rfl (Am rfl)) (fun _ _ _ _ _ _=>zcd (zas zfi (zaH C_ways_behind (hr.mono (by decide)) rfl (zaa (pv 0) (zaa (pv 1) (zaa (pv 2) (zaa (pv 3) zae))))) (zad) (zax _))) (fun _ _ _ _ _ _=>pv 0)) (zad) (fun _ _=>rfl))),?_⟩
  refine ⟨_,rfl,_,rfl,⟨_,SqL.of hl⟩,fun D hD => ?_⟩
  have hne:∀ i,i < ws.length->ws.getD i .non ≠ .ref D:=fun i hi z=>by
   obtain ⟨qa,e1,e2⟩:=st.get (A8 (show i < ps.length by omega))
   rw [Ak,e1] at z
   cases z
   rw [hD] at e2
   cases e2
  refine zgg (capv := [some (.ref a),some (.ref b),some (.str x)]) (by rfl) (zak K l ws) (big (by omega)) hD (fun H' s'=>SqL.of (s' _ _ hl)) (fun i=>decide (0 < bh x A' B' (ps.getD i ("",0)))) (fun i=>ws.getD i .non) (fun i hi _=>hne i hi) ?_ ?_ ?_
  ·intro i y hy H' R s' h
   have hi:i < ps.length:=by rw [<- hlw]; exact (Ar.mp hy).1
   obtain ⟨qa,e1,e2⟩:=st.get (A8 hi)
   rw [hy] at e1
   cases e1
   obtain ⟨h0,h1⟩:=hps ps[i] (Cv hi)
   refine ⟨_,rfl,_,rfl,_,rfl,_,rfl,qa,a,b,x,ps[i],A',B',rfl,s' _ _ e2,h0,h1,s' _ _ ha,s' _ _ hb,_,_,rfl,rfl,_,rfl,?_⟩
   have:=h H' (Same.refl _)
   have e:decide (0 < bh x A' B' (ps.getD i ("",0)))=decide ((0:Int) < ((bh x A' B' ps[i]:Nat):Int)):=by
    rw [Ak,A8 hi,decide_eq_decide]
    show 0 < bh x A' B' ps[i] ↔ _
    omega
   rw [e] at this
   exact this
  ·intro i y hy _ H' R s' h
   refine ⟨_,rfl,?_⟩
   have:=h H' (Same.refl _)
   rw [Ak,hy] at this
   exact this
  ·intro H' s' e
   obtain ⟨i,h1,h2⟩:=find_filterO (d:=(("",0):Str×Int)) hf
   rw [hlw] at e
   obtain ⟨qa,e1,e2⟩:=st.get h2
   refine ⟨_,_,_,_,rfl,rfl,SqL.of e,zaA (j:=0) ?_,q qa H' s' (s' _ _ e2)⟩
   rw [Af,h1,Cu,Ak,e1]
   rfl
noncomputable def sp_layf (ea:Nat->A4):Sp:=fun vs H Q E=>∃ (a wa wb:A4) (x:Str) (ts ws ws':List V) (C:Combs) (n:Nat) (B:Nat->Nat->Nat),vs = [.ref a,.ref wa,.ref wb,.str x]/\H a=some (.lst ts)/\TabR H ts C/\GC C/\C.length<=8/\n<=200/\H wa=some (.lst ws)/\WaysR (fun _=>True) H ws (Wy C) n/\H wb=some (.lst ws')/\WaysR (fun _=>True) H ws' B n/\Sel C x B /\
 (if 0 < B n 0 then ∀ (r:A4) (wl:List V) (H':Hp),Same H H'->H r=none->H' r=some (.lst wl)->LaysR H' wl (fnm C x B n) n->Q (.ref r) H' else E (.ref (ea 14)) none H)
theorem zcS:FnScope ["table","ways","wanted","name","left","layings","shape","place","step"] ["table","ways","wanted","name"] (defScope s_lay_first):=⟨rfl,rfl,rfl,by decide +kernel,rfl,by decide +kernel,by decide +kernel⟩
theorem ok_layf {ea:Nat->A4} (D:DefAt K mg "lay_first" s_lay_first) (T:Bn mg) (O_NoFilling:Err K mg "NoFilling" (ea 14)) (C_first_open_step:Callee P w K mg base "first_open_step" 2 ["steps","ways","wanted","name"] sp_open):Callee1 P w K mg base "lay_first" 3 ["table","ways","wanted","name"] (sp_layf ea):=by
 refine D.callee1 zcS (fun _ _ _ _ _ _=>ln4 fun _ _ _ _=>rfl) (fun vs H Q E h => ?_) (fun f cdv A outer s H vs Q E hr h => ?_)
 ·obtain ⟨a,wa,wb,x,ts,ws,ws',C,n,B,rfl,_⟩:=h
  rfl
 ·obtain ⟨a,wa,wb,x,ts,ws,ws',C,n,B,rfl,ha,tb,gc,h8,hn,hwa,wr,hwb,wr',sl,q⟩:=h
  have S:=zcS
  have elen:((ws.length:Nat):Int) - 1=((n:Nat):Int):=by rw [wr.1]; omega
  refine ⟨_,zab (zaj (i:=4) S.nd rfl (Am rfl) (zar zdU (zal zat rfl T.n_len Bx (zaa (pv 1) zae)) (zad)))
  (zab (zaJ (zas zcV (zaM zay (zaM zay (pv 2) (pv 4) (fun _ _=>rfl)) (zad) (fun _ _=>rfl)) (zad) (zax _))
   (zaf (zbd O_NoFilling rfl (zaa (za4) zae)))
   (zap))
  (zab (zaj (i:=5) S.nd rfl (Am rfl) (za1 (zae)))
  (zab (zaj (i:=6) S.nd rfl (Am rfl) (zad))
  (zab (zaZ Lu rfl (zbf rfl T.n_range (zaa (pv 4) zae)) (zai (i:=7) S.nd rfl (Am rfl))
   (zab (zaj (i:=4) S.nd rfl (Am rfl) (zar zdU (pv 4) (zad)))
   (zab (zaj (i:=8) S.nd rfl (Am rfl) (zaH C_first_open_step (hr.mono (by decide)) rfl (zaa (zaM zay (pv 0) (pv 6) (fun _ _=>rfl)) (zaa (zaM zay (pv 1) (pv 4) (fun _ _=>rfl)) (zaa (zaM zay (pv 2) (pv 4) (fun _ _=>rfl)) (zaa (pv 3) zae))))))
   (zbF (zaJ (zas zhn (zaM zbY (pv 8) (zad) (fun _ _=>rfl)) (za4) (zax _))
    (zaf (za7 (zdF C2 Ca C9 zaV (pv 5) (zaa (zbm (zaa (pv 7) (zaa (zaM zbY (pv 8) (zad) (fun _ _=>rfl)) zae))) zae))))
    (zap))
   (zbF (zaJ (zas zcV (zaM zbY (pv 8) (zad) (fun _ _=>rfl)) (pv 3) (zax _))
    (zaf (zaj (i:=2) S.nd rfl (Am rfl) (pv 1)))
    (zap))
   (zaf (zaj (i:=6) S.nd rfl (Am rfl) (zaM zbY (pv 8) (zad) (fun _ _=>rfl)))))))))
  (zaf (zam (pv 5))))))),?_⟩
  refine ⟨_,rfl,_,_,rfl,.inl (SqL.of hwa),_,_,rfl,rfl,?_⟩
  obtain ⟨qn,eqn,_,hqn⟩:=wr'.2 n (Ac _)
  refine ⟨_,rfl,_,rfl,_,_,_,_,rfl,rfl,SqL.of hwb,by rw [elen]; exact zaA eqn,_,_,_,_,rfl,rfl,SqL.of hqn,(show atI (wrow (B n)) ((0:Nat):Int)=_ from zfd _ (by decide)),rfl,_,rfl,?_⟩
  by_cases hb:0 < B n 0
  case neg =>
   rw [if_neg hb] at q
   have:B n 0=0:=by omega
   rw [this,decide_eq_true (show V.int ((0:Nat):Int)=V.int 0 from rfl)]
   exact iteT ⟨bigr rfl,q⟩
  rw [if_pos hb] at q
  rw [decide_eq_false (show ¬ V.int ((B n 0:Nat):Int)=V.int 0 from fun z=>by injection z with z; omega)]
  refine iteF ?_
  refine ⟨bigr rfl,fun r nr => ?_⟩
  have s1:Same H (upd H r (.lst [])):=Same.new nr
  refine ⟨_,rfl,_,rfl,by rw [elen]; omega,by rw [elen]; omega,?_⟩
  have hok:=zgm gc sl hb
  let wd:Bool->A4:=fun b=>if b=true then wa else wb
  rw [elen,show ((n:Nat):Int).toNat=n by omega]
  refine zbA (zaP 0 n) (fun i σ Hx=>Same H Hx/\∃ (wl:List V) (x7 x8:Option V),σ = [some (.ref a),some (.ref wa),some (.ref (wd (fw C x B n i).2)),some (.str x),some (.int ((n - i:Nat):Int)),some (.ref r),some (.int (((fw C x B n i).1:Nat):Int)),x7,x8]/\Hx r=some (.lst wl)/\LaysR Hx wl (fnm C x B n) i) ⟨s1,[],_,_,by rw [M5,<- elen]; rfl,zac,.nil⟩ (fun _ _ _ _ _=>trivial) ?_ ?_
  ·rintro i y σ Hx hx ⟨sx,wl,x7,x8,rfl,hrx,lr⟩
   obtain ⟨hi,rfl⟩:=zbC hx
   rw [Fz]
   obtain ⟨h1,h2⟩:=hok i (by omega)
   obtain ⟨g1,g2,g3⟩:=zdy gc sl hb hi
   have hnx:=(hok (i + 1) (by omega)).1
   have e1:((n - i:Nat):Int) - 1=((n - 1 - i:Nat):Int):=by omega
   obtain ⟨qs,wss,t1,t2,t3⟩:=(tb.same sx).2 _ h1
   obtain ⟨qa,a1,_,a2⟩:=wr.2 (n - 1 - i) (by omega)
   have hwd:∃ wsd qb,Hx (wd (fw C x B n i).2)=some (.lst wsd)/\wsd[n - 1 - i]?=some (.ref qb)/\Hx qb=some (.lst (wrow (ro C B (fw C x B n i).2 (n - 1 - i)))):=by
    show ∃ wsd qb,Hx (if (fw C x B n i).2=true then wa else wb)=_/\_/\_
    unfold ro
    cases (fw C x B n i).2 with
    | true=>exact ⟨ws,qa,sx _ _ hwa,a1,sx _ _ a2⟩
    | false =>
     obtain ⟨qb,b1,_,b2⟩:=wr'.2 (n - 1 - i) (by omega)
     exact ⟨ws',qb,sx _ _ hwb,b1,sx _ _ b2⟩
   obtain ⟨wsd,qb,d1,d2,d3⟩:=hwd
   refine ⟨_,rfl,_,_,rfl,rfl,?_⟩
   refine ⟨_,rfl,_,rfl,_,_,_,_,rfl,rfl,SqL.of (sx _ _ ha),zaA t1,_,rfl,_,rfl,_,_,_,_,rfl,rfl,SqL.of (sx _ _ hwa),by rw [e1]; exact zaA a1,_,rfl,_,rfl,_,_,_,_,rfl,rfl,SqL.of d1,by rw [e1]; exact zaA d2,_,rfl,?_⟩
   refine ⟨qs,qa,qb,x,wss,stp C (fw C x B n i).1,Wy C (n - 1 - i),ro C B (fw C x B n i).2 (n - 1 - i),_,rfl,t2,t3,by have:=zdd h8 (fw C x B n i).1; omega,fun p hp=>zcQ gc h1 hp,sx _ _ a2,d3,g1,fun qt H2 s2 hqt => ?_⟩
   dsimp only at hqt
   have lr2:LaysR H2 wl (fnm C x B n) i:=lr.mono fun _ _ e=>s2 _ _ e
   have hr2:=s2 _ _ hrx
   have sx2:=sx.trans s2
   have hwl:=lr2.len
   have nr0:H r=none:=nr
   refine ⟨fun σ Hy=>Same H Hy/\Hy qt=some (.tup [.str (fnm C x B n i),.int (((fw C x B n (i + 1)).1:Nat):Int)])/\∃ wl',Hy r=some (.lst wl')/\LaysR Hy wl' (fnm C x B n) (i + 1) /\ σ = [some (.ref a),some (.ref wa),some (.ref (wd (fw C x B n i).2)),some (.str x),some (.int (((n - i:Nat):Int) - 1)),some (.ref r),some (.int (((fw C x B n i).1:Nat):Int)),some (.int ((i:Nat):Int)),some (.ref qt)],?_,?_⟩
   ·refine ⟨_,rfl,_,_,_,_,rfl,rfl,SqT.of hqt,at0,rfl,_,rfl,?_⟩
    by_cases hz:fnm C x B n i=A5 ""
    ·rw [decide_eq_true (by rw [hz])]
     refine iteF ?_
     exact ⟨sx2,hqt,wl,hr2,lr2.skip hz,rfl⟩
    ·rw [decide_eq_false (fun z=>hz (by injection z))]
     refine iteT ?_
     refine ⟨_,rfl,.inl ⟨rfl,_,SqL.of hr2⟩,_,rfl,_,rfl,_,_,_,_,rfl,rfl,SqT.of hqt,at0,bigr rfl,fun tt ntt => ?_⟩
     have s3:Same H2 (upd H2 tt (.tup [.int ((i:Nat):Int),.str (fnm C x B n i)])):=Same.new ntt
     have htt:upd H2 tt (.tup [.int ((i:Nat):Int),.str (fnm C x B n i)]) tt=some (.tup [.int ((i:Nat):Int),.str (fnm C x B n i)]):=zac
     have hr3:=s3 _ _ hr2
     have hqt3:=s3 _ _ hqt
     have lr3:LaysR (upd H2 tt (.tup [.int ((i:Nat):Int),.str (fnm C x B n i)])) wl (fnm C x B n) i:=lr2.mono fun _ _ e=>s3 _ _ e
     generalize upd H2 tt (.tup [.int ((i:Nat):Int),.str (fnm C x B n i)])=H3 at s3 htt hr3 hqt3 lr3 ⊢
     refine ⟨r,_,_,rfl,rfl,hr3,Ai (by omega:wl.length < 1000) za0,?_⟩
     have kt:∀ qa ys,H3 qa=some (.tup ys)->upd H3 r (.lst (wl ++ [.ref tt])) qa=some (.tup ys):=fun qa ys z=>by rw [zah (fun z2=>by rw [z2,hr3] at z; cases z)]; exact z
     exact ⟨(sx2.trans s3).put nr0,kt _ _ hqt3,_,zac,(lr3.mono kt).snoc hz (kt _ _ htt),rfl⟩
   rintro σ Hy ⟨sy,hqy,wl',hry,lry,rfl⟩
   refine ⟨fun σ Hz=>Hz=Hy /\ σ = [some (.ref a),some (.ref wa),some (.ref (wd (fw C x B n (i + 1)).2)),some (.str x),some (.int (((n - i:Nat):Int) - 1)),some (.ref r),some (.int (((fw C x B n i).1:Nat):Int)),some (.int ((i:Nat):Int)),some (.ref qt)],?_,?_⟩
   ·refine ⟨_,rfl,_,_,_,_,rfl,rfl,SqT.of hqy,at0,_,rfl,rfl,_,rfl,?_⟩
    rw [g2]
    by_cases hz:fnm C x B n i=x
    ·rw [decide_eq_true (show V.str (fnm C x B n i)=V.str x by rw [hz]),decide_eq_true hz,Lz]
     refine iteT ?_
     exact ⟨_,rfl,rfl,rfl⟩
    ·rw [decide_eq_false (show ¬ V.str (fnm C x B n i)=V.str x from fun z=>hz (by injection z)),decide_eq_false hz,Ji]
     refine iteF ?_
     exact ⟨rfl,rfl⟩
   rintro σ Hz ⟨rfl,rfl⟩
   refine ⟨_,rfl,_,_,_,_,rfl,rfl,SqT.of hqy,at1,?_⟩
   refine ⟨sy,wl',some (.int ((i:Nat):Int)),some (.ref qt),?_,hry,lry⟩
   rw [e1,show n - (i + 1)=n - 1 - i by omega]
   rfl
  ·rintro σ Hx ⟨sx,wl,x7,x8,rfl,hrx,lr⟩
   rw [zbl] at lr
   exact ⟨_,rfl,q r wl Hx sx nr hrx lr⟩
noncomputable def sp_chk (ea:Nat->A4):Sp:=fun vs H Q E=>∃ n,vs = [.int n]/\(if 0<=n/\n<=200 then Q .non H else E (.ref (ea 13)) none H)
theorem zbS:FnScope ["length"] ["length"] (defScope s_check_length):=⟨rfl,rfl,rfl,by decide +kernel,rfl,by decide +kernel,by decide +kernel⟩
theorem ok_chk {ea:Nat->A4} (D:DefAt K mg "check_length" s_check_length) (T:Bn mg) (V_MOST_FILLED:∃ t,mg "MOST_FILLED" = some (.int 200 t)) (O_BadLength:Err K mg "BadLength" (ea 13)):Callee1 P w K mg base "check_length" 1 ["length"] (sp_chk ea):=by
 refine D.callee1 zbS (fun _ _ _ _ _ _=>ln1 fun _=>rfl) (fun vs H Q E h => ?_) (fun f cdv A outer s H vs Q E hr h => ?_)
 ·obtain ⟨n,rfl,_⟩:=h
  rfl
 ·obtain ⟨n,rfl,q⟩:=h
  have S:=zbS
  refine ⟨_,zaf (zaJ (zbe (zcZ zdl zdl (zad) (pv 0) (zbG rfl V_MOST_FILLED)))
   (zaf (zbd O_BadLength rfl (zaa (za4) zae)))
   (zap)),?_⟩
  refine ⟨_,rfl,_,_,rfl,rfl,_,rfl,?_⟩
  refine ite2 (fun h0 => ?_) (fun h0 => ?_)
  rotate_left
  ·have h0:¬ (0:Int)<=n:=by simpa using h0
   rw [if_neg (fun z=>h0 z.1)] at q
   exact ⟨_,rfl,iteT ⟨bigr rfl,q⟩⟩
  have h0:(0:Int)<=n:=by simpa using h0
  refine ⟨_,_,rfl,rfl,_,rfl,?_⟩
  by_cases h1:n<=200
  case neg =>
   rw [if_neg (fun z=>h1 z.2)] at q
   rw [decide_eq_false h1]
   exact iteT ⟨bigr rfl,q⟩
  rw [if_pos ⟨h0,h1⟩] at q
  rw [decide_eq_true h1]
  exact iteF q
noncomputable def sp_ffill (ea:Nat->A4) (C:A4):Sp:=fun vs H Q E=>∃ b l G cs past n,vs = [.ref b,.int n]/\Bk C G H b l cs past /\
 (if 0<=n/\n<=200 then (if 0 < Wy (srt cs) n.toNat 0 then ∀ (r:A4) (wl:List V) (H':Hp),Same H H'->H r=none->H' r=some (.lst wl)->LaysR H' wl (fnm (srt cs) (A5 "") (Wy (srt cs)) n.toNat) n.toNat->Q (.ref r) H' else ∀ H',Same H H'->E (.ref (ea 14)) none H') else E (.ref (ea 13)) none H)
theorem zbN:FnScope ["book","length","table","ways"] ["book","length"] (defScope s_first_filling):=⟨rfl,rfl,rfl,by decide +kernel,rfl,by decide +kernel,by decide +kernel⟩
theorem ok_ffill {ea:Nat->A4} {C:A4} (D:DefAt K mg "first_filling" s_first_filling) (T:Bn mg) (C_check_length:Callee1 P w K mg base "check_length" 1 ["length"] (sp_chk ea)) (C_step_table:Callee1 P w K mg base "step_table" 4 ["book"] (sp_table C)) (C_ways_to_close:Callee P w K mg base "ways_to_close" 3 ["table","length"] sp_close) (C_lay_first:Callee1 P w K mg base "lay_first" 3 ["table","ways","wanted","name"] (sp_layf ea)):Callee1 P w K mg base "first_filling" 5 ["book","length"] (sp_ffill ea C):=by
 refine D.callee1 zbN (fun _ _ _ _ _ _=>ln2 fun _ _=>rfl) (fun vs H Q E h => ?_) (fun f cdv A outer s H vs Q E hr h => ?_)
 ·obtain ⟨b,l,G,cs,past,n,rfl,_⟩:=h
  rfl
 ·obtain ⟨b,l,G,cs,past,n,rfl,B,q⟩:=h
  have S:=zbN
  obtain ⟨gc,h8⟩:=zde B
  refine ⟨_,zab (za7 (zbw C_check_length (hr.mono (by decide)) (by first | exact pass_try | exact zbz | exact zaK) rfl (zaa (pv 1) zae)))
  (zab (zaj (i:=2) S.nd rfl (Am rfl) (zbw C_step_table (hr.mono (by decide)) (by first | exact pass_try | exact zbz | exact zaK) rfl (zaa (pv 0) zae)))
  (zab (zaj (i:=3) S.nd rfl (Am rfl) (zaH C_ways_to_close (hr.mono (by decide)) rfl (zaa (pv 2) (zaa (pv 1) zae))))
  (zaf (zam (zbw C_lay_first (hr.mono (by decide)) (by first | exact pass_try | exact zbz | exact zaK) rfl (zaa (pv 2) (zaa (pv 3) (zaa (pv 3) (zaa (za4) zae))))))))),?_⟩
  refine ⟨_,rfl,n,rfl,?_⟩
  by_cases hn:0<=n/\n<=200
  case neg =>
   rw [if_neg hn] at q ⊢
   exact q
  rw [if_pos hn] at q ⊢
  obtain ⟨k,rfl⟩:=Fl hn.1
  rw [show ((k:Nat):Int).toNat=k by omega] at q
  refine ⟨_,rfl,b,l,G,cs,past,rfl,B,fun a H1 ts s1 na ha tb => ?_⟩
  refine ⟨_,rfl,_,rfl,a,ts,srt cs,k,rfl,ha,tb,gc,h8,by omega,fun r ws H2 s2 hr2 wr => ?_⟩
  have s12:=s1.trans s2
  refine ⟨_,rfl,_,rfl,_,rfl,a,r,r,A5 "",ts,ws,ws,srt cs,k,Wy (srt cs),rfl,s2 _ _ ha,tb.same s2,gc,h8,by omega,hr2,wr,hr2,wr,zgs _ _,?_⟩
  by_cases hw:0 < Wy (srt cs) k 0
  ·rw [if_pos hw] at q ⊢
   intro p wl H3 s3 np hp lr
   exact q p wl H3 (s12.trans s3) (s12.free np) hp lr
  ·rw [if_neg hw] at q ⊢
   exact q H2 s12
noncomputable def sp_count (ea:Nat->A4) (C:A4):Sp:=fun vs H Q E=>∃ b l G cs past n,vs = [.ref b,.int n]/\Bk C G H b l cs past /\
 (if 0<=n/\n<=200 then ∀ H',Same H H'->Q (.int ((Wy (srt cs) n.toNat 0:Nat):Int)) H' else E (.ref (ea 13)) none H)
theorem zbB:FnScope ["book","length"] ["book","length"] (defScope s_count_fillings):=⟨rfl,rfl,rfl,by decide +kernel,rfl,by decide +kernel,by decide +kernel⟩
theorem ok_count {ea:Nat->A4} {C:A4} (D:DefAt K mg "count_fillings" s_count_fillings) (T:Bn mg) (C_check_length:Callee1 P w K mg base "check_length" 1 ["length"] (sp_chk ea)) (C_step_table:Callee1 P w K mg base "step_table" 4 ["book"] (sp_table C)) (C_ways_to_close:Callee P w K mg base "ways_to_close" 3 ["table","length"] sp_close):Callee1 P w K mg base "count_fillings" 5 ["book","length"] (sp_count ea C):=by
 refine D.callee1 zbB (fun _ _ _ _ _ _=>ln2 fun _ _=>rfl) (fun vs H Q E h => ?_) (fun f cdv A outer s H vs Q E hr h => ?_)
 ·obtain ⟨b,l,G,cs,past,n,rfl,_⟩:=h
  rfl
 ·obtain ⟨b,l,G,cs,past,n,rfl,B,q⟩:=h
  have S:=zbB
  obtain ⟨gc,h8⟩:=zde B
  refine ⟨_,zab (za7 (zbw C_check_length (hr.mono (by decide)) (by first | exact pass_try | exact zbz | exact zaK) rfl (zaa (pv 1) zae)))
  (zaf (zam (zaM zay (zaM zay (zaH C_ways_to_close (hr.mono (by decide)) rfl (zaa (zbw C_step_table (hr.mono (by decide)) (by first | exact pass_try | exact zbz | exact zaK) rfl (zaa (pv 0) zae)) (zaa (pv 1) zae))) (pv 1) (fun _ _=>rfl)) (zad) (fun _ _=>rfl)))),?_⟩
  refine ⟨_,rfl,n,rfl,?_⟩
  by_cases hn:0<=n/\n<=200
  case neg =>
   rw [if_neg hn] at q ⊢
   exact q
  rw [if_pos hn] at q ⊢
  obtain ⟨k,rfl⟩:=Fl hn.1
  rw [show ((k:Nat):Int).toNat=k by omega] at q
  refine ⟨_,rfl,b,l,G,cs,past,rfl,B,fun a H1 ts s1 na ha tb => ?_⟩
  refine ⟨_,rfl,a,ts,srt cs,k,rfl,ha,tb,gc,h8,by omega,fun r ws H2 s2 hr2 wr => ?_⟩
  obtain ⟨qk,e1,_,e2⟩:=wr.2 k (Ac _)
  exact ⟨_,rfl,_,_,_,_,rfl,rfl,SqL.of hr2,zaA e1,_,_,_,_,rfl,rfl,SqL.of e2,(show atI (wrow (Wy (srt cs) k)) ((0:Nat):Int)=_ from zfd _ (by decide)),q H2 (s1.trans s2)⟩
noncomputable def sp_at (K:Av):Sp:=fun vs H Q _=>∃ (a:A4) (ns:List Int) (k:Int),vs = [.ref a,.int k]/\SqL K H a (ns.map V.int)/\0<=k/\Q (.int (ns.getD k.toNat 0)) H
theorem zhQ:FnScope ["_law_script","_law_k"] ["_law_script","_law_k"] (defScope s_at):=⟨rfl,rfl,rfl,by decide +kernel,rfl,by decide +kernel,by decide +kernel⟩
theorem ok_at (D:DefAt K mg "_law_at" s_at) (T:Bn mg):Callee P w K mg base "_law_at" 1 ["_law_script","_law_k"] (sp_at K):=by
 refine D.callee zhQ (fun _ _ _ _ _ _=>ln2 fun _ _=>rfl) (fun vs H Q E h => ?_) (fun f cdv A outer s H vs Q E hr h => ?_)
 ·obtain ⟨a,ns,k,rfl,_⟩:=h
  rfl
 ·obtain ⟨a,ns,k,rfl,hS,h0,q⟩:=h
  have S:=zhQ
  refine ⟨_,zab (zaJ (zas zhN (pv 1) (zal zat rfl T.n_len Bx (zaa (pv 0) zae)) (zax _))
   (zaf (zam (zaM zay (pv 0) (pv 1) (fun _ _=>rfl))))
   (zap))
  (zaf (zam (zad))),?_⟩
  refine ⟨_,rfl,_,rfl,_,_,rfl,.inl hS,_,_,rfl,rfl,_,rfl,?_⟩
  refine ite2 (fun hc => ?_) (fun hc => ?_)
  ·have hc:=of_decide_eq_true hc
   rw [A2] at hc
   exact ⟨_,rfl,_,rfl,_,_,_,_,rfl,rfl,hS,zhK h0 hc,q⟩
  ·have hc:¬ k < (ns.length:Int):=fun z=>hc (decide_eq_true (by rw [A2]; exact z))
   rw [getD_big hc] at q
   exact q
noncomputable def mixed (c k:Int):Int:=((c + 7919 * k + 1) * 48271 % 2147483647 + 104729 * k + 3) * 69621 % 2147483647
noncomputable def sp_mixed:Sp:=fun vs H Q _=>∃ (c k:Int),vs = [.int c,.int k]/\Q (.int (mixed c k)) H
theorem zfQ:FnScope ["_law_cell","_law_k","_law_once"] ["_law_cell","_law_k"] (defScope s_mixed):=⟨rfl,rfl,rfl,by decide +kernel,rfl,by decide +kernel,by decide +kernel⟩
theorem ok_mixed (D:DefAt K mg "_law_mixed" s_mixed) (T:Bn mg):Callee P w K mg base "_law_mixed" 1 ["_law_cell","_law_k"] sp_mixed:=by
 refine D.callee zfQ (fun _ _ _ _ _ _=>ln2 fun _ _=>rfl) (fun vs H Q E h => ?_) (fun f cdv A outer s H vs Q E hr h => ?_)
 ·obtain ⟨c,k,rfl,_⟩:=h
  rfl
 ·obtain ⟨c,k,rfl,q⟩:=h
  have S:=zfQ
  refine ⟨_,zab (zaj (i:=2) S.nd rfl (Am rfl) (zar za5 (zar zeI (zar zaU (zar zaU (pv 0) (zar zeI (zad) (pv 1))) (zad)) (zad)) (zad)))
  (zaf (zam (zar za5 (zar zeI (zar zaU (zar zaU (pv 2) (zar zeI (zad) (pv 1))) (zad)) (zad)) (zad)))),?_⟩
  refine ⟨_,rfl,_,rfl,_,_,rfl,rfl,.inl ⟨by decide,by decide⟩,_,_,rfl,rfl,_,_,rfl,rfl,_,_,rfl,rfl,.inr ⟨by decide,by decide⟩,_,_,rfl,rfl,by show (0:Int) < 2147483647; decide,?_⟩
  exact ⟨_,rfl,_,rfl,_,_,rfl,rfl,.inl ⟨by decide,by decide⟩,_,_,rfl,rfl,_,_,rfl,rfl,_,_,rfl,rfl,.inr ⟨by decide,by decide⟩,_,_,rfl,rfl,by show (0:Int) < 2147483647; decide,q⟩
noncomputable def sp_whole:Sp:=fun vs H Q _=>∃ (i:Int),vs = [.int i]/\Q (.bl true) H
theorem zfN:FnScope ["_law_found"] ["_law_found"] (defScope s_whole):=⟨rfl,rfl,rfl,by decide +kernel,rfl,by decide +kernel,by decide +kernel⟩
theorem ok_whole (D:DefAt K mg "_law_whole" s_whole) (T:Bn mg):Callee P w K mg base "_law_whole" 1 ["_law_found"] sp_whole:=by
 refine D.callee zfN (fun _ _ _ _ _ _=>ln1 fun _=>rfl) (fun vs H Q E h => ?_) (fun f cdv A outer s H vs Q E hr h => ?_)
 ·obtain ⟨i,rfl,_⟩:=h
  rfl
 ·obtain ⟨i,rfl,q⟩:=h
  have S:=zfN
  refine ⟨_,zaf (zam (zeG (zal (zb7 "int") rfl T.n_isinstance Fo (zaa (pv 0) (zaa (zcK (v := .ty "int") rfl T.n_int boot_int rfl) zae))) (zeF (pe_not (zal (zb7 "bool") rfl T.n_isinstance Fo (zaa (pv 0) (zaa (zcK (v := .ty "bool") rfl T.n_bool boot_bool rfl) zae))))))),?_⟩
  refine ⟨_,rfl,_,_,true,rfl,.int i,rfl,_,rfl,?_⟩
  refine iteT ?_
  exact ⟨_,rfl,_,_,false,rfl,.int i,rfl,_,rfl,q⟩
noncomputable def sp_word:Sp:=fun vs H Q _=>∃ (c b:Int),vs = [.int c,.int b]/\(b=26\/b=2)/\∀ x:Str,isName x=true->Q (.str x) H
theorem zgt:FnScope ["_law_cell","_law_base","_law_word_here","_law_rest","_law_k"] ["_law_cell","_law_base"] (defScope s_word):=⟨rfl,rfl,rfl,by decide +kernel,rfl,by decide +kernel,by decide +kernel⟩
theorem ok_word (D:DefAt K mg "_law_word" s_word) (T:Bn mg):Callee P w K mg base "_law_word" 1 ["_law_cell","_law_base"] sp_word:=by
 refine D.callee zgt (fun _ _ _ _ _ _=>ln2 fun _ _=>rfl) (fun vs H Q E h => ?_) (fun f cdv A outer s H vs Q E hr h => ?_)
 ·obtain ⟨c,b,rfl,_⟩:=h
  rfl
 ·obtain ⟨c,b,rfl,hb,q⟩:=h
  have S:=zgt
  have b0:0 < b:=by omega
  have b1:b<=26:=by omega
  have m0:=Fg c (show (6:Int)≠0 by decide)
  have m1:=Es c p6
  refine ⟨_,zab (zaj (i:=2) S.nd rfl (Am rfl) (za4))
  (zab (zaj (i:=3) S.nd rfl (Am rfl) (zar zbo (pv 0) (zad)))
  (zab (zaZ Bl rfl (zbf rfl T.n_range (zaa (zar zaU (zad) (zar za5 (pv 0) (zad))) zae)) (zai (i:=4) S.nd rfl (Am rfl))
   (zab (zaj (i:=2) S.nd rfl (Am rfl) (zar op_add_str (pv 2) (zaM ix_str (za4) (zar za5 (pv 3) (pv 1)) (fun _ _=>rfl))))
   (zaf (zaj (i:=3) S.nd rfl (Am rfl) (zar zbo (pv 3) (pv 1))))))
  (zaf (zam (pv 2))))),?_⟩
  refine ⟨_,rfl,_,_,rfl,rfl,⟨p6,by decide⟩,?_⟩
  refine ⟨_,rfl,_,_,rfl,rfl,p6,_,_,rfl,rfl,_,rfl,?_,?_,?_⟩
  ·show -(2 ^ 62)<=1 + c % 6
   omega
  ·show 1 + c % 6 < 2 ^ 62
   omega
  refine zbA (zaP 0 (1 + c % 6).toNat) (fun i σ H'=>H'=H/\∃ (x:Str) (r:Int) (x4:Option V),σ = [some (.int c),some (.int b),some (.str x),some (.int r),x4]/\x.length=i/\x.cps.toList.all small=true) ⟨rfl,Str.ofString "",_,_,rfl,by decide,by decide⟩ (fun _ _ _ _ _=>trivial) ?_ ?_
  ·rintro i x σ H2 hx ⟨rfl,y,r,x4,rfl,hl,ha⟩
   obtain ⟨hi,rfl⟩:=zbC hx
   obtain ⟨ch,hch,hs⟩:=abc_at (k:=r % b) (Int.emod_nonneg _ (by omega)) (by have:=Int.emod_lt_of_pos r b0; omega)
   refine ⟨_,rfl,_,rfl,_,rfl,_,_,rfl,rfl,b0,_,_,_,rfl,rfl,?_,hch,_,_,rfl,rfl,?_,?_⟩
   ·show abc.length<=sizeLine
    rw [zfA]; decide
   ·rw [zeg]
    exact big (by omega)
   refine ⟨_,rfl,_,rfl,_,_,rfl,rfl,⟨b0,by omega⟩,?_⟩
   refine ⟨rfl,_,_,_,rfl,by rw [len_app,hl,zeg],?_⟩
   rw [app_list,List.all_append,ha]
   show (true && [ch].all small)=true
   simp [hs]
  ·rintro σ H2 ⟨rfl,y,r,x4,rfl,hl,ha⟩
   rw [A2,Aw] at hl
   exact ⟨_,rfl,q y (zgL (by omega) (by omega) ha)⟩
noncomputable def sp_spare (K:Av):Sp:=fun vs H Q _=>∃ (x:Str) (u:A4) (us:List Str),vs = [.str x,.ref u]/\isName x=true/\SqL K H u (us.map V.str)/\us.length<=25/\∀ y H',Same H H'->isName y=true->y ∉ us->Q (.str y) H'
noncomputable def notUsed (us:List Str) (v:V):Bool:=match v with
 | .str y => !decide (y∈us)
 | _=>false
theorem zfP:FnScope ["_law_word_here","_law_used"] ["_law_word_here","_law_used"] (defScope s_spare):=⟨rfl,rfl,rfl,by decide +kernel,rfl,by decide +kernel,by decide +kernel⟩
theorem ok_spare (D:DefAt K mg "_law_spare" s_spare) (T:Bn mg):Callee P w K mg base "_law_spare" 1 ["_law_word_here","_law_used"] (sp_spare K):=by
 refine D.callee zfP (fun _ _ _ _ _ _=>ln2 fun _ _=>rfl) (fun vs H Q E h => ?_) (fun f cdv A outer s H vs Q E hr h => ?_)
 ·obtain ⟨x,u,us,rfl,_⟩:=h
  rfl
 ·obtain ⟨x,u,us,rfl,hx,hS,hl,q⟩:=h
  have S:=zfP
  refine ⟨_,zab (zaJ (zas zbX (pv 0) (pv 1) (by with_unfolding_all rfl))
   (zaf (zam (pv 0)))
   (zap))
  (zaf (zam (zaM zay (zaS (own := ["_law_one"]) (caps := [(1,"_law_used")]) rfl ⟨rfl,rfl,rfl,rfl,⟨⟨rfl,rfl,.inl rfl⟩,trivial⟩⟩ (zhv (za4)) (fun _ _ _ _ _ _=>zai (i:=0) (zaz (by decide +kernel)) rfl (Am rfl)) (fun _ _ _ _ _ _=>zcd (zas (op_notIn_seq' K rfl) (pv 0) (pv 1) (by with_unfolding_all rfl))) (fun _ _ _ _ _ _=>pv 0)) (zad) (fun _ _=>rfl)))),?_⟩
  refine ⟨_,rfl,_,rfl,_,_,rfl,.inl hS,rfl,zeY us,_,rfl,?_⟩
  rw [if_pos rfl,zgU]
  refine ite2 (fun hc => ?_) (fun hc => ?_)
  ·have h0:x ∉ us:=by simpa using hc
   exact ⟨_,rfl,q x H (Same.refl H) hx h0⟩
  ·refine ⟨_,rfl,fun D hD => ?_⟩
   refine zbQ (capv := [some (.ref u)]) (L:=abc.cps.toList.map sgn) (by rfl) (zeV abc) (by rw [A2,zcG,zfA]; decide) hD ?_ (notUsed us) (fun v=>v) ?_ ?_ ?_
   ·exact fun _ _=>trivial
   ·intro v hv H' R s' h
    obtain ⟨c,hc,rfl⟩:=A7.mp hv
    refine ⟨_,rfl,_,rfl,_,_,rfl,.inl (s'.seq hS),rfl,zeY us,_,rfl,?_⟩
    rw [if_pos rfl]
    show R (!inV (V.str ⟨#[c]⟩) (us.map V.str)) H'
    rw [zgU]
    exact h H' (Same.refl _)
   ·intro v hv hp H' R s' h
    exact ⟨_,rfl,h H' (Same.refl _)⟩
   ·intro H' s' e
    obtain ⟨c,hc,hn⟩:=spare_some us hl
    have hm:sgn c∈((abc.cps.toList.map sgn).filter (notUsed us)).map fun v=>v:=by
     rw [Jo]
     exact Ax.mpr ⟨A7.mpr ⟨c,hc,rfl⟩,by show (!decide ((⟨#[c]⟩:Str)∈us))=true; simp [hn]⟩
    have hall:∀ v∈((abc.cps.toList.map sgn).filter (notUsed us)).map fun v=>v,∃ d,v=sgn d/\small d=true/\(⟨#[d]⟩:Str) ∉ us:=fun v hv=>by
     rw [Jo] at hv
     obtain ⟨h1,h2⟩:=Ax.mp hv
     obtain ⟨d,hd,rfl⟩:=A7.mp h1
     have h2:(!decide ((⟨#[d]⟩:Str)∈us))=true:=h2
     exact ⟨d,rfl,abc_small hd,by simpa using h2⟩
    generalize (((abc.cps.toList.map sgn).filter (notUsed us)).map fun v=>v)=l at e hm hall
    cases l with
    | nil=>cases hm
    | cons v l =>
     obtain ⟨d,rfl,hs,hd⟩:=hall v Ah
     exact ⟨_,_,_,_,rfl,rfl,SqL.of e,(show atI (sgn d :: l) ((0:Nat):Int)=some (sgn d) from zaA rfl),q _ H' s' (name_one hs) hd⟩
noncomputable def Rows (H:Hp):List V->List (List Int)->Prop
 | [],[]=>True
 | v :: vs,r :: rs=>(∃ p,v = .ref p/\H p=some (.tup (r.map V.int)))/\Rows H vs rs
 | _,_=>False
theorem Rows.same {H H':Hp} (s:Same H H'):∀ {vs:List V} {rs:List (List Int)},Rows H vs rs->Rows H' vs rs
 | [],[],_=>trivial
 | _ :: _,_ :: _,⟨⟨p,e,h⟩,r⟩=>⟨⟨p,e,s _ _ h⟩,Rows.same s r⟩
 | [],_ :: _,h=>h.elim
 | _ :: _,[],h=>h.elim
theorem Rows.snoc {H:Hp} {p:A4} {r:List Int} (h:H p=some (.tup (r.map V.int))):∀ {vs:List V} {rs:List (List Int)},Rows H vs rs->Rows H (vs ++ [.ref p]) (rs ++ [r])
 | [],[],_=>⟨⟨p,rfl,h⟩,trivial⟩
 | _ :: _,_ :: _,⟨a,b⟩=>⟨a,Rows.snoc h b⟩
 | [],_ :: _,x=>x.elim
 | _ :: _,[],x=>x.elim
theorem Rows.get {H:Hp}:∀ {vs:List V} {rs:List (List Int)} {i:Nat} {r:List Int},Rows H vs rs->rs[i]?=some r->∃ p,vs[i]?=some (.ref p)/\H p=some (.tup (r.map V.int))
 | [],[],_,_,_,e=>by simp at e
 | _ :: _,_ :: _,0,_,⟨⟨p,e,h⟩,_⟩,z=>by
  simp at z
  subst z
  exact ⟨p,by rw [e]; rfl,h⟩
 | _ :: _,_ :: _,i + 1,_,⟨_,b⟩,z=>Rows.get (i:=i) b (by simpa using z)
 | [],_ :: _,_,_,x,_=>x.elim
 | _ :: _,[],_,_,x,_=>x.elim
structure Mr (H0 H:Hp) (vs:List V) (rs:List (List Int)):Prop where
 same:Same H0 H
 rows:Rows H vs rs
theorem Mr.add {H0 H:Hp} {vs:List V} {rs:List (List Int)} (m:Mr H0 H vs rs) (r:List Int) {p:A4} (n:H p=none):Mr H0 (upd H p (.tup (r.map V.int))) (vs ++ [.ref p]) (rs ++ [r]) :=
 ⟨m.same.put (m.same.free n),Rows.snoc zac (m.rows.same (Same.new n))⟩
theorem Mr.lstE {H0 H:Hp} {vs:List V} {rs:List (List Int)} (m:Mr H0 H vs rs) {o:HO} {p:A4} (n:H p=none):Mr H0 (upd H p o) vs rs/\upd H p o p=some o:=⟨⟨m.same.put (m.same.free n),m.rows.same (Same.new n)⟩,zac⟩
theorem Mr.lst {H0 H:Hp} {vs:List V} {rs:List (List Int)} (m:Mr H0 H vs rs) {o:HO} {p:A4} (n:H p=none):Mr H0 (upd H p o) vs rs:=⟨m.same.put (m.same.free n),m.rows.same (Same.new n)⟩
noncomputable def menuRows:List (List Int) := [[45],[131,133],[193,65],[71,161,99],[77,131,133],[13,49],[153,111,131],[197,131,173,53],[83,125,137,173,243],[185,193,215,87,243],[5],[175,209,67,129,21,229,49,83],[203,243,129,167,153,223,207,243],[197,147,131],[197,131,177],[31,255],[3,3],[119,225,131,109]]
noncomputable def MenuRow (xs:List Int):Prop:=(1<=xs.length/\xs.length<=8)/\∀ x∈xs,x % 2=1/\0<=x/\x < 256
theorem menu_ok {i:Nat} {r:List Int} (h:menuRows[i]?=some r):MenuRow r:=by
 have all:∀ r∈menuRows,(1<=r.length/\r.length<=8)/\∀ x∈r,x % 2=1/\0<=x/\x < 256:=by decide
 exact all r (Be h)
noncomputable def sp_menu:Sp:=fun vs H Q _=>∃ (k:Int),vs = [.int k]/\∀ p xs H',Same H H'->H' p=some (.tup (xs.map V.int))->MenuRow xs->Q (.ref p) H'
theorem zgu:FnScope ["_law_k","_law_rows"] ["_law_k"] (defScope s_menu):=⟨rfl,rfl,rfl,by decide +kernel,rfl,by decide +kernel,by decide +kernel⟩
theorem ok_menu (D:DefAt K mg "_law_menu" s_menu) (T:Bn mg):Callee P w K mg base "_law_menu" 1 ["_law_k"] sp_menu:=by
 refine D.calleeQ zgu (fun _ _ _ _ _ _=>ln1 fun _=>rfl) (fun vs H Q E h => ?_) (fun f cdv A outer s H vs Q E hr h => ?_)
 ·obtain ⟨k,rfl,_⟩:=h
  rfl
 ·obtain ⟨k,rfl,q⟩:=h
  have S:=zgu
  refine ⟨_,zbb (zcw (i:=1) S.nd rfl (Am rfl) (zcx (zag (za8 (zag (qe (zad)) (zaL))) (zag (za8 (zag (qe (zad)) (zag (qe (zad)) (zaL)))) (zag (za8 (zag (qe (zad)) (zag (qe (zad)) (zaL)))) (zag (za8 (zag (qe (zad)) (zag (qe (zad)) (zag (qe (zad)) (zaL))))) (zag (za8 (zag (qe (zad)) (zag (qe (zad)) (zag (qe (zad)) (zaL))))) (zag (za8 (zag (qe (zad)) (zag (qe (zad)) (zaL)))) (zag (za8 (zag (qe (zad)) (zag (qe (zad)) (zag (qe (zad)) (zaL))))) (zaL))))))))))
  (zbb (zcw (i:=1) S.nd rfl (Am rfl) (zhL zeK (qe (pv 1)) (zcx (zag (za8 (zag (qe (zad)) (zag (qe (zad)) (zag (qe (zad)) (zag (qe (zad)) (zaL)))))) (zag (za8 (zag (qe (zad)) (zag (qe (zad)) (zag (qe (zad)) (zag (qe (zad)) (zag (qe (zad)) (zaL))))))) (zag (za8 (zag (qe (zad)) (zag (qe (zad)) (zag (qe (zad)) (zag (qe (zad)) (zag (qe (zad)) (zaL))))))) (zag (za8 (zag (qe (zad)) (zaL))) (zaL))))))))
  (zbb (zcw (i:=1) S.nd rfl (Am rfl) (zhL zeK (qe (pv 1)) (zcx (zag (za8 (zag (qe (zad)) (zag (qe (zad)) (zag (qe (zad)) (zag (qe (zad)) (zag (qe (zad)) (zag (qe (zad)) (zag (qe (zad)) (zag (qe (zad)) (zaL)))))))))) (zag (za8 (zag (qe (zad)) (zag (qe (zad)) (zag (qe (zad)) (zag (qe (zad)) (zag (qe (zad)) (zag (qe (zad)) (zag (qe (zad)) (zag (qe (zad)) (zaL)))))))))) (zaL))))))
  (zbb (zcw (i:=1) S.nd rfl (Am rfl) (zhL zeK (qe (pv 1)) (zcx (zag (za8 (zag (qe (zad)) (zag (qe (zad)) (zag (qe (zad)) (zaL))))) (zag (za8 (zag (qe (zad)) (zag (qe (zad)) (zag (qe (zad)) (zaL))))) (zag (za8 (zag (qe (zad)) (zag (qe (zad)) (zaL)))) (zag (za8 (zag (qe (zad)) (zag (qe (zad)) (zaL)))) (zag (za8 (zag (qe (zad)) (zag (qe (zad)) (zag (qe (zad)) (zag (qe (zad)) (zaL)))))) (zaL)))))))))
  (zgB (zhu (qe (zaM zay (pv 1) (zar za5 (pv 0) (zal zat rfl T.n_len Bx (zaa (pv 1) zae))) (fun _ _=>rfl)))))))),?_⟩
  have M:Mr H H [] []:=⟨Same.refl H,trivial⟩
  refine ⟨bigr rfl,fun a1 na => ?_⟩
  replace M:=M.add [45] na
  clear na
  refine ⟨bigr rfl,fun a2 na => ?_⟩
  replace M:=M.add [131,133] na
  clear na
  refine ⟨bigr rfl,fun a3 na => ?_⟩
  replace M:=M.add [193,65] na
  clear na
  refine ⟨bigr rfl,fun a4 na => ?_⟩
  replace M:=M.add [71,161,99] na
  clear na
  refine ⟨bigr rfl,fun a5 na => ?_⟩
  replace M:=M.add [77,131,133] na
  clear na
  refine ⟨bigr rfl,fun a6 na => ?_⟩
  replace M:=M.add [13,49] na
  clear na
  refine ⟨bigr rfl,fun a7 na => ?_⟩
  replace M:=M.add [153,111,131] na
  clear na
  refine ⟨bigr rfl,fun b0 nb => ?_⟩
  obtain ⟨M,e⟩:=M.lstE (o := .lst [V.ref a1,V.ref a2,V.ref a3,V.ref a4,V.ref a5,V.ref a6,V.ref a7]) nb
  clear nb
  refine ⟨_,rfl,?_⟩
  refine ⟨bigr rfl,fun a8 na => ?_⟩
  replace M:=M.add [197,131,173,53] na
  replace e:=zcB (o := .tup (([197,131,173,53]:List Int).map V.int)) e na
  clear na
  refine ⟨bigr rfl,fun a9 na => ?_⟩
  replace M:=M.add [83,125,137,173,243] na
  replace e:=zcB (o := .tup (([83,125,137,173,243]:List Int).map V.int)) e na
  clear na
  refine ⟨bigr rfl,fun a10 na => ?_⟩
  replace M:=M.add [185,193,215,87,243] na
  replace e:=zcB (o := .tup (([185,193,215,87,243]:List Int).map V.int)) e na
  clear na
  refine ⟨bigr rfl,fun a11 na => ?_⟩
  replace M:=M.add [5] na
  replace e:=zcB (o := .tup (([5]:List Int).map V.int)) e na
  clear na
  refine ⟨bigr rfl,fun b1 nb => ?_⟩
  obtain ⟨M,e2⟩:=M.lstE (o := .lst [V.ref a8,V.ref a9,V.ref a10,V.ref a11]) nb
  replace e:=zcB (o := .lst [V.ref a8,V.ref a9,V.ref a10,V.ref a11]) e nb
  clear nb
  refine ⟨_,_,_,_,rfl,rfl,e,e2,bigr rfl,fun c1 nc => ?_⟩
  obtain ⟨M,e⟩:=M.lstE (o := .lst [V.ref a1,V.ref a2,V.ref a3,V.ref a4,V.ref a5,V.ref a6,V.ref a7,V.ref a8,V.ref a9,V.ref a10,V.ref a11]) nc
  clear nc e2
  refine ⟨_,rfl,?_⟩
  refine ⟨bigr rfl,fun a12 na => ?_⟩
  replace M:=M.add [175,209,67,129,21,229,49,83] na
  replace e:=zcB (o := .tup (([175,209,67,129,21,229,49,83]:List Int).map V.int)) e na
  clear na
  refine ⟨bigr rfl,fun a13 na => ?_⟩
  replace M:=M.add [203,243,129,167,153,223,207,243] na
  replace e:=zcB (o := .tup (([203,243,129,167,153,223,207,243]:List Int).map V.int)) e na
  clear na
  refine ⟨bigr rfl,fun b2 nb => ?_⟩
  obtain ⟨M,e2⟩:=M.lstE (o := .lst [V.ref a12,V.ref a13]) nb
  replace e:=zcB (o := .lst [V.ref a12,V.ref a13]) e nb
  clear nb
  refine ⟨_,_,_,_,rfl,rfl,e,e2,bigr rfl,fun c2 nc => ?_⟩
  obtain ⟨M,e⟩:=M.lstE (o := .lst [V.ref a1,V.ref a2,V.ref a3,V.ref a4,V.ref a5,V.ref a6,V.ref a7,V.ref a8,V.ref a9,V.ref a10,V.ref a11,V.ref a12,V.ref a13]) nc
  clear nc e2
  refine ⟨_,rfl,?_⟩
  refine ⟨bigr rfl,fun a14 na => ?_⟩
  replace M:=M.add [197,147,131] na
  replace e:=zcB (o := .tup (([197,147,131]:List Int).map V.int)) e na
  clear na
  refine ⟨bigr rfl,fun a15 na => ?_⟩
  replace M:=M.add [197,131,177] na
  replace e:=zcB (o := .tup (([197,131,177]:List Int).map V.int)) e na
  clear na
  refine ⟨bigr rfl,fun a16 na => ?_⟩
  replace M:=M.add [31,255] na
  replace e:=zcB (o := .tup (([31,255]:List Int).map V.int)) e na
  clear na
  refine ⟨bigr rfl,fun a17 na => ?_⟩
  replace M:=M.add [3,3] na
  replace e:=zcB (o := .tup (([3,3]:List Int).map V.int)) e na
  clear na
  refine ⟨bigr rfl,fun a18 na => ?_⟩
  replace M:=M.add [119,225,131,109] na
  replace e:=zcB (o := .tup (([119,225,131,109]:List Int).map V.int)) e na
  clear na
  refine ⟨bigr rfl,fun b3 nb => ?_⟩
  obtain ⟨M,e2⟩:=M.lstE (o := .lst [V.ref a14,V.ref a15,V.ref a16,V.ref a17,V.ref a18]) nb
  replace e:=zcB (o := .lst [V.ref a14,V.ref a15,V.ref a16,V.ref a17,V.ref a18]) e nb
  clear nb
  refine ⟨_,_,_,_,rfl,rfl,e,e2,bigr rfl,fun c3 nc => ?_⟩
  obtain ⟨M,e⟩:=M.lstE (o := .lst [V.ref a1,V.ref a2,V.ref a3,V.ref a4,V.ref a5,V.ref a6,V.ref a7,V.ref a8,V.ref a9,V.ref a10,V.ref a11,V.ref a12,V.ref a13,V.ref a14,V.ref a15,V.ref a16,V.ref a17,V.ref a18]) nc
  clear nc e2
  have p18:(0:Int) < 18:=by decide
  have k0:=Fg k (show (18:Int)≠0 by decide)
  have k1:=Es k p18
  have hi:(k % 18).toNat < menuRows.length:=by
   show (k % 18).toNat < 18
   omega
  obtain ⟨p,hp,ht⟩:=Rows.get (rs:=menuRows) M.rows (A8 hi)
  have ek:(((k % 18).toNat:Nat):Int)=k % 18:=by omega
  refine ⟨_,rfl,_,rfl,_,rfl,_,_,rfl,.inl (SqL.of e),_,_,rfl,rfl,p18,_,_,_,_,rfl,rfl,SqL.of e,?_,q p _ _ M.same ht (menu_ok (A8 hi))⟩
  show atI _ (k % 18)=_
  rw [<- ek]
  exact zaA hp
theorem p3:(0:Int) < 3:=by decide
theorem p14:(0:Int) < 14:=by decide
theorem p42:(0:Int) < 42:=by decide
theorem zhM:(0:Int) < 128:=by decide
noncomputable def manyL:List Int := [2,3,1,2,4,3,1,5,2,0,8,7,6,1]
theorem manyL_at {k:Int} (h0:0<=k) (h1:k < 14):∃ m:Int,atI (manyL.map V.int) k=some (V.int m)/\0<=m/\m<=8:=by
 refine ⟨_,zhK h0 (by show k < 14; exact h1),?_⟩
 have all:∀ x∈manyL,0<=x/\x<=8:=by decide
 refine all _ ?_
 have hk:k.toNat < manyL.length:=by show k.toNat < 14; omega
 rw [Ak,A8 hk]
 exact Cv hk
theorem base_at {k:Int} (h0:0<=k) (h1:k < 2):∃ b:Int,atI [V.int 26,V.int 2] k=some (V.int b)/\(b=26\/b=2):=by
 rcases (by omega:k=0\/k=1) with h | h <;> subst h
 ·exact ⟨26,rfl,.inl rfl⟩
 ·exact ⟨2,rfl,.inr rfl⟩
noncomputable def bitOf (b:Int) (v:V):Bool:=match v with
 | .int t=>decide (Dt (b / 2 ^ t.toNat) 1=1)
 | _=>false
noncomputable def sp_combs (K:Av):Sp:=fun vs H Q _=>∃ (a:A4) (ns:List Int),vs = [.ref a]/\SqL K H a (ns.map V.int)/\∀ p ks vs H',Same H H'->H p=none->H' p=some (.lst vs)->Drawn (fun _=>True) H' vs ks->ks.length<=8->Q (.ref p) H'
theorem zfT:FnScope ["_law_script","_law_head","_law_menu_here","_law_many","_law_found","_law_used","_law_k","_law_cell","_law_bits","_law_word_here"] ["_law_script"] (defScope s_combs):=⟨rfl,rfl,rfl,by decide +kernel,rfl,by decide +kernel,by decide +kernel⟩
theorem ok_combs (D:DefAt K mg "_law_combs" s_combs) (T:Bn mg) (C_at:Callee P w K mg base "_law_at" 1 ["_law_script","_law_k"] (sp_at K)) (C_mixed:Callee P w K mg base "_law_mixed" 1 ["_law_cell","_law_k"] sp_mixed) (C_word:Callee P w K mg base "_law_word" 1 ["_law_cell","_law_base"] sp_word)
  (C_spare:Callee P w K mg base "_law_spare" 1 ["_law_word_here","_law_used"] (sp_spare K)) (C_menu:Callee P w K mg base "_law_menu" 1 ["_law_k"] sp_menu):Callee P w K mg base "_law_combs" 2 ["_law_script"] (sp_combs K):=by
 refine D.calleeQ zfT (fun _ _ _ _ _ _=>ln1 fun _=>rfl) (fun vs H Q E h => ?_) (fun f cdv A outer s H vs Q E hr h => ?_)
 ·obtain ⟨a,ns,rfl,_⟩:=h
  rfl
 ·obtain ⟨a,ns,rfl,hS,q⟩:=h
  have S:=zfT
  refine ⟨_,zbb (zcw (i:=1) S.nd rfl (Am rfl) (qe (zaH C_at (hr.mono (by decide)) rfl (zaa (pv 0) (zaa (zad) zae)))))
  (zbb (zcw (i:=2) S.nd rfl (Am rfl) (qe (zaH C_menu (hr.mono (by decide)) rfl (zaa (zaH C_at (hr.mono (by decide)) rfl (zaa (pv 0) (zaa (zad) zae))) zae))))
  (zbb (zcw (i:=3) S.nd rfl (Am rfl) (qe_ix zay (zcx (zag (qe (zad)) (zag (qe (zad)) (zag (qe (zad)) (zag (qe (zad)) (zag (qe (zad)) (zag (qe (zad)) (zag (qe (zad)) (zag (qe (zad)) (zag (qe (zad)) (zag (qe (zad)) (zag (qe (zad)) (zag (qe (zad)) (zag (qe (zad)) (zag (qe (zad)) (zaL)))))))))))))))) (qe (zar za5 (zar zbo (pv 1) (zad)) (zad))) (fun _ _=>rfl)))
  (qss_cut (qs (zaJ (zas zcV (zar za5 (pv 1) (zad)) (zad) (zax _))
   (zaf (zaj (i:=3) S.nd rfl (Am rfl) (zal zat rfl T.n_len Bx (zaa (pv 2) zae))))
   (zap)))
  (zbb (zcw (i:=4) S.nd rfl (Am rfl) (zcx (zaL)))
  (zbb (zcw (i:=5) S.nd rfl (Am rfl) (zcx (zaL)))
  (zbb (qs (zaZ Bl rfl (zbf rfl T.n_range (zaa (pv 3) zae)) (zai (i:=6) S.nd rfl (Am rfl))
   (zab (zaj (i:=7) S.nd rfl (Am rfl) (zaH C_at (hr.mono (by decide)) rfl (zaa (pv 0) (zaa (zar zaU (zad) (pv 6)) zae))))
   (zbF (zaJ (zas zfi (zar za5 (pv 1) (zad)) (zad) (zax _))
    (zaf (zaj (i:=7) S.nd rfl (Am rfl) (zaH C_mixed (hr.mono (by decide)) rfl (zaa (pv 7) (zaa (pv 6) zae)))))
    (zap))
   (zab (zaj (i:=8) S.nd rfl (Hc rfl) (zar zaU (zar zeI (zar za5 (pv 7) (zad)) (zad)) (zad)))
   (zbF (zaJ (zas zcV (zar za5 (pv 1) (zad)) (zad) (zax _))
    (zaf (zaj (i:=8) S.nd rfl (Hc rfl) (zaM zbY (pv 2) (pv 6) (fun _ _=>rfl))))
    (zap))
   (zab (zaj (i:=9) S.nd rfl (Am rfl) (zaH C_spare (hr.mono (by decide)) rfl (zaa (zaH C_word (hr.mono (by decide)) rfl (zaa (zar zbo (pv 7) (zad)) (zaa (zaM zay (za1 (zaa (zad) (zaa (zad) zae))) (zar za5 (zar zbo (pv 1) (zad)) (zad)) (fun _ _=>rfl)) zae))) (zaa (pv 5) zae))))
   (zab (za7 (zdF C2 Ca C9 zaV (pv 5) (zaa (pv 9) zae)))
   (zaf (za7 (zdF C2 Ca C9 zaV (pv 4) (zaa (za1 (zaa (pv 9) (zaa (zaS (own := ["_law_t"]) (caps := [(8,"_law_bits")]) rfl ⟨rfl,rfl,rfl,rfl,⟨⟨rfl,rfl,.inl rfl⟩,trivial⟩⟩ (zbf rfl T.n_range (zaa (zad) zae)) (fun _ _ _ _ _ _=>zai (i:=0) (zaz (by decide +kernel)) rfl (Am rfl)) (fun _ _ _ _ _ _=>zcd (zas zcV (zar zhz (zar op_shr (pv 1) (pv 0)) (zad)) (zad) (zax _))) (fun _ _ _ _ _ _=>pv 0)) zae))) zae))))))))))))
  (zgB (zhu (qe (pv 4)))))))))),?_⟩
  refine ⟨_,rfl,a,ns,0,rfl,hS,by decide,?_⟩
  generalize ns.getD (Int.toNat 0) 0=head
  refine ⟨_,rfl,a,ns,1,rfl,hS,by decide,_,rfl,fun pm xs H1 s1 em hm => ?_⟩
  obtain ⟨m,hma,hm0,hm8⟩:=manyL_at (k:=head / 3 % 14) (Int.emod_nonneg _ (by decide)) (Int.emod_lt_of_pos _ p14)
  refine ⟨bigr rfl,fun b nb=>⟨_,rfl,_,_,rfl,rfl,⟨p3,by decide⟩,_,_,rfl,rfl,p14,_,_,_,_,rfl,rfl,SqL.of zac,hma,?_⟩⟩
  have s2:Same H (upd H1 b (.lst (manyL.map V.int))):=s1.put (s1.free nb)
  have em2:upd H1 b (.lst (manyL.map V.int)) pm=some (.tup (xs.map V.int)):=by rw [zah (zao em nb)]; exact em
  refine ⟨fun σ H'=>Same H H'/\H' pm=some (.tup (xs.map V.int))/\∃ m:Int,σ = [some (.ref a),some (.int head),some (.ref pm),some (.int m),none,none,none,none,none,none]/\0<=m/\m<=8/\(head % 3=2->m=xs.length),?_,?_⟩
  ·refine ⟨_,rfl,_,_,rfl,rfl,p3,rfl,_,rfl,?_⟩
   refine ite2 (fun hc => ?_) (fun hc => ?_)
   ·refine ⟨_,rfl,_,_,rfl,.inr (SqT.of em2),?_⟩
    rw [A2]
    exact ⟨s2,em2,_,rfl,by omega,by have:=hm.1.2; omega,fun _=>rfl⟩
   ·have hc:¬ head % 3=2:=by simpa using hc
    exact ⟨s2,em2,_,rfl,hm0,hm8,fun z=>absurd z hc⟩
  clear s2 em2 hma hm0 hm8 nb b m s1 em H1
  rintro σ H1 ⟨s1,em,m,rfl,hm0,hm8,hm2⟩
  refine ⟨bigr rfl,fun pf nf => ?_⟩
  refine ⟨bigr rfl,fun pu nu => ?_⟩
  have nfu:pf≠pu:=fun z=>by rw [<- z,zac] at nu; cases nu
  have fH:H pf=none:=s1.free nf
  have s2:=(s1.put (o := .lst []) fH)
  have uH:H pu=none:=s2.free nu
  have s3:=s2.put (o := .lst []) uH
  have em3:upd (upd H1 pf (.lst [])) pu (.lst []) pm=some (.tup (xs.map V.int)):=by
   rw [zah (zao (by rw [zah (zao em nf)]; exact em) nu),zah (zao em nf)]; exact em
  refine ⟨_,rfl,_,rfl,by omega,by omega,?_⟩
  refine zbA (zaP 0 m.toNat) (fun i σ H'=>Same H H'/\H' pm=some (.tup (xs.map V.int))/\∃ (vs:List V) (ks:List (Str×List Int)) (x6 x7 x8 x9:Option V),σ = [some (.ref a),some (.int head),some (.ref pm),some (.int m),some (.ref pf),some (.ref pu),x6,x7,x8,x9] /\
   H' pf=some (.lst vs)/\H' pu=some (.lst ((ks.map (·.1)).map V.str))/\Drawn (fun x=>x≠pf/\x≠pu) H' vs ks/\ks.length=i) ⟨s3,em3,[],[],_,_,_,_,rfl,by rw [zah nfu,zac],by rw [zac]; rfl,⟨trivial,Db,by simp⟩,rfl⟩ (fun _ _ _ _ _=>trivial) ?_ ?_
  ·rintro i x σ H2 hx ⟨s2,em2,vs,ks,x6,x7,x8,x9,rfl,ef,eu,dr,hl⟩
   obtain ⟨hi,rfl⟩:=zbC hx
   have hi8:i < 8:=by omega
   have hS2:=s2.seq hS
   refine ⟨_,rfl,_,rfl,_,_,rfl,rfl,a,ns,_,rfl,hS2,?_,?_⟩
   ·show (0:Int)<=1 + (0 + ((i:Nat):Int))
    omega
   generalize ns.getD (1 + (0 + ((i:Nat):Int))).toNat 0=cell0
   refine ⟨fun σ H'=>H'=H2/\∃ (c:Int),σ = [some (.ref a),some (.int head),some (.ref pm),some (.int m),some (.ref pf),some (.ref pu),some (.int (0 + ((i:Nat):Int))),some (.int c),x8,x9],?_,?_⟩
   ·refine ⟨_,rfl,_,_,rfl,rfl,p3,_,_,rfl,rfl,_,rfl,?_⟩
    refine ite2 (fun _ => ?_) (fun _ => ?_)
    ·exact ⟨_,rfl,_,rfl,_,_,rfl,rfl,_,rfl⟩
    ·exact ⟨rfl,_,rfl⟩
   rintro σ H3 ⟨rfl,c,rfl⟩
   have c0:=Fg c (show (128:Int)≠0 by decide)
   have c1:=Es c zhM
   refine ⟨_,rfl,_,_,rfl,rfl,zhM,_,_,rfl,rfl,.inr ⟨by decide,by decide⟩,_,_,rfl,rfl,?_⟩
   refine ⟨fun σ H'=>H'=H3/\∃ (bt:Int),σ = [some (.ref a),some (.int head),some (.ref pm),some (.int m),some (.ref pf),some (.ref pu),some (.int (0 + ((i:Nat):Int))),some (.int c),some (.int bt),x9]/\bt % 2=1/\0<=bt,?_,?_⟩
   ·refine ⟨_,rfl,_,_,rfl,rfl,p3,rfl,_,rfl,?_⟩
    refine ite2 (fun hc => ?_) (fun hc => ?_)
    ·have hc:head % 3=2:=by simpa using hc
     have hix:i < xs.length:=by have:=hm2 hc; omega
     have hat:atI (xs.map V.int) (0 + ((i:Nat):Int))=some (V.int xs[i]):=by
      rw [Fz]
      refine zaA ?_
      rw [Af,A8 hix]
      rfl
     have:=hm.2 xs[i] (Cv hix)
     exact ⟨_,rfl,_,rfl,_,_,_,_,rfl,rfl,SqT.of em2,hat,rfl,_,rfl,this.1,this.2.1⟩
    ·exact ⟨rfl,_,rfl,by omega,by omega⟩
   rintro σ H4 ⟨rfl,bt,rfl,hb1,hb0⟩
   obtain ⟨bs,hbs,hb2⟩:=base_at (k:=head / 42 % 2) (Int.emod_nonneg _ (by decide)) (Int.emod_lt_of_pos _ p2)
   refine ⟨_,rfl,_,_,rfl,rfl,⟨zhM,by decide⟩,bigr rfl,fun b nb=>⟨_,rfl,_,_,rfl,rfl,⟨p42,by decide⟩,_,_,rfl,rfl,p2,_,_,_,_,rfl,rfl,SqL.of zac,hbs,_,_,rfl,hb2,fun y hy => ?_⟩⟩
   have s4:=s2.put (o := .lst [V.int 26,V.int 2]) (s2.free nb)
   have t4:Same H4 (upd H4 b (.lst [V.int 26,V.int 2])):=Same.new nb
   have eu4:=t4 _ _ eu
   refine ⟨_,rfl,y,pu,ks.map (·.1),rfl,hy,SqL.of eu4,by rw [A2]; omega,fun z H5 s5 hz hzn => ?_⟩
   have s5H:=s4.trans s5
   have t5:=t4.trans s5
   have eu5:=t5 _ _ eu
   have ef5:=t5 _ _ ef
   have em5:=t5 _ _ em2
   have dr5:=dr.same t5
   refine ⟨_,rfl,.inl ⟨rfl,_,SqL.of eu5⟩,_,rfl,_,_,_,rfl,rfl,eu5,?_,?_⟩
   ·rw [A2,A2]
    exact Ai (by omega:ks.length < 1000) za0
   have s6:=s5H.put (o := .lst ((ks.map (·.1)).map V.str ++ [V.str z])) uH
   have dr6:Drawn (fun x=>x≠pf/\x≠pu) (upd H5 pu (.lst ((ks.map (·.1)).map V.str ++ [V.str z]))) vs ks:=dr5.upd fun z=>z.2 rfl
   have em6:upd H5 pu (.lst ((ks.map (·.1)).map V.str ++ [V.str z])) pm=some (.tup (xs.map V.int)):=by
    rw [zah (fun w=>by rw [w,eu5] at em5; cases em5)]; exact em5
   have ef6:upd H5 pu (.lst ((ks.map (·.1)).map V.str ++ [V.str z])) pf=some (.lst vs):=by rw [zah nfu]; exact ef5
   have eu6:upd H5 pu (.lst ((ks.map (·.1)).map V.str ++ [V.str z])) pu=some (.lst ((ks.map (·.1)).map V.str ++ [V.str z])):=zac
   generalize upd H5 pu (.lst ((ks.map (·.1)).map V.str ++ [V.str z]))=H6 at s6 dr6 em6 ef6 eu6
   refine ⟨_,rfl,.inl ⟨rfl,_,SqL.of ef6⟩,_,rfl,_,rfl,by decide,by decide,fun Dc hD => ?_⟩
   refine zbQ (capv := [some (.int bt)]) (by rfl) (zaP 0 (8:Int).toNat) (bigr rfl) hD ?_ (bitOf bt) (fun v=>v) ?_ ?_ ?_
   ·exact fun _ _=>trivial
   ·intro v hv H' R s' h
    obtain ⟨t,ht,rfl⟩:=A7.mp hv
    refine ⟨_,rfl,_,rfl,_,_,rfl,rfl,?_,_,_,rfl,rfl,rfl,_,rfl,?_⟩
    ·show (0:Int)<=0 + ((t:Nat):Int)
     omega
    rw [dec_ii]
    exact h H' (Same.refl _)
   ·intro v hv hp H' R s' h
    exact ⟨_,rfl,h H' (Same.refl _)⟩
   intro H7 s7 e7
   have ets:(((((Ab (8:Int).toNat).map fun i=>V.int (0 + ((i:Nat):Int))).filter (bitOf bt)).map fun v=>v))=(((Ab 8).filter fun i=>bitOf bt (.int (0 + ((i:Nat):Int)))).map fun i=>((i:Nat):Int)).map V.int:=by
    rw [Jo,Fe,B6]
    show Jq _ (List.filter _ (Ab 8))=_
    congr 1
    funext i
    show V.int (0 + ((i:Nat):Int))=V.int ((i:Nat):Int)
    rw [Fz]
   have gt:GT (((Ab 8).filter fun i=>bitOf bt (.int (0 + ((i:Nat):Int)))).map fun i=>((i:Nat):Int)):=by
    refine ⟨_,rfl,?_⟩
    show decide (Dt (bt / 2 ^ (0 + ((0:Nat):Int)).toNat) 1=1)=true
    rw [bitAnd_m1]
    apply decide_eq_true
    show bt / 1 % 2=1
    rw [Int.ediv_one]
    exact hb1
   rw [ets] at e7
   generalize (((Ab 8).filter fun i=>bitOf bt (.int (0 + ((i:Nat):Int)))).map fun i=>((i:Nat):Int))=ts at e7 gt
   refine ⟨bigr rfl,fun q' nq => ?_⟩
   have t7:Same H6 H7:=s7
   have n7:∀ {x o},H6 x=some o->x≠Dc:=fun e z=>by rw [z,hD] at e; cases e
   have n8:∀ {x o},H7 x=some o->x≠q':=fun e z=>by rw [z,nq] at e; cases e
   have ef8:upd H7 q' (.lst [V.str z,V.ref Dc]) pf=some (.lst vs):=by rw [zah (n8 (t7 _ _ ef6))]; exact t7 _ _ ef6
   refine ⟨_,_,_,rfl,rfl,ef8,?_,?_⟩
   ·rw [dr6.rows.length]
    exact Ai (by omega:ks.length < 1000) za0
   have s8:=((s6.trans s7).put (o := .lst [V.str z,V.ref Dc]) ((s6.trans s7).free nq)).put (o := .lst (vs ++ [V.ref q'])) fH
   have fq:q'≠pf:=(n8 (t7 _ _ ef6)).symm
   have uq:q'≠pu:=(n8 (t7 _ _ eu6)).symm
   refine ⟨s8,?_,vs ++ [.ref q'],ks ++ [(z,ts)],_,_,_,_,rfl,zac,?_,?_,by rw [Ag,hl]; rfl⟩
   ·have fm:pm≠pf:=fun w=>by rw [w,ef6] at em6; cases em6
    rw [zah fm,zah (n8 (t7 _ _ em6))]
    exact t7 _ _ em6
   ·rw [zah nfu.symm,zah (n8 (t7 _ _ eu6)),t7 _ _ eu6,Az,Az]
    rfl
   ·refine Drawn.snoc (q:=q') (t:=Dc) (((dr6.same t7).same (Same.new nq)).upd fun w=>w.1 rfl) ?_ ?_ ⟨fq,uq⟩ ⟨(n7 ef6).symm,(n7 eu6).symm⟩ hzn ⟨hz,gt⟩
    ·rw [zah fq,zac]
    ·rw [zah (n7 ef6).symm,zah (n8 e7)]
     exact e7
  ·rintro σ H2 ⟨s2,em2,vs,ks,x6,x7,x8,x9,rfl,ef,eu,dr,hl⟩
   rw [A2,Aw] at hl
   exact ⟨_,rfl,q pf ks vs H2 s2 fH ef dr.any (by omega)⟩
noncomputable def sp_lteeth:Sp:=fun vs H Q _=>∃ (k:A4) (x:Str) (ws:List V) (ks:Combs) (ts:List Int) (G:A4->Prop),vs = [.ref k,.str x]/\H k=some (.lst ws)/\Drawn G H ws ks/\cGet ks x=some ts/\∀ t,G t->H t=some (.lst (ts.map V.int))->Q (.ref t) H
theorem zfO:FnScope ["_law_kinds","_law_word_here","_law_name","_law_teeth_here"] ["_law_kinds","_law_word_here"] (defScope s_teeth):=⟨rfl,rfl,rfl,by decide +kernel,rfl,by decide +kernel,by decide +kernel⟩
theorem ok_lteeth (D:DefAt K mg "_law_teeth" s_teeth) (T:Bn mg):Callee P w K mg base "_law_teeth" 1 ["_law_kinds","_law_word_here"] sp_lteeth:=by
 refine D.callee zfO (fun _ _ _ _ _ _=>ln2 fun _ _=>rfl) (fun vs H Q E h => ?_) (fun f cdv A outer s H vs Q E hr h => ?_)
 ·obtain ⟨k,x,ws,ks,ts,G,rfl,_⟩:=h
  rfl
 ·obtain ⟨k,x,ws,ks,ts,G,rfl,hk,dr,hg,q⟩:=h
  have S:=zfO
  have hlen:=dr.rows.length
  refine ⟨_,zab (zaZ Bl rfl (zav (pv 0)) (zfW rfl (zau (zai (i:=2) S.nd rfl (Am rfl)) (zau (zai (i:=3) S.nd rfl (Am rfl)) (zbg))))
   (zaf (zaJ (zas zcV (pv 2) (pv 1) (zax _))
    (zaf (zam (pv 3)))
    (zap))))
  (zaf (zam (za1 (zae)))),?_⟩
  refine ⟨_,rfl,_,rfl,⟨_,SqL.of hk⟩,?_⟩
  refine zbA (zak K k ws) (fun i σ Hx=>Hx=H/\(∀ c∈ks.take i,c.1≠x)/\∃ x2 x3,σ = [some (.ref k),some (.str x),x2,x3]) ⟨rfl,by simp,_,_,rfl⟩ (fun i σ Hx _ h=>by rw [h.1]; exact SqL.of hk) ?_ ?_
  ·rintro i y σ Hx hx ⟨rfl,hno,x2,x3,rfl⟩
   obtain ⟨c,qa,t,hc,rfl,hq,ht,hgt⟩:=dr.rows.getG hx
   refine ⟨qa,_,rfl,SqL.of hq,rfl,_,_,rfl,_,_,rfl,rfl,?_⟩
   refine ⟨_,rfl,_,rfl,rfl,_,rfl,?_⟩
   by_cases e:c.1=x
   ·rw [decide_eq_true (by rw [e])]
    refine iteT ?_
    have:=zcf dr.nd (Be hc)
    rw [e,hg] at this
    refine ⟨_,rfl,q t hgt ?_⟩
    rw [ht,Bh this]
   ·rw [decide_eq_false (fun z=>e (by injection z))]
    refine iteF ?_
    refine ⟨rfl,fun c' hc' => ?_,_,_,rfl⟩
    rw [zaB hc] at hc'
    rcases Al.mp hc' with z | z
    ·exact hno c' z
    ·rw [A6.mp z]; exact e
  ·rintro σ Hx ⟨rfl,hno,x2,x3,rfl⟩
   rw [Hw (by omega)] at hno
   exact absurd rfl (hno _ (zel hg))
noncomputable def ovV (ks:Combs) (l:List (Nat×Str)) (m:Nat):List V:=(Ab m).map fun q=>V.int ((cov ks l q:Nat):Int)
noncomputable def sp_covers:Sp:=fun vs H Q _=>∃ (k l:A4) (n:Nat) (ws wl:List V) (ks:Combs) (ly:List (Nat×Str)),vs = [.ref k,.ref l,.int (n:Nat)]/\H k=some (.lst ws)/\Drawn (fun _=>True) H ws ks/\H l=some (.lst wl)/\LyR H wl ly/\n<=1000/\Lay ks ly/\Cover ks ly n/\ly.Pairwise (fun x y=>x.1 < y.1)/\∀ H',Same H H'->Q (.bl true) H'
theorem eqv_nilC {d:Ij} {ds:List Ij}:En (.list (d :: ds)) (.list [])=false:=by simp [En,Kv]
theorem shaped_intsC (a:List Int):Gj (.list (a.map Ex))=true:=by
 have h1:Cr (a.map Ex)=true:=by
  induction a with
  | nil=>rfl
  | cons x a ih=>rw [An,Cr,ih]; rfl
 have h2:∀ a:List Int,Ep (a.map Ex)=0:=by
  intro a
  induction a with
  | nil=>rfl
  | cons x a ih=>rw [An,Ep,ih]; rfl
 simp [Gj,Go,Jl,h1,h2]
theorem rep_oneC (m:Nat) (v:V):(C0 m [v]).flatten=C0 m v:=by
 induction m with
 | zero=>rfl
 | succ m ih=>rw [E3,Fs,ih,E3]; rfl
theorem zez:FnScope ["_law_kinds","_law_layings_here","_law_length","_law_over","_law_last","_law_place","_law_word_here","_law_teeth_here","_law_t"] ["_law_kinds","_law_layings_here","_law_length"] (defScope s_covers):=⟨rfl,rfl,rfl,by decide +kernel,rfl,by decide +kernel,by decide +kernel⟩
theorem ok_covers (D:DefAt K mg "_law_covers" s_covers) (T:Bn mg) (C_teeth:Callee P w K mg base "_law_teeth" 1 ["_law_kinds","_law_word_here"] sp_lteeth):Callee P w K mg base "_law_covers" 2 ["_law_kinds","_law_layings_here","_law_length"] sp_covers:=by
 refine D.callee zez (fun _ _ _ _ _ _=>ln3 fun _ _ _=>rfl) (fun vs H Q E h => ?_) (fun f cdv A outer s H vs Q E hr h => ?_)
 ·obtain ⟨k,l,n,ws,wl,ks,ly,rfl,_⟩:=h
  rfl
 ·obtain ⟨k,l,n,ws,wl,ks,ly,rfl,hk,dr,hl,lr,hn,hlay,hcov,hup,q⟩:=h
  have S:=zez
  have gc:GC ks:=fun c hc=>(dr.good c hc).2
  have hll:=C3 lr
  refine ⟨_,zab (zaj (i:=3) S.nd rfl (Am rfl) (zar op_rep (za1 (zaa (zad) zae)) (pv 2)))
  (zab (zaj (i:=4) S.nd rfl (Am rfl) (zhm zfF (zad)))
  (zab (zaZ Bl rfl (zav (pv 1)) (zeD rfl (zau (zai (i:=5) S.nd rfl (Am rfl)) (zau (zai (i:=6) S.nd rfl (Am rfl)) (zbg))))
   (zab (zaj (i:=7) S.nd rfl (Am rfl) (zaH C_teeth (hr.mono (by decide)) rfl (zaa (pv 0) (zaa (pv 6) zae))))
   (zab (zaJ (PW.pt (zgk (zas zdl (pv 5) (pv 4) (zax _)) (zeB (zas (op_eqD hr.units) (pv 7) (za1 (zae)) (zax _)))))
    (zaf (zam (zbH)))
    (zap))
   (zab (zaj (i:=4) S.nd rfl (Am rfl) (pv 5))
   (zaf (zaZ Bl rfl (zav (pv 7)) (zai (i:=8) S.nd rfl (Am rfl))
    (zab (zaJ (zas zgl (zar zaU (pv 5) (pv 8)) (pv 2) (zax _))
     (zaf (zam (zbH)))
     (zap))
    (zaf (zgE (zar zaU (zaM zay (pv 3) (zar zaU (pv 5) (pv 8)) (fun _ _=>rfl)) (zad)) (zhw (pv 3) (zar zaU (pv 5) (pv 8)) zfL))))))))))
  (zaf (zam (zal (zc9 rfl) rfl T.n_all O0 (zaa (zaS (own := ["_law_many"]) (caps := []) rfl ⟨rfl,rfl,rfl,rfl,trivial⟩ (zav (pv 3)) (fun _ _ _ _ _ _=>zai (i:=0) (zaz (by decide +kernel)) rfl (Am rfl)) (fun _ _ _ _ _ _=>za6) (fun _ _ _ _ _ _=>zbW zcV (pv 0) (zad) (zax _))) zae)))))),?_⟩
  refine ⟨bigr rfl,fun z nz=>⟨_,rfl,_,_,_,rfl,rfl,zac,by omega,by omega,?_,fun po npo => ?_⟩⟩
  ·rw [Bp]; exact Br (by omega:_<=1000) za0
  have s1:Same H (upd (upd H z (.lst [.int 0])) po (.lst (C0 ((n:Nat):Int).toNat [V.int 0]).flatten)):=(Same.new nz).trans (Same.new npo)
  have hpo:upd (upd H z (.lst [.int 0])) po (.lst (C0 ((n:Nat):Int).toNat [V.int 0]).flatten) po=some (.lst (ovV ks (ly.take 0) n)):=by
   rw [zac,rep_oneC,show ((n:Nat):Int).toNat=n by omega]
   congr 2
   refine (List.eq_replicate_iff.mpr ⟨by unfold ovV; rw [A2,Aw],fun b hb => ?_⟩).symm
   obtain ⟨p,_,rfl⟩:=A7.mp hb
   rfl
  have npo0:H po=none:=(Same.new nz).free npo
  generalize upd (upd H z (.lst [.int 0])) po (.lst (C0 ((n:Nat):Int).toNat [V.int 0]).flatten)=H1 at s1 hpo ⊢
  refine ⟨_,rfl,?_⟩
  refine ⟨_,rfl,_,rfl,⟨_,SqL.of (s1 _ _ hl)⟩,?_⟩
  refine zbA (zak K l wl) (fun i σ Hx=>Same H Hx/\∃ (last:Int) (x5 x6 x7 x8:Option V),σ = [some (.ref k),some (.ref l),some (.int (n:Nat)),some (.ref po),some (.int last),x5,x6,x7,x8]/\Hx po=some (.lst (ovV ks (ly.take i) n))/\∀ j x,i<=j->ly[j]?=some x->last < ((x.1:Nat):Int)) ⟨s1,-1,_,_,_,_,rfl,hpo,fun j x _ _=>by omega⟩ (fun i σ Hx _ h=>SqL.of (h.1 _ _ hl)) ?_ ?_
  ·rintro i x σ Hx hx ⟨sx,last,x5,x6,x7,x8,rfl,hpx,hlast⟩
   obtain ⟨⟨j,nmj⟩,ej,qa,rfl,hqa⟩:=Bs.rev lr hx
   have hmem:=Be ej
   have hjn:=hlay _ hmem
   have hlt:=hlast i _ (Ac _) ej
   dsimp only at hjn hqa hlt
   obtain ⟨⟨nm',ts⟩,hc,rfl⟩:=A7.mp hjn
   have hts:=zcf dr.nd hc
   dsimp only at hts hqa ej hmem
   have gts:GT ts:=gc _ hc
   refine ⟨qa,_,rfl,SqT.of (sx _ _ hqa),rfl,_,_,rfl,_,_,rfl,rfl,?_⟩
   refine ⟨_,rfl,_,rfl,k,_,ws,ks,ts,_,rfl,sx _ _ hk,dr.live.same sx,hts,fun t ht0 ht => ?_⟩
   refine ⟨_,rfl,_,rfl,_,_,rfl,rfl,_,rfl,?_⟩
   rw [decide_eq_false (show ¬ ((j:Nat):Int)<=last by omega)]
   refine iteF ?_
   refine ⟨_,rfl,bigr rfl,fun pn npn => ?_⟩
   have s7:Same Hx (upd Hx pn (.lst [])):=Same.new npn
   refine ⟨.list (ts.map Ex),.list [],.lst (SqL.of (s7 _ _ ht)) (VDs.map fun u _ => .int u),.lst (SqL.of zac) .nil,shaped_intsC ts,by decide,_,rfl,?_⟩
   have hz:En (.list (ts.map Ex)) (.list [])=false:=by
    cases ts with
    | nil=>exact absurd (zcN gts) (by simp)
    | cons u us=>exact eqv_nilC
   rw [if_neg A9,hz]
   refine iteF ?_
   refine ⟨_,rfl,?_⟩
   refine ⟨_,rfl,_,rfl,⟨_,SqL.of (s7 _ _ ht)⟩,?_⟩
   have hpx7:=s7 _ _ hpx
   have ht7:=s7 _ _ ht
   have sx7:=sx.trans s7
   have htp:t≠po:=fun e=>ht0 (by rw [e]; exact npo0)
   generalize upd Hx pn (.lst [])=H7 at hpx7 ht7 sx7
   have hin:∀ u∈ts,j + u.toNat < n:=fun u hu=>by
    have h0:=(zbZ gts u hu).1
    refine hcov.below gc dr.nd hlay hmem (q:=j + u.toNat) ?_
    unfold hit tkOf
    dsimp only
    rw [hts,decide_eq_true (Kb _ _),C5,decide_eq_true (show ((u.toNat:Nat):Int)∈(some ts).getD [] by rw [show ((u.toNat:Nat):Int)=u by omega]; exact hu)]
    rfl
   refine zbA (zak K t (ts.map V.int)) (fun i' σ Hy=>Same H Hy/\Hy t=some (.lst (ts.map V.int))/\∃ x8,σ = [some (.ref k),some (.ref l),some (.int (n:Nat)),some (.ref po),some (.int (j:Nat)),some (.int (j:Nat)),some (.str nm'),some (.ref t),x8]/\Hy po=some (.lst ((Ab n).map fun p=>V.int (((cov ks (ly.take i) p + ((ts.take i').map fun t=>j + t.toNat).count p:Nat)):Int)))) ⟨sx7,ht7,_,rfl,?_⟩ (fun i' σ Hy _ h=>SqL.of h.2.1) ?_ ?_
   ·rw [hpx7]
    congr 2
   ·rintro i' y σ Hy hy ⟨sy,hty,x8,rfl,hpy⟩
    rw [Af] at hy
    cases hu:ts[i']? with
    | none=>rw [hu] at hy; cases hy
    | some u =>
     rw [hu] at hy
     cases hy
     have hub:=zbZ gts u (Be hu)
     have hjn:=hin u (Be hu)
     refine ⟨_,rfl,_,rfl,_,_,rfl,rfl,_,rfl,_,_,rfl,rfl,_,rfl,?_⟩
     rw [decide_eq_false (show ¬ ((n:Nat):Int)<=((j:Nat):Int) + u by omega)]
     refine iteF ?_
     have hix:ixN ((Ab n).map fun p=>V.int (((cov ks (ly.take i) p + ((ts.take i').map fun t=>j + t.toNat).count p:Nat)):Int)).length (((j:Nat):Int) + u)=some (j + u.toNat):=by
      unfold ixN
      rw [A2,Aw,if_pos (by omega),if_pos (by omega)]
      congr 1
      omega
     refine ⟨_,rfl,_,rfl,_,rfl,_,_,rfl,rfl,_,_,_,_,rfl,rfl,SqL.of hpy,zfx (by omega) (v:=V.int (((cov ks (ly.take i) (j + u.toNat) + ((ts.take i').map fun t=>j + t.toNat).count (j + u.toNat):Nat)):Int)) ?_,_,_,rfl,rfl,?_⟩
     ·rw [show (((j:Nat):Int) + u).toNat=j + u.toNat by omega,Af,Cf hjn]
      rfl
     refine ⟨_,rfl,_,rfl,_,rfl,_,_,rfl,rfl,po,_,_,_,rfl,rfl,hpy,hix,?_⟩
     refine ⟨sy.put npo0,(by rw [zah htp]; exact hty),_,rfl,?_⟩
     rw [zac,zgM _ _ hjn]
     congr 2
     refine C7 fun p _ => ?_
     rw [zaB hu,Az,List.count_append]
     by_cases e:p=j + u.toNat
     ·subst e
      rw [if_pos rfl]
      simp
      omega
     ·rw [if_neg e]
      simp [Dz e]
   ·rintro σ Hy ⟨sy,hty,x8,rfl,hpy⟩
    rw [A2,By] at hpy
    refine ⟨sy,_,_,_,_,_,rfl,?_,fun j' x' hj' ej' => ?_⟩
    ·rw [hpy]
     congr 2
     unfold ovV
     refine C7 fun p _ => ?_
     rw [zaB ej,zb5,count_teeth (zaO (zek gts)) (fun t ht=>(zbZ gts t ht).1)]
     unfold hit tkOf
     dsimp only
     rw [hts]
     by_cases hjp:j<=p
     ·rw [if_pos hjp,decide_eq_true hjp,Fb]; rfl
     ·rw [if_neg hjp,decide_eq_false hjp,F6]; rfl
    ·rw [D7] at hup
     obtain ⟨h2a,h2b⟩:=Ar.mp ej
     obtain ⟨h3a,h3b⟩:=Ar.mp ej'
     have:=hup i j' h2a h3a (by omega)
     rw [h2b,h3b] at this
     dsimp only at this
     omega
  ·rintro σ Hx ⟨sx,last,x5,x6,x7,x8,rfl,hpx,_⟩
   rw [<- hll,By] at hpx
   refine ⟨_,rfl,_,rfl,⟨_,SqL.of hpx⟩,fun D hD => ?_⟩
   refine zbQ (capv := []) (by rfl) (zak K po _) (by unfold ovV; rw [A2,Aw]; exact big (by omega)) hD (fun H' s'=>SqL.of (s' _ _ hpx)) (fun _=>true) (fun _ => .bl true) ?_ ?_ ?_
   ·intro x hx H' R s' h
    exact h H' (Same.refl _)
   ·intro x hx _ H' R s' h
    obtain ⟨p,hp,rfl⟩:=A7.mp hx
    refine ⟨_,rfl,rfl,?_⟩
    have e:cov ks ly p=1:=by rw [hcov p,if_pos (B7.mp hp)]
    rw [e]
    exact h H' (Same.refl _)
   intro H3 s3 e3
   refine ⟨D,(ovV ks ly n).map fun _=>true,rfl,SqL.of ?_,?_⟩
   ·rw [e3,C8.mpr (fun _ _=>rfl),B6]
    rfl
   rw [Df.mpr (fun b hb=>by obtain ⟨_,_,rfl⟩:=A7.mp hb; rfl)]
   exact q _ (sx.trans s3)
noncomputable def sp_turned:Sp:=fun vs H Q _=>∃ (k:A4) (ws:List V) (ks:Combs),vs = [.ref k]/\H k=some (.lst ws)/\KindsL (fun _=>True) H ws ks/\GC ks/\ks.length<=8/\∀ r wr H',Same H H'->H' r=some (.lst wr)->KindsL (fun _=>True) H' wr (turnC ks)->Q (.ref r) H'
theorem zew:FnScope ["_law_kinds","_law_found","_law_word_here","_law_teeth_here"] ["_law_kinds"] (defScope s_turned):=⟨rfl,rfl,rfl,by decide +kernel,rfl,by decide +kernel,by decide +kernel⟩
theorem ok_turned (D:DefAt K mg "_law_turned" s_turned) (T:Bn mg):Callee P w K mg base "_law_turned" 1 ["_law_kinds"] sp_turned:=by
 refine D.callee zew (fun _ _ _ _ _ _=>ln1 fun _=>rfl) (fun vs H Q E h => ?_) (fun f cdv A outer s H vs Q E hr h => ?_)
 ·obtain ⟨k,ws,ks,rfl,_⟩:=h
  rfl
 ·obtain ⟨k,ws,ks,rfl,hk,kr,gc,h8,q⟩:=h
  have S:=zew
  have hlk:=kr.length
  refine ⟨_,zab (zaj (i:=1) S.nd rfl (Am rfl) (za1 (zae)))
  (zab (zaZ Bl rfl (zav (pv 0)) (zfW rfl (zau (zai (i:=2) S.nd rfl (Am rfl)) (zau (zai (i:=3) S.nd rfl (Hc rfl)) (zbg))))
   (zaf (za7 (zdF C2 Ca C9 zaV (pv 1) (zaa (za1 (zaa (pv 2) (zaa (zal zb0 rfl T.n_sorted Hu (zaa (zaS (own := ["_law_t"]) (caps := [(3,"_law_teeth_here")]) rfl ⟨rfl,rfl,rfl,rfl,⟨⟨rfl,rfl,.inl rfl⟩,trivial⟩⟩ (zav (pv 3)) (fun _ _ _ _ _ _=>zai (i:=0) (zaz (by decide +kernel)) rfl (Am rfl)) (fun _ _ _ _ _ _=>za6) (fun _ _ _ _ _ _=>zar zdU (zal (call_max1' K rfl rfl) rfl T.n_max boot_max (zaa (pv 1) zae)) (pv 0))) zae)) zae))) zae)))))
  (zaf (zam (pv 1)))),?_⟩
  refine ⟨bigr rfl,fun r nr => ?_⟩
  have s1:Same H (upd H r (.lst [])):=Same.new nr
  refine ⟨_,rfl,_,rfl,⟨_,SqL.of (s1 _ _ hk)⟩,?_⟩
  refine zbA (zak K k ws) (fun i σ Hx=>Same H Hx/\∃ wr x2 x3,σ = [some (.ref k),some (.ref r),x2,x3]/\Hx r=some (.lst wr)/\wr.length=i/\KindsL (fun z=>z≠r) Hx wr (turnC (ks.take i))) ⟨s1,[],_,_,rfl,zac,rfl,trivial⟩ (fun i σ Hx _ h=>SqL.of (h.1 _ _ hk)) ?_ ?_
  ·rintro i x σ Hx hx ⟨sx,wr,x2,x3,rfl,hrx,hwl,kx⟩
   obtain ⟨c,qc,tc,hc,rfl,hqc,htc⟩:=kr.get hx
   have gt:=gc c (Be hc)
   have hil:i < ks.length:=(Ar.mp hc).1
   obtain ⟨m1,m2,m3,m4⟩:=zdo gt
   have ht8:=zgY gt
   refine ⟨qc,_,rfl,SqL.of (sx _ _ hqc),rfl,_,_,rfl,_,_,rfl,rfl,?_⟩
   refine ⟨_,rfl,.inl ⟨rfl,_,SqL.of hrx⟩,_,rfl,_,rfl,_,rfl,⟨_,SqL.of (sx _ _ htc)⟩,fun D hD => ?_⟩
   refine zbQ (capv := [some (.ref tc)]) (by rfl) (zak K tc (c.2.map V.int)) (by rw [A2]; exact big (by omega)) hD (fun H' s'=>SqL.of (s' _ _ (sx _ _ htc))) (fun _=>true) (fun v=>match v with | .int t => .int (mxT c.2 - t) | _ => .non) ?_ ?_ ?_
   ·intro x hx H' R s' h
    exact h H' (Same.refl _)
   ·intro x hx _ H' R s' h
    obtain ⟨t,ht,rfl⟩:=A7.mp hx
    refine ⟨_,rfl,tc,c.2,rfl,SqL.of (s' _ _ (sx _ _ htc)),Lw ht,fun M hM hMx=>⟨_,rfl,_,_,rfl,rfl,?_⟩⟩
    have e1:=hMx _ m1
    have e2:=m2 _ hM
    have:M=mxT c.2:=by omega
    subst this
    exact h H' (Same.refl _)
   intro H2 s2 e2
   refine ⟨D,c.2.map fun t=>mxT c.2 - t,rfl,SqL.of ?_,by rw [A2]; omega,fun p ns' np pp pw => ?_⟩
   ·rw [e2,C8.mpr (fun _ _=>rfl),B6,B6]
    rfl
   have et:ns'=turnT c.2:=by
    refine zc8 pp pw ?_ fun t ht => ?_
    ·rw [Ib,Bd]
     exact (zaO (zek gt)).imp fun h e=>h (by omega)
    ·obtain ⟨u,hu,rfl⟩:=A7.mp ht
     have:=m2 _ hu
     have:=zbZ gt _ hu
     omega
   subst et
   have s3:Same H2 (upd H2 p (.lst ((turnT c.2).map V.int))):=Same.new np
   have hp3:upd H2 p (.lst ((turnT c.2).map V.int)) p=some (.lst ((turnT c.2).map V.int)):=zac
   have np2:=s2.free np
   have s23:=s2.trans s3
   generalize upd H2 p (.lst ((turnT c.2).map V.int))=H3 at s23 hp3 ⊢
   refine ⟨bigr rfl,fun e ne => ?_⟩
   have s4:Same H3 (upd H3 e (.lst [.str c.1,.ref p])):=Same.new ne
   have he4:upd H3 e (.lst [.str c.1,.ref p]) e=some (.lst [.str c.1,.ref p]):=zac
   have ne2:=s23.free ne
   have hp4:=s4 _ _ hp3
   have s24:=s23.trans s4
   generalize upd H3 e (.lst [.str c.1,.ref p])=H4 at s24 he4 hp4 ⊢
   have hr4:=s24 _ _ hrx
   have hpr:p≠r:=fun z=>by rw [z,hrx] at np2; cases np2
   have her:e≠r:=fun z=>by rw [z,hrx] at ne2; cases ne2
   refine ⟨r,_,_,rfl,rfl,hr4,Ai (by omega:wr.length < 1000) za0,?_⟩
   refine ⟨(sx.trans s24).put nr,_,_,_,rfl,zac,by rw [Ag,hwl]; rfl,?_⟩
   have ek:turnC (ks.take (i + 1))=turnC (ks.take i) ++ [(c.1,turnT c.2)]:=by
    unfold turnC
    rw [zaB hc,Az]
    rfl
   rw [ek]
   exact KindsL.snoc (G:=fun z=>z≠r) (k:=(c.1,turnT c.2)) (q:=e) (t:=p) (by rw [zah her]; exact he4) (by rw [zah hpr]; exact hp4) her hpr (kx.mono (fun z o hz ez=>by rw [zah hz]; exact s24 _ _ ez) fun _ z=>z)
  ·rintro σ Hx ⟨sx,wr,x2,x3,rfl,hrx,_,kx⟩
   rw [hlk,By] at kx
   exact ⟨_,rfl,q r wr Hx sx hrx (kx.mono (fun _ _ _ e=>e) fun _ _=>trivial)⟩
noncomputable def posV (v:V):Bool:=match v with
 | .int t=>decide (0 < t)
 | _=>false
noncomputable def decV (v:V):V:=match v with
 | .int t => .int (t - 1)
 | _ => .non
noncomputable def sp_after (K:Av):Sp:=fun vs H Q _=>∃ (a t:A4) (ah ts:List Int),vs = [.ref a,.ref t]/\SqT K H a (ah.map V.int)/\H t=some (.lst (ts.map V.int))/\ah.Nodup/\(∀ d∈ah,0<=d/\d<=6)/\ts.Nodup/\(∀ d∈ts,0<=d/\d<=7) /\
 (if meets ah ts=true then Q .non H else ∀ p H',Same H H'->H p=none->H' p=some (.tup ((afterOf ah ts).map V.int))->Q (.ref p) H')
theorem zfU:FnScope ["_law_ahead","_law_teeth_here","_law_t"] ["_law_ahead","_law_teeth_here"] (defScope s_after):=⟨rfl,rfl,rfl,by decide +kernel,rfl,by decide +kernel,by decide +kernel⟩
theorem ok_after (D:DefAt K mg "_law_after" s_after) (T:Bn mg):Callee P w K mg base "_law_after" 1 ["_law_ahead","_law_teeth_here"] (sp_after K):=by
 refine D.callee zfU (fun _ _ _ _ _ _=>ln2 fun _ _=>rfl) (fun vs H Q E h => ?_) (fun f cdv A outer s H vs Q E hr h => ?_)
 ·obtain ⟨a,t,ah,ts,rfl,_⟩:=h
  rfl
 ·obtain ⟨a,t,ah,ts,rfl,ha,ht,an,ar,tn,tr,q⟩:=h
  have S:=zfU
  have hal:ah.length<=8:=zdc an fun d hd=>by have:=ar d hd; omega
  have htl:ts.length<=8:=zdc tn tr
  refine ⟨_,zab (zaZ Bl rfl (zav (pv 1)) (zai (i:=2) S.nd rfl (Am rfl))
   (zaf (zaJ (zas zcy (pv 2) (pv 0) (by with_unfolding_all rfl))
    (zaf (zam (zhx)))
    (zap))))
  (zaf (zam (zbn zcD rfl T.n_tuple Oi (zaa (zaS (own := ["_law_d"]) (caps := []) rfl ⟨rfl,rfl,rfl,rfl,trivial⟩ (zav (zal zb0 rfl T.n_sorted Hu (zaa (zar zeK (zbn zb1 rfl T.n_list My (zaa (pv 0) zae)) (pv 1)) zae))) (fun _ _ _ _ _ _=>zai (i:=0) (zaz (by decide +kernel)) rfl (Am rfl)) (fun _ _ _ _ _ _=>zcd (zas zfi (pv 0) (zad) (zax _))) (fun _ _ _ _ _ _=>zar zdU (pv 0) (zad))) zae)))),?_⟩
  refine ⟨_,rfl,_,rfl,⟨_,SqL.of ht⟩,?_⟩
  refine zbA (zak K t (ts.map V.int)) (fun i σ Hx=>Hx=H/\meets ah (ts.take i)=false/\∃ x2,σ = [some (.ref a),some (.ref t),x2]) ⟨rfl,rfl,_,rfl⟩ (fun i σ Hx _ h=>by rw [h.1]; exact SqL.of ht) ?_ ?_
  ·rintro i x σ Hx hx ⟨rfl,hm,x2,rfl⟩
   rw [Af] at hx
   cases hk:ts[i]? with
   | none=>rw [hk] at hx; cases hx
   | some y =>
    rw [hk] at hx
    cases hx
    refine ⟨_,rfl,_,rfl,_,_,rfl,.inr ha,rfl,zho ah,_,rfl,?_⟩
    rw [if_neg (by decide),zfp]
    refine ite2 (fun hc => ?_) (fun hc => ?_)
    ·have hc:y∈ah:=by simpa using hc
     have:meets ah ts=true:=by
      unfold meets
      exact Bq.mpr ⟨y,Be hk,decide_eq_true hc⟩
     rw [if_pos this] at q
     exact q
    ·have hc:y ∉ ah:=by simpa using hc
     refine ⟨rfl,?_,_,rfl⟩
     rw [zaB hk]
     rw [meets_false] at hm ⊢
     intro z hz
     rcases Al.mp hz with h | h
     ·exact hm z h
     ·rw [A6.mp h]; exact hc
  ·rintro σ Hx ⟨rfl,hm,x2,rfl⟩
   rw [A2,By] at hm
   rw [if_neg (by rw [hm]; decide)] at q
   refine ⟨_,rfl,a,_,rfl,.inr ha,fun p np=>⟨_,rfl,p,t,_,ts.map V.int,rfl,rfl,zac,?_,?_,fun p2 np2 => ?_⟩⟩
   ·rw [zah (zao ht np)]; exact ht
   ·rw [A2,A2]
    exact Er (Ai (by omega:ah.length + ts.length < 1000) za0)
   refine ⟨p2,ah ++ ts,rfl,SqL.of (by rw [Az]; exact zac),by rw [Ag]; omega,fun p3 ns np3 hp hs => ?_⟩
   have hc:=after_canon an ar tn tr hm hp hs
   have s1:Same Hx (upd Hx p (.lst (ah.map V.int))):=Same.new np
   have s2:=s1.trans (Same.new (o := .lst (ah.map V.int ++ ts.map V.int)) np2)
   have s3:=s2.trans (Same.new (o := .lst (ns.map V.int)) np3)
   refine ⟨_,rfl,⟨_,SqL.of zac⟩,fun Dc hD => ?_⟩
   have hnl:ns.length<=1000:=by
    have:=hp.length_eq
    rw [Ag] at this
    omega
   refine zbQ (capv := []) (L:=ns.map V.int) (by rfl) (zak K p3 (ns.map V.int)) (by rw [A2]; exact big hnl) hD (fun H' s'=>SqL.of (s' _ _ zac)) posV decV ?_ ?_ ?_
   ·intro v hv H' R s' h
    obtain ⟨d,hd,rfl⟩:=A7.mp hv
    exact ⟨_,rfl,_,_,rfl,rfl,_,rfl,h H' (Same.refl _)⟩
   ·intro v hv _ H' R s' h
    obtain ⟨d,hd,rfl⟩:=A7.mp hv
    exact ⟨_,rfl,_,_,rfl,rfl,h H' (Same.refl _)⟩
   ·intro H7 s7 e7
    have ets:(((ns.map V.int).filter posV).map decV)=(afterOf ah ts).map V.int:=by
     unfold afterOf
     rw [<- hc,Fe,B6,B6]
     rfl
    rw [ets] at e7
    have s07:=s3.trans s7
    exact ⟨_,_,rfl,.inl ⟨SqL.of e7,fun l nl=>q l _ (s07.put (s07.free nl)) (s07.free nl) zac⟩⟩
noncomputable def sp_goes (K:Av):Sp:=fun vs H Q _=>∃ (k a:A4) (ws:List V) (ks:Combs) (ah:List Int),vs = [.ref k,.ref a]/\H k=some (.lst ws)/\KindsL (fun _=>True) H ws ks/\ks.length<=100/\(∀ c∈ks,GT c.2)/\SqT K H a (ah.map V.int)/\ah.Nodup/\(∀ d∈ah,0<=d/\d<=6) /\
 ∀ p H' vs',Same H H'->H p=none->H' p=some (.lst vs')->GoesR H' vs' (goesOf ks ah)->Q (.ref p) H'
theorem zgw:FnScope ["_law_kinds","_law_ahead","_law_found","_law_word_here","_law_teeth_here","_law_further"] ["_law_kinds","_law_ahead"] (defScope s_goes):=⟨rfl,rfl,rfl,by decide +kernel,rfl,by decide +kernel,by decide +kernel⟩
theorem ok_goes (D:DefAt K mg "_law_goes" s_goes) (T:Bn mg) (C_after:Callee P w K mg base "_law_after" 1 ["_law_ahead","_law_teeth_here"] (sp_after K)):Callee P w K mg base "_law_goes" 2 ["_law_kinds","_law_ahead"] (sp_goes K):=by
 refine D.callee zgw (fun _ _ _ _ _ _=>ln2 fun _ _=>rfl) (fun vs H Q E h => ?_) (fun f cdv A outer s H vs Q E hr h => ?_)
 ·obtain ⟨k,a,ws,ks,ah,rfl,_⟩:=h
  rfl
 ·obtain ⟨k,a,ws,ks,ah,rfl,hk,kr,hkl,hg,ha,an,ar,q⟩:=h
  have S:=zgw
  have hlen:=kr.length
  refine ⟨_,zab (zaJ (zas zcy (zad) (pv 1) (by with_unfolding_all rfl))
   (zaf (zam (za1 (zaa (zbm (zaa (za4) (zaa (zaH C_after (hr.mono (by decide)) rfl (zaa (pv 1) (zaa (za1 (zae)) zae))) zae))) zae))))
   (zap))
  (zab (zaj (i:=2) S.nd rfl (Am rfl) (za1 (zae)))
  (zab (zaZ Bl rfl (zav (pv 0)) (zfW rfl (zau (zai (i:=3) S.nd rfl (Am rfl)) (zau (zai (i:=4) S.nd rfl (Am rfl)) (zbg))))
   (zab (zaj (i:=5) S.nd rfl (Am rfl) (zaH C_after (hr.mono (by decide)) rfl (zaa (pv 1) (zaa (pv 4) zae))))
   (zaf (zaJ (zas op_notN (pv 5) (zhx) (zax _))
    (zaf (za7 (zdF C2 Ca C9 zaV (pv 2) (zaa (zbm (zaa (pv 3) (zaa (pv 5) zae))) zae))))
    (zap)))))
  (zaf (zam (pv 2))))),?_⟩
  refine ⟨_,rfl,_,_,rfl,.inr ha,rfl,zho ah,_,rfl,?_⟩
  rw [if_neg (by decide),zfp]
  refine ite2 (fun hc => ?_) (fun hc => ?_)
  ·have hc:(0:Int)∈ah:=by simpa using hc
   refine ⟨_,rfl,bigr rfl,fun p0 np0=>⟨a,p0,ah,[],rfl,(Same.new np0).tup ha,zac,an,ar,Db,by simp,?_⟩⟩
   rw [if_neg (show ¬ meets ah []=true from A9)]
   intro p1 H1 s1 n1 e1
   refine ⟨bigr rfl,fun p2 np2=>⟨bigr rfl,fun p3 np3 => ?_⟩⟩
   have s01:Same H H1:=(Same.new np0).trans s1
   have s2:=s01.trans (Same.new (o := .tup [.str "",.ref p1]) np2)
   refine q p3 _ [.ref p2] (s2.trans (Same.new np3)) (s2.free np3) zac ?_
   rw [goes_in hc]
   have e2:upd H1 p2 (.tup [.str "",.ref p1]) p2=some (.tup [.str "",.ref p1]):=zac
   have e1':upd H1 p2 (.tup [.str "",.ref p1]) p1=some (.tup ((afterOf ah []).map V.int)):=by rw [zah (zao e1 np2)]; exact e1
   refine ⟨⟨p2,p1,rfl,?_,?_⟩,trivial⟩
   ·rw [zah (zao e2 np3)]; exact e2
   ·rw [zah (zao e1' np3)]; exact e1'
  ·have hc:(0:Int) ∉ ah:=by simpa using hc
   refine ⟨bigr rfl,fun pf npf => ?_⟩
   have s1:Same H (upd H pf (.lst [])):=Same.new npf
   refine ⟨_,rfl,_,rfl,⟨_,SqL.of (s1 _ _ hk)⟩,?_⟩
   refine zbA (zak K k ws) (fun i σ Hx=>Same H Hx/\∃ vs x3 x4 x5,σ = [some (.ref k),some (.ref a),some (.ref pf),x3,x4,x5]/\Hx pf=some (.lst vs)/\vs.length<=i/\GoesR Hx vs (goesOf (ks.take i) ah)) ⟨s1,[],_,_,_,rfl,zac,Ac _,?_⟩ (fun i σ Hx _ h=>SqL.of (h.1 _ _ hk)) ?_ ?_
   ·rw [Oa,goes_nil hc]
    trivial
   ·rintro i x σ Hx hx ⟨sx,vs,x3,x4,x5,rfl,hpf,hvl,hgr⟩
    obtain ⟨c,qa,t,hkc,rfl,hq,ht⟩:=(kr.same sx).get hx
    have hi:i < ks.length:=(Ar.mp hkc).1
    have gc:=hg c (Be hkc)
    refine ⟨qa,_,rfl,SqL.of hq,rfl,_,_,rfl,_,_,rfl,rfl,?_⟩
    refine ⟨_,rfl,_,rfl,a,t,ah,c.2,rfl,sx.tup ha,ht,an,ar,zaO (zek gc),zbZ gc,?_⟩
    by_cases hm:meets ah c.2=true
    ·rw [if_pos hm]
     refine ⟨_,rfl,rfl,_,rfl,iteF ?_⟩
     refine ⟨sx,vs,_,_,_,rfl,hpf,by omega,?_⟩
     rw [zaB hkc,zeS hc,if_pos hm,Cd]
     exact hgr
    ·rw [if_neg hm]
     intro p1 H1 s1' n1 e1
     refine ⟨_,rfl,rfl,_,rfl,iteT ?_⟩
     have sx1:=s1'
     refine ⟨_,rfl,.inl ⟨rfl,_,SqL.of (s1' _ _ hpf)⟩,_,rfl,_,rfl,bigr rfl,fun p2 np2 => ?_⟩
     have s2:Same Hx (upd H1 p2 (.tup [.str c.1,.ref p1])):=s1'.trans (Same.new np2)
     have e2:upd H1 p2 (.tup [.str c.1,.ref p1]) p2=some (.tup [.str c.1,.ref p1]):=zac
     have e1':upd H1 p2 (.tup [.str c.1,.ref p1]) p1=some (.tup ((afterOf ah c.2).map V.int)):=by rw [zah (zao e1 np2)]; exact e1
     have hpf2:=s2 _ _ hpf
     refine ⟨pf,_,_,rfl,rfl,hpf2,Ai (by omega:vs.length < 1000) za0,?_⟩
     have tn:∀ q' xs,upd H1 p2 (.tup [.str c.1,.ref p1]) q'=some (.tup xs)->upd (upd H1 p2 (.tup [.str c.1,.ref p1])) pf (.lst (vs ++ [.ref p2])) q'=some (.tup xs):=fun q' xs h=>by
      have:q'≠pf:=fun z=>by rw [z,hpf2] at h; cases h
      rw [zah this]; exact h
     refine ⟨(sx.trans s2).put npf,_,_,_,_,rfl,zac,(by rw [Ag,Bp]; omega),?_⟩
     rw [zaB hkc,zeS hc,if_neg hm]
     exact GoesR.snoc (s:=(c.1,afterOf ah c.2)) (tn _ _ e2) (tn _ _ e1') (hgr.mono fun q' xs h=>tn _ _ (s2 _ _ h))
   ·rintro σ Hx ⟨sx,vs,x3,x4,x5,rfl,hpf,hvl,hgr⟩
    rw [hlen,By] at hgr
    exact ⟨_,rfl,q pf Hx vs sx npf hpf hgr⟩
theorem zeT {ks:Combs} (h8:ks.length<=8) (s:Nat) (hs:s < 128) (g:GC ks):(goesOf ks (aheadOf (s:Int))).length<=8:=by
 rw [<- A2 (f:=fun p:Str×List Int=>(p.1,worth p.2)),zbj hs g]
 exact zdd h8 s
noncomputable def LeftR (H:Hp) (ws:List V) (ls:List Nat):Prop:=Bs (fun (s:Nat) (v:V)=>s < 128/\∃ q,v = .ref q/\H q=some (.tup ((aheadOf (s:Int)).map V.int))) ls ws
theorem LeftR.mono {H H':Hp} {ws:List V} {ls:List Nat} (r:LeftR H ws ls) (m:∀ q xs,H q=some (.tup xs)->H' q=some (.tup xs)):LeftR H' ws ls:=Bs.mapP r fun _ _ ⟨a,q,b,c⟩=>⟨a,q,b,m _ _ c⟩
noncomputable def intTup (ns:List Int):Ij := .tuple (ns.map Ex)
theorem LeftR.vd {K:Av} {H:Hp} {ws:List V} {ls:List Nat} (r:LeftR H ws ls):VDs K H ws (ls.map fun (s:Nat)=>intTup (aheadOf (s:Int))):=by
 induction r with
 | nil=>exact .nil
 | cons h _ ih =>
  obtain ⟨_,q,rfl,e⟩:=h
  exact .cons (.tup (SqT.of e) (VDs.map fun u _ => .int u)) ih
theorem shaped_tups (ls:List (List Int)):Gj (.list (ls.map intTup))=true:=by
 have h0:∀ a:List Int,Cr (a.map Ex)=true/\Ep (a.map Ex)=0:=by
  intro a
  induction a with
  | nil=>exact ⟨rfl,rfl⟩
  | cons x a ih=>rw [An,Cr,Ep,ih.1,ih.2]; exact ⟨rfl,rfl⟩
 have h1:∀ ls:List (List Int),Cr (ls.map intTup)=true/\Ep (ls.map intTup)<=1:=by
  intro ls
  induction ls with
  | nil=>exact ⟨rfl,Bi _⟩
  | cons x ls ih =>
   rw [An,Cr,Ep]
   unfold intTup
   refine ⟨?_,?_⟩
   ·rw [show Cr (Jq (fun ns:List Int=>PyData.tuple (ns.map Ex)) ls)=true from ih.1]
    simp [Go,(h0 x).1]
   ·have:=ih.2
    unfold intTup at this
    simp only [Jl,(h0 x).2]
    omega
 have:=h1 ls
 have h2:Jl (.list (ls.map intTup))<=64:=by
  rw [Jl]
  omega
 have h3:Go (.list (ls.map intTup))=true:=by
  simp [Go,this.1]
 unfold Gj
 rw [h3,decide_eq_true h2]
 rfl
noncomputable def sp_graph:Sp:=fun vs H Q _=>∃ (k b:A4) (ws:List V) (ks:Combs) (s0:Nat),vs = [.ref k,.ref b]/\H k=some (.lst ws)/\KindsL (fun _=>True) H ws ks/\ks.length<=8/\GC ks/\s0 < 128/\H b=some (.tup ((aheadOf (s0:Int)).map V.int))/\∀ p kvs L H',Same H H'->H p=none->H' p=some (.dT kvs)->GrL H' kvs ks L->L.Nodup->ClsS ks L->s0∈L->Q (.ref p) H'
theorem zfR:FnScope ["_law_kinds","_law_begin","_law_graph_here","_law_left","_law_ahead","_law_word_here","_law_further"] ["_law_kinds","_law_begin"] (defScope s_graph):=⟨rfl,rfl,rfl,by decide +kernel,rfl,by decide +kernel,by decide +kernel⟩
theorem ok_graph (D:DefAt K mg "_law_graph" s_graph) (T:Bn mg) (C_goes:Callee P w K mg base "_law_goes" 2 ["_law_kinds","_law_ahead"] (sp_goes K)):Callee P w K mg base "_law_graph" 3 ["_law_kinds","_law_begin"] sp_graph:=by
 refine D.callee zfR (fun _ _ _ _ _ _=>ln2 fun _ _=>rfl) (fun vs H Q E h => ?_) (fun f cdv A outer s H vs Q E hr h => ?_)
 ·obtain ⟨k,b,ws,ks,s0,rfl,_⟩:=h
  rfl
 ·obtain ⟨k,b,ws,ks,s0,rfl,hk,kr,h8,gc,hs0,hb,q⟩:=h
  have S:=zfR
  have hu:=zcC hr
  refine ⟨_,zab (zaj (i:=2) S.nd rfl (Am rfl) (zea))
  (zab (zaj (i:=3) S.nd rfl (Am rfl) (za1 (zaa (pv 1) zae)))
  (zab (zc0 Bl (zas (op_neD hr.units) (pv 3) (za1 (zae)) (zax _))
   (zab (zaj (i:=4) S.nd rfl (Am rfl) (pe_bm0 C2 PySem.F.slot_list_pop PySem.F.type_list_pop mt_pop (pv 3)))
   (zaf (zaJ (zdR (zdk hu (pv 4) (pv 2)))
    (zab (zce hu (pv 2) (pv 4) (zaH C_goes (hr.mono (by decide)) rfl (zaa (pv 0) (zaa (pv 4) zae))) rfl)
    (zaf (zaZ Bl rfl (zav (zdj hu (pv 2) (pv 4) (fun _ _=>rfl))) (zeD rfl (zau (zai (i:=5) S.nd rfl (Am rfl)) (zau (zai (i:=6) S.nd rfl (Am rfl)) (zbg))))
     (zaf (za7 (zdF C2 Ca C9 zaV (pv 3) (zaa (pv 6) zae)))))))
    (zap)))))
  (zaf (zam (pv 2))))),?_⟩
  refine fun g ng=>⟨_,rfl,bigr rfl,fun l nl => ?_⟩
  have s1:Same H (upd H g (.dT [])):=Same.new ng
  have nl0:H l=none:=s1.free nl
  have hgl:g≠l:=fun z=>by rw [<- z,zac] at nl; cases nl
  have s2:Same H (upd (upd H g (.dT [])) l (.lst [.ref b])):=s1.trans (Same.new nl)
  refine ⟨fun m σ Hx=>∃ kvs L wl ls x4 x5 x6,σ = [some (.ref k),some (.ref b),some (.ref g),some (.ref l),x4,x5,x6]/\Same H Hx/\Hx g=some (.dT kvs)/\Hx l=some (.lst wl)/\LeftR Hx wl ls/\GrL Hx kvs ks L/\(∀ kv∈kvs,kv.2 ≠ .ref l)/\L.Nodup/\(∀ s∈L,s < 128)/\(∀ s∈L,∀ p∈stp ks s,p.2.toNat∈L\/p.2.toNat∈ls)/\(s0∈L\/s0∈ls)/\ls.length<=2000 - 9 * (128 - L.length)/\m=9 * (128 - L.length) + ls.length,⟨_,[],[],[.ref b],[s0],_,_,_,rfl,s2,(by rw [zah hgl]; exact zac),zac,.cons ⟨hs0,b,rfl,s2 _ _ hb⟩ .nil,.nil,nofun,Db,nofun,nofun,.inr (by simp),(show 1<=2000 - 9 * (128 - 0) by decide),rfl⟩,?_⟩
  rintro m σ Hx ⟨kvs,L,wl,ls,x4,x5,x6,rfl,sx,hg,hl,lr,gr,hkl,nd,lt,cl,h0,hlb,rfl⟩
  have hL128:L.length<=128:=zaw 128 L nd lt
  refine ⟨_,rfl,bigr rfl,fun e ne => ?_⟩
  have se:Same Hx (upd Hx e (.lst [])):=Same.new ne
  refine ⟨_,_,.lst (SqL.of (se _ _ hl)) (lr.mono fun _ _ z=>se _ _ z).vd,.lst (SqL.of zac) .nil,?_,by decide,_,rfl,?_⟩
  ·have:=shaped_tups (ls.map fun (s:Nat)=>aheadOf (s:Int))
   rwa [B6] at this
  have hll:=C3 lr
  cases hls:ls with
  | nil =>
   subst hls
   rw [if_pos rfl,show En (.list (Jq (fun s:Nat=>intTup (aheadOf (s:Int))) [])) (.list [])=true by decide]
   refine iteF ?_
   refine ⟨_,rfl,q g kvs L _ (sx.trans se) ng (se _ _ hg) (gr.same se) nd ⟨lt,fun s hs p hp=>(cl s hs p hp).resolve_right (by simp)⟩ (h0.resolve_right (by simp))⟩
  | cons t0 ts0 =>
   have hlpos:0 < ls.length:=by rw [hls]; simp
   rw [<- hls]
   rw [if_pos rfl,show En (.list (ls.map fun s:Nat=>intTup (aheadOf (s:Int)))) (.list [])=false by rw [hls]; simp [En,Kv]]
   refine iteT ?_
   have hg:=se _ _ hg
   have hl:=se _ _ hl
   have lr:LeftR (upd Hx e (.lst [])) wl ls:=lr.mono fun _ _ z=>se _ _ z
   have gr:=gr.same se
   have sx:=sx.trans se
   generalize upd Hx e (.lst [])=Hy at hg hl lr gr sx
   clear se ne
   refine ⟨fun σ' H'=>∃ m',m' < 9 * (128 - L.length) + ls.length/\∃ kvs L wl ls x4 x5 x6,σ' = [some (.ref k),some (.ref b),some (.ref g),some (.ref l),x4,x5,x6]/\Same H H'/\H' g=some (.dT kvs)/\H' l=some (.lst wl)/\LeftR H' wl ls/\GrL H' kvs ks L/\(∀ kv∈kvs,kv.2 ≠ .ref l)/\L.Nodup/\(∀ s∈L,s < 128)/\(∀ s∈L,∀ p∈stp ks s,p.2.toNat∈L\/p.2.toNat∈ls)/\(s0∈L\/s0∈ls)/\ls.length<=2000 - 9 * (128 - L.length)/\m'=9 * (128 - L.length) + ls.length,fun _ _ h=>h,?_⟩
   obtain ⟨v,ev,t128,qt,rfl,hqt⟩:=Bs.at lr (A8 (show ls.length - 1 < ls.length by omega))
   have els:ls=ls.dropLast ++ [ls[ls.length - 1]'(by omega)]:=by
    have hne:ls ≠ []:=fun z=>by rw [z] at hlpos; simp at hlpos
    have:=(Gf hne).symm
    rwa [Lo] at this
   generalize ls[ls.length - 1]'(by omega)=t at ev t128 hqt els
   refine ⟨_,rfl,.inl ⟨rfl,_,SqL.of hl⟩,l,wl,.ref qt,rfl,rfl,hl,(by rw [<- hll]; exact ev),?_⟩
   have ldl:ls.dropLast.length=ls.length - 1:=Mi
   have lr1:LeftR (upd Hy l (.lst wl.dropLast)) wl.dropLast ls.dropLast:=by
    have h1:LeftR Hy wl.dropLast ls.dropLast:=by
     have:∀ {a:List Nat} {c:List V},LeftR Hy c a->LeftR Hy c.dropLast a.dropLast:=by
      intro a c r
      induction r with
      | nil=>exact .nil
      | cons h r' ih =>
       cases r' with
       | nil=>exact .nil
       | cons h2 r2=>exact .cons h ih
     exact this lr
    exact h1.mono fun qa xs z=>by rw [zah (fun z2=>by rw [z2,hl] at z; cases z)]; exact z
   have gr1:GrL (upd Hy l (.lst wl.dropLast)) kvs ks L:=gr.mono (fun kv hkv qa vs z z2=>by rw [zah (fun z3=>hkl kv hkv (by rw [z,z3]))]; exact z2) fun qa xs z=>by rw [zah (fun z2=>by rw [z2,hl] at z; cases z)]; exact z
   have hg1:upd Hy l (.lst wl.dropLast) g=some (.dT kvs):=by rw [zah hgl]; exact hg
   have hl1:upd Hy l (.lst wl.dropLast) l=some (.lst wl.dropLast):=zac
   have hqt1:upd Hy l (.lst wl.dropLast) qt=some (.tup ((akey t).map kV)):=by
    rw [zah (fun z2=>by rw [z2,hl] at hqt; cases hqt)]
    unfold akey
    rw [kI_V]
    exact hqt
   have sx1:Same H (upd Hy l (.lst wl.dropLast)):=sx.put nl0
   generalize upd Hy l (.lst wl.dropLast)=H1 at lr1 gr1 hg1 hl1 hqt1 sx1
   clear lr gr hg hl hqt sx
   refine ⟨_,rfl,_,rfl,g,_,rfl,DGet.t hg1 hqt1,_,rfl,?_⟩
   have hh:=gr1.has lt t128
   by_cases hin:t∈L
   ·have hh2:(valV kvs (akey t)).isSome=true:=by rw [hh]; exact decide_eq_true hin
    obtain ⟨vv,hvv⟩:=F9.mp hh2
    rw [hvv]
    refine iteF ?_
    refine ⟨_,?_,kvs,L,wl.dropLast,ls.dropLast,_,_,_,rfl,sx1,hg1,hl1,lr1,gr1,hkl,nd,lt,fun s hs p hp => ?_,?_,by omega,rfl⟩
    ·omega
    ·rcases cl s hs p hp with z | z
     ·exact .inl z
     ·rw [els] at z
      rcases Al.mp z with z | z
      ·exact .inr z
      ·rw [A6.mp z]; exact .inl hin
    ·rcases h0 with z | z
     ·exact .inl z
     ·rw [els] at z
      rcases Al.mp z with z | z
      ·exact .inr z
      ·rw [A6.mp z]; exact .inl hin
   ·have hno:valV kvs (akey t)=none:=by
     cases ez:valV kvs (akey t) with
     | none=>rfl
     | some v=>rw [ez] at hh; exact absurd (of_decide_eq_true hh.symm) hin
    rw [hno]
    refine iteT ?_
    have hqi:H1 qt=some (.tup ((aheadOf (t:Int)).map V.int)):=by
     have:=hqt1
     unfold akey at this
     rwa [kI_V] at this
    refine ⟨_,rfl,_,rfl,k,qt,ws,ks,aheadOf (t:Int),rfl,sx1 _ _ hk,kr.same sx1,by omega,gc,SqT.of hqi,zcm _,zbx,fun pv H2 vs' s2 npv hpv gv => ?_⟩
    have nd1:(L ++ [t]).Nodup:=Cy.mpr ⟨nd,by simp,fun u hu v hv e=>by rw [A6.mp hv] at e; exact hin (e ▸ hu)⟩
    have lt1:∀ s∈L ++ [t],s < 128:=fun s hs=>(Al.mp hs).elim (lt s) fun z=>by rw [A6.mp z]; exact t128
    have hL1:(L ++ [t]).length<=128:=zaw 128 _ nd1 lt1
    rw [Ag,Bp] at hL1
    have hkl2:=gr1.len
    refine ⟨_,rfl,_,rfl,g,_,rfl,DPut.t (k:=akey t) (s2 _ _ hg1) (s2 _ _ hqt1) (Ai (by omega:kvs.length < 1000) za0),?_⟩
    rw [zcY _ hno]
    have hg2:=s2 _ _ hg1
    have keep:∀ qa o,(∃ xs,o=HO.lst xs)\/(∃ xs,o=HO.tup xs)->H2 qa=some o->upd H2 g (.dT (kvs ++ [(akey t,.ref pv)])) qa=some o:=fun qa o ho ea=>by
     rw [zah (fun z=>by rw [z,hg2] at ea; cases ea; rcases ho with ⟨_,h⟩ | ⟨_,h⟩ <;> cases h)]
     exact ea
    have hpl:pv≠l:=fun z=>by rw [z,hl1] at npv; cases npv
    have gr3:GrL (upd H2 g (.dT (kvs ++ [(akey t,.ref pv)]))) (kvs ++ [(akey t,.ref pv)]) ks (L ++ [t]) :=
     ((gr1.same s2).mono (fun _ _ qa vs _ e=>keep _ _ (.inl ⟨_,rfl⟩) e) fun qa xs e=>keep _ _ (.inr ⟨_,rfl⟩) e).snoc (keep _ _ (.inl ⟨_,rfl⟩) hpv) (gv.mono fun qa xs e=>keep _ _ (.inr ⟨_,rfl⟩) e)
    have gv3:GoesR (upd H2 g (.dT (kvs ++ [(akey t,.ref pv)]))) vs' (goesOf ks (aheadOf (t:Int))):=gv.mono fun qa xs e=>keep _ _ (.inr ⟨_,rfl⟩) e
    have lr3:=(lr1.mono fun _ _ z=>s2 _ _ z).mono fun qa xs e=>keep _ _ (.inr ⟨_,rfl⟩) e
    have hl3:=keep _ _ (.inl ⟨_,rfl⟩) (s2 _ _ hl1)
    have hpv3:=keep _ _ (.inl ⟨_,rfl⟩) hpv
    have hqt3:=keep _ _ (.inr ⟨_,rfl⟩) (s2 _ _ hqt1)
    have hg3:upd H2 g (.dT (kvs ++ [(akey t,.ref pv)])) g=some (.dT (kvs ++ [(akey t,.ref pv)])):=zac
    have sx3:Same H (upd H2 g (.dT (kvs ++ [(akey t,.ref pv)]))):=(sx1.trans s2).put ng
    generalize upd H2 g (.dT (kvs ++ [(akey t,.ref pv)]))=H3 at gr3 gv3 lr3 hl3 hpv3 hqt3 hg3 sx3
    have hkl3:∀ kv∈kvs ++ [(akey t,V.ref pv)],kv.2 ≠ .ref l:=fun kv hkv=>by
     rcases Al.mp hkv with z | z
     ·exact hkl kv z
     ·rw [A6.mp z]
      exact fun z=>hpl (by injection z)
    have dg:DGet H3 g (.ref qt) (some (.ref pv)):=by
     have:valV (kvs ++ [(akey t,V.ref pv)]) (akey t)=some (.ref pv):=by
      rw [<- zcY _ hno,valV_put,if_pos rfl]
     rw [<- this]
     exact DGet.t hg3 hqt3
    refine ⟨_,rfl,_,rfl,_,_,rfl,dg,_,rfl,⟨_,SqL.of hpv3⟩,?_⟩
    have hgl8:=zeT h8 t t128 gc
    have hvl:=gv3.length
    refine zbA (zak K pv vs') (fun i σ Hz=>Same H Hz/\∃ wl' x5 x6,σ = [some (.ref k),some (.ref b),some (.ref g),some (.ref l),some (.ref qt),x5,x6]/\Hz g=some (.dT (kvs ++ [(akey t,.ref pv)]))/\Hz l=some (.lst wl')/\Hz pv=some (.lst vs')/\LeftR Hz wl' (ls.dropLast ++ ((goesOf ks (aheadOf (t:Int))).take i).map fun p=>(worth p.2).toNat)/\GrL Hz (kvs ++ [(akey t,.ref pv)]) ks (L ++ [t])/\GoesR Hz vs' (goesOf ks (aheadOf (t:Int)))) ⟨sx3,wl.dropLast,_,_,rfl,hg3,hl3,hpv3,(by simpa using lr3),gr3,gv3⟩ (fun i σ Hz _ h=>by obtain ⟨_,_,_,_,_,_,_,h,_⟩:=h; exact SqL.of h) ?_ ?_
    ·rintro i x σ Hz hx ⟨sz,wl',x5,x6,rfl,hgz,hlz,hpz,lz,grz,gvz⟩
     obtain ⟨q1,t1,rfl,e2,e3,hlt⟩:=gvz.nth hx
     have hmem:(goesOf ks (aheadOf (t:Int)))[i]∈goesOf ks (aheadOf (t:Int)):=Cv hlt
     have egd:(goesOf ks (aheadOf (t:Int))).getD i ("",[])=(goesOf ks (aheadOf (t:Int)))[i]:=by rw [Ak,A8 hlt]; rfl
     rw [egd] at e2 e3
     obtain ⟨k1,k2,k3,k4⟩:=zb4 t128 gc hmem
     have hwl':=C3 lz
     rw [Ag,A2,Cq,ldl] at hwl'
     refine ⟨q1,_,rfl,SqT.of e2,rfl,_,_,rfl,_,_,rfl,rfl,?_⟩
     refine ⟨_,rfl,.inl ⟨rfl,_,SqL.of hlz⟩,_,rfl,l,wl',_,rfl,rfl,hlz,Ai (by omega:wl'.length < 3000) (by decide),?_⟩
     have kt:∀ qa xs,Hz qa=some (.tup xs)->upd Hz l (.lst (wl' ++ [.ref t1])) qa=some (.tup xs):=fun qa xs z=>by rw [zah (fun z2=>by rw [z2,hlz] at z; cases z)]; exact z
     refine ⟨sz.put nl0,_,_,_,rfl,(by rw [zah hgl]; exact hgz),zac,(by rw [zah hpl]; exact hpz),?_,grz.mono (fun kv hkv qa vs z z2=>by rw [zah (fun z3=>hkl3 kv hkv (by rw [z,z3]))]; exact z2) kt,gvz.mono kt⟩
     rw [Cw hlt,Az,<- As]
     refine El (lz.mono kt) ⟨k1,t1,rfl,kt _ _ ?_⟩
     have e4:aheadOf (((worth (goesOf ks (aheadOf (t:Int)))[i].2).toNat:Nat):Int)=(goesOf ks (aheadOf (t:Int)))[i].2:=zdX (by rw [k3]; rfl)
     rw [e4]
     exact e3
    ·rintro σ Hz ⟨sz,wl',x5,x6,rfl,hgz,hlz,hpz,lz,grz,gvz⟩
     rw [hvl,By] at lz
     have est:(goesOf ks (aheadOf (t:Int))).map (fun p=>(worth p.2).toNat)=(stp ks t).map fun p=>p.2.toNat:=by
      rw [<- zbj t128 gc,B6]
      rfl
     refine ⟨_,?_,_,L ++ [t],wl',_,_,_,_,rfl,sz,hgz,hlz,lz,grz,hkl3,nd1,lt1,fun s hs p hp => ?_,?_,?_,rfl⟩
     ·rw [Ag,Ag,Bp,A2,ldl]
      omega
     ·rw [est]
      rcases Al.mp hs with z | z
      ·rcases cl s z p hp with z | z
       ·exact .inl (C1 _ z)
       ·rw [els] at z
        rcases Al.mp z with z | z
        ·exact .inr (C1 _ z)
        ·rw [A6.mp z]; exact .inl (Bg _ (A6.mpr rfl))
      ·rw [A6.mp z] at hp
       exact .inr (Bg _ (A7.mpr ⟨p,hp,rfl⟩))
     ·rcases h0 with z | z
      ·exact .inl (C1 _ z)
      ·rw [els] at z
       rcases Al.mp z with z | z
       ·exact .inr (C1 _ z)
       ·rw [A6.mp z]; exact .inl (Bg _ (A6.mpr rfl))
     ·rw [Ag,Ag,Bp,A2,ldl]
      omega
theorem LeftR.in128 {H:Hp} {ws:List V} {ls:List Nat} (r:LeftR H ws ls):∀ s∈ls,s < 128:=by
 induction r with
 | nil=>simp
 | cons h _ ih =>
  intro s hs
  rcases B9.mp hs with rfl | hs
  ·exact h.1
  ·exact ih s hs
theorem zgQ {H:Hp}:∀ {ls:List Nat} {ws:List V},TupsR H (ls.map fun (s:Nat)=>aheadOf (s:Int)) ws->(∀ s∈ls,s < 128)->LeftR H ws ls
 | [],_,.nil,_ => .nil
 | s :: ls,_,.cons h r,lt => .cons ⟨lt s Ah,h⟩ (zgQ r fun t ht=>lt t (Aa _ ht))
theorem zfo {rs:List Nat} (lt:∀ s∈rs,s < 128) {t:Nat} (ht:t < 128):akey t∈rs.map akey ↔ t∈rs:=by
 rw [A7]
 exact ⟨fun ⟨s,hs,e⟩=>zda (lt s hs) ht e ▸ hs,fun h=>⟨t,h,rfl⟩⟩
noncomputable def addN (rs:List Nat) (t:Nat):List Nat:=if t∈rs then rs else rs ++ [t]
theorem addN_mem {rs:List Nat} {t s:Nat}:s∈addN rs t ↔ s∈rs\/s=t:=by
 unfold addN
 split
 ·rename_i h
  exact ⟨.inl,fun z=>z.elim id fun e=>e ▸ h⟩
 ·rw [Al,A6]
theorem addN_nd {rs:List Nat} {t:Nat} (nd:rs.Nodup):(addN rs t).Nodup:=by
 unfold addN
 split
 ·exact nd
 ·rename_i z
  refine Cy.mpr ⟨nd,by simp,fun u hu v hv e => ?_⟩
  rw [A6.mp hv] at e
  exact z (e ▸ hu)
theorem zfc {kvs:List (List Key×V)} {rs:List Nat} {t:Nat} {v:V} (lt:∀ s∈rs,s < 128) (ht:t < 128) (hk:kvs.map (·.1)=rs.map akey):(putK kvs (akey t) v).map (·.1)=(addN rs t).map akey:=by
 rw [zeC,hk]
 unfold addN
 by_cases z:t∈rs
 ·rw [if_pos ((zfo lt ht).mpr z),if_pos z]
 ·rw [if_neg (fun h=>z ((zfo lt ht).mp h)),if_neg z,Az]
  rfl
theorem keys_perm {nss:List (List Int)} {rs:List Nat} (p:nss.Perm (rs.map fun (s:Nat)=>aheadOf (s:Int))) (lt:∀ s∈rs,s < 128):∃ rs':List Nat,rs'.Perm rs/\nss=rs'.map fun (s:Nat)=>aheadOf (s:Int):=by
 refine ⟨nss.map fun ns=>(worth ns).toNat,?_,?_⟩
 ·have:=p.map fun ns=>(worth ns).toNat
  rw [B6] at this
  have e:rs.map ((fun ns=>(worth ns).toNat) ∘ fun (s:Nat)=>aheadOf (s:Int))=rs:=by
   conv=>rhs; rw [<- Fj rs]
   refine C7 fun s hs => ?_
   show (worth (aheadOf (s:Int))).toNat=s
   rw [zba (by omega) (by have:=lt s hs; omega)]
   simp
  rwa [e] at this
 ·rw [B6]
  conv=>lhs; rw [<- Fj nss]
  refine C7 fun ns hns => ?_
  obtain ⟨s,hs,rfl⟩:=A7.mp (p.mem_iff.mp hns)
  show aheadOf (s:Int)=aheadOf (((worth (aheadOf (s:Int))).toNat:Nat):Int)
  rw [zba (by omega) (by have:=lt s hs; omega)]
  simp
theorem zgX {hvs:List (List Key×V)} {hs:List Nat} (hk:hvs.map (·.1)=hs.map akey) (lt:∀ s∈hs,s < 128) {t:Nat} (ht:t < 128):(valV hvs (akey t)).isSome=decide (t∈hs):=by
 rw [B5,valV_mem,hk,decide_eq_true_eq]
 exact zfo lt ht
theorem any_rangeH {α : Type} (l:List α) (p : α -> Bool) (d : α):((Ab l.length).map fun i=>p (l.getD i d)).any (fun b=>b)=l.any p:=by
 have e:((Ab l.length).map fun i=>p (l.getD i d))=l.map p:=by
  refine Ft fun i => ?_
  rw [Af,Af]
  by_cases h:i < l.length
  ·rw [Cf h,A8 h,Cu,Cu,Ak,A8 h]
   rfl
  ·rw [Co (by rw [Aw]; omega),Co (by omega)]
   rfl
 rw [e,Js]
 rfl
noncomputable def sp_home:Sp:=fun vs H Q _=>∃ (g:A4) (kvs:List (List Key×V)) (ks:Combs) (L:List Nat),vs = [.ref g]/\H g=some (.dT kvs)/\GrL H kvs ks L/\L.Nodup/\ClsS ks L/\0∈L/\GC ks/\ks.length<=8/\∀ (p:A4) (hvs:List (List Key×V)) (hs:List Nat) (H':Hp),Same H H'->H' p=some (.dT hvs)->hvs.map (·.1)=hs.map akey->(∀ s∈hs,s∈L)->(∀ s∈L,s∈hs ↔ ∃ n,rch ks s n 0)->Q (.ref p) H'
theorem zgv:FnScope ["_law_graph_here","_law_home_here","_law_known","_law_ahead"] ["_law_graph_here"] (defScope s_home):=⟨rfl,rfl,rfl,by decide +kernel,rfl,by decide +kernel,by decide +kernel⟩
theorem ok_home (D:DefAt K mg "_law_home" s_home) (T:Bn mg):Callee P w K mg base "_law_home" 1 ["_law_graph_here"] sp_home:=by
 refine D.callee zgv (fun _ _ _ _ _ _=>ln1 fun _=>rfl) (fun vs H Q E h => ?_) (fun f cdv A outer s H vs Q E hr h => ?_)
 ·obtain ⟨g,kvs,ks,L,rfl,_⟩:=h
  rfl
 ·obtain ⟨g,kvs,ks,L,rfl,hg,gr,ndL,cl,h0L,gc,h8,q⟩:=h
  have ltL:=cl.1
  have S:=zgv
  have hu:=zcC hr
  have hL128:=zaw 128 L ndL ltL
  refine ⟨_,zab (zaj (i:=1) S.nd rfl (Hc rfl) (pe_disp1T hu (zbm (zae)) (zbH)))
  (zab (zaj (i:=2) S.nd rfl (Am rfl) (zad))
  (zab (zc0 Bl (zas zhn (pv 2) (zal ze4 rfl T.n_len Bx (zaa (pv 1) zae)) (zax _))
   (zab (zaj (i:=2) S.nd rfl (Am rfl) (zal ze4 rfl T.n_len Bx (zaa (pv 1) zae)))
   (zaf (ps_forT Bl rfl (pv 0) (zai (i:=3) S.nd rfl (Am rfl))
    (zaf (zaJ (zbh (zal (call_any rfl) rfl T.n_any boot_any (zaa (zaS (own := ["_law_word_here","_law_further"]) (caps := [(1,"_law_home_here")]) rfl ⟨rfl,rfl,rfl,rfl,⟨⟨rfl,rfl,.inl rfl⟩,trivial⟩⟩ (zav (zdj hu (pv 0) (pv 3) (fun _ _=>rfl))) (fun _ _ _ _ _ _=>zd9 K rfl (n:=2) rfl (zau (zai (i:=0) (zaz (by decide +kernel)) rfl (Am rfl)) (zau (zai (i:=1) (zaz (by decide +kernel)) rfl (Am rfl)) (zbg)))) (fun _ _ _ _ _ _=>za6) (fun _ _ _ _ _ _=>zhy (zfY hu (pv 1) (pv 2)))) zae)))
     (zaf (zce hu (pv 1) (pv 3) (zbH) rfl))
     (zap)))))))
  (zaf (zam (pv 1))))),?_⟩
  refine fun p np=>⟨bigr rfl,fun e ne => ?_⟩
  have s1:Same H (upd H p (.dT [])):=Same.new np
  have hp1:upd H p (.dT []) p=some (.dT []):=zac
  generalize upd H p (.dT [])=H1 at s1 hp1 ne ⊢
  have s2:Same H1 (upd H1 e (.tup [])):=Same.new ne
  have he2:upd H1 e (.tup []) e=some (.tup ((akey 0).map kV)):=by
   rw [zac]
   unfold akey
   rw [kI_V,show aheadOf ((0:Nat):Int) = [] by decide]
   rfl
  generalize upd H1 e (.tup [])=H2 at s2 he2 ⊢
  refine ⟨akey 0,e,s2 _ _ hp1,rfl,he2,?_⟩
  have s12:=s1.trans s2
  have s3:Same H (upd H2 p (.dT [(akey 0,.bl true)])):=s12.put np
  have hp3:upd H2 p (.dT [(akey 0,.bl true)]) p=some (.dT [(akey 0,.bl true)]):=zac
  generalize upd H2 p (.dT [(akey 0,.bl true)])=H3 at s3 hp3 ⊢
  let Sound:List Nat->Prop:=fun hs=>hs.Nodup/\(∀ s∈hs,s∈L)/\0∈hs/\∀ s∈hs,∃ n,rch ks s n 0
  refine ⟨fun m σ Hx=>Same H Hx/\∃ (k:Nat) (hvs:List (List Key×V)) (hs:List Nat) (x3:Option V),σ = [some (.ref g),some (.ref p),some (.int (k:Nat)),x3]/\Hx p=some (.dT hvs)/\hvs.map (·.1)=hs.map akey/\Sound hs/\k<=hs.length/\m=200 - k/\(k=hs.length->∀ s∈L,(∃ t∈hs,st1 ks s t)->s∈hs),⟨_,s3,0,_,[0],_,rfl,hp3,rfl,⟨by simp,fun s hs=>by rw [A6.mp hs]; exact h0L,A6.mpr rfl,fun s hs=>⟨0,(A6.mp hs).symm⟩⟩,Bi _,rfl,fun z=>by cases z⟩,?_⟩
  rintro m σ Hx ⟨sx,k,hvs,hs,x3,rfl,hpx,hkx,⟨nd,sub,h0,snd⟩,hkl,rfl,clo⟩
  have hvl:hvs.length=hs.length:=by have:=congrArg Ed hkx; rwa [A2,A2] at this
  have hs128:=zaw 128 hs nd fun s hs=>ltL s (sub s hs)
  refine ⟨_,rfl,_,rfl,_,_,rfl,hpx,rfl,_,rfl,?_⟩
  by_cases heq:k=hvs.length
  ·rw [heq,decide_eq_true (rfl:V.int ((hvs.length:Nat):Int)=_)]
   refine iteF ?_
   refine ⟨_,rfl,q p hvs hs Hx sx hpx hkx sub fun s hsL=>⟨snd s,?_⟩⟩
   rintro ⟨n,hn⟩
   have all:∀ n s,s∈L->rch ks s n 0->s∈hs:=by
    intro n
    induction n with
    | zero=>intro s _ h; rw [show s=0 from h.symm]; exact h0
    | succ n ih =>
     intro s hsL h
     rw [Gq] at h
     obtain ⟨u,⟨v,e1,hu1⟩,h2⟩:=zdi h
     rw [show v=s from e1] at hu1
     obtain ⟨pp,hpp,rfl⟩:=hu1
     exact clo (by omega) s hsL ⟨_,ih _ (cl.2 s hsL pp hpp) h2,pp,hpp,rfl⟩
   exact all n s hsL hn
  ·rw [decide_eq_false (fun z=>heq (by injection z with z; omega))]
   refine iteT ?_
   have hless:200 - hs.length < 200 - k:=by omega
   refine ⟨fun σ' H'=>∃ m',m' < 200 - k/\Same H H'/\∃ (k:Nat) (hvs:List (List Key×V)) (hs:List Nat) (x3:Option V),σ' = [some (.ref g),some (.ref p),some (.int (k:Nat)),x3]/\H' p=some (.dT hvs)/\hvs.map (·.1)=hs.map akey/\Sound hs/\k<=hs.length/\m'=200 - k/\(k=hs.length->∀ s∈L,(∃ t∈hs,st1 ks s t)->s∈hs),fun _ _ h=>h,?_⟩
   refine ⟨_,rfl,_,_,rfl,hpx,?_⟩
   have hgp:g≠p:=fun z=>by rw [z,np] at hg; cases hg
   refine ⟨g,kvs,rfl,sx _ _ hg,fun o => ?_⟩
   have grf:∀ {Hy:Hp},Same H (upd Hy g (.dT kvs))->GrL Hy kvs ks L:=fun {Hy} sy=>(gr.same sy).mono (fun kv _ q vs _ e=>by
     by_cases z:q=g
     ·rw [z,zac] at e; cases e
     ·rw [zah z] at e; exact e) fun q xs e=>by
     by_cases z:q=g
     ·rw [z,zac] at e; cases e
     ·rw [zah z] at e; exact e
   refine forT_g (fun i σ Hy=>Same H (upd Hy g (.dT kvs))/\Hy g=some (.frz o (.dT kvs))/\∃ (hvs':List (List Key×V)) (ext:List Nat) (x3:Option V),σ = [some (.ref g),some (.ref p),some (.int ((hvs.length:Nat):Int)),x3]/\Hy p=some (.dT hvs')/\hvs'.map (·.1)=(hs ++ ext).map akey/\Sound (hs ++ ext)/\∀ s∈L.take i,(∃ t∈hs,st1 ks s t)->s∈hs ++ ext) ⟨?_,zac,hvs,[],_,rfl,by rw [zah hgp.symm]; exact hpx,by rw [Cd]; exact hkx,by rw [Cd]; exact ⟨nd,sub,h0,snd⟩,fun s hs'=>by cases hs'⟩ (fun i σ Hy h=>h.2.1) ?_ ?_
   ·intro b u eb
    by_cases z:b=g
    ·rw [z,zac]; rw [z,hg] at eb; exact eb
    ·rw [zah z,zah z]; exact sx _ _ eb
   ·rintro i kk y b σ Hy hk hb ⟨sy,hgy,hvs',ext,x3',rfl,hpy,hky,⟨nd',sub',h0',snd'⟩,cov'⟩
    have hki:(kvs.map (·.1))[i]?=some kk:=by rw [Af,hk]; rfl
    rw [gr.keys,Af] at hki
    cases hsi:L[i]? with
    | none=>rw [hsi] at hki; cases hki
    | some s0 =>
     rw [hsi] at hki
     cases hki
     have hsm:=Be hsi
     have hs1:=ltL s0 hsm
     obtain ⟨qv,vv,ev,hqv,gv⟩:=(grf sy).val ndL ltL hsm
     have lt':∀ s∈hs ++ ext,s < 128:=fun s hs=>ltL s (sub' s hs)
     have dg:DGet Hy g (.ref b) (some (.ref qv)):=by rw [<- ev]; exact .inr ⟨kvs,akey s0,b,.inr ⟨o,hgy⟩,rfl,hb,rfl⟩
     refine ⟨_,rfl,_,rfl,_,_,rfl,dg,_,rfl,⟨_,SqL.of hqv⟩,fun D hD => ?_⟩
     have hgl:=gv.length
     have hg8:=zeT h8 s0 hs1 gc
     refine zfv (capv := [some (.ref p)]) (by rfl) (zak K qv vv) (big (by omega)) hD (fun H' s'=>SqL.of (s' _ _ hqv)) (fun i => .str ((goesOf ks (aheadOf (s0:Int))).getD i ("",[])).1) (tupY Hy vv) (fun i x hx=>by
      obtain ⟨q1,t1,rfl,e2,e3,_⟩:=gv.nth hx
      exact ⟨q1,rfl,by rw [zgn hx e2]; exact e2⟩) (fun _=>true) (fun i => .bl (decide ((worth ((goesOf ks (aheadOf (s0:Int))).getD i ("",[])).2).toNat∈hs ++ ext))) (fun _ _ _=>nofun) (fun i hi H R s' h=>h H (Same.refl _)) ?_ ?_
     ·intro i' hi' _ H' R s' h
      obtain ⟨q1,t1,e1,e2,e3,hlt⟩:=gv.nth (A8 hi')
      have hm:(goesOf ks (aheadOf (s0:Int))).getD i' ("",[])∈goesOf ks (aheadOf (s0:Int)):=by rw [Ak,A8 hlt]; exact Cv hlt
      obtain ⟨k1,k2,k3,k4⟩:=zb4 hs1 gc hm
      have ey:tupY Hy vv i' = .ref t1:=zgn (by rw [A8 hi',e1]) e2
      rw [ey]
      refine ⟨_,rfl,_,rfl,p,_,rfl,.inr ⟨hvs',akey (worth ((goesOf ks (aheadOf (s0:Int))).getD i' ("",[])).2).toNat,t1,.inl (s' _ _ hpy),rfl,(by rw [<- k3,kI_V]; exact s' _ _ e3),rfl⟩,?_⟩
      rw [zgX hky lt' k1]
      exact h H' (Same.refl _)
     intro H' s' e
     refine ⟨_,(Ab vv.length).map fun i=>decide ((worth ((goesOf ks (aheadOf (s0:Int))).getD i ("",[])).2).toNat∈hs ++ ext),rfl,SqL.of ?_,_,rfl,?_⟩
     ·rw [e,C8.mpr (fun _ _=>rfl),B6]
      rfl
     have hany:(Qs ((Ab vv.length).map fun i=>decide ((worth ((goesOf ks (aheadOf (s0:Int))).getD i ("",[])).2).toNat∈hs ++ ext)) id=true) ↔ ∃ t∈hs ++ ext,st1 ks s0 t:=by
      have e1:=any_rangeH (goesOf ks (aheadOf (s0:Int))) (fun p=>decide ((worth p.2).toNat∈hs ++ ext)) ("",[])
      rw [hgl]
      show Qs ((Ab (goesOf ks (aheadOf (s0:Int))).length).map fun i=>decide ((worth ((goesOf ks (aheadOf (s0:Int))).getD i ("",[])).2).toNat∈hs ++ ext)) (fun b=>b)=true ↔ _
      rw [e1,Bq]
      constructor
      ·rintro ⟨pp,hpp,hd⟩
       exact ⟨_,of_decide_eq_true hd,_,(zb4 hs1 gc hpp).2.2.2,rfl⟩
      ·rintro ⟨t,ht,pp,hpp,rfl⟩
       rw [<- zbj hs1 gc] at hpp
       obtain ⟨gp,hgp',rfl⟩:=A7.mp hpp
       exact ⟨gp,hgp',decide_eq_true ht⟩
     have etk:L.take (i + 1)=L.take i ++ [s0]:=zaB hsi
     have sy':Same H (upd H' g (.dT kvs)):=fun b u eb=>by
      by_cases z:b=g
      ·rw [z,zac]; rw [z,hg] at eb; exact eb
      ·have:=sy _ _ eb
       rw [zah z] at this ⊢
       exact s' _ _ this
     refine ite2 (fun hz => ?_) (fun hz => ?_)
     ·have hz:=hany.mp hz
      refine ⟨_,rfl,_,rfl,p,_,rfl,DPut.t (k:=akey s0) (s' _ _ hpy) (s' _ _ hb) (Ai (?_:hvs'.length < 1000) za0),?_⟩
      ·have:=congrArg Ed hky
       rw [A2,A2] at this
       have:=zaw 128 _ nd' lt'
       omega
      have hpg:p≠g:=hgp.symm
      refine ⟨fun b u eb => ?_,by rw [zah hgp]; exact s' _ _ hgy,_,if s0∈hs ++ ext then ext else ext ++ [s0],_,rfl,zac,?_,?_,?_⟩
      ·have hbp:b≠p:=fun z=>by rw [z,np] at eb; cases eb
       have:=sy' _ _ eb
       by_cases z:b=g
       ·rw [z,zac] at this ⊢; exact this
       ·rw [zah z] at this ⊢
        rw [zah hbp]; exact this
      ·rw [zfc lt' hs1 hky]
       unfold addN
       split
       ·rfl
       ·rw [As]
      ·split
       ·exact ⟨nd',sub',h0',snd'⟩
       ·rename_i z
        rw [<- As]
        refine ⟨Cy.mpr ⟨nd',by simp,fun u hu' v hv e=>z (by rw [<- A6.mp hv,<- e]; exact hu')⟩,fun s hs' => ?_,C1 _ h0',fun s hs' => ?_⟩
        ·rcases Al.mp hs' with y | y
         ·exact sub' s y
         ·rw [A6.mp y]; exact hsm
        ·rcases Al.mp hs' with y | y
         ·exact snd' s y
         ·rw [A6.mp y]
          obtain ⟨t,ht,h1⟩:=hz
          obtain ⟨n,hn⟩:=snd' t ht
          exact ⟨1 + n,zbU (show rch ks s0 1 t from ⟨s0,rfl,h1⟩) hn⟩
      ·intro s hs' hst
       rw [etk] at hs'
       rcases Al.mp hs' with y | y
       ·have:=cov' s y hst
        split
        ·exact this
        ·rw [<- As]; exact C1 _ this
       ·rw [A6.mp y]
        split
        ·rename_i z; exact z
        ·rw [<- As]; exact Bg _ (A6.mpr rfl)
     ·have hz:¬ ∃ t∈hs ++ ext,st1 ks s0 t:=fun y=>hz (hany.mpr y)
      refine ⟨sy',s' _ _ hgy,hvs',ext,_,rfl,s' _ _ hpy,hky,⟨nd',sub',h0',snd'⟩,fun s hs' hst => ?_⟩
      rw [etk] at hs'
      rcases Al.mp hs' with y | y
      ·exact cov' s y hst
      ·rw [A6.mp y] at hst
       obtain ⟨t,ht,h1⟩:=hst
       exact absurd ⟨t,C1 _ ht,h1⟩ hz
   ·rintro σ Hy ⟨sy,hgy,hvs',ext,x3',rfl,hpy,hky,snd',cov'⟩
    rw [gr.len,By] at cov'
    refine ⟨hgy,_,hless,sy,hs.length,hvs',hs ++ ext,_,by rw [hvl],by rw [zah hgp.symm]; exact hpy,hky,snd',by rw [Ag]; omega,rfl,fun z s hsL hst => ?_⟩
    rw [Ag] at z
    have:ext = []:=Kc (by omega)
    subst this
    rw [Cd] at hst
    exact cov' s hsL hst
noncomputable def filB (C:Combs) (k:Nat):Bool:=decide (0∈rowN C k)
theorem zc7 {C:Combs} (g:GC C) {k:Nat}:filB C k=true ↔ Fil C k:=by
 unfold filB Fil
 rw [decide_eq_true_eq,zby g]
noncomputable def RowOk (C:Combs) (j:Nat) (l:List Nat):Prop:=l.Nodup/\(∀ s,s∈l ↔ HR C j s)/\l.Pairwise fun (s t:Nat)=>lexR 8 (aheadOf (s:Int))<=lexR 8 (aheadOf (t:Int))
theorem zcJ {C:Combs} (g:GC C) {i j:Nat} {l m:List Nat} (hl:RowOk C i l) (hm:RowOk C j m) (h:∀ s,HR C i s ↔ HR C j s):l=m:=by
 have p:l.Perm m:=(D0 hl.1 hm.1).mpr fun s=>by rw [hl.2.1,hm.2.1]; exact h s
 refine p.eq_of_pairwise (fun x y hx hy h1 h2 => ?_) hl.2.2 hm.2.2
 have x1:=zcc g (by decide) ((hl.2.1 x).mp hx).1
 have y1:=zcc g (by decide) ((hm.2.1 y).mp hy).1
 have a:=zdg x
 have b:=zdg y
 exact zdD x1 y1 ((zef 8 _ _ a.1 b.1 a.2 b.2).2 (by omega))
theorem left_nest {H:Hp} {r:A4} {ws:List V} {R:List Nat} (hr:H r=some (.tup ws)) (lr:LeftR H ws R):NestAt H r (R.map akey):=by
 refine ⟨ws,hr,?_⟩
 clear hr
 induction lr with
 | nil=>exact .nil
 | cons h _ ih =>
  obtain ⟨_,q,e1,e2⟩:=h
  refine .cons ⟨q,e1,?_⟩ ih
  unfold akey
  rw [kI_V]
  exact e2
theorem zfb:∀ {l m:List Nat},(∀ s∈l,s < 128)->(∀ s∈m,s < 128)->l.map akey=m.map akey->l=m
 | [],[],_,_,_=>rfl
 | a :: l,b :: m,h1,h2,e=>by
  rw [An,An] at e
  injection e with e1 e2
  rw [zda (h1 a Ah) (h2 b Ah) e1,zfb (fun s hs=>h1 s (Aa _ hs)) (fun s hs=>h2 s (Aa _ hs)) e2]
 | [],_ :: _,_,_,e=>by cases e
 | _ :: _,[],_,_,e=>by cases e
theorem eqv_tup0 (s:Nat) (hs:s < 128):En (intTup (aheadOf (s:Int))) (.tuple [])=decide (0=s):=by
 by_cases e:0=s
 ·subst e; decide
 ·rw [decide_eq_false e]
  cases h:aheadOf (s:Int) with
  | nil=>exact absurd (zdD (show 0 < 128 by decide) hs (by rw [h]; decide)) e
  | cons a l=>simp [intTup,En,Kv]
theorem zero_in {R:List Nat} (h:∀ s∈R,s < 128):((R.map fun (s:Nat)=>intTup (aheadOf (s:Int))).any fun e=>En e (.tuple []))=decide (0∈R):=by
 induction R with
 | nil=>rfl
 | cons a R ih =>
  rw [An,Fa,ih fun s hs=>h s (Aa _ hs),eqv_tup0 a (h a Ah),B5,Kk,decide_eq_true_eq,decide_eq_true_eq,decide_eq_true_eq,B9]
theorem lay_shapes (R:List Nat):Cr (R.map fun (s:Nat)=>intTup (aheadOf (s:Int)))=true:=by
 have one:∀ ns:List Int,Cr (ns.map Ex)=true:=by
  intro ns
  induction ns with
  | nil=>rfl
  | cons a ns ih=>rw [An,Cr,ih]; rfl
 induction R with
 | nil=>rfl
 | cons a R ih=>rw [An,Cr,ih]; simp [intTup,Go,one]
noncomputable def sp_fits:Sp:=fun vs H Q _=>∃ (g:A4) (kvs:List (List Key×V)) (ks:Combs) (L:List Nat),vs = [.ref g]/\H g=some (.dT kvs)/\GrL H kvs ks L/\L.Nodup/\ClsS ks L/\0∈L/\GC ks/\ks.length<=8/\∀ (t fl:A4) (m i:Nat) (H':Hp),Same H H'->i < m->m<=16513->(∀ s,HR ks i s ↔ HR ks m s)->H' t=some (.tup [.ref fl,.int (i:Nat)])->H' fl=some (.lst ((Ab m).map fun k=>V.bl (filB ks k)))->Q (.ref t) H'
theorem zgx:FnScope ["_law_graph_here","_law_home_here","_law_fits_here","_law_met","_law_row","_law_more","_law_ahead","_law_word_here","_law_further"] ["_law_graph_here"] (defScope s_fits):=⟨rfl,rfl,rfl,by decide +kernel,rfl,by decide +kernel,by decide +kernel⟩
theorem ok_fits (D:DefAt K mg "_law_fits" s_fits) (T:Bn mg) (C_home:Callee P w K mg base "_law_home" 1 ["_law_graph_here"] sp_home):Callee P w K mg base "_law_fits" 2 ["_law_graph_here"] sp_fits:=by
 refine D.callee zgx (fun _ _ _ _ _ _=>ln1 fun _=>rfl) (fun vs H Q E h => ?_) (fun f cdv A outer s H vs Q E hr h => ?_)
 ·obtain ⟨g,kvs,ks,L,rfl,_⟩:=h
  rfl
 ·obtain ⟨g,kvs,ks,L,rfl,hg,gr,ndL,cl,h0L,gc,h8,q⟩:=h
  have ltL:=cl.1
  have S:=zgx
  have hu:=zcC hr
  have hszL:(20000:Nat)<=sizeLine:=by decide
  have inL:∀ k s,rch ks 0 k s->s∈L:=by
   intro k
   induction k with
   | zero=>intro s h; rw [show s=0 from h]; exact h0L
   | succ k ih =>
    rintro s ⟨u,h1,p,hp,rfl⟩
    exact cl.2 u (ih u h1) p hp
  refine ⟨_,zab (zaj (i:=1) S.nd rfl (Am rfl) (zaH C_home (hr.mono (by decide)) rfl (zaa (pv 0) zae)))
  (zab (zaj (i:=2) S.nd rfl (Am rfl) (za1 (zae)))
  (zab (zaj (i:=3) S.nd rfl (Am rfl) (zc1))
  (zab (zaj (i:=4) S.nd rfl (Am rfl) (zbm (zaa (zbm (zae)) zae)))
  (zab (zc0 Bl (zdR (pc_nnotin' P w rfl rfl hr.units (pv 4) (pv 3)))
   (zab (ps_nput' P w rfl rfl hr.units (pv 3) (pv 4) (zal zat rfl T.n_len Bx (zaa (pv 2) zae)) rfl)
   (zab (za7 (zdF C2 Ca C9 zaV (pv 2) (zaa (zbW (op_inT hr.units) (zbm (zae)) (pv 4) (by with_unfolding_all rfl)) zae)))
   (zab (zaj (i:=5) S.nd rfl (Am rfl) (zea))
   (zab (zaZ Bl rfl (pi_tup (pv 4)) (zai (i:=6) S.nd rfl (Am rfl))
    (zaf (zaZ Bl rfl (zav (zdj hu (pv 0) (pv 6) (fun _ _=>rfl))) (zeD rfl (zau (zai (i:=7) S.nd rfl (Am rfl)) (zau (zai (i:=8) S.nd rfl (Am rfl)) (zbg))))
     (zaf (zaJ (zdR (zfY hu (pv 8) (pv 1)))
      (zaf (zce hu (pv 5) (pv 8) (zbH) rfl))
      (zap))))))
   (zaf (zaj (i:=4) S.nd rfl (Am rfl) (zbn zcD rfl T.n_tuple Oi (zaa (zal (call_sortedDT rfl hr.units) rfl T.n_sorted Hu (zaa (pv 5) zae)) zae)))))))))
  (zaf (zam (zbm (zaa (pv 2) (zaa (pe_nget' P w rfl rfl hr.units (pv 3) (pv 4) (fun _ _=>rfl)) zae))))))))),?_⟩
  refine ⟨_,rfl,g,kvs,ks,L,rfl,hg,gr,ndL,cl,h0L,gc,h8,fun ho hvs hs H0 s0 hho hhk hsub hhome => ?_⟩
  have hlt:∀ s∈hs,s < 128:=fun s h=>ltL s (hsub s h)
  refine ⟨bigr rfl,fun fl nfl => ?_⟩
  have s1:Same H0 (upd H0 fl (.lst [])):=Same.new nfl
  have hfl1:upd H0 fl (.lst []) fl=some (.lst []):=zac
  generalize upd H0 fl (.lst [])=H1 at s1 hfl1 ⊢
  refine fun d nd => ?_
  have nd0:=s1.free nd
  have s2:Same H1 (upd H1 d (.dK [])):=Same.new nd
  have hd2:upd H1 d (.dK []) d=some (.dK []):=zac
  generalize upd H1 d (.dK [])=H2 at s2 hd2 ⊢
  refine ⟨bigr rfl,fun e0 ne0 => ?_⟩
  have s3:Same H2 (upd H2 e0 (.tup [])):=Same.new ne0
  have he3:upd H2 e0 (.tup []) e0=some (.tup ((aheadOf ((0:Nat):Int)).map V.int)):=by
   rw [zac,show aheadOf ((0:Nat):Int) = [] by decide]; rfl
  generalize upd H2 e0 (.tup [])=H3 at s3 he3 ⊢
  refine ⟨bigr rfl,fun r0 nr0 => ?_⟩
  have s4:Same H3 (upd H3 r0 (.tup [.ref e0])):=Same.new nr0
  have hr4:upd H3 r0 (.tup [.ref e0]) r0=some (.tup [.ref e0]):=zac
  have he4:=s4 _ _ he3
  have s24:=(s2.trans s3).trans s4
  have hd4:=s4 _ _ (s3 _ _ hd2)
  have hfl4:=s24 _ _ hfl1
  have s04:=s1.trans s24
  generalize upd H3 r0 (.tup [.ref e0])=H4 at s04 hr4 he4 hd4 hfl4 ⊢
  have hdf:d≠fl:=fun z=>by rw [z,hfl1] at nd; cases nd
  refine ⟨fun m σ Hx=>Same H0 Hx/\∃ (k:Nat) (R:Nat->List Nat) (xs:List NX) (r:A4) (wr:List V) (x5 x6 x7 x8:Option V),m=16600 - k /\ σ = [some (.ref g),some (.ref ho),some (.ref fl),some (.ref d),some (.ref r),x5,x6,x7,x8]/\Hx fl=some (.lst ((Ab k).map fun j=>V.bl (filB ks j)))/\NDict P w Hx d xs/\Hx r=some (.tup wr)/\LeftR Hx wr (R k)/\(∀ j,j<=k->RowOk ks j (R j))/\nks xs=((Ab k).map fun j=>(R j).map akey)/\(∀ j,j < k->∃ c,((R j).map akey,c,V.int (j:Nat))∈xs)/\∀ i j,i < j->j < k->R i≠R j,
   ⟨_,s04,0,fun _ => [0],[],r0,[.ref e0],_,_,_,_,rfl,rfl,hfl4,⟨.inl ⟨rfl,hd4⟩,fun x hx=>by cases hx⟩,hr4,.cons ⟨by decide,e0,rfl,he4⟩ .nil,fun j hj => ?_,rfl,fun j hj=>by omega,fun i j h1 h2=>by omega⟩,?_⟩
  ·have:j=0:=by omega
   subst this
   exact ⟨by simp,fun s=>by rw [hr_zero,A6],Ln _ _⟩
  rintro m σ Hx ⟨sx,k,R,xs,r,wr,x5,x6,x7,x8,rfl,rfl,hfl,nd',hrx,lr,rok,hkeys,hval,dis⟩
  have hxl:xs.length=k:=by
   have:=congrArg Ed hkeys
   unfold nks at this
   rw [A2,A2,Aw] at this
   exact this
  have lt128:∀ j,j<=k->∀ s∈R j,s < 128:=fun j hj s hs=>zcc gc (by decide) (((rok j hj).2.1 s).mp hs).1
  have nest:=left_nest hrx lr
  refine ⟨_,rfl,_,rfl,d,r,xs,(R k).map akey,rfl,rfl,nd',nest,_,rfl,?_⟩
  by_cases hin:(R k).map akey∈nks xs
  ·rw [hasN_iff.mpr hin]
   refine iteF ?_
   rw [hkeys] at hin
   obtain ⟨i,hi,ei⟩:=A7.mp hin
   have hi:=B7.mp hi
   have er:R i=R k:=zfb (lt128 i (by omega)) (lt128 k (Ac _)) ei
   obtain ⟨c,hc⟩:=hval i hi
   refine ⟨_,rfl,_,rfl,_,rfl,d,r,c,xs,(R k).map akey,.int (i:Nat),rfl,rfl,nd',nest,by rw [<- er]; exact hc,bigr rfl,fun t nt => ?_⟩
   have st:Same Hx (upd Hx t (.tup [.ref fl,.int (i:Nat)])):=Same.new nt
   refine q t fl k i _ ((s0.trans sx).trans st) hi ?_ (fun s => ?_) zac (st _ _ hfl)
   ·have:=zf8 gc (M:=k - 1) fun a b hab hb heq=>dis a b hab (by omega) (zcJ gc (rok a (by omega)) (rok b (by omega)) heq)
    omega
   ·rw [<- (rok i (by omega)).2.1,<- (rok k (Ac _)).2.1,er]
  ·rw [zgb hin]
   refine iteT ?_
   have hnew:∀ j,j < k->R j≠R k:=fun j hj e=>hin (by rw [hkeys,<- e]; exact A7.mpr ⟨j,B7.mpr hj,rfl⟩)
   have hk:k<=16512:=zf8 gc (M:=k) fun a b hab hb heq=>by
    by_cases z:b=k
    ·subst z; exact hnew a hab (zcJ gc (rok a (by omega)) (rok b (by omega)) heq)
    ·exact dis a b hab (by omega) (zcJ gc (rok a (by omega)) (rok b (by omega)) heq)
   have hlR:(R k).length<=128:=zaw 128 _ (rok k (Ac _)).1 (lt128 k (Ac _))
   have hwr:=C3 lr
   refine ⟨fun σ' H'=>∃ m',m' < 16600 - k/\Same H0 H'/\∃ (k:Nat) (R:Nat->List Nat) (xs:List NX) (r:A4) (wr:List V) (x5 x6 x7 x8:Option V),m'=16600 - k /\ σ' = [some (.ref g),some (.ref ho),some (.ref fl),some (.ref d),some (.ref r),x5,x6,x7,x8]/\H' fl=some (.lst ((Ab k).map fun j=>V.bl (filB ks j)))/\NDict P w H' d xs/\H' r=some (.tup wr)/\LeftR H' wr (R k)/\(∀ j,j<=k->RowOk ks j (R j))/\nks xs=((Ab k).map fun j=>(R j).map akey)/\(∀ j,j < k->∃ c,((R j).map akey,c,V.int (j:Nat))∈xs)/\∀ i j,i < j->j < k->R i≠R j,fun _ _ h=>h,?_⟩
   refine ⟨_,rfl,_,_,rfl,.inl (SqL.of hfl),_,rfl,_,rfl,d,r,xs,(R k).map akey,rfl,rfl,nd',nest,hin,by omega,?_⟩
   rw [A2,Aw]
   have hmu:∀ q u,q≠d->Hx q=some u->upd Hx d (DN P w d (xs ++ [((R k).map akey,r,V.int (k:Nat))])) q=some u:=fun q u z e=>by rw [zah z]; exact e
   have htd:∀ q ys,Hx q=some (.tup ys)->q≠d:=fun q ys e z=>by
    rw [z] at e
    rcases nd'.1 with ⟨_,e'⟩ | e' <;> rw [e] at e' <;> cases e'
   have hkn:KeysN (upd Hx d (DN P w d (xs ++ [((R k).map akey,r,V.int (k:Nat))]))) (xs ++ [((R k).map akey,r,V.int (k:Nat))]):=fun x hx=>by
    refine NestAt.same (H:=Hx) ?_ fun q ys e=>hmu _ _ (htd q ys e) e
    rcases Al.mp hx with z | z
    ·exact nd'.2 x z
    ·rw [A6.mp z]; exact nest
   have nd5:NDict P w (upd Hx d (DN P w d (xs ++ [((R k).map akey,r,V.int (k:Nat))]))) d (xs ++ [((R k).map akey,r,V.int (k:Nat))]):=⟨.inr zac,hkn⟩
   have s5:Same H0 (upd Hx d (DN P w d (xs ++ [((R k).map akey,r,V.int (k:Nat))]))):=sx.put nd0
   have hfl5:=hmu _ _ hdf.symm hfl
   have hrd:r≠d:=htd _ _ hrx
   have hr5:=hmu _ _ hrd hrx
   have lr5:LeftR (upd Hx d (DN P w d (xs ++ [((R k).map akey,r,V.int (k:Nat))]))) wr (R k):=lr.mono fun q ys e=>hmu _ _ (htd q ys e) e
   generalize upd Hx d (DN P w d (xs ++ [((R k).map akey,r,V.int (k:Nat))]))=H5 at nd5 s5 hfl5 hr5 lr5 ⊢
   refine ⟨_,rfl,.inl ⟨rfl,_,SqL.of hfl5⟩,bigr rfl,fun et net => ?_⟩
   have s6:Same H5 (upd H5 et (.tup [])):=Same.new net
   have het:upd H5 et (.tup []) et=some (.tup []):=zac
   have hfl6:=s6 _ _ hfl5
   have hr6:=s6 _ _ hr5
   have lr6:=lr5.mono fun q ys e=>s6 _ _ e
   have nd6:=nd5.same s6
   have s06:=s5.trans s6
   generalize upd H5 et (.tup [])=H6 at het hfl6 hr6 lr6 nd6 s06 ⊢
   refine ⟨_,rfl,.tuple [],(R k).map fun (s:Nat)=>intTup (aheadOf (s:Int)),.tup (SqT.of het) .nil,.tup (SqT.of hr6) lr6.vd,rfl,lay_shapes _,by decide,?_⟩
   rw [zero_in (lt128 k (Ac _))]
   have ez:decide (0∈R k)=filB ks k:=by
    unfold filB
    rw [decide_eq_decide,(rok k (Ac _)).2.1,zgW,zby gc]
    rfl
   rw [ez]
   refine ⟨fl,_,_,rfl,rfl,hfl6,by rw [A2,Aw]; omega,?_⟩
   have efl:((Ab k).map fun j=>V.bl (filB ks j)) ++ [V.bl (filB ks k)]=(Ab (k + 1)).map fun j=>V.bl (filB ks j):=by
    rw [De,Az]; rfl
   rw [efl]
   have nfl0:H0 fl=none:=nfl
   have hf7:∀ q u,q≠fl->H6 q=some u->upd H6 fl (.lst ((Ab (k + 1)).map fun j=>V.bl (filB ks j))) q=some u:=fun q u z e=>by rw [zah z]; exact e
   have s07:Same H0 (upd H6 fl (.lst ((Ab (k + 1)).map fun j=>V.bl (filB ks j)))):=s06.put nfl0
   have htf:∀ q ys,H6 q=some (.tup ys)->q≠fl:=fun q ys e z=>by rw [z,hfl6] at e; cases e
   have nd7:NDict P w (upd H6 fl (.lst ((Ab (k + 1)).map fun j=>V.bl (filB ks j)))) d (xs ++ [((R k).map akey,r,V.int (k:Nat))]):=⟨nd6.1.imp (fun z=>⟨z.1,hf7 _ _ hdf z.2⟩) fun z=>hf7 _ _ hdf z,nd6.2.same fun q ys e=>hf7 _ _ (htf q ys e) e⟩
   have hr7:=hf7 _ _ (htf _ _ hr6) hr6
   have lr7:LeftR (upd H6 fl (.lst ((Ab (k + 1)).map fun j=>V.bl (filB ks j)))) wr (R k):=lr6.mono fun q ys e=>hf7 _ _ (htf q ys e) e
   have hfl7:upd H6 fl (.lst ((Ab (k + 1)).map fun j=>V.bl (filB ks j))) fl=some (.lst ((Ab (k + 1)).map fun j=>V.bl (filB ks j))):=zac
   generalize upd H6 fl (.lst ((Ab (k + 1)).map fun j=>V.bl (filB ks j)))=H7 at s07 nd7 hr7 lr7 hfl7 ⊢
   clear hmu htd hkn hf7 htf nd5 nd6 hfl5 hfl6 hr5 hr6 lr5 lr6 s5 s6 s06
   refine fun mo nmo => ?_
   have s8:Same H7 (upd H7 mo (.dT [])):=Same.new nmo
   have hmo:upd H7 mo (.dT []) mo=some (.dT []):=zac
   refine ⟨_,rfl,_,rfl,⟨_,SqT.of (s8 _ _ hr7)⟩,?_⟩
   refine zbA (gives_tup K r wr) (fun i σ Hy=>Same H7 Hy/\∃ (mvs:List (List Key×V)) (rs:List Nat) (x6 x7 x8:Option V),σ = [some (.ref g),some (.ref ho),some (.ref fl),some (.ref d),some (.ref r),some (.ref mo),x6,x7,x8]/\Hy mo=some (.dT mvs)/\mvs.map (·.1)=rs.map akey/\rs.Nodup/\(∀ s∈rs,s < 128)/\∀ n,n∈rs ↔ (∃ t∈(R k).take i,st1 ks t n)/\n∈hs) ⟨s8,[],[],_,_,_,rfl,hmo,rfl,Db,nofun,fun n=>by simp⟩ (fun i σ Hy _ h=>SqT.of (h.1 _ _ hr7)) ?_ ?_
   ·rintro i x σ Hy hx ⟨sy,mvs,rs,x6',x7',x8',rfl,hmy,hk',rn,rlt,hm⟩
    obtain ⟨t,et,t128,qt,rfl,hqt⟩:=Bs.rev lr7 hx
    have s0y:=s07.trans sy
    have htL:=inL k t (((rok k (Ac _)).2.1 t).mp (Be et)).1
    obtain ⟨qv,vv,ev,hqv,gv⟩:=(gr.same (s0.trans s0y)).val ndL ltL htL
    have hqk:Hy qt=some (.tup ((akey t).map kV)):=by
     unfold akey
     rw [kI_V]
     exact sy _ _ hqt
    have dg:DGet Hy g (.ref qt) (some (.ref qv)):=by rw [<- ev]; exact DGet.t (s0y _ _ (s0 _ _ hg)) hqk
    refine ⟨_,rfl,_,rfl,_,_,rfl,dg,_,rfl,⟨_,SqL.of hqv⟩,?_⟩
    have hvl:=gv.length
    have hqm:qv≠mo:=fun z=>by rw [z,hmy] at hqv; cases hqv
    refine zbA (zak K qv vv) (fun j σ Hz=>Same H7 Hz/\Hz qv=some (.lst vv)/\GoesR Hz vv (goesOf ks (aheadOf (t:Int)))/\∃ (mvs':List (List Key×V)) (rs':List Nat) (x7 x8:Option V),σ = [some (.ref g),some (.ref ho),some (.ref fl),some (.ref d),some (.ref r),some (.ref mo),some (.ref qt),x7,x8]/\Hz mo=some (.dT mvs')/\mvs'.map (·.1)=rs'.map akey/\rs'.Nodup/\(∀ s∈rs',s < 128)/\∀ n,n∈rs' ↔ n∈rs\/(n∈((goesOf ks (aheadOf (t:Int))).take j).map (fun p=>(worth p.2).toNat)/\n∈hs)) ⟨sy,hqv,gv,mvs,rs,_,_,rfl,hmy,hk',rn,rlt,fun n=>by simp⟩ (fun j σ Hz _ h=>SqL.of h.2.1) ?_ ?_
    ·rintro j y σ Hz hy ⟨sz,hqz,gz,mvs',rs',x7'',x8'',rfl,hmz,hkz,rnz,rltz,hmz'⟩
     obtain ⟨q1,t1,rfl,e2,e3,hltj⟩:=gz.nth hy
     have egd:(goesOf ks (aheadOf (t:Int))).getD j ("",[])=(goesOf ks (aheadOf (t:Int)))[j]:=by rw [Ak,A8 hltj]; rfl
     rw [egd] at e2 e3
     obtain ⟨k1,k2,k3,k4⟩:=zb4 t128 gc (Cv hltj)
     have e3':Hz t1=some (.tup ((akey (worth (goesOf ks (aheadOf (t:Int)))[j].2).toNat).map kV)):=by rw [<- k3,kI_V]; exact e3
     refine ⟨q1,_,rfl,SqT.of e2,rfl,_,_,rfl,_,_,rfl,rfl,?_⟩
     refine ⟨_,rfl,_,rfl,ho,_,rfl,DGet.t ((s07.trans sz) _ _ hho) e3',_,rfl,?_⟩
     rw [zgX hhk hlt k1]
     have etk:((goesOf ks (aheadOf (t:Int))).take (j + 1)).map (fun p=>(worth p.2).toNat)=((goesOf ks (aheadOf (t:Int))).take j).map (fun p=>(worth p.2).toNat) ++ [(worth (goesOf ks (aheadOf (t:Int)))[j].2).toNat]:=by
      rw [Cw hltj,Az]; rfl
     by_cases hin':(worth (goesOf ks (aheadOf (t:Int)))[j].2).toNat∈hs
     ·rw [decide_eq_true hin']
      refine iteT ?_
      have hb:=zaw 128 rs' rnz rltz
      have hl':mvs'.length=rs'.length:=by have:=congrArg Ed hkz; rwa [A2,A2] at this
      refine ⟨_,rfl,_,rfl,mo,_,rfl,DPut.t hmz e3' (Ai (by omega:mvs'.length < 1000) za0),?_⟩
      have kt:∀ qa ys,Hz qa=some (.tup ys)->upd Hz mo (.dT (putK mvs' (akey (worth (goesOf ks (aheadOf (t:Int)))[j].2).toNat) (.bl true))) qa=some (.tup ys):=fun qa ys z=>by rw [zah (fun z2=>by rw [z2,hmz] at z; cases z)]; exact z
      refine ⟨sz.put nmo,(by rw [zah hqm]; exact hqz),gz.mono kt,_,addN rs' (worth (goesOf ks (aheadOf (t:Int)))[j].2).toNat,_,_,rfl,zac,zfc rltz k1 hkz,addN_nd rnz,fun s hs' => ?_,fun n => ?_⟩
      ·rcases addN_mem.mp hs' with z | z
       ·exact rltz s z
       ·rw [z]; exact k1
      ·rw [addN_mem,hmz',etk,Al,A6]
       constructor
       ·rintro ((z | ⟨z1,z2⟩) | z)
        ·exact .inl z
        ·exact .inr ⟨.inl z1,z2⟩
        ·exact .inr ⟨.inr z,by rw [z]; exact hin'⟩
       ·rintro (z | ⟨z1 | z1,z2⟩)
        ·exact .inl (.inl z)
        ·exact .inl (.inr ⟨z1,z2⟩)
        ·exact .inr z1
     ·rw [decide_eq_false hin']
      refine iteF ?_
      refine ⟨sz,hqz,gz,mvs',rs',_,_,rfl,hmz,hkz,rnz,rltz,fun n => ?_⟩
      rw [hmz',etk,Al,A6]
      constructor
      ·rintro (z | ⟨z1,z2⟩)
       ·exact .inl z
       ·exact .inr ⟨.inl z1,z2⟩
      ·rintro (z | ⟨z1 | z1,z2⟩)
       ·exact .inl z
       ·exact .inr ⟨z1,z2⟩
       ·rw [z1] at z2; exact absurd z2 hin'
    ·rintro σ Hz ⟨sz,hqz,gz,mvs',rs',x7'',x8'',rfl,hmz,hkz,rnz,rltz,hmz'⟩
     rw [hvl,By] at hmz'
     refine ⟨sz,mvs',rs',_,_,_,rfl,hmz,hkz,rnz,rltz,fun n => ?_⟩
     have est:n∈(goesOf ks (aheadOf (t:Int))).map (fun p=>(worth p.2).toNat) ↔ st1 ks t n:=by
      unfold st1
      rw [<- zbj t128 gc,A7]
      constructor
      ·rintro ⟨p,hp,e⟩
       exact ⟨_,A7.mpr ⟨p,hp,rfl⟩,e⟩
      ·rintro ⟨p,hp,e⟩
       obtain ⟨p',hp',rfl⟩:=A7.mp hp
       exact ⟨p',hp',e⟩
     rw [hmz',hm,est,zaB et]
     constructor
     ·rintro (⟨⟨t',ht',h1⟩,h2⟩ | ⟨h1,h2⟩)
      ·exact ⟨⟨t',C1 _ ht',h1⟩,h2⟩
      ·exact ⟨⟨t,Bg _ (A6.mpr rfl),h1⟩,h2⟩
     ·rintro ⟨⟨t',ht',h1⟩,h2⟩
      rcases Al.mp ht' with z | z
      ·exact .inl ⟨⟨t',z,h1⟩,h2⟩
      ·rw [A6.mp z] at h1
       exact .inr ⟨h1,h2⟩
   ·rintro σ Hy ⟨sy,mvs,rs,x6',x7',x8',rfl,hmy,hk',rn,rlt,hm⟩
    rw [<- hwr,By] at hm
    have hb:=zaw 128 rs rn rlt
    rw [akeysL_kI] at hk'
    refine ⟨_,rfl,mo,mvs,_,rfl,.inl hmy,hk',fun ns hns => ?_,by rw [A2]; omega,fun p nss' ws' np pp pw tr' => ?_⟩
    ·obtain ⟨s',_,rfl⟩:=A7.mp hns
     exact zdg s'
    obtain ⟨rs',pr,rfl⟩:=keys_perm pp rlt
    have s9:Same Hy (upd Hy p (.lst ws')):=Same.new np
    have hp9:upd Hy p (.lst ws') p=some (.lst ws'):=zac
    have lr9:=(zgQ tr' fun s' hs'=>rlt s' (pr.mem_iff.mp hs')).mono fun _ _ z=>s9 _ _ z
    have s79:=sy.trans s9
    generalize upd Hy p (.lst ws')=H9 at s79 hp9 lr9 ⊢
    refine ⟨p,ws',rfl,.inl ⟨SqL.of hp9,fun rt nrt => ?_⟩⟩
    have sA:Same H9 (upd H9 rt (.tup ws')):=Same.new nrt
    have s7A:=s79.trans sA
    obtain ⟨R',hR1,hR2⟩:∃ R':Nat->List Nat,R' (k + 1)=rs'/\∀ j,j≠k + 1->R' j=R j:=⟨fun j=>if j=k + 1 then rs' else R j,if_pos rfl,fun j h=>if_neg h⟩
    refine ⟨16600 - (k + 1),by omega,s07.trans s7A,k + 1,R',xs ++ [((R k).map akey,r,V.int (k:Nat))],rt,ws',_,_,_,_,rfl,rfl,s7A _ _ hfl7,nd7.same s7A,zac,?_,fun j hj => ?_,?_,fun j hj => ?_,fun i j h1 h2 => ?_⟩
    ·rw [hR1]
     exact lr9.mono fun q ys e=>sA _ _ e
    ·by_cases z:j=k + 1
     ·subst z
      rw [hR1]
      refine ⟨pr.nodup_iff.mpr rn,fun s => ?_,?_⟩
      ·rw [pr.mem_iff,hm,zfq]
       constructor
       ·rintro ⟨⟨t,ht,h1⟩,h2⟩
        exact ⟨⟨t,((rok k (Ac _)).2.1 t).mp ht,h1⟩,(hhome s (hsub s h2)).mp h2⟩
       ·rintro ⟨⟨t,ht,h1⟩,h2⟩
        exact ⟨⟨t,((rok k (Ac _)).2.1 t).mpr ht,h1⟩,(hhome s (inL (k + 1) s ⟨t,ht.1,h1⟩)).mpr h2⟩
      ·rw [Bd] at pw
       exact pw
     ·rw [hR2 j z]
      exact rok j (by omega)
    ·unfold nks at hkeys ⊢
     rw [Az,hkeys,De,Az]
     congr 1
     ·refine C7 fun j hj => ?_
      rw [hR2 j (by have:=B7.mp hj; omega)]
     ·rw [N1,N1,hR2 k (by omega)]
    ·rw [hR2 j (by omega)]
     by_cases z:j=k
     ·subst z
      exact ⟨r,Bg _ (A6.mpr rfl)⟩
     ·obtain ⟨c,hc⟩:=hval j (by omega)
      exact ⟨c,C1 _ hc⟩
    ·rw [hR2 i (by omega),hR2 j (by omega)]
     by_cases z:j=k
     ·subst z; exact hnew i h1
     ·exact dis i j h1 (by omega)
theorem zhC {ks:List (Str×List Int)} (nd:(ks.map (·.1)).Nodup) {i:Nat} {k:Str×List Int} (h:ks[i]?=some k):cGet (ks.take i) k.1=none:=by
 rw [get_none]
 intro hm
 obtain ⟨c,hc,e⟩:=A7.mp hm
 obtain ⟨j,hj,ej⟩:=Ei hc
 have hi:=(Ar.mp h).1
 have hj':j < i:=by
  have:=hj
  rw [Cq] at this
  omega
 have e1:(ks.map (·.1))[j]?=some k.1:=by
  rw [Af,A8 (by omega)]
  rw [He] at ej
  rw [ej]
  exact congrArg some e
 have e2:(ks.map (·.1))[i]?=some k.1:=by rw [Af,h]; rfl
 have:=(Nk (by rw [A2]; omega) nd).mp (e1.trans e2.symm)
 omega
noncomputable def sp_mkbook (C:A4):Sp:=fun vs H Q _=>∃ (a:A4) (ws:List V) (ks:List (Str×List Int)),vs = [.ref a]/\H a=some (.lst ws)/\Drawn (fun _=>True) H ws ks/\ks.length<=8 /\
 ∀ b l G past H',Same H H'->H b=none->H l=none->(∀ x,G x->H x=none)->Bk C G H' b l ks past->past.length=ks.length->Q (.ref b) H'
theorem zgy:FnScope ["_law_kinds","_law_book_here","_law_word_here","_law_teeth_here"] ["_law_kinds"] (defScope s_book):=⟨rfl,rfl,rfl,by decide +kernel,rfl,by decide +kernel,by decide +kernel⟩
theorem ok_mkbook {ea:Nat->A4} {C:A4} (D:DefAt K mg "_law_book" s_book) (T:Bn mg) (BA:BookAt K C) (C_Book:Maker P w K mg base "Book" C CX0 1 ["self"] (sp_init C)) (M_put:Method P w K mg base C "put" (CX1 P w) 3 ["self","name","teeth"] (sp_put (K:=K) ea C)):Callee P w K mg base "_law_book" 4 ["_law_kinds"] (sp_mkbook C):=by
 refine D.callee zgy (fun _ _ _ _ _ _=>ln1 fun _=>rfl) (fun vs H Q E h => ?_) (fun f cdv A outer s H vs Q E hr h => ?_)
 ·obtain ⟨a,ws,ks,rfl,_⟩:=h
  rfl
 ·obtain ⟨a,ws,ks,rfl,ha,dr,hk8,q⟩:=h
  have S:=zgy
  have hu:=zcC hr
  have B_cls:=BA.cls
  have hlen:=dr.rows.length
  refine ⟨_,zab (zaj (i:=1) S.nd rfl (Am rfl) (pe_mk0 C_Book (hr.mono (by decide)) (by first | exact zeH | exact pass_try | exact zbz | exact zaK) rfl))
  (zab (zaZ Bl rfl (zav (pv 0)) (zfW rfl (zau (zai (i:=2) S.nd rfl (Am rfl)) (zau (zai (i:=3) S.nd rfl (Am rfl)) (zbg))))
   (zaf (za7 (zgG (pv 1) B_cls M_put (hr.mono (by decide)) (by first | exact zeH | exact pass_try | exact zbz | exact zaK) (zaa (pv 2) (zaa (zbn zb1 rfl T.n_list My (zaa (pv 3) zae)) zae))))))
  (zaf (zam (pv 1)))),?_⟩
  refine fun b dx nb ndx ndb=>⟨b,dx,rfl,zac,fun H1 l d m nl nd B=>⟨rfl,?_⟩⟩
  have hlb:l≠b:=fun z=>by rw [z,zac] at nl; cases nl
  have nl0:H l=none:=by
   rw [zah hlb] at nl
   by_cases z:l=dx
   ·rw [z]; exact ndx
   ·rw [zah z] at nl; exact nl
  have hdb:d≠b:=fun z=>by rw [z,zac] at nd; cases nd
  have nd0:H d=none:=by
   rw [zah hdb] at nd
   by_cases z:d=dx
   ·rw [z]; exact ndx
   ·rw [zah z] at nd; exact nd
  have s1:Same H H1:=fun x o e=>m.keep x o (by rw [zah (zao e nb),zah (zao e ndx)]; exact e) (zao e nb) (zao e nb)
  refine ⟨_,rfl,_,rfl,⟨_,SqL.of (s1 _ _ ha)⟩,?_⟩
  refine zbA (zak K a ws) (fun i σ H2=>Same H H2/\∃ G past x2 x3,σ = [some (.ref a),some (.ref b),x2,x3]/\Bk C G H2 b l (ks.take i) past/\past.length=i/\∀ x,G x->H x=none) ⟨s1,_,[],_,_,rfl,B,rfl,fun x g=>by rw [show x=d from g]; exact nd0⟩ (fun i σ H2 _ h=>SqL.of (h.1 _ _ ha)) ?_ ?_
  ·rintro i x σ H2 hx ⟨s2,G,past,x2,x3,rfl,B2,hp,hG⟩
   obtain ⟨k,qa,t,hk,rfl,hq,ht⟩:=(dr.same s2).rows.get hx
   have hi:i < ks.length:=(Ar.mp hk).1
   obtain ⟨hkn,hkg⟩:=dr.good k (Be hk)
   obtain ⟨dx2,d2,hb2,_⟩:=id B2.ins
   refine ⟨qa,_,rfl,SqL.of hq,rfl,_,_,rfl,_,_,rfl,rfl,?_⟩
   refine ⟨_,rfl,b,dx2,_,rfl,hb2,rfl,_,rfl,_,rfl,t,_,rfl,.inl (SqL.of ht),fun p np => ?_⟩
   have s3:Same H2 (upd H2 p (.lst (k.2.map V.int))):=Same.new np
   refine ⟨b,l,G,_,past,k.1,p,k.2,rfl,B2.same s3,SqL.of zac,?_,?_,?_⟩
   ·exact big (by have:=name_len hkn; omega)
   ·have:=zgY hkg; omega
   have hlt:(ks.take i).length=i:=by rw [Cq]; omega
   have e:putD (ks.take i) past k.1 k.2 = .ok (ks.take (i + 1)):=by
    unfold putD full
    rw [if_neg (by rw [hkn]; decide),if_neg (by rw [gt_teeth hkg]; decide),zhC dr.nd hk,if_neg (by simp),if_neg (by omega),if_neg (by omega),zgC (zhC dr.nd hk),gt_eq hkg,zaB hk]
   rw [e]
   intro H4 G4 m4 B4
   refine ⟨fun x o e'=>m4.keep x o (s3 _ _ (s2 _ _ e')) (zao e' nb) (zao e' nl0),G4,_,_,_,rfl,B4,by rw [Ag,Bp,hp],fun x g => ?_⟩
   rcases m4.new x g with g | g
   ·exact hG x g
   ·exact (s2.trans s3).free g
  ·rintro σ H2 ⟨s2,G,past,x2,x3,rfl,B2,hp,hG⟩
   rw [Hw (by omega)] at B2
   exact ⟨_,rfl,q b l G past H2 s2 nb nl0 hG B2 (by omega)⟩
theorem filB_per {C:Combs} (g:GC C) {i m:Nat} (him:i < m) (hp:∀ s,HR C i s ↔ HR C m s) (k:Nat) (hk:i<=k):filB C (k + (m - i))=filB C k:=by
 rw [B5,zc7 g,zc7 g]
 have:=zgV hp (k - i) 0
 rw [zgW,zgW,show i + (k - i)=k by omega,show m + (k - i)=k + (m - i) by omega] at this
 exact this.symm
noncomputable def sp_laying:Sp:=fun vs H Q _=>∃ (q:A4) (a:Int) (x:Str),vs = [.ref q]/\H q=some (.tup [.int a,.str x])/\Q (.bl true) H
theorem zex:FnScope ["_law_one"] ["_law_one"] (defScope s_laying):=⟨rfl,rfl,rfl,by decide +kernel,rfl,by decide +kernel,by decide +kernel⟩
theorem ok_laying (D:DefAt K mg "_law_laying" s_laying) (T:Bn mg) (C_whole:Callee P w K mg base "_law_whole" 1 ["_law_found"] sp_whole):Callee P w K mg base "_law_laying" 2 ["_law_one"] sp_laying:=by
 refine D.callee zex (fun _ _ _ _ _ _=>ln1 fun _=>rfl) (fun vs H Q E h => ?_) (fun f cdv A outer s H vs Q E hr h => ?_)
 ·obtain ⟨qa,a,x,rfl,_⟩:=h
  rfl
 ·obtain ⟨qa,a,x,rfl,hq,q⟩:=h
  have S:=zex
  refine ⟨_,zab (zaJ (PW.pt (zgk (zbe (zbh (zal (zb7 "tuple") rfl T.n_isinstance Fo (zaa (pv 0) (zaa (zcK (v := .ty "tuple") rfl T.n_tuple Oi rfl) zae))))) (zeB (zas zhn (zal zat rfl T.n_len Bx (zaa (pv 0) zae)) (zad) (zax _)))))
   (zaf (zam (zbH)))
   (zap))
  (zaf (zam (zeG (zaH C_whole (hr.mono (by decide)) rfl (zaa (zaM zbY (pv 0) (zad) (fun _ _=>rfl)) zae)) (zeF (zal (zb7 "str") rfl T.n_isinstance Fo (zaa (zaM zbY (pv 0) (zad) (fun _ _=>rfl)) (zaa (zcK (v := .ty "str") rfl T.n_str boot_str rfl) zae))))))),?_⟩
  refine ⟨_,rfl,_,_,true,rfl,.tup hq,rfl,_,rfl,?_⟩
  refine iteF ?_
  refine ⟨_,rfl,_,_,rfl,.inr (SqT.of hq),rfl,_,rfl,?_⟩
  refine iteF ?_
  refine ⟨_,rfl,_,_,_,_,rfl,rfl,SqT.of hq,at0,a,rfl,_,rfl,?_⟩
  refine iteT ?_
  exact ⟨_,rfl,_,_,_,_,rfl,rfl,SqT.of hq,at1,_,_,true,rfl,.str x,rfl,q⟩
noncomputable def sp_layings:Sp:=fun vs H Q _=>∃ (p:A4) (ws:List V),vs = [.ref p]/\H p=some (.lst ws)/\(∀ (i:Nat) x,ws[i]?=some x->∃ q a s,x = .ref q/\H q=some (.tup [.int a,.str s]))/\Q (.bl true) H
theorem zdN:FnScope ["_law_found","_law_one"] ["_law_found"] (defScope s_layings):=⟨rfl,rfl,rfl,by decide +kernel,rfl,by decide +kernel,by decide +kernel⟩
theorem ok_layings (D:DefAt K mg "_law_layings" s_layings) (T:Bn mg) (C_laying:Callee P w K mg base "_law_laying" 2 ["_law_one"] sp_laying):Callee P w K mg base "_law_layings" 3 ["_law_found"] sp_layings:=by
 refine D.callee zdN (fun _ _ _ _ _ _=>ln1 fun _=>rfl) (fun vs H Q E h => ?_) (fun f cdv A outer s H vs Q E hr h => ?_)
 ·obtain ⟨p,ws,rfl,_⟩:=h
  rfl
 ·obtain ⟨p,ws,rfl,hp,hw,q⟩:=h
  have S:=zdN
  refine ⟨_,zab (zaJ (zbe (zbh (zal (zb7 "list") rfl T.n_isinstance Fo (zaa (pv 0) (zaa (zcK (v := .ty "list") rfl T.n_list My rfl) zae)))))
   (zaf (zam (zbH)))
   (zap))
  (zab (zaZ Bl rfl (zav (pv 0)) (zai (i:=1) S.nd rfl (Am rfl))
   (zaf (zaJ (zbe (zbh (zaH C_laying (hr.mono (by decide)) rfl (zaa (pv 1) zae))))
    (zaf (zam (zbH)))
    (zap))))
  (zaf (zam (zbH)))),?_⟩
  refine ⟨_,rfl,_,_,true,rfl,.lst hp,rfl,_,rfl,?_⟩
  refine iteF ?_
  refine ⟨_,rfl,_,rfl,⟨_,SqL.of hp⟩,?_⟩
  refine zbA (zak K p ws) (fun i σ Hx=>Hx=H/\∃ x1,σ = [some (.ref p),x1]) ⟨rfl,_,rfl⟩ (fun i σ Hx _ h=>by rw [h.1]; exact SqL.of hp) ?_ ?_
  ·rintro i x σ Hx hx ⟨rfl,x1,rfl⟩
   obtain ⟨qa,a,x',rfl,e⟩:=hw i x hx
   refine ⟨_,rfl,qa,a,x',rfl,e,_,rfl,?_⟩
   refine iteF ?_
   exact ⟨rfl,_,rfl⟩
  ·rintro σ Hx ⟨rfl,x1,rfl⟩
   exact q
theorem at4 {x y z u:V}:atI [x,y,z,u] 0=some x/\atI [x,y,z,u] 1=some y/\atI [x,y,z,u] 2=some z/\atI [x,y,z,u] 3=some u:=⟨show atI _ ((0:Nat):Int)=_ from zaA rfl,show atI _ ((1:Nat):Int)=_ from zaA rfl,show atI _ ((2:Nat):Int)=_ from zaA rfl,show atI _ ((3:Nat):Int)=_ from zaA rfl⟩
theorem lays_each {H:Hp} {ws:List V} {nm:Nat->Str} {n:Nat} (r:LaysR H ws nm n):∀ (i:Nat) x,ws[i]?=some x->∃ q a s,x = .ref q/\H q=some (.tup [.int a,.str s]):=fun i x h=>by
 obtain ⟨j,_,q,e1,e2⟩:=Bs.rev r h
 exact ⟨q,_,_,e1,e2⟩
noncomputable def sp_drawn:Sp:=fun vs H Q _=>∃ (fl:A4) (i m:Nat) (c:Int) (F:Nat->Bool),vs = [.ref fl,.int (i:Nat),.int c]/\H fl=some (.lst ((Ab m).map fun k=>V.bl (F k)))/\i < m/\m<=17000/\(∀ k,i<=k->F (k + (m - i))=F k)/\F 0=true/\∀ (n:Nat) (H':Hp),Same H H'->F n=true->n<=400000017000->Q (.int (n:Nat)) H'
theorem zfS:FnScope ["_law_fits_here","_law_again","_law_cell","_law_good","_law_span","_law_small","_law_one"] ["_law_fits_here","_law_again","_law_cell"] (defScope s_drawn):=⟨rfl,rfl,rfl,by decide +kernel,rfl,by decide +kernel,by decide +kernel⟩
theorem ok_drawn (D:DefAt K mg "_law_drawn" s_drawn) (T:Bn mg):Callee P w K mg base "_law_drawn" 1 ["_law_fits_here","_law_again","_law_cell"] sp_drawn:=by
 refine D.callee zfS (fun _ _ _ _ _ _=>ln3 fun _ _ _=>rfl) (fun vs H Q E h => ?_) (fun f cdv A outer s H vs Q E hr h => ?_)
 ·obtain ⟨fl,i,m,c,F,rfl,_⟩:=h
  rfl
 ·obtain ⟨fl,i,m,c,F,rfl,hfl,him,hm,per,hF,q⟩:=h
  have S:=zfS
  have hszL:(20000:Nat)<=sizeLine:=by decide
  have p3:(0:Int) < 3:=by decide
  have elen:(((Ab m).map fun k=>V.bl (F k)).length:Int)=((m:Nat):Int):=by rw [A2,Aw]
  refine ⟨_,zab (zfh (i:=3) S.nd rfl (Am rfl) (own := ["_law_k"]) (caps := [(0,"_law_fits_here")]) rfl ⟨rfl,rfl,rfl,rfl,⟨⟨rfl,rfl,.inl rfl⟩,trivial⟩⟩ (zbf rfl T.n_range (zaa (zal zat rfl T.n_len Bx (zaa (pv 0) zae)) zae)) (fun _ _ _ _ _ _=>zai (i:=0) (zaz (by decide +kernel)) rfl (Am rfl)) (fun _ _ _ _ _ _=>zcd (zbh (zaM (zc4 K rfl) (pv 1) (pv 0) (fun _ _=>rfl)))) (fun _ _ _ _ _ _=>pv 0))
  (zab (zaj (i:=4) S.nd rfl (Hc rfl) (zar zdU (zal zat rfl T.n_len Bx (zaa (pv 0) zae)) (pv 1)))
  (zbF (zaJ (PW.pt (pw_and (zas zhN (zar za5 (pv 2) (zad)) (zad) (zax _)) (pw_and1 (zas zgl (zaM zay (pv 3) (zhm zfF (zad)) (fun _ _=>rfl)) (pv 1) (zax _)))))
   (zab (zfh (i:=5) S.nd rfl (Am rfl) (own := ["_law_k"]) (caps := [(0,"_law_fits_here"),(1,"_law_again"),(4,"_law_span")]) rfl ⟨rfl,rfl,rfl,rfl,⟨⟨rfl,rfl,.inl rfl⟩,⟨rfl,rfl,.inl rfl⟩,⟨rfl,rfl,.inl rfl⟩,trivial⟩⟩ (zbf rfl T.n_range (zaa (zad) zae)) (fun _ _ _ _ _ _=>zai (i:=0) (zaz (by decide +kernel)) rfl (Am rfl)) (fun _ _ _ _ _ _=>zcd (zbh (zaM (zc4 K rfl) (pv 1) (zal (call_min2 rfl) rfl T.n_min boot_min (zaa (pv 0) (zaa (zar zaU (pv 2) (zar za5 (zar zdU (pv 0) (pv 2)) (pv 3))) zae))) (fun _ _=>rfl)))) (fun _ _ _ _ _ _=>pv 0))
   (zaf (zam (zaM zay (pv 5) (zar za5 (zar zbo (pv 2) (zad)) (zal zat rfl T.n_len Bx (zaa (pv 5) zae))) (fun _ _=>rfl)))))
   (zap))
  (zab (zaj (i:=6) S.nd rfl (Am rfl) (zaM zay (pv 3) (zar za5 (zar zbo (pv 2) (zad)) (zal zat rfl T.n_len Bx (zaa (pv 3) zae))) (fun _ _=>rfl)))
  (zbF (zaJ (zas zgl (pv 6) (pv 1) (zax _))
   (zaf (zaj (i:=6) S.nd rfl (Am rfl) (zar zaU (pv 6) (zar zeb (pv 4) (zar za5 (zar zeb (zar zbo (pv 2) (zad)) (zad)) (zar zbo (zar zeb (zad) (zar op_pow (zad) (zad))) (pv 4)))))))
   (zap))
  (zaf (zam (pv 6))))))),?_⟩
  refine ⟨_,rfl,_,_,rfl,.inl (SqL.of hfl),_,rfl,by rw [elen]; omega,by rw [elen]; omega,fun D hD => ?_⟩
  rw [show (((Ab m).map fun k=>V.bl (F k)).length:Int).toNat=m by rw [elen]; omega]
  refine zbQ (capv := [some (.ref fl)]) (by rfl) (zaP 0 m) (by rw [zbl]; omega) hD (fun _ _=>trivial) (fun v=>match v with | .int x=>F x.toNat | _=>false) id ?_ ?_ ?_
  ·intro x hx H' R s' h
   obtain ⟨n,hn,rfl⟩:=A7.mp hx
   have hn:=B7.mp hn
   rw [Fz] at h ⊢
   refine ⟨_,rfl,_,rfl,_,_,_,_,rfl,rfl,SqL.of (s' _ _ hfl),zaA (v:=V.bl (F n)) (by rw [Af,Cf (by omega)]; rfl),_,rfl,?_⟩
   exact h H' (Same.refl _)
  ·intro x hx _ H' R s' h
   exact ⟨_,rfl,h H' (Same.refl _)⟩
  intro H1 s1 e1
  have e1':∀ (k:Nat) (Hx:Hp) (Dx:A4),Hx Dx=some (.lst ((((Ab k).map fun i:Nat=>V.int (0 + ((i:Nat):Int))).filter fun v=>match v with | .int x=>F x.toNat | _=>false).map id))->Hx Dx=some (.lst (((Ab k).filter F).map fun (n:Nat)=>V.int ((n:Nat):Int))):=fun k Hx Dx e=>by
   have ez:(fun i:Nat=>V.int (0 + ((i:Nat):Int)))=fun i=>V.int (i:Nat):=by funext i; rw [Fz]
   rw [e,Fj,ez,Fe]
   rfl
  have g1:=e1' m H1 D e1
  have hne:(Ab m).filter F ≠ []:=N0 (Ax.mpr ⟨B7.mpr (show 0 < m by omega),hF⟩)
  have hfl1:=s1 _ _ hfl
  refine ⟨_,rfl,_,_,rfl,.inl (SqL.of hfl1),_,rfl,_,_,rfl,rfl,?_⟩
  refine ⟨fun σ Hx=>Same H1 Hx /\ σ = [some (.ref fl),some (.int (i:Nat)),some (.int c),some (.ref D),some (.int ((((Ab m).map fun k=>V.bl (F k)).length:Int) - ((i:Nat):Int))),none,none],?_,?_⟩
  ·refine ⟨_,rfl,_,_,rfl,rfl,p3,_,_,rfl,rfl,_,rfl,?_⟩
   refine ite2 (fun _ => ?_) (fun _=>⟨Same.refl _,rfl⟩)
   obtain ⟨gl,gx,eg⟩:∃ gl gx,((Ab m).filter F).map (fun (n:Nat)=>V.int ((n:Nat):Int))=gl ++ [V.int gx]:=by
    have e:=Gf hne
    have e2:((Ab m).filter F).map (fun (n:Nat)=>V.int ((n:Nat):Int))=((Ab m).filter F).dropLast.map (fun (n:Nat)=>V.int ((n:Nat):Int)) ++ [V.int ((((Ab m).filter F).getLast hne:Nat):Int)]:=by
     conv=>lhs; rw [<- e]
     rw [Az]
     rfl
    exact ⟨_,_,e2⟩
   refine ⟨_,rfl,_,rfl,_,_,_,_,rfl,rfl,SqL.of g1,by rw [eg]; exact zhf _ _,_,rfl,_,_,rfl,rfl,_,rfl,?_⟩
   refine ite2 (fun _ => ?_) (fun _=>⟨Same.refl _,rfl⟩)
   refine ⟨_,rfl,by decide,by decide,fun D2 hD2 => ?_⟩
   refine zbQ (capv := [some (.ref fl),some (.int (i:Nat)),some (.int ((((Ab m).map fun k=>V.bl (F k)).length:Int) - ((i:Nat):Int)))]) (by rfl) (zaP 0 (100:Int).toNat) (by rw [zbl]; exact big (by decide)) hD2 (fun _ _=>trivial) (fun v=>match v with | .int x=>F x.toNat | _=>false) id ?_ ?_ ?_
   ·intro x hx H' R s' h
    obtain ⟨k,hn,rfl⟩:=A7.mp hx
    rw [Fz] at h ⊢
    rw [elen]
    obtain ⟨p1,p2,p3⟩:=per_min him per k (y:=(i:Int) + ((k:Int) - (i:Int)) % ((m:Int) - (i:Int))) rfl rfl
    refine ⟨_,rfl,_,rfl,_,rfl,_,rfl,_,rfl,_,_,rfl,rfl,_,rfl,_,_,rfl,rfl,by omega,_,_,rfl,rfl,_,_,rfl,_,_,_,_,rfl,rfl,SqL.of (s' _ _ hfl1),zfx (v:=V.bl (F k)) p1 ?_,_,rfl,?_⟩
    ·rw [Af,Cf p2,<- p3]; rfl
    ·exact h H' (Same.refl _)
   ·intro x hx _ H' R s' h
    exact ⟨_,rfl,h H' (Same.refl _)⟩
   intro H2 s2 e2
   have g2:=e1' 100 H2 D2 e2
   have hne2:(Ab 100).filter F ≠ []:=N0 (Ax.mpr ⟨B7.mpr (show 0 < 100 by decide),hF⟩)
   obtain ⟨hp,n,hn,hat⟩:=zgF hne2 (c / 3)
   obtain ⟨hn1,hn2⟩:=Ax.mp hn
   have:=B7.mp hn1
   exact ⟨_,rfl,_,rfl,_,_,rfl,rfl,⟨by decide,by decide⟩,_,rfl,_,_,rfl,.inl (SqL.of g2),_,_,rfl,rfl,hp,_,_,_,_,rfl,rfl,SqL.of g2,hat,q n H2 (s1.trans s2) hn2 (by omega)⟩
  rintro σ Hx ⟨sx,rfl⟩
  obtain ⟨hp,n1,hn,hat⟩:=zgF hne (c / 3)
  obtain ⟨hn1,hn2⟩:=Ax.mp hn
  have hn1:=B7.mp hn1
  have g1x:=sx _ _ g1
  refine ⟨_,rfl,_,rfl,_,_,rfl,rfl,⟨by decide,by decide⟩,_,rfl,_,_,rfl,.inl (SqL.of g1x),_,_,rfl,rfl,hp,_,_,_,_,rfl,rfl,SqL.of g1x,hat,?_⟩
  refine ⟨fun σ Hy=>Hy=Hx/\∃ n:Nat,F n=true/\n<=400000017000 /\ σ = [some (.ref fl),some (.int (i:Nat)),some (.int c),some (.ref D),some (.int ((((Ab m).map fun k=>V.bl (F k)).length:Int) - ((i:Nat):Int))),none,some (.int (n:Nat))],?_,?_⟩
  ·refine ⟨_,rfl,_,rfl,_,_,rfl,rfl,_,rfl,?_⟩
   refine ite2 (fun h => ?_) (fun _=>⟨rfl,n1,hn2,by omega,rfl⟩)
   have h:i<=n1:=by have:=of_decide_eq_true h; omega
   obtain ⟨p,rfl⟩:=Fk (Er him)
   have hp0:0 < p:=by omega
   have esp:(((Ab (i + p)).map fun k=>V.bl (F k)).length:Int) - ((i:Nat):Int)=(p:Nat):=by rw [elen]; omega
   have eq:(4 * 10 ^ (11:Int).toNat:Int) / ((((Ab (i + p)).map fun k=>V.bl (F k)).length:Int) - ((i:Nat):Int))=((400000000000 / p:Nat):Int):=by
    rw [esp,show (4 * 10 ^ (11:Int).toNat:Int)=((400000000000:Nat):Int) by decide,<- Int.natCast_ediv]
   have hq:0 < 400000000000 / p:=Nat.div_pos (by omega) hp0
   have hqm:p * (400000000000 / p)<=400000000000:=Nat.mul_div_le _ _
   have hq0:(0:Int) < (4 * 10 ^ (11:Int).toNat:Int) / ((((Ab (i + p)).map fun k=>V.bl (F k)).length:Int) - ((i:Nat):Int)):=by rw [eq]; omega
   have r0:=Fg (c / 3 * 48271) (show ((400000000000 / p:Nat):Int)≠0 by omega)
   have r1:=Es (c / 3 * 48271) (show (0:Int) < ((400000000000 / p:Nat):Int) by omega)
   refine ⟨_,rfl,_,rfl,_,rfl,_,_,rfl,rfl,⟨by decide,by decide⟩,_,_,rfl,rfl,IntMulOk.of_right (Ih (by decide) (by decide)),_,_,rfl,rfl,⟨by decide,by decide,by decide⟩,_,_,rfl,rfl,Ml (Ih (by decide) (by decide)),_,rfl,_,_,rfl,rfl,⟨by rw [esp]; omega,by rw [esp]; omega⟩,_,_,rfl,rfl,hq0,_,_,rfl,rfl,Ml (Ih (by rw [esp]; omega) (by rw [esp]; omega)),_,_,rfl,rfl,?_⟩
   obtain ⟨r,er,hr1⟩:∃ r:Nat,c / 3 * 48271 % ((400000000000 / p:Nat):Int)=(r:Nat)/\r < 400000000000 / p:=⟨(c / 3 * 48271 % ((400000000000 / p:Nat):Int)).toNat,by omega,by omega⟩
   have ev:((n1:Nat):Int) + ((((List.range (i + p)).map fun k=>V.bl (F k)).length:Int) - ((i:Nat):Int)) * (c / 3 * 48271 % ((4 * 10 ^ (11:Int).toNat:Int) / ((((List.range (i + p)).map fun k=>V.bl (F k)).length:Int) - ((i:Nat):Int))))=((n1 + p * r:Nat):Int):=by
    rw [eq,esp,er,Kp,Od]
   rw [C5] at per
   have hb:p * r<=p * (400000000000 / p):=Mz _ (by omega)
   refine ⟨rfl,n1 + p * r,by rw [zeE per h]; exact hn2,by omega,?_⟩
   rw [<- ev]
   rfl
  rintro σ Hy ⟨rfl,n,h1,h2,rfl⟩
  exact ⟨_,rfl,q n Hy (s1.trans sx) h1 h2⟩
theorem zcL {H:Hp} {ws:List V} {nm:Nat->Str} {n:Nat} (r:LaysR H ws nm n):∀ (i:Nat) x,ws[i]?=some x->∃ q a s,x = .ref q/\H q=some (.tup [.int a,.str s]):=fun i x h=>by
 obtain ⟨j,_,q,e1,e2⟩:=Bs.rev r h
 exact ⟨q,_,_,e1,e2⟩
theorem zfn {H:Hp} {ws:List V} {nm:Nat->Str} {n:Nat} (r:LaysR H ws nm n):∀ (i:Nat) x,ws[i]?=some x->∃ q,x = .ref q/\H q=some (.tup [V.int (((laid nm n).getD i 0:Nat):Int),V.str (nm ((laid nm n).getD i 0))]):=fun i x h=>by
 obtain ⟨j,ej,q,e1,e2⟩:=Bs.rev r h
 rw [Ak,show (laid nm n)[i]?=some j from ej]
 exact ⟨q,e1,e2⟩
noncomputable def sp_joined (C:A4):Sp:=fun vs H Q _=>∃ (b l pk:A4) (G:A4->Prop) (cs:Combs) (past:List Combs) (ws:List V) (m n:Nat),vs = [.ref b,.ref pk,.int (m:Nat),.int (n:Nat)]/\Bk C G H b l cs past/\H pk=some (.lst ws)/\Drawn (fun _=>True) H ws cs/\m + n<=200/\0 < Wy (srt cs) m 0/\0 < Wy (srt cs) n 0/\∀ H',Same H H'->Q (.bl true) H'
theorem zey:FnScope ["_law_book_here","_law_kinds","_law_one","_law_two","_law_left","_law_right","_law_both","_law_every","_law_many"] ["_law_book_here","_law_kinds","_law_one","_law_two"] (defScope s_joined):=⟨rfl,rfl,rfl,by decide +kernel,rfl,by decide +kernel,by decide +kernel⟩
theorem ok_joined {ea:Nat->A4} {C:A4} (D:DefAt K mg "_law_joined" s_joined) (T:Bn mg) (C_first_filling:Callee1 P w K mg base "first_filling" 5 ["book","length"] (sp_ffill ea C)) (C_count_fillings:Callee1 P w K mg base "count_fillings" 5 ["book","length"] (sp_count ea C)) (C_layings:Callee P w K mg base "_law_layings" 3 ["_law_found"] sp_layings) (C_covers:Callee P w K mg base "_law_covers" 2 ["_law_kinds","_law_layings_here","_law_length"] sp_covers) (C_whole:Callee P w K mg base "_law_whole" 1 ["_law_found"] sp_whole):Callee P w K mg base "_law_joined" 6 ["_law_book_here","_law_kinds","_law_one","_law_two"] (sp_joined C):=by
 refine D.callee zey (fun _ _ _ _ _ _=>ln4 fun _ _ _ _=>rfl) (fun vs H Q E h => ?_) (fun f cdv A outer s H vs Q E hr h => ?_)
 ·obtain ⟨b,l,pk,G,cs,past,ws,m,n,rfl,_⟩:=h
  rfl
 ·obtain ⟨b,l,pk,G,cs,past,ws,m,n,rfl,B,hpk,dr,hmn,hwm,hwn,q⟩:=h
  have S:=zey
  have pm:=zd5 dr.nd
  obtain ⟨gcs,h8⟩:=zde B
  have ne:∀ c∈srt cs,c.1≠A5 "" := fun c hc z=>by
   have:=(dr.good c (pm.mem_iff.mp hc)).1
   rw [z] at this
   exact absurd this (by decide +kernel)
  have nds:((srt cs).map (·.1)).Nodup:=(pm.map _).nodup_iff.mpr dr.nd
  have hm0:0<=((m:Nat):Int)/\((m:Nat):Int)<=200:=⟨by omega,by omega⟩
  have hn0:0<=((n:Nat):Int)/\((n:Nat):Int)<=200:=⟨by omega,by omega⟩
  have hs0:0<=((m:Nat):Int) + ((n:Nat):Int)/\((m:Nat):Int) + ((n:Nat):Int)<=200:=⟨by omega,by omega⟩
  have em:((m:Nat):Int).toNat=m:=by omega
  have en:((n:Nat):Int).toNat=n:=by omega
  have es:(((m:Nat):Int) + ((n:Nat):Int)).toNat=m + n:=by omega
  have ec:((m:Nat):Int) + ((n:Nat):Int)=((m + n:Nat):Int):=by omega
  have hpr:=zhi (srt cs) n m 0
  have hws:0 < Wy (srt cs) (m + n) 0:=Ai (Mt hwm hwn) hpr
  have Sl:=zgs (srt cs) (A5 "")
  have hst:=path_join (C:=srt cs) (f:=fun i=>(fw (srt cs) (A5 "") (Wy (srt cs)) m i).1) (g:=fun i=>(fw (srt cs) (A5 "") (Wy (srt cs)) n i).1) (nm:=fnm (srt cs) (A5 "") (Wy (srt cs)) m) (nm':=fnm (srt cs) (A5 "") (Wy (srt cs)) n) (m:=m) (n:=n) (zg0 gcs Sl hwm) rfl (fun i hi=>(zdy gcs Sl hwm hi).2.2) (fun i hi=>(zdy gcs Sl hwn hi).2.2)
  have hz:join m (fun i=>(fw (srt cs) (A5 "") (Wy (srt cs)) m i).1) (fun i=>(fw (srt cs) (A5 "") (Wy (srt cs)) n i).1) 0=0:=join_zero rfl rfl
  have he:join m (fun i=>(fw (srt cs) (A5 "") (Wy (srt cs)) m i).1) (fun i=>(fw (srt cs) (A5 "") (Wy (srt cs)) n i).1) (m + n)=0:=by
   unfold join
   rw [if_neg (by omega),C5]
   exact zg0 gcs Sl hwn
  have lt:∀ i,i<=m + n->join m (fun i=>(fw (srt cs) (A5 "") (Wy (srt cs)) m i).1) (fun i=>(fw (srt cs) (A5 "") (Wy (srt cs)) n i).1) i < 128:=fun i hi=>by
   unfold join
   by_cases z:i < m
   ·rw [if_pos z]; exact (zgm gcs Sl hwm i (by omega)).1
   ·rw [if_neg z]; exact (zgm gcs Sl hwn (i - m) (by omega)).1
  have c12:=zdT gcs nds ne hz he hst
  have back:∀ d,d<=m + n->0 < Wy (srt cs) d (join m (fun i=>(fw (srt cs) (A5 "") (Wy (srt cs)) m i).1) (fun i=>(fw (srt cs) (A5 "") (Wy (srt cs)) n i).1) (m + n - d)):=by
   intro d
   induction d with
   | zero=>intro _; rw [M5,he]; exact Ai (by decide:0 < 1) (by show 1<=(if (0:Nat)=0 then 1 else 0); rw [if_pos rfl]; exact Ac _)
   | succ d ih =>
    intro hd
    have:=hst (m + n - (d + 1)) (by omega)
    rw [show m + n - (d + 1) + 1=m + n - d by omega] at this
    show 0 < ((stp (srt cs) _).map fun p=>Wy (srt cs) d p.2.toNat).sum
    refine sum_pos.mpr ⟨_,this,?_⟩
    rw [Cs]
    exact ih (by omega)
  have least:=fw_least gcs nds ne (srt_ord dr.nd) Sl hws (f:=join m (fun i=>(fw (srt cs) (A5 "") (Wy (srt cs)) m i).1) fun i=>(fw (srt cs) (A5 "") (Wy (srt cs)) n i).1) (nm:=join m (fnm (srt cs) (A5 "") (Wy (srt cs)) m) (fnm (srt cs) (A5 "") (Wy (srt cs)) n)) (fl:=fun i=>(Ab i).any fun j=>decide (join m (fnm (srt cs) (A5 "") (Wy (srt cs)) m) (fnm (srt cs) (A5 "") (Wy (srt cs)) n) j=A5 "")) hz rfl hst (fun i _=>by simp only [De,List.any_append,Fa,List.any_nil,Ji]) (fun i hi=>by
   have e1:∀ k (fl:Bool) p,bh (A5 "") (Wy (srt cs) k) (ro (srt cs) (Wy (srt cs)) fl k) p=Wy (srt cs) k p.2.toNat:=fun k fl p=>by
    unfold bh ro
    cases fl <;> simp
   rw [e1,Cs]
   have:=back (m + n - 1 - i) (by omega)
   rwa [show m + n - (m + n - 1 - i)=i + 1 by omega] at this)
  have hle:ltS (namesOf (join m (fnm (srt cs) (A5 "") (Wy (srt cs)) m) (fnm (srt cs) (A5 "") (Wy (srt cs)) n)) (m + n)) (namesOf (fnm (srt cs) (A5 "") (Wy (srt cs)) (m + n)) (m + n))=false:=by
   rcases least with z | z
   ·rw [z]; exact zgN _
   ·exact z.2
  obtain ⟨d1,d2⟩:=fw_cover gcs nds ne Sl hws
  clear hst hz he lt back least
  refine ⟨_,zab (zaj (i:=4) S.nd rfl (Am rfl) (zbw C_first_filling (hr.mono (by decide)) (by first | exact pass_try | exact zbz | exact zaK) rfl (zaa (pv 0) (zaa (pv 2) zae))))
  (zab (zaj (i:=5) S.nd rfl (Am rfl) (zbw C_first_filling (hr.mono (by decide)) (by first | exact pass_try | exact zbz | exact zaK) rfl (zaa (pv 0) (zaa (pv 3) zae))))
  (zab (zaj (i:=6) S.nd rfl (Am rfl) (zbw C_first_filling (hr.mono (by decide)) (by first | exact pass_try | exact zbz | exact zaK) rfl (zaa (pv 0) (zaa (zar zaU (pv 2) (pv 3)) zae))))
  (zab (zaJ (PW.pt (zgk (zbe (zbh (zaH C_layings (hr.mono (by decide)) rfl (zaa (pv 4) zae)))) (zgk (zbe (zbh (zaH C_layings (hr.mono (by decide)) rfl (zaa (pv 5) zae)))) (zeB (zbe (zbh (zaH C_layings (hr.mono (by decide)) rfl (zaa (pv 6) zae))))))))
   (zaf (zam (zbH)))
   (zap))
  (zab (zaj (i:=7) S.nd rfl (Am rfl) (zar zeK (pv 4) (zaS (own := ["_law_place","_law_word_here"]) (caps := [(2,"_law_one")]) rfl ⟨rfl,rfl,rfl,rfl,⟨⟨rfl,rfl,.inl rfl⟩,trivial⟩⟩ (zav (pv 5)) (fun _ _ _ _ _ _=>zd9 K rfl (n:=2) rfl (zau (zai (i:=0) (zaz (by decide +kernel)) rfl (Am rfl)) (zau (zai (i:=1) (zaz (by decide +kernel)) rfl (Am rfl)) (zbg)))) (fun _ _ _ _ _ _=>za6) (fun _ _ _ _ _ _=>zbm (zaa (zar zaU (pv 2) (pv 0)) (zaa (pv 1) zae))))))
  (zab (zaJ (PW.pt (zgk (zbe (zbh (zaH C_covers (hr.mono (by decide)) rfl (zaa (pv 1) (zaa (pv 7) (zaa (zar zaU (pv 2) (pv 3)) zae)))))) (zeB (zbe (zbh (zaH C_covers (hr.mono (by decide)) rfl (zaa (pv 1) (zaa (pv 6) (zaa (zar zaU (pv 2) (pv 3)) zae)))))))))
   (zaf (zam (zbH)))
   (zap))
  (zab (zaJ (zas (op_cmS .Gt (.inr (.inr rfl)) hr.units) (zaS (own := ["_law_place","_law_word_here"]) (caps := []) rfl ⟨rfl,rfl,rfl,rfl,trivial⟩ (zav (pv 6)) (fun _ _ _ _ _ _=>zd9 K rfl (n:=2) rfl (zau (zai (i:=0) (zaz (by decide +kernel)) rfl (Am rfl)) (zau (zai (i:=1) (zaz (by decide +kernel)) rfl (Am rfl)) (zbg)))) (fun _ _ _ _ _ _=>za6) (fun _ _ _ _ _ _=>pv 1)) (zaS (own := ["_law_place","_law_word_here"]) (caps := []) rfl ⟨rfl,rfl,rfl,rfl,trivial⟩ (zav (pv 7)) (fun _ _ _ _ _ _=>zd9 K rfl (n:=2) rfl (zau (zai (i:=0) (zaz (by decide +kernel)) rfl (Am rfl)) (zau (zai (i:=1) (zaz (by decide +kernel)) rfl (Am rfl)) (zbg)))) (fun _ _ _ _ _ _=>za6) (fun _ _ _ _ _ _=>pv 1)) (zax _))
   (zaf (zam (zbH)))
   (zap))
  (zab (zaj (i:=8) S.nd rfl (Am rfl) (QE.h (zcx (zag (qe (zbw C_count_fillings (hr.mono (by decide)) (by first | exact pass_try | exact zbz | exact zaK) rfl (zaa (pv 0) (zaa (pv 2) zae)))) (zag (qe (zbw C_count_fillings (hr.mono (by decide)) (by first | exact pass_try | exact zbz | exact zaK) rfl (zaa (pv 0) (zaa (pv 3) zae)))) (zag (qe (zbw C_count_fillings (hr.mono (by decide)) (by first | exact pass_try | exact zbz | exact zaK) rfl (zaa (pv 0) (zaa (zar zaU (pv 2) (pv 3)) zae)))) (zaL)))))))
  (zab (zaJ (zbe (zbh (zal (zc9 rfl) rfl T.n_all O0 (zaa (zaS (own := ["_law_number"]) (caps := []) rfl ⟨rfl,rfl,rfl,rfl,trivial⟩ (zav (pv 8)) (fun _ _ _ _ _ _=>zai (i:=0) (zaz (by decide +kernel)) rfl (Am rfl)) (fun _ _ _ _ _ _=>za6) (fun _ _ _ _ _ _=>zaH C_whole (hr.mono (by decide)) rfl (zaa (pv 0) zae))) zae))))
   (zaf (zam (zbH)))
   (zap))
  (zaf (zam (zeG (zbW zfi (zaM zay (pv 8) (zad) (fun _ _=>rfl)) (zad) (zax _)) (zeG (zbW zfi (zaM zay (pv 8) (zad) (fun _ _=>rfl)) (zad) (zax _)) (zeF (zbW zgl (zaM zay (pv 8) (zad) (fun _ _=>rfl)) (zar zeb (zaM zay (pv 8) (zad) (fun _ _=>rfl)) (zaM zay (pv 8) (zad) (fun _ _=>rfl))) (zax _))))))))))))))),?_⟩
  refine ⟨_,rfl,_,rfl,b,l,G,cs,past,_,rfl,B,?_⟩
  rw [if_pos hm0,em,if_pos hwm]
  intro ra wa H1 s1 _ hra la
  refine ⟨_,rfl,_,rfl,b,l,G,cs,past,_,rfl,B.same s1,?_⟩
  rw [if_pos hn0,en,if_pos hwn]
  intro rb wb H2 s2 _ hrb lb
  have s12:=s1.trans s2
  refine ⟨_,rfl,_,rfl,_,rfl,_,_,rfl,rfl,b,l,G,cs,past,_,rfl,B.same s12,?_⟩
  rw [if_pos hs0,es,if_pos hws]
  intro rc wc H3 s3 _ hrc lc
  have s13:=s12.trans s3
  have hra3:=s3 _ _ (s2 _ _ hra)
  have hrb3:=s3 _ _ hrb
  have la3:LaysR H3 wa _ m:=la.mono fun _ _ e=>s3 _ _ (s2 _ _ e)
  have lb3:LaysR H3 wb _ n:=lb.mono fun _ _ e=>s3 _ _ e
  generalize fnm (srt cs) (A5 "") (Wy (srt cs)) m=na at la3 c12 hle
  generalize fnm (srt cs) (A5 "") (Wy (srt cs)) n=nb at lb3 c12 hle
  generalize fnm (srt cs) (A5 "") (Wy (srt cs)) (m + n)=nc at lc hle d1 d2
  refine ⟨_,rfl,ra,wa,rfl,hra3,zcL la3,_,rfl,?_⟩
  refine iteF ?_
  refine ⟨_,rfl,rb,wb,rfl,hrb3,zcL lb3,_,rfl,?_⟩
  refine iteF ?_
  refine ⟨_,rfl,rc,wc,rfl,hrc,zcL lc,_,rfl,?_⟩
  refine iteF ?_
  have hal:=la3.len
  have hbl:=lb3.len
  have hcl:=lc.len
  refine ⟨_,rfl,_,rfl,_,rfl,⟨_,SqL.of hrb3⟩,fun D hD => ?_⟩
  refine zhb (K:=K) (capv := [some (.int (m:Nat))]) (by rfl) (zak K rb wb) (big (by omega)) hD (fun H' s'=>SqL.of (s' _ _ hrb3)) _ _ (zfn lb3) (fun _=>true) (fun Hx i v=>∃ t,v = .ref t/\Hx t=some (.tup [.int ((m:Nat) + ((((laid nb n).getD i 0:Nat):Int))),.str (nb ((laid nb n).getD i 0))])) (fun Ha Hb i v s' h=>by obtain ⟨t,e,h⟩:=h; exact ⟨t,e,s' _ _ h⟩) (fun Ha i v l' l'' hv hl h=>by
   obtain ⟨t,e,h⟩:=h
   refine ⟨t,e,?_⟩
   rw [zah (fun z=>hv (by rw [e,z]))]
   exact h) (fun i _ H' R s' h=>h H' (Same.refl _)) ?_ ?_
  ·intro i hi _ H' R s' hDl h
   refine ⟨_,rfl,_,rfl,_,_,rfl,rfl,_,rfl,bigr rfl,fun t nt => ?_⟩
   exact h _ _ (Same.new nt) (fun z=>by injection z with z; exact hDl (z ▸ nt)) ⟨t,rfl,zac⟩
  intro H4 ys s4 e4 pr
  rw [C8.mpr (fun _ _=>rfl)] at pr
  have hpl:=C3 pr
  rw [Aw] at hpl
  have hra4:=s4 _ _ hra3
  refine ⟨_,_,_,_,rfl,rfl,hra4,e4,big (show wa.length + ys.length<=1000 by omega),fun pj npj => ?_⟩
  have s5:Same H4 (upd H4 pj (.lst (wa ++ ys))):=Same.new npj
  have hpj:upd H4 pj (.lst (wa ++ ys)) pj=some (.lst (wa ++ ys)):=zac
  generalize upd H4 pj (.lst (wa ++ ys))=H5 at s5 hpj ⊢
  have s35:=s4.trans s5
  have s15:=s13.trans s35
  have lj:LaysR H5 (wa ++ ys) (join m na nb) (m + n):=by
   refine lays_join (PL.lays.mpr (la3.mono fun _ _ e=>s35 _ _ e)) ?_
   have hlb:wb.length=(laid nb n).length:=(C3 lb3).symm
   have e:laid nb n=(Ab wb.length).map fun i=>(laid nb n).getD i 0:=by
    rw [hlb,zdQ (laid nb n) 0 fun j=>j,Jo]
   rw [e]
   refine paired_map ?_
   exact Bs.mapP pr fun i v ⟨_,t,a,z⟩=>⟨t,a,s5 _ _ z⟩
  have lc5:LaysR H5 wc nc (m + n):=lc.mono fun _ _ e=>s35 _ _ e
  have hrc5:=s35 _ _ hrc
  refine ⟨_,rfl,_,rfl,_,rfl,_,rfl,_,_,rfl,rfl,?_⟩
  refine ⟨pk,pj,m + n,ws,wa ++ ys,cs,laysOf (join m na nb) (m + n),by rw [<- ec]; rfl,s15 _ _ hpk,dr.same s15,hpj,zgR lj,by omega,zf4 pm (fun x hx=>(zcO c12.1 x hx).2),zd2 pm nds c12.2,zeP _ _,fun H6 s6=>⟨_,rfl,?_⟩⟩
  refine iteF ?_
  have s16:=s15.trans s6
  refine ⟨_,rfl,_,rfl,_,rfl,_,rfl,_,_,rfl,rfl,?_⟩
  refine ⟨pk,rc,m + n,ws,wc,cs,laysOf nc (m + n),by rw [<- ec]; rfl,s16 _ _ hpk,dr.same s16,s6 _ _ hrc5,zgR (lc5.mono fun _ _ e=>s6 _ _ e),by omega,zf4 pm (fun x hx=>(zcO d1 x hx).2),zd2 pm nds d2,zeP _ _,fun H7 s7=>⟨_,rfl,?_⟩⟩
  refine iteF ?_
  have s57:=s6.trans s7
  have s17:=s15.trans s57
  have lc7:LaysR H7 wc nc (m + n):=lc5.mono fun _ _ e=>s57 _ _ e
  have lj7:LaysR H7 (wa ++ ys) (join m na nb) (m + n):=lj.mono fun _ _ e=>s57 _ _ e
  have hrc7:=s57 _ _ hrc5
  have hpj7:=s57 _ _ hpj
  have hjl:=lj7.len
  refine ⟨_,rfl,_,rfl,⟨_,SqL.of hrc7⟩,fun D1 hD1 => ?_⟩
  refine zfv (K:=K) (capv := []) (by rfl) (zak K rc wc) (big (by omega)) hD1 (fun H' s'=>SqL.of (s' _ _ hrc7)) _ _ (zfn lc7) (fun _=>true) (fun j=>V.str (nc ((laid nc (m + n)).getD j 0))) (fun _ _ _=>nofun) (fun i _ H' R s' h=>h H' (Same.refl _)) (fun i _ _ H' R s' h=>⟨_,rfl,h H' (Same.refl _)⟩) ?_
  intro H8 s8 e8
  have e8:=zdV (C3 lc7).symm e8
  refine ⟨_,rfl,_,rfl,⟨_,SqL.of (s8 _ _ hpj7)⟩,fun D2 hD2 => ?_⟩
  refine zfv (K:=K) (capv := []) (by rfl) (zak K pj (wa ++ ys)) (big (by omega)) hD2 (fun H' s'=>SqL.of (s' _ _ (s8 _ _ hpj7))) _ _ (zfn (lj7.mono fun _ _ e=>s8 _ _ e)) (fun _=>true) (fun j=>V.str (join m na nb ((laid (join m na nb) (m + n)).getD j 0))) (fun _ _ _=>nofun) (fun i _ H' R s' h=>h H' (Same.refl _)) (fun i _ _ H' R s' h=>⟨_,rfl,h H' (Same.refl _)⟩) ?_
  intro H9 s9 e9
  have e9:=zdV (C3 lj7).symm e9
  refine ⟨_,_,_,_,rfl,rfl,SqL.of (s9 _ _ e8),SqL.of e9,_,rfl,?_⟩
  rw [show cmS .Gt (namesOf nc (m + n)) (namesOf (join m na nb) (m + n))=false from hle]
  refine iteF ?_
  have s19:=(s17.trans s8).trans s9
  refine ⟨_,rfl,_,rfl,b,l,G,cs,past,_,rfl,B.same s19,?_⟩
  rw [if_pos hm0,em]
  intro H10 s10
  refine ⟨_,rfl,_,rfl,b,l,G,cs,past,_,rfl,(B.same s19).same s10,?_⟩
  rw [if_pos hn0,en]
  intro H11 s11
  refine ⟨_,rfl,_,rfl,_,rfl,_,_,rfl,rfl,b,l,G,cs,past,_,rfl,((B.same s19).same s10).same s11,?_⟩
  rw [if_pos hs0,es]
  intro H12 s12'
  refine ⟨bigr rfl,fun pq npq => ?_⟩
  have s13':Same H12 (upd H12 pq (.lst [V.int ((Wy (srt cs) m 0:Nat):Int),V.int ((Wy (srt cs) n 0:Nat):Int),V.int ((Wy (srt cs) (m + n) 0:Nat):Int)])):=Same.new npq
  have hpq:upd H12 pq (.lst [V.int ((Wy (srt cs) m 0:Nat):Int),V.int ((Wy (srt cs) n 0:Nat):Int),V.int ((Wy (srt cs) (m + n) 0:Nat):Int)]) pq=some (.lst [V.int ((Wy (srt cs) m 0:Nat):Int),V.int ((Wy (srt cs) n 0:Nat):Int),V.int ((Wy (srt cs) (m + n) 0:Nat):Int)]):=zac
  have s1x:=((s19.trans s10).trans s11).trans (s12'.trans s13')
  generalize upd H12 pq (.lst [V.int ((Wy (srt cs) m 0:Nat):Int),V.int ((Wy (srt cs) n 0:Nat):Int),V.int ((Wy (srt cs) (m + n) 0:Nat):Int)])=H13 at s1x hpq ⊢
  refine ⟨_,rfl,_,rfl,⟨_,SqL.of hpq⟩,fun D3 hD3 => ?_⟩
  refine zgg (capv := []) (by rfl) (zak K pq _) (big (by show 3<=1000; decide)) hD3 (fun H' s'=>SqL.of (s' _ _ hpq)) (fun _=>true) (fun _ => .bl true) (fun _ _ _=>nofun) (fun i x hx H R s' h=>h H (Same.refl _)) ?_ ?_
  ·intro j x hx _ H' R s' h
   have:∃ y:Int,x = .int y:=by
    match j,hx with
    | 0,hx=>exact ⟨_,(Bh hx).symm⟩
    | 1,hx=>exact ⟨_,(Bh hx).symm⟩
    | 2,hx=>exact ⟨_,(Bh hx).symm⟩
    | j + 3,hx=>cases hx
   obtain ⟨y,rfl⟩:=this
   exact ⟨_,rfl,_,rfl,h H' (Same.refl _)⟩
  intro H14 s14 e14
  refine ⟨_,[true,true,true],rfl,SqL.of e14,_,rfl,?_⟩
  refine iteF ?_
  have hpq14:=s14 _ _ hpq
  have at2':∀ x y z:V,atI [x,y,z] 0=some x/\atI [x,y,z] 1=some y/\atI [x,y,z] 2=some z:=fun _ _ _=>⟨show atI _ ((0:Nat):Int)=_ from zaA rfl,show atI _ ((1:Nat):Int)=_ from zaA rfl,show atI _ ((2:Nat):Int)=_ from zaA rfl⟩
  refine ⟨_,rfl,_,_,_,_,rfl,rfl,SqL.of hpq14,(at2' _ _ _).1,_,_,rfl,rfl,_,rfl,?_⟩
  rw [decide_eq_true (show (0:Int) < ((Wy (srt cs) m 0:Nat):Int) by omega)]
  refine iteT ?_
  refine ⟨_,rfl,_,_,_,_,rfl,rfl,SqL.of hpq14,(at2' _ _ _).2.1,_,_,rfl,rfl,_,rfl,?_⟩
  rw [decide_eq_true (show (0:Int) < ((Wy (srt cs) n 0:Nat):Int) by omega)]
  refine iteT ?_
  refine ⟨_,rfl,_,_,_,_,rfl,rfl,SqL.of hpq14,(at2' _ _ _).2.2,_,rfl,_,_,_,_,rfl,rfl,SqL.of hpq14,(at2' _ _ _).1,_,rfl,_,_,_,_,rfl,rfl,SqL.of hpq14,(at2' _ _ _).2.1,_,_,rfl,rfl,IntMulOk.of_bits (zhj h8 (by omega)) (zhj h8 (by omega)),_,_,rfl,rfl,?_⟩
  show Q (V.bl (decide (((Wy (srt cs) m 0:Nat):Int) * ((Wy (srt cs) n 0:Nat):Int)<=((Wy (srt cs) (m + n) 0:Nat):Int)))) H14
  rw [decide_eq_true (show ((Wy (srt cs) m 0:Nat):Int) * ((Wy (srt cs) n 0:Nat):Int)<=((Wy (srt cs) (m + n) 0:Nat):Int) by rw [<- Od]; exact Int.ofNat_le.mpr hpr)]
  exact q H14 (s1x.trans s14)
noncomputable def spLaw (K:Av):Sp:=fun vs H Q _=>∃ (a:A4) (ns:List Int),vs = [.ref a]/\SqL K H a (ns.map V.int)/\ns.length<=63/\∀ H',Q (.bl true) H'
theorem zht:FnScope ["_law_script","_law_kinds","_law_book_here","_law_fits_here","_law_again","_law_one","_law_two","_law_length","_law_found"] ["_law_script"] (defScope s_law):=⟨rfl,rfl,rfl,by decide +kernel,rfl,by decide +kernel,by decide +kernel⟩
theorem ok_law {ea:Nat->A4} {C:A4} (D:DefAt K mg "law" s_law) (T:Bn mg) (C_at:Callee P w K mg base "_law_at" 1 ["_law_script","_law_k"] (sp_at K)) (C_combs:Callee P w K mg base "_law_combs" 2 ["_law_script"] (sp_combs K)) (C_book:Callee P w K mg base "_law_book" 4 ["_law_kinds"] (sp_mkbook C)) (C_turned:Callee P w K mg base "_law_turned" 1 ["_law_kinds"] sp_turned) (C_graph:Callee P w K mg base "_law_graph" 3 ["_law_kinds","_law_begin"] sp_graph) (C_fits:Callee P w K mg base "_law_fits" 2 ["_law_graph_here"] sp_fits) (C_drawn:Callee P w K mg base "_law_drawn" 1 ["_law_fits_here","_law_again","_law_cell"] sp_drawn) (C_fits_flush:Callee1 P w K mg base "fits_flush" 5 ["book","length"] (sp_fitsf ea C)) (C_joined:Callee P w K mg base "_law_joined" 6 ["_law_book_here","_law_kinds","_law_one","_law_two"] (sp_joined C)):Callee P w K mg base "law" 7 ["_law_script"] (spLaw K):=by
 refine D.callee zht (fun _ _ _ _ _ _=>ln1 fun _=>rfl) (fun vs H Q E h => ?_) (fun f cdv A outer s H vs Q E hr h => ?_)
 ·obtain ⟨a,ns,rfl,_⟩:=h
  rfl
 ·obtain ⟨a,ns,rfl,hS,hl,q⟩:=h
  have S:=zht
  refine ⟨_,zab (zaj (i:=1) S.nd rfl (Am rfl) (zaH C_combs (hr.mono (by decide)) rfl (zaa (pv 0) zae)))
  (zab (zaj (i:=2) S.nd rfl (Am rfl) (zaH C_book (hr.mono (by decide)) rfl (zaa (pv 1) zae)))
  (zab (zgE (zaH C_fits (hr.mono (by decide)) rfl (zaa (zaH C_graph (hr.mono (by decide)) rfl (zaa (zaH C_turned (hr.mono (by decide)) rfl (zaa (pv 1) zae)) (zaa (zbm (zae)) zae))) zae)) (zeD rfl (zau (zai (i:=3) S.nd rfl (Am rfl)) (zau (zai (i:=4) S.nd rfl (Am rfl)) (zbg)))))
  (zab (zaj (i:=5) S.nd rfl (Am rfl) (zaH C_drawn (hr.mono (by decide)) rfl (zaa (pv 3) (zaa (pv 4) (zaa (zaH C_at (hr.mono (by decide)) rfl (zaa (pv 0) (zaa (zad) zae))) zae)))))
  (zab (zaj (i:=6) S.nd rfl (Am rfl) (zaH C_drawn (hr.mono (by decide)) rfl (zaa (pv 3) (zaa (pv 4) (zaa (zaH C_at (hr.mono (by decide)) rfl (zaa (pv 0) (zaa (zad) zae))) zae)))))
  (zab (zaZ Bl rfl (zav ((zcx (zag (qe (pv 5)) (zag (qe (pv 6)) (zag (qe (zar zaU (pv 5) (pv 6))) (zaL))))).h)) (zai (i:=7) S.nd rfl (Am rfl))
   (zab (zaj (i:=8) S.nd rfl (Am rfl) (zbw C_fits_flush (hr.mono (by decide)) (by first | exact pass_try | exact zbz | exact zaK) rfl (zaa (pv 2) (zaa (pv 7) zae))))
   (zaf (zaJ (PW.pt (zgk (zbe (zbh (zal (zb7 "bool") rfl T.n_isinstance Fo (zaa (pv 8) (zaa (zcK (v := .ty "bool") rfl T.n_bool boot_bool rfl) zae))))) (zeB (zbe (zbh (pv 8))))))
    (zaf (zam (zbH)))
    (zap)))))
  (zaf (zam (pe_or (zbW zfi (zar zaU (pv 5) (pv 6)) (zad) (zax _)) (zeF (zaH C_joined (hr.mono (by decide)) rfl (zaa (pv 2) (zaa (pv 1) (zaa (pv 5) (zaa (pv 6) zae)))))))))))))),?_⟩
  refine ⟨_,rfl,a,ns,rfl,hS,fun pk ks ws H1 s1 npk hpk dr hk8 => ?_⟩
  have gc:GC ks:=fun c hc=>(dr.good c hc).2
  have pm:=zd5 dr.nd
  refine ⟨_,rfl,pk,ws,ks,rfl,hpk,dr,hk8,fun b l G past H2 s2 nb nl nG B hpl => ?_⟩
  obtain ⟨gcs,hs8⟩:=zde B
  refine ⟨_,rfl,pk,ws,ks,rfl,s2 _ _ hpk,(dr.same s2).any.rows,gc,hk8,fun tk wt H6 s6 htk kt => ?_⟩
  refine ⟨bigr rfl,fun te nte => ?_⟩
  have s7:Same H6 (upd H6 te (.tup [])):=Same.new nte
  have hte:upd H6 te (.tup []) te=some (.tup ((aheadOf ((0:Nat):Int)).map V.int)):=by
   rw [zac,show aheadOf ((0:Nat):Int) = [] by decide]; rfl
  have htk7:=s7 _ _ htk
  have kt7:=kt.same s7
  have s67:=s6.trans s7
  generalize upd H6 te (.tup [])=H7 at s67 hte htk7 kt7 ⊢
  have gct:=zd4 gc
  have htl:(turnC ks).length<=8:=by unfold turnC; rw [A2]; exact hk8
  refine ⟨tk,te,wt,turnC ks,0,rfl,htk7,kt7,htl,gct,by decide,hte,fun g kvs L H8 s8 ng hg gr ndL cl h0L => ?_⟩
  refine ⟨g,kvs,turnC ks,L,rfl,hg,gr,ndL,cl,h0L,gct,htl,fun tf fl m i H9 s9 him hm hper htf hfl => ?_⟩
  refine ⟨tf,_,rfl,SqT.of htf,rfl,_,_,rfl,_,_,rfl,rfl,?_⟩
  have s29:=(s67.trans s8).trans s9
  have s19:=(s1.trans s2).trans s29
  have fp:=filB_per gct him hper
  have hf0:filB (turnC ks) 0=true:=(zc7 gct).mpr (zem _)
  have ef:∀ k,filB (turnC ks) k=true->Fil (srt ks) k:=fun k h=>(fil_perm gcs gc pm k).mpr ((fil_turn gc dr.nd).mp ((zc7 gct).mp h))
  refine ⟨_,rfl,_,rfl,_,rfl,a,ns,9,rfl,s19.seq hS,by decide,fl,i,m,_,_,rfl,hfl,him,by omega,fp,hf0,fun n1 H10 s10 hn1 hb1 => ?_⟩
  refine ⟨_,rfl,_,rfl,_,rfl,a,ns,10,rfl,(s19.trans s10).seq hS,by decide,fl,i,m,_,_,rfl,s10 _ _ hfl,him,by omega,fp,hf0,fun n2 H11 s11 hn2 hb2 => ?_⟩
  have s211:=(s29.trans s10).trans s11
  have f1:=ef n1 hn1
  have f2:=ef n2 hn2
  refine ⟨_,rfl,_,rfl,_,rfl,_,rfl,_,_,rfl,rfl,bigr rfl,fun pl npl => ?_⟩
  have s12:Same H11 (upd H11 pl (.lst [V.int (n1:Nat),V.int (n2:Nat),V.int ((n1:Nat) + (n2:Nat))])):=Same.new npl
  have hpl:upd H11 pl (.lst [V.int (n1:Nat),V.int (n2:Nat),V.int ((n1:Nat) + (n2:Nat))]) pl=some (.lst [V.int (n1:Nat),V.int (n2:Nat),V.int ((n1:Nat) + (n2:Nat))]):=zac
  generalize upd H11 pl (.lst [V.int (n1:Nat),V.int (n2:Nat),V.int ((n1:Nat) + (n2:Nat))])=H12 at s12 hpl ⊢
  have s212:=s211.trans s12
  have hall:∀ (j:Nat) y,[V.int (n1:Nat),V.int (n2:Nat),V.int ((n1:Nat) + (n2:Nat))][j]?=some y->∃ n:Nat,y = .int (n:Nat)/\n<=1000000000000/\Fil (srt ks) n:=fun j y hy=>by
   match j,hy with
   | 0,hy=>exact ⟨n1,(Bh hy).symm,by omega,f1⟩
   | 1,hy=>exact ⟨n2,(Bh hy).symm,by omega,f2⟩
   | 2,hy=>exact ⟨n1 + n2,by rw [<- Bh hy,Kp],by omega,zft f1 f2⟩
   | j + 3,hy=>cases hy
  refine ⟨_,rfl,⟨_,SqL.of hpl⟩,?_⟩
  have B12:=B.same s212
  refine zbA (zak K pl _) (fun _ σ Hx=>Same H12 Hx/\∃ x1 x2,σ = [some (.ref a),some (.ref pk),some (.ref b),some (.ref fl),some (.int (i:Nat)),some (.int (n1:Nat)),some (.int (n2:Nat)),x1,x2]) ⟨Same.refl _,_,_,rfl⟩ (fun _ σ Hx _ h=>SqL.of (h.1 _ _ hpl)) ?_ ?_
  ·rintro j y σ Hx hy ⟨sx,x1,x2,rfl⟩
   obtain ⟨n,rfl,hn,fn⟩:=hall j y hy
   have h0:0<=((n:Nat):Int)/\((n:Nat):Int)<=1000000000000:=⟨by omega,by omega⟩
   refine ⟨_,rfl,_,rfl,b,l,G,ks,past,_,rfl,B12.same sx,?_⟩
   rw [if_pos h0,show ((n:Nat):Int).toNat=n by omega,decide_eq_true ((zby gcs).mpr fn)]
   intro H13 s13
   refine ⟨_,rfl,_,_,true,rfl,.bl _,rfl,_,rfl,?_⟩
   refine iteF ?_
   refine ⟨_,rfl,_,rfl,?_⟩
   exact iteF ⟨sx.trans s13,_,_,rfl⟩
  rintro σ Hx ⟨sx,x1,x2,rfl⟩
  refine ⟨_,rfl,_,rfl,_,_,rfl,rfl,_,_,rfl,rfl,_,rfl,?_⟩
  refine ite2 (fun _=>q _) (fun h => ?_)
  have h:n1 + n2<=200:=by
   have:¬ (200:Int) < ((n1:Nat):Int) + ((n2:Nat):Int):=fun z=>h (decide_eq_true z)
   omega
  have s2x:=s212.trans sx
  exact ⟨_,rfl,_,rfl,_,rfl,_,rfl,b,l,pk,G,ks,past,ws,n1,n2,rfl,B.same s2x,(s2.trans s2x) _ _ hpk,(dr.same (s2.trans s2x)).any,h,Wy_pos.mpr f1,Wy_pos.mpr f2,fun H' _=>q H'⟩
end
theorem walk {l:Jx} {q:Aq} {loose:List Str} {XP:(Str->Option A0)->Bz->Prop} {YP:Bj->Bz->Prop} {d:DefRec} {K:Q9->Av} (hn:l.most=some 63) (hdf:d.params.defaults = [])
  (hY:∀ (w:Bj) (h:Bz),YP w h->(K w.params).In h)
  (F:∀ (w:Bj) (mg:Str->Option A0) (fa:A4) (h:Bz),(K w.params).In h->h.Ns mainGlobals mg->mg d.name=some (.ref fa) ->
   ∃ fd:Ej,(∀ (s:A3) (u:A0),Ks s fd ⟨[u],[]⟩ [("_law_script",u)])/\∀ base:Bz,(K w.params).In base->base.Ns mainGlobals mg->FnOk l.prog w (K w.params) mg base CX0 7 fa fd ["_law_script"] (spLaw (K w.params))) :
  Nm q loose XP YP l.row.toRowW d [] (fun f vs=>Mo f vs) :=
 L2.walk_of (n:=63) (k:=7) (x := "_law_script") (CX:=fun _=>CX0) (sp:=fun w=>spLaw (K w.params)) hn (by decide) hdf ⟨rfl,by decide,by decide⟩ hY F (fun _ _ a ns hl _ hS=>⟨a,ns,rfl,hS,hl,fun _=>rfl⟩) fun _ _ _ _ _ z=>z
theorem all {l:Jx} {w:Bj} {K:Av} {h:Bz} {mg:Str->Option A0} {fa:A4} (X:K.In h) (G:h.Ns mainGlobals mg) (hfa:mg "law" = some (.ref fa)) (T:Bn mg)
  (V_MOST_COMBS:∃ t,mg "MOST_COMBS" = some (.int 8 t))
  (V_MOST_NAME:∃ t,mg "MOST_NAME" = some (.int 6 t))
  (V_MOST_TOOTH:∃ t,mg "MOST_TOOTH" = some (.int 7 t))
  (V_MOST_DEEDS:∃ t,mg "MOST_DEEDS" = some (.int 300 t))
  (V_SHAPES:∃ t,mg "SHAPES" = some (.int 128 t))
  (V_MOST_LENGTH:∃ t,mg "MOST_LENGTH" = some (.int 1000000000000 t))
  (V_MOST_FILLED:∃ t,mg "MOST_FILLED" = some (.int 200 t))
  {t_TOOTH_WORTH:A4} (G_TOOTH_WORTH:mg "TOOTH_WORTH" = some (.ref t_TOOTH_WORTH)) (TC_TOOTH_WORTH:tupChk K t_TOOTH_WORTH [1,2,4,8,16,32,64,128]=true)
  {C a0 a1 a2 a3 a4 a9 a11 a13 a14:A4}
  (R0:mg "BadName" = some (.ref a0)) (X0:Dh K a0 valErr "ValueError.__new__" = true)
  (R1:mg "BadTeeth" = some (.ref a1)) (X1:Dh K a1 valErr "ValueError.__new__" = true)
  (R2:mg "NameTaken" = some (.ref a2)) (X2:Dh K a2 valErr "ValueError.__new__" = true)
  (R3:mg "BookFull" = some (.ref a3)) (X3:Dh K a3 valErr "ValueError.__new__" = true)
  (R4:mg "NoComb" = some (.ref a4)) (X4:Dh K a4 valErr "ValueError.__new__" = true)
  (R9:mg "DeedsFull" = some (.ref a9)) (X9:Dh K a9 valErr "ValueError.__new__" = true)
  (R11:mg "BadShape" = some (.ref a11)) (X11:Dh K a11 valErr "ValueError.__new__" = true)
  (R13:mg "BadLength" = some (.ref a13)) (X13:Dh K a13 valErr "ValueError.__new__" = true)
  (R14:mg "NoFilling" = some (.ref a14)) (X14:Dh K a14 valErr "ValueError.__new__" = true)
  (INIT:InitAt K mg C "Book" "Book.__init__" s_Book___init__) (BCHK:bookChk K C=true)
  (N_put:MethAt K C "Book" "put" s_Book_put)
  (N_names:MethAt K C "Book" "names" s_Book_names)
  (N_teeth:MethAt K C "Book" "teeth" s_Book_teeth)
  (N_check_comb:MethAt K C "Book" "check_comb" s_Book_check_comb)
  (N_set_comb:MethAt K C "Book" "set_comb" s_Book_set_comb)
  (N_do_deed:MethAt K C "Book" "do_deed" s_Book_do_deed)
  (D_shape_steps:DefAt K mg "shape_steps" s_shape_steps)
  (D_teeth_worth:DefAt K mg "teeth_worth" s_teeth_worth)
  (D_step_table:DefAt K mg "step_table" s_step_table)
  (D_shapes_behind:DefAt K mg "shapes_behind" s_shapes_behind)
  (D_fits_flush:DefAt K mg "fits_flush" s_fits_flush)
  (D_shortest_length:DefAt K mg "shortest_length" s_shortest_length)
  (D_least_lengths:DefAt K mg "least_lengths" s_least_lengths)
  (D_is_reached:DefAt K mg "is_reached" s_is_reached)
  (D_first_filling:DefAt K mg "first_filling" s_first_filling)
  (D_count_fillings:DefAt K mg "count_fillings" s_count_fillings)
  (D_check_length:DefAt K mg "check_length" s_check_length)
  (D_ways_to_close:DefAt K mg "ways_to_close" s_ways_to_close)
  (D_ways_from:DefAt K mg "ways_from" s_ways_from)
  (D_ways_behind:DefAt K mg "ways_behind" s_ways_behind)
  (D_lay_first:DefAt K mg "lay_first" s_lay_first)
  (D_first_open_step:DefAt K mg "first_open_step" s_first_open_step)
  (D_is_name:DefAt K mg "is_name" s_is_name)
  (D_is_small_letter:DefAt K mg "is_small_letter" s_is_small_letter)
  (D_are_teeth:DefAt K mg "are_teeth" s_are_teeth)
  (D_at:DefAt K mg "_law_at" s_at)
  (D_mixed:DefAt K mg "_law_mixed" s_mixed)
  (D_word:DefAt K mg "_law_word" s_word)
  (D_spare:DefAt K mg "_law_spare" s_spare)
  (D_menu:DefAt K mg "_law_menu" s_menu)
  (D_combs:DefAt K mg "_law_combs" s_combs)
  (D_book:DefAt K mg "_law_book" s_book)
  (D_turned:DefAt K mg "_law_turned" s_turned)
  (D_after:DefAt K mg "_law_after" s_after)
  (D_goes:DefAt K mg "_law_goes" s_goes)
  (D_graph:DefAt K mg "_law_graph" s_graph)
  (D_home:DefAt K mg "_law_home" s_home)
  (D_fits:DefAt K mg "_law_fits" s_fits)
  (D_drawn:DefAt K mg "_law_drawn" s_drawn)
  (D_whole:DefAt K mg "_law_whole" s_whole)
  (D_laying:DefAt K mg "_law_laying" s_laying)
  (D_layings:DefAt K mg "_law_layings" s_layings)
  (D_teeth:DefAt K mg "_law_teeth" s_teeth)
  (D_covers:DefAt K mg "_law_covers" s_covers)
  (D_joined:DefAt K mg "_law_joined" s_joined)
  (D_law:DefAt K mg "law" s_law) :
  ∃ fd:Ej,(∀ (s:A3) (v:A0),Ks s fd ⟨[v],[]⟩ [("_law_script",v)])/\∀ base:Bz,K.In base->base.Ns mainGlobals mg->FnOk l.prog w K mg base CX0 7 fa fd ["_law_script"] (spLaw K):=by
 have BA:=book_of BCHK
 refine D_law.entry hfa (fun _ _ _ _ _ _ v=>rfl) fun base => ?_
 have m_check:=ok_check (P:=l.prog) (w:=w) (base:=base) (ea:=fun i => [a0,a1,a2,a3,a4,0,0,0,0,a9,0,a11,0,a13,a14].getD i 0) N_check_comb T BA ⟨R4,X4⟩
 have m_do:=ok_do (P:=l.prog) (w:=w) (base:=base) (ea:=fun i => [a0,a1,a2,a3,a4,0,0,0,0,a9,0,a11,0,a13,a14].getD i 0) N_do_deed T BA V_MOST_DEEDS ⟨R9,X9⟩
 have m_set:=ok_set (ea:=fun i => [a0,a1,a2,a3,a4,0,0,0,0,a9,0,a11,0,a13,a14].getD i 0) N_set_comb T BA m_do
 have m_put:=ok_put (ea:=fun i => [a0,a1,a2,a3,a4,0,0,0,0,a9,0,a11,0,a13,a14].getD i 0) N_put T BA V_MOST_COMBS ⟨R0,X0⟩ ⟨R1,X1⟩ ⟨R2,X2⟩ ⟨R3,X3⟩ (ok_name D_is_name T V_MOST_NAME (ok_small D_is_small_letter T)) (ok_teeth D_are_teeth T V_MOST_TOOTH) m_set
 have m_names:=ok_names (P:=l.prog) (w:=w) (base:=base) N_names T BA
 have m_teeth:=ok_bteeth N_teeth T BA m_check
 have c_at:=ok_at (P:=l.prog) (w:=w) (base:=base) D_at T
 have c_whole:=ok_whole (P:=l.prog) (w:=w) (base:=base) D_whole T
 have c_word:=ok_word (P:=l.prog) (w:=w) (base:=base) D_word T
 have c_combs:=ok_combs D_combs T c_at (ok_mixed D_mixed T) c_word (ok_spare D_spare T) (ok_menu D_menu T)
 have c_book:L2.Callee l.prog w K mg base "_law_book" 4 ["_law_kinds"] (sp_mkbook C):=by
  obtain ⟨fi,fdi,mk,fu⟩:=INIT.ex
  exact ok_mkbook D_book T BA ⟨fi,fdi,mk,ok_init fu T BA,INIT.m,fu.binds (fun _ _ _ _ _ _=>ln1 fun _=>rfl)⟩ m_put
 have f_steps:=ok_steps (ea:=fun i => [a0,a1,a2,a3,a4,0,0,0,0,a9,0,a11,0,a13,a14].getD i 0) D_shape_steps T BA V_SHAPES ⟨R11,X11⟩ (ok_worth D_teeth_worth T G_TOOTH_WORTH (tup_chk TC_TOOTH_WORTH)) m_names m_teeth
 have f_table:=ok_table D_step_table T V_SHAPES f_steps
 have f_behind:=ok_behind (P:=l.prog) (w:=w) (base:=base) D_shapes_behind T
 have f_fits:=ok_fitsf (ea:=fun i => [a0,a1,a2,a3,a4,0,0,0,0,a9,0,a11,0,a13,a14].getD i 0) D_fits_flush T V_MOST_LENGTH ⟨R13,X13⟩ f_table (ok_short D_shortest_length T V_SHAPES f_behind) (ok_least D_least_lengths T f_behind) (ok_reached D_is_reached T)
 have f_bw:=ok_behindw (P:=l.prog) (w:=w) (base:=base) D_ways_behind T
 have f_close:=ok_close D_ways_to_close T (ok_from D_ways_from T f_bw)
 have f_chk:=ok_chk (P:=l.prog) (w:=w) (base:=base) (ea:=fun i => [a0,a1,a2,a3,a4,0,0,0,0,a9,0,a11,0,a13,a14].getD i 0) D_check_length T V_MOST_FILLED ⟨R13,X13⟩
 have f_ffill:=ok_ffill (ea:=fun i => [a0,a1,a2,a3,a4,0,0,0,0,a9,0,a11,0,a13,a14].getD i 0) D_first_filling T f_chk f_table f_close (ok_layf (ea:=fun i => [a0,a1,a2,a3,a4,0,0,0,0,a9,0,a11,0,a13,a14].getD i 0) D_lay_first T ⟨R14,X14⟩ (ok_open D_first_open_step T f_bw))
 have f_count:=ok_count (ea:=fun i => [a0,a1,a2,a3,a4,0,0,0,0,a9,0,a11,0,a13,a14].getD i 0) D_count_fillings T f_chk f_table f_close
 have c_layings:=ok_layings D_layings T (ok_laying (P:=l.prog) (w:=w) (base:=base) D_laying T c_whole)
 have c_covers:=ok_covers (P:=l.prog) (w:=w) (base:=base) D_covers T (ok_lteeth D_teeth T)
 exact ok_law D_law T c_at c_combs c_book (ok_turned D_turned T) (ok_graph D_graph T (ok_goes D_goes T (ok_after D_after T))) (ok_fits D_fits T (ok_home D_home T)) (ok_drawn D_drawn T) f_fits (ok_joined D_joined T f_ffill f_count c_layings c_covers c_whole)
end K32
open PySem PySem.W PyProof.Rows
namespace PySem.W.Fast
def tw1707689968403395035:=True
def tw14458654878672778328:=True
def tw17518111041542937635:=True
def tw4746853818707132121:=True
def tw530520198257007666:=True
def tw13411162976034009828:=True
def tw11530944321977902363:=True
def tw3223991089055666235:=True
def tw9480109865225357768:=True
def tw8293756292356678587:=True
def tw7303956195706118803:=True
def tw1608167673035168650:=True
def tw13266660872972339708:=True
def tw2284674557196912279:=True
def tw16863062906506383046:=True
def tw3858102826580210097:=True
def tw4575375101125153097:=True
def tw18437575954925957081:=True
def tw6553821218690364115:=True
def tw1511730767161831111:=True
def tw107291123011808789:=True
def tw16456984544229559155:=True
def tw7590832068148734319:=True
def tw9855352025166209673:=True
def tw15877481489852618212:=True
def tw3317910166038214459:=True
def tw7282903776674379473:=True
def tw3156268686384828922:=True
def tw15452799616664501435:=True
def tw85834951466571154:=True
def tw11752353753200422305:=True
def tw11406347008609364071:=True
def tw12845078929975289961:=True
def tw3312341941683028462:=True
def tw835439599691965468:=True
def tw4462936837832030244:=True
def tw8472766198103837306:=True
def tw10077316721183877586:=True
def tw3764149164240487081:=True
def tw5787150513550075117:=True
def tw17890903790741386697:=True
def tw13968903361050891120:=True
def tw6798994759684750483:=True
def tw5989857897279637626:=True
def tw10148500003099359707:=True
def tw12394066507493403145:=True
def tw6113757526215365576:=True
def tw11792686812908924750:=True
def tw4492862428222592527:=True
def tw16809406347331951840:=True
def tw9061573318319664599:=True
def tw14345772530616605643:=True
def tw6304302501632686826:=True
def tw15332144791863542354:=True
def tw15141678539727052474:=True
def tw17632281219945296122:=True
def tw3005059965009950421:=True
def tw17498071593812056109:=True
def tw9423519328584515548:=True
def tw7285701064089474535:=True
def tw16798734344848531625:=True
def tw11769575096411442872:=True
def tw14369165817279503399:=True
def tw4627015582553565726:=True
def tw4649953165692925037:=True
def tw1817857157713160475:=True
def tw2235249754015685379:=True
def tw10842500919159523939:=True
def tw18093352024421455016:=True
def tw16436788096707580922:=True
def tw13676786547059063691:=True
def tw11774094114211110504:=True
def tw17917909525311914308:=True
def tw5977045099779988284:=True
def tw3465161474951976725:=True
def tw9522563114568278867:=True
def tw7928559376782159391:=True
def tw17412691110597071248:=True
def tw1622236602563393838:=True
def tw2088959885136392122:=True
def tw3511752946279230778:=True
def tw3174157440331953181:=True
def tw15555519330837147790:=True
def tw9144581486458232018:=True
def tw660947323242107300:=True
def tw15523818842029080114:=True
def tw10501969889383283696:=True
def tw18419847947688926070:=True
def tw3286313088134359237:=True
def tw2688400541644831150:=True
def tw5634324793022904172:=True
def tw7695232063130050951:=True
def tw7772482491682318855:=True
def tw3482248362903755345:=True
def tw5042751092423276610:=True
def tw16885490186369526402:=True
def tw1254365705042443069:=True
def tw3465940740886789854:=True
def tw13640836972609867869:=True
def tw8233967474176979964:=True
def tw12411311267140998102:=True
def tw16811469971659126303:=True
def tw18118438450640843784:=True
def tw14991961653285026935:=True
def tw16790898579853506268:=True
def tw1917292341803344419:=True
def tw4570589896952508346:=True
def tw12385718339116511889:=True
def tw5819878313246436095:=True
def tw15964584472558981013:=True
def tw15846412914739131755:=True
def tw582079974120599230:=True
def tw304830347107923535:=True
def tw12796467680639992576:=True
def tw14064084525113565323:=True
def tw15186134718888082140:=True
def tw6516503289698913830:=True
def tw7470473604478421667:=True
def tw17769448163637078646:=True
def tw17270532185587164880:=True
def tw12053542980986307939:=True
def tw12959485890304303873:=True
def tw11621363577051000297:=True
def tw5706183948356181248:=True
def tw1306745058615294930:=True
def tw3173100785980311870:=True
def tw8792685262064885167:=True
def tw13752978199255617741:=True
def tw16670282418750007741:=True
def tw6514067337928954791:=True
def tw4966161503826058126:=True
def tw16930086215775976684:=True
def tw13192619242191080801:=True
def tw5178025883999965254:=True
def tw15819112366419743616:=True
def tw2364454454179354090:=True
def tw8640931393927947829:=True
def tw6862315338679774115:=True
def tw9524097820713847936:=True
def tw1127974909729722807:=True
def tw8991685455474825554:=True
def tw13206255096462205616:=True
def tw17133029973396781877:=True
def tw16872076635838862859:=True
def tw3625060402996369642:=True
def tw7285820290155375631:=True
def tw570368237978719494:=True
def tw2612246201814137934:=True
def tw17082022017118804288:=True
def tw6980816994673792503:=True
def tw10665979281153500343:=True
def tw8666568583082755205:=True
def tw6726369919178904879:=True
def tw11000778910394025398:=True
def tw12221192275458740160:=True
def tw14067704730081290850:=True
def tw3042796877139360422:=True
def tw9125106980314285615:=True
def tw5930265067961969971:=True
def tw12714384435169645082:=True
def tw5499386414696588301:=True
def tw15905868253185682071:=True
def tw16662487543139190376:=True
def tw16209254087306166769:=True
def tw1565442434209005632:=True
def tw18248426802457624915:=True
def tw4858508144581307207:=True
def tw17850608519831299246:=True
def tw17815740931777201596:=True
def tw8502330900961715943:=True
def tw4531056134975433925:=True
def tw16913615276249570552:=True
def tw18355582114736069583:=True
def tw17633457480639014175:=True
def tw13189488931195887347:=True
def tw10855012596071493788:=True
def tw13398305805817917229:=True
def tw17651477218990068363:=True
def tw3955017744548061910:=True
def tw10651149027503277751:=True
def tw12829178063968309038:=True
def tw18414363496527350214:=True
def tw5703224194061939056:=True
def tw15733445221224222950:=True
def tw16444722827144924315:=True
def tw4531742184300045952:=True
def tw18293039214106442486:=True
def tw11761686500919258113:=True
def tw13584211744302254821:=True
def tw4161896687595917678:=True
def tw3866814098501447788:=True
def tw8870911122505030099:=True
def tw3364954858761214541:=True
def tw15047320071249131958:=True
def tw14468233825698388595:=True
def tw10731388070420928238:=True
def tw9028402277178034533:=True
def tw14046373074948070257:=True
def tw2000117645293396737:=True
def tw6557436875021751318:=True
def tw9005232685059574036:=True
def tw11824832602185918411:=True
def tw8161030987828564212:=True
def tw9425915103843918364:=True
def tw17690698284476419827:=True
def tw8597893460160198507:=True
def tw16372416924022206875:=True
def tw10437769194159518503:=True
def tw1339290184755700923:=True
def tw10726547153647193582:=True
def tw16742403207001856734:=True
def tw9586660391832072891:=True
def tw7776835476354120310:=True
def tw14262899586115326817:=True
def tw12373233253117519141:=True
def tw13471285588167991430:=True
def tw1184257662446716386:=True
def tw2546805885414440405:=True
def tw9838598516779354566:=True
def tw16227642808918146795:=True
def tw10381523001620005815:=True
def tw9857085422676534960:=True
def tw17049999575412146325:=True
def tw5102822865222561570:=True
def tw1367328757093972041:=True
def tw17903485857067308062:=True
def tw7929893942944948088:=True
def tw394445982266379154:=True
def tw13259582755559319100:=True
def tw4011781417560896753:=True
def tw12656059239354034832:=True
def tw12301368979631104077:=True
def tw8340757166756276328:=True
def tw1284541726746044244:=True
def tw17224866121037474208:=True
def tw1107141756474774698:=True
def tw597364797735369971:=True
def tw2697748166255205000:=True
def tw2012847609225797594:=True
def tw5939850060548101425:=True
def tw3948359713286043405:=True
def tw9559283585902646545:=True
def tw1472694703384767370:=True
def tw8062077908459865018:=True
def tw9584668257262603719:=True
def tw6736917019431390777:=True
def tw12916444881381789178:=True
def tw15742791765469592343:=True
def tw7123597741806595376:=True
def tw10148284176412399460:=True
def tw8567464553360776805:=True
def tw12485455971081013477:=True
def tw4936993552091496056:=True
def tw5053213093792380355:=True
def tw4386529013805015860:=True
def tw588348240032276912:=True
def tw16729510682200599035:=True
def tw4080936592653924456:=True
def tw998994131306107179:=True
def tw3412945626824219674:=True
def tw6483781059800977894:=True
def tw11886738295085849882:=True
def tw17339966386370080196:=True
def tw4968576204884599820:=True
def tw11972195196107543301:=True
def tw376915342296740493:=True
def tw9900868885617024965:=True
def tw8521247149811386264:=True
def tw8047083059621768191:=True
def tw17039106448642943126:=True
def tw98745674848129731:=True
def tw1220405273290191122:=True
def tw624938690818738604:=True
def tw12281962039862555760:=True
def tw1088996196172863697:=True
def tw6772178294382509881:=True
def tw13133646899982247864:=True
def tw8443864992979483934:=True
def tw4385096332944881040:=True
def tw10288949415314314876:=True
def tw6261642568548805321:=True
def tw12787450641876353302:=True
def tw9014536837270289833:=True
def tw11815249848763185839:=True
def tw4233990831328292121:=True
def tw4402028796280439290:=True
def tw5970082364497857876:=True
def tw2185019019722843772:=True
def tw5189174096886997907:=True
def tw5558160548564640499:=True
def tw14982654885342881029:=True
def tw8899827126338001151:=True
def tw4293493026544932692:=True
def tw17476753344018182061:=True
def tw12960257486019127284:=True
def tw18346115248524154021:=True
def tw5397464927671992554:=True
def tw11609159484719510542:=True
def tw4234180107164923886:=True
def tw6906982253810211825:=True
def tw1546291863157201223:=True
def tw1610254969454536444:=True
def tw4787033168309032588:=True
def tw13644591648984180207:=True
def tw2504407178423065319:=True
def tw15782569039737538135:=True
def tw13489041785910531889:=True
def tw17292070489720001422:=True
def tw10110657083082072713:=True
def tw13800507661337945501:=True
def tw320184051552976199:=True
def tw17104173347477147133:=True
def tw4245232653117718757:=True
def tw15605776037869016427:=True
def tw5438799051319586606:=True
def tw3847438611967772832:=True
def tw5269011096900783578:=True
def tw5160439013527848078:=True
def tw5422015185601778049:=True
def tw4272797758534760293:=True
def tw10471648062353482414:=True
def tw12796888070055005789:=True
def tw7955350498778131993:=True
def tw12075842217273944169:=True
def tw15203566825680248846:=True
def tw518730662433916685:=True
def tw5856089277010526236:=True
def tw6493380546895531817:=True
def tw14559169589991558759:=True
def tw16687245066051899375:=True
def tw18218147603951668291:=True
def tw12227541475312791737:=True
def tw3462310158017668439:=True
def tw12413701079400787452:=True
def tw16089519009159082903:=True
def tw364092192261726828:=True
def tw4681709265809706030:=True
def tw17223435953362035140:=True
def tw2755035955718154272:=True
def tw11292856849805888247:=True
def tw6455507614521535571:=True
def tw12573203853695719290:=True
def tw14129015606127423168:=True
def tw18301246620498343999:=True
def tw478907797089617696:=True
def tw3874054515271798028:=True
def tw9017664464686896442:=True
def tw6420523342385838543:=True
def tw9766402621324462851:=True
def tw7257413108243827829:=True
def tw1767722471111250898:=True
def tw9734243472406114792:=True
def tw8076138143656282231:=True
def tw12044125313221305838:=True
def tw17202905412782711268:=True
def tw10810348747585128840:=True
def tw15235894906927755569:=True
def tw932837295296747961:=True
def tw16563750711092432543:=True
def tw13366204288823090057:=True
def tw5781381467383295860:=True
def tw15063857785717431987:=True
def tw4440683157661763322:=True
def tw6304070686690063213:=True
def tw3392283029766739605:=True
def tw903420393948845307:=True
def tw2581989735194243911:=True
def tw1715957631229563126:=True
def tw8885902268383577486:=True
def tw12246745512090695822:=True
def tw5453442238708354004:=True
def tw5816009016562032936:=True
def tw10267339941322478568:=True
def tw15445630415949631982:=True
def tw6009319031379172242:=True
def tw14858330520502895640:=True
def tw12033938852495109219:=True
def tw12027530190170940485:=True
def tw13596954766227774663:=True
def tw12779990719381541103:=True
def tw14350392534455092047:=True
def tw4960540462021598336:=True
def tw17696310542505727135:=True
def tw12006815656199610176:=True
def tw14208375392831742596:=True
def tw16718528807999968479:=True
def tw16080542539795187185:=True
def tw12630058970375145094:=True
def tw16312020399469815933:=True
def tw13372915465397539475:=True
def tw1040503136324233722:=True
def tw14327472187000285452:=True
def tw2136072061113486255:=True
def tw10232964381921474213:=True
def tw6356554345736293370:=True
def tw6346148350513303788:=True
def tw1565968714271160114:=True
def tw9775888429325983203:=True
def tw9246328793733178787:=True
def tw9662170030866586686:=True
def tw1311515736747601607:=True
def tw10077456822744252060:=True
def tw11209812369785899797:=True
def tw8482093947490294976:=True
def tw15938666579977888119:=True
def tw4305716952307290943:=True
def tw18264574194531216250:=True
def tw5523191216323911548:=True
def tw15408010888471520447:=True
def tw6854067136996466687:=True
def tw3071085271425535488:=True
def tw5037991237559109485:=True
def tw7507457194038408756:=True
def tw15648648232956435724:=True
def tw11875329637971827766:=True
def tw6984936872798948574:=True
def tw2925663552455065143:=True
def tw2520732378561261742:=True
def tw1293746468909113277:=True
def tw3227038574015815551:=True
def tw17065315441824543850:=True
def tw18396940467526844200:=True
def tw6656365131141860783:=True
def tw17863404830006159531:=True
def tw1166561152239578077:=True
def tw16931241849748487440:=True
def tw7568699975397081982:=True
def tw14774060958742217349:=True
def tw4709598650680349638:=True
def tw16638056659466086536:=True
def tw14134523923849093895:=True
def tw612234988747488327:=True
def tw11869789450326810006:=True
def tw5546035196684308303:=True
def tw15130397643659516841:=True
def tw16108128118251448794:=True
def tw16047740549849301660:=True
def tw5442608352581139145:=True
def tw15556076248087026855:=True
def tw466220267778194610:=True
def tw8237679566167832100:=True
def tw17803365075040213800:=True
def tw1020759178423304715:=True
def tw16257571660729018587:=True
def tw14206529763743973854:=True
def tw970953767471872458:=True
def tw11594556441827325618:=True
def tw8445428282337322512:=True
def tw16381326680899406117:=True
def tw6545341669903082496:=True
def tw5540454756642460827:=True
def tw10610608932904175362:=True
def tw8271053283122186889:=True
def tw8050574546202196143:=True
def tw13367800641129061242:=True
def tw11414963025967545560:=True
def tw11573474913444057280:=True
def tw12599417788195049442:=True
def tw4228018511666868575:=True
def tw2991356071673843939:=True
def tw1140920349359718801:=True
def tw10745415266855832513:=True
def tw13366699800767795548:=True
def tw7339456375111084902:=True
def tw12652476836195890384:=True
def tw15308042636296125850:=True
def tw3783736115546779011:=True
def tw12811923301183087270:=True
def tw15772244324293508046:=True
def tw219639073841022505:=True
def tw6071755153407046693:=True
def tw12235745660313836212:=True
def tw16594362286046277889:=True
def tw11095419548766718182:=True
def tw1541481364399542216:=True
def tw9722085613232490446:=True
def tw10569670918599799398:=True
def tw715801039774667139:=True
def tw11995929573853921687:=True
def tw3023241046528574219:=True
def tw13910597001021008398:=True
def tw18164964130816727014:=True
def tw5345831112657214934:=True
def tw11832816007019138430:=True
def tw513611929983939953:=True
def tw4239127516134222557:=True
def tw15579772747616184270:=True
def tw2189340491555204075:=True
def tw14995352533653108940:=True
def tw16736670031641665699:=True
def tw18404893380644139963:=True
def tw5537141234876374401:=True
def tw18374270930921212257:=True
def tw15888710545083431521:=True
def tw13723494801888777152:=True
def tw12397053360151048334:=True
def tw10069837575488103146:=True
def tw9232851290420703906:=True
def tw11525456181969166350:=True
def tw11990098351579105602:=True
def tw13632452936434792540:=True
def tw17044857239474016771:=True
def tw2144994895741243037:=True
def tw2772361766772520733:=True
def tw7953408619547003921:=True
def tw2478891606869846367:=True
def tw3859886117816594047:=True
def tw8113543739633764353:=True
def tw6602746552240947024:=True
def tw11983326703686600830:=True
def tw14113834419006557953:=True
def tw14918570884853532469:=True
def tw12155646667135261129:=True
def tw15737115605664463237:=True
def tw493918699706674170:=True
def tw1348769030412124355:=True
def tw8339255433886257025:=True
def tw617123338594838142:=True
def tw13736526895011074071:=True
def tw18378433767998370050:=True
def tw11291583447316534184:=True
def tw14422257407556244219:=True
def tw9723106370813508990:=True
def tw6759385439910969733:=True
def tw14410141377954132976:=True
def tw15906541920963038445:=True
def tw8535657144261713880:=True
def tw2607410169833525668:=True
def tw13490192558858878291:=True
def tw6715450134627535059:=True
def tw833087672453253107:=True
def tw8739232092396564923:=True
def tw1303294450900188635:=True
def tw16709090986020057566:=True
def tw6155866685721786055:=True
def tw17103083293609242724:=True
def tw3854725139207810830:=True
def tw14267121449438599766:=True
def tw3208510971545217653:=True
def tw3130124032235209410:=True
def tw791412544940757720:=True
def tw17575254484559120809:=True
def tw15824942041563002739:=True
def tw8644875679614161929:=True
def tw5913154403655889966:=True
def tw14523478645997139608:=True
def tw1677032325236013589:=True
def tw11019337437996857191:=True
def tw7043280198784380086:=True
def tw14583424953892080012:=True
def tw4374063486342031363:=True
def tw4456233580481664863:=True
def tw1065413243156965251:=True
def tw23054236862280019:=True
def tw4897528479314355313:=True
def tw8983872959206273693:=True
def tw11379364854915339575:=True
def tw12209976965408654577:=True
def tw17217778899201073043:=True
def tw291476157374477846:=True
def tw15218423760169785219:=True
def tw5990652305844605143:=True
def tw12124495927646993604:=True
def tw3853609871927970933:=True
def tw17118368319686138590:=True
def tw6673936895065148963:=True
def tw16143914807648299878:=True
def tw9816664092038275551:=True
def tw11484995286333003951:=True
def tw14615873046836511165:=True
def tw1254456257721114901:=True
def tw14996298199508193554:=True
def tw6236033001727977891:=True
def tw16747422708559618735:=True
def tw9120238853135805048:=True
def tw5583394828555205008:=True
def tw16698436612754044826:=True
def tw5420822113848783270:=True
def tw12788542916704345963:=True
def tw2115933620822847606:=True
def tw1029109728133233429:=True
def tw1359971057975089945:=True
def tw5979017359601691697:=True
def tw15839935101984691528:=True
def tw335812988836908223:=True
def tw8699050360682527849:=True
def tw13067158039974690034:=True
def tw14139629240126778168:=True
def tw18332631614045089777:=True
def tw5560972797251956624:=True
def tw3866865865326770914:=True
def tw15570647414762359968:=True
def tw6853593593702527382:=True
def tw1998904140970107675:=True
def tw15840347396948879802:=True
def tw12892496365283647942:=True
def tw16104684402477820156:=True
def tw9910565873660777551:=True
def tw1750690637353936368:=True
def tw1530852682164746049:=True
def tw1771354488360725136:=True
def tw10521672526834090372:=True
def tw2337476977138405946:=True
def tw12556901752459999677:=True
def tw276151779508191593:=True
def tw17453439509955316188:=True
def tw4068039799324978922:=True
def tw11310520893970243478:=True
def tw11714857285404608598:=True
def tw17067238843614188853:=True
def tw12570255377441282543:=True
def tw9342057971322036011:=True
def tw4180244023413336573:=True
def tw4641485743785950243:=True
def tw4429291518333050493:=True
def tw15544075463037325593:=True
def tw16628994043214967366:=True
def tw12359118785701864359:=True
def tw3084754679930710826:=True
def tw17518376563880883839:=True
def tw14340176155100260905:=True
def tw17687357101352977820:=True
def tw15028088304439846328:=True
def tw2034375829879443669:=True
def tw6082258677634520137:=True
def tw14967066287661326816:=True
def tw9922648639377481018:=True
def tw5909449107548486220:=True
def tw16808825194156850984:=True
def tw14585751700202573252:=True
def tw3446711711741947373:=True
def tw9821400031167659922:=True
def tw6178077540816591513:=True
def tw10552439780266362450:=True
def tw7422389127327214192:=True
def tw6197585225815925771:=True
def tw6618052548616862815:=True
def tw9698314078342222708:=True
def tw15511551072779062033:=True
def tw18440727770857256738:=True
def tw17997885255975738642:=True
def tw17862892929276184966:=True
def tw16753781459097600281:=True
def tw13322977467867619734:=True
def tw4215581769465298592:=True
def tw17896695895823155002:=True
def tw12451173095851736072:=True
def tw218529764821826165:=True
def tw4731914285932223075:=True
def tw6277641831591285045:=True
def tw14040396873198726627:=True
def tw17319094844663082451:=True
def tw7935654816977334596:=True
def tw6063897410008307216:=True
def tw16168282300391117033:=True
def tw15325038995837468649:=True
def tw5790805092000964935:=True
def tw14863293000897145818:=True
def tw10515459348617337091:=True
def tw7230852044774925966:=True
def tw12214062540440190996:=True
def tw3340739932812716910:=True
def tw6529922681041290967:=True
def tw1436671334724086169:=True
def tw3458585902292496157:=True
def tw2968102860186058668:=True
def tw13865100556104509152:=True
def tw10823536410736380676:=True
def tw3748439185032808507:=True
def tw5122849875893972087:=True
def tw457359277346819285:=True
def tw15209284034432055054:=True
def tw8022405868785056982:=True
def tw2437390191052931065:=True
def tw9194793877081785541:=True
def tw9915092614942020479:=True
def tw475476799409168196:=True
def tw14895989123872680118:=True
def tw12290964378395883384:=True
def tw9961915527234752942:=True
def tw3836904619810416846:=True
def tw2073262365785311539:=True
def tw6195069414182212200:=True
def tw13274545913988106343:=True
def tw18220010926882946956:=True
def tw2747003157562345010:=True
def tw12398591140396381110:=True
def tw2678274139963560887:=True
def tw659923185325231094:=True
def tw13433519761966788520:=True
def tw16841640729714160506:=True
def tw13582873283470440771:=True
def tw2174623558373338329:=True
def tw2351549079777183145:=True
def tw5207289844912341143:=True
def tw8976041516803154888:=True
def tw16135469112386025033:=True
def tw17382654320503056189:=True
def tw2267346615664172568:=True
def tw15158049160808491079:=True
def tw14819503225808829453:=True
def tw17064988713396332048:=True
end PySem.W.Fast
set_option maxRecDepth 100000 in
set_option maxHeartbeats 0 in
theorem PySem.Challenge.cw_combstrip_k32_whole_sum_holds : PySem.Challenge.rw_combstrip_k32_whole_sum.Holds := by
 w_on; o_law; k_head; (case hw=>w_witness2)
 k_fill
 refine K32.walk (l:=PySem.Challenge.rw_combstrip_k32_whole_sum) rfl rfl (fun w h Y=>PySem.W.kIn_of Y) ?F
 case F =>
  intro w mg fa h KX G hmg
  refine' K32.all KX G hmg (L2.bn_mk KX G ?n0 ?n1 ?n2 ?n3 ?n4 ?n5 ?n6 ?n7 ?n8 ?n9 ?n10 ?n11 ?n12 ?n13 ?n14 ?n15 ?n16 ?n17 ?n18 ?n19 ?n20) ?v0 ?v1 ?v2 ?v3 ?v4 ?v5 ?v6 ?zgt0 ?ztc0 ?r0 ?zx0 ?r1 ?zx1 ?r2 ?zx2 ?r3 ?zx3 ?r4 ?zx4 ?r9 ?zx9 ?r11 ?zx11 ?r13 ?zx13 ?r14 ?zx14 ?zini ?zbc ?m0 ?m1 ?m2 ?m3 ?m4 ?m5 ?d0 ?d1 ?d2 ?d3 ?d4 ?d5 ?d6 ?d7 ?d8 ?d9 ?d10 ?d11 ?d12 ?d13 ?d14 ?d15 ?d16 ?d17 ?d18 ?d19 ?d20 ?d21 ?d22 ?d23 ?d24 ?d25 ?d26 ?d27 ?d28 ?d29 ?d30 ?d31 ?d32 ?d33 ?d34 ?d35 ?d36 ?d37 ?d38 ?d39
  (case n0=>k_is)
  (case n1=>k_is)
  (case n2=>k_is)
  (case n3=>k_is)
  (case n4=>k_is)
  (case n5=>k_is)
  (case n6=>k_is)
  (case n7=>k_is)
  (case n8=>k_is)
  (case n9=>k_is)
  (case n10=>k_is)
  (case n11=>k_is)
  (case n12=>k_is)
  (case n13=>k_is)
  (case n14=>k_is)
  (case n15=>k_is)
  (case n16=>k_is)
  (case n17=>k_is)
  (case n18=>k_is)
  (case n19=>k_is)
  (case n20=>k_is)
  (case v0=>refine' L2.int_mk KX G ?a; (case a=>k_is))
  (case v1=>refine' L2.int_mk KX G ?a; (case a=>k_is))
  (case v2=>refine' L2.int_mk KX G ?a; (case a=>k_is))
  (case v3=>refine' L2.int_mk KX G ?a; (case a=>k_is))
  (case v4=>refine' L2.int_mk KX G ?a; (case a=>k_is))
  (case v5=>refine' L2.int_mk KX G ?a; (case a=>k_is))
  (case v6=>refine' L2.int_mk KX G ?a; (case a=>k_is))
  (case zgt0=>refine' L2.ref_mk KX G ?a; (case a=>k_is))
  (case ztc0=>kernel_rfl)
  (case r0=>refine' L2.ref_mk KX G ?a; (case a=>k_is))
  (case zx0=>kernel_rfl)
  (case r1=>refine' L2.ref_mk KX G ?a; (case a=>k_is))
  (case zx1=>kernel_rfl)
  (case r2=>refine' L2.ref_mk KX G ?a; (case a=>k_is))
  (case zx2=>kernel_rfl)
  (case r3=>refine' L2.ref_mk KX G ?a; (case a=>k_is))
  (case zx3=>kernel_rfl)
  (case r4=>refine' L2.ref_mk KX G ?a; (case a=>k_is))
  (case zx4=>kernel_rfl)
  (case r9=>refine' L2.ref_mk KX G ?a; (case a=>k_is))
  (case zx9=>kernel_rfl)
  (case r11=>refine' L2.ref_mk KX G ?a; (case a=>k_is))
  (case zx11=>kernel_rfl)
  (case r13=>refine' L2.ref_mk KX G ?a; (case a=>k_is))
  (case zx13=>kernel_rfl)
  (case r14=>refine' L2.ref_mk KX G ?a; (case a=>k_is))
  (case zx14=>kernel_rfl)
  (case zini=>refine' L2.init_mk (L2.ref_mk KX G ?z) ?a ?l ?c ?k ?i ?k2 ?mk; (case z=>k_is); (case a=>k_is); (case l=>k_is); (case c=>k_is); (case k=>k_is); (case i=>k_is); (case k2=>k_is); (case mk=>k_is))
  (case zbc=>kernel_rfl)
  (case m0=>refine' L2.meth_mk ?a ?l ?c ?k ?i; (case a=>k_is); (case l=>k_is); (case c=>k_is); (case k=>k_is); (case i=>k_is))
  (case m1=>refine' L2.meth_mk ?a ?l ?c ?k ?i; (case a=>k_is); (case l=>k_is); (case c=>k_is); (case k=>k_is); (case i=>k_is))
  (case m2=>refine' L2.meth_mk ?a ?l ?c ?k ?i; (case a=>k_is); (case l=>k_is); (case c=>k_is); (case k=>k_is); (case i=>k_is))
  (case m3=>refine' L2.meth_mk ?a ?l ?c ?k ?i; (case a=>k_is); (case l=>k_is); (case c=>k_is); (case k=>k_is); (case i=>k_is))
  (case m4=>refine' L2.meth_mk ?a ?l ?c ?k ?i; (case a=>k_is); (case l=>k_is); (case c=>k_is); (case k=>k_is); (case i=>k_is))
  (case m5=>refine' L2.meth_mk ?a ?l ?c ?k ?i; (case a=>k_is); (case l=>k_is); (case c=>k_is); (case k=>k_is); (case i=>k_is))
  (case d0=>refine' L2.def_mk KX G ?a ?l ?c ?k; (case a=>k_is); (case l=>k_is); (case c=>k_is); (case k=>k_is))
  (case d1=>refine' L2.def_mk KX G ?a ?l ?c ?k; (case a=>k_is); (case l=>k_is); (case c=>k_is); (case k=>k_is))
  (case d2=>refine' L2.def_mk KX G ?a ?l ?c ?k; (case a=>k_is); (case l=>k_is); (case c=>k_is); (case k=>k_is))
  (case d3=>refine' L2.def_mk KX G ?a ?l ?c ?k; (case a=>k_is); (case l=>k_is); (case c=>k_is); (case k=>k_is))
  (case d4=>refine' L2.def_mk KX G ?a ?l ?c ?k; (case a=>k_is); (case l=>k_is); (case c=>k_is); (case k=>k_is))
  (case d5=>refine' L2.def_mk KX G ?a ?l ?c ?k; (case a=>k_is); (case l=>k_is); (case c=>k_is); (case k=>k_is))
  (case d6=>refine' L2.def_mk KX G ?a ?l ?c ?k; (case a=>k_is); (case l=>k_is); (case c=>k_is); (case k=>k_is))
  (case d7=>refine' L2.def_mk KX G ?a ?l ?c ?k; (case a=>k_is); (case l=>k_is); (case c=>k_is); (case k=>k_is))
  (case d8=>refine' L2.def_mk KX G ?a ?l ?c ?k; (case a=>k_is); (case l=>k_is); (case c=>k_is); (case k=>k_is))
  (case d9=>refine' L2.def_mk KX G ?a ?l ?c ?k; (case a=>k_is); (case l=>k_is); (case c=>k_is); (case k=>k_is))
  (case d10=>refine' L2.def_mk KX G ?a ?l ?c ?k; (case a=>k_is); (case l=>k_is); (case c=>k_is); (case k=>k_is))
  (case d11=>refine' L2.def_mk KX G ?a ?l ?c ?k; (case a=>k_is); (case l=>k_is); (case c=>k_is); (case k=>k_is))
  (case d12=>refine' L2.def_mk KX G ?a ?l ?c ?k; (case a=>k_is); (case l=>k_is); (case c=>k_is); (case k=>k_is))
  (case d13=>refine' L2.def_mk KX G ?a ?l ?c ?k; (case a=>k_is); (case l=>k_is); (case c=>k_is); (case k=>k_is))
  (case d14=>refine' L2.def_mk KX G ?a ?l ?c ?k; (case a=>k_is); (case l=>k_is); (case c=>k_is); (case k=>k_is))
  (case d15=>refine' L2.def_mk KX G ?a ?l ?c ?k; (case a=>k_is); (case l=>k_is); (case c=>k_is); (case k=>k_is))
  (case d16=>refine' L2.def_mk KX G ?a ?l ?c ?k; (case a=>k_is); (case l=>k_is); (case c=>k_is); (case k=>k_is))
  (case d17=>refine' L2.def_mk KX G ?a ?l ?c ?k; (case a=>k_is); (case l=>k_is); (case c=>k_is); (case k=>k_is))
  (case d18=>refine' L2.def_mk KX G ?a ?l ?c ?k; (case a=>k_is); (case l=>k_is); (case c=>k_is); (case k=>k_is))
  (case d19=>refine' L2.def_mk KX G ?a ?l ?c ?k; (case a=>k_is); (case l=>k_is); (case c=>k_is); (case k=>k_is))
  (case d20=>refine' L2.def_mk KX G ?a ?l ?c ?k; (case a=>k_is); (case l=>k_is); (case c=>k_is); (case k=>k_is))
  (case d21=>refine' L2.def_mk KX G ?a ?l ?c ?k; (case a=>k_is); (case l=>k_is); (case c=>k_is); (case k=>k_is))
  (case d22=>refine' L2.def_mk KX G ?a ?l ?c ?k; (case a=>k_is); (case l=>k_is); (case c=>k_is); (case k=>k_is))
  (case d23=>refine' L2.def_mk KX G ?a ?l ?c ?k; (case a=>k_is); (case l=>k_is); (case c=>k_is); (case k=>k_is))
  (case d24=>refine' L2.def_mk KX G ?a ?l ?c ?k; (case a=>k_is); (case l=>k_is); (case c=>k_is); (case k=>k_is))
  (case d25=>refine' L2.def_mk KX G ?a ?l ?c ?k; (case a=>k_is); (case l=>k_is); (case c=>k_is); (case k=>k_is))
  (case d26=>refine' L2.def_mk KX G ?a ?l ?c ?k; (case a=>k_is); (case l=>k_is); (case c=>k_is); (case k=>k_is))
  (case d27=>refine' L2.def_mk KX G ?a ?l ?c ?k; (case a=>k_is); (case l=>k_is); (case c=>k_is); (case k=>k_is))
  (case d28=>refine' L2.def_mk KX G ?a ?l ?c ?k; (case a=>k_is); (case l=>k_is); (case c=>k_is); (case k=>k_is))
  (case d29=>refine' L2.def_mk KX G ?a ?l ?c ?k; (case a=>k_is); (case l=>k_is); (case c=>k_is); (case k=>k_is))
  (case d30=>refine' L2.def_mk KX G ?a ?l ?c ?k; (case a=>k_is); (case l=>k_is); (case c=>k_is); (case k=>k_is))
  (case d31=>refine' L2.def_mk KX G ?a ?l ?c ?k; (case a=>k_is); (case l=>k_is); (case c=>k_is); (case k=>k_is))
  (case d32=>refine' L2.def_mk KX G ?a ?l ?c ?k; (case a=>k_is); (case l=>k_is); (case c=>k_is); (case k=>k_is))
  (case d33=>refine' L2.def_mk KX G ?a ?l ?c ?k; (case a=>k_is); (case l=>k_is); (case c=>k_is); (case k=>k_is))
  (case d34=>refine' L2.def_mk KX G ?a ?l ?c ?k; (case a=>k_is); (case l=>k_is); (case c=>k_is); (case k=>k_is))
  (case d35=>refine' L2.def_mk KX G ?a ?l ?c ?k; (case a=>k_is); (case l=>k_is); (case c=>k_is); (case k=>k_is))
  (case d36=>refine' L2.def_mk KX G ?a ?l ?c ?k; (case a=>k_is); (case l=>k_is); (case c=>k_is); (case k=>k_is))
  (case d37=>refine' L2.def_mk KX G ?a ?l ?c ?k; (case a=>k_is); (case l=>k_is); (case c=>k_is); (case k=>k_is))
  (case d38=>refine' L2.def_mk KX G ?a ?l ?c ?k; (case a=>k_is); (case l=>k_is); (case c=>k_is); (case k=>k_is))
  (case d39=>refine' L2.def_mk KX G ?a ?l ?c ?k; (case a=>k_is); (case l=>k_is); (case c=>k_is); (case k=>k_is))
