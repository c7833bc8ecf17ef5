import PyProof.Rows.All
import Wide.All
import OpenK.AllK
import Wide.FinOn
import Lean
import PyProof.EqAt
import PyProof.EqKinds
import PyProof.TupleCall
import PyProof.ExcClass3
import PyProof.InstStoreFacts
import PyProof.RulesAs
import PyProof.NsDelKeeps
import PyProof.ExcArgsOwn
import PyProof.ExcAttrAll.ValueError
import PyProof.ExcBaseAll.ValueError
import PySem.Challenge.RW_lateknow_k63_best_way
set_option tactic.hygienic false
set_option Elab.async false
set_option linter.all false
set_option maxRecDepth 100000
set_option maxHeartbeats 4000000
set_option Elab.async false
set_option linter.all false
set_option maxRecDepth 100000
set_option compiler.extract_closed false
open Array renaming getElem?_eq_getElem->yh,length_toList->yj,getElem?_toList->xr,getD_eq_getD_getElem?->xy,getElem?_eq_none->ES,getElem?_eq_some_iff->M5,all_eq_true_iff_forall_mem->WI,getElem?_setIfInBounds->y6a,toArray_toList->y9j,forIn_toList->yae,toList_inj->ybv,replicate->yc8,toList->ZW,ext'->yf7,getD->yf8
open Bool renaming false_ne_true->xj,false_eq_true->vt,and_eq_true->oO,eq_iff_iff->Bd,and_eq_true_iff->LC,not_true->FK,noConfusion->L3,not_eq_true->U2,not_false->VW,and_true->ydp,false_or->ydq,true_and->ydr,true_or->ye1
open Classical renaming byContradiction->Jc,propDecidable->Wl
open False renaming elim->iQ
open ForInStep renaming yield->yA
open Function renaming comp->Xr
open Iff renaming rfl->FV
open Int renaming toNat_natCast->yx,emod_lt_of_pos->CH,emod_nonneg->CG,natCast_add->GX,le_refl->B7,ofNat_lt->Wa
open Int.ofNat renaming inj->FW
open List renaming length_map->y3,getElem?_eq_getElem->y4,getD_eq_getElem?_getD->y8,mem_singleton->y9,mem_append_right->yf,mem_map->yk,size_toArray->ym,length_cons->yn,length_take->yp,mem_cons_of_mem->yr,mem_cons_self->yu,mem_append->yw,mem_append_left->yy,mem_cons->xc,getElem?_map->xh,length_append->xi,map_append->xk,getElem?_eq_some_iff->xl,replicate->xm,take_of_length_le->xq,map_cons->xu,take_add_one->gc,mem_of_mem_take->gm,filter_cons->gw,getElem?_append_left->gz,map_map->v8,getElem?_append_right->va,getElem_of_mem->vd,length_drop->ve,mem_of_getElem?->vg,pairwise_map->vh,range->vi,filter_append->vk,length_eq_zero_iff->vw,take_append_drop->vz,mem_range->u9,getElem_mem->ua,length_nil->ub,replicate_succ->uc,length_singleton->uj,take_length->ut,map_inj_right->uw,mem_filter->kT,nodup_cons->kX,cons_lt_cons_iff->zY,filter_nil->nO,getElem?_eq_none->yW,length_filter_le->AJ,mem_nil_iff->oW,append_nil->oK,idxOf_lt_length_iff->E4,length_erase_of_mem->Fi,length_range->tG,not_lt->jP,mem_of_mem_drop->BU,append_assoc->wI,flatten_cons->wH,map_eq_nil_iff->B2,not_lt_nil->uF,range_succ->sY,pairwise_cons->BV,pairwise_singleton->J6,find?_cons->wM,getElem?_range->Fl,length_pos_of_mem->Jb,getElem_idxOf->E5,perm_append_comm->Jd,drop_eq_getElem_cons->Q3,eq_of_mem_replicate->Qf,ext_getElem?->ER,foldl_append->Gr,forIn_cons->BA,drop_zero->BP,dropLast_concat_getLast->Xc,length_set->Dq,nil_append->DA,map_drop->B8,map_take->B9,nodup_append->JX,reverse_cons->HX,mem_erase_of_ne->MZ,lt_irrefl->FZ,nodup_nil->DG,pairwise_iff_getElem->UR,all_eq_true->IB,le_antisymm->Ji,mem_flatMap->JS,perm_middle->Jh,filterMap_cons->Kz,map_congr_left->NS,getElem?_take_of_lt->Sl,map_nil->Bl,any_cons->Dt,foldl_cons->HY,getElem?_cons_succ->Va,getElem?_drop->M7,mem_filterMap->KL,not_of_lt_findIdx->Us,lookup->Bf,concat_eq_append->Xp,eq_nil_or_concat->Xo,getElem?_toArray->U8,any_eq_true->Mv,cons_append->PQ,nil_lt_cons->N8,length_eraseIdx_of_lt->y6u,perm_ext_iff_of_nodup->y6v,exists_mem_of_ne_nil->y77,flatMap_cons->WY,lt_trans->N9,pairwise_mergeSort->y7t,sum_cons->P1,append_inj'->Xn,lookup_cons->Tz,drop_of_length_le->y8g,getElem?_set_self->ZT,pairwise_lt_range->y8i,range_succ_eq_map->y8j,count_cons_of_ne->y8w,getElem?_reverse->y8x,getElem?_zipWith->y8y,length_replicate->y8z,of_mem_zip->Sg,count_cons_self->y9o,getElem?_set_ne->ZU,pairwise_append->y9q,forIn_nil->TX,take_zero->YR,filter_eq_self->ya3,length_pos_iff->ya4,length_reverse->ya5,length_zipWith->ya6,lt_of_le_of_lt->ya7,mergeSort_perm->ya8,range'->MA,filterMap_map->yai,zip_cons_cons->yaj,Nodup->Qi,foldl->Lf,getElem_take->yb1,take_sublist->yb2,zipWith->WG,ext_getElem->ybx,not_mem_nil->yby,zipIdx_cons->ybz,length->Sk,sum_append->ycd,zipIdx_nil->yce,all_cons->ydt,perm_nil->ydv,any_map->ye4
open List.Pairwise renaming nil->Lv,filter->Xm,of_map->y9n,imp_of_mem->yd6,of_cons->ye3,imp->yf9
open List.Perm renaming refl->kz,swap->Fa,eq_of_pairwise->Wz,append_left->UA,cons->ycq
open List.Sublist renaming refl->yfa
open List.cons renaming inj->ydu
open Nat renaming le_refl->yg,ne_of_lt->xn,lt_of_lt_of_le->xz,zero_le->gn,le_trans->v9,lt_succ_of_lt->ui,min_eq_left->uu,le_succ->i6,ne_of_gt->jZ,le_of_lt->lV,lt_succ_self->Bh,le_of_ble_eq_true->LR,sub_self->zn,lt_irrefl->A4,sub_zero->BQ,mod_lt->BS,succ_mul->HZ,succ_pos->I0,add_lt_add_iff_right->y7f,lt_trichotomy->US,add_comm->Lh,mul_le_mul_right->y9r,mul_le_mul->Uk,le_of_lt_succ->yb3,le_of_eq->R6,le_of_not_lt->yc0,ble->Im,add_zero->ye5,min_self->ye6,mul_comm->ye7,pow_succ->ye8,not_lt->yfb
open Ne renaming symm->iN
open Option renaming map_some->zC,map_eq_some_iff->Ib,getD_some->IQ,isSome_iff_exists->Sj,isSome_map->yb6,getD_none->yc1,map->yfc
open Option.some renaming inj->vm
open Or renaming inl->k9,inr->Il
open Prod renaming fst->XM
open Prod.mk renaming injEq->Rq
open PyProof.Rows renaming boot_tuple->xw,boot_sorted->gg,boot_isinstance->gp,boot_list->vj,callWith_type1->u0,boot_min->Cy,IntsAre->fW,slot_tuple_getitem->Sz,entry_list_sort->EG,args_list_sort->EH,slot_list_sort->EF,slot_tuple_getitem->Lc,boot_bool->XY,boot_int->XX,boot_max->YU,boot_sum->X6,callWith_builtin1->y5r,args_sorted1->ED,entry_sorted->EC,plain_sorted->EB,AllBare->lU,get?_update_seq->Mo,kind_sorted->EA,sortedHeap_old->NI,listUpdate_at->Mn,sortedHeap_at->NH,subscriptTail_builtinR->y8m,boot_str->y94,list_sort_tree->Ub,entry_tuple_getitem->yab,args_tuple_getitem->yar,tupleItemsOf_->SD,size_push'->Mp,listItems_at->T9,seqEpoch_at->UQ,slicePart_none->yd5,Subscript_->SG,intBits_le->Tv,boot_abs->ye9,lt_int->yem,lt_str->yen,StrsAre->Mz
open PyProof.Rows.F renaming plain_set_update_loop->NX,entry_set_update_loop->y3w
open PyProof.Rows.KeyOrd renaming kle_refl->zg,kle_of_klt->MR,kle_trans->MM,kle_antisymm->ya2
open PySem renaming wpAny_bind->y0,wpAny_pure->yc,Shared->ye,Program->xf,FuncData->xo,boot_len->xt,sizeLine_eq->xx,wpAny_call_entry->gj,wpAny_holding->gu,Around->v7,wpAny_callSpecial?_slot->vf,wpAny_newObj_type->vp,SetTable->u6,wpAny_setField_rec->uk,wpAny_seqItems->um,wpAny_setState_of->uv,wpAny_Call_Name_kw->ux,mem_of_lookup->uz,codeAny_builtin->lA,wpAny_of_eq->ji,Spec->y0r,plainId_quiet->mR,wpAny_field->jH,wpAny_mono->iP,IsTupleKey->jO,wpAny_typeNameOfWhole_keyiter->Ny,wpAny_newList->qI,wpAny_setEntries_of->Fs,wpAny_updateSeq->zp,wpAny_isInstance->BF,wpAny_typeOf->pZ,wpAny_fieldsOf->zz,wpAny_pyIter_slot->Fb,wpAny_typeNameOf_keyiter->Nz,wpAny_attempt->yE,isSubtype_type->BO,builtinLookup_eq_fast->MI,codeAny_mono->wq,wpAny_letGo->sT,wpAny_loadPart'->y3b,wpAny_specialOf->DF,wpAny_truthy_bool->Hy,wpAny_tryCatch->Fp,DictEntry->Lx,wpAny_passesOwn->HC,call_meets->wJ,wpAny_dictEntries->Nw,wpAny_rule->yD,wpAny_storeSet_of->Nq,wpAny_runValue->Iw,wpAny_isOneOf_keyiter->Vx,wpAny_forIn_list->NV,IsPair->iV,codeAny_extend_loopS->Vn,wpAny_pyIter_revIter->VA,wpAny_updateSeq_pair->TY,typeLookup_type->MH,NameKind->so,tupleKind_room_in1->S8,wpAny_eqBool_tuple->V6,wpAny_pyIter_tuple->RQ,BindsTo->oJ,isSubtype_stop->Mi,wpAny_setField->L9,wpAny_comprehension_free->y7n,wpAny_pyIter_list->RP,GenState->vM,Builtin->y7x,strKind->Nt,wpAny_handled->Mb,wpAny_onRaise->Mg,wpAny_pyNext_tuple_item->Z3,wpAny_standAt->KI,noFill_tuple_add->So,wpAny_askSetting->UH,wpAny_Call_method_late->y8n,wpAny_pyNext_list_item->Z0,wpAny_pyNext_tuple_end->Z4,Keyword->sk,wpAny_dictEpoch->Vu,wpAny_eqIsQuiet_tuple->y99,wpAny_execs_nil->RM,wpAny_isSame_ref_self->y9b,wpAny_pyNext_list_end->Z1,call->Ij,intKind_is->Ju,typeIs_int->HW,wpAny_newFunctionEnv->y9s,IsPart->oN,wpAny_newTuple->TZ,wpAny_throw->Mc,Arguments->HQ,Fin->IF,call_reversed_list->yas,seq_tuple_add->Sq,ItemsOf->BN,slot_list_getitem->ybd,wpAny_assign_Name->ZY,wpAny_call->K4,wpAny_load->KJ,wpAny_sequenceKey->ybh,wpAny_setEpoch_of->ybi,Within->RB,Result->rY,concat_meets->Sn,seqIndex_neg->SK,wpAny_Dict_empty->yc4,wpAny_execs_cons->ZX,wpAny_pyIter_zip->yc6,codeAny_of_tree->yci,seqIndex_of->SJ,size_of_entries->ycl,entryFor_alias->yd4,PlainAttrs->SS,typeIs_str->SN,wpAny_Name->RI,DefRec->Ii,Params->Ih
open PySem.Around renaming under_plainId->uq,frames_deeper->y9i,under->R8
open PySem.Builtin renaming sorted->EE
open PySem.Builtin.Builtins renaming bindParams->y6j
open PySem.Builtin.Dict renaming showsAll->y8r,dictSlotNone->ycn,pendingCount->yco
open PySem.Builtin.Dict_items renaming ownsTuple->y6b
open PySem.Builtin.Frozenset renaming updateFrom->y6c,sizeOf->y7d,newClass->ycm
open PySem.Builtin.Int renaming intBits->DP,intTooBig->y8s
open PySem.Builtin.List renaming listExtendWith->vx,listSameRef->Ft,listTooLong->Lg,listLengthHint->Vl,listItems->y8f,listUpdate->yds
open PySem.Builtin.Range renaming rangeSize->Z8
open PySem.Builtin.Slice renaming slicePlaces->K8,sliceAdjust->Sx,sliceApplied->y6s,slicePartIndex->yc7,sliceFields->ycp
open PySem.Builtin.SmallTypes renaming nextOf->vv,ownedTupleIsFree->Mf,ownedTupleHandOut->y3q
open PySem.Builtin.Str renaming tooLong->yeh
open PySem.Builtin.Tuple renaming tupleExact->La,tupleItemsOf->SA,tupleCompareSizes->yav
open PySem.Calls renaming call_function_entry->BH,spliced_nil->HP,spliced_cons->K2,callWith_builtin->SU,Name_function_global->ZV,evalArgs_plain->y9k
open PySem.Challenge renaming rw_lateknow_k63_best_way->O2,pw_lateknow_k63_best_way->y8q
open PySem.Code renaming quiet_builtin->yaf,builtin->Sa,isFrame->R9,isGuard->ye2,frames->yei
open PySem.EqMixed renaming eq_bool_str->ycr,eq_str_bool->ycs,ne_bool_str->yct,ne_str_bool->ycu,eq_int_str->yd8,eq_str_int->yd9,ne_int_str->yda,ne_str_int->ydb
open PySem.EqNone renaming eq_bool_none->ycv,eq_none_bool->ycw,eq_none_none->ycx,ne_bool_none->ycy,ne_none_bool->ycz,ne_none_none->yd0,eq_int_none->ydc,eq_none_int->ydd,eq_none_str->yde,eq_str_none->ydf,ne_int_none->ydg,ne_none_int->ydh,ne_none_str->ydi,ne_str_none->ydj
open PySem.F renaming plainAttrs_list->v6,slot_list_append->ue,type_list_append->ug,slot_dict_keyiterator_next->uh,plain_min_loop->BX,called_set->zU,slot_tuple_iterator_next->L8,plainAttrs_tuple->QA,slot_tuple_index->QB,type_tuple_index->QC,slot_set_iter->Nn,args_dict_keyiterator_next_1->y3x,entry_dict_keyiterator_next->y49,args_tuple_add_2->Su,slot_dict_keyiterator_iter->y4h,entry_tuple_add->Ss,slot_list_index->YO,type_list_index->YQ,entry_min_loop->Vf,slot_tuple_add->Sr,plain_list_iadd->No,slot_dict_len->VD,args_tuple_iterator_next_1->y6d,entry_tuple_iterator_next->y6k,plain_extend_loop->Vm,slot_zip_next->Me,args_set_iter_1->y7y,slot_dict_iter->y8k,entry_proto_collect->y8t,plain_proto_collect->y8u,plain_set_new->y95,args_tuple_index_2->y9l,entry_tuple_index->ya1,slot_tuple_index->yag,args_zip_next_1->yaw,entry_list_iadd->yax,entry_zip_next->ybw,slot_int_rmul->yc9
open PySem.Heap renaming get?_push_of_some->yb,get?_push_size->yi,lt_size->yt,size_push->vq,get?_update_self->vy,get?_update_other->uo,SameBut->i3,ExtBut->Io,size_update->Ua,get?_none_of_le->ZP
open PySem.Heap.DictOf renaming new->yff
open PySem.Heap.IsSliceOf renaming new->yf2
open PySem.Heap.SameBut renaming update->ul
open PySem.IsRange renaming new->Z7
open PySem.ItemsOf renaming nil->Vo
open PySem.Moved renaming trans->yek
open PySem.NameKind renaming free->L0
open PySem.Obj renaming mapSeq->gf,data_mapFields->Ma,isFreed_of_fields->y92,cls_mapFields->yb4,putSet->Nr,mapFields->ydx
open PySem.Paired renaming length->CJ,snoc->yel
open PySem.PassesOwn renaming never->u8
open PySem.PyData renaming eqvAll->BK,canLay0->EI,depth->BI,canLayAll0->Ud,eqv->EK,depthAll->Ue,strOk->Uc
open PySem.SeqAt renaming EqAt->HV
open PySem.SeqAt.EqAt renaming str_str->Ld,int_int->yam,int_str->ZK,str_int->ZL,bool_bool->yee,bool_none->yef,none_bool->yeg,bool_int->yep,bool_str->yeq,int_bool->yer,int_none->yes,none_int->yet,none_str->yeu,str_bool->yev,str_none->yew,same->yfg
open PySem.SetTable renaming insertAt->xa,below->xg,runEnd->vo,bits->ud,turns->qM,leap->Fg,Probe->IW,fill->Ja,has->IV,sizeAbove->U7,layClean->U4,grown->Vp,fits->UX,tooFull->yc3,put->yea
open PySem.SetTable.below renaming go->yba
open PySem.SetTable.layClean renaming free->Fk
open PySem.SetTable.probe renaming go->U0
open PySem.Shared renaming TypeIs->Np,heap->yex
open PySem.Str renaming ofString->u5
open PySem.Value renaming ref->v5,none->uy,type->kR,int->kQ,bool->A2,str->Hr,float->Rz,isStrOf_shape->yd1,isInt_shape->ydy,isStrOf->ZH,isStrOf->yeo,bytes->ZM,isInt->ZG,isInt->yfd
open PySem.W renaming Frag->yd,findIn->v0,mg_none_of->vn,fnOf->i7,kia_one->oH,emptyDict->rZ,mg_of->nG,kitOne->pV,codeHdIn->zt,keepIn->sd,specialIn->Bg,instObj->vK,takesIn->HM,noTabs->Jm,tabObj->Jn,nsIn->FF,plainGet->KZ,mroIn->HN,OpenLaw->Ly,plainGet_of->R1,callWith_K->Sc,isFn->HJ,codeIn->K6,lookIn->KS,hasDictIn->R0,methodObj->RC,cellsFrom_some->y8l,envX->Na,takerIn->R3,codeHd_of_K->yaa,WalkO->Tg,kitx_dict->yb7,kitx_list->yb8,plainOver->yb9,handedIn->yc2,kla_obj->ycf,makesIn->ycg,kla_fn->yd2
open PySem.W.Looks renaming here->yf6
open PySem.W.WData renaming layableAll->ydk,weight->yed
open PySem.Within renaming cons->yfe
open PySem.pickOrder renaming go->yec
open Std.Legacy renaming Range->Uq
open Std.Legacy.Range renaming forIn_eq_forIn_range'->y9f,size->yeb
open String renaming splitOnAux->ybb,splitOn->yd3
open Sum renaming inl->fU,inr->ij
open True renaming intro->j6
local macro_rules | `(tactic| omega) => do
 let f s:=((s:String).splitOn ",").toArray.map λ n=>Lean.mkIdent n.toName
 let a:=f "Nat.zero_le,Nat.le_refl,Nat.le_of_lt,Nat.le_succ,Nat.lt_succ_self,Nat.le_trans,Nat.lt_of_le_of_lt,Nat.lt_of_lt_of_le,Eq.symm,Eq.trans,Nat.le_of_eq,Nat.lt_of_lt_of_eq,Nat.lt_of_eq_of_lt,Nat.ne_of_lt,Nat.ne_of_gt,Int.le_of_lt,Int.le_refl"
 `(tactic|first|(with_reducible first|assumption $[|(apply $a<;>first|assumption|decide|exact Eq.symm (by assumption))]*)|decide|lia|omega +splitDisjunctions)
local macro_rules | `(tactic| walk_at "s") => `(tactic| exact ⟨rfl,rfl,rfl,by decide +kernel,rfl,by decide +kernel,by decide +kernel⟩)
namespace L2
open PySem PySem.Spec PyProof.Rows
abbrev Key:=Sum Int Str
def A1:Key->Value->Bool
 | .inl k,v=>ZG k v
 | .inr x,v=>ZH x v
def Kw(w:World):Key->Int
 | .inl k=>hashInt k
 | .inr x=>hashStr w x
theorem pJ:∀{k:Key}{v:Value},A1 k v=true->(∃i t,k=fU i/\v=kQ i t)\/(∃x t,k=ij x/\v=Hr x t)
 | .inl i,v,h=>by
  obtain⟨t,e⟩:=Value.isInt_shape (k:=i) (v:=v) h;exact .inl ⟨i,t,rfl,e⟩
 | .inr x,v,h=>by
  obtain⟨t,e⟩:=Value.isStrOf_shape (x:=x) (v:=v) h;exact .inr ⟨x,t,rfl,e⟩
theorem ZI(i:Int)(t:Tok):A1 (.inl i) (.int i t)=true:=by simp[A1,ZG]
theorem ZJ(x:Str)(t:Tok):A1 (.inr x) (.str x t)=true:=by simp[A1,ZH]
theorem vG(a b:Int):decide ((fU a:Key)=fU b)=(a==b):=by
 by_cases e:a=b
 ·subst e;simp
 ·have h:¬ (fU a:Key)=fU b:=λq=>e (Sum.inl.inj q);rw[decide_eq_false h];exact(beq_eq_false_iff_ne.mpr e).symm
theorem vH(a b:Str):decide ((ij a:Key)=ij b)=decide (a=b):=by
 by_cases e:a=b
 ·subst e;simp
 ·have h:¬ (ij a:Key)=ij b:=λq=>e (Sum.inr.inj q);rw[decide_eq_false h,decide_eq_false e]
theorem vI(a:Int)(b:Str):decide ((fU a:Key)=ij b)=false:=decide_eq_false (λq=>nomatch q)
theorem vJ(a:Str)(b:Int):decide ((ij a:Key)=fU b)=false:=decide_eq_false (λq=>nomatch q)
def cJ(prog:xf)(w:World):PySem.KeyKind prog w Key where
 is:=A1
 hash:=Kw w
 inj:=λv a b ha hb=>by
  rcases pJ ha with⟨i,t,rfl,rfl⟩|⟨x,t,rfl,rfl⟩
  ·rcases pJ hb with⟨j,u,rfl,e⟩|⟨y,u,rfl,e⟩
   ·injection e with e1 _;rw[e1]
   ·exact nomatch e
  ·rcases pJ hb with⟨j,u,rfl,e⟩|⟨y,u,rfl,e⟩
   ·exact nomatch e
   ·injection e with e1 _;rw[e1]
 byValue:=λk v h=>by
  rcases pJ h with⟨i,t,rfl,rfl⟩|⟨x,t,rfl,rfl⟩<;>rfl
 pyHash:=λhv h=>by
  rcases pJ hv with⟨i,t,rfl,rfl⟩|⟨x,t,rfl,rfl⟩
  ·exact wpAny_pyHash_int h
  ·exact wpAny_pyHash_str h
 eqBool:=λhu hv h=>by
  rcases pJ hu with⟨i,t,rfl,rfl⟩|⟨x,t,rfl,rfl⟩
  ·rcases pJ hv with⟨j,u,rfl,rfl⟩|⟨y,u,rfl,rfl⟩
   ·rw[vG]at h;exact wpAny_eqBool_int h
   ·rw[vI]at h;exact ZK i t y u _ _ _ _ h
  ·rcases pJ hv with⟨j,u,rfl,rfl⟩|⟨y,u,rfl,rfl⟩
   ·rw[vJ]at h;exact ZL x t j u _ _ _ _ h
   ·rw[vH]at h;exact wpAny_eqBool_str h
 «strs»:=λk x t v h=>by
  rcases pJ h with⟨i,u,rfl,e⟩|⟨y,u,rfl,e⟩
  ·exact nomatch e
  ·injection e with e1 _;subst e1;cases v<;>rfl
theorem Hs(prog:xf)(w:World)(i:Int)(t:Tok):(cJ prog w).is (.inl i) (.int i t)=true:=ZI i t
theorem Ht(prog:xf)(w:World)(x:Str)(t:Tok):(cJ prog w).is (.inr x) (.str x t)=true:=ZJ x t
inductive V where
 |non|bl (b:Bool)|int (i:Int)|str (x:Str)|byt (b:Array UInt8)|flt (b:UInt64)|ref (a:Addr)|ty (n:String)
 deriving DecidableEq
def RelV:V->Value->Prop
 | .non,u=>u=uy
 | .bl b,u=>u=A2 b
 | .int i,u=>∃t,u=kQ i t
 | .str x,u=>∃t,u=Hr x t
 | .byt b,u=>∃t,u=ZM b t
 | .flt b,u=>∃t,u=Rz b t
 | .ref a,u=>u=v5 a
 | .ty n,u=>u=kR n
abbrev am:List V->List Value->Prop:=Paired RelV
theorem am.length{xs:List V}{us:List Value}(r:am xs us):xs.length=us.length:=CJ r
theorem am.get:∀{xs:List V}{us:List Value}{i:Nat}{x:V},am xs us->xs[i]?=some x->∃u,us[i]?=some u/\RelV x u
 |_,_,_,_,.nil,e=>by simp at e
 |_,_,0,_,.cons r _,e=>by simp at e;subst e;exact⟨_,rfl,r⟩
 |_,_,i+1,x,.cons _ t,e=>by
  obtain⟨u,h1,h2⟩:=am.get (i:=i) (x:=x) t (by simpa using e);exact⟨u,by simpa using h1,h2⟩
theorem am.set{x:V}{u:Value}(r:RelV x u):∀{xs:List V}{us:List Value} (i:Nat),am xs us->am (xs.set i x) (us.set i u)
 |_,_,_,.nil=>.nil
 |_,_,0,.cons _ t=>.cons r t
 |_,_,i+1,.cons q t=>.cons q (am.set r i t)
theorem am.append:∀{xs ys:List V}{us ws:List Value},am xs us->am ys ws->am (xs++ys) (us++ws)
 |_,_,_,_,.nil,s=>s
 |_,_,_,_,.cons r t,s=>.cons r (am.append t s)
theorem am.take:∀{xs:List V}{us:List Value} (n:Nat),am xs us->am (xs.take n) (us.take n)
 |_,_,0,_=>.nil
 |_,_,_+1,.nil=>.nil
 |_,_,n+1,.cons r t=>.cons r (am.take n t)
theorem am.drop:∀{xs:List V}{us:List Value} (n:Nat),am xs us->am (xs.drop n) (us.drop n)
 |_,_,0,r=>r
 |_,_,_+1,.nil=>.nil
 |_,_,n+1,.cons _ t=>am.drop n t
def cQ:Option V->Option Value->Prop
 |some v,some u=>RelV v u
 |none,none=>True
 |_,_=>False
def KV{κ:Type}:List (κ×V)->List (κ×Value)->Prop:=Paired λ(p:κ×V) (q:κ×Value)=>p.1=q.1/\RelV p.2 q.2
def kV:Key->V
 | .inl i=>.int i
 | .inr x=>.str x
def iZ(h:Heap)(a:Addr)(xs:Array Value):Prop:=IsTup h a xs/\∃o,h.get? a=some o/\o.dict=none
theorem iZ.new(h:Heap)(xs:Array Value):iZ (h.push {cls:=.type "tuple",data:=.seq xs}) h.objs.size xs:=⟨IsTup.new _ _,_,yi _ rfl,rfl⟩
inductive HO where
  |lst (xs:List V)
  |tup (xs:List V)
  |dK (af:List (Key×V))|dT (af:List (List Key×V))
  |set (S:Int->Bool) (n:Nat)
  |ins (C dx:Addr) (fs:List (Str×V))
  |own (x:Addr)
  |xd (fs:List (Str×V))
  |met (f x:Addr)
  |rng (lo hi:Int)
  |frz (o:Obj) (u:HO)
  |tbl (ps:Array Value)
  |ext (φ:Heap->Prop)
abbrev Hp:=Addr->Option HO
def aH(H:Hp)(a:Addr)(o:HO):Hp:=λb=>if b=a then some o else H b
variable{H:Hp}{a:Addr}{o:HO}
theorem bi:aH H a o a=some o:=by unfold aH;rw[if_pos rfl]
variable{b:Addr}
theorem bf(h:b≠a):aH H a o b=H b:=by unfold aH;rw[if_neg h]
theorem RA{u:HO}:aH (aH H a o) a u=aH H a u:=by
 funext b;unfold aH;split<;>rfl
theorem A3{u:HO}(h:H a=some o)(h':H b=some u)(d:o≠u):a≠b:=by
 intro e;subst e;rw[h]at h';exact d (vm h')
theorem cD(h:H a=some o)(h':H b=none):a≠b:=by
 intro e;subst e;rw[h]at h';cases h'
section
variable(P:xf)(w:World)
def ObjOk(H:Hp)(h:Heap)(a:Addr):HO->Prop
 | .lst xs=>xs.length<=sizeLine/\∃(ai:List Value) (n:Nat),am xs ai/\h.get? a=some {cls:=.type "list",data:=.seq ai.toArray n}
 | .tup xs=>xs.length<=sizeLine/\∃ai:List Value,am xs ai/\iZ h a ai.toArray
 | .dK af=>af.length<=sizeLine/\(a==sysModules)=false/\∃vs,KV af vs/\h.DictOf (cJ P w) a vs
 | .dT af=>af.length<=sizeLine/\(a==sysModules)=false/\∃xs:List (List Key×Addr×Value),
   Paired (λ(p:List Key×V) (q:List Key×Addr×Value)=>p.1=q.1/\H q.2.1=some (.tup (p.1.map kV))/\RelV p.2 q.2.2) af xs/\
   ∃o es ep,h.get? a=some o/\o.ExactDict/\o.data=.dict es ep/\es.toList=xs.map (entryOfKey (tupleKind (cJ P w)))/\(xs.map (·.1)).Nodup
 | .set S n=>h.SetOf (intKind P w) a S n
 | .ins C dx fs=>H dx=some (.own a)/\fs.length<=1000/\dx≠a/\h.get? a=some (vK C dx)/\
   ∃mA,h.Ns1 dx mA/\(∀f,cQ (fs.lookup f) (mA f))/\RB mA (fs.map (·.1))
 | .own _=>∃o,h.get? a=some o
 | .xd fs=>∃mA,h.Ns1 a mA/\∀f,cQ (fs.lookup f) (mA f)
 | .rng lo hi=>∃t u v,h.get? a=some {cls:=.type "range",data:=.fields #[.int lo t,.int hi u,.int 1 v]}
 | .frz o u=>h.get? a=some o/\ObjOk H h a u
 | .tbl ps=>h.get? a=some {cls:=.none,data:=.fields ps}
 | .met f x=>h.get? a=some (RC (.ref f) (.ref x))
 | .ext φ=>φ h/\(∃o,h.get? a=some o)/\∀h1 h2:Heap,φ h1->(∀o,h1.get? a=some o->h2.get? a=some o)->φ h2
def cK(H:Hp)(h:Heap):Prop:=∀a o,H a=some o->ObjOk P w H h a o
end
section
variable{P:xf}{w:World}{H H':Hp}{h h':Heap}{a:Addr}{o:HO}
theorem ObjOk.lt(x:ObjOk P w H h a o):a<h.objs.size:=by
 cases o with
 |lst xs=>obtain⟨_,_,_,_,e⟩:=x;exact yt e
 |tup xs=>obtain⟨_,_,_,p⟩:=x;exact p.1.lt
 |dK af=>obtain⟨_,_,_,_,o,_,_,e,_⟩:=x;exact yt e
 |dT af=>obtain⟨_,_,_,_,o,_,_,e,_⟩:=x;exact yt e
 |set S n=>obtain⟨o,_,_,_,e,_⟩:=x;exact yt e
 |ins C dx fs=>obtain⟨_,_,_,e,_⟩:=x;exact yt e
 |own y=>obtain⟨_,e⟩:=x;exact yt e
 |xd fs=>obtain⟨_,⟨_,_,_,e,_⟩,_⟩:=x;exact yt e
 |rng lo hi=>obtain⟨_,_,_,e⟩:=x;exact yt e
 |frz ob u=>obtain⟨e,_⟩:=x;exact yt e
 |tbl ps=>exact yt (show h.get? a=some _ from x)
 |met f y=>exact yt (show h.get? a=some _ from x)
 |ext φ=>obtain⟨_,⟨_,e⟩,_⟩:=x;exact yt e
theorem Paired.mapP{α β:Type}{F G:α->β->Prop}:∀{l₁:List α}{l₂:List β},Paired F l₁ l₂->(∀a b,F a b->G a b)->Paired G l₁ l₂
 |_,_,.nil,_=>.nil
 |_,_,.cons r t,f=>.cons (f _ _ r) (Paired.mapP t f)
theorem ObjOk.stay(x:ObjOk P w H h a o)(k:∀b u,(b=a\/H b=some (.own a))->h.get? b=some u->h'.get? b=some u)
  (ho:∀b,H b=some (.own a)->H' b=some (.own a)) (ht:∀b xs,H b=some (.tup xs)->H' b=some (.tup xs)):ObjOk P w H' h' a o:=by
 induction o with
 |lst xs=>obtain⟨z,ai,n,r,e⟩:=x;exact⟨z,ai,n,r,k _ _ (.inl rfl) e⟩
 |tup xs=>obtain⟨z,ai,r,⟨ob,e,c⟩,od,f,d⟩:=x;exact⟨z,ai,r,⟨ob,k _ _ (.inl rfl) e,c⟩,od,k _ _ (.inl rfl) f,d⟩
 |dK af=>obtain⟨z,y,vs,r,ob,es,ep,e,c⟩:=x;exact⟨z,y,vs,r,ob,es,ep,k _ _ (.inl rfl) e,c⟩
 |dT af=>
  obtain⟨z,y,xs,r,ob,es,ep,e,c⟩:=x;exact⟨z,y,xs,Paired.mapP r λp q z=>⟨z.1,ht _ _ z.2.1,z.2.2⟩,ob,es,ep,k _ _ (.inl rfl) e,c⟩
 |set S n=>obtain⟨ob,es,ep,t,e,c⟩:=x;exact⟨ob,es,ep,t,k _ _ (.inl rfl) e,c⟩
 |ins C dx fs=>
  obtain⟨d,z,ne,e,mA,⟨od,es,ep,e2,c⟩,r⟩:=x;exact⟨ho _ d,z,ne,k _ _ (.inl rfl) e,mA,⟨od,es,ep,k _ _ (.inr d) e2,c⟩,r⟩
 |own y=>obtain⟨ob,e⟩:=x;exact⟨ob,k _ _ (.inl rfl) e⟩
 |xd fs=>obtain⟨mA,⟨od,es,ep,e,c⟩,r⟩:=x;exact⟨mA,⟨od,es,ep,k _ _ (.inl rfl) e,c⟩,r⟩
 |rng lo hi=>obtain⟨t,u,v,e⟩:=x;exact⟨t,u,v,k _ _ (.inl rfl) e⟩
 |frz ob u ih=>obtain⟨e,q⟩:=x;exact⟨k _ _ (.inl rfl) e,ih q⟩
 |tbl ps=>
  have e:h.get? a=some {cls:=.none,data:=.fields ps}:=x;show h'.get? a=some {cls:=.none,data:=.fields ps};exact k a _ (.inl rfl) e
 |met f y=>
  have e:h.get? a=some (RC (.ref f) (.ref y)):=x;show h'.get? a=some (RC (.ref f) (.ref y));exact k a _ (.inl rfl) e
 |ext φ=>obtain⟨p,⟨o,e⟩,st⟩:=x;exact⟨st _ _ p λo q=>k _ _ (.inl rfl) q,⟨o,k _ _ (.inl rfl) e⟩,st⟩
theorem cK.lt(x:cK P w H h)(e:H a=some o):a<h.objs.size:=(x a o e).lt
theorem cK.fresh(x:cK P w H h)(e:h.objs.size<=a):H a=none:=by
 cases q:H a with
 |none=>rfl
 |some u=>exact absurd (xz (x.lt q) e) (A4 _)
theorem cK.kept(x:cK P w H h)(k:∀b u,h.get? b=some u->h'.get? b=some u):cK P w H h':=λa o e=>
 (x a o e).stay (λb u _ q=>k b u q) (λ_ q=>q) λ_ _ q=>q
theorem cK.laid(x:cK P w H h)(k:∀b u,h.get? b=some u->h'.get? b=some u)(hp:h.objs.size<=a)(new:ObjOk P w (aH H a o) h' a o):cK P w (aH H a o) h':=λb u e=>by
 have hn:=x.fresh hp;by_cases hb:b=a
 ·subst hb;rw[bi]at e;cases e;exact new
 ·rw[bf hb]at e;exact(x b u e).stay (λc v _ q=>k c v q) (λc q=>by rw[bf (cD q hn)];exact q) λc xs q=>by rw[bf (cD q hn)];exact q
end
def Rd(H:Hp)(a:Addr)(u:HO):Prop:=H a=some u\/∃o,H a=some (.frz o u)
variable{P:xf}{w:World}{h:Heap}
theorem Rd.ok{u:HO}(r:Rd H a u)(x:cK P w H h):ObjOk P w H h a u:=by
 rcases r with r|⟨o,r⟩
 ·exact x a u r
 ·obtain⟨_,q⟩:=x a _ r;exact q
def CK:Option HO->Prop
 |some (.lst _)=>True
 |some (.dK _)=>True
 |some (.dT _)=>True
 |some (.set _ _)=>True
 |some (.ins _ _ _)=>True
 |some (.ext _)=>True
 |_=>False
section
variable{P:xf}{w:World}{H:Hp}{h h':Heap}{x e:Addr}{o':HO}
theorem cK.write(ok:cK P w H h)(mu:CK (H x))(he:e=x\/H e=some (.own x))(k:∀b u,b≠e->h.get? b=some u->h'.get? b=some u)(A5:∃u,h'.get? e=some u)
  (new:ObjOk P w (aH H x o') h' x o'):cK P w (aH H x o') h':=λb u q=>by
 have CL:∀c y,H c=some (.own y)->c≠x:=λc y r z=>by subst z;rw[r]at mu;exact mu
 have Kx:∀c xs,H c=some (.tup xs)->c≠x:=λc xs r z=>by subst z;rw[r]at mu;exact mu
 by_cases hb:b=x
 ·subst hb;rw[bi]at q;cases q;exact new
 ·rw[bf hb]at q;by_cases vL:b=e
  ·have q':H b=some (.own x):=by
    rcases he with z|z
    ·exact absurd (vL.trans z) hb
    ·rw[vL];exact z
   rw[q]at q';cases q';obtain⟨v,hv⟩:=A5;exact⟨v,by rw[vL];exact hv⟩
  ·refine(ok b u q).stay (λc v hc r=>k c v ?_ r) (λc r=>by rw[bf (CL c b r)];exact r) λc xs r=>by rw[bf (Kx c xs r)];exact r
   rcases hc with rfl|hc
   ·exact vL
   ·rintro rfl;rcases he with z|z
    ·exact CL c b hc z
    ·rw[hc]at z;cases z;exact hb rfl
end
structure Un(fs ex:List Addr)(H H':Hp)(h h':Heap):Prop where
 keep:∀b o,h.get? b=some o->H b=none->b∉fs->b∉ex->h'.get? b=some o
 slot:∀b o,h.get? b=some o->H b=none->b∈fs->b∉ex->∃sl,h'.get? b=some {o with slots:=sl}
 free:∀b o,h.get? b=some o->H b=none->b∉ex->H' b=none
 there:∀b o,h.get? b=some o->b∉ex->∃o',h'.get? b=some o'
 tups:∀b xs,H b=some (.tup xs)->H' b=some (.tup xs)
 frzs:∀b o u,H b=some (.frz o u)->H' b=some (.frz o u)
 tbls:∀b ps,H b=some (.tbl ps)->∃more,H' b=some (.tbl (ps++more))
section
variable{fs ZN ex ex':List Addr}{H H1 H2:Hp}{h h1 h2 h':Heap}{a x e:Addr}{o:HO}
theorem Un.any(u:Un fs ex H H1 h h1){ob:Obj}(q:h.get? b=some ob)(n:H b=none)(hx:b∉ex):∃sl,h1.get? b=some {ob with slots:=sl}:=by
 by_cases hb:b∈fs
 ·exact u.slot b ob q n hb hx
 ·exact⟨ob.slots,u.keep b ob q n hb hx⟩
theorem Un.kept(k:∀b u,h.get? b=some u->h'.get? b=some u):Un fs ex H H h h':=
 ⟨λb ob q _ _ _=>k b ob q,λb ob q _ _ _=>⟨ob.slots,k b ob q⟩,λ_ _ _ n _=>n,λb ob q _=>⟨ob,k b ob q⟩,λ_ _ q=>q,λ_ _ _ q=>q,λ_ ps q=>⟨#[],by rw[q];simp⟩⟩
theorem Un.refl:Un fs ex H H h h:=Un.kept λ_ _ q=>q
theorem Un.laid(k:∀b u,h.get? b=some u->h'.get? b=some u)(hp:h.objs.size<=a)(hn:H a=none):Un fs ex H (aH H a o) h h' where
 keep:=λb u q _ _ _=>k b u q
 slot:=λb u q _ _ _=>⟨u.slots,k b u q⟩
 free:=λb u q n _=>by rw[bf (xn (xz (yt q) hp))];exact n
 there:=λb u q _=>⟨u,k b u q⟩
 tups:=λb xs q=>by rw[bf (cD q hn)];exact q
 frzs:=λb u xs q=>by rw[bf (cD q hn)];exact q
 tbls:=λb ps q=>⟨#[],by rw[bf (cD q hn),q];simp⟩
theorem Un.write(mu:CK (H x))(he:e=x\/H e=some (.own x))(k:∀b u,b≠e->h.get? b=some u->h'.get? b=some u)(A5:∃u,h'.get? e=some u):Un fs ex H (aH H x o) h h':=by
 have hx:∀b,H b=none->b≠x:=λb n z=>by subst z;rw[n]at mu;exact mu
 have hb:∀b,H b=none->b≠e:=λb n z=>by
  subst z;rcases he with r|r
  ·exact hx b n r
  ·rw[n]at r;cases r
 have hm:∀b u,H b=some u->¬ CK (some u)->b≠x:=λb u q nm z=>by subst z;rw[q]at mu;exact nm mu
 refine⟨λb u q n _ _=>k b u (hb b n) q,λb u q n _ _=>⟨u.slots,k b u (hb b n) q⟩,λb u q n _=>by rw[bf (hx b n)];exact n,λb u q _=>?_,
  λb xs q=>by rw[bf (hm b _ q λz=>z)];exact q,λb u xs q=>by rw[bf (hm b _ q λz=>z)];exact q,λb ps q=>⟨#[],by rw[bf (hm b _ q λz=>z),q];simp⟩⟩
 by_cases vL:b=e
 ·subst vL;exact A5
 ·exact⟨u,k b u vL q⟩
end
def Hu(h:Heap)(H:Hp):List Addr:=(vi h.objs.size).filter λa=>(H a).isSome
def dL(h:Heap)(H:Hp):Heap:=PySem.W.hideAll h (Hu h H)
theorem RD(h:Heap)(H:Hp):(dL h H).objs.size=h.objs.size:=PySem.W.hideAll_size _ _
theorem RE{o:Obj}(e:h.get? b=some o)(n:H b=none):(dL h H).get? b=some o:=
 PySem.W.hideAll_get _ e λhm=>by
  have q:(H b).isSome=true:=(kT.mp hm).2;rw[n]at q;simp at q
theorem RF{h:Heap}{H:Hp}{b:Addr}{o:Obj}(e:(dL h H).get? b=some o):h.get? b=some o/\H b=none:=by
 have e':h.get? b=some o:=PySem.W.of_hideAll (Hu h H) e;refine⟨e',?_⟩;cases q:H b with
 |none=>rfl
 |some x=>
  have hm:b∈Hu h H:=kT.mpr ⟨u9.mpr (yt e'),by simp[q]⟩;have z:(dL h H).get? b=none:=PySem.W.hideAll_none (Hu h H) hm;rw[z]at e;cases e
def ZO(g h:Heap)(L:Addr):List (Addr×Obj):=(vi h.objs.size).filterMap λa=>if a=L\/(g.get? a).isSome=true then none else(h.get? a).map λo=>(a,o)
def br(g h:Heap)(L d:Addr):List (Addr×Obj):=(ZO g h L).filter λp=>decide (p.1≠d)
structure Mod(K:yd)(mg:Str->Option Value)(base:Heap):Prop where
 kin:K.In base
 glob:base.Ns mainGlobals mg
 blt:∃mb,base.Ns builtinsNs mb/\∀x:Str,x≠"__name__"->mb x=bootBuiltins x
 nolimit:base.NoLimit
 bmain:∃bm ob,mg "__builtins__"=some (.ref bm)/\bm≠builtinsNs/\base.get? bm=some ob/\ob.cls=.type "module"/\ob.dict=some builtinsNs/\ob.data=.plain
structure Cx where
 prog:xf
 w:World
 K:yd
 mg:Str->Option Value
 base:Heap
 A:v7
 N:List Str
 s₀:ye
 H₀:Hp
 env:Env
 outer:List Env
 stack:List Env
 ex:List Addr
 fn:Str->Bool
 calm:Bool
 pn:List (Addr×Obj)
 xe:Value->ye->Prop
def kU(l:List Env):List Addr:=l.filterMap (·.frame)
abbrev Cx.fs(X:Cx):List Addr:=kU X.outer
def Ky(sc:Scope)(x:Str):Prop:=sc.names.lookup x=some .local\/sc.names.lookup x=some .cell\/sc.names.lookup x=some .free
def Loc(sc:Scope)(x:Str):Prop:=sc.names.lookup x=some .local\/sc.names.lookup x=some .cell
def Look(env:Env)(h:Heap)(m:Str->Option Value)(x:Str)(u:Value):Prop:=
 (env.kindOf x=some .local/\m x=some u)\/((env.kindOf x=some .cell\/env.kindOf x=some .free)/\∃c,env.cells.lookup x=some c/\h.IsCell c (some u))
structure Cx.Ok(X:Cx):Prop where
 mod:Mod X.K X.mg X.base
 kind:X.env.scope.kind=.function
 glob:X.env.globals=mainGlobals
 blt:X.env.builtins=builtinsNs
 above:X.s₀.heap.objs.size<=X.env.locals
 inj:∀x y c,X.env.cells.lookup x=some c->X.env.cells.lookup y=some c->x=y
 has:∀x,(X.env.kindOf x=some .cell\/X.env.kindOf x=some .free)->∃c,X.env.cells.lookup x=some c
 cab:∀x c,X.fn x=true->X.env.cells.lookup x=some c->X.s₀.heap.objs.size<=c
 hd:X.calm=true->X.A.handled=none
 frames:X.A.frames=some X.stack
 stk:X.stack=X.outer\/(X.stack=X.env::X.outer/\X.env.frame=some X.env.locals)
 exf:∀b∈X.ex,b≠X.env.locals/\∀x c,X.env.cells.lookup x=some c->c≠b
 bs:∀b o,X.base.get? b=some o->X.s₀.heap.get? b=some o/\X.H₀ b=none
 bsz:X.base.objs.size<=X.s₀.heap.objs.size
 noex:∀b o,X.base.get? b=some o->b∉X.ex
 exfs:∀b∈X.ex,b∉X.fs
 funs:X.s₀.heap.FunFrames X.base X.outer
 frf:∀b∈X.fs,X.H₀ b=none
structure Inv(X:Cx)(ac:List (Addr×Obj))(σ:List (Option V))(H:Hp)(s:ye):Prop where
 ok:X.Ok
 os:s.os=X.s₀.os
 bare:lU s.gens
 base:Un X.fs X.ex X.H₀ H X.s₀.heap s.heap
 loc:∃m,s.heap.Ns X.env.locals m/\∀(i:Nat) (x:Str) (v:V),X.N[i]?=some x->σ[i]?=some (some v)->Ky X.env.scope x->∃u,RelV v u/\Look X.env s.heap m x u
 cell:∀x c,X.env.cells.lookup x=some c->∃v,s.heap.IsCell c v
 free:H X.env.locals=none
 freeC:∀x c,X.env.cells.lookup x=some c->H c=none
 pin:∀p∈X.pn++ac,s.heap.get? p.1=some p.2/\H p.1=none/\p.1≠X.env.locals/\p.1∉X.fs/\∀v,p.2.data≠.cell v
 hok:cK X.prog X.w H s.heap
 len:σ.length=X.N.length
variable{u:Value}{i:Nat}{x:Str}{v:V}
section
variable{X:Cx}{ac:List (Addr×Obj)}{σ:List (Option V)}{H H':Hp}{s:ye}{h':Heap}
theorem Cx.Ok.nofr(ok:X.Ok){o:Obj}(e:X.base.get? b=some o):b∉X.fs:=λhb=>by
 have:=(ok.funs.mem hb).1;rw[e]at this;cases this
theorem Inv.bs(I:Inv X ac σ H s):∀b o,X.base.get? b=some o->s.heap.get? b=some o/\H b=none:=λb o e=>
 ⟨I.base.keep b o (I.ok.bs b o e).1 (I.ok.bs b o e).2 (I.ok.nofr e) (I.ok.noex b o e),I.base.free b o (I.ok.bs b o e).1 (I.ok.bs b o e).2 (I.ok.noex b o e)⟩
theorem Inv.bk(I:Inv X ac σ H s):∀b o,X.base.get? b=some o->s.heap.get? b=some o:=λb o e=>(I.bs b o e).1
theorem Inv.mod(I:Inv X ac σ H s):Mod X.K X.mg X.base:=I.ok.mod
theorem Inv.kIn(I:Inv X ac σ H s):X.K.In s.heap:=I.ok.mod.kin.keeps I.bk
theorem Inv.nolimit(I:Inv X ac σ H s):s.heap.NoLimit:=I.ok.mod.nolimit.keeps I.bk
theorem Inv.lt(I:Inv X ac σ H s):X.env.locals<s.heap.objs.size:=let ⟨_,hn,_⟩:=I.loc;hn.lt
theorem Inv.sz(I:Inv X ac σ H s):X.s₀.heap.objs.size<=s.heap.objs.size:=v9 I.ok.above (lV I.lt)
theorem Inv.nofs(I:Inv X ac σ H s)(h:s.heap.objs.size<=a):a∉X.fs:=λhb=>by
 obtain⟨_,o,ho,_⟩:=I.ok.funs.mem hb;exact absurd (xz (yt ho) (v9 I.sz h)) (A4 _)
theorem Inv.cne(I:Inv X ac σ H s):∀x c,X.env.cells.lookup x=some c->c≠X.env.locals:=λx c e z=>by
 obtain⟨v,o,ho,hd⟩:=I.cell x c e;obtain⟨m,⟨o',es,ep,nY,A6,_⟩,_⟩:=I.loc;rw[z,nY]at ho;cases ho;rw[A6]at hd;cases hd
theorem Inv.funs(I:Inv X ac σ H s):s.heap.FunFrames X.base X.outer:=by
 have all:∀(l:List Env),(∀b∈kU l,b∈X.fs)->X.s₀.heap.FunFrames X.base l->s.heap.FunFrames X.base l:=by
  intro l
  induction l with
  |nil=>intro _ _;trivial
  |cons env r ih=>
   intro hs hl;obtain⟨hk,⟨L,o,hf,hn,ho,hd⟩,hr⟩:=hl;have hL:L∈X.fs:=hs L (by unfold kU;rw[Kz,hf];exact yu);obtain⟨sl,e⟩:=I.base.slot L o ho (I.ok.frf L hL) hL λz=>I.ok.exfs L z hL;exact⟨hk,⟨L,_,hf,hn,e,hd⟩,ih (λb hb=>hs b (by unfold kU;rw[Kz,hf];exact yr _ hb)) hr⟩
 exact all X.outer (λ_ hb=>hb) I.ok.funs
theorem Inv.stack(I:Inv X ac σ H s):s.heap.FunFrames X.base X.stack:=by
 rcases I.ok.stk with e|⟨e,hf⟩
 ·rw[e];exact I.funs
 ·rw[e];obtain⟨m,hn,_⟩:=I.loc;refine .cons (by rw[I.ok.kind];decide) hf hn ?_ I.funs;exact ZP (v9 I.ok.bsz I.ok.above)
theorem Inv.stkSub(I:Inv X ac σ H s):∀b∈kU X.stack,b∈X.env.locals::X.fs:=λb hb=>by
 rcases I.ok.stk with e|⟨e,hf⟩
 ·rw[e]at hb;exact yr _ hb
 ·rw[e]at hb;unfold kU at hb;rw[Kz,hf]at hb;exact hb
theorem Inv.stkFree(I:Inv X ac σ H s):∀b∈kU X.stack,H b=none:=λb hb=>by
 rcases xc.mp (I.stkSub b hb)with e|hb
 ·rw[e];exact I.free
 ·obtain⟨_,o,ho,_⟩:=I.ok.funs.mem hb;exact I.base.free b o ho (I.ok.frf b hb) λz=>I.ok.exfs b z hb
theorem Inv.step{g':Array vM}{t':Nat}{d':Drawn}{ch:List Addr}(I:Inv X ac σ H s)
  (nZ:∀b∈ch,(b∈X.ex\/X.s₀.heap.objs.size<=b)/\b≠X.env.locals/\(∀x c,X.env.cells.lookup x=some c->c≠b)/\∀p∈X.pn++ac,p.1≠b)
  (keep:∀b o,b≠X.env.locals->b∉X.fs->b∉ch->s.heap.get? b=some o->H b=none->h'.get? b=some o)
  (slot:∀b o,b≠X.env.locals->b∈X.fs->b∉ch->s.heap.get? b=some o->H b=none->∃sl,h'.get? b=some {o with slots:=sl}) (free:∀b o,b∉ch->s.heap.get? b=some o->H b=none->H' b=none)
  (there:∀b o,b∉ch->s.heap.get? b=some o->∃o',h'.get? b=some o')
  (tups:∀b xs,H b=some (.tup xs)->H' b=some (.tup xs)) (frzs:∀b o u,H b=some (.frz o u)->H' b=some (.frz o u)) (tbls:∀b ps,H b=some (.tbl ps)->∃more,H' b=some (.tbl (ps++more)))
  (ns:∀m,s.heap.Ns X.env.locals m->h'.Ns X.env.locals m) (hok:cK X.prog X.w H' h') (hg:lU g'):
  Inv X ac σ H' {s with heap:=h',gens:=g',drawn:=d',toks:=t'}:=by
 have RG:∀b o,X.s₀.heap.get? b=some o->b≠X.env.locals:=λb o e=>xn (xz (yt e) I.ok.above);have Hv:∀b o,X.s₀.heap.get? b=some o->b∉X.ex->b∉ch:=λb o e hx hb=>by
  rcases(nZ b hb).1 with z|z
  ·exact hx z
  ·exact absurd (xz (yt e) z) (A4 _)
 have rH:∀x c,X.env.cells.lookup x=some c->∀v,s.heap.IsCell c v->h'.IsCell c v:=λx c e v ⟨o,ho,hd⟩=>by
  have CM:c∉ch:=λz=>(nZ c z).2.2.1 x c e rfl;by_cases hc:c∈X.fs
  ·obtain⟨sl,q⟩:=slot c o (I.cne x c e) hc CM ho (I.freeC x c e);exact⟨_,q,hd⟩
  ·exact⟨o,keep c o (I.cne x c e) hc CM ho (I.freeC x c e),hd⟩
 refine⟨I.ok,I.os,hg,⟨λb o e n hb hx=>?_,λb o e n hb hx=>?_,λb o e n hx=>?_,λb o e hx=>?_,λb xs e=>tups b xs (I.base.tups b xs e),λb o xs e=>frzs b o xs (I.base.frzs b o xs e),λb ps e=>?_⟩,?_,λx c e=>?_,?_,λx c e=>?_,λp hp=>?_,hok,I.len⟩
 ·exact keep b o (RG b o e) hb (Hv b o e hx) (I.base.keep b o e n hb hx) (I.base.free b o e n hx)
 ·obtain⟨sl,e1⟩:=I.base.slot b o e n hb hx;obtain⟨ZQ,e2⟩:=slot b _ (RG b o e) hb (Hv b o e hx) e1 (I.base.free b o e n hx);exact⟨ZQ,e2⟩
 ·obtain⟨o',e1⟩:=I.base.there b o e hx;exact free b o' (Hv b o e hx) e1 (I.base.free b o e n hx)
 ·obtain⟨o',e1⟩:=I.base.there b o e hx;exact there b o' (Hv b o e hx) e1
 ·obtain⟨m1,e1⟩:=I.base.tbls b ps e;obtain⟨m2,e2⟩:=tbls b _ e1;exact⟨m1++m2,by rw[e2,Array.append_assoc]⟩
 ·obtain⟨m,hn,hl⟩:=I.loc;refine⟨m,ns m hn,λi x v e1 e2 e3=>?_⟩;obtain⟨u,r,l⟩:=hl i x v e1 e2 e3;refine⟨u,r,?_⟩;rcases l with l|⟨k,c,e,z⟩
  ·exact .inl l
  ·exact .inr ⟨k,c,e,rH x c e _ z⟩
 ·obtain⟨v,z⟩:=I.cell x c e;exact⟨v,rH x c e v z⟩
 ·obtain⟨m,⟨o,_,_,ho,_⟩,_⟩:=I.loc;exact free _ o (λz=>(nZ _ z).2.1 rfl) ho I.free
 ·obtain⟨v,o,ho,hd⟩:=I.cell x c e;exact free c o (λz=>(nZ c z).2.2.1 x c e rfl) ho (I.freeC x c e)
 ·obtain⟨e,n,ne,nf,d⟩:=I.pin p hp;have CM:p.1∉ch:=λz=>(nZ p.1 z).2.2.2 p hp rfl;exact⟨keep p.1 p.2 ne nf CM e n,free p.1 p.2 CM e n,ne,nf,d⟩
theorem Inv.un{t':Nat}(I:Inv X ac σ H s)(u:Un X.fs [] H H' s.heap h')(hok:cK X.prog X.w H' h'):Inv X ac σ H' {s with heap:=h',toks:=t'}:=by
 obtain⟨m,⟨o,es,ep,ho,r⟩,_⟩:=id I.loc;obtain⟨sl,hL⟩:=u.any ho I.free (by simp);exact I.step (g':=s.gens) (d':=s.drawn) (ch:=[]) (λ_ z=>nomatch z) (λb o _ hb _ e n=>u.keep b o e n hb (by simp)) (λb o _ hb _ e n=>u.slot b o e n hb (by simp)) (λb o _ e n=>u.free b o e n (by simp)) (λb o _ e=>u.there b o e (by simp)) u.tups u.frzs u.tbls (λm' hm=>by
  obtain⟨o',eO,fi,nY,r'⟩:=hm;rw[ho]at nY;cases nY;exact⟨_,eO,fi,hL,r'⟩) hok I.bare
theorem Inv.call{g':Array vM}{t':Nat}{d':Drawn}{ch:List Addr}(I:Inv X ac σ H s)(u:Un (kU X.stack) ch H H' s.heap h')(hok:cK X.prog X.w H' h')(hg:lU g')
  (nZ:∀b∈ch,(b∈X.ex\/X.s₀.heap.objs.size<=b)/\b≠X.env.locals/\(∀x c,X.env.cells.lookup x=some c->c≠b)/\∀p∈X.pn++ac,p.1≠b):
  Inv X ac σ H' {s with heap:=h',gens:=g',drawn:=d',toks:=t'}:=by
 obtain⟨m,⟨o,es,ep,ho,r⟩,_⟩:=id I.loc;obtain⟨sl,hL⟩:=u.any ho I.free λz=>(nZ _ z).2.1 rfl;exact I.step (ch:=ch) nZ (λb o hL hb hc e n=>u.keep b o e n (λz=>(xc.mp (I.stkSub b z)).elim hL hb) hc) (λb o _ _ hc e n=>u.any e n hc) (λb o hc e n=>u.free b o e n hc) (λb o hc e=>u.there b o e hc) u.tups u.frzs u.tbls (λm' hm=>by
  obtain⟨o',eO,fi,nY,r'⟩:=hm;rw[ho]at nY;cases nY;exact⟨_,eO,fi,hL,r'⟩) hok hg
theorem Inv.turned{t':Nat}{it:Addr}(I:Inv X ac σ H s)(k:∀b o,b≠it->s.heap.get? b=some o->h'.get? b=some o)(hn:H it=none)(hL:it≠X.env.locals)
  (h1:it∈X.ex\/X.s₀.heap.objs.size<=it) (h2:∀x c,X.env.cells.lookup x=some c->c≠it) (h3:∀p∈X.pn++ac,p.1≠it):Inv X ac σ H {s with heap:=h',toks:=t'}:=by
 have rJ:∀b u,H b=some u->b≠it:=λb u e z=>by rw[z,hn]at e;cases e
 refine I.step (g':=s.gens) (d':=s.drawn) (ch:=[it]) (λb hb=>?_) (λb o _ _ hc e _=>k b o (λz=>hc (by simp[z])) e) (λb o _ _ hc e _=>⟨o.slots,k b o (λz=>hc (by simp[z])) e⟩) (λ_ _ _ _ n=>n)
  (λb o hc e=>⟨o,k b o (λz=>hc (by simp[z])) e⟩) (λ_ _ e=>e) (λ_ _ _ e=>e) (λb ps e=>⟨#[],by rw[e];simp⟩) (λm hm=>?_) (λb u e=>?_) I.bare
 ·have e:b=it:=by simpa using hb
  subst e;exact⟨h1,hL,h2,h3⟩
 ·obtain⟨o,es,ep,ho,r⟩:=hm;exact⟨o,es,ep,k _ o (iN hL) ho,r⟩
 ·refine(I.hok b u e).stay (λc v hc q=>k c v ?_ q) (λ_ q=>q) λ_ _ q=>q;rcases hc with z|z
  ·rw[z];exact rJ b u e
  ·exact rJ c _ z
theorem Inv.tok(I:Inv X ac σ H s)(t:Nat):Inv X ac σ H {s with toks:=t}:=I.un (h':=s.heap) (t':=t) Un.refl I.hok
theorem Inv.kept{t':Nat}(I:Inv X ac σ H s)(k:∀b u,s.heap.get? b=some u->h'.get? b=some u):Inv X ac σ H {s with heap:=h',toks:=t'}:=I.un (Un.kept k) (I.hok.kept k)
theorem Inv.laid{a:Addr}{o:HO}{t':Nat}(I:Inv X ac σ H s)(k:∀b u,s.heap.get? b=some u->h'.get? b=some u)(hp:s.heap.objs.size<=a)(new:ObjOk X.prog X.w (aH H a o) h' a o):
  Inv X ac σ (aH H a o) {s with heap:=h',toks:=t'}:=I.un (Un.laid k hp (I.hok.fresh hp)) (I.hok.laid k hp new)
theorem Inv.write{x e:Addr}{o:HO}{t':Nat}(I:Inv X ac σ H s)(mu:CK (H x))(he:e=x\/H e=some (.own x))(k:∀b u,b≠e->s.heap.get? b=some u->h'.get? b=some u)(A5:∃u,h'.get? e=some u)
  (new:ObjOk X.prog X.w (aH H x o) h' x o):Inv X ac σ (aH H x o) {s with heap:=h',toks:=t'}:=I.un (Un.write mu he k A5) (I.hok.write mu he k A5 new)
theorem Inv.pins_of{eJ:List (Addr×Obj)}(I:Inv X ac σ H s)(h:∀p∈eJ,s.heap.get? p.1=some p.2/\H p.1=none/\p.1≠X.env.locals/\p.1∉X.fs/\∀v,p.2.data≠.cell v):Inv X eJ σ H s:=
 ⟨I.ok,I.os,I.bare,I.base,I.loc,I.cell,I.free,I.freeC,λp hp=>(yw.mp hp).elim (λz=>I.pin p (yy _ z)) (h p),I.hok,I.len⟩
theorem RH{N:List Str}(hN:N.Nodup){j:Nat}(a:N[i]?=some x)(b:N[j]?=some x):i=j:=by
 obtain⟨h1,e1⟩:=xl.mp a;obtain⟨h2,e2⟩:=xl.mp b;exact(List.getElem_inj hN).mp (e1.trans e2.symm)
theorem ZR{M:Model}{A:v7}{E:Value->ye->Prop}{Q:Unit->ye->Prop}(I:Inv X ac σ H s)(hN:X.N.Nodup)(hi:X.N[i]?=some x)(hx:Loc X.env.scope x)(r:RelV v u)
  (h:∀s',Inv X ac (σ.set i (some v)) H s'->(∃a,i3 a s.heap s'.heap/\(a=X.env.locals\/X.env.cells.lookup x=some a))->Q () s') (hf:X.fn x=true\/X.env.scope.names.lookup x=some .local:=by first|exact .inl rfl|exact .inr rfl|assumption):wpAny M A (storeName X.env x u) Q E s:=by
 obtain⟨m,hn,hl⟩:=id I.loc;have KA:(X.env.scope.kind == .class||(X.env.scope.kind == .module&&X.env.locals !=X.env.globals))=false:=by rw[I.ok.kind];rfl
 have CN:i<σ.length:=by rw[I.len];exact(xl.mp hi).1
 have cne:=I.cne;have jD:∀{a:Addr}{h':Heap},(∃o,s.heap.get? a=some o/\H a=none)->i3 a s.heap h'->cK X.prog X.w H h':=λ{a h'} ha hs b ob e=>by
  obtain⟨_,_,rK⟩:=ha;refine(I.hok b ob e).stay (λc w' hc q=>(hs.2 c ?_).trans q) (λ_ q=>q) λ_ _ q=>q;rintro rfl;rcases hc with rfl|hc
  ·rw[rK]at e;cases e
  ·rw[rK]at hc;cases hc
 rcases hx with hk|hk
 ·refine wpAny_storeName_local hk hn (λh' vN hs=>?_) KA;obtain⟨oL,_,_,ZS,_⟩:=id hn;refine h _ ⟨I.ok,I.os,I.bare,⟨λb o e n hb hx=>?_,λb o e n hb hx=>?_,I.base.free,λb o e hx=>?_,I.base.tups,I.base.frzs,I.base.tbls⟩,⟨_,vN,λj y v' e1 e2 e3=>?_⟩,λy c e=>?_,I.free,I.freeC,λp hp=>?_,jD ⟨oL,ZS,I.free⟩ hs,by simpa using I.len⟩ ⟨_,hs,.inl rfl⟩
  ·exact(hs.2 b (xn (xz (yt e) I.ok.above))).trans (I.base.keep b o e n hb hx)
  ·obtain⟨sl,e1⟩:=I.base.slot b o e n hb hx;exact⟨sl,(hs.2 b (xn (xz (yt e) I.ok.above))).trans e1⟩
  ·obtain⟨o',e1⟩:=I.base.there b o e hx;exact⟨o',(hs.2 b (xn (xz (yt e) I.ok.above))).trans e1⟩
  ·by_cases hj:j=i
   ·subst hj;rw[hi]at e1;cases e1;rw[ZT CN]at e2;cases e2;exact⟨u,r,.inl ⟨hk,by simp⟩⟩
   ·rw[ZU (iN hj)]at e2;obtain⟨u',r',q⟩:=hl j y v' e1 e2 e3;refine⟨u',r',?_⟩;rcases q with⟨k,e⟩|⟨k,c,e,z⟩
    ·refine .inl ⟨k,?_⟩;have:y≠x:=λe=>hj (RH hN e1 (e ▸ hi));simp[this,e]
    ·exact .inr ⟨k,c,e,z.sameBut hs (cne y c e)⟩
  ·obtain⟨w',z⟩:=I.cell y c e;exact⟨w',z.sameBut hs (cne y c e)⟩
  ·obtain⟨e,n,ne,nf,d⟩:=I.pin p hp;exact⟨(hs.2 p.1 ne).trans e,n,ne,nf,d⟩
 ·have KC:X.fn x=true:=by
   rcases hf with z|z
   ·exact z
   ·rw[z]at hk;cases hk
  obtain⟨c,hc⟩:=I.ok.has x (.inl hk);obtain⟨w',z⟩:=I.cell x c hc;refine wpAny_storeName_cell I.ok.kind hk hc z (λh' pK hs=>?_);obtain⟨oc,vO,KD⟩:=id z;refine h {s with heap:=h'} ⟨I.ok,I.os,I.bare,⟨λb o e n hb hx=>?_,λb o e n hb hx=>?_,I.base.free,λb o e hx=>?_,I.base.tups,I.base.frzs,I.base.tbls⟩,⟨m,hn.sameBut hs (iN (cne x c hc)),λj y v' e1 e2 e3=>?_⟩,λy c' e=>?_,I.free,I.freeC,λp hp=>?_,jD ⟨oc,vO,I.freeC x c hc⟩ hs,by simpa using I.len⟩ ⟨c,hs,.inr hc⟩
  ·exact(hs.2 b (xn (xz (yt e) (I.ok.cab x c KC hc)))).trans (I.base.keep b o e n hb hx)
  ·obtain⟨sl,e1⟩:=I.base.slot b o e n hb hx;exact⟨sl,(hs.2 b (xn (xz (yt e) (I.ok.cab x c KC hc)))).trans e1⟩
  ·obtain⟨o',e1⟩:=I.base.there b o e hx;exact⟨o',(hs.2 b (xn (xz (yt e) (I.ok.cab x c KC hc)))).trans e1⟩
  ·by_cases hj:j=i
   ·subst hj;rw[hi]at e1;cases e1;rw[ZT CN]at e2;cases e2;exact⟨u,r,.inr ⟨.inl hk,c,hc,pK⟩⟩
   ·rw[ZU (iN hj)]at e2;obtain⟨u',r',q⟩:=hl j y v' e1 e2 e3;refine⟨u',r',?_⟩;rcases q with q|⟨k,c',e,z'⟩
    ·exact .inl q
    ·refine .inr ⟨k,c',e,z'.sameBut hs ?_⟩;rintro rfl;exact hj (RH hN e1 (I.ok.inj _ _ _ e hc ▸ hi))
  ·by_cases rL:c'=c
   ·subst rL;exact⟨_,pK⟩
   ·obtain⟨w2,z2⟩:=I.cell y c' e;exact⟨w2,z2.sameBut hs rL⟩
  ·obtain⟨e,n,ne,nf,d⟩:=I.pin p hp;refine⟨(hs.2 p.1 ?_).trans e,n,ne,nf,d⟩;intro q;rw[q,vO]at e;have q':oc=p.2:=vm e;exact d w' (by rw[<- q'];exact KD)
theorem KE{M:Model}{A:v7}{E:Value->ye->Prop}{Q:Unit->ye->Prop}(I:Inv X ac σ H s)(hN:X.N.Nodup)(hi:X.N[i]?=some x)(hx:Loc X.env.scope x)(r:RelV v u)
  (h:∀s',Inv X ac (σ.set i (some v)) H s'->Q () s') (hf:X.fn x=true\/X.env.scope.names.lookup x=some .local:=by first|exact .inl rfl|exact .inr rfl|assumption):wpAny M A (storeName X.env x u) Q E s:=
 ZR I hN hi hx r (λs' I' _=>h s' I') hf
theorem Inv.call'{s':ye}{ch:List Addr}(I:Inv X ac σ H s)(ho:s'.os=s.os)(u:Un (kU X.stack) ch H H' s.heap s'.heap)(hok:cK X.prog X.w H' s'.heap)(hg:lU s'.gens)
  (nZ:∀b∈ch,(b∈X.ex\/X.s₀.heap.objs.size<=b)/\b≠X.env.locals/\(∀x c,X.env.cells.lookup x=some c->c≠b)/\∀p∈X.pn++ac,p.1≠b):Inv X ac σ H' s':=by
 obtain⟨h',g',d',t',o'⟩:=s';have e:o'=s.os:=ho;subst e;exact I.call (g':=g') (t':=t') (d':=d') u hok hg nZ
end
abbrev XK:=Value->Option Addr->Hp->Prop
abbrev St:=List (Option V)
abbrev VK:=V->Hp->Prop
abbrev TE:=St->Hp->VK->Prop
abbrev TT:=St->Hp->(Bool->Hp->Prop)->Prop
abbrev TA:=St->Hp->(List V->Hp->Prop)->Prop
structure Ends where
 nx:St->Hp->Prop
 rt:VK
 bk:St->Hp->Prop:=λ_ _=>False
 ct:St->Hp->Prop:=λ_ _=>False
abbrev TS:=Ends->St->Hp->Prop
def EP(X:Cx)(ac:List (Addr×Obj))(σ:St)(Q:VK)(u:Value)(s':ye):Prop:=∃v H',Inv X ac σ H' s'/\RelV v u/\Q v H'
def TP(X:Cx)(ac:List (Addr×Obj))(σ:St)(Q:Bool->Hp->Prop)(b:Bool)(s':ye):Prop:=∃H',Inv X ac σ H' s'/\Q b H'
def AP(X:Cx)(ac:List (Addr×Obj))(σ:St)(Q:List V->Hp->Prop)(us:List Value)(s':ye):Prop:=∃vs H',Inv X ac σ H' s'/\am vs us/\Q vs H'
def SP(X:Cx)(ac:List (Addr×Obj))(D:Ends)(f:Flow)(s':ye):Prop:=
 match f with
 | .next=>∃σ' H',Inv X ac σ' H' s'/\D.nx σ' H'
 | .brk=>∃σ' H',Inv X ac σ' H' s'/\D.bk σ' H'
 | .cont=>∃σ' H',Inv X ac σ' H' s'/\D.ct σ' H'
 | .ret u=>∃v σ' H',Inv X ac σ' H' s'/\RelV v u/\D.rt v H'
def PE(X:Cx)(e:Expr)(t:TE):Prop:=
 ∀(ac:List (Addr×Obj)) (s:ye) (σ:St) (H:Hp) (Q:VK),Inv X ac σ H s->t σ H Q->wpAny (model X.prog X.w) X.A (eval e X.env) (EP X ac σ Q) X.xe s
def PT(X:Cx)(e:Expr)(t:TT):Prop:=
 ∀(ac:List (Addr×Obj)) (s:ye) (σ:St) (H:Hp) (Q:Bool->Hp->Prop),Inv X ac σ H s->t σ H Q->wpAny (model X.prog X.w) X.A (isTrue e X.env (eval e X.env)) (TP X ac σ Q) X.xe s
def PW(X:Cx)(e:Expr)(t:TT):Prop:=
 ∀(whole:Sem Value) (ac:List (Addr×Obj)) (s:ye) (σ:St) (H:Hp) (Q:Bool->Hp->Prop),Inv X ac σ H s->t σ H Q->wpAny (model X.prog X.w) X.A (isTrue e X.env whole) (TP X ac σ Q) X.xe s
variable{X:Cx}{e:Expr}
theorem PW.pt{t:TT}(h:PW X e t):PT X e t:=h _
def PA(X:Cx)(es:List Expr)(t:TA):Prop:=
 ∀(pos:Pos) (ac:List (Addr×Obj)) (s:ye) (σ:St) (H:Hp) (Q:List V->Hp->Prop),Inv X ac σ H s->t σ H Q->wpAny (model X.prog X.w) X.A (spliced (backTo pos (starEach es X.env))) (AP X ac σ Q) X.xe s
def PS(X:Cx)(st:Stmt)(t:TS):Prop:=
 ∀(ac:List (Addr×Obj)) (s:ye) (σ:St) (H:Hp) (D:Ends),Inv X ac σ H s->t D σ H->wpAny (model X.prog X.w) X.A (exec st X.env) (SP X ac D) X.xe s
def iO(X:Cx)(st:List Stmt)(t:TS):Prop:=
 ∀(ac:List (Addr×Obj)) (s:ye) (σ:St) (H:Hp) (D:Ends),Inv X ac σ H s->t D σ H->wpAny (model X.prog X.w) X.A (execs st X.env) (SP X ac D) X.xe s
variable{A:v7}{s:ye}
theorem aN{α:Type}{t:Sem α}{Q Q':α->ye->Prop}{M:Model}{E:Value->ye->Prop}(h:wpAny M A t Q E s)(hQ:∀a s,Q a s->Q' a s):wpAny M A t Q' E s:=iP h hQ λ_ _ x=>x
variable{ac:List (Addr×Obj)}{σ:St}{pos:Pos}
section
variable{X:Cx}
theorem bin{a b:Expr}{ta tb:TE}(ha:PE X a ta)(hb:PE X b tb){R:V->V->Hp->Prop}(I:Inv X ac σ H s)(h:ta σ H λx H1=>tb σ H1 λy H2=>R x y H2)
  {α:Type}{Q:α->ye->Prop}{f:Value->Value->Sem α}
  (hf:∀v u s2 x y H2,Inv X ac σ H2 s2->RelV x v->RelV y u->R x y H2->wpAny (model X.prog X.w) X.A (f v u) Q X.xe s2):
  wpAny (model X.prog X.w) X.A (eval a X.env) (λv s₁=>wpAny (model X.prog X.w) X.A (eval b X.env) (λu s₂=>wpAny (model X.prog X.w) X.A (f v u) Q X.xe s₂) X.xe s₁) X.xe s:=by
 refine aN (ha ac s σ H _ I h) λv s1 ⟨x,H1,I1,r1,q1⟩=>?_;refine aN (hb ac s1 σ H1 _ I1 q1) λu s2 ⟨y,H2,I2,r2,q2⟩=>?_;exact hf v u s2 x y H2 I2 r1 r2 q2
def vP(i:Nat):TE:=λσ H Q=>∃v,σ[i]?=some (some v)/\Q v H
def tC(v:V):TE:=λ_ H Q=>Q v H
theorem vQ(hN:X.N[i]?=some x)(hv:Ky X.env.scope x)(hd:(x==("__debug__":Str))=false:=by decide)(fF:(x==("__classdict__":Str))=false:=by decide):PE X (.Name x pos) (vP i):=by
 intro ac s σ H Q I h;obtain⟨v,e,h⟩:=h;obtain⟨m,hn,hl⟩:=I.loc;obtain⟨u,r,l⟩:=hl i x v hN e hv;have fin:EP X ac σ Q u s:=⟨v,H,I,r,h⟩
 rcases l with⟨hk,hm⟩|⟨hk,c,hc,rM⟩
 ·exact RI (wpAny_loadName_local I.ok.kind hk hn hm fin) hd
 ·rcases hk with hk|hk
  ·exact RI (wpAny_loadName_cell I.ok.kind hk hc rM fin) hd
  ·exact RI (wpAny_loadName_free I.ok.kind hk hc rM fin fF) hd
theorem ak{i j pos}:PE X (.Constant (.int i) j pos) (tC (.int i)):=λ_ _ _ H _ I h=>wpAny_Constant_int ⟨.int i,H,I.tok _,⟨_,rfl⟩,h⟩
theorem vR{b j pos}:PE X (.Constant (.bool b) j pos) (tC (.bl b)):=λ_ _ _ H _ I h=>Constant_bool ⟨.bl b,H,I,rfl,h⟩
theorem jE{j pos}:PE X (.Constant .none j pos) (tC .non):=λ_ _ _ H _ I h=>Constant_none ⟨.non,H,I,rfl,h⟩
theorem vS{x j pos}:PE X (.Constant (.str x) j pos) (tC (.str x)):=λ_ _ _ H _ I h=>Calls.Constant_str ⟨.str x,H,I.tok _,⟨_,rfl⟩,h⟩
def Gl(X:Cx)(x:Str):Prop:=X.env.kindOf x=some .globalImplicit
theorem KG{E:Value->ye->Prop}{pos:Pos}{Q:Value->ye->Prop}(I:Inv X ac σ H s)(hg:Gl X x)(hm:X.mg x=some u)(h:Q u s)
  (hd:(x==("__debug__":Str))=false:=by decide):wpAny (model X.prog X.w) X.A (eval (.Name x pos) X.env) Q E s:=
 ZV I.ok.kind hg (Calls.loadGlobal_global (by rw[I.ok.glob];exact I.mod.glob.keeps I.bk) hm h) hd
theorem jY{E:Value->ye->Prop}{pos:Pos}{Q:Value->ye->Prop}(I:Inv X ac σ H s)(hg:Gl X x)(hm:X.mg x=none)(hv:bootBuiltins x=some u)(h:Q u s)
  (hn:x≠"__name__":=by decide) (hd:(x==("__debug__":Str))=false:=by decide):wpAny (model X.prog X.w) X.A (eval (.Name x pos) X.env) Q E s:=by
 obtain⟨mb,h1,h2⟩:=I.mod.blt;exact ZV I.ok.kind hg (Calls.loadGlobal_builtin (by rw[I.ok.glob];exact I.mod.glob.keeps I.bk) hm (by rw[I.ok.blt];exact h1.keeps I.bk) ((h2 x hn).trans hv) h) hd
theorem RJ(hg:Gl X x)(hm:X.mg x=some u)(r:RelV v u)(hd:(x==("__debug__":Str))=false:=by decide):PE X (.Name x pos) (tC v):=
 λ_ _ _ H _ I h=>KG I hg hm ⟨v,H,I,r,h⟩ hd
theorem kW(hg:Gl X x)(hm:X.mg x=none)(hv:bootBuiltins x=some u)(r:RelV v u)(hn:x≠"__name__":=by decide)(hd:(x==("__debug__":Str))=false:=by decide):PE X (.Name x pos) (tC v):=
 λ_ _ _ H _ I h=>jY I hg hm hv ⟨v,H,I,r,h⟩ hn hd
variable{a b:Expr}{ta tb:TE}{pos:Pos}
variable{tA Hw:TT}{br:List Expr}
def CO(t u:TT):TT:=λσ H Q=>t σ H λc H1=>if c=true then u σ H1 Q else Q false H1
def RK(t u:TT):TT:=λσ H Q=>t σ H λc H1=>if c=true then Q true H1 else u σ H1 Q
def CP(t:TT):TT:=λσ H Q=>t σ H λc H1=>Q (!c) H1
theorem Hx(ha:PT X a tA):PW X (.BoolOp .And [a] pos) tA:=by
 intro wh ac s σ H Q I h;refine isTrue_and (aN (ha ac s σ H Q I h) λc s1 e=>?_);cases c with
 |true=>exact isTrue_and_nil e
 |false=>exact e
theorem CQ(ha:PT X a tA):PW X (.BoolOp .Or [a] pos) tA:=by
 intro wh ac s σ H Q I h;refine isTrue_or (aN (ha ac s σ H Q I h) λc s1 e=>?_);cases c with
 |false=>exact isTrue_or_nil e
 |true=>exact e
theorem CS(ha:PT X a tA)(hb:PW X (.BoolOp .And (b::br) pos) Hw):PW X (.BoolOp .And (a::b::br) pos) (CO tA Hw):=by
 intro wh ac s σ H Q I h;refine isTrue_and (aN (ha ac s σ H _ I h) λc s1 ⟨H1,I1,q1⟩=>?_);cases c with
 |true=>exact hb wh ac s1 σ H1 Q I1 q1
 |false=>exact⟨H1,I1,q1⟩
theorem A7(ha:PT X a tA)(hb:PW X (.BoolOp .Or (b::br) pos) Hw):PW X (.BoolOp .Or (a::b::br) pos) (RK tA Hw):=by
 intro wh ac s σ H Q I h;refine isTrue_or (aN (ha ac s σ H _ I h) λc s1 ⟨H1,I1,q1⟩=>?_);cases c with
 |true=>exact⟨H1,I1,q1⟩
 |false=>exact hb wh ac s1 σ H1 Q I1 q1
theorem A8(ha:PT X a tA):PT X (.UnaryOp .Not a pos) (CP tA):=by
 intro ac s σ H Q I h;exact isTrue_not (ha ac s σ H (λc H1=>Q (!c) H1) I h)
def rN(ta tb:TE):TE:=λσ H Q=>ta σ H λx H1=>∃c,x=.bl c/\if c=true then tb σ H1 Q else Q (.bl false) H1
def rO(ta:TE):TE:=λσ H Q=>ta σ H λx H1=>∃c,x=.bl c/\Q (.bl (!c)) H1
theorem A9{op}{t:TE}(h:PE X a t):PE X (.BoolOp op [a] pos) t:=λac s σ H Q I hw=>BoolOp_one (h ac s σ H Q I hw)
theorem rP(ha:PE X a ta)(hb:PE X (.BoolOp .And (b::br) pos) tb):PE X (.BoolOp .And (a::b::br) pos) (rN ta tb):=by
 intro ac s σ H Q I h;refine BoolOp_and (aN (ha ac s σ H _ I h) λv s1 ⟨x,H1,I1,r1,q1⟩=>?_);obtain⟨c,rfl,q1⟩:=q1;cases r1;refine Hy ?_;cases c with
 |true=>exact hb ac s1 σ H1 Q I1 q1
 |false=>exact⟨.bl false,H1,I1,rfl,q1⟩
theorem vT(ha:PE X a ta):PE X (.UnaryOp .Not a pos) (rO ta):=by
 intro ac s σ H Q I h;refine UnaryOp_ (aN (ha ac s σ H _ I h) λv s1 ⟨x,H1,I1,r1,q1⟩=>?_);obtain⟨c,rfl,q1⟩:=q1;cases r1;exact not_of (Hy ⟨.bl (!c),H1,I1,rfl,q1⟩)
def RL(t:TT)(ta tb:TE):TE:=λσ H Q=>t σ H λc H1=>if c=true then ta σ H1 Q else tb σ H1 Q
theorem CT{c:Expr}(hc:PT X c tA)(ha:PE X a ta)(hb:PE X b tb):PE X (.IfExp c a b pos) (RL tA ta tb):=by
 intro ac s σ H Q I h;refine wpAny_IfExp (aN (hc ac s σ H _ I h) λd s1 ⟨H1,I1,q1⟩=>?_);cases d with
 |true=>exact ha ac s1 σ H1 Q I1 q1
 |false=>exact hb ac s1 σ H1 Q I1 q1
end
def SqL(K:yd)(H:Hp)(a:Addr)(xs:List V):Prop:=
 Rd H a (.lst xs)\/
  ∃(o:Obj) (ai:Array Value) (n:Nat),K.lookup a=some o/\o.cls=.type "list"/\o.dict=none/\o.data=.seq ai n/\ai.size<=sizeLine/\am xs ai.toList
def aZ(K:yd)(H:Hp)(a:Addr)(xs:List V):Prop:=
 Rd H a (.tup xs)\/
  ∃(o:Obj) (ai:Array Value) (n:Nat),K.lookup a=some o/\o.cls=.type "tuple"/\o.data=.seq ai n/\ai.size<=sizeLine/\am xs ai.toList
def KH:Value->Option V
 | .none=>some .non
 | .bool b=>some (.bl b)
 | .int i _=>some (.int i)
 | .str x _=>some (.str x)
 | .bytes b _=>some (.byt b)
 | .float b _=>some (.flt b)
 | .ref a=>some (.ref a)
 | .type n=>some (.ty n)
 |_=>none
theorem RelV.abs{x:V}{u:Value}(r:RelV x u):KH u=some x:=by
 cases x with
 |non=>cases r;rfl
 |bl _=>cases r;rfl
 |int _=>obtain⟨t,rfl⟩:=r;rfl
 |str _=>obtain⟨t,rfl⟩:=r;rfl
 |byt _=>obtain⟨t,rfl⟩:=r;rfl
 |flt _=>obtain⟨t,rfl⟩:=r;rfl
 |ref _=>cases r;rfl
 |ty _=>cases r;rfl
theorem RelV.inj{x y:V}(r:RelV x u)(q:RelV y u):x=y:=vm (r.abs.symm.trans q.abs)
theorem am.inj:∀{xs ys:List V}{us:List Value},am xs us->am ys us->xs=ys
 |_,_,_,.nil,.nil=>rfl
 |_,_,_,.cons r t,.cons r' t'=>by rw[r.inj r',am.inj t t']
variable{K:yd}
section
variable{X:Cx}{ac:List (Addr×Obj)}{σ:St}{H:Hp}{s:ye}{a:Addr}{xs ys:List V}
theorem SqL.of(h:H a=some (.lst xs)):SqL K H a xs:=.inl (.inl h)
theorem aZ.of(h:H a=some (.tup xs)):aZ K H a xs:=.inl (.inl h)
theorem Inv.list(I:Inv X ac σ H s)(h:SqL X.K H a xs):∃ai:List Value,am xs ai/\PlainL s.heap a ai.toArray/\xs.length<=sizeLine:=by
 rcases h with h|⟨o,ai,n,hk,hc,hd,hs,hz,r⟩
 ·obtain⟨z,ai,n,r,e⟩:=h.ok I.hok;exact⟨ai,r,⟨_,n,e,rfl,rfl,rfl⟩,z⟩
 ·refine⟨ai.toList,r,⟨o,n,I.kIn a o hk,hc,hd,by simpa using hs⟩,?_⟩;have e:=r.length;simp only[yj]at e;omega
theorem Inv.tuple(I:Inv X ac σ H s)(h:aZ X.K H a xs):∃ai:List Value,am xs ai/\IsTup s.heap a ai.toArray/\xs.length<=sizeLine:=by
 rcases h with h|⟨o,ai,n,hk,hc,hs,hz,r⟩
 ·obtain⟨z,ai,r,p⟩:=h.ok I.hok;exact⟨ai,r,p.1,z⟩
 ·refine⟨ai.toList,r,⟨o,I.kIn a o hk,hc,n,by simpa using hs⟩,?_⟩;have e:=r.length;simp only[yj]at e;omega
theorem Inv.list_inj(I:Inv X ac σ H s)(h:SqL X.K H a xs)(h':SqL X.K H a ys):xs=ys:=by
 obtain⟨ai,r,⟨o,n,e,_,_,d⟩,_⟩:=I.list h;obtain⟨its',r',⟨o',n',e',_,_,d'⟩,_⟩:=I.list h';rw[e]at e';cases e';rw[d]at d';injection d' with d1 _;have:ai=its':=by simpa using congrArg ZW d1
 subst this;exact r.inj r'
theorem Inv.tuple_inj(I:Inv X ac σ H s)(h:aZ X.K H a xs)(h':aZ X.K H a ys):xs=ys:=by
 obtain⟨ai,r,⟨o,e,_,n,d⟩,_⟩:=I.tuple h;obtain⟨its',r',⟨o',e',_,n',d'⟩,_⟩:=I.tuple h';rw[e]at e';cases e';rw[d]at d';injection d' with d1 _;have:ai=its':=by simpa using congrArg ZW d1
 subst this;exact r.inj r'
end
abbrev Cx.wish(X:Cx)(E:Value->ye->Prop):Cx:={X with xe:=E}
abbrev Cx.nox(X:Cx):Cx:=X.wish λ_ _=>False
theorem Cx.Ok.wish{X:Cx}(ok:X.Ok)(E:Value->ye->Prop):(X.wish E).Ok:=
 ⟨ok.mod,ok.kind,ok.glob,ok.blt,ok.above,ok.inj,ok.has,ok.cab,ok.hd,ok.frames,ok.stk,ok.exf,ok.bs,ok.bsz,ok.noex,ok.exfs,ok.funs,ok.frf⟩
theorem Cx.Ok.unwish{E:Value->ye->Prop}(ok:(X.wish E).Ok):X.Ok:=
 ⟨ok.mod,ok.kind,ok.glob,ok.blt,ok.above,ok.inj,ok.has,ok.cab,ok.hd,ok.frames,ok.stk,ok.exf,ok.bs,ok.bsz,ok.noex,ok.exfs,ok.funs,ok.frf⟩
section
variable{X:Cx}{ac:List (Addr×Obj)}{σ:St}{H:Hp}{s:ye}{E:Value->ye->Prop}
theorem Inv.wish(I:Inv X ac σ H s)(E:Value->ye->Prop):Inv (X.wish E) ac σ H s:=⟨I.ok.wish E,I.os,I.bare,I.base,I.loc,I.cell,I.free,I.freeC,I.pin,I.hok,I.len⟩
theorem Inv.unwish(I:Inv (X.wish E) ac σ H s):Inv X ac σ H s:=⟨I.ok.unwish,I.os,I.bare,I.base,I.loc,I.cell,I.free,I.freeC,I.pin,I.hok,I.len⟩
theorem SP.unwish{D:Ends}{f:Flow}{s':ye}(h:SP (X.wish E) ac D f s'):SP X ac D f s':=by
 cases f with
 |next=>obtain⟨σ',H',I,q⟩:=h;exact⟨σ',H',I.unwish,q⟩
 |brk=>obtain⟨σ',H',I,q⟩:=h;exact⟨σ',H',I.unwish,q⟩
 |cont=>obtain⟨σ',H',I,q⟩:=h;exact⟨σ',H',I.unwish,q⟩
 |ret u=>obtain⟨v,σ',H',I,r,q⟩:=h;exact⟨v,σ',H',I.unwish,r,q⟩
theorem iO.nox{st:List Stmt}{t:TS}(h:iO X.nox st t):iO X st t:=λac s σ H D I hw=>
 iP (h ac s σ H D (I.wish _) hw) (λ_ _ q=>q.unwish) λ_ _ z=>iQ z
end
section
variable{X:Cx}{st:Stmt}{br:List Stmt}{t u:TS}{e:Expr}{te:TE}{pos:Pos}
def rQ:TS:=λD σ H=>D.nx σ H
def pN(t u:TS):TS:=λD σ H=>t {D with nx:=u D} σ H
theorem bA:iO X [] rQ:=λ_ _ σ H _ I h=>RM ⟨σ,H,I,h⟩
theorem ax(h1:PS X st t)(h2:iO X br u):iO X (st::br) (pN t u):=by
 intro ac s σ H D I h;refine ZX (aN (h1 ac s σ H {D with nx:=u D} I h) λf s1 q=>?_);cases f with
 |next=>
  obtain⟨σ',H',I',q⟩:=q;exact h2 ac s1 σ' H' D I' q
 |ret v=>exact q
 |brk=>exact q
 |cont=>exact q
theorem ay(h1:PS X st t):iO X [st] t:=by
 intro ac s σ H D I h;refine ZX (aN (h1 ac s σ H D I h) λf s1 q=>?_);cases f with
 |next=>exact RM q
 |ret v=>exact q
 |brk=>exact q
 |cont=>exact q
theorem Inv.quiet(I:Inv X ac σ H s):interactive X.env=false:=by simp[interactive,I.ok.kind]
def rR(te:TE):TS:=λD σ H=>te σ H λ_ H1=>D.nx σ H1
theorem lW(he:PE X e te)(hs:swapsWith e none pos.line X.env=pure false:=by rfl):PS X (.Expr e pos) (rR te):=by
 intro ac s σ H D I h;exact wpAny_Expr_any (aN (he ac s σ H _ I h) λv s1 ⟨x,H1,I1,r1,q1⟩=>⟨σ,H1,I1,q1⟩) I.quiet hs
def CU(te:TE):TS:=λD σ H=>te σ H D.rt
theorem aK(he:PE X e te):PS X (.Return (some e) pos) (CU te):=by
 intro ac s σ H D I h;exact wpAny_Return_some (aN (he ac s σ H _ I h) λv s1 ⟨x,H1,I1,r1,q1⟩=>⟨x,σ,H1,I1,r1,q1⟩)
def vU(c:TT)(t u:TS):TS:=λD σ H=>c σ H λb H1=>if b=true then t D σ H1 else u D σ H1
theorem bw{c:Expr}{a b:List Stmt}{tc:TT}(hc:PT X c tc)(ha:iO X a t)(hb:iO X b u):PS X (.If c a b pos) (vU tc t u):=by
 intro ac s σ H D I h;refine wpAny_If (aN (hc ac s σ H _ I h) λd s1 ⟨H1,I1,q1⟩=>?_);cases d with
 |true=>exact ha ac s1 σ H1 D I1 q1
 |false=>exact hb ac s1 σ H1 D I1 q1
def vV:TS:=λ_ _ _=>False
theorem RN:PS X st vV:=λ_ _ _ _ _ _ h=>h.elim
end
abbrev TG:=V->St->Hp->(St->Hp->Prop)->Prop
abbrev pO:=List V->St->Hp->(St->Hp->Prop)->Prop
def PG(X:Cx)(vW:Expr)(t:TG):Prop:=
 ∀(ac:List (Addr×Obj)) (s:ye) (σ:St) (H:Hp) (v:V) (u:Value) (Q:St->Hp->Prop),Inv X ac σ H s->RelV v u->t v σ H Q->
  wpAny (model X.prog X.w) X.A (assign vW X.env u) (λ_ s'=>∃σ' H',Inv X ac σ' H' s'/\Q σ' H') X.xe s
def Hz(X:Cx)(ts:List Expr)(t:pO):Prop:=
 ∀(ac:List (Addr×Obj)) (s:ye) (σ:St) (H:Hp) (vs:List V) (us:List Value) (Q:St->Hp->Prop),Inv X ac σ H s->am vs us->t vs σ H Q->
  wpAny (model X.prog X.w) X.A (assignInOrder ((assignEach ts X.env).map (·.2)) us) (λ_ s'=>∃σ' H',Inv X ac σ' H' s'/\Q σ' H') X.xe s
abbrev pP:=V->V->V->Hp->(Hp->Prop)->Prop
def CV(X:Cx)(t:pP):Prop:=
 ∀(ac:List (Addr×Obj)) (s:ye) (σ:St) (H:Hp) (o i v:V) (ov iv u:Value) (Q:Hp->Prop),Inv X ac σ H s->RelV o ov->RelV i iv->RelV v u->t o i v H Q->
  wpAny (model X.prog X.w) X.A (setItem ov iv u) (λ_ s'=>∃H',Inv X ac σ H' s'/\Q H') X.xe s
variable{tg:Expr}
section
variable{X:Cx}{pos:Pos}
def iR(i:Nat):TG:=λv σ H Q=>Q (σ.set i (some v)) H
theorem bK(hN:X.N.Nodup)(hi:X.N[i]?=some x)(hx:Loc X.env.scope x)(hf:X.fn x=true\/X.env.scope.names.lookup x=some .local:=by first|exact .inl rfl|exact .inr rfl|assumption):PG X (.Name x pos) (iR i):=by
 intro ac s σ H v u Q I r h;exact ZY (KE I hN hi hx r (λs' I'=>⟨_,H,I',h⟩) hf)
def pQ:pO:=λvs σ H Q=>vs=[]/\Q σ H
def Ba(t:TG)(u:pO):pO:=λvs σ H Q=>∃v r,vs=v::r/\t v σ H λσ' H'=>u r σ' H' Q
theorem CW:Hz X [] pQ:=by
 intro ac s σ H vs us Q I r h;obtain⟨e,h⟩:=h;subst e;cases r;exact assignInOrder_nil ⟨σ,H,I,h⟩
theorem oA{e:Expr}{es:List Expr}{t:TG}{u:pO}(h1:PG X e t)(h2:Hz X es u)
  (hs:(assignEach (e::es) X.env).map (·.2)=assign e X.env::(assignEach es X.env).map (·.2):=by rfl):Hz X (e::es) (Ba t u):=by
 intro ac s σ H vs us Q I r h;obtain⟨v,vr,e1,h⟩:=h;subst e1;cases r with
 |cons r rr=>
  rw[hs];refine assignInOrder_cons (aN (h1 ac s σ H _ _ _ I r h) λ_ s1 ⟨σ1,H1,I1,q1⟩=>?_);exact h2 ac s1 σ1 H1 _ _ Q I1 rr q1
def pR(K:yd)(n:Nat)(t:pO):TG:=λv σ H Q=>∃a xs,v=.ref a/\aZ K H a xs/\xs.length=n/\t xs σ H Q
theorem CY{es:List Expr}{k:Nat}{t:pO}{n:Nat}(hc:X.calm=true)(h:Hz X es t)
  (hn:(assignEach es X.env).length=n:=by rfl) (eP:(assignEach es X.env).findIdx? (·.1)=none:=by rfl):PG X (.Tuple es k pos) (pR X.K n t):=by
 intro ac s σ H v u Q I r hw;obtain⟨a,xs,e1,hq,hl,hw⟩:=hw;subst e1;cases r;obtain⟨ai,rv,ht,hz⟩:=I.tuple hq;refine assign_Tuple_tuple (I.ok.hd hc) ht (by simp[hn,<- hl,rv.length]) eP λh' hx=>?_;have I1:Inv X ac σ H {s with heap:=h'}:=I.kept (t':=s.toks) λb o e=>hx b o (xn (yt e)) e;exact h ac _ σ H xs _ Q I1 (by simpa using rv) hw
def CZ(to ti:TE)(t:pP):TG:=λv σ H Q=>to σ H λo H1=>ti σ H1 λi H2=>t o i v H2 λH3=>Q σ H3
theorem vX{o i:Expr}{to ti:TE}{t:pP}(ho:PE X o to)(hi:PE X i ti)(hs:CV X t)
  (ha:∀v,assign (.Subscript o i pos) X.env v=(do
   let ov <- holding [v] (eval o X.env)
   let iv <- holding [v,ov] (eval i X.env)
   standAt pos
   holding [v,ov,iv] (setItem ov iv v)
   release [v,ov,iv] []):=by intro _;rfl):PG X (.Subscript o i pos) (CZ to ti t):=by
 intro ac s σ H v u Q I r h;rw[ha];refine y0 (gu (aN (ho ac s σ H _ I h) λov s1 ⟨x,H1,I1,r1,q1⟩=>?_));refine y0 (gu (aN (hi ac s1 σ H1 _ I1 q1) λiv s2 ⟨y,H2,I2,r2,q2⟩=>?_));refine y0 (KI (y0 (gu (aN (hs ac s2 σ H2 x y v ov iv u _ I2 r1 r2 r q2) λ_ s3 ⟨H3,I3,q3⟩=>?_))));exact wpAny_release ⟨σ,H3,I3,q3⟩
def pT(te:TE)(g:TG):TS:=λD σ H=>te σ H λx H1=>g x σ H1 D.nx
theorem vY{te:TE}{g:TG}(he:PE X e te)(hg:PG X tg g)(hs:swapsWithSole [tg] e pos.line X.env=pure false:=by rfl)(hw:swappedStores [tg] e X.env=pure none:=by rfl)
  (h1:(assignEach [tg] X.env).map (·.2)=[assign tg X.env]:=by rfl):PS X (.Assign [tg] e pos) (pT te g):=by
 intro ac s σ H D I h;refine wpAny_Assign_stores (aN (he ac s σ H _ I h) λv s1 ⟨x,H1,I1,r1,q1⟩=>?_) hs hw;rw[h1];exact aN (hg ac s1 σ H1 x v _ I1 r1 q1) λ_ s2 q=>q
theorem bh{te:TE}{aY:Pos}(hN:X.N.Nodup)(hi:X.N[i]?=some x)(hx:Loc X.env.scope x)(he:PE X e te)(hs:swapsWith e (some (.Name x aY)) pos.line X.env=pure false:=by rfl)(hf:X.fn x=true\/X.env.scope.names.lookup x=some .local:=by first|exact .inl rfl|exact .inr rfl|assumption):
  PS X (.Assign [.Name x aY] e pos) (pT te (iR i)):=by
 intro ac s σ H D I h;refine wpAny_Assign_Name (aN (he ac s σ H _ I h) λv s1 ⟨y,H1,I1,r1,q1⟩=>?_) hs;exact KE I1 hN hi hx r1 (λs2 I2=>⟨_,H1,I2,q1⟩) hf
end
structure It where
 go:Nat->Hp->Prop
 yld:Nat->Hp->V->Hp->Prop
 stop:Nat->Hp->Prop
def dM(X:Cx)(ac:List (Addr×Obj))(H:Hp)(b:Addr):Prop:=
 H b=none/\b≠X.env.locals/\b∉X.fs/\(b∈X.ex\/X.s₀.heap.objs.size<=b)/\(∀x c,X.env.cells.lookup x=some c->c≠b)/\∀p∈X.pn++ac,p.1≠b
theorem Inv.fpOk{H':Hp}(I:Inv X ac σ H s)(hb:s.heap.objs.size<=b)(hn:H' b=none):dM X ac H' b:=by
 refine⟨hn,jZ (xz I.lt hb),I.nofs hb,.inr (v9 I.sz hb),λx c e z=>?_,λp hp z=>?_⟩
 ·obtain⟨v,q⟩:=I.cell x c e;exact absurd (xz q.lt (by rw[z];exact hb)) (A4 _)
 ·exact absurd (xz (yt (I.pin p hp).1) (by rw[z];exact hb)) (A4 _)
structure gG(P:xf)(w:World)(K:yd)(tg:Expr)(J:It)(fp:List Addr)(it:Addr)(tn:Nat->Heap->Prop):Prop where
 mem:it∈fp
 obj:∀i h,tn i h->∀b∈fp,∃o,h.get? b=some o/\∀v,o.data≠.cell v
 keep:∀i h h',tn i h->(∀b∈fp,∀o,h.get? b=some o->h'.get? b=some o)->tn i h'
 item:∀(X:Cx),X.prog=P->X.w=w->X.K=K->X.calm=true->∀(i:Nat) (ac:List (Addr×Obj)) (s:ye) (σ:St) (H:Hp) (E:Value->ye->Prop),Inv X ac σ H s->(∀b∈fp,dM X ac H b)->tn i s.heap->J.go i H->
  wpAny (model P w) X.A (pyNext (.ref it)) (λr s1=>∃u,r=some u/\
   wpAny (model P w) X.A (letOwnedTupleGo tg (.ref it) u) (λ_ s2=>∃x H',Inv X ac σ H' s2/\RelV x u/\J.yld i H x H'/\tn (i+1) s2.heap/\∀b∈fp,H' b=none) E s1) E s
 done:∀(X:Cx),X.prog=P->X.w=w->X.K=K->X.calm=true->∀(i:Nat) (ac:List (Addr×Obj)) (s:ye) (σ:St) (H:Hp) (E:Value->ye->Prop),Inv X ac σ H s->(∀b∈fp,dM X ac H b)->tn i s.heap->J.stop i H->
  wpAny (model P w) X.A (pyNext (.ref it)) (λr s1=>r=none/\Inv X ac σ H s1) E s
 self:∀(A:v7) (i:Nat) (s:ye) (Q:Value->ye->Prop) (E:Value->ye->Prop),tn i s.heap->Q (.ref it) s->wpAny (model P w) A (pyIter (.ref it)) Q E s
abbrev TI:=St->Hp->(It->Hp->Prop)->Prop
def RO(X:Cx)(ac:List (Addr×Obj))(σ:St)(tg:Expr)(R:It->Hp->Prop)(HA:Value)(s2:ye):Prop:=
 ∃(it:Addr) (fp:List Addr) (tn:Nat->Heap->Prop) (J:It) (H':Hp),HA=.ref it/\Inv X ac σ H' s2/\gG X.prog X.w X.K tg J fp it tn/\tn 0 s2.heap/\(∀b∈fp,dM X ac H' b)/\R J H'
def PI(X:Cx)(tg iter:Expr)(wi:TI):Prop:=
 ∀(ac:List (Addr×Obj)) (s:ye) (σ:St) (H:Hp) (R:It->Hp->Prop),Inv X ac σ H s->wi σ H R->
  wpAny (model X.prog X.w) X.A (eval iter X.env) (λv s1=>wpAny (model X.prog X.w) X.A (pyIter v) (RO X ac σ tg R) X.xe s1) X.xe s
theorem Bb{M:Model}{A:v7}{E:Value->ye->Prop}{s:ye}{tg:Expr}{it:Addr}{u:Value}{o:Obj}{n:String}{vs:Array Value}{Q:Unit->ye->Prop}(ho:s.heap.get? it=some o)(hc:o.cls=.type n)(hd:o.data=.fields vs)
  (hn:["enumerate","zip","dict_itemiterator","dict_reverseitemiterator","odict_iterator","itertools.zip_longest","itertools.pairwise"].contains n=false) (hQ:Q () s):wpAny M A (letOwnedTupleGo tg (.ref it) u) Q E s:=by
 unfold letOwnedTupleGo;cases tg<;>first
  |exact yc hQ
  | (cases u<;>first
    |exact yc hQ
    | (refine y0 (KJ ho ?_)
       rw[hc,hd];show wpAny M A (if (["enumerate","zip","dict_itemiterator","dict_reverseitemiterator","odict_iterator","itertools.zip_longest","itertools.pairwise"].contains n&&vs[0]?==some (rawInt _))=true then _ else _) Q E s;rw[if_neg (by intro h;rw[hn,Bool.false_and]at h;cases h)];exact yc hQ))
def rS(K:yd)(a:Addr):It:=
 ⟨λi H=>∃xs x,SqL K H a xs/\xs[i]?=some x,λi H x H'=>H'=H/\∀xs,SqL K H a xs->xs[i]?=some x,λi H=>∃xs,SqL K H a xs/\xs.length<=i⟩
def vZ(K:yd)(a:Addr):It:=
 ⟨λi H=>∃xs x,aZ K H a xs/\xs[i]?=some x,λi H x H'=>H'=H/\∀xs,aZ K H a xs->xs[i]?=some x,λi H=>∃xs,aZ K H a xs/\xs.length<=i⟩
def oB(lo:Int)(n:Nat):It:=⟨λi _=>i<n,λi H x H'=>H'=H/\x=.int (lo+i),λi _=>n<=i⟩
theorem ZZ(a it:Addr):gG P w K tg (rS K a) [it] it (λi h=>h.IsListIter it a i) where
 mem:=by simp
 obj:=λi h st b hb=>by
  have e:b=it:=by simpa using hb
  subst e;obtain⟨o,e,c,d⟩:=st;exact⟨o,e,λv z=>by rw[d]at z;cases z⟩
 keep:=λi h h' st k=>st.at λo e=>k it (by simp) o e
 item:=by
  intro X hP hw hK hc i ac s σ H E I hf st hg;subst hP hw hK;obtain⟨xs,x,hq,hx⟩:=hg;obtain⟨ai,rv,p,hz⟩:=I.list hq;obtain⟨u,hu,ru⟩:=rv.get hx;obtain⟨f0,f1,f2,f3,f4,f5⟩:=hf it (by simp);refine Z0 st p.isList (x:=u) (by simpa using hu) λh' dX sb=>?_;have I1:Inv X ac σ H {s with heap:=h'}:=I.turned (t':=s.toks) (λb o hb e=>(sb.2 b hb).trans e) f0 f1 f3 f4 f5;obtain⟨o,e,c,d⟩:=id dX;exact⟨u,rfl,Bb (s:={s with heap:=h'}) e c d (by decide) ⟨x,H,I1,ru,⟨rfl,λys hy=>by rw[I.list_inj hy hq];exact hx⟩,dX,λb hb=>(hf b hb).1⟩⟩
 done:=by
  intro X hP hw hK hc i ac s σ H E I hf st hg;subst hP hw hK;obtain⟨xs,hq,hx⟩:=hg;obtain⟨ai,rv,p,hz⟩:=I.list hq;obtain⟨f0,f1,f2,f3,f4,f5⟩:=hf it (by simp);have hl:=rv.length;exact Z1 (I.ok.hd hc) st p.isList (by simp;omega) λh' eb=>⟨rfl,I.turned (t':=s.toks) (λb o hb e=>eb b o hb e) f0 f1 f3 f4 f5⟩
 self:=λ_ _ _ _ _ st h=>wpAny_pyIter_listiter st h
theorem Z2(a it:Addr):gG P w K tg (vZ K a) [it] it (λi h=>h.IsTupleIter it a i) where
 mem:=by simp
 obj:=λi h st b hb=>by
  have e:b=it:=by simpa using hb
  subst e;obtain⟨o,e,c,d⟩:=st;exact⟨o,e,λv z=>by rw[d]at z;cases z⟩
 keep:=λi h h' st k=>st.at λo e=>k it (by simp) o e
 item:=by
  intro X hP hw hK hc i ac s σ H E I hf st hg;subst hP hw hK;obtain⟨xs,x,hq,hx⟩:=hg;obtain⟨ai,rv,p,hz⟩:=I.tuple hq;obtain⟨u,hu,ru⟩:=rv.get hx;obtain⟨f0,f1,f2,f3,f4,f5⟩:=hf it (by simp);refine Z3 st (show s.heap.IsTuple a ai.toArray from p) (x:=u) (by simpa using hu) λh' dX sb=>?_;have I1:Inv X ac σ H {s with heap:=h'}:=I.turned (t':=s.toks) (λb o hb e=>(sb.2 b hb).trans e) f0 f1 f3 f4 f5;obtain⟨o,e,c,d⟩:=id dX;exact⟨u,rfl,Bb (s:={s with heap:=h'}) e c d (by decide) ⟨x,H,I1,ru,⟨rfl,λys hy=>by rw[I.tuple_inj hy hq];exact hx⟩,dX,λb hb=>(hf b hb).1⟩⟩
 done:=by
  intro X hP hw hK hc i ac s σ H E I hf st hg;subst hP hw hK;obtain⟨xs,hq,hx⟩:=hg;obtain⟨ai,rv,p,hz⟩:=I.tuple hq;obtain⟨f0,f1,f2,f3,f4,f5⟩:=hf it (by simp);have hl:=rv.length;exact Z4 (I.ok.hd hc) st (show s.heap.IsTuple a ai.toArray from p) (by simp;omega) λh' eb=>⟨rfl,I.turned (t':=s.toks) (λb o hb e=>eb b o hb e) f0 f1 f3 f4 f5⟩
 self:=λ_ _ _ _ _ st h=>wpAny_pyIter_tupleiter st h
theorem Z5(it:Addr)(lo:Int)(n:Nat):gG P w K tg (oB lo n) [it] it (λi h=>IsRangeIter h it (lo+(i:Nat)*1) ((n:Int)-(i:Nat)) 1) where
 mem:=by simp
 obj:=λi h st b hb=>by
  have e:b=it:=by simpa using hb
  subst e;exact⟨_,st,λv z=>by
   have z':Data.fields _=Data.cell v:=z;cases z'⟩
 keep:=λi h h' st k=>k it (by simp) _ st
 item:=by
  intro X hP hw hK hc i ac s σ H E I hf st hg;subst hP hw hK;obtain⟨f0,f1,f2,f3,f4,f5⟩:=hf it (by simp);have W:=Walks.range (prog:=X.prog) (w:=X.w) (I.ok.hd hc) it lo 1 n;refine W.item i s _ _ hg st λv h' tk hv dX kk=>?_;obtain⟨t,rfl⟩:=hv;have I1:Inv X ac σ H {s with heap:=h',toks:=tk}:=I.turned (λb o hb e=>kk b o (by simpa using hb) e) f0 f1 f3 f4 f5;refine⟨_,rfl,Bb (s:={s with heap:=h',toks:=tk}) (n:="range_iterator") dX rfl rfl (by decide) ⟨.int (lo+i),H,I1,⟨t,?_⟩,⟨rfl,rfl⟩,dX,λb hb=>(hf b hb).1⟩⟩;rw[Int.mul_one]
 done:=by
  intro X hP hw hK hc i ac s σ H E I hf st hg;subst hP hw hK;obtain⟨f0,f1,f2,f3,f4,f5⟩:=hf it (by simp);exact wpAny_pyNext_range_end (I.ok.hd hc) st (by have:n<=i:=hg;omega) λh' eb=>⟨rfl,I.turned (t':=s.toks) (λb o hb e=>eb b o hb e) f0 f1 f3 f4 f5⟩
 self:=λ_ _ _ _ _ st h=>wpAny_pyIter_rangeiter st h
section
variable{X:Cx}{tg:Expr}
def rT(K:yd)(tl:TE):TI:=λσ H R=>tl σ H λx H1=>∃a,x=.ref a/\(∃xs,SqL K H1 a xs)/\R (rS K a) H1
def C0(K:yd)(tl:TE):TI:=λσ H R=>tl σ H λx H1=>∃a,x=.ref a/\(∃xs,aZ K H1 a xs)/\R (vZ K a) H1
theorem oC{l:Expr}{tl:TE}(hl:PE X l tl):PI X tg l (rT X.K tl):=by
 intro ac s σ H R I h;refine aN (hl ac s σ H _ I h) λv s1 ⟨x,H1,I1,r1,q1⟩=>?_;obtain⟨a,e,⟨xs,hq⟩,q⟩:=q1;subst e;cases r1;obtain⟨ai,rv,p,hz⟩:=I1.list hq;refine RP p.isList ?_;refine⟨s1.heap.objs.size,[s1.heap.objs.size],_,_,H1,rfl,I1.kept (t':=s1.toks) λb o e=>yb _ e,ZZ a _,⟨_,yi _ rfl,rfl,rfl⟩,λb hb=>?_,q⟩;have e:b=s1.heap.objs.size:=by simpa using hb
 subst e;exact I1.fpOk (yg _) (I1.hok.fresh (yg _))
theorem Bc{l:Expr}{tl:TE}(hl:PE X l tl):PI X tg l (C0 X.K tl):=by
 intro ac s σ H R I h;refine aN (hl ac s σ H _ I h) λv s1 ⟨x,H1,I1,r1,q1⟩=>?_;obtain⟨a,e,⟨xs,hq⟩,q⟩:=q1;subst e;cases r1;obtain⟨ai,rv,p,hz⟩:=I1.tuple hq;refine RQ (show s1.heap.IsTuple a ai.toArray from p) ?_;refine⟨s1.heap.objs.size,[s1.heap.objs.size],_,_,H1,rfl,I1.kept (t':=s1.toks) λb o e=>yb _ e,Z2 a _,⟨_,yi _ rfl,rfl,rfl⟩,λb hb=>?_,q⟩;have e:b=s1.heap.objs.size:=by simpa using hb
 subst e;exact I1.fpOk (yg _) (I1.hok.fresh (yg _))
theorem Z6{R:It->Hp->Prop}{E:Value->ye->Prop}{lo hi:Int}{t u v:Tok}{tk:Nat}(I:Inv X ac σ H s)(h1:-(2 ^ 62)<=lo)(h2:lo<2 ^ 62)(h3:-(2 ^ 62)<=hi)(h4:hi<2 ^ 62)
  (q:R (oB lo (hi-lo).toNat) H):wpAny (model X.prog X.w) X.A (pyIter (.ref s.heap.objs.size)) (RO X ac σ tg R) E {s with heap:=s.heap.push {cls:=.type "range",data:=.fields #[.int lo t,.int hi u,.int 1 v]},toks:=tk}:=by
 refine wpAny_pyIter_range (Z7 ..) (small_one h1 h2 h3 h4) ?_;have I1:Inv X ac σ H {s with heap:=s.heap.push {cls:=.type "range",data:=.fields #[.int lo t,.int hi u,.int 1 v]},toks:=tk}:=I.kept λb o e=>yb _ e;refine⟨(s.heap.push {cls:=.type "range",data:=.fields #[.int lo t,.int hi u,.int 1 v]}).objs.size,[(s.heap.push {cls:=.type "range",data:=.fields #[.int lo t,.int hi u,.int 1 v]}).objs.size],_,_,H,rfl,
  I1.kept (t':=tk) λb o e=>yb _ e,Z5 _ lo (hi-lo).toNat,?_,λb hb=>?_,q⟩
 ·have e1:lo+((0:Nat):Int)*1=lo:=by simp
  have e2:(((hi-lo).toNat:Nat):Int)-((0:Nat):Int)=Z8 lo hi 1:=by rw[rangeSize_one];split<;>omega
  show IsRangeIter _ _ (lo+((0:Nat):Int)*1) ((((hi-lo).toNat:Nat):Int)-((0:Nat):Int)) 1;rw[e1,e2];exact yi _ rfl
 ·have e:b=(s.heap.push {cls:=.type "range",data:=.fields #[.int lo t,.int hi u,.int 1 v]}).objs.size:=by simpa using hb
  subst e;exact I1.fpOk (yg _) (I1.hok.fresh (yg _))
def rV(ta:TA):TI:=λσ H R=>ta σ H λvs H1=>∃j:Int,vs=[.int j]/\-(2 ^ 62)<=j/\j<2 ^ 62/\R (oB 0 j.toNat) H1
theorem fL{a:Expr}{ta:TA}{p pos:Pos}(hg:Gl X "range")(hm:X.mg "range"=none)(ha:PA X [a] ta)(hs:starEach [a] X.env=[(false,eval a X.env)]:=by rfl):PI X tg (.Call (.Name "range" p) [a] [] pos) (rV ta):=by
 intro ac s σ H R I h;refine Call_ (jY I hg hm boot_range (u0 (aN (ha pos ac s σ H _ I h) λus s1 ⟨vs,H1,I1,r1,q1⟩=>?_) hs rfl));obtain⟨j,e,q1,q2,q⟩:=q1;subst e;cases r1 with
 |cons r rr=>
  cases rr;obtain⟨t,rfl⟩:=r;exact call_range_1 (Z6 I1 (by omega) (by omega) q1 q2 (by simpa using q))
def C1(wi:TI)(g:TG)(tb:TS):TS:=λD σ H=>wi σ H λJ H1=>∃W:Nat->Nat->St->Hp->Prop,(∃m,W 0 m σ H1)/\∀i m σ H,W i m σ H->
 (J.stop i H/\D.nx σ H)\/(J.go i H/\∃N:St->Hp->Prop,(∀σ' H',N σ' H'->∃m',m'<m/\W (i+1) m' σ' H')/\∀x H',J.yld i H x H'->g x σ H' λσ2 H2=>tb {D with nx:=N,ct:=N,bk:=D.nx} σ2 H2)
def C2(fp:List Addr)(h:Heap):List (Addr×Obj):=fp.filterMap λb=>(h.get? b).map λo=>(b,o)
theorem HB{fp:List Addr}{o:Obj}(hb:b∈fp)(e:h.get? b=some o):(b,o)∈C2 fp h:=KL.mpr ⟨b,hb,by rw[e];rfl⟩
theorem Z9{fp:List Addr}{h:Heap}{p:Addr×Obj}(hp:p∈C2 fp h):p.1∈fp/\h.get? p.1=some p.2:=by
 obtain⟨b,hb,e⟩:=KL.mp hp;cases q:h.get? b with
 |none=>rw[q]at e;cases e
 |some o=>
  rw[q]at e;have e':(b,o)=p:=vm e;subst e';exact⟨hb,q⟩
theorem Inv.pinned{fp:List Addr}(I:Inv X ac σ H s)(hf:∀b∈fp,dM X ac H b)(ho:∀b∈fp,∃o,s.heap.get? b=some o/\∀v,o.data≠.cell v):Inv X (ac++C2 fp s.heap) σ H s:=
 I.pins_of λp hp=>(yw.mp hp).elim (λz=>I.pin p (yf _ z)) λz=>by
  obtain⟨hb,e⟩:=Z9 z;obtain⟨f0,f1,f2,_⟩:=hf p.1 hb;obtain⟨o,e',d⟩:=ho p.1 hb;rw[e]at e';cases e';exact⟨e,f0,f1,f2,d⟩
theorem Inv.unpinned{pl:List (Addr×Obj)}(I:Inv X (ac++pl) σ H s):Inv X ac σ H s:=I.pins_of λp hp=>I.pin p (yf _ (yy _ hp))
theorem ik{iter:Expr}{body:List Stmt}{wi:TI}{g:TG}{tb:TS}{pos:Pos}(hp:PassesOwn (model X.prog X.w) X.A X.env X.xe)(hc:X.calm=true)(hi:PI X tg iter wi)(hg:PG X tg g)(hb:iO X body tb)
  (hs:∀x,foldedSetIterable iter X.env x=pure x:=by intro _;rfl):PS X (.For tg iter body [] pos) (C1 wi g tb):=by
 intro ac s σ H D I h;refine wpAny_For (aN (hi ac s σ H _ I h) λv s1 h1=>aN h1 λHA s2 h2=>?_) hs;obtain⟨it,fp,tn,J,H2,e,I2,T,oE,f2,W,⟨m0,w0⟩,turn⟩:=h2;subst e;have i4:∀{H':Hp},(∀b∈fp,H' b=none)->∀b∈fp,dM X ac H' b:=λhn b hb=>⟨hn b hb,(f2 b hb).2⟩
 refine codeAny_forLoop_any (λn s'=>∃i σ' H',Inv X ac σ' H' s'/\tn i s'.heap/\(∀b∈fp,H' b=none)/\W i n σ' H') ?_ m0 ⟨0,σ,H2,I2,oE,λb hb=>(f2 b hb).1,w0⟩;rintro n s3 ⟨i,σ3,H3,I3,RS,RT,w3⟩;rcases turn i n σ3 H3 w3 with⟨stop,qn⟩|⟨go,N,hN,step⟩
 ·refine HC hp (aN (T.done X rfl rfl rfl hc i ac s3 σ3 H3 X.xe I3 (i4 RT) RS stop) λr s4 ⟨hr,I4⟩=>?_);subst hr;exact RM ⟨σ3,H3,I4,qn⟩
 ·refine HC hp (aN (T.item X rfl rfl rfl hc i ac s3 σ3 H3 X.xe I3 (i4 RT) RS go) λr s4 ⟨u,hr,h4⟩=>?_);subst hr;refine HC hp (aN h4 λ_ s5 ⟨x,H5,I5,r5,y5,KN,fr5⟩=>?_);have I5':=I5.pinned (i4 fr5) (T.obj _ _ KN);refine HC hp (aN (hg _ s5 σ3 H5 x u _ I5' r5 (step x H5 y5)) λ_ s6 ⟨σ6,H6,I6,q6⟩=>?_);refine HC hp (aN (hb _ s6 σ6 H6 _ I6 q6) λf s7 q7=>?_);have again:∀{σ7:St}{H7:Hp},Inv X (ac++C2 fp s5.heap) σ7 H7 s7->N σ7 H7->∃m,m<n/\∃i σ' H',Inv X ac σ' H' s7/\tn i s7.heap/\(∀b∈fp,H' b=none)/\W i m σ' H':=λ{σ7 H7} I7 n7=>by
   obtain⟨m',hm,w7⟩:=hN σ7 H7 n7;refine⟨m',hm,i+1,σ7,H7,I7.unpinned,T.keep _ _ _ KN λb hb o e=>(I7.pin (b,o) (yf _ (yf _ (HB hb e)))).1,λb hb=>?_,w7⟩;obtain⟨o,e,d⟩:=T.obj _ _ KN b hb;exact(I7.pin (b,o) (yf _ (yf _ (HB hb e)))).2.1
  cases f with
  |next=>obtain⟨σ7,H7,I7,n7⟩:=q7;exact again I7 n7
  |cont=>obtain⟨σ7,H7,I7,n7⟩:=q7;exact again I7 n7
  |brk=>obtain⟨σ7,H7,I7,q7⟩:=q7;exact⟨σ7,H7,I7.unpinned,q7⟩
  |ret v=>obtain⟨x7,σ7,H7,I7,r7,q7⟩:=q7;exact⟨x7,σ7,H7,I7.unpinned,r7,q7⟩
end
variable{xs:List V}
theorem HD{g:TG}{tb:TS}{D:Ends}(Pv:Nat->St->Hp->Prop)(h0:Pv 0 σ H)(hl:∀i σ H,i<=xs.length->Pv i σ H->SqL K H a xs)
  (hs:∀i x σ H,xs[i]?=some x->Pv i σ H->g x σ H λσ2 H2=>tb {D with nx:=Pv (i+1),ct:=Pv (i+1),bk:=D.nx} σ2 H2) (hd:∀σ H,Pv xs.length σ H->D.nx σ H):
  ∃W:Nat->Nat->St->Hp->Prop,(∃m,W 0 m σ H)/\∀i m σ H,W i m σ H->
   ((rS K a).stop i H/\D.nx σ H)\/((rS K a).go i H/\∃N:St->Hp->Prop,(∀σ' H',N σ' H'->∃m',m'<m/\W (i+1) m' σ' H')/\∀x H',(rS K a).yld i H x H'->g x σ H' λσ2 H2=>tb {D with nx:=N,ct:=N,bk:=D.nx} σ2 H2):=by
 refine⟨λi m σ H=>m=xs.length-i/\i<=xs.length/\Pv i σ H,⟨xs.length,by simp,gn _,h0⟩,?_⟩;rintro i m σ H ⟨rfl,hi,p⟩;have q:=hl i σ H hi p;by_cases bF:i<xs.length
 ·refine .inr ⟨⟨xs,xs[i],q,by simp[bF]⟩,Pv (i+1),λσ' H' p'=>⟨xs.length-(i+1),by omega,rfl,bF,p'⟩,λx H' y=>?_⟩;obtain⟨e,y⟩:=y;subst e;exact hs i x σ _ (y xs q) p
 ·have e:i=xs.length:=by omega
  subst e;exact .inl ⟨⟨xs,q,yg _⟩,hd σ H p⟩
theorem jlu{g:TG}{tb:TS}{D:Ends}(Pv:Nat->St->Hp->Prop)(h0:Pv 0 σ H)(hl:∀i σ H,i<=xs.length->Pv i σ H->aZ K H a xs)
  (hs:∀i x σ H,xs[i]?=some x->Pv i σ H->g x σ H λσ2 H2=>tb {D with nx:=Pv (i+1),ct:=Pv (i+1),bk:=D.nx} σ2 H2) (hd:∀σ H,Pv xs.length σ H->D.nx σ H):
  ∃W:Nat->Nat->St->Hp->Prop,(∃m,W 0 m σ H)/\∀i m σ H,W i m σ H->
   ((vZ K a).stop i H/\D.nx σ H)\/((vZ K a).go i H/\∃N:St->Hp->Prop,(∀σ' H',N σ' H'->∃m',m'<m/\W (i+1) m' σ' H')/\∀x H',(vZ K a).yld i H x H'->g x σ H' λσ2 H2=>tb {D with nx:=N,ct:=N,bk:=D.nx} σ2 H2):=by
 refine⟨λi m σ H=>m=xs.length-i/\i<=xs.length/\Pv i σ H,⟨xs.length,by simp,gn _,h0⟩,?_⟩;rintro i m σ H ⟨rfl,hi,p⟩;have q:=hl i σ H hi p;by_cases bF:i<xs.length
 ·refine .inr ⟨⟨xs,xs[i],q,by simp[bF]⟩,Pv (i+1),λσ' H' p'=>⟨xs.length-(i+1),by omega,rfl,bF,p'⟩,λx H' y=>?_⟩;obtain⟨e,y⟩:=y;subst e;exact hs i x σ _ (y xs q) p
 ·have e:i=xs.length:=by omega
  subst e;exact .inl ⟨⟨xs,q,yg _⟩,hd σ H p⟩
theorem lX{lo:Int}{n:Nat}{g:TG}{tb:TS}{D:Ends}(Pv:Nat->St->Hp->Prop)(h0:Pv 0 σ H)
  (hs:∀i σ H,i<n->Pv i σ H->g (.int (lo+i)) σ H λσ2 H2=>tb {D with nx:=Pv (i+1),ct:=Pv (i+1),bk:=D.nx} σ2 H2) (hd:∀σ H,Pv n σ H->D.nx σ H):
  ∃W:Nat->Nat->St->Hp->Prop,(∃m,W 0 m σ H)/\∀i m σ H,W i m σ H->
   ((oB lo n).stop i H/\D.nx σ H)\/((oB lo n).go i H/\∃N:St->Hp->Prop,(∀σ' H',N σ' H'->∃m',m'<m/\W (i+1) m' σ' H')/\∀x H',(oB lo n).yld i H x H'->g x σ H' λσ2 H2=>tb {D with nx:=N,ct:=N,bk:=D.nx} σ2 H2):=by
 refine⟨λi m σ H=>m=n-i/\i<=n/\Pv i σ H,⟨n,by simp,gn _,h0⟩,?_⟩;rintro i m σ H ⟨rfl,hi,p⟩;by_cases bF:i<n
 ·refine .inr ⟨bF,Pv (i+1),λσ' H' p'=>⟨n-(i+1),by omega,rfl,bF,p'⟩,λx H' y=>?_⟩;obtain⟨e,y⟩:=y;subst e y;exact hs i σ _ bF p
 ·have e:i=n:=by omega
  subst e;exact .inl ⟨yg _,hd σ H p⟩
abbrev R2:=V->V->Hp->VK->Prop
def bR(X:Cx)(f:Value->Value->Sem Value)(r:R2):Prop:=
 ∀(ac:List (Addr×Obj)) (s:ye) (σ:St) (H:Hp) (x y:V) (v u:Value) (Q:VK),Inv X ac σ H s->RelV x v->RelV y u->r x y H Q->
  wpAny (model X.prog X.w) X.A (f v u) (EP X ac σ Q) X.xe s
def KO(X:Cx)(f:Value->Sem Value)(r:V->Hp->VK->Prop):Prop:=
 ∀(ac:List (Addr×Obj)) (s:ye) (σ:St) (H:Hp) (x:V) (v:Value) (Q:VK),Inv X ac σ H s->RelV x v->r x H Q->
  wpAny (model X.prog X.w) X.A (f v) (EP X ac σ Q) X.xe s
def aG(X:Cx)(f:Value)(r:List V->Hp->VK->Prop):Prop:=
 ∀(ac:List (Addr×Obj)) (s:ye) (σ:St) (H:Hp) (xs:List V) (us:List Value) (Q:VK),Inv X ac σ H s->am xs us->r xs H Q->
  wpAny (model X.prog X.w) X.A (call f us) (EP X ac σ Q) X.xe s
def KP(X:Cx)(r:V->Hp->(Bool->Hp->Prop)->Prop):Prop:=
 ∀(ac:List (Addr×Obj)) (s:ye) (σ:St) (H:Hp) (x:V) (v:Value) (Q:Bool->Hp->Prop),Inv X ac σ H s->RelV x v->r x H Q->
  wpAny (model X.prog X.w) X.A (truthy v) (TP X ac σ Q) X.xe s
def C3(r:R2)(ta tb:TE):TE:=λσ H Q=>ta σ H λx H1=>tb σ H1 λy H2=>r x y H2 Q
def RU(r:V->Hp->VK->Prop)(ta:TE):TE:=λσ H Q=>ta σ H λx H1=>r x H1 Q
def rI(C:Int->Int->Prop)(g:Int->Int->V):R2:=λx y H Q=>∃i j,x=.int i/\y=.int j/\C i j/\Q (g i j) H
def oF(g:Int->Int->V):R2:=λx y H Q=>∃i j,x=.int i/\y=.int j/\Q (g i j) H
def rU(g:Int->V):V->Hp->VK->Prop:=λx H Q=>∃i,x=.int i/\Q (g i) H
variable{r:R2}
section
variable{X:Cx}{a b c:Expr}{ta tb tc:TE}{pos:Pos}
theorem wa(ha:PE X a ta)(hb:PE X b tb){R:V->V->Hp->Prop}(I:Inv X ac σ H s)
  (h:ta σ H λx H1=>tb σ H1 λy H2=>R x y H2) {Q:Value->ye->Prop}{f:Value->Value->Sem Value}
  (hf:∀v u s2 x y H2,Inv X ac σ H2 s2->RelV x v->RelV y u->R x y H2->wpAny (model X.prog X.w) X.A (f v u) Q X.xe s2):
  wpAny (model X.prog X.w) X.A (eval a X.env) (λv s₁=>wpAny (model X.prog X.w) X.A (eval b X.env) (λu s₂=>wpAny (model X.prog X.w) X.A (f v u) Q X.xe s₂) X.xe s₁) X.xe s:=by
 refine aN (ha ac s σ H _ I h) λv s1 ⟨x,H1,I1,r1,q1⟩=>?_;refine aN (hb ac s1 σ H1 _ I1 q1) λu s2 ⟨y,H2,I2,r2,q2⟩=>?_;exact hf v u s2 x y H2 I2 r1 r2 q2
theorem ar{op:Operator}(ho:bR X (binaryOp op) r)(ha:PE X a ta)(hb:PE X b tb):PE X (.BinOp a op b pos) (C3 r ta tb):=by
 intro ac s σ H Q I h;exact wpAny_BinOp (wa ha hb I h λv u s2 x y H2 I2 rx ry q=>ho ac s2 σ H2 x y v u Q I2 rx ry q)
theorem HE{op:UnaryOp}{r:V->Hp->VK->Prop}(ho:KO X (unaryOp op) r)(ha:PE X a ta):PE X (.UnaryOp op a pos) (RU r ta):=by
 intro ac s σ H Q I h;exact UnaryOp_ (aN (ha ac s σ H _ I h) λv s1 ⟨x,H1,I1,r1,q1⟩=>ho ac s1 σ H1 x v Q I1 r1 q1)
theorem HF{f:Value->Value->Sem Value}{C:Int->Int->Prop}{g:Int->Int->Int}
  (rule:∀(i j:Int) (t u:Tok) (s:ye) (Q:Value->ye->Prop) (E:Value->ye->Prop),C i j->Q (.int (g i j) s.toks) {s with toks:=s.toks+1}->wpAny (model X.prog X.w) X.A (f (.int i t) (.int j u)) Q E s):
  bR X f (rI C λi j=>.int (g i j)):=by
 intro ac s σ H x y v u Q I rx ry h;obtain⟨i,j,rfl,rfl,hc,q⟩:=h;obtain⟨t,rfl⟩:=rx;obtain⟨t',rfl⟩:=ry;exact rule i j t t' s _ _ hc ⟨.int (g i j),H,I.tok _,⟨_,rfl⟩,q⟩
theorem C4{f:Value->Value->Sem Value}{g:Int->Int->Int}
  (rule:∀(i j:Int) (t u:Tok) (s:ye) (Q:Value->ye->Prop) (E:Value->ye->Prop),Q (.int (g i j) s.toks) {s with toks:=s.toks+1}->wpAny (model X.prog X.w) X.A (f (.int i t) (.int j u)) Q E s):
  bR X f (oF λi j=>.int (g i j)):=by
 intro ac s σ H x y v u Q I rx ry h;obtain⟨i,j,rfl,rfl,q⟩:=h;obtain⟨t,rfl⟩:=rx;obtain⟨t',rfl⟩:=ry;exact rule i j t t' s _ _ ⟨.int (g i j),H,I.tok _,⟨_,rfl⟩,q⟩
theorem wb{f:Value->Value->Sem Value}{g:Int->Int->Bool}
  (rule:∀(i j:Int) (t u:Tok) (s:ye) (Q:Value->ye->Prop) (E:Value->ye->Prop),Q (.bool (g i j)) s->wpAny (model X.prog X.w) X.A (f (.int i t) (.int j u)) Q E s):
  bR X f (oF λi j=>.bl (g i j)):=by
 intro ac s σ H x y v u Q I rx ry h;obtain⟨i,j,rfl,rfl,q⟩:=h;obtain⟨t,rfl⟩:=rx;obtain⟨t',rfl⟩:=ry;exact rule i j t t' s _ _ ⟨.bl (g i j),H,I,rfl,q⟩
def lZ(i j:Int):Prop:=0<=j/\j<=1000000/\i.natAbs<2 ^ 64
theorem wc:bR X (binaryOp .Add) (oF λi j=>.int (i+j)):=C4 λ_ _ _ _ _ _ _ q=>add_int q
theorem oG:bR X (binaryOp .Sub) (oF λi j=>.int (i-j)):=C4 λ_ _ _ _ _ _ _ q=>sub_int q
theorem bU:bR X (binaryOp .Mod) (rI (λ_ j=>0<j) λi j=>.int (i%j)):=HF λi j _ _ _ _ _ hc q=>by
 have h1:(0:Int)<j:=hc;exact mod_int' (by omega) (by rw[Int.fmod_eq_emod_of_nonneg i (by omega)];exact q)
theorem pU:bR X (binaryOp .Pow) (rI lZ λi j=>.int (i ^ j.toNat)):=HF λ_ _ _ _ _ _ _ hc q=>pow_int_small hc.1 hc.2.1 hc.2.2 q
theorem unI{f:Value->Sem Value}{g:Int->Int}
  (rule:∀(i:Int) (t:Tok) (s:ye) (Q:Value->ye->Prop) (E:Value->ye->Prop),Q (.int (g i) s.toks) {s with toks:=s.toks+1}->wpAny (model X.prog X.w) X.A (f (.int i t)) Q E s):
  KO X f (rU λi=>.int (g i)):=by
 intro ac s σ H x v Q I rx h;obtain⟨i,rfl,q⟩:=h;obtain⟨t,rfl⟩:=rx;exact rule i t s _ _ ⟨.int (g i),H,I.tok _,⟨_,rfl⟩,q⟩
theorem HG:KO X (unaryOp .USub) (rU λi=>.int (-i)):=unI λ_ _ _ _ _ q=>neg_int q
end
def C5:V->V->Bool
 | .non,.non=>true | .non,.int _=>true | .int _,.non=>true | .non,.bl _=>true | .bl _,.non=>true | .non,.str _=>true | .str _,.non=>true
 | .int _,.int _=>true | .bl _,.bl _=>true | .str _,.str _=>true | .byt _,.byt _=>true
 | .int _,.str _=>true | .str _,.int _=>true | .bl _,.str _=>true | .str _,.bl _=>true
 |_,_=>false
def C6:R2:=λx y H Q=>C5 x y=true/\Q (.bl (decide (x=y))) H
def KQ:R2:=λx y H Q=>C5 x y=true/\Q (.bl (!decide (x=y))) H
theorem RV{i j:Int}:decide (V.int i=V.int j)=(i==j):=by
 rw[Bd];simp
theorem RW{i j:Bool}:decide (V.bl i=V.bl j)=(i==j):=by
 rw[Bd];simp
theorem RX{i j:Str}:decide (V.str i=V.str j)=(i==j):=by
 rw[Bd];simp
theorem RY{i j:Array UInt8}:decide (V.byt i=V.byt j)=(i.toList==j.toList):=by
 rw[Bd];cases i;cases j;simp
variable{op:CmpOp}
section
variable{X:Cx}{a b c:Expr}{ta tb tc:TE}{pos:Pos}
theorem cY{Q:VK}{k k':Bool}(I:Inv X ac σ H s)(q:Q (.bl k) H)(e:k=k'):EP X ac σ Q (.bool k') s:=by
 subst e;exact⟨.bl k,H,I,rfl,q⟩
theorem C7:bR X (compareOp .Eq) C6:=by
 intro ac s σ H x y v u Q I rx ry h;obtain⟨hs,q⟩:=h;cases x with
 |non=>
  cases rx;cases y with
  |non=>cases ry;exact ycx (cY I q (by simp))
  |bl j=>cases ry;exact ycw (cY I q (by simp))
  |int j=>obtain⟨t',rfl⟩:=ry;exact ydd (cY I q (by simp))
  |str j=>obtain⟨t',rfl⟩:=ry;exact yde (cY I q (by simp))
  |_=>exact absurd (show false=true from hs) xj
 |bl i=>
  cases rx;cases y with
  |non=>cases ry;exact ycv (cY I q (by simp))
  |bl j=>cases ry;exact eq_bool (cY I q RW)
  |str j=>obtain⟨t',rfl⟩:=ry;exact ycr (cY I q (by simp))
  |_=>exact absurd (show false=true from hs) xj
 |int i=>
  obtain⟨t,rfl⟩:=rx;cases y with
  |non=>cases ry;exact ydc (cY I q (by simp))
  |int j=>obtain⟨t',rfl⟩:=ry;exact eq_int (cY I q RV)
  |str j=>obtain⟨t',rfl⟩:=ry;exact yd8 (cY I q (by simp))
  |_=>exact absurd (show false=true from hs) xj
 |str i=>
  obtain⟨t,rfl⟩:=rx;cases y with
  |non=>cases ry;exact ydf (cY I q (by simp))
  |bl j=>cases ry;exact ycs (cY I q (by simp))
  |int j=>obtain⟨t',rfl⟩:=ry;exact yd9 (cY I q (by simp))
  |str j=>obtain⟨t',rfl⟩:=ry;exact eq_str (cY I q RX)
  |_=>exact absurd (show false=true from hs) xj
 |byt i=>
  obtain⟨t,rfl⟩:=rx;cases y with
  |byt j=>obtain⟨t',rfl⟩:=ry;exact PySem.W.eq_bytes (cY I q RY)
  |_=>exact absurd (show false=true from hs) xj
 |_=>cases y<;>exact absurd (show false=true from hs) xj
theorem Be:bR X (compareOp .NotEq) KQ:=by
 intro ac s σ H x y v u Q I rx ry h;obtain⟨hs,q⟩:=h;cases x with
 |non=>
  cases rx;cases y with
  |non=>cases ry;exact yd0 (cY I q (by simp))
  |bl j=>cases ry;exact ycz (cY I q (by simp))
  |int j=>obtain⟨t',rfl⟩:=ry;exact ydh (cY I q (by simp))
  |str j=>obtain⟨t',rfl⟩:=ry;exact ydi (cY I q (by simp))
  |_=>exact absurd (show false=true from hs) xj
 |bl i=>
  cases rx;cases y with
  |non=>cases ry;exact ycy (cY I q (by simp))
  |bl j=>cases ry;exact ne_bool (cY I q (congrArg not RW))
  |str j=>obtain⟨t',rfl⟩:=ry;exact yct (cY I q (by simp))
  |_=>exact absurd (show false=true from hs) xj
 |int i=>
  obtain⟨t,rfl⟩:=rx;cases y with
  |non=>cases ry;exact ydg (cY I q (by simp))
  |int j=>obtain⟨t',rfl⟩:=ry;exact ne_int (cY I q (congrArg not RV))
  |str j=>obtain⟨t',rfl⟩:=ry;exact yda (cY I q (by simp))
  |_=>exact absurd (show false=true from hs) xj
 |str i=>
  obtain⟨t,rfl⟩:=rx;cases y with
  |non=>cases ry;exact ydj (cY I q (by simp))
  |bl j=>cases ry;exact ycu (cY I q (by simp))
  |int j=>obtain⟨t',rfl⟩:=ry;exact ydb (cY I q (by simp))
  |str j=>obtain⟨t',rfl⟩:=ry;exact ne_str (cY I q (congrArg not RX))
  |_=>exact absurd (show false=true from hs) xj
 |byt i=>
  obtain⟨t,rfl⟩:=rx;cases y with
  |byt j=>obtain⟨t',rfl⟩:=ry;exact PySem.W.ne_bytes (cY I q (congrArg not RY))
  |_=>exact absurd (show false=true from hs) xj
 |_=>cases y<;>exact absurd (show false=true from hs) xj
theorem HH:bR X (compareOp .Lt) (oF λi j=>.bl (decide (i<j))):=wb λ_ _ _ _ _ _ _ q=>lt_int q
theorem C8:bR X (compareOp .LtE) (oF λi j=>.bl (decide (i<=j))):=wb λ_ _ _ _ _ _ _ q=>le_int q
theorem HI:bR X (compareOp .Gt) (oF λi j=>.bl (decide (j<i))):=wb λ_ _ _ _ _ _ _ q=>gt_int q
theorem we:bR X (compareOp .Is) (λx y H Q=>y=.non/\Q (.bl (decide (x=.non))) H):=by
 intro ac s σ H x y v u Q I rx ry h;obtain⟨rfl,q⟩:=h;cases ry;refine is_none_gen (cY I q ?_);cases x<;>first
  |(cases rx;rfl)
  |(obtain⟨t,rfl⟩:=rx;rfl)
theorem jlw:bR X (compareOp .IsNot) (λx y H Q=>y=.non/\Q (.bl (!decide (x=.non))) H):=by
 intro ac s σ H x y v u Q I rx ry h;obtain⟨rfl,q⟩:=h;cases ry;refine isnot_none_gen (cY I q ?_);cases x<;>first
  |(cases rx;rfl)
  |(obtain⟨t,rfl⟩:=rx;rfl)
theorem bR.or{f:Value->Value->Sem Value}{r':R2}(h:bR X f r)(h':bR X f r'):bR X f (λx y H Q=>r x y H Q\/r' x y H Q):=by
 intro ac s σ H x y v u Q I rx ry q;rcases q with q|q
 ·exact h ac s σ H x y v u Q I rx ry q
 ·exact h' ac s σ H x y v u Q I rx ry q
theorem bd(b:Expr)(h:op≠.In:=by decide)(h2:op≠.NotIn:=by decide):behindInMarks op b=false:=by
 have e1:(op==CmpOp.In)=false:=by cases op<;>first|rfl|exact absurd rfl h
 have e2:(op==CmpOp.NotIn)=false:=by cases op<;>first|rfl|exact absurd rfl h2
 cases b<;>simp[behindInMarks,e1,e2]
theorem rW(ho:bR X (compareOp op) r)(ha:PE X a ta)(hb:PE X b tb)(hm:behindInMarks op b=false):PE X (.Compare a [op] [b] pos) (C3 r ta tb):=by
 intro ac s σ H Q I h;exact wpAny_Compare1 (wa ha hb I h λv u s2 x y H2 I2 rx ry q=>ho ac s2 σ H2 x y v u Q I2 rx ry q) hm
def rX(t:TE):TT:=λσ H Q=>t σ H λx H'=>∃k,x=.bl k/\Q k H'
theorem ba(ho:bR X (compareOp op) r)(ha:PE X a ta)(hb:PE X b tb)(hm:behindInMarks op b=false):PT X (.Compare a [op] [b] pos) (rX (C3 r ta tb)):=by
 intro ac s σ H Q I h;refine wpAny_isTrue_Compare1 (aN (ha ac s σ H _ I h) λv s1 ⟨x,H1,I1,r1,q1⟩=>aN (hb ac s1 σ H1 _ I1 q1) λu s2 ⟨y,H2,I2,r2,q2⟩=>
  aN (ho ac s2 σ H2 x y v u _ I2 r1 r2 q2) λc s3 ⟨z,H3,I3,r3,k,e,q3⟩=>?_) hm
 subst e;cases r3;exact Hy ⟨H3,I3,q3⟩
def j3(K:yd)(x:V)(H:Hp)(k:Bool):Prop:=
 match x with
 | .non=>k=false
 | .bl b=>k=b
 | .int i=>k=(i !=0)
 | .str y=>y.length<=sizeLine/\k=((y.length:Int) !=0)
 | .byt y=>y.size<=sizeLine/\k=((y.size:Int) !=0)
 | .ref p=>(∃xs,SqL K H p xs/\k=!xs.isEmpty)\/(∃xs,aZ K H p xs/\k=!xs.isEmpty)\/∃af,H p=some (.dK af)/\k=!af.isEmpty
 |_=>False
theorem jc7{κ:Type}{af:List (κ×V)}{vs:List (κ×Value)}(r:KV af vs):(!vs.isEmpty)=!af.isEmpty:=by
 cases r<;>rfl
theorem RZ{ai:List Value}(r:am xs ai):(!ai.toArray.isEmpty)=!xs.isEmpty:=by
 cases r<;>simp
theorem wg:(sizeLine:Nat)<2 ^ 63:=by rw[xx];decide
theorem wj:KP X (λx H Q=>∃k,j3 X.K x H k/\Q k H):=by
 intro ac s σ H x v Q I rx h;obtain⟨k,e,q⟩:=h;have hl:=wg;have hs:sizeLine=16777216:=xx;cases x with
 |non=>
  cases rx;have e':k=false:=e;subst e';exact truthy_none ⟨H,I,q⟩
 |bl b=>
  cases rx;have e':k=b:=e;subst e';exact Hy ⟨H,I,q⟩
 |int i=>
  obtain⟨t,rfl⟩:=rx;have e':k=(i !=0):=e;subst e';exact PySem.P.truthy_int ⟨H,I,q⟩
 |str y=>
  obtain⟨t,rfl⟩:=rx;obtain⟨hy,e'⟩:y.length<=sizeLine/\k=((y.length:Int) !=0):=e;subst e';exact PySem.P.truthy_str (by omega) ⟨H,I.tok _,q⟩
 |byt y=>
  obtain⟨t,rfl⟩:=rx;obtain⟨hy,e'⟩:y.size<=sizeLine/\k=((y.size:Int) !=0):=e;subst e';exact PySem.W.truthy_bytes (by omega) ⟨H,I.tok _,q⟩
 |ref p=>
  cases rx;have e':(∃xs,SqL X.K H p xs/\k=!xs.isEmpty)\/(∃xs,aZ X.K H p xs/\k=!xs.isEmpty)\/∃af,H p=some (.dK af)/\k=!af.isEmpty:=e;rcases e' with⟨xs,hx,e'⟩|⟨xs,hx,e'⟩|⟨af,hx,e'⟩
  ·subst e';obtain⟨ai,r,pl,hz⟩:=I.list hx;have aL:=r.length;exact wpAny_truthy_list pl.isList (by simp only[ym];omega) ⟨H,I.tok _,by rw[RZ r];exact q⟩
  ·subst e';obtain⟨ai,r,pl,hz⟩:=I.tuple hx;have aL:=r.length;exact truthy_tuple pl (by simp only[ym];omega) ⟨H,I.tok _,by rw[RZ r];exact q⟩
  ·subst e';obtain⟨hz,hS,vs,r,m⟩:af.length<=sizeLine/\(p==sysModules)=false/\∃vs,KV af vs/\s.heap.DictOf (cJ X.prog X.w) p vs:=I.hok p _ hx;have aL:af.length=vs.length:=CJ r;exact wpAny_truthy_dict hS m (by omega) ⟨H,I.tok _,by rw[jc7 r];exact q⟩
 |_=>exact(show False from e).elim
theorem jit(ha:PE X a ta)(he:∀whole,isTrue a X.env whole=(do let v <- whole;standAt a.pos;holding [v] (truthy v))):
  PT X a (λσ H Q=>ta σ H λx H'=>∃k,j3 X.K x H' k/\Q k H'):=by
 intro ac s σ H Q I h;exact isTrue_plain (aN (ha ac s σ H _ I h) λv s1 ⟨x,H1,I1,r1,q1⟩=>wj ac s1 σ H1 x v Q I1 r1 q1) (he _)
theorem jc8:bR X (binaryOp .Add) (λx y H Q=>∃i j,x=.str i/\y=.str j/\i.length+j.length<=sizeLine/\Q (.str (i++j)) H):=by
 intro ac s σ H x y v u Q I rx ry h;obtain⟨i,j,rfl,rfl,hz,q⟩:=h;obtain⟨t,rfl⟩:=rx;obtain⟨t',rfl⟩:=ry;exact add_str (λt' tk=>⟨.str (i++j),H,I.tok _,⟨_,rfl⟩,q⟩) hz
theorem fM{x:V}{us:List Value}(r:am [x] us):∃u,us=[u]/\RelV x u:=by
 cases r with
 |cons r1 r2=>cases r2;exact⟨_,rfl,r1⟩
theorem C9{x y:V}{us:List Value}(r:am [x,y] us):∃u w',us=[u,w']/\RelV x u/\RelV y w':=by
 cases r with
 |cons r1 r2=>
  cases r2 with
  |cons r3 r4=>cases r4;exact⟨_,_,rfl,r1,r3⟩
theorem jiu:aG X (.builtin "abs") (λxs H Q=>∃i,xs=[.int i]/\Q (.int (if i<0 then -i else i)) H):=by
 intro ac s σ H xs us Q I r h;obtain⟨i,rfl,q⟩:=h;obtain⟨u,rfl,t,rfl⟩:=fM r;exact call_abs_int λu tk=>⟨.int (if i<0 then -i else i),H,I.tok _,⟨_,rfl⟩,q⟩
theorem jff(hc:X.calm=true):aG X (.builtin "max") (λxs H Q=>∃i j,xs=[.int i,.int j]/\Q (.int (if j > i then j else i)) H):=by
 intro ac s σ H xs us Q I r h;obtain⟨i,j,rfl,q⟩:=h;obtain⟨u,w',rfl,⟨t,rfl⟩,⟨t',rfl⟩⟩:=C9 r;refine max_two_ints (I.ok.hd hc) λh' tk k=>⟨_,H,I.kept k,?_,q⟩
 by_cases hj:j > i
 ·rw[if_pos hj,if_pos hj];exact⟨_,rfl⟩
 ·rw[if_neg hj,if_neg hj];exact⟨_,rfl⟩
theorem jfg(hc:X.calm=true):aG X (.builtin "min") (λxs H Q=>∃i j,xs=[.int i,.int j]/\Q (.int (if j<i then j else i)) H):=by
 intro ac s σ H xs us Q I r h;obtain⟨i,j,rfl,q⟩:=h;obtain⟨u,w',rfl,⟨t,rfl⟩,⟨t',rfl⟩⟩:=C9 r;refine min_two_ints (I.ok.hd hc) λh' tk k=>⟨_,H,I.kept k,?_,q⟩
 by_cases hj:j<i
 ·rw[if_pos hj,if_pos hj];exact⟨_,rfl⟩
 ·rw[if_neg hj,if_neg hj];exact⟨_,rfl⟩
theorem jfh:aG X (.type "int") (λxs H Q=>(∃i,xs=[.int i]/\Q (.int i) H)\/∃k,xs=[.bl k]/\Q (.int (if k then 1 else 0)) H):=by
 intro ac s σ H xs us Q I r h;rcases h with⟨i,rfl,q⟩|⟨k,rfl,q⟩
 ·obtain⟨u,rfl,t,rfl⟩:=fM r;exact call_int_int ⟨.int i,H,I,⟨_,rfl⟩,q⟩
 ·obtain⟨u,rfl,r1⟩:=fM r;cases r1;exact call_int_bool ⟨.int (if k then 1 else 0),H,I.tok _,⟨_,rfl⟩,q⟩
def Db(K:yd)(x:V)(H:Hp)(n:Nat):Prop:=
 match x with
 | .str y=>y.length<=sizeLine/\n=y.length
 | .byt y=>y.size<=sizeLine/\n=y.size
 | .ref p=>(∃xs,SqL K H p xs/\n=xs.length)\/∃xs,aZ K H p xs/\n=xs.length
 |_=>False
theorem jiv:aG X (.builtin "len") (λxs H Q=>∃x n,xs=[x]/\Db X.K x H n/\Q (.int n) H):=by
 intro ac s σ H xs us Q I r h;obtain⟨x,n,rfl,e,q⟩:=h;obtain⟨u,rfl,rx⟩:=fM r;have hl:=wg;have hs:sizeLine=16777216:=xx;cases x with
 |str y=>
  obtain⟨t,rfl⟩:=rx;obtain⟨hy,e'⟩:y.length<=sizeLine/\n=y.length:=e;subst e';exact len_str (by omega) ⟨.int _,H,I.tok _,⟨_,rfl⟩,q⟩
 |byt y=>
  obtain⟨t,rfl⟩:=rx;obtain⟨hy,e'⟩:y.size<=sizeLine/\n=y.size:=e;subst e';exact PySem.W.len_bytes (by omega) ⟨.int _,H,I.tok _,⟨_,rfl⟩,q⟩
 |ref p=>
  cases rx;have e':(∃xs,SqL X.K H p xs/\n=xs.length)\/∃xs,aZ X.K H p xs/\n=xs.length:=e;rcases e' with⟨xs,hx,e'⟩|⟨xs,hx,e'⟩
  ·subst e';obtain⟨ai,r',pl,hz⟩:=I.list hx;have aL:=r'.length;exact Calls.call_len_list pl.isList (by simp only[ym];omega) ⟨.int xs.length,H,I.tok _,⟨_,by simp only[ym];rw[aL]⟩,q⟩
  ·subst e';obtain⟨ai,r',pl,hz⟩:=I.tuple hx;have aL:=r'.length;exact len_tuple pl (by simp only[ym];omega) ⟨.int xs.length,H,I.tok _,⟨_,by simp only[ym];rw[aL]⟩,q⟩
 |_=>exact(show False from e).elim
end
structure i5(h:Heap)(x dx C:Addr)(mA:Str->Option Value):Prop where
 obj:h.get? x=some (vK C dx)
 ns:h.Ns1 dx mA
 ne:dx≠x
set_option tactic.hygienic true in
theorem jfi{dx:Addr}{mA:Str->Option Value}(n:h.Ns1 dx mA):∃od,h.get? dx=some od/\∀name,KS name od=some (mA name):=by
 obtain⟨o,es,ep,ho,hd,hk,_,hm⟩:=n;refine⟨o,ho,λname=>?_⟩;have e:=hm name;unfold nsFind findBy at e;rw[<- Array.find?_toList]at e;unfold KS;rw[hd];dsimp only;split
 ·rename_i y q;rw[q]at e;exact congrArg some e
 ·rename_i q;rw[q]at e;have a:es.toList.any (·.refKey)=false:=by
   rw[List.any_eq_false];intro y hy;obtain⟨z,t,KW⟩:=hk y (Array.mem_toList_iff.mp hy);simp[DictEntry.refKey,KW]
  have a':¬ es.toList.any (·.refKey)=true:=by rw[a];exact xj
  rw[if_neg a'];exact congrArg some e
theorem i5.look{x dx C:Addr}{mA:Str->Option Value}(I:i5 h x dx C mA):∃od,PySem.W.InstAt h x (vK C dx) C (some od)/\∀name,KS name od=some (mA name):=
 let ⟨od,ho,hl⟩:=jfi I.ns
 ⟨od,⟨I.obj,rfl,rfl,ho⟩,hl⟩
section
variable{prog:xf}{w:World}{A:v7}{E:Value->ye->Prop}{s:ye}{K:yd}{x dx C f:Addr}{mA:Str->Option Value}{name:Str}{v:Value}
theorem jly{expr:Bool}{Q:Value->ye->Prop}(X:K.In s.heap)(I:i5 s.heap x dx C mA)(hg:KZ K C name=true)(hh:R0 K C=true)
  (ha:v0 K (.ref C) name=some none) (hv:mA name=some v) (Dc:yc2 v=true) (h:Q v {s with toks:=s.toks+1}):
  wpAny (model prog w) A (getAttr (.ref x) name expr) Q E s:=by
 obtain⟨od,J,hl⟩:=I.look;exact PySem.W.get_value X J (R1 hg).1 (PySem.W.findObj_own hh ha rfl (by rw[hl,hv])) Dc h
theorem jiw{pl:Sem Bool}{Q:Value×List Value->ye->Prop}(X:K.In s.heap)(I:i5 s.heap x dx C mA)(hg:KZ K C name=true)
  (hf:v0 K (.ref C) name=some (some (.ref f))) (ht:HJ K (.ref f)=true) (hv:mA name=none) (h:Q (.ref f,[.ref x]) s):
  wpAny (model prog w) A (getMethod (.ref x) name pl) Q E s:=by
 obtain⟨od,J,hl⟩:=I.look;exact PySem.W.method_fn X J (R1 hg).1 (R1 hg).2 hf (beq_iff_eq.mp ht) (by show(KS name od).map (·.isSome)=some false;rw[hl,hv];rfl) h
theorem jlz{ns:List Str}{Q:Unit->ye->Prop}(X:K.In s.heap)(I:i5 s.heap x dx C mA)
  (hs:v0 K (.ref C) "__setattr__"=some (some (.builtin "object.__setattr__"))) (hp:yb9 K C=true) (ht:R3 K C name=some none) (hh:R0 K C=true)
  (hw:RB mA ns) (hsz:ns.length<=sizeLine)
  (h:∀h',i5 h' x dx C (λy=>if y=name then some v else mA y)->i3 dx s.heap h'->Q () {s with heap:=h',toks:=s.toks+2}):
  wpAny (model prog w) A (setAttr (.ref x) name v) Q E s:=by
 obtain⟨od,J,hl⟩:=I.look;refine PySem.W.set_plain X J hs (PySem.W.osa_open (s:={s with toks:=s.toks+1}) (r:=none) X J hp ht λb=>?_);obtain⟨cd,hc,A6⟩:=PySem.W.any_some hh;have hx:s.heap.get? x=some ⟨.ref C,some dx,.plain,#[]⟩:=I.obj;refine y0 (yc (y0 (y0 (wpAny_loadPart hx (y0 (yf6 (s:={s with toks:=s.toks+1}) (PySem.W.looks_clsIn X hc) ?_))))));rw[A6];refine yc (a:=some dx) (y0 (yc (y0 ?_)));refine wpAny_nsSet1 (s:={s with toks:=s.toks+1}) I.ns λh' j4 Dd=>?_;obtain⟨oD,esD,epD,hoD,hdD,hcD⟩:=j4.count (yfe name v hw);refine y0 (wpAny_lookBehind hoD (by rw[hdD];exact pastItsLine_dict (v9 hcD (by rw[yn];omega))) ?_);exact yc (h _ ⟨(Dd.2 _ (iN I.ne)).trans I.obj,j4,I.ne⟩ Dd)
theorem jix{R:rY->ye->Prop}{vs:List Value}{kw:List (Str×Value)}(X:K.In s.heap)(hm:ycg K C=true)
  (hi:v0 K (.ref C) "__init__"=some (some (.ref f))) (hf:PySem.W.typeIn K (.ref f)=some (.type "function"))
  (h:codeAny (model prog w) (A.under (.builtin "type.__call__" ⟨.ref C::vs,kw⟩)) (.call (.ref f) ⟨.ref (s.heap.objs.size+1)::vs,kw⟩) (PySem.W.InitBack (s.heap.objs.size+1) R)
   {s with heap:=(s.heap.push rZ).push (vK C s.heap.objs.size)}):
  codeAny (model prog w) A (.call (.ref C) ⟨vs,kw⟩) R s:=by
 obtain⟨hh,g,d,t,os⟩:=s;exact PySem.W.make_core (PySem.W.makes_of X hm) (PySem.W.looks_findIn X hi) (λself=>PySem.W.bind_fn X self hf) (.inl rfl) h
end
def cE(f:Str)(v:V):List (Str×V)->List (Str×V)
 |[]=>[(f,v)]
 |(g,x)::r=>if g=f then(g,v)::r else(g,x)::cE f v r
theorem R4(f g:Str)(v:V):∀fs:List (Str×V),(cE f v fs).lookup g=if g=f then some v else fs.lookup g
 |[]=>by
  show Bf g [(f,v)]=_;by_cases h:g=f
  ·have hb:(g==f)=true:=beq_iff_eq.mpr h;simp only[Bf,hb,if_pos h]
  ·have hb:(g==f)=false:=beq_eq_false_iff_ne.mpr h;simp only[Bf,hb,if_neg h]
 |(k,x)::r=>by
  have ih:=R4 f g v r;rw[show cE f v ((k,x)::r)=(if k=f then(k,v)::r else(k,x)::cE f v r)from rfl];by_cases hk:k=f
  ·rw[if_pos hk];by_cases h:g=k
   ·have hb:(g==k)=true:=beq_iff_eq.mpr h;simp only[Bf,hb,if_pos (h.trans hk)]
   ·have hb:(g==k)=false:=beq_eq_false_iff_ne.mpr h;simp only[Bf,hb,if_neg (λe:g=f=>h (e.trans hk.symm))]
  ·rw[if_neg hk];by_cases h:g=k
   ·have hb:(g==k)=true:=beq_iff_eq.mpr h;simp only[Bf,hb,if_neg (λe:g=f=>hk (h.symm.trans e))]
   ·have hb:(g==k)=false:=beq_eq_false_iff_ne.mpr h;simp only[Bf,hb];exact ih
theorem K0(f:Str)(v:V):∀fs:List (Str×V),f∈(cE f v fs).map (·.1)/\∀g,g∈fs.map (·.1)->g∈(cE f v fs).map (·.1)
 |[]=>⟨by simp[cE],λg h=>by simp at h⟩
 |(k,x)::r=>by
  obtain⟨i1,i2⟩:=K0 f v r;rw[show cE f v ((k,x)::r)=(if k=f then(k,v)::r else(k,x)::cE f v r)from rfl];by_cases hk:k=f
  ·rw[if_pos hk];subst hk;exact⟨by simp,λg h=>by simpa using h⟩
  ·rw[if_neg hk];refine⟨?_,λg h=>?_⟩
   ·rw[xu];exact yr _ i1
   ·rw[xu]at h ⊢;rcases xc.mp h with e|e
    ·exact xc.mpr (.inl e)
    ·exact yr _ (i2 g e)
theorem R5(f:Str)(v:V):∀fs:List (Str×V),(cE f v fs).length<=fs.length+1
 |[]=>by simp[cE]
 |(k,x)::r=>by
  have ih:=R5 f v r;rw[show cE f v ((k,x)::r)=(if k=f then(k,v)::r else(k,x)::cE f v r)from rfl];by_cases hk:k=f
  ·rw[if_pos hk,yn,yn];omega
  ·rw[if_neg hk,yn,yn];omega
theorem cQ.some_of{v:V}{o:Option Value}(r:cQ (some v) o):∃u,o=some u/\RelV v u:=by
 cases o with
 |none=>exact(show False from r).elim
 |some u=>exact⟨u,rfl,r⟩
theorem cQ.none_of{o:Option Value}(r:cQ none o):o=none:=by
 cases o with
 |none=>rfl
 |some u=>exact(show False from r).elim
theorem jfj{v:V}{u:Value}(r:RelV v u):yc2 u=true:=by
 cases v with
 |non=>cases(show u=uy from r);rfl
 |bl b=>cases(show u=A2 b from r);rfl
 |int i=>obtain⟨t,e⟩:=(show ∃t,u=kQ i t from r);cases e;rfl
 |str x=>obtain⟨t,e⟩:=(show ∃t,u=Hr x t from r);cases e;rfl
 |byt b=>obtain⟨t,e⟩:=(show ∃t,u=ZM b t from r);cases e;rfl
 |flt b=>obtain⟨t,e⟩:=(show ∃t,u=Rz b t from r);cases e;rfl
 |ref a=>cases(show u=v5 a from r);rfl
 |ty n=>cases(show u=kR n from r);rfl
section
variable{P:xf}{w:World}{H H':Hp}{h h':Heap}{a C dx:Addr}{fs ZN:List (Str×V)}
theorem HK(hok:cK P w H h)(e:H a=some (.ins C dx fs)):∃mA,i5 h a dx C mA/\(∀f,cQ (fs.lookup f) (mA f))/\RB mA (fs.map (·.1))/\fs.length<=1000/\H dx=some (.own a):=by
 obtain⟨d,z,ne,ob,mA,n,r,q⟩:=(show ObjOk P w H h a (.ins C dx fs)from hok a _ e)
 exact⟨mA,⟨ob,n,ne⟩,r,q,z,d⟩
end
structure eQ(K:yd)(C:Addr):Prop where
 pg:KZ K C Str.empty=true
 hd:R0 K C=true
 po:yb9 K C=true
 sa:v0 K (.ref C) "__setattr__"=some (some (.builtin "object.__setattr__"))
theorem eQ.get{C:Addr}(c:eQ K C)(f:Str):KZ K C f=true:=c.pg
def NoAttr(K:yd)(C:Addr)(f:Str):Prop:=v0 K (.ref C) f=some none
theorem NoAttr.taker{C:Addr}{f:Str}(n:NoAttr K C f):R3 K C f=some none:=by
 unfold R3;rw[show v0 K (.ref C) f=some none from n];rfl
structure Con(K:yd)(C:Addr)(f:Str)(v:V)(u:Value):Prop where
 at_:v0 K (.ref C) f=some (some u)
 cI:RelV v u
 get:Bg K u "__get__"=some none
 cp:PySem.W.copiedNames.contains f=false
structure aS(K:yd)(C:Addr)(m:Str)(f:Addr):Prop where
 at_:v0 K (.ref C) m=some (some (.ref f))
 fn:HJ K (.ref f)=true
 kp:sd K (.ref f)=true
section
variable{X:Cx}{ac:List (Addr×Obj)}{σ:St}{H:Hp}{s:ye}{a C dx:Addr}{fs:List (Str×V)}{f:Str}{v:V}{A:v7}{E:Value->ye->Prop}
theorem jc9{b:Bool}{Q:Value->ye->Prop}(I:Inv X ac σ H s)(e:H a=some (.ins C dx fs))(c:eQ X.K C)(n:NoAttr X.K C f)(l:fs.lookup f=some v)
  (h:∀u s',Inv X ac σ H s'->RelV v u->Q u s'):wpAny (model X.prog X.w) A (getAttr (.ref a) f b) Q E s:=by
 obtain⟨mA,O,r,_,_,_⟩:=HK I.hok e;obtain⟨u,hu,ru⟩:=cQ.some_of (v:=v) (o:=mA f) (by rw[<- l];exact r f);exact jly I.kIn O (c.get f) c.hd n hu (jfj ru) (h u _ (I.tok _) ru)
theorem jca{m:Str}{g:Addr}{pl:Sem Bool}{Q:Value×List Value->ye->Prop}(I:Inv X ac σ H s)(e:H a=some (.ins C dx fs))(c:eQ X.K C)(k:aS X.K C m g)(l:fs.lookup m=none)
  (h:Q (.ref g,[.ref a]) s):wpAny (model X.prog X.w) A (getMethod (.ref a) m pl) Q E s:=by
 obtain⟨mA,O,r,_,_,_⟩:=HK I.hok e;have hn:mA m=none:=cQ.none_of (by rw[<- l];exact r m);exact jiw I.kIn O (c.get m) k.at_ k.fn hn h
theorem jcb{y:V}{Q:Unit->ye->Prop}(I:Inv X ac σ H s)(e:H a=some (.ins C dx fs))(c:eQ X.K C)(n:NoAttr X.K C f)(hl:fs.length<1000)(ry:RelV y u)
  (h:∀s',Inv X ac σ (aH H a (.ins C dx (cE f y fs))) s'->Q () s'):wpAny (model X.prog X.w) A (setAttr (.ref a) f u) Q E s:=by
 obtain⟨mA,O,r,wi,_,ho⟩:=HK I.hok e;have hz:(fs.map (·.1)).length<=sizeLine:=by rw[y3,xx];omega
 refine jlz I.kIn O c.sa c.po n.taker c.hd wi hz λh' O' sb=>h _ ?_;have hd:∃o,h'.get? dx=some o:=let ⟨o,_,_,e',_⟩:=O'.ns;⟨o,e'⟩;refine I.write (x:=a) (e:=dx) (by rw[e];exact j6) (.inr ho) (λb q hb z=>(sb.2 b hb).trans z) hd ?_;refine⟨by rw[bf O.ne];exact ho,?_,O.ne,O'.obj,_,O'.ns,λg=>?_,λg hg=>?_⟩
 ·have:=R5 f y fs;omega
 ·show cQ ((cE f y fs).lookup g) (if g=f then some u else mA g);rw[R4];by_cases q:g=f
  ·rw[if_pos q,if_pos q];exact ry
  ·rw[if_neg q,if_neg q];exact r g
 ·by_cases q:g=f
  ·rw[q];exact(K0 f y fs).1
  ·refine(K0 f y fs).2 g (wi g λz=>hg ?_);show(if g=f then some u else mA g)=none;rw[if_neg q];exact z
theorem Inv.made(I:Inv X ac σ H s):Inv X ac σ (aH (aH H s.heap.objs.size (.own (s.heap.objs.size+1))) (s.heap.objs.size+1) (.ins C s.heap.objs.size []))
  {s with heap:=(s.heap.push rZ).push (vK C s.heap.objs.size)}:=by
 have e1:(s.heap.push rZ).get? s.heap.objs.size=some rZ:=yi s.heap rfl;have e2:((s.heap.push rZ).push (vK C s.heap.objs.size)).get? (s.heap.objs.size+1)=some (vK C s.heap.objs.size):=by
  have:=yi (s.heap.push rZ) (o:=vK C s.heap.objs.size) rfl
  rwa [vq]at this
 have e3:(s.heap.push rZ).Ns s.heap.objs.size (λ_=>none):=⟨rZ,#[],_,e1,rfl,(λe he=>absurd he (by simp)),λ_=>rfl⟩
 have I1:=I.laid (a:=s.heap.objs.size) (o:=.own (s.heap.objs.size+1)) (h':=s.heap.push rZ) (t':=s.toks) (λb u q=>yb _ q) (yg _) ⟨_,e1⟩;refine I1.laid (a:=s.heap.objs.size+1) (o:=.ins C s.heap.objs.size []) (t':=s.toks) (λb u q=>yb _ q) (R6 (vq _ _)) ?_;have ne:s.heap.objs.size≠s.heap.objs.size+1:=xn (Bh _);refine⟨by rw[bf ne,bi],gn _,ne,e2,λ_=>none,(Heap.Ns1.of_empty e3).at λo q=>yb _ q,λ_=>j6,λy hy=>absurd rfl hy⟩
theorem jm0{prog:xf}{w:World}{env:Env}{f:Str}{pos:Pos}{s:ye}{Q:Value->ye->Prop}(hb:attributeBase e f env (eval e env)=eval e env)
  (h:wpAny (model prog w) A (eval e env) (λo s₁=>wpAny (model prog w) A (getAttr o f true) Q E s₁) E s):wpAny (model prog w) A (eval (.Attribute e f pos) env) Q E s:=
 Attribute_any_ h (by rw[arm_eval_Attribute,hb])
end
def De(K:yd)(ta:TE)(f:Str):TE:=λσ H Q=>ta σ H λx H1=>∃a C dx fs v,x=.ref a/\H1 a=some (.ins C dx fs)/\eQ K C/\NoAttr K C f/\fs.lookup f=some v/\Q v H1
def Df(K:yd)(ta tv:TE)(f:Str):TS:=λD σ H=>tv σ H λy H1=>ta σ H1 λx H2=>∃a C dx fs,x=.ref a/\H2 a=some (.ins C dx fs)/\eQ K C/\NoAttr K C f/\fs.length<1000/\
 D.nx σ (aH H2 a (.ins C dx (cE f y fs)))
section
variable{X:Cx}{o e value:Expr}{f:Str}{pos aY K1:Pos}{ta tv:TE}
theorem Dg(he:PE X e ta)(hb:attributeBase e f X.env (eval e X.env)=eval e X.env):PE X (.Attribute e f pos) (De X.K ta f):=by
 intro ac s σ H Q I h;refine jm0 hb (aN (he ac s σ H _ I h) λu s1 ⟨x,H1,I1,rx,a,C,dx,fs,v,ex,ea,c,n,l,q⟩=>?_);subst ex;obtain rfl:u=v5 a:=rx;exact jc9 I1 ea c n l λu' s2 I2 ru=>⟨v,H1,I2,ru,q⟩
theorem wk(ha:PE X o ta)(hv:PE X value tv)(hs:swapsWith value (some (.Attribute o f aY)) pos.line X.env=pure false):PS X (.Assign [.Attribute o f aY] value pos) (Df X.K ta tv f):=by
 intro ac s σ H D I h;refine plainObj_wpAny_Assign_Attribute (aN (hv ac s σ H _ I h) λu s1 ⟨y,H1,I1,ry,q⟩=>aN (ha ac s1 σ H1 _ I1 q) λov s2 ⟨x,H2,I2,rx,a,C,dx,fs,ex,ea,c,n,l,q2⟩=>?_) hs;subst ex;obtain rfl:ov=v5 a:=rx;exact jcb I2 ea c n l ry λs3 I3=>⟨σ,_,I3,q2⟩
end
section
variable{X:Cx}{ac:List (Addr×Obj)}{σ:St}{H:Hp}{s:ye}{A:v7}{E:Value->ye->Prop}{Q:Value->ye->Prop}{c:Value}{b:Bool}
inductive dN(K:yd)(H:Hp):V->Value->Prop where
 |non:dN K H .non (.type "NoneType")
 |bl (x:Bool):dN K H (.bl x) (.type "bool")
 |int (i:Int):dN K H (.int i) (.type "int")
 |str (x:Str):dN K H (.str x) (.type "str")
 |flt (x:UInt64):dN K H (.flt x) (.type "float")
 |lst {a:Addr}{xs:List V} (e:H a=some (.lst xs)):dN K H (.ref a) (.type "list")
 |frz {a:Addr}{o:Obj}{xs:List V} (e:H a=some (.frz o (.lst xs))):dN K H (.ref a) (.type "list")
 |tup {a:Addr}{xs:List V} (e:H a=some (.tup xs)):dN K H (.ref a) (.type "tuple")
 |dK {a:Addr}{af:List (Key×V)} (e:H a=some (.dK af)):dN K H (.ref a) (.type "dict")
 |dT {a:Addr}{af:List (List Key×V)} (e:H a=some (.dT af)):dN K H (.ref a) (.type "dict")
 | ins {a C dx:Addr}{fs:List (Str×V)} (e:H a=some (.ins C dx fs)) (cl:eQ K C) (ha:v0 K (.ref C) "__class__"=some (some (.builtin "object.__class__")))
   (hn:Bg K (.builtin "object.__class__") "__get__"=some (some (.builtin "getset_descriptor.__get__"))) (HL:HM K (.builtin "object.__class__")=some true)
   (hm:HN K C (.type "object")=some true):dN K H (.ref a) (.ref C)
theorem R7{x:V}{u t:Value}(I:Inv X ac σ H s)(rx:RelV x u)(ty:dN X.K H x t)(e:pV X.K t c=some b)(h:∀tk,Q (.bool b) {s with toks:=tk}):
  wpAny (model X.prog X.w) A (call (.builtin "isinstance") [u,c]) Q E s:=by
 cases ty with
 |non=>cases(show u=uy from rx);exact oH PySem.W.kitx_none I.kIn j6 e (λz=>nomatch z) h
 |bl y=>cases(show u=A2 y from rx);exact oH PySem.W.kitx_bool I.kIn j6 e (λz=>nomatch z) h
 |int i=>obtain⟨t,q⟩:=(show ∃t,u=kQ i t from rx);cases q;exact oH PySem.W.kitx_int I.kIn j6 e (λz=>nomatch z) h
 |str y=>obtain⟨t,q⟩:=(show ∃t,u=Hr y t from rx);cases q;exact oH PySem.W.kitx_str I.kIn j6 e (λz=>nomatch z) h
 |flt y=>obtain⟨t,q⟩:=(show ∃t,u=Rz y t from rx);cases q;exact oH PySem.W.kitx_float I.kIn j6 e (λz=>nomatch z) h
 | @lst a xs ea=>
  cases(show u=v5 a from rx);obtain⟨_,_,n,_,h1⟩:=(show ObjOk X.prog X.w H s.heap a (.lst xs)from I.hok a _ ea)
  exact oH yb8 I.kIn ⟨_,h1,rfl⟩ e (λz=>nomatch z) h
 | @frz a ob xs ea=>
  cases(show u=v5 a from rx);obtain⟨_,_,_,n,_,h1⟩:=(show ObjOk X.prog X.w H s.heap a (.frz ob (.lst xs))from I.hok a _ ea)
  exact oH yb8 I.kIn ⟨_,h1,rfl⟩ e (λz=>nomatch z) h
 | @tup a xs ea=>
  cases(show u=v5 a from rx);obtain⟨_,_,_,p⟩:=(show ObjOk X.prog X.w H s.heap a (.tup xs)from I.hok a _ ea)
  obtain⟨o,h1,h2,_⟩:=p.1;exact oH PySem.W.kitx_tuple I.kIn ⟨o,h1,h2⟩ e (λz=>nomatch z) h
 | @dK a af ea=>
  cases(show u=v5 a from rx);obtain⟨_,_,vs,_,p⟩:=(show ObjOk X.prog X.w H s.heap a (.dK af)from I.hok a _ ea)
  obtain⟨o,es,ep,h1,h2,_⟩:=p;exact oH yb7 I.kIn ⟨o,h1,h2.1⟩ e (λz=>nomatch z) h
 | @dT a af ea=>
  cases(show u=v5 a from rx);obtain⟨_,_,xs,_,o,es,ep,h1,h2,_⟩:=(show ObjOk X.prog X.w H s.heap a (.dT af)from I.hok a _ ea)
  exact oH yb7 I.kIn ⟨o,h1,h2.1⟩ e (λz=>nomatch z) h
 | @ins a C dx fs ea cl ha hn HL hm=>
  cases(show u=v5 a from rx);obtain⟨mA,O,_⟩:=HK I.hok ea;obtain⟨od,J,_⟩:=O.look;exact oH (PySem.W.kitx_own (cl.get _) cl.hd ha hn HL hm) I.kIn J e (λz=>nomatch z) h
end
structure aI(k:Nat)(A:v7):Prop where
 hd:A.handled=none
 dp:A.depth+3*k+5<recursionLimit
 un:A.units+16*k+200<cLine
 gd:A.guards=some []
theorem aI.mono{j k:Nat}(r:aI k A)(h:j<=k):aI j A:=⟨r.hd,by have:=r.dp;omega,by have:=r.un;omega,r.gd⟩
theorem aI.deeper{k:Nat}{A:v7}(r:aI (k+1) A)(env:Env):aI k (A.deeper env):=
 ⟨r.hd,by have:=r.dp;show A.depth+1+3*k+5<_;omega,by have:=r.un;show A.units+3+16*k+200<_;omega,r.gd⟩
theorem aI.in1{k:Nat}{A:v7}(r:aI (k+1) A):aI k A.in1:=
 ⟨r.hd,by have:=r.dp;show A.depth+3*k+5<_;omega,by have:=r.un;show A.units+1+16*k+200<_;omega,r.gd⟩
variable{us:List Value}
theorem jcd{C:Addr}{kw:List (Str×Value)}:(A.under (.builtin "type.__call__" ⟨.ref C::us,kw⟩)).depth=A.depth+1:=by
 first|rfl|simp[R8,Code.weight,Code.isCreation,ye2,Code.isCaller,yei,R9,guardIds]
theorem jce{C:Addr}{kw:List (Str×Value)}:(A.under (.builtin "type.__call__" ⟨.ref C::us,kw⟩)).units=A.units+1:=by
 first|rfl|simp[R8,Code.cUnits,yei,R9]
theorem jbb{C:Addr}{kw:List (Str×Value)}:(A.under (.builtin "type.__call__" ⟨.ref C::us,kw⟩)).guards=A.guards:=by
 have hg:(Sa "type.__call__" ⟨.ref C::us,kw⟩).guards=[]:=by first|rfl|simp[Code.guards,ye2,guardIds]
 show pushGuards (Sa "type.__call__" ⟨.ref C::us,kw⟩).guards A.guards=A.guards;rw[hg];cases A.guards<;>rfl
theorem aI.make{k:Nat}(r:aI (k+1) A)(C:Addr)(us:List Value)(kw:List (Str×Value)):aI k (A.under (.builtin "type.__call__" ⟨.ref C::us,kw⟩)):=
 ⟨r.hd,by have:=r.dp;rw[jcd];omega,by have:=r.un;rw[jce];omega,by rw[jbb];exact r.gd⟩
theorem aI.depth{k:Nat}{A:v7}(r:aI k A):A.depth<recursionLimit:=by have:=r.dp;omega
theorem aI.units{k:Nat}{A:v7}(r:aI k A):A.units+64<cLine:=by have:=r.un;omega
def Dh:TA:=λ_ H Q=>Q [] H
def se(ta:TE)(tr:TA):TA:=λσ H Q=>ta σ H λx H1=>tr σ H1 λxs H2=>Q (x::xs) H2
section
variable{X:Cx}{e:Expr}{es:List Expr}{te:TE}{t:TA}{pos:Pos}
theorem aj:PA X [] Dh:=λ_ _ _ _ H Q I h=>HP ⟨[],H,I,.nil,h⟩
theorem ae(ha:PE X e te)(hr:PA X es t)(hs:starEach (e::es) X.env=(false,eval e X.env)::starEach es X.env:=by rfl):PA X (e::es) (se te t):=by
 intro pos ac s σ H Q I h;rw[hs];show wpAny _ _ (spliced ((false,eval e X.env)::backTo pos (starEach es X.env))) _ _ s;refine K2 (aN (ha ac s σ H _ I h) λu s1 ⟨x,H1,I1,r1,q1⟩=>?_);exact aN (hr pos ac s1 σ H1 _ I1 q1) λus s2 ⟨xs,H2,I2,r2,q2⟩=>⟨x::xs,H2,I2,.cons r1 r2,q2⟩
def Di(t:TA):TE:=λσ H Q=>t σ H λxs H1=>xs.length<=sizeLine/\∀p,H1 p=none->Q (.ref p) (aH H1 p (.tup xs))
def Dj(t:TA):TE:=λσ H Q=>t σ H λxs H1=>xs.length<=sizeLine/\∀p,H1 p=none->Q (.ref p) (aH H1 p (.lst xs))
theorem fN{x1}(h:PA X es t):PE X (.Tuple es x1 pos) (Di t):=by
 intro ac s σ H Q I hq;refine wpAny_Tuple_spliced (aN (h pos ac s σ H _ I hq) λus s1 ⟨xs,H1,I1,r,z,q⟩=>⟨by rw[<- r.length];exact z,?_⟩);have hf:H1 s1.heap.objs.size=none:=I1.hok.fresh (yg _);refine⟨.ref s1.heap.objs.size,aH H1 s1.heap.objs.size (.tup xs),I1.laid (t':=s1.toks) (λb u e=>yb _ e) (yg _) ?_,rfl,q _ hf⟩;exact⟨z,us,r,iZ.new _ _⟩
theorem bX(h:PA X es t):PE X (.List es pos) (Dj t):=by
 intro ac s σ H Q I hq;refine wpAny_List_spliced (aN (h pos ac s σ H _ I hq) λus s1 ⟨xs,H1,I1,r,z,q⟩=>⟨by rw[<- r.length];exact z,?_⟩);have hf:H1 s1.heap.objs.size=none:=I1.hok.fresh (yg _);refine⟨.ref s1.heap.objs.size,aH H1 s1.heap.objs.size (.lst xs),I1.laid (t':=s1.toks) (λb u e=>yb _ e) (yg _) ?_,rfl,q _ hf⟩;exact⟨z,us,0,r,yi _ rfl⟩
end
abbrev Sp:=List V->Hp->VK->XK->Prop
abbrev iS:=List Env->Hp->ye->XK->Value->ye->Prop
structure gH(P:xf)(w:World)(K:yd)(mg:Str->Option Value)(base:Heap)(A:v7)(outer:List Env)(s:ye)(H:Hp):Prop where
 frames:A.frames=some outer
 mod:Mod K mg base
 bs:∀b o,base.get? b=some o->s.heap.get? b=some o/\H b=none
 bsz:base.objs.size<=s.heap.objs.size
 funs:s.heap.FunFrames base outer
 frf:∀b∈kU outer,H b=none
 hok:cK P w H s.heap
 bare:lU s.gens
def CE(outer:List Env)(P:xf)(w:World)(H:Hp)(s:ye)(Q:VK)(u:Value)(s':ye):Prop:=
 ∃v H',s'.os=s.os/\lU s'.gens/\Un (kU outer) [] H H' s.heap s'.heap/\cK P w H' s'.heap/\RelV v u/\Q v H'
def CR(CX:iS)(outer:List Env)(P:xf)(w:World)(H:Hp)(s:ye)(Q:VK)(E:XK)(r:rY)(s':ye):Prop:=
 match r with
 | .ok (.ret u)=>CE outer P w H s Q u s'
 | .ok _=>False
 | .error e=>CX outer H s E e s'
structure FnOk(P:xf)(w:World)(K:yd)(mg:Str->Option Value)(base:Heap)(CX:iS)(k:Nat)(f:Addr)(fd:xo)(ps:List Str)(sp:Sp):Prop where
 len:∀vs H Q E,sp vs H Q E->vs.length=ps.length
 run:∀(A:v7) (outer:List Env) (s:ye) (H:Hp) (args:Args) (us:List Value) (vs:List V) (Q:VK) (E:XK),aI k A->gH P w K mg base A outer s H->oJ s fd args (ps.zip us)->am vs us->sp vs H Q E->
  codeAny (model P w) A (.call (.ref f) args) (CR CX outer P w H s Q E) s
theorem gH.make{mg:Str->Option Value}{base:Heap}{outer:List Env}(e:gH P w K mg base A outer s H)(C:Addr)(us:List Value)(kw:List (Str×Value)):
  gH P w K mg base (A.under (.builtin "type.__call__" ⟨.ref C::us,kw⟩)) outer s H:=⟨by first|exact e.frames|(simpa[R8,Code.envs,R9,pushEnvs] using e.frames),e.mod,e.bs,e.bsz,e.funs,e.frf,e.hok,e.bare⟩
section
variable{X:Cx}{ac:List (Addr×Obj)}{σ:St}{H:Hp}{s s':ye}
theorem Inv.env0(I:Inv X ac σ H s):gH X.prog X.w X.K X.mg X.base X.A X.stack s H:=
 ⟨I.ok.frames,I.ok.mod,I.bs,v9 I.ok.bsz I.sz,I.stack,I.stkFree,I.hok,I.bare⟩
theorem Inv.after{Q:VK}(I:Inv X ac σ H s)(h:CE X.stack X.prog X.w H s Q u s'):EP X ac σ Q u s':=by
 obtain⟨v,H',os,bare,un,hok,r,q⟩:=h;obtain⟨hh,g,d,t,os'⟩:=s';obtain rfl:os'=s.os:=os;exact⟨v,H',I.call (h':=hh) (g':=g) (d':=d) (t':=t) (ch:=[]) un hok bare (λb z=>absurd z (by simp)),r,q⟩
end
def K3(sp:Sp)(dO:List V)(E:XK)(t:TA):TE:=λσ H Q=>t σ H λvs H1=>sp (vs++dO) H1 Q E
def sg(C:Addr)(m:Str)(sp:Sp)(dO:List V)(E:XK)(ta:TE)(t:TA):TE:=λσ H Q=>ta σ H λx H1=>∃a dx fs,x=.ref a/\H1 a=some (.ins C dx fs)/\fs.lookup m=none/\
 t σ H1 λvs H2=>sp (x::(vs++dO)) H2 Q E
def sh(C:Addr)(sp:Sp)(dO:List V)(E:XK)(t:TA):TE:=λσ H Q=>t σ H λvs H1=>∀x dx,H1 x=none->H1 dx=none->dx≠x->
 sp (.ref x::(vs++dO)) (aH (aH H1 dx (.own x)) x (.ins C dx [])) (λv H2=>v=.non/\Q (.ref x) H2) E
def Binds(K:yd)(fd:xo)(ps:List Str)(ds:List Value):Prop:=
 ∀(s:ye) (us:List Value),K.In s.heap->(us++ds).length=ps.length->oJ s fd ⟨us,[]⟩ (ps.zip (us++ds))
theorem Binds.all{fd:xo}{ps:List Str}(h:∀us:List Value,us.length=ps.length->bindArgs fd ⟨us,[]⟩=pure (ps.zip us)):Binds K fd ps []:=λs us _ hl=>by
 rw[oK]at hl ⊢;exact .of_eq (h us hl)
def wm(CX:iS)(X:Cx)(E:XK):Prop:=∀(ac:List (Addr×Obj)) (σ:St) (H:Hp) (s:ye) (e:Value) (s':ye),Inv X ac σ H s->CX X.stack H s E e s'->X.xe e s'
section
variable{X:Cx}{CX:iS}{k:Nat}{f C:Addr}{fd:xo}{ps:List Str}{sp:Sp}{dO:List V}{ds:List Value}{E:XK}{x m:Str}{p pos cS:Pos}{e o:Expr}{es:List Expr}{ta:TE}{t:TA}
theorem Sb{ac:List (Addr×Obj)}{σ:St}{H:Hp}{s:ye}{Q:VK}{us:List Value}{vs:List V}(F:FnOk X.prog X.w X.K X.mg X.base CX k f fd ps sp)(hr:aI k X.A)(hb:Binds X.K fd ps ds)(hd:am dO ds)(hx:wm CX X E)
  (I:Inv X ac σ H s) (r:am vs us) (h:sp (vs++dO) H Q E):wpAny (model X.prog X.w) X.A (call (.ref f) us) (EP X ac σ Q) X.xe s:=by
 have r2:am (vs++dO) (us++ds):=r.append hd;have hl:(us++ds).length=ps.length:=by rw[<- r2.length];exact F.len _ _ _ _ h
 refine K4 (wq (F.run X.A X.stack s H ⟨us,[]⟩ (us++ds) (vs++dO) Q E hr I.env0 (hb s us I.kIn hl) r2 h) λr s' hq=>?_);cases r with
 |error e=>exact hx ac σ H s e s' I hq
 |ok fl=>
  cases fl with
  |ret u=>exact I.after hq
  |next=>exact iQ hq
  |brk=>exact iQ hq
  |cont=>exact iQ hq
theorem Bi(F:FnOk X.prog X.w X.K X.mg X.base CX k f fd ps sp)(hr:aI k X.A)(hg:Gl X x)(hm:X.mg x=some (.ref f))(hk:sd X.K (.ref f)=true)(hb:Binds X.K fd ps ds)(hd:am dO ds)(hx:wm CX X E)
  (ha:PA X (e::es) t) (pW:(x==("__debug__":Str))=false:=by decide) (he:starEach (e::es) X.env=(false,eval e X.env)::starEach es X.env:=by rfl) (jF:(backTo pos (starEach es X.env)).any (·.1)=false:=by rfl):
  PE X (.Call (.Name x p) (e::es) [] pos) (K3 sp dO E t):=by
 intro ac s σ H Q I h;refine ux (KG I hg hm ?_ pW);refine Sc (h₀:=X.base) I.ok.mod.kin hk (aN (ha pos ac s σ H _ I h) λus s1 ⟨vs,H1,I1,r,q⟩=>⟨I1.kIn,?_⟩) he jF;exact Sb F hr hb hd hx I1 r q
theorem fV{pl:Sem Bool}(he:PE X o ta)(c:eQ X.K C)(hm:aS X.K C m f)(F:FnOk X.prog X.w X.K X.mg X.base CX k f fd ps sp)(hr:aI k X.A)(hb:Binds X.K fd ps ds)(hd:am dO ds)(hx:wm CX X E)(ha:PA X (e::es) t)
  (eP:starEach (e::es) X.env=(false,eval e X.env)::starEach es X.env:=by rfl) (jF:(backTo pos (starEach es X.env)).any (·.1)=false:=by rfl)
  (ht:eval (.Call (.Attribute o m cS) (e::es) [] pos) X.env=(do
   let ov <- eval o X.env
   standAt cS.atName
   let (f,first) <- holding [ov] (getMethod ov m pl)
   callWith pos f first (backTo pos (starEach (e::es) X.env)) (backToKw pos (keywordEach [] X.env))):=by rfl):
  PE X (.Call (.Attribute o m cS) (e::es) [] pos) (sg C m sp dO E ta t):=by
 intro ac s σ H Q I h;refine PySem.W.methodCall_KW (pl:=pl) (aN (he ac s σ H _ I h) λu s1 ⟨x,H1,I1,rx,a,dx,fs,ex,ea,l,q⟩=>?_) ht;subst ex;obtain rfl:u=v5 a:=rx;refine jca I1 ea c hm l ?_;refine Sc (first:=[.ref a]) (h₀:=X.base) I.ok.mod.kin hm.kp (aN (ha pos ac s1 σ H1 _ I1 q) λus s2 ⟨vs,H2,I2,r,q2⟩=>⟨I2.kIn,?_⟩) eP jF;exact Sb (us:=.ref a::us) (vs:=.ref a::vs) F hr hb hd hx I2 (.cons rfl r) q2
structure Mk(K:yd)(C f:Addr):Prop where
 makes:ycg K C=true
 init:v0 K (.ref C) "__init__"=some (some (.ref f))
 fn:HJ K (.ref f)=true
 kp:sd K (.ref C)=true
theorem jiy{ac:List (Addr×Obj)}{σ:St}{H:Hp}{s:ye}{Q:VK}{us:List Value}{vs:List V}(M:Mk X.K C f)(F:FnOk X.prog X.w X.K X.mg X.base CX k f fd ps sp)(hr:aI (k+1) X.A)(hb:Binds X.K fd ps ds)(hd:am dO ds)
  (hx:wm CX X E) (I:Inv X ac σ H s) (r:am vs us)
  (h:∀x dx,H x=none->H dx=none->dx≠x->sp (.ref x::(vs++dO)) (aH (aH H dx (.own x)) x (.ins C dx [])) (λv H2=>v=.non/\Q (.ref x) H2) E):
  wpAny (model X.prog X.w) X.A (call (.ref C) us) (EP X ac σ Q) X.xe s:=by
 have hq:=h (s.heap.objs.size+1) s.heap.objs.size (I.hok.fresh (i6 _)) (I.hok.fresh (yg _)) (xn (Bh _));have I2:=Inv.made (C:=C) I;have r2:am (V.ref (s.heap.objs.size+1)::(vs++dO)) (v5 (s.heap.objs.size+1)::(us++ds)):=.cons rfl (r.append hd);have hl:(v5 (s.heap.objs.size+1)::us++ds).length=ps.length:=by
  have e:=r2.length;rw[F.len _ _ _ _ hq]at e;exact e.symm
 refine K4 (jix (f:=f) I.kIn M.makes M.init (beq_iff_eq.mp M.fn) (wq (F.run _ X.stack _ _ ⟨v5 (s.heap.objs.size+1)::us,[]⟩ (v5 (s.heap.objs.size+1)::(us++ds)) _ _ E (hr.make C us [])
  (I2.env0.make C us []) (hb _ (v5 (s.heap.objs.size+1)::us) I2.kIn hl) r2 hq) λr s' bS=>?_))
 cases r with
 |error e=>exact hx ac σ _ _ e s' I2 bS
 |ok fl=>
  cases fl with
  |ret u=>
   obtain⟨v,H',I3,rv,ev,q3⟩:=I2.after bS;subst ev;exact⟨rv,⟨V.ref (s.heap.objs.size+1),H',I3,rfl,q3⟩⟩
  |next=>exact iQ bS
  |brk=>exact iQ bS
  |cont=>exact iQ bS
theorem wt(M:Mk X.K C f)(F:FnOk X.prog X.w X.K X.mg X.base CX k f fd ps sp)(hr:aI (k+1) X.A)(hg:Gl X x)(hm:X.mg x=some (.ref C))(hb:Binds X.K fd ps ds)(hd:am dO ds)(hx:wm CX X E)
  (ha:PA X (e::es) t) (pW:(x==("__debug__":Str))=false:=by decide) (he:starEach (e::es) X.env=(false,eval e X.env)::starEach es X.env:=by rfl) (jF:(backTo pos (starEach es X.env)).any (·.1)=false:=by rfl):
  PE X (.Call (.Name x p) (e::es) [] pos) (sh C sp dO E t):=by
 intro ac s σ H Q I h;refine ux (KG I hg hm ?_ pW);refine Sc (h₀:=X.base) I.ok.mod.kin M.kp (aN (ha pos ac s σ H _ I h) λus s1 ⟨vs,H1,I1,r,q⟩=>⟨I1.kIn,?_⟩) he jF;exact jiy M F hr hb hd hx I1 r q
end
section
variable{X:Cx}{CX:iS}{k:Nat}{f C:Addr}{fd:xo}{ps ks:List Str}{sp:Sp}{E:XK}{x m:Str}{p pos cS Qa0:Pos}{e o:Expr}{es:List Expr}{kws:List sk}{te ta:TE}{t tk:TA}{nm:Option Str}
structure K5(K:yd)(fd:xo)(ps ks:List Str)(g:List Value->List Value->List Value)(gV:List V->List V->List V):Prop where
 to:∀(s:ye) (us ws:List Value),K.In s.heap->(g us ws).length=ps.length->oJ s fd ⟨us,ks.zip ws⟩ (ps.zip (g us ws))
 cI:∀{vs:List V}{us:List Value}{zs:List V}{ws:List Value},am vs us->am zs ws->am (gV vs zs) (g us ws)
variable{g:List Value->List Value->List Value}{gV:List V->List V->List V}
end
structure ah(N P:List Str)(sc:Scope):Prop where
 kind:sc.kind=.function
 co:sc.isCoroutine=false
 gen:sc.isGenerator=false
 nd:N.Nodup
 pre:N.take P.length=P
 par:∀x∈P,sc.names.lookup x=some .local\/sc.names.lookup x=some .cell
 nofree:∀y∈sc.names,y.2≠.free
theorem Sd{kindOf:Str->Option so}{x:Str}:∀{binds:List (Str×Value)}{m:Str->Option Value},(∀v,(x,v)∉binds)->bindL kindOf binds m x=m x
 |[],_,_=>rfl
 |(n,v)::r,m,h=>by
  unfold bindL;rw[Sd λw hw=>h w (yr _ hw)];split
  ·have:x≠n:=by rintro rfl;exact h v yu
   simp[this]
  ·rfl
theorem Se{kindOf:Str->Option so}{x:Str}:∀{binds:List (Str×Value)}{m:Str->Option Value},(∀v,(x,v)∉binds)->bindC kindOf binds m x=m x
 |[],_,_=>rfl
 |(n,v)::r,m,h=>by
  unfold bindC;rw[Se λw hw=>h w (yr _ hw)];split
  ·rfl
  ·have:x≠n:=by rintro rfl;exact h v yu
   simp[this]
theorem Sf{kindOf:Str->Option so}{x:Str}{v:Value}:∀{P:List Str}{vs:List Value}{i:Nat}{m:Str->Option Value},P.Nodup->P[i]?=some x->vs[i]?=some v->kindOf x=some .local->
  bindL kindOf (P.zip vs) m x=some v
 |[],_,_,_,_,h,_,_=>by simp at h
 |_::_,[],_,_,_,_,h,_=>by simp at h
 |p::P,w::vs,0,m,nd,h1,h2,hk=>by
  simp at h1 h2;subst h1;subst h2;show bindL kindOf ((p,w)::P.zip vs) m p=_;unfold bindL;rw[Sd λv hv=>(kX.mp nd).1 (Sg hv).1,if_pos hk];simp
 |p::P,w::vs,i+1,m,nd,h1,h2,hk=>by
  show bindL kindOf ((p,w)::P.zip vs) m x=_;unfold bindL;exact Sf (i:=i) (kX.mp nd).2 (by simpa using h1) (by simpa using h2) hk
theorem Sh{kindOf:Str->Option so}{x:Str}{v:Value}:∀{P:List Str}{vs:List Value}{i:Nat}{m:Str->Option Value},P.Nodup->P[i]?=some x->vs[i]?=some v->kindOf x≠some .local->
  bindC kindOf (P.zip vs) m x=some v
 |[],_,_,_,_,h,_,_=>by simp at h
 |_::_,[],_,_,_,_,h,_=>by simp at h
 |p::P,w::vs,0,m,nd,h1,h2,hk=>by
  simp at h1 h2;subst h1;subst h2;show bindC kindOf ((p,w)::P.zip vs) m p=_;unfold bindC;rw[Se λv hv=>(kX.mp nd).1 (Sg hv).1,if_neg hk];simp
 |p::P,w::vs,i+1,m,nd,h1,h2,hk=>by
  show bindC kindOf ((p,w)::P.zip vs) m x=_;unfold bindC;exact Sh (i:=i) (kX.mp nd).2 (by simpa using h1) (by simpa using h2) hk
def start(N:List Str)(vs:List V):St:=vs.map some++xm (N.length-vs.length) none
def gJ(CX:iS)(P:xf)(w:World)(K:yd)(mg:Str->Option Value)(base:Heap)(N:List Str)(qual:Str)(scope:Scope)(f:Addr)(cd:Value)(A:v7)(outer:List Env)(s:ye)(H:Hp)(E:XK):Cx where
 prog:=P
 w:=w
 K:=K
 mg:=mg
 base:=base
 A:=A.deeper (envOfC qual scope s.heap.objs.size f cd)
 N:=N
 s₀:=s
 H₀:=H
 env:=envOfC qual scope s.heap.objs.size f cd
 outer:=outer
 stack:=envOfC qual scope s.heap.objs.size f cd::outer
 ex:=[]
 calm:=true
 fn:=λ_=>true
 pn:=[]
 xe:=λe s'=>wpAny (model P w) (A.deeper (envOfC qual scope s.heap.objs.size f cd)) (leaving (envOfC qual scope s.heap.objs.size f cd) e) (λ_ pX=>CX outer H s E e pX) (λe' pX=>CX outer H s E e' pX) s'
theorem Si{sc:Scope}{n:Nat}(h:sc.names.lookup x=some .cell):∃c,(cellsFrom n sc.names []).lookup x=some c:=by
 have q:=y8l sc.names n [] (.inl h);exact Sj.mp q
theorem jfk{CX:iS}{P:xf}{w:World}{K:yd}{mg:Str->Option Value}{base:Heap}{N ps:List Str}{qual:Str}{scope:Scope}{f:Addr}{cd:Value}{A:v7}{outer:List Env}{s s1:ye}{H:Hp}{E:XK}{us:List Value}{vs:List V}
  (S:ah N ps scope) (hd:A.handled=none) (e0:gH P w K mg base A outer s H) (hl:vs.length=ps.length) (r:am vs us)
  (x:InCallC s s.heap.objs.size (bindL (envOfC qual scope s.heap.objs.size f cd).kindOf (ps.zip us) λ_=>none) (cellsFrom (s.heap.objs.size+1) scope.names []) (bindC (envOfC qual scope s.heap.objs.size f cd).kindOf (ps.zip us) λ_=>none) s1):
  Inv (gJ CX P w K mg base N qual scope f cd A outer s H E) [] (start N vs) H s1:=by
 have jF:ps.length<=N.length:=by have:=congrArg Sk S.pre;rw[yp]at this;omega
 obtain⟨h1,tk,rfl,hk⟩:=x.done;have j7:∀b:Addr,b∉(gJ CX P w K mg base N qual scope f cd A outer s H E).ex:=λb z=>absurd (show b∈([]:List Addr)from z) (by simp);refine⟨⟨e0.mod,S.kind,rfl,rfl,yg _,λy z c h1 h2=>?_,λy hy=>?_,λy c _ h=>?_,λ_=>hd,y9i e0.frames,.inr ⟨rfl,rfl⟩,λb z=>absurd z (j7 b),e0.bs,e0.bsz,λb _ _=>j7 b,λb z=>absurd z (j7 b),e0.funs,e0.frf⟩,
  rfl,e0.bare,Un.kept hk,⟨_,x.toInCall.ns,λi y v h1 h2 h3=>?_⟩,λy c h=>⟨_,x.cell y c h⟩,e0.hok.fresh (yg _),λy c h=>?_,λp hp=>absurd (show p∈([]:List (Addr×Obj))from hp) (by simp),e0.hok.kept hk,?_⟩
 ·exact name_of_addr x.apart (uz h1) (uz h2)
 ·have hy:scope.names.lookup y=some .cell\/scope.names.lookup y=some .free:=hy;rcases hy with hy|hy
  ·exact Si hy
  ·exact absurd rfl (S.nofree _ (uz hy))
 ·exact lV (x.above y c (uz h))
 ·have hi:i<vs.length:=by
   unfold start at h2;by_cases hi:i<vs.length
   ·exact hi
   ·rw[va (by simpa using hi)]at h2;rw[List.getElem?_replicate]at h2;split at h2<;>cases h2
  have ha:vs[i]?=some v:=by
   unfold start at h2;rw[gz (by simpa using hi),xh]at h2;cases e:vs[i]? with
   |none=>rw[e]at h2;cases h2
   |some a=>rw[e]at h2;cases h2;rfl
  obtain⟨u,hu,rv⟩:=r.get ha;have hp:ps[i]?=some y:=by
   rw[<- S.pre,Sl (by omega)];exact h1
  have Sm:ps.Nodup:=by rw[<- S.pre];exact S.nd.sublist (yb2 _ _)
  refine⟨u,rv,?_⟩;rcases S.par y (vg hp)with k|k
  ·exact .inl ⟨k,Sf Sm hp hu k⟩
  ·obtain⟨c,e⟩:=Si (n:=s.heap.objs.size+1) k;refine .inr ⟨.inl k,c,e,?_⟩;have q:=x.cell y c e;rw[Sh Sm hp hu (by show scope.names.lookup y≠_;rw[k];decide)]at q;exact q
 ·exact e0.hok.fresh (lV (x.above y c (uz h)))
 ·unfold start;show _=N.length;rw[xi,y3,y8z];omega
theorem su{CX:iS}{P:xf}{w:World}{K:yd}{mg:Str->Option Value}{base:Heap}{k:Nat}{f:Addr}{name qual:Str}{params:HQ}{body:List Stmt}{scope:Scope}{dV kV doc pm bj ct oc:Value}{an od:Option Addr}
  {kY:Array (Option Value)}{N ps:List Str}{sp:Sp} (lk:K.lookup f=some ⟨oc,od,.func (i7 name qual params body scope dV kV doc pm an bj ct),kY⟩) (fF:K6 K bj qual=true) (S:ah N ps scope)
  (len:∀vs H Q E,sp vs H Q E->vs.length=ps.length)
  (il:∀(A:v7) (outer:List Env) (s:ye) (H:Hp) (vs:List V) (Q:VK) (E:XK),aI k (A.deeper (envOfC qual scope s.heap.objs.size f bj))->sp vs H Q E->
   ∃t,iO (gJ CX P w K mg base N qual scope f bj A outer s H E) body t/\t {nx:=λ_ H'=>Q .non H',rt:=Q} (start N vs) H):
  FnOk P w K mg base CX (k+1) f (i7 name qual params body scope dV kV doc pm an bj ct) ps sp:=by
 refine⟨len,λA outer s H args us vs Q E hr e0 hb r hsp=>?_⟩;have hl:=len _ _ _ _ hsp;have KX:K.In s.heap:=e0.mod.kin.keeps λb o e=>(e0.bs b o e).1;have lim:s.heap.NoLimit:=e0.mod.nolimit.keeps λb o e=>(e0.bs b o e).1;have mB:∀y∈ps.zip us,scope.names.lookup y.1=some .local\/(scope.names.lookup y.1=some .cell/\((cellsFrom (s.heap.objs.size+1) scope.names []).lookup y.1).isSome=true):=λ⟨n,v⟩ hy=>by
  rcases S.par n (Sg hy).1 with q|q
  ·exact .inl q
  ·exact .inr ⟨q,y8l _ _ _ (.inl q)⟩
 refine codeAny_call_function hr.depth (KX _ _ lk) rfl S.co S.gen rfl (PySem.W.codeRec_of KX fF) (hb _ _ _ _ ?_);refine wpAny_newFunctionEnv_cells S.kind mB λenv he s1 x=>?_;subst he;refine⟨lim.keeps x.toInCall.keep,codeAny_func ?_⟩;obtain⟨t,ht,hq⟩:=il A outer s H vs Q E (hr.deeper _) hsp;have I:Inv (gJ CX P w K mg base N qual scope f bj A outer s H E) [] (start N vs) H s1:=jfk S hr.hd e0 hl r x;refine iP (ht [] s1 (start N vs) H _ I hq) (λfl s' hs=>?_) λe s' hs=>hs;have fin:∀{σ':St}{H':Hp}{v:V}{u:Value},Inv (gJ CX P w K mg base N qual scope f bj A outer s H E) [] σ' H' s'->RelV v u->Q v H'->CE outer P w H s Q u s':=
  λ{σ' H' v u} J rv q=>⟨v,H',J.os,J.bare,J.base,J.hok,rv,q⟩
 cases fl with
 |ret u=>
  obtain⟨v,σ',H',J,rv,q⟩:=hs;exact fin J rv q
 |next=>
  obtain⟨σ',H',J,q⟩:=hs;exact fin (v:=V.non) (u:=uy) J rfl q
 |brk=>
  obtain⟨_,_,_,q⟩:=hs;exact iQ q
 |cont=>
  obtain⟨_,_,_,q⟩:=hs;exact iQ q
section
variable{X:Cx}{x:Str}{p pos:Pos}{e:Expr}{es:List Expr}{t:TA}{id T:String}{r:List V->Hp->VK->Prop}
def Bj(r:List V->Hp->VK->Prop)(t:TA):TE:=λσ H Q=>t σ H λvs H1=>r vs H1 Q
theorem aV(hc:aG X (.builtin id) r)(hg:Gl X x)(hm:X.mg x=none)(hv:bootBuiltins x=some (.builtin id))(ha:PA X (e::es) t)(hn:x≠"__name__":=by decide)(pW:(x==("__debug__":Str))=false:=by decide)
  (he:starEach (e::es) X.env=(false,eval e X.env)::starEach es X.env:=by rfl) (jF:(backTo pos (starEach es X.env)).any (·.1)=false:=by rfl):PE X (.Call (.Name x p) (e::es) [] pos) (Bj r t):=by
 intro ac s σ H Q I h;refine ux (jY I hg hm hv ?_ hn pW);exact y5r (aN (ha pos ac s σ H _ I h) λus s1 ⟨vs,H1,I1,r1,q1⟩=>hc ac s1 σ H1 vs us Q I1 r1 q1) he jF
theorem eS(hc:aG X (.type T) r)(hg:Gl X x)(hm:X.mg x=none)(hv:bootBuiltins x=some (.type T))(ha:PA X (e::es) t)(hn:x≠"__name__":=by decide)(pW:(x==("__debug__":Str))=false:=by decide)
  (he:starEach (e::es) X.env=(false,eval e X.env)::starEach es X.env:=by rfl) (jF:(backTo pos (starEach es X.env)).any (·.1)=false:=by rfl):PE X (.Call (.Name x p) (e::es) [] pos) (Bj r t):=by
 intro ac s σ H Q I h;refine ux (jY I hg hm hv ?_ hn pW);exact u0 (aN (ha pos ac s σ H _ I h) λus s1 ⟨vs,H1,I1,r1,q1⟩=>hc ac s1 σ H1 vs us Q I1 r1 q1) he jF
end
end L2
namespace HT
open PySem PyProof.Rows
section
open PySem.SeqAt
open PySem.AutoSeq1 (wpAny_loadPart')
open PySem.MeetsSeq PySem.MeetsSeq2 PySem.MeetsSeq3
end
section
variable{prog:xf}{w:World}{A:v7}{E:Value->ye->Prop}{s:ye}
theorem cat_tup{t b:Addr}{vs ws:List Value}{Q:Value->ye->Prop}(ht:IsTup s.heap t vs.toArray)(hb:IsTup s.heap b ws.toArray)(hv:vs≠[])
  (h1:ws=[]->Q (.ref t) s) (h2:ws≠[]->Q (.ref s.heap.objs.size) {s with heap:=s.heap.push {cls:=.type "tuple",data:=.seq (vs++ws).toArray} })
  (hsz:vs.length+ws.length<=sizeLine):wpAny (model prog w) A (binaryOp .Add (.ref t) (.ref b)) Q E s:=by
 obtain⟨⟨cls,dd,data,sl⟩,ho,hc,n,hd⟩:=id ht;obtain⟨⟨K7,HR,data2,HS⟩,oM,jG,n2,sw⟩:=id hb;simp only at hc hd jG sw;subst hc hd jG sw;have e:vs.toArray++ws.toArray=(vs++ws).toArray:=by simp
 by_cases hw:ws=[]
 ·exact Sn ⟨_,ho,rfl⟩ ⟨_,oM,rfl⟩ So Sq Sr Ss (Su _ _)
   (tuple_addW1 t b vs.toArray ws.toArray n n2 dd HR sl HS (by simpa using hv) (by simp[hw])) ⟨ho,oM,h1 hw⟩
 ·refine Sn ⟨_,ho,rfl⟩ ⟨_,oM,rfl⟩ So Sq Sr Ss (Su _ _)
   (tuple_addW2 t b vs.toArray ws.toArray n n2 dd HR sl HS (by simpa using hv) (by simpa using hw) (by rw[ym,ym];exact hsz)) ⟨ho,oM,?_⟩
  rw[e];exact h2 hw
def sIx(n d:Nat):Option Int->Nat
 |none=>d
 |some v=>if v<0 then(v+(n:Int)).toNat else min v.toNat n
theorem sIx_none(n d:Nat):sIx n d none=d:=rfl
theorem sIx_nat(n d k:Nat):sIx n d (some (k:Int))=min k n:=by
 show(if (k:Int)<0 then((k:Int)+(n:Int)).toNat else min (k:Int).toNat n)=min k n;rw[if_neg (by omega),yx]
theorem wu(n d:Nat)(hd:d<=n)(o:Option Int):sIx n d o<=n:=by
 cases o with
 |none=>exact hd
 |some v=>
  show(if v<0 then(v+(n:Int)).toNat else min v.toNat n)<=n;by_cases hv:v<0
  ·rw[if_pos hv];omega
  ·rw[if_neg hv];exact Nat.min_le_right _ _
theorem Sw(v:Int)(n d:Nat):(if v<0 then max (v+(n:Int)) 0 else min v (n:Int))=((sIx n d (some v):Nat):Int):=by
 show(if v<0 then max (v+(n:Int)) 0 else min v (n:Int))=(((if v<0 then(v+(n:Int)).toNat else min v.toNat n):Nat):Int)
 by_cases hv:v<0
 ·simp only[if_pos hv];omega
 ·simp only[if_neg hv];omega
theorem jcg(lo hi:Option Int)(n:Nat):Sx lo hi 1 (n:Int)=(((sIx n 0 lo:Nat):Int),((sIx n n hi:Nat):Int)):=by
 have h1:¬ ((1:Int)<0):=by omega
 unfold Sx;simp only[h1,if_false];refine Prod.ext ?_ ?_
 ·cases lo with
  |none=>rfl
  |some v=>exact Sw v n 0
 ·cases hi with
  |none=>rfl
  |some v=>exact Sw v n n
theorem jch(i j:Nat):K8 (i:Int) (j:Int) 1=j-i:=by
 unfold K8;have h1:(1:Int) > 0:=by omega
 simp only[h1,if_true,Int.ediv_one];split<;>omega
theorem Sy{v:Value}{o:Option Int}{Q:Option Int->ye->Prop}(p:oN v o)(h:Q o s):wpAny (model prog w) A (yc7 v) Q E s:=by
 cases p with
 |none=>exact yd5 h
 |int i t=>exact slicePart_int h
theorem sliceApplied_gen{sl:Addr}{vl vu:Value}{lo hi:Option Int}{n:Nat}{Q:Int×Int×Nat->ye->Prop}(hs:s.heap.IsSliceOf sl vl vu .none)(pl:oN vl lo)(pu:oN vu hi)
  (h:Q (((sIx n 0 lo:Nat):Int),1,sIx n n hi-sIx n 0 lo) s):wpAny (model prog w) A (y6s (.ref sl) (pure (n:Int))) Q E s:=by
 obtain⟨os,pY,HU,Dk⟩:=id hs;unfold y6s ycp;refine y0 (y0 (jH pY Dk (x:=vl) rfl (y0 (jH pY Dk (x:=vu) rfl (y0 (jH pY Dk (x:=.none) rfl (yc ?_)))))));refine y0 (yd5 ?_);show wpAny _ _ (if ((1:Int)==0)=true then _ else _) _ _ s;rw[if_neg (by decide)];refine y0 (Sy pl (y0 (Sy pu (y0 (yc ?_)))));show wpAny _ _ (match Sx lo hi 1 (n:Int)with|(lo,hi)=>pure (lo,(1:Int),K8 lo hi 1)) _ _ s;rw[jcg lo hi n];show wpAny _ _ (pure (((sIx n 0 lo:Nat):Int),(1:Int),K8 ((sIx n 0 lo:Nat):Int) ((sIx n n hi:Nat):Int) 1)) _ _ s;rw[jch];exact yc h
theorem jiz(xs:Array Value)(i k:Nat):((vi k).filterMap λ(m:Nat)=>xs[((i:Int)+(m:Int)*1).toNat]?).toArray=((xs.toList.drop i).take k).toArray:=by
 have e:(λ(m:Nat)=>xs[((i:Int)+(m:Int)*1).toNat]?)=λm=>xs[i+m]?:=by
  funext m
  have:((i:Int)+(m:Int)*1).toNat=i+m:=by omega
  rw[this]
 rw[e];have:=pick_run xs i k;rw[yai]at this;have e2:((λx=>xs[x]?) ∘ λx=>i+x)=λm=>xs[i+m]?:=rfl;rw[e2]at this;rw[this]
theorem getItem_tuple_cut{t sl:Addr}{items:Array Value}{vl vu:Value}{lo hi:Option Int}{Q:Value->ye->Prop}(ht:IsTup s.heap t items)(hs:s.heap.IsSliceOf sl vl vu .none)(pl:oN vl lo)(pu:oN vu hi)
  (hw:¬ (sIx items.size 0 lo=0/\sIx items.size items.size hi=items.size))
  (h:Q (.ref s.heap.objs.size) {s with heap:=s.heap.push {cls:=.type "tuple",data:=.seq ((items.toList.drop (sIx items.size 0 lo)).take (sIx items.size items.size hi-sIx items.size 0 lo)).toArray} })
  (hsz:items.size<=sizeLine):wpAny (model prog w) A (getItem (.ref t) (.ref sl)) Q E s:=by
 have jI:sizeOk (.seq ((items.toList.drop (sIx items.size 0 lo)).take (sIx items.size items.size hi-sIx items.size 0 lo)).toArray):=by
  show((items.toList.drop (sIx items.size 0 lo)).take (sIx items.size items.size hi-sIx items.size 0 lo)).toArray.size<=sizeLine;rw[ym,yp,ve,yj];omega
 have hj:sIx items.size items.size hi<=items.size:=wu _ _ (yg _) hi;obtain⟨os,pY,HU,Dk⟩:=id hs;have K9:s.TypeIs (.ref sl) "slice":=⟨os,pY,HU⟩
 unfold getItem
 try with_reducible refine gu ?_
 first|refine y0 (yc ?_)|skip
 refine y0 (ybh ht.typeIs (by decide) ?_);refine y0 (vf (name:=u5 "__getitem__") ht.typeIs Sz
  (gj Sz ht.typeIs yab ?_ (yar _ _)))
 show wpAny _ _ (SA (.ref t) >>= _) _ _ s;refine y0 (SD ht ?_);refine y0 (pZ K9 ?_);rw[if_pos (by decide)];refine y0 (sliceApplied_gen hs pl pu ?_);have i8:¬ ((((sIx items.size 0 lo:Nat):Int)==0&&(1:Int)==1&&(sIx items.size items.size hi-sIx items.size 0 lo)==items.size)=true):=by
  intro q;rw[oO,oO]at q;have q1:((sIx items.size 0 lo:Nat):Int)=0:=eq_of_beq q.1.1;have q2:sIx items.size items.size hi-sIx items.size 0 lo=items.size:=eq_of_beq q.2;exact hw ⟨by omega,by omega⟩
 show wpAny _ _ (if (((sIx items.size 0 lo:Nat):Int)==0&&(1:Int)==1&&(sIx items.size items.size hi-sIx items.size 0 lo)==items.size)=true then _ else _) _ _ s;rw[if_neg i8,jiz]
 first
  |exact y0 (m:=La _) (vp (yc ⟨_,rfl,yc h⟩) jI)
  |exact y0 (m:=La _) (vp (y0 (yc (yc ⟨_,rfl,yc h⟩))) jI)
  |exact y0 (y0 (m:=La _) (vp (yc (yc ⟨_,rfl,yc h⟩)) jI))
  |exact y0 (y0 (m:=La _) (vp (yc ⟨_,rfl,yc h⟩) jI))
end
end HT
namespace L2
open PySem PySem.Spec PyProof.Rows
abbrev TO:=St->Hp->(Option Int->Hp->Prop)->Prop
def PO(X:Cx)(e:Option Expr)(t:TO):Prop:=
 ∀(ac:List (Addr×Obj)) (s:ye) (σ:St) (H:Hp) (Q:Option Int->Hp->Prop),Inv X ac σ H s->t σ H Q->
  wpAny (model X.prog X.w) X.A (evalPart e X.env) (λu s'=>∃o H',Inv X ac σ H' s'/\oN u o/\Q o H') X.xe s
def SE:TO:=λ_ H Q=>Q none H
def sy(t:TE):TO:=λσ H Q=>t σ H λx H1=>∃i,x=.int i/\Q (some i) H1
theorem Bk{ns:List Int}:∀{us:List Value},am (ns.map V.int) us->fW us ns:=by
 induction ns with
 |nil=>intro us r;rw[Bl]at r;cases r;exact .nil
 |cons n ns ih=>
  intro us r;rw[xu]at r;cases r with
  |cons r1 r2=>
   obtain⟨t,e⟩:=r1;subst e;exact .cons n t (ih r2)
section
variable{X:Cx}{e:Expr}{te:TE}{lo hi:Option Expr}{tl th:TO}{pos p2:Pos}
theorem gK:PO X none SE:=by
 intro ac s σ H Q I h;rw[evalPart_none];exact yc ⟨none,H,I,.none,h⟩
theorem fj(h:PE X e te):PO X (some e) (sy te):=by
 intro ac s σ H Q I hw;rw[evalPart_some];refine aN (h ac s σ H _ I hw) λu s1 ⟨x,H1,I1,r1,q1⟩=>?_;obtain⟨i,rfl,q⟩:=q1;obtain⟨t,rfl⟩:=r1;exact⟨some i,H1,I1,.int i t,q⟩
def mC(X:Cx)(r:V->Option Int->Option Int->Hp->VK->Prop):Prop:=
 ∀(ac:List (Addr×Obj)) (s:ye) (σ:St) (H:Hp) (x:V) (v vl vu:Value) (lo hi:Option Int) (sl:Addr) (Q:VK),Inv X ac σ H s->RelV x v->s.heap.IsSliceOf sl vl vu .none->oN vl lo->oN vu hi->r x lo hi H Q->
  ∃T id,typeLookup (.type T) "__getitem__"=pure (some (.builtin id))/\s.TypeIs v T/\wpAny (model X.prog X.w) X.A (getItem v (.ref sl)) (EP X ac σ Q) X.xe s
theorem mC.or{r r':V->Option Int->Option Int->Hp->VK->Prop}(h:mC X r)(h':mC X r'):mC X (λx lo hi H Q=>r x lo hi H Q\/r' x lo hi H Q):=by
 intro ac s σ H x v vl vu lo hi sl Q I rx hs pl pu q;rcases q with q|q
 ·exact h ac s σ H x v vl vu lo hi sl Q I rx hs pl pu q
 ·exact h' ac s σ H x v vl vu lo hi sl Q I rx hs pl pu q
def SF(r:V->Option Int->Option Int->Hp->VK->Prop)(te:TE)(tl th:TO):TE:=λσ H Q=>te σ H λx H1=>tl σ H1 λl H2=>th σ H2 λu H3=>r x l u H3 Q
theorem fO{r:V->Option Int->Option Int->Hp->VK->Prop}(hr:mC X r)(he:PE X e te)(hl:PO X lo tl)(hu:PO X hi th):PE X (.Subscript e (.Slice lo hi none p2) pos) (SF r te tl th):=by
 intro ac s σ H Q I h;refine SG (aN (he ac s σ H _ I h) λv s1 ⟨x,H1,I1,r1,q1⟩=>?_);refine wpAny_Slice (aN (hl ac s1 σ H1 _ I1 q1) λvl s2 ⟨l,H2,I2,pl,q2⟩=>aN (hu ac s2 σ H2 _ I2 q2) λvu s3 ⟨u,H3,I3,pu,q3⟩=>?_);rw[evalPart_none];refine yc ?_;have I4:Inv X ac σ H3 {s3 with heap:=s3.heap.push {cls:=.type "slice",data:=.fields #[vl,vu,.none]} }:=I3.kept (t':=s3.toks) λb ob q=>yb _ q;obtain⟨T,id,hT,ht,hg⟩:=hr ac {s3 with heap:=s3.heap.push {cls:=.type "slice",data:=.fields #[vl,vu,.none]} } σ H3 x v vl vu l u s3.heap.objs.size Q I4 r1 (yf2 ..) pl pu q3;show wpAny (model X.prog X.w) X.A (subscriptTail e (.Slice lo hi none p2) v (.ref s3.heap.objs.size)) (EP X ac σ Q) X.xe {s3 with heap:=s3.heap.push {cls:=.type "slice",data:=.fields #[vl,vu,.none]} };exact tail_any (ops:=[.ref s3.heap.objs.size,v]) ht hT hg (by with_unfolding_all rfl)
def aQ(xs:List V)(lo hi:Option Int):List V:=(xs.drop (HT.sIx xs.length 0 lo)).take (HT.sIx xs.length xs.length hi-HT.sIx xs.length 0 lo)
theorem SH(xs:List V)(lo hi:Option Int):(aQ xs lo hi).length<=xs.length:=by
 unfold aQ;rw[yp,ve];omega
def Dl(K:yd):V->Option Int->Option Int->Hp->VK->Prop:=λx lo hi H Q=>∃a xs,x=.ref a/\aZ K H a xs/\
 ¬ (HT.sIx xs.length 0 lo=0/\HT.sIx xs.length xs.length hi=xs.length)/\∀p,H p=none->Q (.ref p) (aH H p (.tup (aQ xs lo hi)))
theorem wx:mC X (Dl X.K):=by
 intro ac s σ H x v vl vu lo hi sl Q I rx hs pl pu h;obtain⟨a,xs,rfl,hx,hw,q⟩:=h;cases rx;obtain⟨ai,r,ht,hz⟩:=I.tuple hx;have aL:ai.toArray.size=xs.length:=by rw[ym];exact r.length.symm
 refine⟨"tuple",_,Sz.lookup,ht.typeIs,?_⟩;refine HT.getItem_tuple_cut ht hs pl pu (by rw[aL];exact hw) ?_ (by rw[aL];exact hz);rw[aL];refine⟨.ref s.heap.objs.size,_,I.laid (t':=s.toks) (o:=.tup (aQ xs lo hi)) (λb ob q=>yb _ q) (yg _) ?_,rfl,q _ (I.hok.fresh (yg _))⟩;exact⟨v9 (SH xs lo hi) hz,_,(r.drop (HT.sIx xs.length 0 lo)).take (HT.sIx xs.length xs.length hi-HT.sIx xs.length 0 lo),iZ.new _ _⟩
end
def j8(n:Nat)(i:Int):Option Nat:=if 0<=i then(if i<n then some i.toNat else none)else if -(n:Int)<=i then some (i+n).toNat else none
def dP{α:Type}(xs:List α)(i:Int):Option α:=(j8 xs.length i).bind λj=>xs[j]?
theorem SI{n:Nat}{i:Int}{j:Nat}(h:j8 n i=some j):seqIndex? i n=some j/\j<n/\-(n:Int)<=i/\i<n:=by
 unfold j8 at h;by_cases h0:0<=i
 ·rw[if_pos h0]at h;by_cases h1:i<n
  ·rw[if_pos h1]at h;have e:i.toNat=j:=vm h;exact⟨by rw[SJ h0 h1,e],by omega,by omega,h1⟩
  ·rw[if_neg h1]at h;cases h
 ·rw[if_neg h0]at h;by_cases h1:-(n:Int)<=i
  ·rw[if_pos h1]at h;have e:(i+n).toNat=j:=vm h;exact⟨by rw[SK (by omega) h1,e],by omega,h1,by omega⟩
  ·rw[if_neg h1]at h;cases h
theorem Lb{α:Type}{xs:List α}{i:Int}{v:α}(h:dP xs i=some v):∃j,seqIndex? i xs.length=some j/\xs[j]?=some v/\j<xs.length/\-(xs.length:Int)<=i/\i<xs.length:=by
 unfold dP at h;cases e:j8 xs.length i with
 |none=>rw[e]at h;cases h
 |some j=>
  rw[e]at h;obtain⟨h1,h2,h3,h4⟩:=SI e;exact⟨j,h1,h,h2,h3,h4⟩
theorem ff{α:Type}{xs:List α}{j:Nat}{v:α}(h:xs[j]?=some v):dP xs (j:Int)=some v:=by
 have hj:j<xs.length:=(xl.mp h).1;have e:j8 xs.length (j:Int)=some j:=by
  unfold j8;rw[if_pos (by omega),if_pos (by omega)];simp
 unfold dP;rw[e];exact h
def jm2(b:Expr):Prop:=∀o i,subscripted b false o i=operate [o,i] (getItem o i)
def oP(X:Cx)(r:R2):Prop:=
 ∀(value bV:Expr) (ac:List (Addr×Obj)) (s:ye) (σ:St) (H:Hp) (x y:V) (v u:Value) (Q:VK),Inv X ac σ H s->RelV x v->RelV y u->r x y H Q->
  subscripted bV false v u=operate [v,u] (getItem v u)->wpAny (model X.prog X.w) X.A (subscriptTail value bV v u) (EP X ac σ Q) X.xe s
def SM(X:Cx)(id:String)(r:V->List V->Hp->VK->Prop):Prop:=
 ∀(ac:List (Addr×Obj)) (s:ye) (σ:St) (H:Hp) (x:V) (xs:List V) (v:Value) (us:List Value) (Q:VK),Inv X ac σ H s->RelV x v->am xs us->r x xs H Q->
  wpAny (model X.prog X.w) X.A (call (.builtin id) (v::us)) (EP X ac σ Q) X.xe s
variable{H:Hp}
section
variable{X:Cx}{a b:Expr}{ta tb:TE}{pos:Pos}
theorem oP.or{r r':R2}(h:oP X r)(h':oP X r'):oP X (λx y H Q=>r x y H Q\/r' x y H Q):=by
 intro value bV ac s σ H x y v u Q I rx ry q hs;rcases q with q|q
 ·exact h value bV ac s σ H x y v u Q I rx ry q hs
 ·exact h' value bV ac s σ H x y v u Q I rx ry q hs
theorem aD{r:R2}(hr:oP X r)(ha:PE X a ta)(hb:PE X b tb)(hs:jm2 b):PE X (.Subscript a b pos) (C3 r ta tb):=by
 intro ac s σ H Q I h;exact SG (wa ha hb I h λv u s2 x y H2 I2 rx ry q=>hr a b ac s2 σ H2 x y v u Q I2 rx ry q (hs _ _))
def Dm(K:yd):R2:=λx y H Q=>∃p xs i v,x=.ref p/\y=.int i/\SqL K H p xs/\dP xs i=some v/\Q v H
def Dn(K:yd):R2:=λx y H Q=>∃p xs i v,x=.ref p/\y=.int i/\aZ K H p xs/\dP xs i=some v/\Q v H
def Dp:R2:=λx y H Q=>∃z i c,x=.str z/\y=.int i/\z.length<=sizeLine/\dP z.cps.toList i=some c/\Q (.str ⟨#[c]⟩) H
theorem jm3:oP X (Dm X.K):=by
 intro value bV ac s σ H x y v u Q I rx ry h hs;obtain⟨p,xs,i,z,rfl,rfl,hq,he,q⟩:=h;cases rx;obtain⟨t,rfl⟩:=ry;obtain⟨ai,r,pl,hz⟩:=I.list hq;obtain⟨j,h1,h2,h3,h4,h5⟩:=Lb he;obtain⟨w,ew,io⟩:=r.get h2;have hl:=r.length;have hn:=wg;have fin:EP X ac σ Q w s:=⟨z,H,I,io,q⟩
 by_cases h0:0<=i
 ·have hj:i.toNat=j:=by
   rw[SJ h0 h5]at h1;exact vm h1
  exact item_listR pl.isList h0 (by omega) (by rw[hj];simpa using ew) fin hs
 ·have hj:(i+(ai.toArray.size:Int)).toNat=j:=by
   rw[SK (by omega) h4]at h1;rw[ym,<- hl];exact vm h1
  exact y8m (x:=w) pl.isList.typeIs ybd.lookup
   (wpAny_getItem_list_neg (Q:=λr s'=>r=w/\EP X ac σ Q r s') pl.isList (by omega) (by rw[ym]<;>omega) (by omega) (by rw[hj];simpa using ew) ⟨rfl,fin⟩) hs
theorem wz:oP X (Dn X.K):=by
 intro value bV ac s σ H x y v u Q I rx ry h hs;obtain⟨p,xs,i,z,rfl,rfl,hq,he,q⟩:=h;cases rx;obtain⟨t,rfl⟩:=ry;obtain⟨ai,r,pl,hz⟩:=I.tuple hq;obtain⟨j,h1,h2,h3,h4,h5⟩:=Lb he;obtain⟨w,ew,io⟩:=r.get h2;have hl:=r.length;have hn:=wg;have fin:EP X ac σ Q w s:=⟨z,H,I,io,q⟩
 exact y8m (x:=w) pl.typeIs Lc.lookup
  (getItem_tuple (j:=j) (Q:=λr s'=>r=w/\EP X ac σ Q r s') pl (by omega) (by omega) (by rw[ym,<- hl];exact h1) (by simpa using ew) ⟨rfl,fin⟩) hs
theorem wA:oP X Dp:=by
 intro value bV ac s σ H x y v u Q I rx ry h hs;obtain⟨z,i,c,rfl,rfl,hz,he,q⟩:=h;obtain⟨t,rfl⟩:=rx;obtain⟨t',rfl⟩:=ry;obtain⟨j,h1,h2,h3,h4,h5⟩:=Lb he;have hl:z.cps.toList.length=z.length:=by simp[Str.length]
 rw[hl]at h1 h4 h5;have hn:=wg;exact tail_any (SN s z t) slot_str_getitem.lookup (getItem_str (c:=c) (by
  have e1:decide (i < -(2 ^ 63:Int))=false:=decide_eq_false (by omega);have e2:decide (i>=2 ^ 63)=false:=decide_eq_false (by omega);rw[e1,e2,Bool.or_false]) (by rw[h1];simpa using h2) ⟨.str ⟨#[c]⟩,H,I.tok _,⟨_,rfl⟩,q⟩) hs
def Bm(K:yd):R2:=λx y H Q=>Dm K x y H Q\/Dn K x y H Q\/Dp x y H Q
theorem wB:oP X (Bm X.K):=jm3.or (wz.or wA)
theorem jcj(ai:List Value)(n j:Nat)(u:Value):gf (·.setIfInBounds j u) {cls:=.type "list",data:=.seq ai.toArray n}={cls:=.type "list",data:=.seq (ai.set j u).toArray n}:=by
 simp[gf]
theorem Inv.lst{ac:List (Addr×Obj)}{σ:St}{H:Hp}{s:ye}{p:Addr}{xs:List V}(I:Inv X ac σ H s)(h:H p=some (.lst xs)):
  ∃(ai:List Value) (n:Nat),am xs ai/\s.heap.get? p=some {cls:=.type "list",data:=.seq ai.toArray n}/\xs.length<=sizeLine:=by
 obtain⟨z,ai,n,r,e⟩:=I.hok p _ h;exact⟨ai,n,r,e,z⟩
theorem Inv.lstUpd{ac:List (Addr×Obj)}{σ:St}{s:ye}{p:Addr}{xs ys:List V}{ai its':List Value}{n n':Nat}{f:Obj->Obj}(I:Inv X ac σ H s)(h:H p=some (.lst xs))
  (ho:s.heap.get? p=some {cls:=.type "list",data:=.seq ai.toArray n}) (hf:f {cls:=.type "list",data:=.seq ai.toArray n}={cls:=.type "list",data:=.seq its'.toArray n'}) (r:am ys its') (hz:ys.length<=sizeLine) (t:Nat):
  Inv X ac σ (aH H p (.lst ys)) {s with heap:=s.heap.update p f,toks:=t}:=by
 have e:(s.heap.update p f).get? p=some {cls:=.type "list",data:=.seq its'.toArray n'}:=by
  rw[vy f ho (by rw[hf]<;>rfl),hf]
 refine I.write (x:=p) (e:=p) (by rw[h];trivial) (.inl rfl) (λb u hb q=>(uo _ _ (iN hb)).trans q) ⟨_,e⟩ ?_;exact⟨hz,its',n',r,e⟩
def sA:V->V->V->Hp->(Hp->Prop)->Prop:=λo i v H Q=>∃p xs k j,o=.ref p/\i=.int k/\H p=some (.lst xs)/\j8 xs.length k=some j/\Q (aH H p (.lst (xs.set j v)))
theorem jj0:CV X sA:=by
 intro ac s σ H o i v ov iv u Q I ro ri rv h;obtain⟨p,xs,k,j,rfl,rfl,hp,hj,q⟩:=h;cases ro;obtain⟨t,rfl⟩:=ri;obtain⟨ai,n,r,ho,hz⟩:=I.lst hp;obtain⟨h1,h2,h3,h4⟩:=SI hj;have hl:=r.length;have hn:=wg;have I':Inv X ac σ (aH H p (.lst (xs.set j v))) {s with heap:=s.heap.update p (gf (·.setIfInBounds j u))}:=
  I.lstUpd hp ho (jcj ai n j u) (r.set rv j) (by rw[Dq];exact hz) s.toks
 by_cases h0:0<=k
 ·have hk:k.toNat=j:=by
   rw[SJ h0 h4]at h1;exact vm h1
  exact PySem.W.ki_setAt ho h0 (by omega) (by rw[ym,<- hl];exact h4) (by rw[hk];exact⟨_,I',q⟩)
 ·have hk:(k+(ai.toArray.size:Int)).toNat=j:=by
   rw[SK (by omega) h3]at h1;rw[ym,<- hl];exact vm h1
  exact PySem.W.ki_setBack ho (by omega) (by rw[ym,<- hl];exact h3) (by omega) (by rw[hk];exact⟨_,I',q⟩)
theorem j8k(lo hi:Option Int)(n:Nat):(sliceBounds lo hi none n).1=((HT.sIx n 0 lo:Nat):Int)/\(sliceBounds lo hi none n).2.1=((HT.sIx n n hi:Nat):Int)/\(sliceBounds lo hi none n).2.2=1:=by
 refine⟨?_,?_,rfl⟩
 ·cases lo with
  |none=>simp[sliceBounds,HT.sIx]
  |some i=>
   simp only[sliceBounds,HT.sIx,yc1,show(1:Int) > 0 by decide,if_true];by_cases h:i<0
   ·simp only[h,if_true]<;>omega
   ·simp only[h,if_false]<;>omega
 ·cases hi with
  |none=>simp[sliceBounds,HT.sIx]
  |some i=>
   simp only[sliceBounds,HT.sIx,yc1,show(1:Int) > 0 by decide,if_true];by_cases h:i<0
   ·simp only[h,if_true]<;>omega
   ·simp only[h,if_false]<;>omega
theorem j6z(ai:List Value)(lo hi:Option Int):slicePick ai.toArray lo hi none=((ai.drop (HT.sIx ai.length 0 lo)).take (HT.sIx ai.length ai.length hi-HT.sIx ai.length 0 lo)).toArray:=by
 obtain⟨h1,h2,h3⟩:=j8k lo hi ai.toArray.size;unfold slicePick;rw[h1,h2,h3];simp only[sliceRange_one,pick_run,ym]<;>rfl
def Dr(K:yd):V->Option Int->Option Int->Hp->VK->Prop:=λx lo hi H Q=>∃a xs,x=.ref a/\SqL K H a xs/\∀p,H p=none->Q (.ref p) (aH H p (.lst (aQ xs lo hi)))
theorem jpp:mC X (Dr X.K):=by
 intro ac s σ H x v vl vu lo hi sl Q I rx hs pl pu h;obtain⟨a,xs,rfl,hx,q⟩:=h;cases rx;obtain⟨ai,r,ht,hz⟩:=I.list hx;have aL:=r.length;refine⟨"list",_,ybd.lookup,ht.isList.typeIs,?_⟩;refine wpAny_getItem_list_slice ht.isList hs pl pu .none (by simp) ?_ (by rw[ym]<;>omega);rw[j6z,<- aL];refine⟨.ref s.heap.objs.size,_,I.laid (t':=s.toks) (o:=.lst (aQ xs lo hi)) (λb ob q=>yb _ q) (yg _) ?_,rfl,q _ (I.hok.fresh (yg _))⟩;exact⟨v9 (SH xs lo hi) hz,_,0,(r.drop (HT.sIx xs.length 0 lo)).take (HT.sIx xs.length xs.length hi-HT.sIx xs.length 0 lo),yi _ rfl⟩
def jJ:V->Bool
 | .non=>true
 | .bl _=>true
 | .int _=>true
 | .str _=>true
 |_=>false
def kZ:V->V->Bool
 | .non,.non=>true
 | .bl a,.bl b=>a==b
 | .bl a,.int b=>(if a then 1 else 0)==b
 | .int a,.bl b=>a==(if b then 1 else 0)
 | .int a,.int b=>a==b
 | .str a,.str b=>a==b
 |_,_=>false
theorem wC{A:v7}{s:ye}{y x:V}{u v:Value}(ry:RelV y u)(rx:RelV x v)(fy:jJ y=true)(fx:jJ x=true):HV A s u v (kZ y x):=by
 cases y with
 |non=>
  cases ry;cases x with
  |non=>cases rx;exact yfg _
  |bl b=>cases rx;exact yeg b
  |int b=>obtain⟨t,rfl⟩:=rx;exact yet b t
  |str b=>obtain⟨t,rfl⟩:=rx;exact yeu b t
  |_=>exact absurd (show false=true from fx) xj
 |bl a=>
  cases ry;cases x with
  |non=>cases rx;exact yef a
  |bl b=>cases rx;exact yee a b
  |int b=>obtain⟨t,rfl⟩:=rx;exact yep a b t
  |str b=>obtain⟨t,rfl⟩:=rx;exact yeq a b t
  |_=>exact absurd (show false=true from fx) xj
 |int a=>
  obtain⟨t',rfl⟩:=ry;cases x with
  |non=>cases rx;exact yes a t'
  |bl b=>cases rx;exact yer a t' b
  |int b=>obtain⟨t,rfl⟩:=rx;exact yam a t' b t
  |str b=>obtain⟨t,rfl⟩:=rx;exact ZK a t' b t
  |_=>exact absurd (show false=true from fx) xj
 |str a=>
  obtain⟨t',rfl⟩:=ry;cases x with
  |non=>cases rx;exact yew a t'
  |bl b=>cases rx;exact yev a t' b
  |int b=>obtain⟨t,rfl⟩:=rx;exact ZL a t' b t
  |str b=>obtain⟨t,rfl⟩:=rx;exact Ld a t' b t
  |_=>exact absurd (show false=true from fx) xj
 |_=>exact absurd (show false=true from fy) xj
def i9(x:V)(u:Value):Bool:=match u with
 | .none=>kZ .non x
 | .bool b=>kZ (.bl b) x
 | .int i _=>kZ (.int i) x
 | .str z _=>kZ (.str z) x
 |_=>false
theorem SO{x y:V}{u:Value}(r:RelV y u)(f:jJ y=true):i9 x u=kZ y x:=by
 cases y with
 |non=>cases r;rfl
 |bl b=>cases r;rfl
 |int i=>obtain⟨t,rfl⟩:=r;rfl
 |str z=>obtain⟨t,rfl⟩:=r;rfl
 |_=>exact absurd (show false=true from f) xj
theorem Ds{x:V}:∀{xs:List V}{us:List Value},am xs us->xs.all jJ=true->us.any (i9 x)=xs.any λy=>kZ y x
 |_,_,.nil,_=>rfl
 |y::xs,u::us,.cons r t,f=>by
  rw[ydt,oO]at f;rw[Dt,Dt,SO r f.1,Ds t f.2]
theorem Du{A:v7}{s:ye}{x:V}{v:Value}(rx:RelV x v)(fx:jJ x=true):∀{xs:List V}{us:List Value},am xs us->xs.all jJ=true->∀u∈us,HV A s u v (i9 x u)
 |_,_,.nil,_=>λu hu=>by cases hu
 |y::xs,u::us,.cons r t,f=>λu' hu=>by
  rw[ydt,oO]at f;rcases xc.mp hu with rfl|hu
  ·rw[SO r f.1];exact wC r rx f.1 fx
  ·exact Du rx fx t f.2 u' hu
def sB(x:V)(xs:List V):Bool:=xs.any λy=>kZ y x
def Le(K:yd)(Dv:Bool):R2:=λx y H Q=>∃p xs,y=.ref p/\(SqL K H p xs\/aZ K H p xs)/\jJ x=true/\xs.all jJ=true/\Q (.bl (if Dv then !sB x xs else sB x xs)) H
theorem jfl:bR X (compareOp .In) (Le X.K false):=by
 intro ac s σ H x y v u Q I rx ry h;obtain⟨p,xs,rfl,hq,fx,fs,q⟩:=h;cases ry;rcases hq with hq|hq
 ·obtain⟨ai,r,pl,hz⟩:=I.list hq;refine SeqAt.in_listAt (i9 x) pl.isList (λw hw=>Du rx fx r fs w (by simpa using hw)) ⟨.bl _,H,I,rfl,?_⟩;rw[show ai.toArray.any (i9 x)=ai.any (i9 x) by simp,Ds r fs];exact q
 ·obtain⟨ai,r,pl,hz⟩:=I.tuple hq;refine SeqAt.in_tupleAt (i9 x) pl (λw hw=>Du rx fx r fs w (by simpa using hw)) ⟨.bl _,H,I,rfl,?_⟩;rw[show ai.toArray.any (i9 x)=ai.any (i9 x) by simp,Ds r fs];exact q
theorem j8l:bR X (compareOp .NotIn) (Le X.K true):=by
 intro ac s σ H x y v u Q I rx ry h;obtain⟨p,xs,rfl,hq,fx,fs,q⟩:=h;cases ry;rcases hq with hq|hq
 ·obtain⟨ai,r,pl,hz⟩:=I.list hq;refine SeqAt.notIn_listAt (i9 x) pl.isList (λw hw=>Du rx fx r fs w (by simpa using hw)) ⟨.bl _,H,I,rfl,?_⟩;rw[show ai.toArray.any (i9 x)=ai.any (i9 x) by simp,Ds r fs];exact q
 ·obtain⟨ai,r,pl,hz⟩:=I.tuple hq;refine SeqAt.notIn_tupleAt (i9 x) pl (λw hw=>Du rx fx r fs w (by simpa using hw)) ⟨.bl _,H,I,rfl,?_⟩;rw[show ai.toArray.any (i9 x)=ai.any (i9 x) by simp,Ds r fs];exact q
theorem j8m:aG X (.builtin "len") (λxs H Q=>∃z,xs=[.str z]/\z.length<=sizeLine/\Q (.int z.length) H):=by
 intro ac s σ H xs us Q I r h;obtain⟨z,rfl,hz,q⟩:=h;obtain⟨u,rfl,t,rfl⟩:=fM r;have hn:=wg;exact len_str (by omega) ⟨.int z.length,H,I.tok _,⟨_,rfl⟩,q⟩
theorem aG.or{f:Value}{r r':List V->Hp->VK->Prop}(h:aG X f r)(h':aG X f r'):aG X f (λxs H Q=>r xs H Q\/r' xs H Q):=by
 intro ac s σ H xs us Q I rs q;rcases q with q|q
 ·exact h ac s σ H xs us Q I rs q
 ·exact h' ac s σ H xs us Q I rs q
theorem j8n:aG X (.type "list") (λxs H Q=>∃p ys,xs=[.ref p]/\(SqL X.K H p ys\/aZ X.K H p ys)/\∀l,H l=none->Q (.ref l) (aH H l (.lst ys))):=by
 intro ac s σ H xs us Q I r h;obtain⟨p,ys,rfl,hq,q⟩:=h;obtain⟨u,rfl,rx⟩:=fM r;cases rx;have fin:∀(ai:List Value),am ys ai->ys.length<=sizeLine->∀(h':Heap) (c':Nat),(∀b o',s.heap.get? b=some o'->h'.get? b=some o')->
   h'.get? s.heap.objs.size=some {cls:=.type "list",dict:=none,data:=.seq ai.toArray c',slots:=#[]}->EP X ac σ Q (.ref s.heap.objs.size) {s with heap:=h'}:=λai r' hz h' c' kp e=>
  ⟨.ref s.heap.objs.size,_,I.laid (t':=s.toks) kp (yg _) (show ObjOk X.prog X.w _ h' _ (.lst ys)from⟨hz,ai,c',r',e⟩),rfl,q _ (I.hok.fresh (yg _))⟩
 rcases hq with hq|hq
 ·obtain⟨ai,r',pl,hz⟩:=I.list hq;have aL:=r'.length;obtain⟨o,ho,hc,n,hd⟩:=pl.isList;exact call_list_seq p (.inl rfl) ho hc hd (λh' c' kp e=>fin ai r' hz h' c' kp e) (by simp only[ym]<;>omega)
 ·obtain⟨ai,r',pl,hz⟩:=I.tuple hq;have aL:=r'.length;obtain⟨o,ho,hc,n,hd⟩:=pl;exact call_list_seq p (.inr rfl) ho hc hd (λh' c' kp e=>fin ai r' hz h' c' kp e) (by simp only[ym]<;>omega)
theorem j71:aG X (.type "tuple") (λxs H Q=>∃p ys,xs=[.ref p]/\((SqL X.K H p ys/\∀l,H l=none->Q (.ref l) (aH H l (.tup ys)))\/(aZ X.K H p ys/\Q (.ref p) H))):=by
 intro ac s σ H xs us Q I r h;obtain⟨p,ys,rfl,h⟩:=h;obtain⟨u,rfl,rx⟩:=fM r;cases rx;rcases h with⟨hq,q⟩|⟨hq,q⟩
 ·obtain⟨ai,r',pl,hz⟩:=I.list hq;have aL:=r'.length;refine call_tuple_list pl.isList (λh' kp=>?_) (by simp only[ym]<;>omega);have I1:Inv X ac σ H {s with heap:=h'}:=I.kept (t':=s.toks) kp;have I2:Inv X ac σ (aH H h'.objs.size (.tup ys)) {s with heap:=h'.push {cls:=.type "tuple",data:=.seq ai.toArray} }:=
   I1.laid (t':=s.toks) (λb o e=>yb _ e) (yg _) (show ObjOk X.prog X.w _ _ _ (.tup ys)from⟨hz,ai,r',iZ.new _ _⟩)
  exact⟨.ref h'.objs.size,_,I2,rfl,q _ (I1.hok.fresh (yg _))⟩
 ·obtain⟨ai,r',pl,hz⟩:=I.tuple hq;exact call_tuple_same pl ⟨.ref p,H,I,rfl,q⟩
def Bn(K:yd)(T:String)(x:V)(H:Hp):Prop:=match x with
 | .str _=>T="str"
 | .int _=>T="int"
 | .ref p=>(T="list"/\∃xs,SqL K H p xs)\/(T="tuple"/\∃o,K.lookup p=some o/\o.cls=.type "tuple"/\o.dict=none)\/
   (T="dict"/\((∃af,H p=some (.dK af))\/∃af,H p=some (.dT af)))\/(T="set"/\∃S n,H p=some (.set S n))
 |_=>False
theorem SQ{ac:List (Addr×Obj)}{σ:St}{H:Hp}{s:ye}{T:String}{x:V}{v:Value}(I:Inv X ac σ H s)(r:RelV x v)(ty:Bn X.K T x H):
  s.TypeIs v T/\∀a,v=.ref a->∃ob,s.heap.get? a=some ob/\ob.dict=none:=by
 cases x with
 |str z=>
  obtain⟨t,rfl⟩:=r;cases(show T="str" from ty);exact⟨SN s z t,λ_ e=>nomatch e⟩
 |int i=>
  obtain⟨t,rfl⟩:=r;cases(show T="int" from ty);exact⟨HW s i t,λ_ e=>nomatch e⟩
 |ref p=>
  cases r;rcases ty with⟨rfl,xs,hq⟩|⟨rfl,o,hk,hc,hd⟩|⟨rfl,hk⟩|⟨rfl,S,n,hk⟩
  ·obtain⟨ai,_,pl,_⟩:=I.list hq;refine⟨pl.isList.typeIs,λa e=>?_⟩;cases e;obtain⟨o,n,e,c,hd,_⟩:=pl;exact⟨o,e,hd⟩
  ·refine⟨⟨o,I.kIn p o hk,hc⟩,λa e=>?_⟩;cases e;exact⟨o,I.kIn _ o hk,hd⟩
  ·have z:∃o,s.heap.get? p=some o/\o.ExactDict:=by
    rcases hk with⟨af,hk⟩|⟨af,hk⟩
    ·obtain⟨_,_,_,_,o,_,_,e,ex,_⟩:=I.hok p _ hk;exact⟨o,e,ex⟩
    ·obtain⟨_,_,_,_,o,_,_,e,ex,_⟩:=I.hok p _ hk;exact⟨o,e,ex⟩
   obtain⟨o,e,ex⟩:=z;refine⟨⟨o,e,ex.1⟩,λa e2=>?_⟩;cases e2;exact⟨o,e,ex.2.1⟩
  ·obtain⟨o,_,_,_,e,ex,_⟩:=I.hok p _ hk;refine⟨⟨o,e,ex.1⟩,λa e2=>?_⟩;cases e2;exact⟨o,e,ex.2.1⟩
 |_=>exact iQ ty
def Dw(K:yd)(T:String)(r:V->List V->Hp->VK->Prop)(to:TE):TE:=λσ H Q=>to σ H λx H1=>Bn K T x H1/\r x [] H1 Q
def SR(K:yd)(T:String)(r:V->List V->Hp->VK->Prop)(to:TE)(t:TA):TE:=λσ H Q=>to σ H λx H1=>Bn K T x H1/\t σ H1 λxs H2=>r x xs H2 Q
variable{o e:Expr}{es:List Expr}{to:TE}{t:TA}{name:Str}{cS bx:Pos}{T id:String}{r:V->List V->Hp->VK->Prop}
theorem wE(pa:SS T)(slot:Slot T name id)(Dx:typeOf (.builtin id)=pure (.type "method_descriptor"))(hm:SM X id r)(ho:PE X o to)
  (iq:attributeBase o name X.env (eval o X.env)=eval o X.env:=by rfl) (iu:(cS.endLine==bx.line)=true:=by rfl):PE X (.Call (.Attribute o name cS) [] [] bx) (Dw X.K T r to):=by
 intro ac s σ H Q I h;refine wpAny_Call_method0_late iq iu (aN (ho ac s σ H _ I h) λv s1 ⟨x,H1,I1,r1,ty,q1⟩=>?_);obtain⟨h1,h2⟩:=SQ I1 r1 ty;exact⟨T,id,pa,slot,Dx,h1,h2,SU rfl (PySem.evalArgs_none (hm ac s1 σ H1 x [] v [] Q I1 r1 .nil q1))⟩
theorem j9(pa:SS T)(slot:Slot T name id)(Dx:typeOf (.builtin id)=pure (.type "method_descriptor"))(hm:SM X id r)(ho:PE X o to)(ha:PA X (e::es) t)
  (iq:attributeBase o name X.env (eval o X.env)=eval o X.env:=by rfl)
  (wF:((backTo bx (starEach (e::es) X.env)).all (λx=>!x.1)&&(backToKw bx (keywordEach [] X.env)).all (λx=>x.1.isSome)
   && decide ((e::es).length+([]:List sk).length+(if ([]:List sk).isEmpty then 0 else 1)<30))=true:=by rfl)
  (iu:(cS.endLine==bx.line)=true:=by rfl) (hs:starEach (e::es) X.env=(false,eval e X.env)::starEach es X.env:=by rfl) (ja:(backTo bx (starEach es X.env)).any (·.1)=false:=by rfl):
  PE X (.Call (.Attribute o name cS) (e::es) [] bx) (SR X.K T r to t):=by
 intro ac s σ H Q I h;refine y8n iq wF iu rfl (aN (ho ac s σ H _ I h) λv s1 ⟨x,H1,I1,r1,ty,q1⟩=>?_);obtain⟨h1,h2⟩:=SQ I1 r1 ty;refine⟨T,id,pa,slot,Dx,h1,h2,?_⟩;have hA:=ha bx ac s1 σ H1 _ I1 q1;rw[hs]at hA ⊢;refine SU (by show(false||(backTo bx (starEach es X.env)).any (·.1))=false;rw[ja]<;>rfl) (y9k ?_);exact aN hA λus s2 ⟨vs,H2,I2,r2,q2⟩=>hm ac s2 σ H2 x vs v us Q I2 r1 r2 q2
end
def wG(X:Cx)(id:String)(r:V->List V->Hp->VK->Prop):Prop:=
 ∀(ac:List (Addr×Obj)) (s:ye) (σ:St) (H:Hp) (x:V) (xs:List V) (v:Value) (us:List Value) (Q:VK),Inv X ac σ H s->RelV x v->am xs us->r x xs H Q->
  wpAny (model X.prog X.w) X.A (call (.builtin id) (v::us)) (EP X ac σ Q) X.xe s
theorem am.one:∀{x:V}{us:List Value},am [x] us->∃u,us=[u]/\RelV x u
 |_,_,.cons r .nil=>⟨_,rfl,r⟩
theorem am.zero:∀{us:List Value},am [] us->us=[]
 |_,.nil=>rfl
theorem am.reverse{xs:List V}{us:List Value}(h:am xs us):am xs.reverse us.reverse:=by
 induction h with
 |nil=>exact .nil
 |cons r t ih=>rw[HX,HX];exact am.append ih (.cons r .nil)
theorem am.rep{xs:List V}{us:List Value}(h:am xs us):∀k:Nat,am (xm k xs).flatten (xm k us).flatten
 |0=>.nil
 |k+1=>by
  rw[uc,uc,wH,wH];exact am.append h (am.rep h k)
theorem SV(ai:List Value):∀(k:Nat) (acc:List Value),
  Lf (λx1 x2=>x1++x2) acc.toArray (xm k ai.toArray)=(acc++(xm k ai).flatten).toArray
 |0,acc=>by simp
 |k+1,acc=>by
  have e:acc.toArray++ai.toArray=(acc++ai).toArray:=by simp
  have e2:(acc++ai)++(xm k ai).flatten=acc++(xm (k+1) ai).flatten:=by
   rw[uc,wH,wI]
  rw[<- e2,<- SV ai k (acc++ai),<- e,uc,HY]
section
variable{X:Cx}{ac:List (Addr×Obj)}{σ:St}{H:Hp}{s:ye}{l b:Addr}{xs ys zs:List V}
theorem Inv.lset{ai its':List Value}{n:Nat}{f:Array Value->Array Value}{t':Nat}(I:Inv X ac σ H s)(hH:H l=some (.lst xs))
  (e:s.heap.get? l=some {cls:=.type "list",data:=.seq ai.toArray n}) (hf:f ai.toArray=its'.toArray) (hv:am ys its') (hz:ys.length<=sizeLine):
  Inv X ac σ (aH H l (.lst ys)) {s with heap:=s.heap.update l (gf f),toks:=t'}:=by
 have q:=PySem.IsL.update e f;rw[hf]at q;refine I.write (x:=l) (e:=l) (by rw[hH];exact trivial) (.inl rfl) (λb' u hb hu=>(uo s.heap (gf f) (iN hb)).trans hu) ⟨_,q⟩ ?_;exact⟨hz,its',_,hv,q⟩
theorem Inv.lnew{ai:List Value}{t':Nat}(I:Inv X ac σ H s)(hv:am ys ai)(hz:ys.length<=sizeLine):
  Inv X ac σ (aH H s.heap.objs.size (.lst ys)) {s with heap:=s.heap.push {cls:=.type "list",data:=.seq ai.toArray},toks:=t'}:=
 I.laid (λ_ _ q=>yb _ q) (yg _) ⟨hz,ai,0,hv,yi _ rfl⟩
theorem Inv.fresh(I:Inv X ac σ H s):H s.heap.objs.size=none:=I.hok.fresh (yg _)
theorem Inv.lstM(I:Inv X ac σ H s)(hH:H l=some (.lst xs)):xs.length<=sizeLine/\∃(ai:List Value) (n:Nat),am xs ai/\xs.length=ai.length/\s.heap.get? l=some {cls:=.type "list",data:=.seq ai.toArray n}:=by
 obtain⟨z,ai,n,r,e⟩:=I.hok l _ hH;exact⟨z,ai,n,r,r.length,e⟩
theorem SW{n:Nat}(h:n<=sizeLine):Lg n=false:=by
 unfold Lg;exact decide_eq_false (by omega)
end
section
variable{X:Cx}
def SX:V->List V->Hp->VK->Prop:=λx vs H Q=>∃l xs y,x=.ref l/\vs=[y]/\H l=some (.lst xs)/\xs.length<sizeLine/\Q .non (aH H l (.lst (xs++[y])))
theorem oQ:wG X "list.append" SX:=by
 intro ac s σ H x vs v us Q I rx rv h;obtain⟨l,xs,y,rfl,rfl,hH,hz,q⟩:=h;cases rx;obtain⟨u,rfl,ru⟩:=rv.one;obtain⟨z,ai,n,r,hl,e⟩:=I.lstM hH;refine wJ F.slot_list_append ⟨_,e,rfl⟩ F.entry_list_append (F.args_list_append_2 _ _) (PySem.list_append l ai.toArray n u (by rw[ym];omega)) ⟨e,?_⟩;refine⟨.non,_,I.lset (its':=ai++[u]) hH e (by simp) (r.append (.cons ru .nil)) ?_,rfl,q⟩;rw[xi,uj];omega
def SY:V->List V->Hp->VK->Prop:=λx vs H Q=>∃l b xs zs,x=.ref l/\vs=[.ref b]/\H l=some (.lst xs)/\H b=some (.lst zs)/\xs.length+zs.length<=sizeLine/\Q .non (aH H l (.lst (xs++zs)))
theorem jfm:wG X "list.extend" SY:=by
 intro ac s σ H x vs v us Q I rx rv h;obtain⟨l,b,xs,zs,rfl,rfl,hH,hB,hz,q⟩:=h;cases rx;obtain⟨u,rfl,ru⟩:=rv.one;cases ru;obtain⟨z,ai,n,r,hl,e⟩:=I.lstM hH;obtain⟨z2,iw,n2,r2,k6,e2⟩:=I.lstM hB;have hsz:ai.toArray.size+iw.toArray.size<=sizeLine:=by rw[ym,ym];omega
 have mD:¬ (!ai.toArray.isEmpty&&Lg (ai.toArray.size+iw.toArray.size))=true:=by
  rw[SW hsz,Bool.and_false];exact xj
 refine wJ F.slot_list_extend ⟨_,e,rfl⟩ F.entry_list_extend (F.args_list_extend_2 _ _)
  (AutoSeq1.list_extend_list_list_0 l ai.toArray n b iw.toArray n2 mD (by rw[ym];omega) (by omega)) ⟨e,e2,?_⟩
 refine⟨.non,_,I.lset (its':=ai++iw) hH e (by simp) (r.append r2) ?_,rfl,q⟩;rw[xi];omega
def S5:V->List V->Hp->VK->Prop:=λx vs H Q=>∃l xs,x=.ref l/\vs=[]/\H l=some (.lst xs)/\Q .non (aH H l (.lst []))
theorem jj1:wG X "list.clear" S5:=by
 intro ac s σ H x vs v us Q I rx rv h;obtain⟨l,xs,rfl,rfl,hH,q⟩:=h;cases rx;have hus:=rv.zero;subst hus;obtain⟨z,ai,n,r,hl,e⟩:=I.lstM hH;refine wJ F.slot_list_clear ⟨_,e,rfl⟩ F.entry_list_clear (F.args_list_clear_1 _) (AutoSeq1.list_clear_list_0 l ai.toArray n (by rw[ym];omega)) ⟨e,?_⟩;exact⟨.non,_,I.lset (its':=[]) (ys:=[]) hH e rfl .nil (gn _),rfl,q⟩
def Dy:R2:=λx y H Q=>∃l b xs zs,x=.ref l/\y=.ref b/\H l=some (.lst xs)/\H b=some (.lst zs)/\xs.length+zs.length<=sizeLine/\∀p,H p=none->Q (.ref p) (aH H p (.lst (xs++zs)))
theorem wL:bR X (binaryOp .Add) Dy:=by
 intro ac s σ H x y v u Q I rx ry h;obtain⟨l,b,xs,zs,rfl,rfl,hH,hB,hz,q⟩:=h;cases rx;cases ry;obtain⟨z,ai,n,r,hl,e⟩:=I.lstM hH;obtain⟨z2,iw,n2,r2,k6,e2⟩:=I.lstM hB;refine PySem.P.add_list e e2 ?_ (by rw[ym,ym];omega);have ea:ai.toArray++iw.toArray=(ai++iw).toArray:=by simp
 rw[ea];exact⟨.ref _,_,I.lnew (t':=s.toks) (r.append r2) (by rw[xi];omega),rfl,q _ I.fresh⟩
def Dz:R2:=λx y H Q=>∃l k xs,x=.ref l/\y=.int k/\H l=some (.lst xs)/\-(2 ^ 63)<=k/\k<2 ^ 63/\xs.length*k.toNat<=sizeLine/\
 ∀p,H p=none->Q (.ref p) (aH H p (.lst (xm k.toNat xs).flatten))
theorem S6{α:Type}(xs:List α)(k:Nat):(xm k xs).flatten.length=k*xs.length:=by
 induction k with
 |zero=>simp
 |succ k ih=>rw[uc,wH,xi,ih,HZ,Lh]
theorem S7:bR X (binaryOp .Mult) Dz:=by
 intro ac s σ H x y v u Q I rx ry h;obtain⟨l,k,xs,rfl,rfl,hH,h1,h2,hz,q⟩:=h;cases rx;obtain⟨t,rfl⟩:=ry;obtain⟨z,ai,n,r,hl,e⟩:=I.lstM hH;have aL:ai.toArray.size*k.toNat<=sizeLine:=by rw[ym,<- hl];exact hz
 have Li:¬ ai.toArray.size*k.toNat > (2 ^ 63-1)/8:=by
  have:(sizeLine:Nat)<=(2 ^ 63-1)/8:=by decide
  omega
 have dY:¬ (!Builtin.List.listFitsIndex k)=true:=by
  rw[fitsIndex_both h1 h2];exact xj
 have mD:¬ Lg (ai.toArray.size*k.toNat)=true:=by
  rw[SW aL];exact xj
 have Lj:Lf (λx1 x2=>x1++x2) #[] (xm (if ai.toArray.isEmpty=true then 0 else k.toNat) ai.toArray)=(xm k.toNat ai).flatten.toArray:=by
  have f0:∀m:Nat,Lf (λx1 x2=>x1++x2) #[] (xm m ai.toArray)=(xm m ai).flatten.toArray:=λm=>by
   have:=SV ai m [];rw[DA]at this;exact this
  rw[f0];cases ai with
  |nil=>simp
  |cons a r'=>rw[if_neg (by simp)]
 refine wpAny_binaryOp_repeat_ref (T:="list") (U:="int") (by decide) ⟨_,e,rfl⟩ (λs'=>HW s' k t) noFill_list_mul F.fills_int_mul yc9 repeat_list F.slot_int_index.lookup
  (wJ yc9 (HW s k t) F.entry_int_rmul (F.args_int_rmul_2 _ _) (int___rmul___int_list k t l ai.toArray n)
   ⟨e,rfl,⟨_,e,rfl⟩,wJ F.slot_list_mul ⟨_,e,rfl⟩ F.entry_list_mul (F.args_list_mul_2 _ _) (AutoListH.list___mul___list_int_3 l ai.toArray n k t dY Li mD) ⟨e,?_⟩⟩)
 rw[Lj];exact⟨.ref _,_,I.lnew (t':=s.toks) (r.rep k.toNat) (by rw[S6,ye7];exact hz),rfl,q _ I.fresh⟩
end
variable{y:V}
section
variable{κ:Type}[DecidableEq κ]
def bY(af:List (κ×V))(k:κ):Option V:=(af.find? λkv=>decide (kv.1=k)).map (·.2)
def bP(af:List (κ×V))(k:κ)(v:V):List (κ×V):=
 if (af.any λkv=>decide (kv.1=k))=true then af.map (λkv=>if kv.1=k then(kv.1,v)else kv)else af++[(k,v)]
theorem Bo{p:κ×V}{r:List (κ×V)}{k:κ}(e:p.1=k):bY (p::r) k=some p.2:=by simp[bY,wM,e]
theorem Bp{p:κ×V}{r:List (κ×V)}{k:κ}(e:¬ p.1=k):bY (p::r) k=bY r k:=by simp[bY,wM,e]
theorem Lk(k:κ):∀af:List (κ×V),(af.any λkv=>decide (kv.1=k))=(bY af k).isSome
 |[]=>rfl
 |p::r=>by
  rw[Dt];by_cases e:p.1=k
  ·simp only[Bo e,decide_eq_true e,ye1,Option.isSome_some]
  ·rw[Bp e,decide_eq_false e,ydq];exact Lk k r
theorem Ll(af:List (κ×V))(k:κ)(v:V):(bP af k v).length<=af.length+1:=by
 unfold bP;split
 ·rw[y3];omega
 ·rw[xi,yn,ub];omega
theorem cQ.isSome_eq{o:Option V}{u:Option Value}(r:cQ o u):o.isSome=u.isSome:=by
 cases o with
 |none=>cases u with
  |none=>rfl
  |some _=>exact(show False from r).elim
 |some _=>cases u with
  |none=>exact(show False from r).elim
  |some _=>rfl
theorem KV.val{af:List (κ×V)}{vs:List (κ×Value)}(r:KV af vs)(k:κ):cQ (bY af k) (valueAt vs k):=by
 unfold KV at r
 induction r with
 |nil=>exact j6
 | @cons p q ps qs h t ih=>
  obtain⟨h1,h2⟩:=h;by_cases e:p.1=k
  ·have e':q.1=k:=h1.symm.trans e;have b:valueAt (q::qs) k=some q.2:=by simp[valueAt,wM,e']
   rw[Bo e,b];exact h2
  ·have e':¬ q.1=k:=λz=>e (h1.trans z);have b:valueAt (q::qs) k=valueAt qs k:=by simp[valueAt,wM,e']
   rw[Bp e,b];exact ih
theorem KV.any{af:List (κ×V)}{vs:List (κ×Value)}(r:KV af vs)(k:κ):(af.any λkv=>decide (kv.1=k))=vs.any λkv=>decide (kv.1=k):=by
 unfold KV at r
 induction r with
 |nil=>rfl
 |cons h t ih=>rw[Dt,Dt,ih,h.1]
theorem KV.repl{af:List (κ×V)}{vs:List (κ×Value)}(r:KV af vs)(k:κ){y:V}{u:Value}(ry:RelV y u):
  KV (af.map λkv=>if kv.1=k then(kv.1,y)else kv) (vs.map λkv=>if kv.1=k then(kv.1,u)else kv):=by
 unfold KV at r ⊢
 induction r with
 |nil=>exact .nil
 | @cons p q ps qs h t ih=>
  rw[xu,xu];refine .cons ?_ ih;obtain⟨h1,h2⟩:=h;by_cases e:p.1=k
  ·rw[if_pos e,if_pos (h1.symm.trans e)];exact⟨h1,ry⟩
  ·rw[if_neg e,if_neg (λz=>e (h1.trans z))];exact⟨h1,h2⟩
theorem KV.put{af:List (κ×V)}{vs:List (κ×Value)}(r:KV af vs)(k:κ){u:Value}(ry:RelV y u):KV (bP af k y) (stored vs k u):=by
 unfold bP stored;rw[r.any k];by_cases e:(vs.any λkv=>decide (kv.1=k))=true
 ·rw[if_pos e,if_pos e];exact r.repl k ry
 ·rw[if_neg e,if_neg e];exact yel r ⟨rfl,ry⟩
theorem KV.keys{af:List (κ×V)}{vs:List (κ×Value)}(r:KV af vs):af.map (·.1)=vs.map (·.1):=by
 unfold KV at r
 induction r with
 |nil=>rfl
 |cons h t ih=>rw[xu,xu,ih,h.1]
theorem KV.length{af:List (κ×V)}{vs:List (κ×Value)}(r:KV af vs):af.length=vs.length:=CJ r
end
theorem DB{P:xf}{w:World}{k:Key}{u:Value}(r:RelV (kV k) u):(cJ P w).is k u=true:=by
 cases k with
 |inl i=>obtain⟨t,e⟩:=(show ∃t,u=kQ i t from r);subst e;exact Hs P w i t
 |inr x=>obtain⟨t,e⟩:=(show ∃t,u=Hr x t from r);subst e;exact Ht P w x t
theorem Lm{P:xf}{w:World}:∀{ks:List Key}{us:List Value},am (ks.map kV) us->ItemsAre (cJ P w) ks us
 |[],_,r=>by rw[Bl]at r;cases r;exact .nil
 |k::ks,_,r=>by
  rw[xu]at r;cases r with
  |cons h t=>exact .cons (DB h) (Lm t)
abbrev KT(H:Hp):List (List Key×V)->List (List Key×Addr×Value)->Prop:=Paired λp q=>p.1=q.1/\H q.2.1=some (.tup (p.1.map kV))/\RelV p.2 q.2.2
theorem KT.val{H:Hp}{af:List (List Key×V)}{xs:List (List Key×Addr×Value)}(r:KT H af xs)(k:List Key):cQ (bY af k) ((atKey xs k).map (·.2)):=by
 induction r with
 |nil=>exact j6
 | @cons p q ps qs h t ih=>
  obtain⟨h1,_,h2⟩:=h;by_cases e:p.1=k
  ·have e':q.1=k:=h1.symm.trans e;have b:atKey (q::qs) k=some q.2:=by simp[atKey,wM,e']
   rw[Bo e,b];exact h2
  ·have e':¬ q.1=k:=λz=>e (h1.trans z);have b:atKey (q::qs) k=atKey qs k:=by simp[atKey,wM,e']
   rw[Bp e,b];exact ih
theorem KT.repl{H:Hp}{af:List (List Key×V)}{xs:List (List Key×Addr×Value)}(r:KT H af xs)(k:List Key){y:V}{u:Value}(ry:RelV y u):
  KT H (af.map λkv=>if kv.1=k then(kv.1,y)else kv) (xs.map (putAt k u)):=by
 induction r with
 |nil=>exact .nil
 | @cons p q ps qs h t ih=>
  rw[xu,xu];refine .cons ?_ ih;obtain⟨h1,h2,h3⟩:=h;unfold putAt;by_cases e:p.1=k
  ·rw[if_pos e,if_pos (h1.symm.trans e)];exact⟨h1,h2,ry⟩
  ·rw[if_neg e,if_neg (λz=>e (h1.trans z))];exact⟨h1,h2,h3⟩
variable{af:List (List Key×V)}
theorem KT.put{xs:List (List Key×Addr×Value)}(r:KT H af xs)(k:List Key){b:Addr}{u:Value}(hb:H b=some (.tup (k.map kV)))(ry:RelV y u):
  KT H (bP af k y) (storedH xs k b u):=by
 have e:(af.any λkv=>decide (kv.1=k))=(atKey xs k).isSome:=by
  rw[Lk,(r.val k).isSome_eq,yb6]
 unfold bP storedH;rw[e];by_cases q:(atKey xs k).isSome=true
 ·rw[if_pos q,if_pos q];exact r.repl k ry
 ·rw[if_neg q,if_neg q];exact yel r ⟨rfl,hb,ry⟩
theorem KT.keeps{H':Hp}{xs:List (List Key×Addr×Value)}(r:KT H af xs)(ht:∀b ys,H b=some (.tup ys)->H' b=some (.tup ys)):KT H' af xs:=
 Paired.mapP r λ_ _ z=>⟨z.1,ht _ _ z.2.1,z.2.2⟩
section
variable{P:xf}{w:World}{H:Hp}{h:Heap}{a:Addr}
theorem sC{u:HO}(ok:cK P w H h)(e:Rd H a u):ObjOk P w H h a u:=e.ok ok
theorem DC{af:List (Key×V)}(ok:cK P w H h)(e:Rd H a (.dK af)):af.length<=sizeLine/\(a==sysModules)=false/\∃vs,KV af vs/\h.DictOf (cJ P w) a vs:=
 show ObjOk P w H h a (.dK af)from sC ok e
theorem sE{af:List (Key×V)}(ok:cK P w H h)(e:H a=some (.dK af)):af.length<=sizeLine/\(a==sysModules)=false/\∃vs,KV af vs/\h.DictOf (cJ P w) a vs:=DC ok (.inl e)
theorem DD{ks:List Key}(ok:cK P w H h)(e:H a=some (.tup (ks.map kV))):(tupleKind (cJ P w)).is h ks a:=by
 obtain⟨_,ai,r,⟨o,h1,h2,n,h3⟩,_⟩:=(show ObjOk P w H h a (.tup (ks.map kV))from ok a _ e)
 exact⟨o,ai.toArray,n,h1,h2,h3,by simpa using Lm r⟩
theorem Ia{af:List (List Key×V)}(ok:cK P w H h)(e:Rd H a (.dT af)):af.length<=sizeLine/\(a==sysModules)=false/\
  ∃xs,KT H af xs/\h.DictOfH (tupleKind (cJ P w)) a xs:=by
 obtain⟨z,y,xs,r,o,es,ep,h1,h2,h3,h4,h5⟩:=(show ObjOk P w H h a (.dT af)from sC ok e)
 refine⟨z,y,xs,r,o,es,ep,h1,h2,h3,h4,λx hx=>?_,h5⟩;have all:∀{l:List (List Key×V)}{m:List (List Key×Addr×Value)},KT H l m->∀x∈m,(tupleKind (cJ P w)).is h x.1 x.2.1:=by
  intro l m q
  induction q with
  |nil=>intro x hx;exact nomatch hx
  | @cons p q ps qs hq t ih=>
   intro x hx;rcases xc.mp hx with e|hx
   ·subst e;exact DD ok (by rw[<- hq.1];exact hq.2.1)
   ·exact ih x hx
 exact all r x hx
theorem Ln(ok:cK P w H h)(e:H a=some (.dT af)):af.length<=sizeLine/\(a==sysModules)=false/\
  ∃xs,KT H af xs/\h.DictOfH (tupleKind (cJ P w)) a xs:=Ia ok (.inl e)
end
def jb(H:Hp)(a:Addr)(y:V)(r:Option V):Prop:=
 (∃af k,Rd H a (.dK af)/\y=kV k/\r=bY af k)\/∃af k b,Rd H a (.dT af)/\y=.ref b/\H b=some (.tup (k.map kV))/\r=bY af k
def DPut(H:Hp)(a:Addr)(y v:V)(H':Hp):Prop:=
 (∃af k,H a=some (.dK af)/\y=kV k/\af.length<sizeLine/\H'=aH H a (.dK (bP af k v)))\/
 ∃af k b,H a=some (.dT af)/\y=.ref b/\H b=some (.tup (k.map kV))/\af.length<sizeLine/\H'=aH H a (.dT (bP af k v))
theorem DPut.k{H:Hp}{a:Addr}{af:List (Key×V)}{k:Key}{v:V}(e:H a=some (.dK af))(hl:af.length<sizeLine):DPut H a (kV k) v (aH H a (.dK (bP af k v))):=.inl ⟨af,k,e,rfl,hl,rfl⟩
theorem DPut.t{a b:Addr}{k:List Key}{v:V}(e:H a=some (.dT af))(eb:H b=some (.tup (k.map kV)))(hl:af.length<sizeLine):
  DPut H a (.ref b) v (aH H a (.dT (bP af k v))):=.inr ⟨af,k,b,e,rfl,eb,hl,rfl⟩
variable{Q:Value->ye->Prop}{P:xf}{w:World}
section
variable{X:Cx}{ac:List (Addr×Obj)}{σ:St}{H:Hp}{s:ye}{a:Addr}{y v:V}{u r:Value}{o:Option V}{A:v7}{E:Value->ye->Prop}
theorem Inv.big(I:Inv X ac σ H s):sysModules<s.heap.objs.size:=by
 have h:mainGlobals<s.heap.objs.size:=(I.mod.glob.keeps I.bk).lt;exact Nat.lt_trans (by decide) h
theorem jfn(hu:A.units+1<cLine)(I:Inv X ac σ H s)(g:jb H a y (some v))(ry:RelV y u)(h:∀w' s',Inv X ac σ H s'->RelV v w'->Q w' s'):
  wpAny (model X.prog X.w) A (getItem (.ref a) u) Q E s:=by
 rcases g with⟨af,k,e,ey,l⟩|⟨af,k,b,e,ey,eb,l⟩
 ·subst ey;obtain⟨z,hd,vs,cI,dd⟩:=DC I.hok e;obtain⟨w',hw,io⟩:=cQ.some_of (v:=v) (o:=valueAt vs k) (by rw[l];exact cI.val k);exact wpAny_getItem_of (DB ry) dd.mapOf hw (h w' _ (I.tok _) io)
 ·subst ey;cases(show u=v5 b from ry);obtain⟨z,hd,xs,cI,dd⟩:=Ia I.hok e;obtain⟨w',hw,io⟩:=cQ.some_of (v:=v) (o:=(atKey xs k).map (·.2)) (by rw[l];exact cI.val k);obtain⟨p,hp,iz⟩:=Ib.mp hw;refine wpAny_getItem_heap (S8 hu) (DD I.hok eb) dd hp ?_;rw[iz];exact h w' _ (I.tok _) io
theorem jmb(hu:A.units+1<cLine)(I:Inv X ac σ H s)(g:jb H a y o)(ry:RelV y u)(h:∀s',Inv X ac σ H s'->Q (.bool (!o.isSome)) s'):
  wpAny (model X.prog X.w) A (compareOp .NotIn u (.ref a)) Q E s:=by
 rcases g with⟨af,k,e,ey,l⟩|⟨af,k,b,e,ey,eb,l⟩
 ·subst ey;obtain⟨z,hd,vs,cI,dd⟩:=DC I.hok e;refine wpAny_notIn_of (DB ry) hd dd.mapOf ?_;rw[<- (cI.val k).isSome_eq,<- l];exact h _ (I.tok _)
 ·subst ey;cases(show u=v5 b from ry);obtain⟨z,hd,xs,cI,dd⟩:=Ia I.hok e;refine wpAny_notIn_heap (S8 hu) (DD I.hok eb) hd dd ?_;have q:=(cI.val k).isSome_eq;rw[yb6]at q;rw[<- q,<- l];exact h _ (I.tok _)
theorem Ie{h':Heap}{t':Nat}{ob:HO}(I:Inv X ac σ H s)(mu:CK (H a))(hs:i3 a s.heap h')(he:∃q,h'.get? a=some q)(new:ObjOk X.prog X.w (aH H a ob) h' a ob):
  Inv X ac σ (aH H a ob) {s with heap:=h',toks:=t'}:=
 I.write (x:=a) (e:=a) mu (.inl rfl) (λb q hb z=>(hs.2 b hb).trans z) he new
theorem S9{H':Hp}{h':Heap}{af:List (Key×V)}{vs:List (Key×Value)}(z:af.length<=sizeLine)(hd:(a==sysModules)=false)(cI:KV af vs)(dd:h'.DictOf (cJ P w) a vs):
  ObjOk P w H' h' a (.dK af):=⟨z,hd,vs,cI,dd⟩
theorem jfo{H':Hp}{Q:Unit->ye->Prop}(hu:A.units+1<cLine)(I:Inv X ac σ H s)(g:DPut H a y v H')(ry:RelV y u)(rv:RelV v r)(h:∀s',Inv X ac σ H' s'->Q () s'):
  wpAny (model X.prog X.w) A (setItem (.ref a) u r) Q E s:=by
 rcases g with⟨af,k,e,ey,l,eH⟩|⟨af,k,b,e,ey,eb,l,eH⟩
 ·subst ey eH;obtain⟨z,hd,vs,cI,dd⟩:=sE I.hok e;have hz:vs.length<=sizeLine:=by rw[<- cI.length];exact z
  have hl:(bP af k v).length<=sizeLine:=by have:=Ll af k v;omega
  refine wpAny_setItem_pairs (hsz:=hz) (DB ry) dd λh' p0 hs=>h _ ?_;have he:∃q,h'.get? a=some q:=let ⟨q,_,_,hq,_⟩:=p0;⟨q,hq⟩;exact Ie I (by rw[e];exact j6) hs he (S9 hl hd (cI.put k rv) p0)
 ·subst ey eH;cases(show u=v5 b from ry);obtain⟨z,hd,xs,cI,dd⟩:=Ln I.hok e;have hz:xs.length<=sizeLine:=by rw[<- CJ cI];exact z
  have hl:(bP af k v).length<=sizeLine:=by have:=Ll af k v;omega
  refine wpAny_setItem_heap (hsz:=hz) (S8 hu) (DD I.hok eb) dd λh' p0 hs=>h _ ?_;obtain⟨q,es,ep,hq,h2,h3,h4,_,h5⟩:=p0;refine Ie I (by rw[e];exact j6) hs ⟨q,hq⟩ ⟨hl,hd,_,(cI.put k eb rv).keeps λc ys ec=>?_,q,es,ep,hq,h2,h3,h4,h5⟩;rw[bf (A3 ec e (λz=>nomatch z))];exact ec
end
section
variable{X:Cx}{ac:List (Addr×Obj)}{σ:St}{H:Hp}{s:ye}{a:Addr}{af:List (Key×V)}{k:Key}{u:Value}{A:v7}{E:Value->ye->Prop}
theorem DE(I:Inv X ac σ H s)(e:Rd H a (.dK af))(h:∀t s',Inv X ac σ H s'->Q (.int af.length t) s'):wpAny (model X.prog X.w) A (call (.builtin "len") [.ref a]) Q E s:=by
 obtain⟨z,hd,vs,cI,dd⟩:=DC I.hok e;refine call_len_dict hd dd (by rw[<- cI.length];rw[xx]at z;omega) ?_;rw[<- cI.length];exact h _ _ (I.tok _)
end
def wN(i:Expr):Prop:=∀ov iv,subscripted i false ov iv=operate [ov,iv] (getItem ov iv)
theorem jmd{prog:xf}{w:World}{A:v7}{E:Value->ye->Prop}{s:ye}{env:Env}{value bV:Expr}{pos:Pos}{T id:String}{Q:Value->ye->Prop}
  (hl:typeLookup (.type T) "__getitem__"=pure (some (.builtin id))) (hs:wN bV)
  (h:wpAny (model prog w) A (eval value env) (λo s₁=>wpAny (model prog w) A (eval bV env) (λi s₂=>s₂.TypeIs o T/\wpAny (model prog w) A (getItem o i) Q E s₂) E s₁) E s):
  wpAny (model prog w) A (eval (.Subscript value bV pos) env) Q E s:=by
 refine SG (iP h (λo s₁ h₁=>iP h₁ (λi s₂ h₂=>?_) λ_ _ x=>x) λ_ _ x=>x);obtain⟨hT,h₂⟩:=h₂;unfold subscriptTail;refine y0 ?_;rw[getitemInPython_of_ne hT.not_modules];refine y0 (DF hT hl ?_);have fin:wpAny (model prog w) A (subscripted bV false o i) (λr s₃=>wpAny (model prog w) A (letTemporaryGo value o r >>= λ_=>pure r) Q E s₃) E s₂:=by
  rw[hs o i];exact wpAny_operating (iP h₂ (λr s₃ h₃=>y0 (wpAny_letTemporaryGo (yc h₃))) λ_ _ x=>x)
 first
  |exact yc (y0 fin)
  |exact y0 (yc (y0 fin))
  |exact y0 fin
variable{X:Cx}
theorem jbd{ac:List (Addr×Obj)}{σ:St}{s:ye}{a:Addr}{o:Option V}(I:Inv X ac σ H s)(g:jb H a y o):s.TypeIs (.ref a) "dict":=by
 rcases g with⟨af,k,e,_,_⟩|⟨af,k,b,e,_,_,_⟩
 ·obtain⟨_,_,vs,_,dd⟩:=DC I.hok e;exact dd.typeIs
 ·obtain⟨_,_,xs,_,dd⟩:=Ia I.hok e;exact dd.typeIs
def Lo(td ty:TE):TE:=λσ H Q=>td σ H λx H1=>ty σ H1 λy H2=>∃a v,x=.ref a/\jb H2 a y (some v)/\Q v H2
def Lp(td ty tv:TE):TS:=λD σ H=>tv σ H λv H1=>td σ H1 λx H2=>ty σ H2 λy H3=>∃a H4,x=.ref a/\DPut H3 a y v H4/\D.nx σ H4
section
variable{X:Cx}{o i e value:Expr}{pos aY K1:Pos}{td ty tv:TE}
theorem jme(hu:X.A.units+1<cLine)(ho:PE X o td)(hi:PE X i ty)(hs:wN i):PE X (.Subscript o i pos) (Lo td ty):=by
 intro ac s σ H Q I h;refine jmd PySem.F.slot_dict_getitem.lookup hs (aN (ho ac s σ H _ I h) λu s1 ⟨x,H1,I1,rx,q1⟩=>aN (hi ac s1 σ H1 _ I1 q1) λiv s2 ⟨y,H2,I2,ry,a,v,ex,g,q2⟩=>?_);subst ex;obtain rfl:u=v5 a:=rx;exact⟨jbd I2 g,jfn hu I2 g ry λw' s3 I3 io=>⟨v,H2,I3,io,q2⟩⟩
theorem jmf(hu:X.A.units+1<cLine)(ho:PE X o td)(hi:PE X i ty)(hv:PE X value tv)(hs:swapsWith value (some (.Subscript o i aY)) pos.line X.env=pure false):
  PS X (.Assign [.Subscript o i aY] value pos) (Lp td ty tv):=by
 intro ac s σ H D I h;refine wpAny_Assign_Subscript (aN (hv ac s σ H _ I h) λr s1 ⟨v,H1,I1,rv,q1⟩=>aN (ho ac s1 σ H1 _ I1 q1) λu s2 ⟨x,H2,I2,rx,q2⟩=>aN (hi ac s2 σ H2 _ I2 q2) λiv s3 ⟨y,H3,I3,ry,a,H4,ex,g,q3⟩=>?_) hs;subst ex;obtain rfl:u=v5 a:=rx;exact jfo hu I3 g ry rv λs4 I4=>⟨σ,H4,I4,q3⟩
end
theorem Ta(h:Heap)(hb:sysModules<h.objs.size):ObjOk P w H (h.push {cls:=.type "dict",data:=.dict #[]}) h.objs.size (.dK []):=
 ⟨gn _,beq_eq_false_iff_ne.mpr (iN (xn hb)),[],.nil,yff h⟩
theorem Tb(h:Heap)(hb:sysModules<h.objs.size):ObjOk P w H (h.push {cls:=.type "dict",data:=.dict #[]}) h.objs.size (.dT []):=
 ⟨gn _,beq_eq_false_iff_ne.mpr (iN (xn hb)),[],.nil,_,#[],0,yi _ rfl,⟨rfl,rfl,rfl⟩,rfl,rfl,DG⟩
def Lq:TE:=λ_ H Q=>∀p,H p=none->Q (.ref p) (aH H p (.dK []))
def Lr:TE:=λ_ H Q=>∀p,H p=none->Q (.ref p) (aH H p (.dT []))
section
variable{X:Cx}{pos:Pos}
theorem jj4:PE X (.Dict [] [] pos) Lq:=λac s σ H Q I h=>
 yc4 ⟨.ref s.heap.objs.size,_,I.laid (a:=s.heap.objs.size) (o:=.dK []) (t':=s.toks) (λ_ _ q=>yb _ q) (yg _) (Ta s.heap I.big),rfl,h _ (I.hok.fresh (yg _))⟩
theorem jj5:PE X (.Dict [] [] pos) Lr:=λac s σ H Q I h=>
 yc4 ⟨.ref s.heap.objs.size,_,I.laid (a:=s.heap.objs.size) (o:=.dT []) (t':=s.toks) (λ_ _ q=>yb _ q) (yg _) (Tb s.heap I.big),rfl,h _ (I.hok.fresh (yg _))⟩
end
def Ig:List (TE×TE)->St->Hp->(List (V×V)->Hp->Prop)->Prop
 |[],_,H,Q=>Q [] H
 |(tk,tv)::r,σ,H,Q=>tk σ H λx H1=>tv σ H1 λy H2=>Ig r σ H2 λps H3=>Q ((x,y)::ps) H3
abbrev VV:List (V×V)->List (Value×Value)->Prop:=Paired λp q=>RelV p.1 q.1/\RelV p.2 q.2
def DH(X:Cx)(pos:Pos)(keys:List (Option Expr))(fm:List Expr)(p9:List (TE×TE)):Prop:=
 ∀(ac:List (Addr×Obj)) (s:ye) (σ:St) (H:Hp) (Q:List (V×V)->Hp->Prop),Inv X ac σ H s->Ig p9 σ H Q->
  wpAny (model X.prog X.w) X.A (evalPairs (pairTrees keys fm X.env pos)) (λvs s'=>∃ps H',Inv X ac σ H' s'/\VV ps vs/\Q ps H') X.xe s
variable{pos:Pos}
theorem Tc:DH X pos [] [] []:=λac s σ H Q I h=>pairTrees_nil_walk ⟨[],H,I,.nil,h⟩
theorem Td{k v:Expr}{ks:List (Option Expr)}{vs:List Expr}{tk tv:TE}{p9:List (TE×TE)}(hk:PE X k tk)(hv:PE X v tv)(hr:DH X pos ks vs p9):
  DH X pos (some k::ks) (v::vs) ((tk,tv)::p9):=λac s σ H Q I h=>
 pairTrees_cons_walk (aN (hk ac s σ H _ I h) λu s1 ⟨x,H1,I1,rx,q1⟩=>aN (hv ac s1 σ H1 _ I1 q1) λw2 s2 ⟨y,H2,I2,ry,q2⟩=>
  aN (hr ac s2 σ H2 _ I2 q2) λws s3 ⟨ps,H3,I3,cI,q3⟩=>⟨(x,y)::ps,H3,I3,.cons ⟨rx,ry⟩ cI,q3⟩)
def Bq(af more:List (Key×V)):List (Key×V):=more.foldl (λacc kv=>bP acc kv.1 kv.2) af
theorem KV.merge:∀{more:List (Key×V)}{rs:List (Key×Value)}{af:List (Key×V)}{vs:List (Key×Value)},KV more rs->KV af vs->KV (Bq af more) (merged vs rs):=by
 intro more rs af vs r;unfold KV at r
 induction r generalizing af vs with
 |nil=>intro q;exact q
 | @cons p q ps qs h t ih=>
  intro r0;have e:KV (bP af p.1 p.2) (stored vs q.1 q.2):=by
   have:=r0.put p.1 h.2;rw[<- h.1];exact this
  exact ih e
theorem Te:∀(more af:List (Key×V)),(Bq af more).length<=af.length+more.length
 |[],af=>by show af.length<=af.length+0;omega
 |p::r,af=>by
  have h1:=Te r (bP af p.1 p.2);have h2:=Ll af p.1 p.2;show(Bq (bP af p.1 p.2) r).length<=_;rw[yn];omega
theorem Tf{P:xf}{w:World}:∀{af:List (Key×V)}{ws:List (Value×Value)},VV (af.map λkv=>(kV kv.1,kv.2)) ws->∃rs,Carries (cJ P w) ws rs/\KV af rs
 |[],_,r=>by rw[Bl]at r;cases r;exact⟨[],j6,.nil⟩
 |p::af,_,r=>by
  rw[xu]at r;cases r with
  | @cons a b as bs h t=>
   obtain⟨rs,c,q⟩:=Tf (P:=P) (w:=w) t;obtain⟨b1,b2⟩:=b;exact⟨(p.1,b2)::rs,⟨DB h.1,rfl,c⟩,.cons ⟨rfl,h.2⟩ q⟩
def Lu(p9:List (TE×TE)):TE:=λσ H Q=>∀p,H p=none->Ig p9 σ (aH H p (.dK [])) λps H2=>H2 p=some (.dK [])/\∃af:List (Key×V),ps=af.map (λkv=>(kV kv.1,kv.2))/\af.length<=15/\Q (.ref p) (aH H2 p (.dK (Bq [] af)))
theorem jmg{keys:List (Option Expr)}{fm:List Expr}{p9:List (TE×TE)}(h:DH X pos keys fm p9)(gL:keys.all (·.isSome)=true)(hl:keys.length=fm.length)(h0:keys≠[])
  (h15:keys.length<=15):PE X (.Dict keys fm pos) (Lu p9):=by
 intro ac s σ H Q I q;have hn:=I.hok.fresh (yg s.heap.objs.size);have I1:=I.laid (a:=s.heap.objs.size) (o:=.dK []) (h':=s.heap.push {cls:=.type "dict",data:=.dict #[]}) (t':=s.toks) (λ_ _ q=>yb _ q) (yg _) (Ta s.heap I.big);refine wpAny_Dict_walk (knd:=cJ X.prog X.w) gL hl h0 h15 (aN (h ac _ σ _ _ I1 (q _ hn)) λws s2 ⟨ps,H2,I2,cI,e,af,ep,lk,q2⟩=>?_);subst ep;obtain⟨rs,c,rk⟩:=Tf (P:=X.prog) (w:=X.w) cI;obtain⟨z,hd,vs0,r0,dd⟩:=sE I2.hok e;cases r0;refine⟨rs,c,dd,λh' p0 hs=>⟨.ref s.heap.objs.size,_,?_,rfl,q2⟩⟩;have hz:(Bq [] af).length<=sizeLine:=by
  have h1:=Te af [];rw[ub]at h1;rw[xx];omega
 have he:∃q,h'.get? s.heap.objs.size=some q:=let ⟨q,_,_,hq,_⟩:=p0;⟨q,hq⟩;exact Ie I2 (by rw[e];exact j6) hs he (S9 hz hd (rk.merge .nil) p0)
structure M1(X:Cx)(o:Expr)(m:Str)(cS:Pos)(e:Expr)(bx:Pos):Prop where
 base:attributeBase o m X.env (eval o X.env)=eval o X.env
 oR:((backTo bx (starEach [e] X.env)).all (λx=>!x.1)&&(backToKw bx (keywordEach [] X.env)).all (λx=>x.1.isSome)
  && decide (([e]:List Expr).length+([]:List sk).length+(if ([]:List sk).isEmpty then 0 else 1)<30))=true
 line:(cS.endLine==bx.line)=true
 DI:backTo bx (starEach [e] X.env)=[(false,eval e X.env)]
structure M2(X:Cx)(o:Expr)(m:Str)(cS:Pos)(e f:Expr)(bx:Pos):Prop where
 base:attributeBase o m X.env (eval o X.env)=eval o X.env
 oR:((backTo bx (starEach [e,f] X.env)).all (λx=>!x.1)&&(backToKw bx (keywordEach [] X.env)).all (λx=>x.1.isSome)
  && decide (([e,f]:List Expr).length+([]:List sk).length+(if ([]:List sk).isEmpty then 0 else 1)<30))=true
 line:(cS.endLine==bx.line)=true
 DI:backTo bx (starEach [e,f] X.env)=[(false,eval e X.env),(false,eval f X.env)]
end L2
namespace Att
open PySem PySem.W PySem.Calls PyProof.Rows
theorem j59{P:Ih}{h:Heap}:∀(ns:List Int) (vs:List Value),WellAll P h vs (ns.map WData.int)->fW vs ns:=by
 intro ns
 induction ns with
 |nil=>
  intro vs w;rw[Bl]at w;cases w;exact .nil
 |cons n ns ih=>
  intro vs w;rw[xu]at w;cases w with
  |cons a b=>
   cases a;exact .cons _ _ (ih _ b)
theorem script_of{l:OpenLaw}{n:Nat}(hn:l.most=some n){P:Ih}{h:Heap}{args:List WData}{qA:List Value}
  (kg:l.row.toRowW.claim.pre args=true) (fP:WellAll P h qA args):
  ∃a vs ns,qA=[v5 a]/\args=[WData.list (ns.map WData.int)]/\h.get? a=some {cls:=.type "list",data:=.seq vs.toArray}/\fW vs ns/\ns.length<=n:=by
 have hsh:WShape.hasAll [] args [.list .int]=true:=(pre_splitW kg).1;have hc:l.pre.holds [] {args:=args}=true:=(pre_splitW kg).2;obtain⟨d,r,rfl,h1,h2⟩:=hasAllW_cons hsh;obtain rfl:=hasAllW_nil h2;obtain⟨xs,rfl,h3⟩:=hasW_list h1;obtain⟨ns,rfl⟩:=items_int h3;have aL:ns.length<=n:=by
  unfold OpenLaw.pre at hc;have h4:(WTm.not (.lt (.lit (.int (n:Int))) (.len (.arg 0)))).holds [] {args:=[.list (ns.map .int)]}=true:=by
   have h4:=(holds_andW hc).1;rw[hn]at h4;exact h4
  have h5:=condW_of h4 (w_not (w_lt w_lit (w_len_list (w_arg rfl))));rw[y3]at h5;refine yc0 λq=>?_;have q':(n:Int)<((ns.length:Nat):Int):=by omega
  first
   |(rw[decide_eq_true q']at h5;exact absurd h5 (by decide))
   |(simp at h5;omega)
 cases fP with
 |cons w1 w2=>
  cases w2;cases w1 with
  |list ho gL=>exact⟨_,_,ns,rfl,rfl,ho,j59 ns _ gL,aL⟩
theorem post_true(l:OpenLaw)(args:List WData):l.row.toRowW.claim.post args (.bool true) args=true:=
 postW_of (r:=l.row.toRowW) (X:=(true==true))
  (show WShape.has [] (.bool true) .bool=true by first|rfl|decide|simp[WShape.has,WShape.arms,WShape.armsAll])
  (show(WTm.eq .res (.lit (.bool true))).value [] {args:=args,res:=some (.bool true),after:=args}=some (.bool (true==true))from w_eq_bool (w_res rfl) w_lit) rfl
theorem attach_call{l:OpenLaw}{n:Nat}{q:xf}{cL:List Str}{XP:(Str->Option Value)->Heap->Prop}{YP:World->Heap->Prop}{d:Ii}
  (hn:l.most=some n) (qB:d.params.defaults=[])
  (call:∀(w:World) (s₀ s₁:ye) (mg mb:Str->Option Value) (fa:Addr) (o:Obj) (pm cd doc:Value) (a:Addr) (vs:List Value) (ns:List Int),
   Ground q cL [] XP w s₀ mg mb s₁.heap->YP w s₁.heap->
   s₁.heap.get? fa=some o->o.data=.func (docDef d.name d.params d.body d.scope pm cd doc)->s₁.heap.CodeRec cd d.name->mg d.name=some (.ref fa)->
   s₁.heap.get? a=some {cls:=.type "list",data:=.seq vs.toArray}->fW vs ns->ns.length<=n->s₁.gens=#[]->
   codeAny (model l.prog w) callerA (.call (.ref fa) ⟨[.ref a],[]⟩) (λr s'=>r=.ok (.ret (.bool true))/\OldK s₁.heap s'.heap/\s'.os=s₁.os/\lU s'.gens) s₁):
  WalkO q cL XP YP l.row.toRowW d [] (λf vs=>Ij f vs):=by
 intro w s₀ s₁ mg mb G Y fa o pm cd doc dV kV ho hd fF hD qC hg args qA as kg DJ Br fP hlo;obtain rfl:dV=.none:=Dflts.none hD qB;obtain rfl:kV=.none:=Dflts.noKw hD;obtain⟨a,vs,ns,rfl,rfl,jc,fo,aL⟩:=script_of hn kg fP;refine enter_call (wq (call w s₀ s₁ mg mb fa o pm cd doc a vs ns G Y ho (fd_plain hd) fF qC jc fo aL hg) λr s' hq=>?_);obtain⟨rfl,h2,h3,h4⟩:=hq;exact⟨.inl ⟨.bool true,.bool true,[],rfl,λ_=>rfl,.bool true,post_true l _,λ_=>⟨Lv,λ_ hm=>(nomatch hm)⟩⟩,h2,h3,h4⟩
end Att
namespace L2
open PySem PySem.Spec PyProof.Rows
theorem Bs:∀{vs:List Value}{ns:List Int},fW vs ns->am (ns.map V.int) vs
 |_,_,.nil=>.nil
 |_,_,.cons n t h=>.cons ⟨t,rfl⟩ (Bs h)
def wO(H:Hp):Prop:=∀b,H b=none\/∃o xs,H b=some (.frz o (.lst xs))
theorem jj6{P:xf}{w:World}{K:yd}{mg mb:Str->Option Value}{CX:iS}{k:Nat}{fa a:Addr}{fd:xo}{x:Str}{sp:Sp}{s₁:ye}{vs:List Value}{ns:List Int}
  (KX:K.In s₁.heap) (k7:s₁.heap.Ns mainGlobals mg) (hb:s₁.heap.Ns builtinsNs mb) (Bt:∀x:Str,x≠"__name__"->mb x=bootBuiltins x) (wQ:s₁.heap.NoLimit) (Lw:∃bm ob,mg "__builtins__"=some (.ref bm)/\bm≠builtinsNs/\s₁.heap.get? bm=some ob/\ob.cls=.type "module"/\ob.dict=some builtinsNs/\ob.data=.plain) (hg:s₁.gens=#[])
  (ha:s₁.heap.get? a=some {cls:=.type "list",data:=.seq vs.toArray}) (hi:fW vs ns) (hl:ns.length<=sizeLine) (hr:aI k callerA)
  (F:∀base:Heap,K.In base->base.Ns mainGlobals mg->FnOk P w K mg base CX k fa fd [x] sp) (fq:∀(s:ye) (u:Value),oJ s fd ⟨[u],[]⟩ [(x,u)])
  (hsp:∀H:Hp,wO H->SqL K H a (ns.map V.int)->sp [.ref a] H (λv _=>v=.bl true) λ_ _ _=>False)
  (wR:∀H e s',CX [] H s₁ (λ_ _ _=>False) e s'->False):
  codeAny (model P w) callerA (.call (.ref fa) ⟨[.ref a],[]⟩) (λr s'=>r=.ok (.ret (.bool true))/\OldK s₁.heap s'.heap/\s'.os=s₁.os/\lU s'.gens) s₁:=by
 have rv:=Bs hi;have wT:=hi.length;have DK:∀H:Hp,wO H->SqL K H a (ns.map V.int)->cK P w H s₁.heap->(∀b,H b≠none->b=a)->(H a≠none->K.lookup a=none)->
   codeAny (model P w) callerA (.call (.ref fa) ⟨[.ref a],[]⟩) (λr s'=>r=.ok (.ret (.bool true))/\OldK s₁.heap s'.heap/\s'.os=s₁.os/\lU s'.gens) s₁:=by
  intro H hO hS hok hA hK;have bZ:∀{b:Addr}{o:Obj},s₁.heap.get? b=some o->H b=none->(dL s₁.heap H).get? b=some o:=λe n=>RE e n;have j7:∀{b:Addr}{o:Obj}{es:Array Lx}{ep:Nat},s₁.heap.get? b=some o->o.data=.dict es ep->H b=none:=λ{b o es ep} e d=>by
   cases q:H b with
   |none=>rfl
   |some u=>
    have e':b=a:=hA b (by rw[q];simp);subst e';rw[ha]at e;cases e;have d':Data.seq vs.toArray _=Data.dict es ep:=d;cases d'
  have qD:∀{b:Addr}{m:Str->Option Value},s₁.heap.Ns b m->(dL s₁.heap H).Ns b m:=λ{b m} ⟨o,es,ep,e,d,r⟩=>⟨o,es,ep,bZ e (j7 e d),d,r⟩
  have DL:K.In (dL s₁.heap H):=λb o e=>bZ (KX b o e) (by
   cases q:H b with
   |none=>rfl
   |some u=>
    have e':b=a:=hA b (by rw[q];simp);subst e';rw[hK (by rw[q];simp)]at e;cases e)
  have hM:Mod K mg (dL s₁.heap H):=⟨DL,qD k7,⟨mb,qD hb,Bt⟩,let ⟨mc,h1,h2⟩:=wQ;⟨mc,qD h1,h2⟩,by
   obtain⟨bm,ob,b1,b2,b3,b4,b5⟩:=Lw;refine⟨bm,ob,b1,b2,bZ b3 ?_,b4,b5⟩;cases q:H bm with
   |none=>rfl
   |some u=>
    have e':bm=a:=hA bm (by rw[q];simp);subst e';rw[ha]at b3;cases b3;injection b4 with b4;exact absurd b4 (by decide)⟩
  have e0:gH P w K mg (dL s₁.heap H) callerA [] s₁ H:=⟨rfl,hM,λb o e=>RF e,R6 (RD _ _),trivial,λb hb=>absurd (show b∈([]:List Addr)from hb) (by simp),hok,.of_eq hg⟩
  refine wq ((F _ DL (qD k7)).run callerA [] s₁ H ⟨[.ref a],[]⟩ [.ref a] [.ref a] _ _ hr e0 (fq s₁ (.ref a)) (.cons rfl .nil) (hsp H hO hS)) λr s' h=>?_;cases r with
  |error e=>exact(wR H e s' h).elim
  |ok fl=>
   cases fl with
   |next=>exact iQ h
   |brk=>exact iQ h
   |cont=>exact iQ h
   |ret u=>
    obtain⟨v,H',os,bare,un,qE,r',q⟩:=h;have q':v=.bl true:=q;subst q';obtain rfl:u=A2 true:=r';refine⟨rfl,OldK.of_keep λb o e=>?_,os,bare⟩;cases q:H b with
    |none=>exact un.keep b o e q (by intro z;exact absurd (show b∈([]:List Addr)from z) (by simp)) (by simp)
    |some u=>
     rcases hO b with z|⟨ob,xs,z⟩
     ·rw[q]at z;cases z
     ·have z2:=un.frzs b ob _ z;obtain⟨e1,_⟩:=hok b _ z;obtain⟨e2,_⟩:=qE b _ z2;rw[e]at e1;cases e1;exact e2
 cases hk:K.lookup a with
 |some o=>
  have e:=KX a o hk;rw[ha]at e;cases e;refine DK (λ_=>none) (λ_=>.inl rfl) (.inr ⟨_,vs.toArray,_,hk,rfl,rfl,rfl,by rw[ym,wT];exact hl,by simpa using rv⟩) (λb u z=>by have z':(none:Option HO)=some u:=z;cases z') (λb z=>absurd rfl z) λz=>absurd rfl z
 |none=>
  refine DK (λb=>if b=a then some (.frz {cls:=.type "list",data:=.seq vs.toArray} (.lst (ns.map V.int)))else none) (λb=>?_) (.inl (.inr ⟨{cls:=.type "list",data:=.seq vs.toArray},if_pos rfl⟩)) (λb u z=>?_) (λb z=>?_) λ_=>hk
  ·by_cases hb:b=a
   ·exact .inr ⟨_,_,if_pos hb⟩
   ·exact .inl (if_neg hb)
  ·by_cases hb:b=a
   ·have z':=(if_pos hb).symm.trans z;cases z';subst hb;exact⟨ha,by rw[y3];exact hl,vs,_,rv,ha⟩
   ·have z':=(if_neg hb).symm.trans z;cases z'
  ·by_cases hb:b=a
   ·exact hb
   ·exact absurd (if_neg hb) z
variable{K:yd}
abbrev KOf{h:Heap}(_:K.In h):yd:=K
theorem Ik{l:Ly}{n k:Nat}{q:xf}{cL:List Str}{XP:(Str->Option Value)->Heap->Prop}{YP:World->Heap->Prop}{d:Ii}{K:Ih->yd}{CX:World->iS}{sp:World->Sp}{x:Str}
  (hn:l.most=some n) (j4:n<=sizeLine) (qB:d.params.defaults=[]) (hr:aI k callerA)
  (hY:∀(w:World) (h:Heap),YP w h->(K w.params).In h)
  (F:∀(w:World) (mg:Str->Option Value) (fa:Addr) (h:Heap),(K w.params).In h->h.Ns mainGlobals mg->mg d.name=some (.ref fa)->
   ∃fd:xo,(∀(s:ye) (u:Value),oJ s fd ⟨[u],[]⟩ [(x,u)])/\
    ∀base:Heap,(K w.params).In base->base.Ns mainGlobals mg->FnOk l.prog w (K w.params) mg base (CX w) k fa fd [x] (sp w))
  (hsp:∀(w:World) (H:Hp) (a:Addr) (ns:List Int),ns.length<=n->wO H->SqL (K w.params) H a (ns.map V.int)->sp w [.ref a] H (λv _=>v=.bl true) λ_ _ _=>False)
  (wR:∀(w:World) (H:Hp) (s:ye) (e:Value) (s':ye),CX w [] H s (λ_ _ _=>False) e s'->False):
  Tg q cL XP YP l.row.toRowW d [] (λf vs=>Ij f vs):=by
 refine Att.attach_call hn qB λw s₀ s₁ mg mb fa o pm cd doc a vs ns G Y ho hd fF qC jc fo aL hg=>?_;have KX:=hY w _ Y;obtain⟨fd,hb,hF⟩:=F w mg fa _ KX G.T.g qC;exact jj6 KX G.T.g G.T.b G.T.builtins G.T.nolimit G.T.bmain hg jc fo (v9 aL j4) hr hF hb (λH hO hS=>hsp w H a ns aL hO hS) λH e s'=>wR w H s₁ e s'
def gM(s:Stmt)(j:Nat):Stmt:=match s with
 | .ClassDef _ _ _ body _ _ _ _ _ _ _=>body.getD j (.Pass ⟨0,0,0,0⟩)
 |_=>.Pass ⟨0,0,0,0⟩
def jK(s:Stmt):HQ:=match s with
 | .FunctionDef _ a _ _ _ _ _ _ _ _=>a
 |_=>{posonlyargs:=[],args:=[],vararg:=none,kwonlyargs:=[],kw_defaults:=[],kwarg:=none,defaults:=[]}
def gY(s:Stmt):List Stmt:=match s with
 | .FunctionDef _ _ b _ _ _ _ _ _ _=>b
 |_=>[]
def aP(s:Stmt):Scope:=match s with
 | .FunctionDef _ _ _ _ _ _ sc _ _ _=>sc
 |_=>{kind:=.function,names:=[],isGenerator:=false,isCoroutine:=false}
abbrev E0:XK:=λ_ _ _=>False
structure bT(K:yd)(x qual:Str)(st:Stmt)(f:Addr)(fd:xo):Prop where
 ex:∃(oc:Value) (od:Option Addr) (kV doc pm:Value) (an:Option Addr) (bj ct:Value) (kY:Array (Option Value)),
  fd=i7 x qual (jK st) (gY st) (aP st) .none kV doc pm an bj ct/\K.lookup f=some ⟨oc,od,.func fd,kY⟩/\K6 K bj qual=true
 kp:sd K (.ref f)=true
variable{x qual:Str}{st:Stmt}{f:Addr}{fd:xo}
section
variable{P:xf}{w:World}{K:yd}{mg:Str->Option Value}{base:Heap}
theorem bT.binds{ps:List Str}(F:bT K x qual st f fd)
  (h:∀(kV doc pm:Value) (an:Option Addr) (bj ct:Value) (us:List Value),us.length=ps.length->bindArgs (i7 x qual (jK st) (gY st) (aP st) .none kV doc pm an bj ct) ⟨us,[]⟩=pure (ps.zip us)):Binds K fd ps []:=by
 obtain⟨oc,od,kV,doc,pm,an,bj,ct,kY,rfl,lk,fF⟩:=F.ex;exact .all (h kV doc pm an bj ct)
theorem fun_mk{oc:Value}{od an:Option Addr}{kY:Array (Option Value)}{kV doc pm bj ct:Value}(l:K.lookup f=some ⟨oc,od,.func (i7 x qual (jK st) (gY st) (aP st) .none kV doc pm an bj ct),kY⟩)
  (c:K6 K bj qual=true) (k:sd K (.ref f)=true):bT K x qual st f (i7 x qual (jK st) (gY st) (aP st) .none kV doc pm an bj ct):=⟨⟨oc,od,kV,doc,pm,an,bj,ct,kY,rfl,l,c⟩,k⟩
end
section
variable{X:Cx}
theorem pv(i:Nat){pos:Pos}(hN:X.N[i]?=some x:=by rfl)(hv:Ky X.env.scope x:=by first|exact k9 rfl|exact Il (k9 rfl)|exact Il (Il rfl))(hd:(x==("__debug__":Str))=false:=by decide)
  (fF:(x==("__classdict__":Str))=false:=by decide):PE X (.Name x pos) (vP i):=vQ hN hv hd fF
theorem jfq:aG X (.builtin "len") (λxs H Q=>∃a af,xs=[V.ref a]/\H a=some (.dK af)/\Q (.int af.length) H):=by
 intro ac s σ H xs us Q I r h;obtain⟨a,af,rfl,ha,q⟩:=h;obtain⟨u,rfl,ru⟩:=fM r;cases ru;exact DE I (.inl ha) λt s' I'=>⟨.int af.length,H,I',⟨t,rfl⟩,q⟩
end
theorem wU{A B:Prop}(h:B):if false=true then A else B:=by
 rw[if_neg xj];exact h
theorem wV{A B:Prop}(h:A):if true=true then A else B:=by
 rw[if_pos rfl];exact h
structure Pass(fs:List Addr)(n:Nat)(H:Hp)(h h':Heap):Prop where
 keep:∀b o,h.get? b=some o->b∉fs->(b<n\/H b≠none\/∀vs,o.data≠.fields vs)->h'.get? b=some o
 slot:∀b o,h.get? b=some o->b∈fs->∃sl,h'.get? b=some {o with slots:=sl}
 there:∀b o,h.get? b=some o->∃o',h'.get? b=some o'
def Lz(n:Nat)(H:Hp)(h:Heap)(a:Addr)(vs:Array Value)(fl:Value):Prop:=
 (vs[1]?=some .none/\fl=.none)\/∃T oT ts,vs[1]?=some (.ref T)/\n<=T/\H T=none/\T≠a/\h.get? T=some oT/\oT.data=.fields ts/\ts[3]?=some fl
structure Th(n:Nat)(H:Hp)(h:Heap)(a:Addr)(C:Value)(dx:Option Addr)(fl:Value):Prop where
 new:n<=a
 un:H a=none
 obj:∃oe vs,h.get? a=some oe/\oe.cls=C/\oe.dict=dx/\oe.data=.fields vs/\1<vs.size/\Lz n H h a vs fl
section
variable{X:Cx}{ac:List (Addr×Obj)}{σ:St}{H:Hp}{s:ye}{h':Heap}
open Classical in
end
def Ti(P:xf)(w:World):iS:=λouter H s E e s'=>
 ∃a C dx H',e=.ref a/\s'.os=s.os/\lU s'.gens/\Un (kU outer) [] H H' s.heap s'.heap/\cK P w H' s'.heap/\Th s.heap.objs.size H' s'.heap a C dx .none/\E C dx H'
variable{P:xf}{w:World}
theorem wW{X:Cx}:wm (Ti P w) X E0:=λ_ _ _ _ _ _ _ h=>by
 obtain⟨_,_,_,_,_,_,_,_,_,_,q⟩:=h;exact q.elim
section
variable{X:Cx}{E:XK}
structure Own(X:Cx):Prop where
 stk:X.stack=X.env::X.outer
 frm:X.env.frame=some X.env.locals
 pn:X.pn=[]
end
open PySem.Builtin PySem.Builtin.ObjectAttr
structure DM(K:yd)(C:Addr)(bm:List Value):Prop where
 at_:∃nm q N bs wX sn sub ab col dd k0 k1 k2 k3 k5 eK,K.lookup C=some (excClassObj nm q C N bs bm wX sn sub ab col dd k0 k1 k2 k3 k5 eK)
 base:bm.contains (.type "BaseException")=true
structure Qa1(K:yd)(C f:Addr)(bm bmB:List Value)(B eK wY:String):Prop where
 at_:∃nm q N bs wX sn sub ab col dd k0 k1 k2 k3 k5,K.lookup C=some (excClassObj nm q C N bs bm wX sn sub ab col dd k0 k1 k2 k3 k5 eK)
 Tj:ExcBaseFacts B eK wY bmB
 Qa2:bm.contains (.type B)=true
 j7:bm.contains (.type "AttributeError")=false
 noN:bm.contains (.type "NameError")=false
 base:bm.contains (.type "BaseException")=true
 init:v0 K (.ref C) "__init__"=some (some (.ref f))
 fn:HJ K (.ref f)=true
 kp:sd K (.ref C)=true
structure Qa3(K:yd)(C:Addr)(f:Str)(bm:List Value):Prop where
 at_:∃nm q N bs sn sub ab col dd k0 k1 k2 k3 k5 eK,K.lookup C=some (excClassObj nm q C N bs bm true sn sub ab col dd k0 k1 k2 k3 k5 eK)
 LB:∀x:Addr,refuseLoop (.ref x) "__setattr__" bm=pure ()
 obj:bm.contains (.type "object")=true
 set:v0 K (.ref C) "__setattr__"=some (some (.builtin "object.__setattr__"))
 none:v0 K (.ref C) f=some none
def al(H H':Hp):Prop:=∀b o,H b=some o->H' b=some o
variable{H:Hp}
theorem al.rfl':al H H:=λ_ _ h=>h
variable{H1 H2:Hp}
theorem al.tr(a:al H H1)(b:al H1 H2):al H H2:=λc o h=>b c o (a c o h)
variable{p:Addr}{o:HO}
theorem dG(n:H p=none):al H (aH H p o):=λb u h=>by
 rw[bf (cD h n)];exact h
theorem al.free{H H':Hp}(e:al H H'){l:Addr}(h:H' l=none):H l=none:=by
 cases q:H l with
 |none=>rfl
 |some o=>rw[e l o q]at h;cases h
variable{H':Hp}{a:Addr}
theorem al.rd{u:HO}(e:al H H')(h:Rd H a u):Rd H' a u:=by
 rcases h with h|⟨o,h⟩
 ·exact .inl (e _ _ h)
 ·exact .inr ⟨o,e _ _ h⟩
variable{xs:List V}
theorem al.seqL(e:al H H')(h:SqL K H a xs):SqL K H' a xs:=h.elim (λh=>.inl (e.rd h)) .inr
theorem al.seqT(e:al H H')(h:aZ K H a xs):aZ K H' a xs:=h.elim (λh=>.inl (e.rd h)) .inr
theorem up(e:al H H')(h:H p=some o):H' p=some o:=e _ _ h
def bQ(x:Addr)(H H':Hp):Prop:=∀b o,b≠x->H b=some o->H' b=some o
theorem bQ.tr{x:Addr}(a:bQ x H H1)(b:bQ x H1 H2):bQ x H H2:=λc o n h=>b c o n (a c o n h)
theorem al.but{x:Addr}(a:al H H1)(b:bQ x H1 H2)(n:H x=none):al H H2:=λc o h=>b c o (cD h n) (a c o h)
theorem mE:bQ p H (aH H p o):=λb u n h=>by rw[bf n];exact h
inductive Kd where|non|bl|int|str|tup|lst|dct
 deriving DecidableEq
def Kd.ty:Kd->String
 | .non=>"NoneType" | .bl=>"bool" | .int=>"int" | .str=>"str" | .tup=>"tuple" | .lst=>"list" | .dct=>"dict"
def cM(H:Hp):V->Kd->Prop
 | .non,k=>k=.non
 | .bl _,k=>k=.bl
 | .int _,k=>k=.int
 | .str _,k=>k=.str
 | .ref a,k=>(∃xs,H a=some (.tup xs)/\k=.tup)\/(∃xs,H a=some (.lst xs)/\k=.lst)\/(∃af,H a=some (.dK af)/\k=.dct)
 |_,_=>False
theorem cM.t(h:H a=some (.tup xs)):cM H (.ref a) .tup:=.inl ⟨xs,h,rfl⟩
theorem cM.l(h:H a=some (.lst xs)):cM H (.ref a) .lst:=.inr (.inl ⟨xs,h,rfl⟩)
theorem cM.d{af:List (Key×V)}(h:H a=some (.dK af)):cM H (.ref a) .dct:=.inr (.inr ⟨af,h,rfl⟩)
theorem cM.tyOf{K:yd}{H:Hp}{x:V}{k:Kd}(h:cM H x k):dN K H x (.type k.ty):=by
 cases x with
 |non=>cases(show k=.non from h);exact .non
 |bl b=>cases(show k=.bl from h);exact .bl b
 |int b=>cases(show k=.int from h);exact .int b
 |str b=>cases(show k=.str from h);exact .str b
 |ref a=>
  rcases h with⟨xs,h,rfl⟩|⟨xs,h,rfl⟩|⟨xs,h,rfl⟩
  ·exact .tup h
  ·exact .lst h
  ·exact .dK h
 |_=>exact(show False from h).elim
inductive D where
 |non|bl (b:Bool)|int (i:Int)|str (x:Str)|tup (l:List D)|lst (l:List D)|dct
def D.kd:D->Kd
 | .non=>.non | .bl _=>.bl | .int _=>.int | .str _=>.str | .tup _=>.tup | .lst _=>.lst | .dct=>.dct
mutual
def aR(H:Hp):D->V->Prop
 | .non,v=>v=.non
 | .bl b,v=>v=.bl b
 | .int i,v=>v=.int i
 | .str x,v=>v=.str x
 | .tup l,v=>∃p xs,v=.ref p/\H p=some (.tup xs)/\aE H l xs
 | .lst l,v=>∃p xs,v=.ref p/\H p=some (.lst xs)/\aE H l xs
 | .dct,v=>∃p af,v=.ref p/\H p=some (.dK af)
def aE(H:Hp):List D->List V->Prop
 |[],xs=>xs=[]
 |d::r,xs=>∃x t,xs=x::t/\aR H d x/\aE H r t
end
def Tk:HO->Bool
 | .tup _=>true | .lst _=>true | .dK _=>true|_=>false
def Kp(H H':Hp):Prop:=∀b o,H b=some o->Tk o=true->H' b=some o
theorem al.kp(e:al H H'):Kp H H':=λb o h _=>e b o h
mutual
theorem aR.keep'{H H':Hp}(e:Kp H H'):∀(d:D) {v:V},aR H d v->aR H' d v
 | .non,_,h=>by unfold aR at h ⊢;exact h
 | .bl _,_,h=>by unfold aR at h ⊢;exact h
 | .int _,_,h=>by unfold aR at h ⊢;exact h
 | .str _,_,h=>by unfold aR at h ⊢;exact h
 | .tup l,_,h=>by unfold aR at h ⊢;obtain⟨p,xs,h1,h2,h3⟩:=h;exact⟨p,xs,h1,e _ _ h2 rfl,aE.keep' e l h3⟩
 | .lst l,_,h=>by unfold aR at h ⊢;obtain⟨p,xs,h1,h2,h3⟩:=h;exact⟨p,xs,h1,e _ _ h2 rfl,aE.keep' e l h3⟩
 | .dct,_,h=>by unfold aR at h ⊢;obtain⟨p,xs,h1,h2⟩:=h;exact⟨p,xs,h1,e _ _ h2 rfl⟩
theorem aE.keep'{H H':Hp}(e:Kp H H'):∀(l:List D) {xs:List V},aE H l xs->aE H' l xs
 |[],_,h=>by unfold aE at h ⊢;exact h
 |d::r,_,h=>by unfold aE at h ⊢;obtain⟨x,t,h1,h2,h3⟩:=h;exact⟨x,t,h1,aR.keep' e d h2,aE.keep' e r h3⟩
end
variable{d:D}
theorem aR.keep{v:V}(h:aR H d v)(e:Kp H H'):aR H' d v:=aR.keep' e d h
theorem aE.keep{d:List D}{v:List V}(h:aE H d v)(e:Kp H H'):aE H' d v:=aE.keep' e d h
theorem aR.mono{v:V}(h:aR H d v)(e:al H H'):aR H' d v:=h.keep e.kp
theorem aE.mono{d:List D}{v:List V}(h:aE H d v)(e:al H H'):aE H' d v:=h.keep e.kp
theorem aE.length{H:Hp}:∀{l:List D}{xs:List V},aE H l xs->l.length=xs.length
 |[],_,h=>by unfold aE at h;rw[h];rfl
 |d::r,_,h=>by unfold aE at h;obtain⟨x,t,rfl,_,h3⟩:=h;rw[yn,yn,aE.length h3]
theorem aE.get{H:Hp}:∀{l:List D}{xs:List V}{i:Nat}{x:V},aE H l xs->xs[i]?=some x->∃d,l[i]?=some d/\aR H d x
 |[],_,i,x,h,e=>by unfold aE at h;subst h;simp at e
 |d::r,_,0,x,h,e=>by unfold aE at h;obtain⟨y,t,rfl,h2,_⟩:=h;simp at e;subst e;exact⟨d,rfl,h2⟩
 |d::r,_,i+1,x,h,e=>by unfold aE at h;obtain⟨y,t,rfl,_,h3⟩:=h;obtain⟨z,z1,z2⟩:=aE.get (i:=i) h3 (by simpa using e);exact⟨z,by simpa using z1,z2⟩
theorem aE.nil:aE H [] []:=by unfold aE;rfl
variable{l:List D}
theorem aE.cons{x:V}(h:aR H d x)(t:aE H l xs):aE H (d::l) (x::xs):=by unfold aE;exact⟨x,xs,rfl,h,t⟩
theorem aR.intI{i:Int}:aR H (.int i) (.int i):=by unfold aR;rfl
theorem aR.strI{b:Str}:aR H (.str b) (.str b):=by unfold aR;rfl
theorem aR.tupI(h:H p=some (.tup xs))(r:aE H l xs):aR H (.tup l) (.ref p):=by unfold aR;exact⟨p,xs,rfl,h,r⟩
theorem aR.lstI(h:H p=some (.lst xs))(r:aE H l xs):aR H (.lst l) (.ref p):=by unfold aR;exact⟨p,xs,rfl,h,r⟩
theorem aE.ints{H:Hp}:∀ns:List Int,aE H (ns.map D.int) (ns.map V.int)
 |[]=>.nil
 |_::r=>.cons .intI (aE.ints r)
theorem aR.kd{H:Hp}{d:D}{v:V}(h:aR H d v):cM H v d.kd:=by
 cases d with
 |tup l=>unfold aR at h;obtain⟨p,xs,rfl,h,_⟩:=h;exact .t h
 |lst l=>unfold aR at h;obtain⟨p,xs,rfl,h,_⟩:=h;exact .l h
 |dct=>unfold aR at h;obtain⟨p,xs,rfl,h⟩:=h;exact .d h
 |_=>unfold aR at h;subst h;exact rfl
mutual
def D.fine:D->Bool
 | .tup l=>D.fineL l
 | .lst l=>D.fineL l
 | .dct=>false
 |_=>true
def D.fineL:List D->Bool
 |[]=>true
 |d::r=>d.fine&&D.fineL r
def D.depth:D->Nat
 | .tup l=>D.depthL l+1
 | .lst l=>D.depthL l+1
 |_=>0
def D.depthL:List D->Nat
 |[]=>0
 |d::r=>max d.depth (D.depthL r)
end
theorem Tl:∀{l:List D}{i:Nat}{d:D},D.fineL l=true->l[i]?=some d->d.fine=true
 |[],_,_,_,e=>by simp at e
 |x::r,0,d,h,e=>by simp at e;subst e;unfold D.fineL at h;exact(LC.mp h).1
 |x::r,i+1,d,h,e=>by unfold D.fineL at h;exact Tl (LC.mp h).2 (by simpa using e)
theorem Tn:∀{l:List D}{n i:Nat}{d:D},D.depthL l<=n->l[i]?=some d->d.depth<=n
 |[],_,_,_,_,e=>by simp at e
 |x::r,n,0,d,h,e=>by simp at e;subst e;unfold D.depthL at h;omega
 |x::r,n,i+1,d,h,e=>by unfold D.depthL at h;exact Tn (l:=r) (by omega) (by simpa using e)
theorem jcq(ns:List Int):D.fineL (ns.map D.int)=true:=by
 induction ns with
 |nil=>rfl
 |cons n r ih=>show(D.fine (.int n)&&D.fineL (r.map D.int))=true;rw[ih];rfl
theorem DN(ns:List Int):D.depthL (ns.map D.int)=0:=by
 induction ns with
 |nil=>rfl
 |cons n r ih=>show max (D.depth (.int n)) (D.depthL (r.map D.int))=0;rw[ih];rfl
abbrev CXU(P:xf)(w:World):iS:=Ti P w
theorem cT{X:Cx}:wm (CXU P w) X E0:=wW
theorem DO:∀(w:World) (H:Hp) (s:ye) (e:Value) (s':ye),CXU P w [] H s (λ_ _ _=>False) e s'->False:=λ_ _ _ _ _ h=>by
 obtain⟨_,_,_,_,_,_,_,_,_,_,q⟩:=h;exact q
theorem FnOk.no{mg:Str->Option Value}{base:Heap}{CX:iS}{k:Nat}{ps:List Str}:FnOk P w K mg base CX k f fd ps (λ_ _ _ _=>False):=
 ⟨λ_ _ _ _ h=>h.elim,λ_ _ _ _ _ _ _ _ _ _ _ _ _ h=>h.elim⟩
section
variable{P:xf}{w:World}{K:yd}{mg:Str->Option Value}{base:Heap}
theorem bT.okU{N ps:List Str}{k:Nat}{sp:Sp}(F:bT K x qual st f fd)(S:ah N ps (aP st))(len:∀vs H Q E,sp vs H Q E->vs.length=ps.length)
  (il:∀(bj:Value) (A:v7) (outer:List Env) (s:ye) (H:Hp) (vs:List V) (Q:VK) (E:XK),aI k (A.deeper (envOfC qual (aP st) s.heap.objs.size f bj))->sp vs H Q E->
   ∃t,iO (gJ (CXU P w) P w K mg base N qual (aP st) f bj A outer s H E).nox (gY st) t/\t {nx:=λ_ H'=>Q .non H',rt:=Q} (start N vs) H):FnOk P w K mg base (CXU P w) (k+1) f fd ps sp:=by
 obtain⟨oc,od,kV,doc,pm,an,bj,ct,kY,rfl,lk,fF⟩:=F.ex;refine su lk fF S len λA outer s H vs Q E hr hsp=>?_;obtain⟨t,h,q⟩:=il bj A outer s H vs Q E hr hsp;exact⟨t,h.nox,q⟩
end
abbrev ib:Int->Nat:=DP
theorem jbf{ns:List Int}(h:ydk [.list (ns.map .int)]=true):∀z∈ns,ib z<=1048576:=λz hz=>by
 have h1:=PySem.W.layableW_arg h _ (y9.mpr rfl);have h2:=PySem.W.layableW_item h1 (.int z) (yk.mpr ⟨z,hz,rfl⟩);have h3:=(PySem.W.layableW_iff.mp h2).2.2;simpa[yed,ib,DP] using h3
end L2
namespace L2
open PySem PySem.W PySem.Calls PyProof.Rows
theorem j8p{l:OpenLaw}{n:Nat}{q:xf}{cL:List Str}{XP:(Str->Option Value)->Heap->Prop}{YP:World->Heap->Prop}{d:Ii}
  (hn:l.most=some n) (qB:d.params.defaults=[])
  (call:∀(w:World) (s₀ s₁:ye) (mg mb:Str->Option Value) (fa:Addr) (o:Obj) (pm cd doc:Value) (a:Addr) (vs:List Value) (ns:List Int),
   Ground q cL [] XP w s₀ mg mb s₁.heap->YP w s₁.heap->
   s₁.heap.get? fa=some o->o.data=.func (docDef d.name d.params d.body d.scope pm cd doc)->s₁.heap.CodeRec cd d.name->mg d.name=some (.ref fa)->
   s₁.heap.get? a=some {cls:=.type "list",data:=.seq vs.toArray}->fW vs ns->ns.length<=n->(∀z∈ns,ib z<=1048576)->s₁.gens=#[]->
   codeAny (model l.prog w) callerA (.call (.ref fa) ⟨[.ref a],[]⟩) (λr s'=>r=.ok (.ret (.bool true))/\OldK s₁.heap s'.heap/\s'.os=s₁.os/\lU s'.gens) s₁):
  WalkO q cL XP YP l.row.toRowW d [] (λf vs=>Ij f vs):=by
 intro w s₀ s₁ mg mb G Y fa o pm cd doc dV kV ho hd fF hD qC hg args qA as kg DJ Br fP hlo;obtain rfl:dV=.none:=Dflts.none hD qB;obtain rfl:kV=.none:=Dflts.noKw hD;obtain⟨a,vs,ns,rfl,rfl,jc,fo,aL⟩:=Att.script_of hn kg fP;refine enter_call (wq (call w s₀ s₁ mg mb fa o pm cd doc a vs ns G Y ho (fd_plain hd) fF qC jc fo aL (jbf DJ) hg) λr s' hq=>?_);obtain⟨rfl,h2,h3,h4⟩:=hq;exact⟨.inl ⟨.bool true,.bool true,[],rfl,λ_=>rfl,.bool true,Att.post_true l _,λ_=>⟨Lv,λ_ hm=>(nomatch hm)⟩⟩,h2,h3,h4⟩
variable{i j:Int}{K:yd}{ta:TE}
section
variable{X:Cx}
def fX(i j:Int):Prop:=(-18446744073709551616<i/\i<18446744073709551616)\/(-18446744073709551616<j/\j<18446744073709551616)\/IntMulOk i j
theorem fX.ok(h:fX i j):IntMulOk i j:=by
 rcases h with⟨h1,h2⟩|⟨h1,h2⟩|h
 ·exact .of_left (intBits_le_64 (by omega) (by omega))
 ·exact .of_right (intBits_le_64 (by omega) (by omega))
 ·exact h
theorem jmi:bR X (binaryOp .Mult) (rI fX λi j=>.int (i*j)):=HF λ_ _ _ _ _ _ _ hc q=>mul_int q hc.ok
def mF(i j:Int):Prop:=0<j/\j<1000000000000000000000000000000000000000000000000000000000000
theorem mF.no(h:mF i j):Builtin.divisionGoesByPylong i j=false:=by
 refine PyProof.noPylong_of_log2 ?_;have h1:=h.1;have h2:=h.2;have h0:j.natAbs≠0:=by omega
 refine(Nat.log2_lt h0).mpr ?_;have e:(1000000000000000000000000000000000000000000000000000000000000:Nat)<2 ^ 9000:=by decide +kernel
 omega
theorem fG:bR X (binaryOp .FloorDiv) (rI mF λi j=>.int (i/j)):=HF λi j _ _ _ _ _ hc q=>by
 have h1:=hc.1;exact floordiv_int (by omega) (by rw[Int.fdiv_eq_ediv_of_nonneg i (by omega)];exact q) (.inl hc.no)
def Bu(K:yd):List V->Hp->VK->Prop:=λxs H Q=>∃x t b,((∃n,xs=[x,.ty n]/\pV K t (.type n)=some b)\/∃C,xs=[x,.ref C]/\pV K t (.ref C)=some b)/\dN K H x t/\Q (.bl b) H
theorem lc:aG X (.builtin "isinstance") (Bu X.K):=by
 intro ac s σ H xs us Q I r h;obtain⟨x,t,b,hx,ty,q⟩:=h;rcases hx with⟨n,rfl,e⟩|⟨n,rfl,e⟩
 ·obtain⟨u,w',rfl,ru,io⟩:=C9 r;obtain rfl:w'=kR n:=io;exact R7 I ru ty e λtk=>⟨.bl b,H,I.tok _,rfl,q⟩
 ·obtain⟨u,w',rfl,ru,io⟩:=C9 r;obtain rfl:w'=v5 n:=io;exact R7 I ru ty e λtk=>⟨.bl b,H,I.tok _,rfl,q⟩
theorem jmj(k:Kd):pV K (.type k.ty) (.type "int")=some (k == .int||k == .bl):=by cases k<;>rfl
theorem jj7(k:Kd):pV K (.type k.ty) (.type "bool")=some (k == .bl):=by cases k<;>rfl
theorem jmk(k:Kd):pV K (.type k.ty) (.type "str")=some (k == .str):=by cases k<;>rfl
theorem jfr(k:Kd):pV K (.type k.ty) (.type "tuple")=some (k == .tup):=by cases k<;>rfl
theorem jj8(k:Kd):pV K (.type k.ty) (.type "list")=some (k == .lst):=by cases k<;>rfl
def DQ(K:yd):List V->Hp->VK->Prop:=λxs H Q=>∃(p:Addr) (ns:List Int),xs=[.ref p]/\SqL K H p (ns.map V.int)/\Q (.int ns.sum) H
theorem wZ(hc:X.calm=true):aG X (.builtin "sum") (DQ X.K):=by
 intro ac s σ H xs us Q I r h;obtain⟨p,ns,rfl,hq,q⟩:=h;obtain⟨u,rfl,rx⟩:=fM r;cases rx;obtain⟨ai,r',pl,hz⟩:=I.list hq;have hi:fW ai ns:=Bk r';have gL:AllInts ai.toArray:=hi.allInts;obtain⟨ys,e⟩:=gL.items;refine sum_intListG (I.ok.hd hc) (xs:=ys) (by rw[<- e];exact pl.isList) λh' tk t' hk=>⟨.int ns.sum,H,I.kept hk,⟨t',?_⟩,q⟩
 have e2:numsOf ai=ns:=hi.numsOf;have e3:=nums_intItems (xs:=ys);rw[<- e]at e3;rw[preSum_eq,xq (by simp),<- e3];exact congrArg (λz=>kQ z t') (congrArg List.sum e2)
def sF:List V->Hp->VK->Prop:=λxs H Q=>∃i j,xs=[.int i,.int j]/\Q (.int (max i j)) H
theorem LD(hc:X.calm=true):aG X (.builtin "max") sF:=by
 intro ac s σ H xs us Q I r h;obtain⟨i,j,rfl,q⟩:=h;refine jff hc ac s σ H _ us Q I r ⟨i,j,rfl,?_⟩;have e:(if j > i then j else i)=max i j:=by split<;>omega
 rw[e];exact q
def sG:List V->Hp->VK->Prop:=λxs H Q=>∃i j,xs=[.int i,.int j]/\Q (.int (min i j)) H
theorem Bv(hc:X.calm=true):aG X (.builtin "min") sG:=by
 intro ac s σ H xs us Q I r h;obtain⟨i,j,rfl,q⟩:=h;refine jfg hc ac s σ H _ us Q I r ⟨i,j,rfl,?_⟩;have e:(if j<i then j else i)=min i j:=by split<;>omega
 rw[e];exact q
def DR:List V->Hp->VK->Prop:=λxs H Q=>∃i:Int,xs=[.int i]/\Q (.int (i.natAbs:Int)) H
theorem LF:aG X (.builtin "abs") DR:=by
 intro ac s σ H xs us Q I r h;obtain⟨i,rfl,q⟩:=h;refine jiu ac s σ H _ us Q I r ⟨i,rfl,?_⟩;have e:(if i<0 then -i else i)=(i.natAbs:Int):=by split<;>omega
 rw[e];exact q
def sH:List V->Hp->VK->Prop:=λxs H Q=>(∃i,xs=[.int i]/\Q (.int i) H)\/∃k,xs=[.bl k]/\Q (.int (if k then 1 else 0)) H
theorem sJ:aG X (.type "int") sH:=jfh
def mG(K:yd):List V->Hp->VK->Prop:=λxs H Q=>∃x n,xs=[x]/\Db K x H n/\Q (.int n) H
theorem LG:aG X (.builtin "len") (mG X.K):=jiv
def LH(K:yd):List V->Hp->VK->Prop:=λxs H Q=>∃p ys,xs=[.ref p]/\(SqL K H p ys\/aZ K H p ys)/\∀l,H l=none->Q (.ref l) (aH H l (.lst ys))
theorem sK:aG X (.type "list") (LH X.K):=j8n
def To(K:yd):List V->Hp->VK->Prop:=λxs H Q=>∃p ys,xs=[.ref p]/\((SqL K H p ys/\∀l,H l=none->Q (.ref l) (aH H l (.tup ys)))\/(aZ K H p ys/\Q (.ref p) H))
theorem jd:aG X (.type "tuple") (To X.K):=j71
def qF(K:yd)(Dv:Bool):R2:=Le K Dv
theorem LI:bR X (compareOp .In) (qF X.K false):=jfl
theorem DS:bR X (compareOp .NotIn) (qF X.K true):=j8l
def sL:R2:=λx y H Q=>y=.non/\Q (.bl (decide (x=.non))) H
def Tp:R2:=λx y H Q=>y=.non/\Q (.bl (!decide (x=.non))) H
theorem DT:bR X (compareOp .Is) sL:=we
theorem DV:bR X (compareOp .IsNot) Tp:=jlw
theorem aF:oP X (Bm X.K):=wB
def qG(K:yd):V->Option Int->Option Int->Hp->VK->Prop:=λx lo hi H Q=>Dl K x lo hi H Q\/Dr K x lo hi H Q
theorem lh:mC X (qG X.K):=wx.or jpp
def DW(K:yd)(ta:TE):TT:=λσ H Q=>ta σ H λx H'=>∃k,j3 K x H' k/\Q k H'
theorem mH{a:Expr}(ha:PE X a ta)(he:∀whole,isTrue a X.env whole=(do let v <- whole;standAt a.pos;holding [v] (truthy v))):PT X a (DW X.K ta):=jit ha he
structure Tq(K:yd)(C:Addr)(m:Str)(f:Addr):Prop where
 ga:Bg K (.ref C) "__getattribute__"=some (some (.builtin "type.__getattribute__"))
 rd:PySem.W.readsIn K C (.type "type")=true
 at_:PySem.W.findCls K (.ref C) (.type "type") m=some (.val (.ref f))
 kp:sd K (.ref f)=true
end
section
variable{X:Cx}{ac:List (Addr×Obj)}{σ:St}{H:Hp}{s:ye}{h':Heap}
theorem Inv.turnLaid{t':Nat}{ch:List Addr}{a:Addr}{o:HO}(I:Inv X ac σ H s)(k:∀b u,b∉ch->s.heap.get? b=some u->h'.get? b=some u)(hf:∀b∈ch,dM X ac H b)
  (hp:s.heap.objs.size<=a) (new:ObjOk X.prog X.w (aH H a o) h' a o):Inv X ac σ (aH H a o) {s with heap:=h',toks:=t'}:=by
 have hn:H a=none:=I.hok.fresh hp;have rJ:∀b u,H b=some u->b∉ch:=λb u e z=>by rw[(hf b z).1]at e;cases e
 have w5:∀b u,H b=some u->aH H a o b=some u:=λb u e=>by rw[bf (cD e hn)];exact e
 refine I.step (g':=s.gens) (d':=s.drawn) (ch:=ch) (λb hb=>?_) (λb u _ _ hc e _=>k b u hc e) (λb u _ _ hc e _=>⟨u.slots,k b u hc e⟩) (λb u _ e n=>?_)
  (λb u hc e=>⟨u,k b u hc e⟩) (λb xs e=>w5 _ _ e) (λb _ _ e=>w5 _ _ e) (λb ps e=>⟨#[],by rw[w5 _ _ e];simp⟩) (λm hm=>?_) (λb u e=>?_) I.bare
 ·obtain⟨_,f1,_,f3,f4,f5⟩:=hf b hb;exact⟨f3,f1,f4,f5⟩
 ·rw[bf (λz=>by subst z;exact absurd (yt e) (yfb.mpr hp))];exact n
 ·obtain⟨ol,es,ep,ho,r⟩:=hm;exact⟨ol,es,ep,k _ ol (λz=>(hf _ z).2.1 rfl) ho,r⟩
 ·by_cases hb:b=a
  ·subst hb;rw[bi]at e;cases e;exact new
  ·rw[bf hb]at e;refine(I.hok b u e).stay (λc v hc q=>k c v ?_ q) (λc q=>w5 _ _ q) λc xs q=>w5 _ _ q;rcases hc with z|z
   ·rw[z];exact rJ b u e
   ·exact rJ c _ z
theorem Inv.turns{t':Nat}{ch:List Addr}(I:Inv X ac σ H s)(k:∀b u,b∉ch->s.heap.get? b=some u->h'.get? b=some u)(hf:∀b∈ch,dM X ac H b):Inv X ac σ H {s with heap:=h',toks:=t'}:=by
 have rJ:∀b u,H b=some u->b∉ch:=λb u e z=>by rw[(hf b z).1]at e;cases e
 refine I.step (g':=s.gens) (d':=s.drawn) (ch:=ch) (λb hb=>?_) (λb u _ _ hc e _=>k b u hc e) (λb u _ _ hc e _=>⟨u.slots,k b u hc e⟩) (λb u _ e n=>n)
  (λb u hc e=>⟨u,k b u hc e⟩) (λb xs e=>e) (λb _ _ e=>e) (λb ps e=>⟨#[],by rw[e];simp⟩) (λm hm=>?_) (λb u e=>?_) I.bare
 ·obtain⟨_,f1,_,f3,f4,f5⟩:=hf b hb;exact⟨f3,f1,f4,f5⟩
 ·obtain⟨ol,es,ep,ho,r⟩:=hm;exact⟨ol,es,ep,k _ ol (λz=>(hf _ z).2.1 rfl) ho,r⟩
 ·refine(I.hok b u e).stay (λc v hc q=>k c v ?_ q) (λc q=>q) λc xs q=>q;rcases hc with z|z
  ·rw[z];exact rJ b u e
  ·exact rJ c _ z
end
variable{a p dx:Addr}{v y x:V}{tb te to:TE}{R:Bool->Hp->Prop}{t:TA}{b:Bool}{xs dO:List V}{sp:Sp}{E:XK}{fs:List (Str×V)}{f:Str}{n:Nat}{r:V->List V->Hp->VK->Prop}{ns:List Int}
section
variable{K:yd}{σ:St}{H:Hp}{Q:VK}{D:Ends}
theorem DX{i:Nat}(h:σ[i]?=some (some v))(q:Q v H):vP i σ H Q:=⟨v,h,q⟩
theorem r_c(q:Q v H):tC v σ H Q:=q
theorem LJ{r:R2}(q:ta σ H λx H1=>tb σ H1 λy H2=>r x y H2 Q):C3 r ta tb σ H Q:=q
theorem DY{t u:TS}(q:t {D with nx:=u D} σ H):pN t u D σ H:=q
theorem DZ{g:TG}(q:te σ H λx H1=>g x σ H1 D.nx):pT te g D σ H:=q
theorem jmn{i:Nat}{R:St->Hp->Prop}(q:R (σ.set i (some v)) H):iR i v σ H R:=q
theorem LK{c:TT}{t u:TS}(q:c σ H λb H1=>if b=true then t D σ H1 else u D σ H1):vU c t u D σ H:=q
theorem w6{t:TE}(q:t σ H λx H'=>∃k,x=.bl k/\R k H'):rX t σ H R:=q
theorem LL{R:Bool->Prop}(q:R b):∃k,V.bl b=.bl k/\R k:=⟨b,rfl,q⟩
theorem D0{g:Int->Int->V}(q:Q (g i j) H):oF g (.int i) (.int j) H Q:=⟨i,j,rfl,rfl,q⟩
theorem Tr{C:Int->Int->Prop}{g:Int->Int->V}(c:C i j)(q:Q (g i j) H):rI C g (.int i) (.int j) H Q:=⟨i,j,rfl,rfl,c,q⟩
theorem LM{j n:Nat}{v:Int}(hi:i.natAbs<18446744073709551616)(hj:j<=1000)(e:i ^ j=v)(q:Q (.int v) H):rI lZ (λi j=>.int (i ^ j.toNat)) (.int i) (.int (j:Int)) H Q:=
 ⟨i,j,rfl,rfl,⟨by omega,by omega,xz hi (by decide)⟩,by show Q (.int (i ^ (j:Int).toNat)) H;rw[yx,e];exact q⟩
theorem jmo(q:Q (.int 1000000000000000000) H):rI lZ (λi j=>.int (i ^ j.toNat)) (.int 10) (.int 18) H Q:=LM (n:=0) (j:=18) (by decide) (by decide) (by decide) q
theorem xA(q:Q (.int 1000000) H):rI lZ (λi j=>.int (i ^ j.toNat)) (.int 10) (.int 6) H Q:=LM (n:=0) (j:=6) (by decide) (by decide) (by decide) q
theorem xB(q:Q (.int 948273388530662767682822077) H):rI lZ (λi j=>.int (i ^ j.toNat)) (.int 982451653) (.int 3) H Q:=LM (n:=0) (j:=3) (by decide) (by decide) (by decide) q
theorem D1(q:Q (.bl (decide (i=j))) H):C6 (.int i) (.int j) H Q:=⟨rfl,by
 rw[show decide (V.int i=V.int j)=decide (i=j)from decide_eq_decide.mpr ⟨λz=>by cases z;rfl,λz=>by rw[z]⟩];exact q⟩
theorem sN(q:Q (.bl (!decide (i=j))) H):KQ (.int i) (.int j) H Q:=⟨rfl,by
 rw[show decide (V.int i=V.int j)=decide (i=j)from decide_eq_decide.mpr ⟨λz=>by cases z;rfl,λz=>by rw[z]⟩];exact q⟩
theorem D2{i j:Bool}(q:Q (.bl (decide (i=j))) H):C6 (.bl i) (.bl j) H Q:=⟨rfl,by
 rw[show decide (V.bl i=V.bl j)=decide (i=j)from decide_eq_decide.mpr ⟨λz=>by cases z;rfl,λz=>by rw[z]⟩];exact q⟩
theorem D3{i j:Str}(q:Q (.bl (decide (i=j))) H):C6 (.str i) (.str j) H Q:=⟨rfl,by
 rw[show decide (V.str i=V.str j)=decide (i=j)from decide_eq_decide.mpr ⟨λz=>by cases z;rfl,λz=>by rw[z]⟩];exact q⟩
theorem D4(q:te σ H D.rt):CU te D σ H:=q
theorem xC(q:D.nx σ H):rQ D σ H:=q
theorem xD(q:te σ H λ_ H1=>D.nx σ H1):rR te D σ H:=q
theorem D5{t:TT}(q:t σ H λc H1=>R (!c) H1):CP t σ H R:=q
theorem jmp(q:te σ H λx H'=>∃k,j3 K x H' k/\R k H'):DW K te σ H R:=q
theorem D6{R:Bool->Prop}(q:R b):∃k,j3 K (.bl b) H k/\R k:=⟨b,rfl,q⟩
theorem Ts{R:Bool->Prop}(h:SqL K H p xs)(q:R (!xs.isEmpty)):∃k,j3 K (.ref p) H k/\R k:=⟨_,.inl ⟨xs,h,rfl⟩,q⟩
theorem D7{t u:TT}(q:t σ H λc H1=>if c=true then u σ H1 R else R false H1):CO t u σ H R:=q
theorem LN{t u:TT}(q:t σ H λc H1=>if c=true then R true H1 else u σ H1 R):RK t u σ H R:=q
theorem xE(q:ta σ H λx H1=>∃c,x=.bl c/\if c=true then tb σ H1 Q else Q (.bl false) H1):rN ta tb σ H Q:=q
theorem xF(q:ta σ H λx H1=>∃c,x=.bl c/\Q (.bl (!c)) H1):rO ta σ H Q:=q
theorem D8{t:TT}(q:t σ H λc H1=>if c=true then ta σ H1 Q else tb σ H1 Q):RL t ta tb σ H Q:=q
theorem LO{r:V->Hp->VK->Prop}(q:ta σ H λx H1=>r x H1 Q):RU r ta σ H Q:=q
theorem LP{g:Int->V}(q:Q (g i) H):rU g (.int i) H Q:=⟨i,rfl,q⟩
theorem xG(q:t σ H λvs H1=>sp (vs++dO) H1 Q E):K3 sp dO E t σ H Q:=q
theorem LQ{r:List V->Hp->VK->Prop}(q:t σ H λvs H1=>r vs H1 Q):Bj r t σ H Q:=q
theorem xH{tr:TA}{R:List V->Hp->Prop}(q:ta σ H λx H1=>tr σ H1 λxs H2=>R (x::xs) H2):se ta tr σ H R:=q
theorem D9{R:List V->Hp->Prop}(q:R [] H):Dh σ H R:=q
theorem xI{C:Addr}{m:Str}(q:ta σ H λx H1=>∃a dx fs,x=.ref a/\H1 a=some (.ins C dx fs)/\fs.lookup m=none/\t σ H1 λvs H2=>sp (x::(vs++dO)) H2 Q E):sg C m sp dO E ta t σ H Q:=q
theorem xJ{C:Addr}{m:Str}(h:H a=some (.ins C dx fs))(l:fs.lookup m=none)(q:t σ H λvs H2=>sp (.ref a::(vs++dO)) H2 Q E):
  ∃b dx fs,V.ref a=.ref b/\H b=some (.ins C dx fs)/\fs.lookup m=none/\t σ H λvs H2=>sp (.ref a::(vs++dO)) H2 Q E:=⟨a,dx,fs,rfl,h,l,q⟩
theorem xK{C:Addr}{sp:Sp}{dO:List V}{E:XK} (q:t σ H λvs H1=>∀x dx,H1 x=none->H1 dx=none->dx≠x->
 sp (.ref x::(vs++dO)) (aH (aH H1 dx (.own x)) x (.ins C dx [])) (λv H2=>v=.non/\Q (.ref x) H2) E):sh C sp dO E t σ H Q:=q
def Ea(K:yd)(f:Str):V->Hp->VK->Prop:=λx H Q=>∃a C dx fs v,x=.ref a/\H a=some (.ins C dx fs)/\eQ K C/\NoAttr K C f/\fs.lookup f=some v/\Q v H
theorem xL(q:ta σ H λx H1=>Ea K f x H1 Q):De K ta f σ H Q:=q
theorem Eb{C:Addr}(h:H a=some (.ins C dx fs))(c:eQ K C)(n:NoAttr K C f)(l:fs.lookup f=some v)(q:Q v H):Ea K f (.ref a) H Q:=⟨a,C,dx,fs,v,rfl,h,c,n,l,q⟩
def Ec(K:yd)(f:Str)(y:V):V->Hp->(Hp->Prop)->Prop:=λx H Q=>∃a C dx fs,x=.ref a/\H a=some (.ins C dx fs)/\eQ K C/\NoAttr K C f/\fs.length<1000/\Q (aH H a (.ins C dx (cE f y fs)))
theorem xM{tv:TE}(q:tv σ H λy H1=>ta σ H1 λx H2=>Ec K f y x H2 λH3=>D.nx σ H3):Df K ta tv f D σ H:=q
theorem xN{C:Addr}{R:Hp->Prop}(h:H a=some (.ins C dx fs))(c:eQ K C)(n:NoAttr K C f)(l:fs.length<1000)(q:∀H',H' a=some (.ins C dx (cE f y fs))->bQ a H H'->R H'):Ec K f y (.ref a) H R:=
 ⟨a,C,dx,fs,rfl,h,c,n,l,q _ bi mE⟩
theorem xO(h:Im (n+1) 1000=true):n<1000:=LR h
def sO(xs:List V)(H:Hp)(Q:VK):Prop:=xs.length<=sizeLine/\∀p,H p=none->Q (.ref p) (aH H p (.tup xs))
def sP(xs:List V)(H:Hp)(Q:VK):Prop:=xs.length<=sizeLine/\∀p,H p=none->Q (.ref p) (aH H p (.lst xs))
theorem Ed(q:t σ H λxs H1=>sO xs H1 Q):Di t σ H Q:=q
theorem Ee(q:t σ H λxs H1=>sP xs H1 Q):Dj t σ H Q:=q
theorem xP(c:Im xs.length 1000=true)(q:∀p H',H p=none->H' p=some (.tup xs)->al H H'->Q (.ref p) H'):sO xs H Q:=
 ⟨v9 (LR c) (by rw[xx];decide),λp n=>q p _ n bi (dG n)⟩
theorem xQ(c:Im xs.length 1000=true)(q:∀p H',H p=none->H' p=some (.lst xs)->al H H'->Q (.ref p) H'):sP xs H Q:=
 ⟨v9 (LR c) (by rw[xx];decide),λp n=>q p _ n bi (dG n)⟩
theorem Tt(q:∀p H',H p=none->H' p=some (.dK [])->al H H'->Q (.ref p) H'):Lq σ H Q:=λp n=>q p _ n bi (dG n)
theorem Ef{wi:TI}{g:TG}{tb:TS} (q:wi σ H λJ H1=>∃W:Nat->Nat->St->Hp->Prop,(∃m,W 0 m σ H1)/\∀i m σ H,W i m σ H->
 (J.stop i H/\D.nx σ H)\/(J.go i H/\∃N:St->Hp->Prop,(∀σ' H',N σ' H'->∃m',m'<m/\W (i+1) m' σ' H')/\∀x H',J.yld i H x H'->g x σ H' λσ2 H2=>tb {D with nx:=N,ct:=N,bk:=D.nx} σ2 H2)):C1 wi g tb D σ H:=q
theorem xR{ta:TA}{R:It->Hp->Prop}(q:ta σ H λvs H1=>∃j:Int,vs=[.int j]/\-(2 ^ 62)<=j/\j<2 ^ 62/\R (oB 0 j.toNat) H1):rV ta σ H R:=q
theorem jms{tl:TE}{R:It->Hp->Prop}(q:tl σ H λx H1=>∃a,x=.ref a/\(∃xs,SqL K H1 a xs)/\R (rS K a) H1):rT K tl σ H R:=q
theorem xS{tl:TE}{R:It->Hp->Prop}(q:tl σ H λx H1=>∃a,x=.ref a/\(∃xs,aZ K H1 a xs)/\R (vZ K a) H1):C0 K tl σ H R:=q
theorem LS{T:String}(q:to σ H λx H1=>Bn K T x H1/\t σ H1 λvs H2=>r x vs H2 Q):SR K T r to t σ H Q:=q
theorem Eg{T:String}(q:to σ H λx H1=>Bn K T x H1/\r x [] H1 Q):Dw K T r to σ H Q:=q
theorem Eh{R:Prop}(h:H p=some (.lst xs))(q:R):Bn K "list" (.ref p) H/\R:=⟨.inl ⟨rfl,xs,SqL.of h⟩,q⟩
theorem oS(h:H p=some (.lst xs))(l:xs.length<1000000)(q:∀H',H' p=some (.lst (xs++[y]))->bQ p H H'->Q .non H'):SX (.ref p) [y] H Q:=
 ⟨p,xs,y,rfl,rfl,h,xz l (by rw[xx];decide),q _ bi mE⟩
theorem jmt(h:H p=some (.lst xs))(q:∀H',H' p=some (.lst [])->bQ p H H'->Q .non H'):S5 (.ref p) [] H Q:=⟨p,xs,rfl,rfl,h,q _ bi mE⟩
theorem xT{R:St->Hp->Prop}(q:R σ H):pQ [] σ H R:=⟨rfl,q⟩
theorem jmu{t:TG}{u:pO}{r:List V}{R:St->Hp->Prop}(q:t v σ H λσ' H'=>u r σ' H' R):Ba t u (v::r) σ H R:=⟨v,r,rfl,q⟩
theorem Tu{t:pO}{R:St->Hp->Prop}(h:H a=some (.tup xs))(l:xs.length=n)(q:t xs σ H R):pR K n t (.ref a) σ H R:=⟨a,xs,rfl,aZ.of h,l,q⟩
theorem Ei(q:Q (.int (max i j)) H):sF [.int i,.int j] H Q:=⟨i,j,rfl,q⟩
theorem Ej(q:Q (.int (min i j)) H):sG [.int i,.int j] H Q:=⟨i,j,rfl,q⟩
theorem Ek(q:Q (.int (i.natAbs:Int)) H):DR [.int i] H Q:=⟨i,rfl,q⟩
theorem xU{i:Bool}(q:Q (.int (if i then 1 else 0)) H):sH [.bl i] H Q:=.inr ⟨i,rfl,q⟩
theorem Em(q:Q (.bl (decide (x=.non))) H):sL x .non H Q:=⟨rfl,q⟩
theorem xV(q:Q (.bl (!decide (x=.non))) H):Tp x .non H Q:=⟨rfl,q⟩
theorem En{k:Kd}(h:cM H x k)(q:Q (.bl (k == .int||k == .bl)) H):Bu K [x,.ty "int"] H Q:=⟨x,_,_,.inl ⟨_,rfl,jmj k⟩,h.tyOf,q⟩
theorem Bw{k:Kd}(h:cM H x k)(q:Q (.bl (k == .bl)) H):Bu K [x,.ty "bool"] H Q:=⟨x,_,_,.inl ⟨_,rfl,jj7 k⟩,h.tyOf,q⟩
theorem LU{k:Kd}(h:cM H x k)(q:Q (.bl (k == .str)) H):Bu K [x,.ty "str"] H Q:=⟨x,_,_,.inl ⟨_,rfl,jmk k⟩,h.tyOf,q⟩
theorem LV{k:Kd}(h:cM H x k)(q:Q (.bl (k == .tup)) H):Bu K [x,.ty "tuple"] H Q:=⟨x,_,_,.inl ⟨_,rfl,jfr k⟩,h.tyOf,q⟩
theorem xW{k:Kd}(h:cM H x k)(q:Q (.bl (k == .lst)) H):Bu K [x,.ty "list"] H Q:=⟨x,_,_,.inl ⟨_,rfl,jj8 k⟩,h.tyOf,q⟩
theorem xX(h:SqL K H p xs)(q:Q (.int xs.length) H):mG K [.ref p] H Q:=⟨_,_,rfl,.inl ⟨xs,h,rfl⟩,q⟩
theorem xY(h:H p=some (.lst xs))(q:Q (.int xs.length) H):mG K [.ref p] H Q:=⟨_,_,rfl,.inl ⟨xs,SqL.of h,rfl⟩,q⟩
theorem xZ(h:H p=some (.tup xs))(q:Q (.int xs.length) H):mG K [.ref p] H Q:=⟨_,_,rfl,.inr ⟨xs,aZ.of h,rfl⟩,q⟩
theorem Eo(h:SqL K H p xs)(e:dP xs i=some v)(q:Q v H):Bm K (.ref p) (.int i) H Q:=.inl ⟨p,xs,i,v,rfl,rfl,h,e,q⟩
theorem aA(h:H p=some (.lst xs))(e:dP xs i=some v)(q:Q v H):Bm K (.ref p) (.int i) H Q:=.inl ⟨p,xs,i,v,rfl,rfl,SqL.of h,e,q⟩
theorem cP(h:H p=some (.tup xs))(e:dP xs i=some v)(q:Q v H):Bm K (.ref p) (.int i) H Q:=.inr (.inl ⟨p,xs,i,v,rfl,rfl,aZ.of h,e,q⟩)
theorem Bx{α:Type}{xs:List α}{v:α}(h0:0<=i)(h:xs[i.toNat]?=some v):dP xs i=some v:=by
 have:=ff h
 rwa [Int.toNat_of_nonneg h0]at this
theorem Ep(h:H p=some (.tup xs))(q:∀l H',H l=none->H' l=some (.lst xs)->al H H'->Q (.ref l) H'):LH K [.ref p] H Q:=⟨p,xs,rfl,.inr (aZ.of h),λl n=>q l _ n bi (dG n)⟩
theorem LW(h:H p=some (.lst xs))(q:∀l H',H l=none->H' l=some (.lst xs)->al H H'->Q (.ref l) H'):LH K [.ref p] H Q:=⟨p,xs,rfl,.inl (SqL.of h),λl n=>q l _ n bi (dG n)⟩
theorem iT(h:H p=some (.lst xs))(q:∀l H',H l=none->H' l=some (.tup xs)->al H H'->Q (.ref l) H'):To K [.ref p] H Q:=⟨p,xs,rfl,.inl ⟨SqL.of h,λl n=>q l _ n bi (dG n)⟩⟩
theorem LX(h:H p=some (.lst (ns.map V.int)))(q:Q (.int ns.sum) H):DQ K [.ref p] H Q:=⟨p,ns,rfl,SqL.of h,q⟩
end
variable{A B:Prop}
theorem bg{c:Prop}[Decidable c](h1:c->A)(h2:¬ c->B):if decide c=true then A else B:=by
 by_cases h:c
 ·rw[decide_eq_true h];exact wV (h1 h)
 ·rw[decide_eq_false h];exact wU (h2 h)
theorem dZ{c:Prop}[Decidable c](h1:¬ c->A)(h2:c->B):if (!decide c)=true then A else B:=by
 by_cases h:c
 ·rw[decide_eq_true h];exact wU (h2 h)
 ·rw[decide_eq_false h];exact wV (h1 h)
theorem LY{c n:Int}(hb:ib c<=1048577)(n0:0<=n)(n1:n<2147483629):fX (c+n) 948273388530662767682822077:=by
 refine .inr (.inr ?_);have h1:ib n<=31:=Tv (by omega);have h2:ib (c+n)<=1048578:=by
  exact v9 (PySem.intBits_add_le hb h1) (by decide)
 have h3:ib 948273388530662767682822077<=100:=Tv (by decide);unfold IntMulOk;have h:y8s (DP (c+n)+DP 948273388530662767682822077)=false:=by
  unfold y8s bitsLine;have h4:DP (c+n)<=1048578:=h2;have h5:DP 948273388530662767682822077<=100:=h3;exact decide_eq_false (by omega)
 rw[h];simp
abbrev mJ:Value->ye->Prop:=λ_ _=>False
def By:List TT->TT
 |[]=>λ_ H Q=>Q true H
 |t::r=>λσ H Q=>t σ H λb H1=>if b=true then By r σ H1 Q else Q false H1
def dC(X:Cx):List Expr->List TT->Prop
 |[],[]=>True
 |e::es,t::ts=>PT X e t/\dC X es ts
 |_,_=>False
def Bz(env:Env)(eT:List Expr)(b:Bool):Sem Bool:=forIn eT b λc r=>if r=true then do let ok <- isTrue c env (eval c env);pure (yA ok)else pure (yA r)
theorem Tw{M:Model}{A:v7}{E:Value->ye->Prop}{s:ye}{env:Env}{Q:Bool->ye->Prop}(h:Q false s):∀eT:List Expr,wpAny M A (Bz env eT false) Q E s
 |[]=>yc h
 |c::r=>by
  unfold Bz;rw[BA];simp only[vt,if_false];exact y0 (yc (Tw h r))
theorem Tx{X:Cx}{ac:List (Addr×Obj)}{σ:St}{Q:Bool->Hp->Prop}:∀(eT:List Expr) (ts:List TT) (s:ye) (H:Hp),dC X eT ts->Inv X ac σ H s->By ts σ H Q->wpAny (model X.prog X.w) X.A (Bz X.env eT true) (TP X ac σ Q) X.xe s
 |[],[],s,H,_,I,h=>yc ⟨H,I,h⟩
 |[],_::_,_,_,p,_,_=>p.elim
 |_::_,[],_,_,p,_,_=>p.elim
 |c::r,t::ts,s,H,p,I,h=>by
  unfold Bz;rw[BA];simp only[if_true];refine y0 (y0 (aN (p.1 ac s σ H _ I h) λb s1 ⟨H1,I1,q1⟩=>yc ?_));cases b with
  |true=>exact Tx r ts s1 H1 p.2 I1 (by simpa using q1)
  |false=>exact Tw ⟨H1,I1,by simpa using q1⟩ r
section
variable{prog:xf}{w:World}{A:v7}{R:rY->ye->Prop}
theorem jfs{je tg iter:Expr}{eT:List Expr}{scope:Scope}{pos:Pos}{it acc:Value}{env:Env}(J:Nat->ye->Prop)
  (turn:∀n s,J n s->wpAny (model prog w) A (pyNext it) (λr s1=>match r with
   |none=>R (.ok .next) s1
   |some v=>wpAny (model prog w) A (letOwnedTupleGo tg it v) (λ_ s2=>wpAny (model prog w) A (assign tg env v) (λ_ s3=>wpAny (model prog w) A (Bz env eT true) (λok s4=>
     if ok=true then wpAny (model prog w) A (eval je env) (λx s5=>wpAny (model prog w) A (call (.builtin "list.append") [acc,x]) (λ_ s6=>∃m,m<n/\J m s6) mJ s5) mJ s4
     else ∃m,m<n/\J m s4) mJ s3) mJ s2) mJ s1) mJ s) (n:Nat) {s:ye} (h:J n s):
  codeAny (model prog w) A (.compLoop (.ListComp je [⟨tg,iter,eT,0⟩] scope pos) 0 it acc env) R s:=by
 refine codeAny_loop rfl J (λn s hJ=>?_) n h;show wpAny _ A ((compTurn (.ListComp je [⟨tg,iter,eT,0⟩] scope pos) 0 it acc env).onRaise _) _ _ s;refine wpAny_noted ?_;have nx:∀{E:Value->ye->Prop} (e:Value) (s:ye),mJ e s->E e s:=λ_ _ f=>f.elim;rw[compTurn_list];refine y0 (KI (y0 (iP (turn n s hJ) (λr s1 q1=>?_) nx)));cases r with
 |none=>exact yc q1
 |some v=>
  refine y0 (iP q1 (λ_ s2 q2=>?_) nx);refine y0 (iP q2 (λ_ s3 q3=>?_) nx);refine y0 (iP (show wpAny _ _ (Bz env eT true) _ _ _ from q3) (λok s4 q4=>?_) nx);cases ok with
  |false=>exact yc ⟨rfl,q4⟩
  |true=>
   refine y0 (y0 (iP q4 (λx s5 q5=>?_) nx));exact y0 (iP q5 (λ_ s6 q6=>yc (yc ⟨rfl,q6⟩)) nx)
end
def li(cells:List (Str×Addr)):List (Str×so)->List (Str×Addr)->Option (List (Str×Addr))
 |[],cs=>some cs
 |(n,k)::r,cs=>if (k == .free)=true then(match cells.lookup n with|some a=>li cells r ((n,a)::cs)|none=>none)else li cells r cs
theorem LZ{env:Env}:∀(names:List (Str×so)) (cs cl:List (Str×Addr)),li env.cells names cs=some cl->
  (forIn names cs λx r=>match x with|(name,kind)=>if (kind == .free)=true then do let a <- cellOf env name;pure (yA ((name,a)::r))else pure (yA r):Sem (List (Str×Addr)))=pure cl
 |[],cs,cl,h=>by
  cases h;rfl
 |(n,k)::r,cs,cl,h=>by
  rw[BA];unfold li at h;by_cases hk:(k==L0)=true
  ·rw[if_pos hk]at h;dsimp only;rw[if_pos hk];unfold cellOf;cases e:env.cells.lookup n with
   |none=>rw[e]at h;cases h
   |some a=>
    rw[e]at h;exact LZ r _ cl h
  ·rw[if_neg hk]at h;dsimp only;rw[if_neg hk];exact LZ r cs cl h
theorem L1{scope:Scope}{env:Env}{cl:List (Str×Addr)}(h:li env.cells scope.names []=some cl):closureFor scope env=pure cl:=by
 have e:closureFor scope env=((forIn scope.names ([]:List (Str×Addr)) λx r=>match x with|(name,kind)=>if (kind == .free)=true then do let a <- cellOf env name;pure (yA ((name,a)::r))else pure (yA r):Sem (List (Str×Addr))) >>= λcs=>pure cs):=by
  first|rfl|(unfold closureFor;rfl)
 rw[e,LZ _ _ _ h];rfl
set_option tactic.hygienic true in
theorem Er{cells:List (Str×Addr)}:∀(names:List (Str×so)) (cs cl:List (Str×Addr)),li cells names cs=some cl->(∀x c,cs.lookup x=some c->cells.lookup x=some c)->∀x c,cl.lookup x=some c->cells.lookup x=some c
 |[],cs,cl,h,p=>by cases h;exact p
 |(n,k)::r,cs,cl,h,p=>by
  unfold li at h;split at h
  ·split at h
   ·rename_i a e;refine Er r _ cl h λx c q=>?_;rw[Tz]at q;by_cases hx:(x==n)=true
    ·rw[hx]at q;have:x=n:=(by simpa using hx);subst this;cases q;exact e
    ·have qH:(x==n)=false:=(by simpa using hx);rw[qH]at q;exact p x c q
   ·cases h
  ·exact Er r cs cl h p
set_option tactic.hygienic true in
theorem BB{cells:List (Str×Addr)}:∀(names:List (Str×so)) (cs cl:List (Str×Addr)),li cells names cs=some cl->∀x,((∃c,cs.lookup x=some c)\/(x,L0)∈names)->∃c,cl.lookup x=some c
 |[],cs,cl,h,x,p=>by
  cases h;rcases p with p|p
  ·exact p
  ·simp at p
 |(n,k)::r,cs,cl,h,x,p=>by
  unfold li at h;split at h
  ·split at h
   ·rename_i a e;refine BB r _ cl h x ?_;by_cases hx:x=n
    ·exact .inl ⟨a,by rw[Tz,hx];simp⟩
    ·have qH:(x==n)=false:=(by simpa using hx);rcases p with⟨c,p⟩|p
     ·exact .inl ⟨c,by rw[Tz,qH];exact p⟩
     ·rcases xc.mp p with q|q
      ·cases q;exact absurd rfl hx
      ·exact .inr q
   ·cases h
  ·rename_i hk;refine BB r _ cl h x ?_;rcases p with p|p
   ·exact .inl p
   ·rcases xc.mp p with q|q
    ·cases q;exact absurd rfl hk
    ·exact .inr q
set_option tactic.hygienic true in
theorem TB{scope:Scope}{env:Env}(hc:∀y∈scope.names,y.2≠.cell){x:Str}(h:(relabel scope env).names.lookup x=some .cell\/(relabel scope env).names.lookup x=some .free):(x,L0)∈scope.names:=by
 have key:∀k,(k=.cell\/k=.free)->(relabel scope env).names.lookup x=some k->(x,L0)∈scope.names:=λk hk e=>by
  have m:=uz e;obtain⟨⟨n,k'⟩,hm,e2⟩:=yk.mp m;dsimp only at e2;split at e2
  ·rename_i q;cases e2;have:k'=.free:=by
    have:=(LC.mp (LC.mp q).1).1;simpa using this
   subst this;exact hm
  ·cases e2;rcases hk with rfl|rfl
   ·exact absurd rfl (hc _ hm)
   ·exact hm
 exact h.elim (key _ (.inl rfl)) (key _ (.inr rfl))
def gN(X:Cx)(ac:List (Addr×Obj))(N:List Str)(scope:Scope)(cl:List (Str×Addr))(fp:List Addr)(s:ye)(H:Hp):Cx where
 prog:=X.prog
 w:=X.w
 K:=X.K
 mg:=X.mg
 base:=X.base
 A:=X.A
 N:=N
 s₀:=s
 H₀:=H
 env:=compEnvC scope cl s.heap.objs.size X.env
 outer:=X.stack
 stack:=X.stack
 ex:=fp
 fn:=λ_=>false
 calm:=X.calm
 pn:=X.pn++ac
 xe:=mJ
def cZ(X:Cx)(sc:Scope):List Str->List Nat->Prop
 |[],[]=>True
 |y::ys,j::js=>(X.N[j]?=some y/\(X.env.kindOf y=some .cell\/X.env.kindOf y=some .free)/\(sc.names.lookup y=some .cell\/sc.names.lookup y=some .free))/\cZ X sc ys js
 |_,_=>False
theorem cZ.get{X:Cx}{sc:Scope}:∀{ys:List Str}{js:List Nat}{i:Nat}{y:Str},cZ X sc ys js->ys[i]?=some y->∃j,js[i]?=some j/\X.N[j]?=some y/\(X.env.kindOf y=some .cell\/X.env.kindOf y=some .free)/\(sc.names.lookup y=some .cell\/sc.names.lookup y=some .free)
 |[],_,_,_,_,e=>by simp at e
 |_::_,[],_,_,h,_=>h.elim
 |y::ys,j::js,0,z,h,e=>by
  simp at e;subst e;exact⟨j,rfl,h.1⟩
 |y::ys,j::js,i+1,z,h,e=>cZ.get (ys:=ys) (js:=js) (i:=i) h.2 (by simpa using e)
theorem cZ.len{X:Cx}{sc:Scope}:∀{ys:List Str}{js:List Nat},cZ X sc ys js->ys.length=js.length
 |[],[],_=>rfl
 |[],_::_,h=>h.elim
 |_::_,[],h=>h.elim
 |_::ys,_::js,h=>by rw[yn,yn,cZ.len h.2]
def BC(σ:St)(j:Nat):Option V:=match σ[j]? with|some o=>o|none=>none
def mK(own:List Str)(js:List Nat)(σ:St):St:=own.map (λ_=>none)++js.map (BC σ)
section
variable{X:Cx}{ac:List (Addr×Obj)}{σ:St}{H:Hp}{s:ye}
set_option tactic.hygienic true in
theorem jcu{own fr:List Str}{js:List Nat}{scope:Scope}{cl:List (Str×Addr)}{fp:List Addr}{h':Heap}{tk:Nat}(I:Inv X ac σ H s)(mB:scope.kind=.function)(hc:∀y∈scope.names,y.2≠.cell)
  (gZ:li X.env.cells scope.names []=some cl) (hF:cZ X (relabel scope X.env) fr js) (oU:∀b∈fp,dM X ac H b) (bF:∀b∈fp,b<s.heap.objs.size)
  (hn:h'.Ns s.heap.objs.size (λ_=>none)) (hk:∀b o,s.heap.get? b=some o->h'.get? b=some o):
  Inv (gN X ac (own++fr) scope cl fp s H) [] (mK own js σ) H {s with heap:=h',toks:=tk}:=by
 have sub:=Er _ _ _ gZ (λ_ _ q=>by simp at q);have clt:∀x c,X.env.cells.lookup x=some c->c<s.heap.objs.size:=λx c e=>by obtain⟨v,q⟩:=I.cell x c e;exact q.lt
 refine⟨⟨I.ok.mod,mB,I.ok.glob,I.ok.blt,yg _,λx y c e1 e2=>I.ok.inj x y c (sub _ _ e1) (sub _ _ e2),λx hx=>?_,(λx c q=>L3 (show false=true from q)),I.ok.hd,I.ok.frames,.inl rfl,λb hb=>⟨xn (bF b hb),λx c e=>(oU b hb).2.2.2.2.1 x c (sub x c e)⟩,
  I.bs,v9 I.ok.bsz I.sz,λb o e hb=>?_,λb hb hq=>?_,I.stack,I.stkFree⟩,rfl,I.bare,Un.kept hk,⟨_,hn,λi x v e1 e2 e3=>?_⟩,λx c e=>?_,I.hok.fresh (yg _),λx c e=>I.freeC x c (sub x c e),λp hp=>?_,I.hok.kept hk,?_⟩
 ·exact BB _ _ _ gZ x (.inr (TB hc hx))
 ·rcases(oU b hb).2.2.2.1 with q|q
  ·exact I.ok.noex b o e q
  ·exact absurd (yt (I.ok.bs b o e).1) (yfb.mpr q)
 ·have:=I.stkSub b hq;rcases xc.mp this with z|z
  ·exact(oU b hb).2.1 z
  ·exact(oU b hb).2.2.1 z
 ·have hi:own.length<=i:=by
   refine yc0 λq=>?_;unfold mK at e2;rw[gz (by simpa using q),xh]at e2;cases z:own[i]? with
   |none=>rw[z]at e2;cases e2
   |some y=>rw[z]at e2;cases e2
  have Es:fr[i-own.length]?=some x:=by
   have:(own++fr)[i]?=some x:=e1
   rwa [va hi]at this
  obtain⟨j,hj,nj,kj,lj⟩:=hF.get Es;have mL:BC σ j=some v:=by
   unfold mK at e2;rw[va (by simpa using hi),y3,xh,hj]at e2;exact vm e2
  have e4:σ[j]?=some (some v):=by
   unfold BC at mL;split at mL
   ·rename_i o q;rw[q,mL]
   ·cases mL
  obtain⟨m,hm,hl⟩:=I.loc;obtain⟨u,ru,lk⟩:=hl j x v nj e4 (kj.elim (λq=>.inr (.inl q)) λq=>.inr (.inr q));refine⟨u,ru,.inr ⟨lj,?_⟩⟩;rcases lk with⟨q,_⟩|⟨_,c,ec,ic⟩
  ·rcases kj with k|k<;>(rw[q]at k;cases k)
  ·obtain⟨c',TC⟩:=BB _ _ _ gZ x (.inr (TB hc lj));have:=sub _ _ TC;rw[ec]at this;cases this;exact⟨c,TC,ic.keeps hk⟩
 ·obtain⟨v,q⟩:=I.cell x c (sub x c e);exact⟨v,q.keeps hk⟩
 ·have BD:p∈X.pn++ac:=by
   rcases yw.mp hp with q|q
   ·exact q
   ·simp at q
  obtain⟨q1,q2,q3,q4,q5⟩:=I.pin p BD;refine⟨hk _ _ q1,q2,xn (yt q1),λz=>?_,q5⟩;rcases xc.mp (I.stkSub _ z)with y|y
  ·exact q3 y
  ·exact q4 y
 ·show(mK own js σ).length=(own++fr).length;unfold mK;rw[xi,xi,y3,y3,hF.len]
theorem jft{N:List Str}{scope:Scope}{cl:List (Str×Addr)}{fp:List Addr}{σ':St}{H':Hp}{s':ye}{ps:List (Addr×Obj)}(I:Inv X ac σ H s)(oU:∀b∈fp,dM X ac H b)
  (J:Inv (gN X ac N scope cl fp s H) ps σ' H' s'):Inv X ac σ H' s':=by
 refine I.call' (ch:=fp) J.os J.base J.hok J.bare λb hb=>?_;obtain⟨_,f1,_,f3,f4,f5⟩:=oU b hb;exact⟨f3,f1,f4,f5⟩
end
def cA(a:Addr)(ys:List V):HO:=.ext λh=>ys.length<=sizeLine/\∃(ai:List Value) (n:Nat),am ys ai/\h.get? a=some {cls:=.type "list",data:=.seq ai.toArray n}
variable{H:Hp}{h:Heap}{ys:List V}
theorem TD{P:xf}{w:World}(o:ObjOk P w H h a (.lst ys)):ObjOk P w H h a (cA a ys):=by
 obtain⟨z,ai,n,r,e⟩:=o;exact⟨⟨z,ai,n,r,e⟩,⟨_,e⟩,λh1 h2 ⟨z,ai,n,r,e⟩ k=>⟨z,ai,n,r,k _ e⟩⟩
theorem TF{P:xf}{w:World}(o:ObjOk P w H h a (cA a ys)):ObjOk P w H h a (.lst ys):=by
 obtain⟨⟨z,ai,n,r,e⟩,_⟩:=o;exact⟨z,ai,n,r,e⟩
def TH:HO->Bool
 | .lst _=>true | .ext _=>true|_=>false
variable{X:Cx}{ac:List (Addr×Obj)}{σ:St}{s:ye}
theorem Inv.retrack{o o':HO}(I:Inv X ac σ H s)(h:H a=some o)(hp:TH o=true)(new:∀H',ObjOk X.prog X.w H' s.heap a o'):Inv X ac σ (aH H a o') s:=by
 have ne:∀{b:Addr}{u:HO},H b=some u->TH u=false->b≠a:=λhb hu z=>by subst z;rw[h]at hb;cases hb;rw[hp]at hu;cases hu
 have I':=I.un (h':=s.heap) (t':=s.toks) (H':=aH H a o') ⟨λ_ _ e _ _ _=>e,λb u e _ _ _=>⟨u.slots,e⟩,λb u _ n _=>by rw[bf (λz=>by subst z;rw[h]at n;cases n)];exact n,λb u e _=>⟨u,e⟩,
  λb xs e=>by rw[bf (ne e rfl)];exact e,λb ob u e=>by rw[bf (ne e rfl)];exact e,λb ps e=>⟨#[],by rw[bf (ne e rfl),e];simp⟩⟩ (λb u e=>by
   by_cases hb:b=a
   ·subst hb;rw[bi]at e;cases e;exact new _
   ·rw[bf hb]at e;exact(I.hok b u e).stay (λ_ _ _ q=>q) (λc q=>by rw[bf (ne q rfl)];exact q) λc xs q=>by rw[bf (ne q rfl)];exact q)
 exact I'
theorem TJ{o o':HO}(h:H a=some o)(hd:Tk o=false):Kp H (aH H a o'):=λb u e d=>by
 rw[bf (λz=>by subst z;rw[h]at e;cases e;rw[hd]at d;cases d)];exact e
def jg(J:It)(g:TG)(ts:List TT)(te:TE)(acc:Addr)(σ0:St)(H0:Hp)(Q:Hp->Prop):Prop:=
 ∃W:Nat->Nat->St->List V->Hp->Prop,(∃m,W 0 m σ0 [] (aH H0 acc (cA acc [])))/\∀i m σ ys H,W i m σ ys H->H acc=some (cA acc ys)->
  (J.stop i H/\Q (aH H acc (.lst ys)))\/(J.go i H/\∀x H',J.yld i H x H'->g x σ H' λσ2 H2=>By ts σ2 H2 λb H3=>
   if b=true then te σ2 H3 λy H4=>H4 acc=some (cA acc ys)/\ys.length<sizeLine/\∃m',m'<m/\W (i+1) m' σ2 (ys++[y]) (aH H4 acc (cA acc (ys++[y])))
   else H3 acc=some (cA acc ys)/\∃m',m'<m/\W (i+1) m' σ2 ys H3)
abbrev CA(α:Type):=List (Addr×Obj)->List Addr->ye->Hp->α
def L4(wi:TI)(own:List Str)(js:List Nat)(g:CA TG)(ts:CA (List TT))(te:CA TE):TE:=λσ H Q=>wi σ H λJ H1=>∀acc,H1 acc=none->∀ac fp s Hc,jg J (g ac fp s Hc) (ts ac fp s Hc) (te ac fp s Hc) acc (mK own js σ) H1 λH'=>Q (.ref acc) H'
structure jh(X:Cx)(scope:Scope)(cl:List (Str×Addr))(own fr:List Str)(js:List Nat):Prop where
 kind:scope.kind=.function
 nc:∀y∈scope.names,y.2≠.cell
 nl:∀y∈scope.names,y.2=.local->scope.names.lookup y.1=some .local
 clos:li X.env.cells scope.names []=some cl
 frees:cZ X (relabel scope X.env) fr js
section
variable{X:Cx}{ac:List (Addr×Obj)}{σ:St}{H:Hp}{s:ye}
theorem TL{je tg iter:Expr}{eT:List Expr}{scope:Scope}{pos:Pos}{cl:List (Str×Addr)}{own fr:List Str}{js:List Nat}{g:CA TG}{ts:CA (List TT)}{te:CA TE}{R:Hp->Addr->Prop}{RR:Value->Addr->rY->ye->Prop}{it:Addr}{fp:List Addr}{tn:Nat->Heap->Prop}{J:It}{E:Value->ye->Prop}
  (O:jh X scope cl own fr js) (fY:X.calm=true)
  (hb:∀ac fp s Hc,PG (gN X ac (own++fr) scope cl fp s Hc) tg (g ac fp s Hc)/\dC (gN X ac (own++fr) scope cl fp s Hc) eT (ts ac fp s Hc)/\PE (gN X ac (own++fr) scope cl fp s Hc) je (te ac fp s Hc))
  (I:Inv X ac σ H s) (T:gG X.prog X.w X.K tg J fp it tn) (t0:tn 0 s.heap) (hf:∀b∈fp,dM X ac H b)
  (h:∀acc,H acc=none->∀ac fp s Hc,jg J (g ac fp s Hc) (ts ac fp s Hc) (te ac fp s Hc) acc (mK own js σ) H λH'=>R H' acc)
  (fin:∀acc C H' s' m,Inv X ac σ H' s'->R H' acc->s'.heap.Ns C m->dM X ac H' C->RR (.ref acc) C (.ok .next) s'):
  wpAny (model X.prog X.w) X.A (newList []) (λacc s3=>wpAny (model X.prog X.w) X.A (newFunctionEnv scope X.env.globals cl [] X.env.qual none .none (some X.env)) (λEt s4=>
   codeAny (model X.prog X.w) X.A (.compStart (.ListComp je [⟨tg,iter,eT,0⟩] scope pos) 0 (.ref it) acc {Et with scope:=relabel scope X.env}) (RR acc Et.locals) s4) E s3) E s:=by
 have n0:H s.heap.objs.size=none:=I.hok.fresh (yg _);have flt:∀b∈fp,b<s.heap.objs.size:=λb hb=>by obtain⟨o,e,_⟩:=T.obj 0 _ t0 b hb;exact yt e
 refine qI ?_;have I3:Inv X ac σ (aH H s.heap.objs.size (cA s.heap.objs.size [])) {s with heap:=s.heap.push {cls:=.type "list",data:=.seq ([]:List Value).toArray} }:=
  I.laid (t':=s.toks) (λb o e=>yb _ e) (yg _) (TD (show ObjOk X.prog X.w _ _ _ (.lst [])from⟨gn _,[],0,.nil,yi _ rfl⟩))
 have Eu:∀b∈fp,dM X ac (aH H s.heap.objs.size (cA s.heap.objs.size [])) b:=λb hb=>⟨by rw[bf (xn (flt b hb))];exact(hf b hb).1,(hf b hb).2⟩
 have t3:tn 0 (s.heap.push {cls:=.type "list",data:=.seq ([]:List Value).toArray}):=T.keep _ _ _ t0 λb _ o e=>yb _ e;specialize h s.heap.objs.size n0;generalize hV:({s with heap:=s.heap.push {cls:=.type "list",data:=.seq ([]:List Value).toArray} }:ye)=s3 at I3 ⊢;have L5:tn 0 s3.heap:=by rw[<- hV];exact t3
 have TM:∀b∈fp,b<s3.heap.objs.size:=λb hb=>by rw[<- hV];exact xz (flt b hb) (by rw[vq];exact i6 _)
 generalize TN:aH H s.heap.objs.size (cA s.heap.objs.size [])=H3 at I3 Eu;generalize dQ:s.heap.objs.size=acc at *;refine y9s O.nc (by intro x hx;simp at hx) (λh1 k7 BE=>?_) O.kind;have hk:∀b o,s3.heap.get? b=some o->h1.get? b=some o:=λb o e=>(BE.2 b (xn (yt e))).trans (yb _ e);have Ic:Inv (gN X ac (own++fr) scope cl fp s3 H3) [] (mK own js σ) H3 {s3 with heap:=h1,toks:=s3.toks+0}:=jcu I3 O.kind O.nc O.clos O.frees Eu TM k7 hk;obtain⟨W,⟨m0,w0⟩,turn⟩:=h ac fp s3 H3;obtain⟨hg,ht,he⟩:=hb ac fp s3 H3;have i4:∀{H':Hp}{ps:List (Addr×Obj)},ps=[]->(∀b∈fp,H' b=none)->∀b∈fp,dM (gN X ac (own++fr) scope cl fp s3 H3) ps H' b:=λ{H' ps} mM hn b hb=>by
  obtain⟨f0,f1,f2,f3,f4,f5⟩:=Eu b hb;refine⟨hn b hb,xn (TM b hb),λz=>?_,.inl hb,λx c e=>f4 x c (Er _ _ _ O.clos (λ_ _ q=>by simp at q) x c e),λp hp=>?_⟩
  ·rcases xc.mp (I3.stkSub b z)with q|q
   ·exact f1 q
   ·exact f2 q
  ·subst mM;rcases yw.mp hp with q|q
   ·exact f5 p q
   ·simp at q
 have qJ:∀{sx:ye},Inv (gN X ac (own++fr) scope cl fp s3 H3) [] (mK own js σ) H3 sx->tn 0 sx.heap->
   codeAny (model X.prog X.w) X.A (.compLoop (.ListComp je [⟨tg,iter,eT,0⟩] scope pos) 0 (.ref it) (.ref acc) (compEnvC scope cl s3.heap.objs.size X.env)) (RR (.ref acc) s3.heap.objs.size) sx:=λ{sx} Jx tx=>by
  refine jfs (λn s'=>∃i σc ys H',Inv (gN X ac (own++fr) scope cl fp s3 H3) [] σc H' s'/\tn i s'.heap/\(∀b∈fp,H' b=none)/\H' acc=some (cA acc ys)/\W i n σc ys H') ?_ m0 ⟨0,_,[],H3,Jx,tx,λb hb=>(Eu b hb).1,by rw[<- TN];exact bi,by rw[<- TN];exact w0⟩;rintro n s4 ⟨i,σ4,ys,H4,I4,t4,TQ,a4,w4⟩;rcases turn i n σ4 ys H4 w4 a4 with⟨stop,qn⟩|⟨go,step⟩
  ·refine aN (T.done (gN X ac (own++fr) scope cl fp s3 H3) rfl rfl rfl fY i [] s4 σ4 H4 mJ I4 (i4 rfl TQ) t4 stop) λr s5 ⟨hr,I5⟩=>?_;subst hr;obtain⟨m,hm,_⟩:=id I5.loc;have IX:=jft I3 Eu I5;have IL:=IX.retrack (o':=.lst ys) a4 rfl λH'=>TF (H:=H') (by obtain⟨p1,p2,p3⟩:=IX.hok acc _ a4;exact⟨p1,p2,p3⟩);refine fin acc s3.heap.objs.size _ s5 m IL qn hm (I3.fpOk (yg _) ?_);have c4:H4 s3.heap.objs.size=none:=I5.free;rw[bf (λz=>by rw[z,a4]at c4;cases c4)];exact c4
  ·refine aN (T.item (gN X ac (own++fr) scope cl fp s3 H3) rfl rfl rfl fY i [] s4 σ4 H4 mJ I4 (i4 rfl TQ) t4 go) λr s5 ⟨u,hr,q5⟩=>?_;subst hr;refine aN q5 λ_ s6 ⟨x,H6,I6,r6,y6,t6,fr6⟩=>?_;have I6':=I6.pinned (i4 rfl fr6) (T.obj _ _ t6);refine aN (hg _ s6 σ4 H6 x u _ I6' r6 (step x H6 y6)) λ_ s7 ⟨σ7,H7,I7,q7⟩=>?_;refine aN (Tx eT _ s7 H7 ht I7 q7) λok s8 ⟨H8,I8,q8⟩=>?_;have again:∀{σ9:St}{H9:Hp}{s9:ye}{zs:List V}{m:Nat},Inv (gN X ac (own++fr) scope cl fp s3 H3) ([]++C2 fp s6.heap) σ9 H9 s9->H9 acc=some (cA acc zs)->m<n->W (i+1) m σ9 zs H9->
     ∃m,m<n/\∃i σc ys H',Inv (gN X ac (own++fr) scope cl fp s3 H3) [] σc H' s9/\tn i s9.heap/\(∀b∈fp,H' b=none)/\H' acc=some (cA acc ys)/\W i m σc ys H':=λ{σ9 H9 s9 zs m} I9 a9 hm w9=>by
    refine⟨m,hm,i+1,σ9,zs,H9,I9.unpinned,T.keep _ _ _ t6 λb hb o e=>(I9.pin (b,o) (yf _ (yf _ (HB hb e)))).1,λb hb=>?_,a9,w9⟩;obtain⟨o,e,d⟩:=T.obj _ _ t6 b hb;exact(I9.pin (b,o) (yf _ (yf _ (HB hb e)))).2.1
   cases ok with
   |false=>
    obtain⟨a8,m',hm,w8⟩:=(show H8 acc=some (cA acc ys)/\∃m',m'<n/\W (i+1) m' σ7 ys H8 by simpa using q8)
    exact again I8 a8 hm w8
   |true=>
    have q8':te ac fp s3 H3 σ7 H8 λy H4=>H4 acc=some (cA acc ys)/\ys.length<sizeLine/\∃m',m'<n/\W (i+1) m' σ7 (ys++[y]) (aH H4 acc (cA acc (ys++[y]))):=(by simpa using q8);refine aN (he _ s8 σ7 H8 _ I8 q8') λv s9 ⟨y,H9,I9,r9,a9,hl,m',hm,w9⟩=>?_;have IL:=I9.retrack (o':=.lst ys) a9 rfl λH'=>TF (H:=H') (by obtain⟨p1,p2,p3⟩:=I9.hok acc _ a9;exact⟨p1,p2,p3⟩);refine aN (oQ _ s9 σ7 _ (.ref acc) [y] (.ref acc) [v] (λ_ H'=>H'=aH H9 acc (.lst (ys++[y]))) IL rfl (.cons r9 .nil) ⟨acc,ys,y,rfl,rfl,bi,hl,by rw[RA]⟩) λ_ s10 ⟨_,mN,TR,_,iU⟩=>?_;subst iU;have TU:=TR.retrack (o':=cA acc (ys++[y])) bi rfl λH'=>TD (H:=H') (by obtain⟨p1,p2,p3⟩:=TR.hok acc _ bi;exact⟨p1,p2,p3⟩);rw[RA]at TU;exact again TU bi hm w9
 exact codeAny_compStart_list (qJ Ic (T.keep _ _ _ L5 λb _ o e=>hk b o e)) (T.self _ 0 _ _ _ (T.keep _ _ _ L5 λb _ o e=>hk b o e) (qJ Ic (T.keep _ _ _ L5 λb _ o e=>hk b o e)))
theorem hW{je tg iter:Expr}{eT:List Expr}{scope:Scope}{pos:Pos}{cl:List (Str×Addr)}(own fr:List Str)(js:List Nat){wi:TI}{g:CA TG}{ts:CA (List TT)}{te:CA TE}
  (fY:X.calm=true) (O:jh X scope cl own fr js) (hi:PI X tg iter wi)
  (hb:∀ac fp s Hc,PG (gN X ac (own++fr) scope cl fp s Hc) tg (g ac fp s Hc)/\dC (gN X ac (own++fr) scope cl fp s Hc) eT (ts ac fp s Hc)/\PE (gN X ac (own++fr) scope cl fp s Hc) je (te ac fp s Hc))
  (hs:∀x,foldedSetIterable iter X.env x=pure x:=by intro _;rfl):
  PE X (.ListComp je [⟨tg,iter,eT,0⟩] scope pos) (L4 wi own js g ts te):=by
 intro ac s σ H Q I h;rw[eval_ListComp];refine y7n (use:=none) rfl hs (L1 O.clos) O.kind O.nl (aN (hi ac s σ H _ I h) λxv s1 q1=>aN q1 λHA s2 q2=>?_);obtain⟨it,fp,tn,J,H2,rfl,I2,T,t2,f2,q⟩:=q2;refine TL (RR:=λacc C=>compPost (model X.prog X.w) X.A X.xe none (EP X ac σ Q) acc C) O fY hb I2 T t2 f2 q λacc C H' s' m I' r' hm hC=>⟨m,hm,λh' sb=>?_⟩
 obtain⟨f0,f1,f2,f3,f4,f5⟩:=hC;exact⟨.ref acc,H',I'.turned (t':=s'.toks) (λb o hb e=>(sb.2 b hb).trans e) f0 f1 f3 f4 f5,rfl,r'⟩
theorem sQ{i:Nat}{x:Str}{je tg iter:Expr}{eT:List Expr}{scope:Scope}{pos aY Ev:Pos}{cl:List (Str×Addr)}(own fr:List Str)(js:List Nat){wi:TI}{g:CA TG}{ts:CA (List TT)}{te:CA TE}
  (hN:X.N.Nodup) (hix:X.N[i]?=some x) (hx:Loc X.env.scope x) (fY:X.calm=true) (O:jh X scope cl own fr js) (hi:PI X tg iter wi)
  (hb:∀ac fp s Hc,PG (gN X ac (own++fr) scope cl fp s Hc) tg (g ac fp s Hc)/\dC (gN X ac (own++fr) scope cl fp s Hc) eT (ts ac fp s Hc)/\PE (gN X ac (own++fr) scope cl fp s Hc) je (te ac fp s Hc))
  (hsw:swapsWith (.ListComp je [⟨tg,iter,eT,0⟩] scope pos) (some (.Name x aY)) Ev.line X.env=pure true:=by rfl)
  (hs:∀x,foldedSetIterable iter X.env x=pure x:=by intro _;rfl) (hf:X.fn x=true\/X.env.scope.names.lookup x=some .local:=by first|exact .inl rfl|exact .inr rfl|assumption):
  PS X (.Assign [.Name x aY] (.ListComp je [⟨tg,iter,eT,0⟩] scope pos) Ev) (pT (L4 wi own js g ts te) (iR i)):=by
 intro ac s σ H D I h;rw[exec_Assign_Name_used _ _ _ _ hsw];refine y0 (KI (y0 ?_));show wpAny _ _ (comprehension (.ListComp je [⟨tg,iter,eT,0⟩] scope pos) scope X.env (firstIterPos [⟨tg,iter,eT,0⟩] pos) (newList []) false (eval iter X.env) (some (assign (.Name x aY) X.env)) >>= _) _ _ _;refine y0 ?_;have h':wi σ H λJ H1=>∀acc,H1 acc=none->∀ac fp s Hc,jg J (g ac fp s Hc) (ts ac fp s Hc) (te ac fp s Hc) acc (mK own js σ) H1 λH'=>D.nx (σ.set i (some (.ref acc))) H':=h;refine y7n (use:=some (assign (.Name x aY) X.env)) rfl hs (L1 O.clos) O.kind O.nl (aN (hi ac s σ H _ I h') λxv s1 q1=>aN q1 λHA s2 q2=>?_);obtain⟨it,fp,tn,J,H2,rfl,I2,T,t2,f2,q⟩:=q2;refine TL (RR:=λacc C=>compPost (model X.prog X.w) X.A X.xe (some (assign (.Name x aY) X.env)) _ acc C) O fY hb I2 T t2 f2 q λacc C H' s' m I' r' hm hC=>?_;obtain⟨f0,f1,f2,f3,f4,f5⟩:=hC;obtain⟨oc,es,ep,ho,hd,hr⟩:=id hm;have IP:Inv X (ac++[(C,oc)]) σ H' s':=I'.pins_of λp hp=>by
  rcases yw.mp hp with q|q
  ·exact I'.pin p (yf _ q)
  ·obtain rfl:p=(C,oc):=by simpa using q
   exact⟨ho,f0,f1,f2,λv z=>by rw[hd]at z;cases z⟩
 refine ZY (KE IP hN hix hx (v:=.ref acc) (u:=.ref acc) rfl (λpX TV=>?_) hf);have L6:=(TV.pin (C,oc) (yf _ (yf _ (by simp)))).1;refine⟨m,⟨oc,es,ep,L6,hd,hr⟩,λh' sb=>?_⟩;exact yc (yc ⟨_,H',(TV.unpinned).turned (t':=pX.toks) (λb o hb e=>(sb.2 b hb).trans e) f0 f1 f3 f4 f5,r'⟩)
end
variable{Q:VK}
section
variable{K:yd}{ts:List TT}{te:TE}{acc:Addr}{fr:St}{H1:Hp}{R:Hp->Prop}{xs ys:List V}
theorem yB{wi:TI}{own:List Str}{js:List Nat}{g:CA TG}{ts:CA (List TT)}{te:CA TE}(q:wi σ H λJ H1=>∀acc,H1 acc=none->∀ac fp s Hc,jg J (g ac fp s Hc) (ts ac fp s Hc) (te ac fp s Hc) acc (mK own js σ) H1 λH'=>Q (.ref acc) H'):L4 wi own js g ts te σ H Q:=q
def qK(ts:List TT)(te:TE)(Pv:List V->Hp->Prop)(ys:List V)(H:Hp)(σ2:St)(H2:Hp):Prop:=
 ∀(Y:V->Hp->Prop) (N:Hp->Prop),(∀y H',al H H'->Pv (ys++[y]) H'->Y y H')->(∀H',al H H'->Pv ys H'->N H')->By ts σ2 H2 λb H3=>if b=true then te σ2 H3 Y else N H3
theorem yC{J:It}{g:TG}{σ0:St}(n:Nat)(hz:n<=1000000)(hn:H1 acc=none)(Sv:St->Prop)(Pv:Nat->List V->Hp->Prop)(s0:Sv σ0)(h0:Pv 0 [] H1)(kp:∀i ys H H',Kp H H'->Pv i ys H->Pv i ys H')
  (L7:∀i H,i<n->al H1 H->J.go i H) (eP:∀H,al H1 H->J.stop n H) (len:∀i ys H,i<=n->Pv i ys H->ys.length<=i)
  (turn:∀i σ ys H x H' (G:St->Hp->Prop),i<n->al H1 H->Sv σ->Pv i ys H->J.yld i H x H'->(∀σ2 H2,Sv σ2->qK ts te (Pv (i+1)) ys H σ2 H2->G σ2 H2)->g x σ H' G)
  (fin:∀ys H,al H1 H->H acc=some (.lst ys)->Pv n ys H->R H):jg J g ts te acc σ0 H1 R:=by
 have e0:al H1 (aH H1 acc (cA acc [])):=dG hn;refine⟨λi m σ ys H=>m=n-i/\i<=n/\al H1 H/\Sv σ/\Pv i ys H,⟨n,by omega,gn _,e0,s0,kp _ _ _ _ e0.kp h0⟩,?_⟩;rintro i m σ ys H ⟨rfl,hi,e,sv,pv⟩ ha;by_cases bF:i<n
 ·refine .inr ⟨L7 i H bF e,λx H' y=>turn i σ ys H x H' _ bF e sv pv y λσ2 H2 s2 q2=>?_⟩;refine q2 _ _ (λy H4 e4 p4=>?_) λH3 e3 p3=>?_
  ·have a4:H4 acc=some (cA acc ys):=e4 _ _ ha;have z:ys.length<sizeLine:=by have:=len _ _ _ hi pv;rw[xx];omega
   refine⟨a4,z,n-(i+1),by omega,rfl,bF,λb o hb=>?_,s2,kp _ _ _ _ (TJ a4 rfl) p4⟩;rw[bf (cD hb hn)];exact e4 _ _ (e _ _ hb)
  ·exact⟨e3 _ _ ha,n-(i+1),by omega,rfl,bF,e.tr e3,s2,p3⟩
 ·have vN:i=n:=by omega
  subst vN;refine .inl ⟨eP H e,fin ys _ (λb o hb=>?_) bi (kp _ _ _ _ (TJ ha rfl) pv)⟩;rw[bf (cD hb hn)];exact e _ _ hb
theorem Ew{u:Option V}(hx:SqL K H1 a xs)(hz:xs.length<=1000000)(hn:H1 acc=none)(Pv:Nat->List V->Hp->Prop)(h0:Pv 0 [] H1)(kp:∀i ys H H',Kp H H'->Pv i ys H->Pv i ys H')(len:∀i ys H,i<=xs.length->Pv i ys H->ys.length<=i)
  (turn:∀i x ys H,xs[i]?=some x->al H1 H->Pv i ys H->qK ts te (Pv (i+1)) ys H (some x::fr) H)
  (fin:∀ys H,al H1 H->H acc=some (.lst ys)->Pv xs.length ys H->R H):jg (rS K a) (iR 0) ts te acc (u::fr) H1 R:=by
 refine yC xs.length hz hn (λσ=>∃u,σ=u::fr) Pv ⟨u,rfl⟩ h0 kp (λi H hi e=>⟨xs,xs[i],e.seqL hx,y4 hi⟩) (λH e=>⟨xs,e.seqL hx,yg _⟩) len ?_ fin;rintro i σ ys H x H' G hi e ⟨u,rfl⟩ pv ⟨rfl,y⟩ hG;have:=y xs (e.seqL hx);exact hG _ _ ⟨some x,rfl⟩ (turn i x ys _ this e pv)
theorem Ex{u:Option V}(hx:aZ K H1 a xs)(hz:xs.length<=1000000)(hn:H1 acc=none)(Pv:Nat->List V->Hp->Prop)(h0:Pv 0 [] H1)(kp:∀i ys H H',Kp H H'->Pv i ys H->Pv i ys H')(len:∀i ys H,i<=xs.length->Pv i ys H->ys.length<=i)
  (turn:∀i x ys H,xs[i]?=some x->al H1 H->Pv i ys H->qK ts te (Pv (i+1)) ys H (some x::fr) H)
  (fin:∀ys H,al H1 H->H acc=some (.lst ys)->Pv xs.length ys H->R H):jg (vZ K a) (iR 0) ts te acc (u::fr) H1 R:=by
 refine yC xs.length hz hn (λσ=>∃u,σ=u::fr) Pv ⟨u,rfl⟩ h0 kp (λi H hi e=>⟨xs,xs[i],e.seqT hx,y4 hi⟩) (λH e=>⟨xs,e.seqT hx,yg _⟩) len ?_ fin;rintro i σ ys H x H' G hi e ⟨u,rfl⟩ pv ⟨rfl,y⟩ hG;have:=y xs (e.seqT hx);exact hG _ _ ⟨some x,rfl⟩ (turn i x ys _ this e pv)
theorem sR{lo:Int}{u:Option V}(hz:n<=1000000)(hn:H1 acc=none)(Pv:Nat->List V->Hp->Prop)(h0:Pv 0 [] H1)(kp:∀i ys H H',Kp H H'->Pv i ys H->Pv i ys H')(len:∀i ys H,i<=n->Pv i ys H->ys.length<=i)
  (turn:∀i ys H,i<n->al H1 H->Pv i ys H->qK ts te (Pv (i+1)) ys H (some (.int (lo+i))::fr) H)
  (fin:∀ys H,al H1 H->H acc=some (.lst ys)->Pv n ys H->R H):jg (oB lo n) (iR 0) ts te acc (u::fr) H1 R:=by
 refine yC n hz hn (λσ=>∃u,σ=u::fr) Pv ⟨u,rfl⟩ h0 kp (λi H hi e=>hi) (λH e=>yg _) len ?_ fin;rintro i σ ys H x H' G hi e ⟨u,rfl⟩ pv ⟨rfl,rfl⟩ hG;exact hG _ _ ⟨_,rfl⟩ (turn i ys _ hi e pv)
end
def dH(b:Bool)(h:Heap)(it l:Addr)(k:Nat):Prop:=match b with|false=>h.IsListIter it l k|true=>h.IsTupleIter it l k
def fg(b:Bool)(h:Heap)(l:Addr)(xs:Array Value):Prop:=match b with|false=>h.IsList l xs|true=>h.IsTuple l xs
variable{k:Nat}{it l:Addr}
theorem dH.ex(x:dH b h it l k):∃o,h.get? it=some o/\∀v,o.data≠.cell v:=by
 cases b<;>(obtain⟨o,e,_,d⟩:=x;exact⟨o,e,λv z=>by rw[d]at z;cases z⟩)
theorem dH.at{h':Heap}(x:dH b h it l k)(f:∀o,h.get? it=some o->h'.get? it=some o):dH b h' it l k:=by
 cases b<;>(obtain⟨o,e,r⟩:=x;exact⟨o,f o e,r⟩)
theorem fg.at{h':Heap}{xs:Array Value}(x:fg b h l xs)(f:∀o,h.get? l=some o->h'.get? l=some o):fg b h' l xs:=by
 cases b<;>(obtain⟨o,e,r⟩:=x;exact⟨o,f o e,r⟩)
theorem fg.lt{xs:Array Value}(x:fg b h l xs):l<h.objs.size:=by
 cases b<;>(obtain⟨o,e,_⟩:=x;exact yt e)
theorem dH.lt(x:dH b h it l k):it<h.objs.size:=by
 obtain⟨o,e,_⟩:=x.ex;exact yt e
variable{l1 l2:Addr}{c d:Bool}
section
variable{prog:xf}{w:World}{A:v7}{E:Value->ye->Prop}{s:ye}
theorem jcv{xs:Array Value}{x:Value}{Q:Value->ye->Prop}(i0:s.heap.IsTupleIter it l k)(l0:s.heap.IsTuple l xs)(hx:xs[k]?=some x)
  (q:∀h',h'.IsTupleIter it l (k+1)->i3 it s.heap h'->Q x {s with heap:=h'}):wpAny (model prog w) A (vv (.ref it)) Q E s:=by
 obtain⟨oi,ei,ci,di⟩:=id i0;obtain⟨ol,el,_,nl,dl⟩:=l0;unfold vv;refine y0 (vf (name:=u5 "__next__") i0.typeIs L8 (gj L8 i0.typeIs y6k ?_ (y6d _)));show wpAny _ _ (field (.ref it) 0 >>= _) _ _ _;refine y0 (jH ei di (x:=.ref l) rfl ?_);show wpAny _ _ (if (v5 l==uy)=true then _ else _) _ _ _;rw[if_neg (show ¬ ((v5 l==uy)=true)from λz=>xj z)];show wpAny _ _ (field (.ref it) 1 >>= _) _ _ _;refine y0 (jH ei di (x:=.int k 0) rfl ?_);show wpAny _ _ (seqItems? (.ref l) >>= _) _ _ _;refine y0 (um el dl ?_);simp only[yx,hx];refine y0 (L9 ei di (by simp) (yc ⟨x,rfl,yc (q _ ⟨_,vy _ ei (y92 (Ma di _)),(yb4 ..).trans ci,?_⟩ (ul ..))⟩));rw[Ma di];simp[rawInt]
theorem jfu{xs:Array Value}{Q:Value->ye->Prop}(hh:A.handled=none)(i0:s.heap.IsTupleIter it l k)(l0:s.heap.IsTuple l xs)(hx:xs[k]?=none)
  (q:∀h' e,Io it s.heap h'->(∃o,h'.get? e=some o/\o.cls=.type "StopIteration")->E (.ref e) {s with heap:=h'}):wpAny (model prog w) A (vv (.ref it)) Q E s:=by
 obtain⟨oi,ei,ci,di⟩:=id i0;obtain⟨ol,el,_,nl,dl⟩:=l0;unfold vv;refine y0 (vf (name:=u5 "__next__") i0.typeIs L8 (gj L8 i0.typeIs y6k ?_ (y6d _)));show wpAny _ _ (field (.ref it) 0 >>= _) _ _ _;refine y0 (jH ei di (x:=.ref l) rfl ?_);show wpAny _ _ (if (v5 l==uy)=true then _ else _) _ _ _;rw[if_neg (show ¬ ((v5 l==uy)=true)from λz=>xj z)];show wpAny _ _ (field (.ref it) 1 >>= _) _ _ _;refine y0 (jH ei di (x:=.int k 0) rfl ?_);show wpAny _ _ (seqItems? (.ref l) >>= _) _ _ _;refine y0 (um el dl ?_);simp only[yx,hx];refine y0 (yD (y0 (L9 ei di (by simp) ?_)));show wpAny _ _ (newExc (.type "StopIteration") [] >>= _) _ _ _;refine y0 ?_;simp only[newExc,newTuple];refine y0 (vp ?_ (by size_fits));refine y0 (m:=firstArgMember _ _) (ji (a:=uy) (by first|rfl|(simp only[firstArgMember];rfl)) ?_);refine vp ?_ (by size_fits);simp only[raiseNew];refine y0 (Mb ?_)
 first|rw[show A.in1.handled=none from hh]|rw[hh]
 refine y0 (yc (Mc ?_));exact q _ _ (((ul ..).extBut.push _).push _) ⟨_,yi _ rfl,rfl⟩
theorem Md{xs:Array Value}{x:Value}{Q:Value->ye->Prop}(i0:dH b s.heap it l k)(l0:fg b s.heap l xs)(hx:xs[k]?=some x)
  (q:∀h',dH b h' it l (k+1)->i3 it s.heap h'->Q x {s with heap:=h'}):wpAny (model prog w) A (vv (.ref it)) Q E s:=by
 cases b
 ·exact wpAny_nextOf_list_item i0 l0 hx q
 ·exact jcv i0 l0 hx q
theorem TW{xs:Array Value}{Q:Value->ye->Prop}(hh:A.handled=none)(i0:dH b s.heap it l k)(l0:fg b s.heap l xs)(hx:xs[k]?=none)
  (q:∀h' e,Io it s.heap h'->(∃o,h'.get? e=some o/\o.cls=.type "StopIteration")->E (.ref e) {s with heap:=h'}):wpAny (model prog w) A (vv (.ref it)) Q E s:=by
 cases b
 ·exact wpAny_nextOf_list_end hh i0 l0 hx q
 ·exact jfu hh i0 l0 hx q
theorem jfv{c d:Bool}{z TI TO i1 i2:Addr}{k:Nat}{xs ys:Array Value}{x y p q:Value}{Q:Option Value->ye->Prop}(D:ZipApart z TI TO i1 i2 l1 l2)
  (hz:IsZip s.heap z TI TO .none) (hI:iV s.heap TI (.ref i1) (.ref i2)) (hO:iV s.heap TO p q) (a1:dH c s.heap i1 l1 k) (a2:dH d s.heap i2 l2 k) (b1:fg c s.heap l1 xs) (b2:fg d s.heap l2 ys) (hx:xs[k]?=some x) (hy:ys[k]?=some y)
  (hQ:∀h',IsZip h' z TI TO (rawInt s.heap.objs.size)->iV h' TO x y->dH c h' i1 l1 (k+1)->dH d h' i2 l2 (k+1)->iV h' s.heap.objs.size x y->
   (∀e o,e≠z->e≠TO->e≠i1->e≠i2->s.heap.get? e=some o->h'.get? e=some o)->Q (some (.ref s.heap.objs.size)) {s with heap:=h'}):wpAny (model prog w) A (pyNext (.ref z)) Q E s:=by
 have tz:s.TypeIs (.ref z) "zip":=⟨_,hz,rfl⟩
 unfold pyNext;refine y0 (yE (vf (name:=u5 "__next__") tz Me (gj Me tz ybw ?_ (yaw _))));show wpAny _ _ (field (.ref z) 2 >>= _) _ _ _;refine y0 (jH hz rfl (x:=.bool false) rfl ?_);show wpAny _ _ (field (.ref z) 3 >>= _) _ _ _;refine y0 (jH hz rfl (x:=.ref TI) rfl (y0 (um hI rfl ?_)));show wpAny _ _ (Mf (.ref z) >>= _) _ _ _;refine y0 ?_;unfold Mf;refine y0 (jH hz rfl (x:=.none) rfl (yc ?_));simp only[if_true];refine y0 (yD (y0 (jH hz rfl (x:=.ref TO) rfl (y0 (uk hz (by simp) λg1 z1 s1=>?_)))));replace z1:IsZip g1 z TI TO .ellipsis:=z1;refine y0 ?_;simp only[ybz,yce,BA,TX];refine y0 (y0 (Mg ?_));show wpAny _ _ (vv (.ref i1) >>= _) _ _ _;refine y0 (Md (a1.at λo e=>s1.extBut _ o D.i1z e) (b1.at λo e=>s1.extBut _ o D.l1z e) hx λg2 j1 s2=>yc ?_);have o2:iV g2 TO p q:=s2.extBut _ _ D.TOi1 (s1.extBut _ _ D.TOz hO);refine y0 (um o2 rfl (y0 (TY o2 λg3 o3 s3=>y0 (sT (yc ?_)))));replace o3:iV g3 TO x q:=o3;refine y0 (y0 (Mg ?_));show wpAny _ _ (vv (.ref i2) >>= _) _ _ _;refine y0 (Md (a2.at λo e=>s3.extBut _ o D.TOi2.symm (s2.extBut _ o D.i12.symm (s1.extBut _ o D.i2z e))) (b2.at λo e=>s3.extBut _ o D.l2TO (s2.extBut _ o D.l2i1 (s1.extBut _ o D.l2z e))) hy λg4 j2 s4=>yc ?_);have o4:iV g4 TO x q:=s4.extBut _ _ D.TOi2 o3;refine y0 (um o4 rfl (y0 (TY o4 λg5 o5 s5=>y0 (sT (yc (yc ?_))))));replace o5:iV g5 TO x y:=o5;refine y0 (um o5 rfl (y0 (TZ ?_)));have n5:g5.objs.size=s.heap.objs.size:=by rw[s5.1,s4.1,s3.1,s2.1,s1.1]
 have z5:IsZip g5 z TI TO .ellipsis:=s5.extBut _ _ D.TOz.symm (s4.extBut _ _ D.i2z.symm (s3.extBut _ _ D.TOz.symm (s2.extBut _ _ D.i1z.symm z1)));have k5:∀e o,e≠z->e≠TO->e≠i1->e≠i2->s.heap.get? e=some o->g5.get? e=some o:=λe o q1 q2 q3 q4 h=>s5.extBut _ _ q2 (s4.extBut _ _ q4 (s3.extBut _ _ q2 (s2.extBut _ _ q3 (s1.extBut _ _ q1 h))));have j5:dH c g5 i1 l1 (k+1):=j1.at λo e=>s5.extBut _ o D.TOi1.symm (s4.extBut _ o D.i12 (s3.extBut _ o D.TOi1.symm e));have m5:dH d g5 i2 l2 (k+1):=j2.at λo e=>s5.extBut _ o D.TOi2.symm e;have lz:z<g5.objs.size:=yt z5;show wpAny _ _ (y3q (.ref z) (.ref g5.objs.size) >>= _) _ _ _;refine y0 ?_;unfold y3q;have z6:IsZip (g5.push {cls:=.type "tuple",data:=.seq #[x,y]}) z TI TO .ellipsis:=yb _ z5;refine y0 (uk z6 (by simp) λg7 z7 s7=>?_);replace z7:IsZip g7 z TI TO (rawInt g5.objs.size):=z7;refine uk z7 (by simp) λg8 z8 s8=>?_;replace z8:IsZip g8 z TI TO (rawInt g5.objs.size):=z8;have k8:∀e o,e≠z->g5.get? e=some o->g8.get? e=some o:=λe o q1 h=>s8.extBut _ _ q1 (s7.extBut _ _ q1 (yb _ h));have t8:iV g8 g5.objs.size x y:=s8.extBut _ _ (jZ lz) (s7.extBut _ _ (jZ lz) (yi _ rfl));refine yc ⟨_,rfl,yc ?_⟩;rw[n5]at z8 t8;show Q (some (.ref g5.objs.size)) _;rw[n5];exact hQ g8 z8 (k8 _ _ D.TOz o5) (j5.at λo e=>k8 _ o D.i1z e) (m5.at λo e=>k8 _ o D.i2z e) t8 λe o q1 q2 q3 q4 h=>k8 e o q1 (k5 e o q1 q2 q3 q4 h)
theorem jjc{c d:Bool}{z TI TO i1 i2 l1 l2:Addr}{k:Nat}{xs ys:Array Value}{p q:Value}{Q:Option Value->ye->Prop}(hh:A.handled=none)(D:ZipApart z TI TO i1 i2 l1 l2)
  (hz:IsZip s.heap z TI TO .none) (hI:iV s.heap TI (.ref i1) (.ref i2)) (hO:iV s.heap TO p q) (a1:dH c s.heap i1 l1 k) (a2:dH d s.heap i2 l2 k) (b1:fg c s.heap l1 xs) (b2:fg d s.heap l2 ys) (Mh:xs[k]?=none\/ys[k]?=none)
  (hQ:∀h',(∀e o,e≠z->e≠TO->e≠i1->e≠i2->s.heap.get? e=some o->h'.get? e=some o)->Q none {s with heap:=h'}):wpAny (model prog w) A (pyNext (.ref z)) Q E s:=by
 have tz:s.TypeIs (.ref z) "zip":=⟨_,hz,rfl⟩
 have stopped:∀{h':Heap}{e:Addr},(∃o,h'.get? e=some o/\o.cls=.type "StopIteration")->(∀e o,e≠z->e≠TO->e≠i1->e≠i2->s.heap.get? e=some o->h'.get? e=some o)->
   wpAny (model prog w) A (do if <- isInstance (.ref e) (.type "StopIteration")then pure (none:Option Value)else throw (.ref e)) Q E {s with heap:=h'}:=λ{h' e} ⟨o,ho,hc⟩ hk=>
  y0 (BF (T:="StopIteration") (b:=true) ⟨o,ho,hc⟩ Mi (yc (hQ _ hk)))
 unfold pyNext;refine y0 (yE (vf (name:=u5 "__next__") tz Me (gj Me tz ybw ?_ (yaw _))));show wpAny _ _ (field (.ref z) 2 >>= _) _ _ _;refine y0 (jH hz rfl (x:=.bool false) rfl ?_);show wpAny _ _ (field (.ref z) 3 >>= _) _ _ _;refine y0 (jH hz rfl (x:=.ref TI) rfl (y0 (um hI rfl ?_)));show wpAny _ _ (Mf (.ref z) >>= _) _ _ _;refine y0 ?_;unfold Mf;refine y0 (jH hz rfl (x:=.none) rfl (yc ?_));simp only[if_true];refine y0 (yD (y0 (jH hz rfl (x:=.ref TO) rfl (y0 (uk hz (by simp) λg1 z1 s1=>?_)))));replace z1:IsZip g1 z TI TO .ellipsis:=z1;refine y0 ?_;simp only[ybz,yce,BA,TX];refine y0 (y0 (Mg ?_));show wpAny _ _ (vv (.ref i1) >>= _) _ _ _;cases hx:xs[k]? with
 |none=>
  refine y0 (TW hh (a1.at λo e=>s1.extBut _ o D.i1z e) (b1.at λo e=>s1.extBut _ o D.l1z e) hx λg2 e s2 ⟨oe,he,ce⟩=>?_);have z2:IsZip g2 z TI TO .ellipsis:=s2 _ _ D.i1z.symm z1;have ez:e≠z:=λy=>by subst y;rw[z2]at he;cases he;simp at ce
  exact uk z2 (by simp) λg3 _ s3=>stopped ⟨oe,s3.extBut _ _ ez he,ce⟩ λe o q1 _ q3 _ h=>s3.extBut _ _ q1 (s2 _ _ q3 (s1.extBut _ _ q1 h))
 |some x=>
  have hy:ys[k]?=none:=Mh.resolve_left (by rw[hx];simp);refine y0 (Md (a1.at λo e=>s1.extBut _ o D.i1z e) (b1.at λo e=>s1.extBut _ o D.l1z e) hx λg2 j1 s2=>yc ?_);have o2:iV g2 TO p q:=s2.extBut _ _ D.TOi1 (s1.extBut _ _ D.TOz hO);refine y0 (um o2 rfl (y0 (TY o2 λg3 o3 s3=>y0 (sT (yc ?_)))));refine y0 (y0 (Mg ?_));show wpAny _ _ (vv (.ref i2) >>= _) _ _ _;refine y0 (TW hh (a2.at λo e=>s3.extBut _ o D.TOi2.symm (s2.extBut _ o D.i12.symm (s1.extBut _ o D.i2z e))) (b2.at λo e=>s3.extBut _ o D.l2TO (s2.extBut _ o D.l2i1 (s1.extBut _ o D.l2z e))) hy λg4 e s4 ⟨oe,he,ce⟩=>?_);have z4:IsZip g4 z TI TO .ellipsis:=s4 _ _ D.i2z.symm (s3.extBut _ _ D.TOz.symm (s2.extBut _ _ D.i1z.symm z1));have ez:e≠z:=λy=>by subst y;rw[z4]at he;cases he;simp at ce
  exact uk z4 (by simp) λg5 _ s5=>stopped ⟨oe,s5.extBut _ _ ez he,ce⟩ λe o q1 q2 q3 q4 h=>s5.extBut _ _ q1 (s4 _ _ q4 (s3.extBut _ _ q2 (s2.extBut _ _ q3 (s1.extBut _ _ q1 h))))
def fQ(b:Bool)(l:Addr):Obj:={cls:=.type (if b then "tuple_iterator" else "list_iterator"),data:=.fields #[.ref l,.int 0 0]}
theorem Mj{xs:Array Value}{Q:Value->ye->Prop}(h:fg b s.heap l xs)(q:Q (.ref s.heap.objs.size) {s with heap:=s.heap.push (fQ b l)}):wpAny (model prog w) A (pyIter (.ref l)) Q E s:=by
 cases b
 ·exact RP h q
 ·exact RQ h q
theorem Ml(e:h.get? it=some (fQ b l)):dH b h it l 0:=by
 cases b<;>exact⟨_,e,rfl,rfl⟩
abbrev Ip(c:Bool)(h:Heap)(l1:Addr):Heap:=h.push (fQ c l1)
abbrev Iq(c d:Bool)(h:Heap)(l1 l2:Addr):Heap:=(Ip c h l1).push (fQ d l2)
abbrev Ir(c d:Bool)(h:Heap)(l1 l2:Addr):Heap:=(Iq c d h l1 l2).push {cls:=.type "tuple",data:=.seq #[.ref h.objs.size,.ref (Ip c h l1).objs.size]}
abbrev Iu(c d:Bool)(h:Heap)(l1 l2:Addr):Heap:=(Ir c d h l1 l2).push {cls:=.type "tuple",data:=.seq #[.none,.none]}
abbrev BG(c d:Bool)(h:Heap)(l1 l2:Addr):Heap:=(Iu c d h l1 l2).push {cls:=.type "zip",data:=.fields #[.none,.bool false,.bool false,.ref (Iq c d h l1 l2).objs.size,.ref (Ir c d h l1 l2).objs.size]}
theorem jje(c d:Bool)(l1 l2:Addr)(xs ys:Array Value):Meets (Builtin.«zip.__new__» ⟨[.type "zip",.ref l1,.ref l2],[]⟩) (λ_ R s=>fg c s.heap l1 xs/\fg d s.heap l2 ys/\R (.ok (.ret (.ref (Iu c d s.heap l1 l2).objs.size))) {s with heap:=BG c d s.heap l1 l2}):=
 .of_wp λprog w A R s h=>by
  obtain⟨hp,g,dd,tk,os⟩:=s;obtain⟨m1,m2,h⟩:=h;have Ey:=PySem.sub_zip;have M1:fg c (yex ⟨hp,g,dd,tk,os⟩) l1 xs:=m1;have M2:fg d (yex ⟨hp.push (fQ c l1),g,dd,tk,os⟩) l2 ys:=m2.at λo e=>yb _ e
  wp_walk using Mj M1,Mj M2
  exact⟨_,rfl,h⟩
theorem jfw{xs ys:Array Value}{Q:Value->ye->Prop}(m1:fg c s.heap l1 xs)(m2:fg d s.heap l2 ys)
  (h:∀h',IsZip h' (s.heap.objs.size+4) (s.heap.objs.size+2) (s.heap.objs.size+3) .none->iV h' (s.heap.objs.size+2) (.ref s.heap.objs.size) (.ref (s.heap.objs.size+1))->
   iV h' (s.heap.objs.size+3) .none .none->dH c h' s.heap.objs.size l1 0->dH d h' (s.heap.objs.size+1) l2 0->(∀e o,s.heap.get? e=some o->h'.get? e=some o)->Q (.ref (s.heap.objs.size+4)) {s with heap:=h'}):
  wpAny (model prog w) A (call (.type "zip") [.ref l1,.ref l2]) Q E s:=by
 refine callType_new F.called_zip (by decide) (F.typeCall_zip_2 _ _) (F.newCall_zip_2 _ _) (λobj=>F.args_object_init_3 obj _ _) F.entry_zip_new (jje c d l1 l2 xs ys) ⟨m1,m2,?_⟩;have n1:(Ip c s.heap l1).objs.size=s.heap.objs.size+1:=vq ..;have n2:(Iq c d s.heap l1 l2).objs.size=s.heap.objs.size+2:=by rw[vq,n1]
 have n3:(Ir c d s.heap l1 l2).objs.size=s.heap.objs.size+3:=by rw[vq,n2]
 have n4:(Iu c d s.heap l1 l2).objs.size=s.heap.objs.size+4:=by rw[vq,n3]
 have up1:∀{h:Heap}{o u:Obj}{e:Addr},h.get? e=some u->(h.push o).get? e=some u:=λq=>yb _ q;have g5:(BG c d s.heap l1 l2).get? (Iu c d s.heap l1 l2).objs.size=some _:=yi _ rfl;have g4:(BG c d s.heap l1 l2).get? (Ir c d s.heap l1 l2).objs.size=some _:=up1 (yi _ rfl);have g3:(BG c d s.heap l1 l2).get? (Iq c d s.heap l1 l2).objs.size=some _:=up1 (up1 (yi _ rfl));have g2:(BG c d s.heap l1 l2).get? (Ip c s.heap l1).objs.size=some (fQ d l2):=up1 (up1 (up1 (yi _ (by cases d<;>rfl))));have g1:(BG c d s.heap l1 l2).get? s.heap.objs.size=some (fQ c l1):=up1 (up1 (up1 (up1 (yi _ (by cases c<;>rfl)))));show _/\_;rw[n2,n3,n4]at g5;rw[n1,n2]at g3;rw[n3]at g4;rw[n1]at g2;rw[n4];exact⟨⟨_,g5,rfl⟩,h _ g5 g3 g4 (Ml g1) (Ml g2) λe o q=>up1 (up1 (up1 (up1 (up1 q))))⟩
end
def fh(K:yd)(H:Hp)(a:Addr)(xs:List V):Bool->Prop
 |false=>SqL K H a xs
 |true=>aZ K H a xs
theorem fh.mono{H':Hp}(e:al H H')(h:fh K H a xs b):fh K H' a xs b:=by
 cases b
 ·exact e.seqL h
 ·exact e.seqT h
theorem Inv.sqe(I:Inv X ac σ H s)(h:fh X.K H a xs b):∃ai:List Value,am xs ai/\fg b s.heap a ai.toArray/\xs.length<=sizeLine:=by
 cases b
 ·obtain⟨ai,r,p,z⟩:=I.list h;exact⟨ai,r,p.isList,z⟩
 ·obtain⟨ai,r,p,z⟩:=I.tuple h;exact⟨ai,r,p,z⟩
theorem Inv.sqe_inj(I:Inv X ac σ H s)(h:fh X.K H a xs b)(h':fh X.K H a ys b):xs=ys:=by
 cases b
 ·exact I.list_inj h h'
 ·exact I.tuple_inj h h'
def jj(K:yd)(c d:Bool)(p q:Addr):It:=
 ⟨λi H=>∃xs ys,fh K H p xs c/\fh K H q ys d/\i<xs.length/\i<ys.length,
   λi H x H'=>∃r u v,H r=none/\x=.ref r/\H'=aH H r (.tup [u,v])/\∀xs ys,fh K H p xs c->fh K H q ys d->xs[i]?=some u/\ys[i]?=some v,
   λi H=>∃xs ys,fh K H p xs c/\fh K H q ys d/\(xs.length<=i\/ys.length<=i)⟩
def zst(c d:Bool)(z TI TO i1 i2 l1 l2:Addr)(i:Nat)(h:Heap):Prop:=IsZip h z TI TO .none/\iV h TI (.ref i1) (.ref i2)/\(∃a b,iV h TO a b)/\dH c h i1 l1 i/\dH d h i2 l2 i
theorem jfx{P:xf}{w:World}{K:yd}{es:List Expr}{kx:Nat}{tp:Pos}{cc dd:Bool}{z TI TO i1 i2:Addr}(D:ZipApart z TI TO i1 i2 l1 l2):
  gG P w K (.Tuple es kx tp) (jj K cc dd l1 l2) [z,TI,TO,i1,i2] z (zst cc dd z TI TO i1 i2 l1 l2) where
 mem:=by simp
 obj:=λi h st b hb=>by
  obtain⟨hz,mO,⟨a,c,oV⟩,s1,s2⟩:=st;simp only[xc,oW,or_false]at hb;rcases hb with rfl|rfl|rfl|rfl|rfl
  ·exact⟨_,hz,λv q=>by cases q⟩
  ·exact⟨_,mO,λv q=>by cases q⟩
  ·exact⟨_,oV,λv q=>by cases q⟩
  ·exact s1.ex
  ·exact s2.ex
 keep:=λi h h' st k=>by
  obtain⟨hz,mO,⟨a,c,oV⟩,s1,s2⟩:=st;exact⟨k z (by simp) _ hz,k TI (by simp) _ mO,⟨a,c,k TO (by simp) _ oV⟩,s1.at λo e=>k i1 (by simp) o e,s2.at λo e=>k i2 (by simp) o e⟩
 item:=by
  intro X hP hw hK hc i ac s σ H E I hf st hg;subst hP hw hK;obtain⟨xs,ys,hx,hy,lx,ly⟩:=hg;obtain⟨hz,mO,⟨a,c,oV⟩,s1,s2⟩:=id st;obtain⟨us,ru,pu,zu⟩:=I.sqe hx;obtain⟨ws,io,pw,zw⟩:=I.sqe hy;obtain⟨u,eu,r1⟩:=ru.get (y4 lx);obtain⟨v,ev,r2⟩:=io.get (y4 ly);refine jfv D hz mO oV s1 s2 pu pw (x:=u) (y:=v) (by simpa using eu) (by simpa using ev) λh1 z1 t1 j1 j2 np kk=>⟨_,rfl,?_⟩
  refine wpAny_letOwnedTupleGo_zip z1 λh2 z2 sb=>?_;have nT:s.heap.objs.size≠z:=jZ (yt hz);have kk2:∀b o,b∉[z,TI,TO,i1,i2]->s.heap.get? b=some o->h2.get? b=some o:=λb o hb e=>by
   simp only[xc,oW,or_false,not_or]at hb;exact sb.extBut b o hb.1 (kk b o hb.1 hb.2.2.1 hb.2.2.2.1 hb.2.2.2.2 e)
  have T0:iV h2 s.heap.objs.size u v:=sb.extBut _ _ nT np;have I2:=I.turnLaid (t':=s.toks) (a:=s.heap.objs.size) (o:=.tup [xs[i],ys[i]]) kk2 hf (yg _) (show ObjOk X.prog X.w _ h2 _ (.tup [xs[i],ys[i]])from⟨by show 2<=sizeLine;rw[xx];decide,[u,v],.cons r1 (.cons r2 .nil),⟨⟨_,T0,rfl,0,rfl⟩,_,T0,rfl⟩⟩);refine⟨.ref s.heap.objs.size,_,I2,rfl,⟨_,_,_,I.hok.fresh (yg _),rfl,rfl,λEz ys' e1 e2=>?_⟩,?_,λb hb=>?_⟩
  ·rw[I.sqe_inj e1 hx,I.sqe_inj e2 hy];exact⟨y4 lx,y4 ly⟩
  ·exact⟨z2,sb.extBut _ _ D.TIz (kk TI _ D.TIz D.TITO D.TIi1 D.TIi2 mO),⟨_,_,sb.extBut _ _ D.TOz t1⟩,j1.at λo e=>sb.extBut _ o D.i1z e,j2.at λo e=>sb.extBut _ o D.i2z e⟩
  ·rw[bf (λq=>?_)]
   ·exact(hf b hb).1
   ·have lt:b<s.heap.objs.size:=by
     simp only[xc,oW,or_false]at hb;rcases hb with rfl|rfl|rfl|rfl|rfl
     ·exact yt hz
     ·exact yt mO
     ·exact yt oV
     ·exact s1.lt
     ·exact s2.lt
    exact absurd lt (by rw[q];exact A4 _)
 done:=by
  intro X hP hw hK hc i ac s σ H E I hf st hg;subst hP hw hK;obtain⟨xs,ys,hx,hy,hl⟩:=hg;obtain⟨hz,mO,⟨a,c,oV⟩,s1,s2⟩:=st;obtain⟨us,ru,pu,zu⟩:=I.sqe hx;obtain⟨ws,io,pw,zw⟩:=I.sqe hy;have l1:=ru.length;have l2:=io.length;refine jjc (I.ok.hd hc) D hz mO oV s1 s2 pu pw ?_ λh1 kk=>⟨rfl,I.turns (t':=s.toks) (ch:=[z,TI,TO,i1,i2]) (λb o hb e=>?_) hf⟩
  ·rcases hl with q|q
   ·exact .inl (by simp;omega)
   ·exact .inr (by simp;omega)
  ·simp only[xc,oW,or_false,not_or]at hb;exact kk b o hb.1 hb.2.2.1 hb.2.2.2.1 hb.2.2.2.2 e
 self:=λ_ _ _ _ _ st h=>yc6 st.1 h
section
variable{X:Cx}
def sU(K:yd)(ta:TA):TI:=λσ H R=>ta σ H λvs H1=>∃p q xs ys c d,vs=[.ref p,.ref q]/\fh K H1 p xs c/\fh K H1 q ys d/\R (jj K c d p q) H1
theorem Mm{es:List Expr}{kx:Nat}{tp:Pos}{a b:Expr}{ta:TA}{p pos:Pos}(hg:Gl X "zip")(hm:X.mg "zip"=none)(ha:PA X [a,b] ta)(hs:starEach [a,b] X.env=[(false,eval a X.env),(false,eval b X.env)]:=by rfl)(Dd:starEach [b] X.env=[(false,eval b X.env)]:=by rfl):
  PI X (.Tuple es kx tp) (.Call (.Name "zip" p) [a,b] [] pos) (sU X.K ta):=by
 intro ac s σ H R I h;refine Call_ (jY I hg hm boot_zip (u0 (aN (ha pos ac s σ H _ I h) λus s1 ⟨vs,H1,I1,r1,q1⟩=>?_) (by rw[hs,Dd]) (by rw[Dd];rfl)));obtain⟨p1,p2,xs,ys,c,d,e,hx,hy,q⟩:=q1;subst e;obtain⟨u,v,rfl,ru,rv⟩:=C9 r1;cases ru;cases rv;obtain⟨i1,ri1,T3,z1⟩:=I1.sqe hx;obtain⟨i2,ri2,Iv,z2⟩:=I1.sqe hy;refine jfw T3 Iv λh' hz mO oV j1 j2 hk=>?_;have I2:Inv X ac σ H1 {s1 with heap:=h'}:=I1.kept (t':=s1.toks) hk;refine yc6 (s:={s1 with heap:=h'}) hz ⟨_,[s1.heap.objs.size+4,s1.heap.objs.size+2,s1.heap.objs.size+3,s1.heap.objs.size,s1.heap.objs.size+1],_,_,H1,rfl,I2,jfx (zipApart_new T3.lt Iv.lt),⟨hz,mO,⟨_,_,oV⟩,j1,j2⟩,λb hb=>?_,q⟩;have km:s1.heap.objs.size<=b:=by
  simp only[xc,oW,or_false]at hb;rcases hb with rfl|rfl|rfl|rfl|rfl<;>omega
 exact I1.fpOk km (I1.hok.fresh km)
end
variable{q:Addr}
theorem jjf{g:TG}{tb:TS}{D:Ends}(Pv:Nat->St->Hp->Prop)(hl:xs.length=ys.length)(h0:Pv 0 σ H)(hq:∀i σ H,i<=xs.length->Pv i σ H->fh K H p xs c/\fh K H q ys d)
  (hs:∀i x y σ H r,xs[i]?=some x->ys[i]?=some y->Pv i σ H->H r=none->g (.ref r) σ (aH H r (.tup [x,y])) λσ2 H2=>tb {D with nx:=Pv (i+1),ct:=Pv (i+1),bk:=D.nx} σ2 H2) (hd:∀σ H,Pv xs.length σ H->D.nx σ H):
  ∃W:Nat->Nat->St->Hp->Prop,(∃m,W 0 m σ H)/\∀i m σ H,W i m σ H->
   ((jj K c d p q).stop i H/\D.nx σ H)\/((jj K c d p q).go i H/\∃N:St->Hp->Prop,(∀σ' H',N σ' H'->∃m',m'<m/\W (i+1) m' σ' H')/\∀x H',(jj K c d p q).yld i H x H'->g x σ H' λσ2 H2=>tb {D with nx:=N,ct:=N,bk:=D.nx} σ2 H2):=by
 refine⟨λi m σ H=>m=xs.length-i/\i<=xs.length/\Pv i σ H,⟨xs.length,by simp,gn _,h0⟩,?_⟩;rintro i m σ H ⟨rfl,hi,pv⟩;obtain⟨q1,q2⟩:=hq i σ H hi pv;by_cases bF:i<xs.length
 ·refine .inr ⟨⟨xs,ys,q1,q2,bF,by omega⟩,Pv (i+1),λσ' H' p'=>⟨xs.length-(i+1),by omega,rfl,bF,p'⟩,λx H' y=>?_⟩;obtain⟨r,u,v,n,rfl,rfl,y⟩:=y;obtain⟨e1,e2⟩:=y xs ys q1 q2;exact hs i u v σ _ r e1 e2 pv n
 ·have e:i=xs.length:=by omega
  subst e;exact .inl ⟨⟨xs,ys,q1,q2,.inl (yg _)⟩,hd σ H pv⟩
variable{zs:List V}
theorem T4{ts:List TT}{te:TE}{acc:Addr}{fr:St}{H1:Hp}{R:Hp->Prop}{u v:Option V}(hx:fh K H1 p xs c)(hy:fh K H1 q zs d)(hl:xs.length=zs.length)(hz:xs.length<=1000000)(hn:H1 acc=none)(Pv:Nat->List V->Hp->Prop)(h0:Pv 0 [] H1)(kp:∀i ys H H',Kp H H'->Pv i ys H->Pv i ys H')(len:∀i ys H,i<=xs.length->Pv i ys H->ys.length<=i)
  (turn:∀i x z ys H H',xs[i]?=some x->zs[i]?=some z->al H1 H->al H H'->Pv i ys H->qK ts te (Pv (i+1)) ys H (some x::some z::fr) H')
  (fin:∀ys H,al H1 H->H acc=some (.lst ys)->Pv xs.length ys H->R H):jg (jj K c d p q) (pR K 2 (Ba (iR 0) (Ba (iR 1) pQ))) ts te acc (u::v::fr) H1 R:=by
 refine yC xs.length hz hn (λσ=>∃u v,σ=u::v::fr) Pv ⟨u,v,rfl⟩ h0 kp (λi H hi e=>⟨xs,zs,hx.mono e,hy.mono e,hi,by omega⟩) (λH e=>⟨xs,zs,hx.mono e,hy.mono e,.inl (yg _)⟩) len ?_ fin;rintro i σ ys H x H' G hi e ⟨u,v,rfl⟩ pv ⟨r,y1,y2,nr,rfl,rfl,y⟩ hG;obtain⟨e1,e2⟩:=y xs zs (hx.mono e) (hy.mono e);exact⟨r,[y1,y2],rfl,aZ.of bi,rfl,y1,[y2],rfl,y2,[],rfl,rfl,hG _ _ ⟨_,_,rfl⟩ (turn i y1 y2 ys _ _ e1 e2 e (dG nr) pv)⟩
section
variable{prog:xf}{w:World}{A:v7}{E:Value->ye->Prop}{s:ye}
theorem T7{b:Bool}{l:Addr}{vs:List Value}{Q:List Value->ye->Prop}(hl:fg b s.heap l vs.toArray)(hz:vs.length<=sizeLine)
  (h:Q vs {s with heap:=(s.heap.push (seqObj "list" #[] 0)).update s.heap.objs.size (gf (·++vs.toArray))}):wpAny (model prog w) A (collect (.ref l)) Q E s:=by
 cases b with
 |false=>exact collect_list hl h hz
 |true=>
  obtain⟨ob,eb,cb,nb,db⟩:=id hl;unfold collect;refine y0 (Iw (lA entry_proto_collect' ?_));show wpAny _ _ (do again (.builtin "list.__iadd__" ⟨[<- newList [],.ref l],[]⟩)) _ _ _;refine y0 (qI (yc ⟨yaf _ (by decide +kernel),lA entry_list_iadd' ?_⟩));show wpAny _ _ (vx (.ref s.heap.objs.size) (.ref l) (.ref s.heap.objs.size)) _ _ {s with heap:=s.heap.push (seqObj "list" #[] 0)};unfold vx;have T8:(s.heap.push (seqObj "list" #[] 0)).get? l=some ob:=yb _ eb;refine y0 (pZ (T:="tuple") ⟨ob,T8,cb⟩ ?_);rw[if_pos (by rw[show(kR "tuple" == kR "tuple")=true from rfl];simp)];refine y0 (T9 T8 db (y0 (T9 (xs:=#[]) (n:=0) (yi _ rfl) rfl ?_)));rw[if_neg (by simp)];refine y0 (Mn (xs:=#[]) (n:=0) (yi _ rfl) rfl (yc ?_) (gn _) (by show(#[]++vs.toArray).size<=sizeLine+1;simp only[Array.size_append,ym,ub];omega));show wpAny (model prog w) A (do let o <- load s.heap.objs.size;match o.data with | .seq xs _=>pure xs.toList|_=>unsupported "internal:collect") Q E {s with heap:=(s.heap.push (seqObj "list" #[] 0)).update s.heap.objs.size (gf (·++vs.toArray))};refine y0 (KJ (Mo (yi _ rfl) _) ?_);show wpAny _ _ (pure ((#[]:Array Value)++vs.toArray).toList) Q E _;rw[show((#[]:Array Value)++vs.toArray).toList=vs by simp];exact yc h
theorem jn0{vs:List Value}{Q:Value->ye->Prop}(hl:fg b s.heap l vs.toArray)(hz:vs.length<=sizeLine)(hI:fW vs ns)(fZ:vs.length<64)
  (h:∀(out:Array Value) (bB:List Int),fW out.toList bB->bB.Perm ns->bB.Pairwise (·<=·)->Q (.ref (s.heap.objs.size+1)) {s with heap:=sortedAll s.heap vs out}):wpAny (model prog w) A (call (.builtin "sorted") [.ref l]) Q E s:=by
 refine BH EA EB EC (ED _) ?_;unfold EE;refine y0 (m:=checkCount "sorted" 1 1 _) (yc (y0 (T7 hl hz (y0 (qI ?_)))));have n1:((s.heap.push (seqObj "list" #[] 0)).update s.heap.objs.size (gf (·++vs.toArray))).objs.size=s.heap.objs.size+1:=by rw[Ua,Mp]
 have o1:(((s.heap.push (seqObj "list" #[] 0)).update s.heap.objs.size (gf (·++vs.toArray))).push (seqObj "list" vs.toArray 0)).get? (s.heap.objs.size+1)=some (seqObj "list" vs.toArray 0):=by rw[<- n1];exact yi _ rfl
 show wpAny _ _ _ _ _ {s with heap:=((s.heap.push (seqObj "list" #[] 0)).update s.heap.objs.size (gf (·++vs.toArray))).push (seqObj "list" vs.toArray 0)};rw[n1];exact y0 (gu (gj EF ⟨_,o1,rfl⟩ EG (Ub o1 hI fZ λout bB a1 a2 a3=>⟨_,rfl,yc ⟨_,rfl,h out bB a1 a2 a3⟩⟩) (EH _)))
end
section
variable{X:Cx}
def Ix(K:yd):List V->Hp->VK->Prop:=λxs H Q=>∃(p:Addr) (ns:List Int) (c:Bool),xs=[.ref p]/\fh K H p (ns.map V.int) c/\ns.length<64/\∀l (bB:List Int),H l=none->bB.Perm ns->bB.Pairwise (·<=·)->Q (.ref l) (aH H l (.lst (bB.map V.int)))
theorem jn1:aG X (.builtin "sorted") (Ix X.K):=by
 intro ac s σ H xs us Q I r h;obtain⟨p,ns,c,rfl,hq,fZ,q⟩:=h;obtain⟨u,rfl,rx⟩:=fM r;cases rx;obtain⟨ai,r',pl,hz⟩:=I.sqe hq;have hi:fW ai ns:=Bk r';have aL:=r'.length;rw[y3]at aL hz;refine jn0 pl (by omega) hi (by omega) λout bB a1 a2 a3=>?_;obtain⟨e,he⟩:=sortedAll_at s.heap ai out;refine⟨.ref (s.heap.objs.size+1),_,I.laid (t':=s.toks) (λb o q=>sortedAll_old q) (i6 _) (show ObjOk X.prog X.w _ _ _ (.lst (bB.map V.int))from⟨by rw[y3,a2.length_eq];exact hz,out.toList,e,Bs a1,by simpa using he⟩),rfl,q _ bB (I.hok.fresh (i6 _)) a2 a3⟩
end
mutual
def D.py:D->PyData
 | .non=>.none | .bl b=>.bool b | .int i=>.int i | .str x=>.str x | .tup l=>.tuple (D.pyL l) | .lst l=>.list (D.pyL l) | .dct=>.dict []
def D.pyL:List D->List PyData
 |[]=>[]
 |d::r=>d.py::D.pyL r
def D.eqOk:D->Bool
 | .str x=>Uc x
 | .tup l=>D.eqOkL l
 | .lst l=>D.eqOkL l
 | .dct=>false
 |_=>true
def D.eqOkL:List D->Bool
 |[]=>true
 |d::r=>d.eqOk&&D.eqOkL r
end
mutual
theorem D.canLay:∀d:D,d.eqOk=true->d.py.canLay0=true
 | .non,_=>by simp[D.py,EI]
 | .bl _,_=>by simp[D.py,EI]
 | .int _,_=>by simp[D.py,EI]
 | .str x,h=>by simp only[D.eqOk]at h;simpa[D.py,EI] using h
 | .tup l,h=>by simp only[D.eqOk]at h;simpa[D.py,EI] using D.canLayL l h
 | .lst l,h=>by simp only[D.eqOk]at h;simpa[D.py,EI] using D.canLayL l h
 | .dct,h=>by simp[D.eqOk]at h
theorem D.canLayL:∀l:List D,D.eqOkL l=true->Ud (D.pyL l)=true
 |[],_=>by simp[D.pyL,Ud]
 |d::r,h=>by
  simp only[D.eqOkL,oO]at h;simp[D.pyL,Ud,D.canLay d h.1,D.canLayL r h.2]
theorem D.pyDepth:∀d:D,d.py.depth<=d.depth+1
 | .non=>by simp[D.py,BI]
 | .bl _=>by simp[D.py,BI]
 | .int _=>by simp[D.py,BI]
 | .str _=>by simp[D.py,BI]
 | .tup l=>by have:=D.pyDepthL l;simp only[D.py,BI,D.depth];omega
 | .lst l=>by have:=D.pyDepthL l;simp only[D.py,BI,D.depth];omega
 | .dct=>by simp[D.py,BI,PyData.depthKv,D.depth]
theorem D.pyDepthL:∀l:List D,Ue (D.pyL l)<=D.depthL l+1
 |[]=>by simp[D.pyL,Ue]
 |d::r=>by have a:=D.pyDepth d;have b:=D.pyDepthL r;simp only[D.pyL,Ue,D.depthL];omega
end
section
variable{X:Cx}{ac:List (Addr×Obj)}{σ:St}{H:Hp}{s:ye}
mutual
theorem EJ(I:Inv X ac σ H s):∀(d:D) {v:V}{u:Value},aR H d v->RelV v u->d.eqOk=true->∃as,Reads s.heap u d.py as
 | .non,v,u,h,r,_=>by unfold aR at h;subst h;cases(show u=uy from r);exact⟨_,.none⟩
 | .bl b,v,u,h,r,_=>by unfold aR at h;subst h;cases(show u=A2 b from r);exact⟨_,.bool b⟩
 | .int i,v,u,h,r,_=>by unfold aR at h;subst h;obtain⟨t,rfl⟩:=r;exact⟨_,.int i t⟩
 | .str x,v,u,h,r,_=>by unfold aR at h;subst h;obtain⟨t,rfl⟩:=r;exact⟨_,.str x t⟩
 | .tup l,v,u,h,r,ok=>by
  unfold aR at h;obtain⟨p,xs,rfl,hp,hl⟩:=h;cases(show u=v5 p from r);obtain⟨ai,rv,ht,hz⟩:=I.tuple (aZ.of (K:=X.K) hp);obtain⟨as,ra⟩:=eA I l hl rv (by simpa[D.eqOk] using ok);obtain⟨o,e,c,n,dt⟩:=ht;exact⟨as,.tuple e c dt (by simpa using ra)⟩
 | .lst l,v,u,h,r,ok=>by
  unfold aR at h;obtain⟨p,xs,rfl,hp,hl⟩:=h;cases(show u=v5 p from r);obtain⟨ai,rv,ht,hz⟩:=I.list (SqL.of (K:=X.K) hp);obtain⟨as,ra⟩:=eA I l hl rv (by simpa[D.eqOk] using ok);obtain⟨o,e,c,n,dt⟩:=ht.isList;exact⟨_,.list e c dt (by simpa using ra)⟩
 | .dct,v,u,h,r,ok=>by simp[D.eqOk]at ok
theorem eA(I:Inv X ac σ H s):∀(l:List D) {vs:List V}{us:List Value},aE H l vs->am vs us->D.eqOkL l=true->∃as,ReadsAll s.heap us (D.pyL l) as
 |[],vs,us,h,r,_=>by unfold aE at h;subst h;cases r;exact⟨_,.nil⟩
 |d::l,vs,us,h,r,ok=>by
  unfold aE at h;obtain⟨x,t,rfl,hd,hl⟩:=h;simp only[D.eqOkL,oO]at ok;cases r with
  |cons r1 r2=>
   obtain⟨as,a1⟩:=EJ I d hd r1 ok.1;obtain⟨bs,b1⟩:=eA I l hl r2 ok.2;exact⟨_,.cons a1 b1⟩
end
def jL(a b:D):Bool:=EK a.py b.py
def qL(Dv:Bool):R2:=λx y H Q=>∃a b,aR H a x/\aR H b y/\a.eqOk=true/\b.eqOk=true/\a.depth<=20/\Q (.bl (if Dv then !jL a b else jL a b)) H
def jk:R2:=λx y H Q=>C6 x y H Q\/qL false x y H Q
def mP:R2:=λx y H Q=>KQ x y H Q\/qL true x y H Q
theorem yF(hr:aI k X.A):bR X (compareOp .Eq) (qL false):=by
 intro ac s σ H x y v u Q I rx ry h;obtain⟨a,b,ha,hb,oa,ob,hd,q⟩:=h;obtain⟨as,r1⟩:=EJ I a ha rx oa;obtain⟨bs,r2⟩:=EJ I b hb ry ob;have h1:=D.pyDepth a;exact SeqAt.compareEq_reads r1 r2 (D.canLay a oa) (D.canLay b ob) (by have:=hr.units;omega) ⟨.bl (jL a b),H,I,rfl,q⟩
theorem bW(hr:aI k X.A):bR X (compareOp .Eq) jk:=C7.or (yF hr)
end
section
variable{X:Cx}
def Uf(K:yd):R2:=λx y H Q=>∃a b xs ys,x=.ref a/\y=.ref b/\aZ K H a xs/\aZ K H b ys/\xs.length+ys.length<=1000000/\
 (xs=[]->Q (.ref b) H)/\(xs≠[]->ys=[]->Q (.ref a) H)/\(xs≠[]->ys≠[]->∀p,H p=none->Q (.ref p) (aH H p (.tup (xs++ys))))
theorem jjg:bR X (binaryOp .Add) (Uf X.K):=by
 intro ac s σ H x y v u Q I rx ry h;obtain⟨a,b,xs,ys,rfl,rfl,ha,hb,hl,q0,q1,q2⟩:=h;cases rx;cases ry;obtain⟨Mq,r1,t1,z1⟩:=I.tuple ha;obtain⟨Mr,r2,t2,z2⟩:=I.tuple hb;have l1:=r1.length;have l2:=r2.length;have hz:Mq.length+Mr.length<=sizeLine:=by rw[xx];omega
 by_cases e:Mq=[]
 ·subst e;have ex:xs=[]:=vw.mp (by simpa using l1);obtain⟨⟨cls,dd,data,sl⟩,ho,hc,n,hd⟩:=id t1;obtain⟨⟨K7,HR,data2,HS⟩,oM,jG,n2,sw⟩:=id t2;simp only at hc hd jG sw;subst hc hd jG sw;exact Sn ⟨_,ho,rfl⟩ ⟨_,oM,rfl⟩ So Sq Sr Ss (Su _ _)
   (tuple_addW0 a b _ Mr.toArray n n2 dd HR sl HS (by simp)) ⟨ho,oM,⟨.ref b,H,I,rfl,q0 ex⟩⟩
 ·have ex:xs≠[]:=λz=>e (vw.mp (by rw[<- l1,z];rfl));refine HT.cat_tup t1 t2 e (λw=>⟨.ref a,H,I,rfl,q1 ex (vw.mp (by rw[l2,w];rfl))⟩) (λw=>?_) hz;have ey:ys≠[]:=λz=>w (vw.mp (by rw[<- l2,z];rfl));refine⟨.ref s.heap.objs.size,_,I.laid (t':=s.toks) (λb o e=>yb _ e) (yg _) (show ObjOk X.prog X.w _ _ _ (.tup (xs++ys))from⟨by rw[xi];omega,Mq++Mr,r1.append r2,iZ.new _ _⟩),rfl,q2 ex ey _ (I.hok.fresh (yg _))⟩
def EL(K:yd):R2:=λx y H Q=>(oF (λi j=>.int (i+j)) x y H Q\/Dy x y H Q)\/Uf K x y H Q
theorem EM:bR X (binaryOp .Add) (EL X.K):=(wc.or wL).or jjg
end
variable{lo hi:Option Int}
section
variable{K:yd}{σ:St}{H:Hp}{Q:VK}{D:Ends}
theorem Ug(q:Q (.int (i+j)) H):EL K (.int i) (.int j) H Q:=.inl (.inl ⟨i,j,rfl,rfl,q⟩)
theorem yG{b:Addr}(h1:H l=some (.lst xs))(h2:H b=some (.lst zs))(hl:xs.length+zs.length<=1000000)(q:∀p H',H p=none->H' p=some (.lst (xs++zs))->al H H'->Q (.ref p) H'):EL K (.ref l) (.ref b) H Q:=
 .inl (.inr ⟨l,b,xs,zs,rfl,rfl,h1,h2,v9 hl (by rw[xx];decide),λp n=>q p _ n bi (dG n)⟩)
theorem yH{b:Addr}(h1:H l=some (.tup xs))(h2:H b=some (.tup zs))(hl:xs.length+zs.length<=1000000)(q:∀p H',H' p=some (.tup (xs++zs))->al H H'->Q (.ref p) H'):EL K (.ref l) (.ref b) H Q:=
 .inr ⟨l,b,xs,zs,rfl,rfl,aZ.of h1,aZ.of h2,hl,λe=>q b H (by rw[e];exact h2) al.rfl',λ_ e=>q l H (by rw[e,oK];exact h1) al.rfl',λ_ _ p n=>q p _ bi (dG n)⟩
theorem yI{ti:TE}{t:pP}{R:St->Hp->Prop}(q:to σ H λo H1=>ti σ H1 λi H2=>t o i v H2 λH3=>R σ H3):CZ to ti t v σ H R:=q
theorem yJ{k:Int}{j:Nat}{R:Hp->Prop}(h:H p=some (.lst xs))(e:j8 xs.length k=some j)(q:∀H',H' p=some (.lst (xs.set j v))->bQ p H H'->R H'):sA (.ref p) (.int k) v H R:=⟨p,xs,k,j,rfl,rfl,h,e,q _ bi mE⟩
theorem Mt{r:V->Option Int->Option Int->Hp->VK->Prop}{tl th:TO}(q:te σ H λx H1=>tl σ H1 λl H2=>th σ H2 λu H3=>r x l u H3 Q):SF r te tl th σ H Q:=q
theorem jjh{R:Option Int->Hp->Prop}(q:R none H):SE σ H R:=q
def sV(x:V)(R:Option Int->Hp->Prop)(H:Hp):Prop:=∃i,x=.int i/\R (some i) H
theorem yK{R:Option Int->Hp->Prop}(q:te σ H λx H1=>sV x R H1):sy te σ H R:=q
theorem jn5{R:Option Int->Hp->Prop}(q:R (some i) H):sV (.int i) R H:=⟨i,rfl,q⟩
theorem sW(h:H p=some (.lst xs))(q:∀l H',H l=none->H' l=some (.lst (aQ xs lo hi))->al H H'->Q (.ref l) H'):qG K (.ref p) lo hi H Q:=.inr ⟨p,xs,rfl,SqL.of h,λl n=>q l _ n bi (dG n)⟩
theorem Iy(h:H p=some (.tup xs))(nw:¬ (HT.sIx xs.length 0 lo=0/\HT.sIx xs.length xs.length hi=xs.length))(q:∀l H',H l=none->H' l=some (.tup (aQ xs lo hi))->al H H'->Q (.ref l) H'):qG K (.ref p) lo hi H Q:=.inl ⟨p,xs,rfl,aZ.of h,nw,λl n=>q l _ n bi (dG n)⟩
theorem yL{ta:TA}{R:It->Hp->Prop}(q:ta σ H λvs H1=>∃p q xs ys c d,vs=[.ref p,.ref q]/\fh K H1 p xs c/\fh K H1 q ys d/\R (jj K c d p q) H1):sU K ta σ H R:=q
theorem jfy(h:H p=some (.lst (ns.map V.int)))(hl:ns.length<64)(q:∀l (bB:List Int) H',H l=none->bB.Perm ns->bB.Pairwise (·<=·)->H' l=some (.lst (bB.map V.int))->al H H'->Q (.ref l) H'):Ix K [.ref p] H Q:=
 ⟨p,ns,false,rfl,SqL.of h,hl,λl bB n a b=>q l bB _ n a b bi (dG n)⟩
theorem jfz(h:H p=some (.tup (ns.map V.int)))(hl:ns.length<64)(q:∀l (bB:List Int) H',H l=none->bB.Perm ns->bB.Pairwise (·<=·)->H' l=some (.lst (bB.map V.int))->al H H'->Q (.ref l) H'):Ix K [.ref p] H Q:=
 ⟨p,ns,true,rfl,aZ.of h,hl,λl bB n a b=>q l bB _ n a b bi (dG n)⟩
theorem yM(q:Q (.bl (decide (i=j))) H):jk (.int i) (.int j) H Q:=.inl (D1 q)
theorem yN{i j:Bool}(q:Q (.bl (decide (i=j))) H):jk (.bl i) (.bl j) H Q:=.inl (D2 q)
theorem yO{i j:Str}(q:Q (.bl (decide (i=j))) H):jk (.str i) (.str j) H Q:=.inl (D3 q)
theorem sX{a b:L2.D}(ha:aR H a x)(hb:aR H b y)(oa:a.eqOk=true)(ob:b.eqOk=true)(hd:a.depth<=20)(q:Q (.bl (jL a b)) H):jk x y H Q:=.inr ⟨a,b,ha,hb,oa,ob,hd,q⟩
theorem Iz(h:H p=some (.tup xs))(fx:jJ x=true)(fl:xs.all jJ=true)(q:Q (.bl (sB x xs)) H):qF K false x (.ref p) H Q:=⟨p,xs,rfl,.inr (aZ.of h),fx,fl,q⟩
theorem BJ(h:H p=some (.tup xs))(fx:jJ x=true)(fl:xs.all jJ=true)(q:Q (.bl (!sB x xs)) H):qF K true x (.ref p) H Q:=⟨p,xs,rfl,.inr (aZ.of h),fx,fl,q⟩
theorem Mu{Y:V->Hp->Prop}{N:Hp->Prop}(q:te σ H Y):By [] σ H λb H3=>if b=true then te σ H3 Y else N H3:=by
 show(if true=true then te σ H Y else N H);rw[if_pos rfl];exact q
theorem jji{t:TT}(q:t σ H λb H1=>if b=true then R true H1 else R false H1):By [t] σ H R:=q
end
theorem IA(ns:List Int):(ns.map V.int).all jJ=true:=by
 rw[IB];intro x hx;obtain⟨i,_,rfl⟩:=yk.mp hx;rfl
theorem IC(i:Int)(ns:List Int):sB (.int i) (ns.map V.int)=decide (i∈ns):=by
 unfold sB;rw[ye4,Bd,Mv,decide_eq_true_iff];constructor
 ·rintro⟨x,hx,e⟩;have:x=i:=by simpa[kZ] using e
  exact this ▸ hx
 ·intro h;exact⟨i,h,by simp[kZ]⟩
theorem Mw:∀ns ms:List Int,BK (D.pyL (ns.map D.int)) (D.pyL (ms.map D.int))=decide (ns=ms)
 |[],[]=>by simp[D.pyL,BK]
 |[],_::_=>by simp[D.pyL,BK]
 |_::_,[]=>by simp[D.pyL,BK]
 |a::r,b::t=>by
  simp only[xu,D.pyL,BK,D.py,EK,Mw r t];rw[Bd];simp
theorem jcy(ns ms:List Int):jL (.lst (ns.map D.int)) (.lst (ms.map D.int))=decide (ns=ms):=by
 unfold jL;simp only[D.py,EK];exact Mw ns ms
theorem jcz(ns ms:List Int):jL (.tup (ns.map D.int)) (.tup (ms.map D.int))=decide (ns=ms):=by
 unfold jL;simp only[D.py,EK];exact Mw ns ms
theorem BL(ns:List Int):D.eqOkL (ns.map D.int)=true:=by
 induction ns with
 |nil=>rfl
 |cons n r ih=>show(D.eqOk (.int n)&&D.eqOkL (r.map D.int))=true;rw[ih];rfl
theorem aR.tupInts(h:H p=some (.tup (ns.map V.int))):aR H (.tup (ns.map D.int)) (.ref p):=aR.tupI h (aE.ints ns)
theorem aR.lstInts(h:H p=some (.lst (ns.map V.int))):aR H (.lst (ns.map D.int)) (.ref p):=aR.lstI h (aE.ints ns)
theorem yP{ms:List Int}(h1:H p=some (.lst (ns.map V.int)))(h2:H q=some (.lst (ms.map V.int)))(k:Q (.bl (decide (ns=ms))) H):jk (.ref p) (.ref q) H Q:=
 sX (aR.lstInts h1) (aR.lstInts h2) (BL _) (BL _) (by show D.depthL _+1<=20;rw[DN];decide) (by rw[jcy];exact k)
theorem ID{ms:List Int}(h1:H p=some (.tup (ns.map V.int)))(h2:H q=some (.tup (ms.map V.int)))(k:Q (.bl (decide (ns=ms))) H):jk (.ref p) (.ref q) H Q:=
 sX (aR.tupInts h1) (aR.tupInts h2) (BL _) (BL _) (by show D.depthL _+1<=20;rw[DN];decide) (by rw[jcz];exact k)
theorem BM{ns:List Int}{i:Nat}{x:V}(h:(ns.map V.int)[i]?=some x):∃n,ns[i]?=some n/\x=.int n:=by
 rw[xh]at h;cases e:ns[i]? with
 |none=>rw[e]at h;cases h
 |some n=>rw[e]at h;cases h;exact⟨n,rfl,rfl⟩
theorem iW{k:Int}(h0:0<=k)(h1:k<ns.length):dP (ns.map V.int) k=some (.int (ns.getD k.toNat 0)):=by
 refine Bx h0 ?_;rw[xh,y4 (by omega),y8,y4 (by omega)];rfl
section
variable{X:Cx}
def jM(m:Int)(ns:List Int):Prop:=m∈ns/\∀x∈ns,m<=x
theorem jM.uniq{a b:Int}(h1:jM a ns)(h2:jM b ns):a=b:=by
 have:=h1.2 b h2.1;have:=h2.2 a h1.1;omega
def EN(K:yd):List V->Hp->VK->Prop:=λxs H Q=>∃(p:Addr) (ns:List Int),xs=[.ref p]/\SqL K H p (ns.map V.int)/\ns≠[]/\∀m,jM m ns->Q (.int m) H
theorem EO(hc:X.calm=true):aG X (.builtin "min") (EN X.K):=by
 intro ac s σ H xs us Q I r h;obtain⟨p,ns,rfl,hq,bO,q⟩:=h;obtain⟨u,rfl,rx⟩:=fM r;cases rx;obtain⟨ai,r',pl,hz⟩:=I.list hq;have hi:fW ai ns:=Bk r';obtain⟨ys,e⟩:=hi.allInts.items;have e2:numsOf ai=ns:=hi.numsOf;have e3:=nums_intItems (xs:=ys);rw[<- e]at e3;have e4:ys.toList.map (·.1)=ns:=by rw[<- e3];exact e2
 have hy:ys.size=ns.length:=by rw[<- e4];simp
 have h0:0<ns.length:=ya4.mpr bO;refine min_intList (I.ok.hd hc) (xs:=ys) (by rw[<- e];exact pl.isList) (by omega) λv h' tk hv hk=>?_;obtain⟨t,rfl⟩:=intItems_at hv;obtain⟨b1,b2⟩:=argBest_lt (numAt ys) (ys.size-1);generalize argBest (λi j=>decide (numAt ys i<numAt ys j)) (ys.size-1)=b at *;have at_:∀j,numAt ys j=ns.getD j 0:=λj=>by rw[numAt_eq,e4]
 refine⟨.int (numAt ys b),H,I.kept hk,⟨t,rfl⟩,q _ ⟨?_,λx hx=>?_⟩⟩
 ·have hb:b<ns.length:=by omega
  rw[at_,y8,y4 hb];exact ua hb
 ·obtain⟨j,hj,rfl⟩:=vd hx;have:=b2 j (by omega);rw[at_ j,y8,y4 hj]at this;exact this
end
structure Qa4(K:yd)(x qual:Str)(st:Stmt)(f:Addr)(fd:xo)(ds:List Value):Prop where
 ex:∃(oc:Value) (od:Option Addr) (T:Addr) (kV doc pm:Value) (an:Option Addr) (bj ct:Value) (kY:Array (Option Value)) (tc:Value) (td:Option Addr) (tn:Nat) (tsl:Array (Option Value)),
  fd=i7 x qual (jK st) (gY st) (aP st) (.ref T) kV doc pm an bj ct/\K.lookup f=some ⟨oc,od,.func fd,kY⟩/\K6 K bj qual=true/\K.lookup T=some ⟨tc,td,.seq ds.toArray tn,tsl⟩
 kp:sd K (.ref f)=true
structure IsC(K:yd)(C B:Addr):Prop where
 ha:v0 K (.ref C) "__class__"=some (some (.builtin "object.__class__"))
 hn:Bg K (.builtin "object.__class__") "__get__"=some (some (.builtin "getset_descriptor.__get__"))
 HL:HM K (.builtin "object.__class__")=some true
 hm:HN K C (.type "object")=some true
 ki:pV K (.ref C) (.ref B)=some true
section
variable{K:yd}{α β γ:Type}{te:TE}{acc:Addr}{fr:St}{H1:Hp}{R:Hp->Prop}
theorem jg1(mk:β->V)(f:Nat->β){u:Option V}(hz:n<=1000000)(hn:H1 acc=none)
  (turn:∀(i:Nat) H (Y:V->Hp->Prop),i<n->al H1 H->(∀H',al H H'->Y (mk (f i)) H')->te (some (.int (i:Nat))::fr) H Y)
  (fin:∀H,al H1 H->H acc=some (.lst (((vi n).map f).map mk))->R H):jg (oB 0 n) (iR 0) [] te acc (u::fr) H1 R:=by
 refine sR hz hn (λj ys _=>ys=((vi j).map f).map mk) rfl (λ_ _ _ _ _ h=>h) (λj ys H _ h=>by rw[h];simp) ?_ ?_
 ·intro j ys H hj e h Y N hY hN;rw[show((0:Int)+(j:Nat))=(j:Nat) by omega];refine Mu (turn j H Y hj e λH' e'=>hY _ _ e' ?_);rw[sY,h];simp
 ·intro ys H e ha h;refine fin H e ?_;rw[ha,h]
theorem EQ(P:Int->Prop){u:Option V}(hz:n<=1000000)(hn:H1 acc=none)
  (turn:∀(i:Nat) H (Y:V->Hp->Prop),i<n->al H1 H->(∀x H',P x->al H H'->Y (.int x) H')->te (some (.int (i:Nat))::fr) H Y)
  (fin:∀(xs:List Int) H,xs.length=n->(∀x∈xs,P x)->al H1 H->H acc=some (.lst (xs.map V.int))->R H):jg (oB 0 n) (iR 0) [] te acc (u::fr) H1 R:=by
 refine sR hz hn (λj ys _=>∃xs:List Int,ys=xs.map V.int/\xs.length=j/\∀x∈xs,P x) ⟨[],rfl,rfl,by simp⟩ (λ_ _ _ _ _ h=>h) (λj ys H _ ⟨xs,h,l,_⟩=>by rw[h,y3];omega) ?_ ?_
 ·rintro j ys H hj e ⟨xs,rfl,hl,hp⟩ Y N hY hN;rw[show((0:Int)+(j:Nat))=(j:Nat) by omega];refine Mu (turn j H Y hj e λx H' hx e'=>hY _ _ e' ⟨xs++[x],by simp,by simp[hl],λy hy=>?_⟩);rcases yw.mp hy with z|z
  ·exact hp y z
  ·rw[y9.mp z];exact hx
 ·rintro ys H e ha ⟨xs,rfl,hl,hp⟩;exact fin xs H hl hp e ha
end
section
variable{X:Cx}
open Classical in
theorem yQ(hr:aI k X.A):bR X (compareOp .NotEq) (qL true):=by
 intro ac s σ H x y v u Q I rx ry h;obtain⟨a,b,ha,hb,oa,ob,hd,q⟩:=h;obtain⟨as,r1⟩:=EJ I a ha rx oa;obtain⟨bs,r2⟩:=EJ I b hb ry ob;have h1:=D.pyDepth a;exact SeqAt.compareNe_reads r1 r2 (D.canLay a oa) (D.canLay b ob) (by have:=hr.units;omega) ⟨.bl (!jL a b),H,I,rfl,q⟩
theorem yS(hr:aI k X.A):bR X (compareOp .NotEq) mP:=Be.or (yQ hr)
end
section
variable{K:yd}{σ:St}{H:Hp}{Q:VK}
theorem yT(q:Q (.bl (!decide (i=j))) H):mP (.int i) (.int j) H Q:=.inl (sN q)
theorem yU{i j:Str}(q:Q (.bl (!decide (i=j))) H):mP (.str i) (.str j) H Q:=.inl ⟨rfl,by
 rw[show decide (V.str i=V.str j)=decide (i=j)from decide_eq_decide.mpr ⟨λz=>by cases z;rfl,λz=>by rw[z]⟩];exact q⟩
theorem sZ{a b:L2.D}(ha:aR H a x)(hb:aR H b y)(oa:a.eqOk=true)(ob:b.eqOk=true)(hd:a.depth<=20)(q:Q (.bl (!jL a b)) H):mP x y H Q:=.inr ⟨a,b,ha,hb,oa,ob,hd,q⟩
theorem jjj(ns:List Int):jL (.lst (ns.map D.int)) (.lst [])=decide (ns=[]):=by
 cases ns with
 |nil=>simp[jL,D.py,D.pyL,EK,BK]
 |cons t r=>simp[jL,D.py,D.pyL,EK,BK]
theorem jn6(h1:H p=some (.lst (ns.map V.int)))(h2:H q=some (.lst []))(k:Q (.bl (!decide (ns=[]))) H):mP (.ref p) (.ref q) H Q:=
 sZ (aR.lstInts h1) (aR.lstI h2 aE.nil) (BL _) rfl (by show D.depthL _+1<=20;rw[DN];decide) (by rw[jjj];exact k)
end
section
variable{X:Cx}{ac:List (Addr×Obj)}{σ:St}{H:Hp}{s:ye}{h':Heap}{n:Nat}
open Classical in
end
def XP(X:Cx)(ac:List (Addr×Obj))(σ:St)(E:XK)(e:Value)(s:ye):Prop:=
 ∃n H a C dx,e=.ref a/\X.s₀.heap.objs.size<=n/\(∀p∈X.pn++ac,p.1<n)/\Inv X ac σ H s/\Th n H s.heap a C dx .none/\E C dx H
structure Uh(K:yd)(C L:Addr):Prop where
 ex:∃bm bl,DM K C bm/\DM K L bl/\(v5 C::bm).contains (.ref L)=true
open PySem.Builtin PySem.Builtin.ObjectAttr
structure Qa5(K:yd)(C:Addr):Prop where
 at_:∃nm q N bs bm sn sub ab col dd k0 k1 k2 k3 k5 eK,K.lookup C=some (excClassObj nm q C N bs bm true sn sub ab col dd k0 k1 k2 k3 k5 eK)/\bm.contains (.type "BaseException")=true
 ga:v0 K (.ref C) "__getattribute__"=some (some (.builtin "BaseException.__getattribute__"))
 gh:v0 K (.ref C) "__getattr__"=some none
 ca:v0 K (.ref C) "__class__"=some (some (.builtin "object.__class__"))
 cn:Bg K (.builtin "object.__class__") "__get__"=some (some (.builtin "getset_descriptor.__get__"))
 ct:HM K (.builtin "object.__class__")=some true
 cm:HN K C (.type "object")=some true
structure Qa6(K:yd)(C:Addr)(bm:List Value)(f:Addr):Prop where
 lk:∃nm q N bs sn sub ab col dd k0 k1 k2 k3 k5,K.lookup C=some (excClassObj nm q C N bs bm true sn sub ab col dd k0 k1 k2 k3 k5 "ValueError.__new__")
 init:v0 K (.ref C) "__init__"=some (some (.ref f))
 fn:HJ K (.ref f)=true
 kp:sd K (.ref C)=true
 set:v0 K (.ref C) "__setattr__"=some (some (.builtin "object.__setattr__"))
 row:v0 K (.ref C) "row"=some none
 ga:v0 K (.ref C) "__getattribute__"=some (some (.builtin "BaseException.__getattribute__"))
 gh:v0 K (.ref C) "__getattr__"=some none
 ca:v0 K (.ref C) "__class__"=some (some (.builtin "object.__class__"))
 cn:Bg K (.builtin "object.__class__") "__get__"=some (some (.builtin "getset_descriptor.__get__"))
 ct:HM K (.builtin "object.__class__")=some true
 cm:HN K C (.type "object")=some true
section
variable{K:yd}{σ:St}{H:Hp}{Q:VK}
theorem Mx{α:Type}(x:α):∀k:Nat,(xm k [x]).flatten=xm k x
 |0=>rfl
 |k+1=>by rw[uc,wH,Mx x k,uc];rfl
theorem yV{k:Int}(h:H l=some (.lst [x]))(k0:0<=k)(k1:k<=1000000)(q:∀p H',H p=none->H' p=some (.lst (xm k.toNat x))->al H H'->Q (.ref p) H'):Dz (.ref l) (.int k) H Q:=
 ⟨l,k,[x],rfl,rfl,h,by omega,by omega,by rw[xx];show 1*k.toNat<=_;omega,λp n=>q p _ n (by rw[Mx];exact bi) (dG n)⟩
end
theorem jjk{ai:List Value}{acc:Array Value}(h:BN (λi v=>ai.toArray[ai.toArray.size-1-i]?=some v) acc ai.toArray.size):acc.toList=ai.reverse:=by
 obtain⟨h1,h2⟩:=h;have h1:acc.size=ai.length:=by rw[h1];simp
 refine ER λi=>?_;rw[xr];by_cases hi:i<ai.length
 ·have ha:acc[i]?=some (acc[i]'(by omega)):=yh (by omega);have:=h2 i _ ha;rw[ha,y8x hi];simpa using this.symm
 ·rw[ES (by omega),yW (by simp;omega)]
theorem ET(h:c=true)(q:A):if c=true then A else B:=by rw[h];exact wV q
theorem EU(h:c=false)(q:B):if c=true then A else B:=by rw[h];exact wU q
structure EV(k:Nat)(A:v7):Prop where
 dp:A.depth+3*k+5<recursionLimit
 un:A.units+16*k+200<cLine
structure Ui(P:xf)(w:World)(K:yd)(mg:Str->Option Value)(base:Heap)(CX:iS)(k:Nat)(f:Addr)(fd:xo)(ps:List Str)(sp:Sp):Prop where
 len:∀vs H Q E,sp vs H Q E->vs.length=ps.length
 run:∀(A:v7) (outer:List Env) (s:ye) (H:Hp) (args:Args) (us:List Value) (vs:List V) (Q:VK) (E:XK),EV k A->gH P w K mg base A outer s H->oJ s fd args (ps.zip us)->am vs us->sp vs H Q E->
  codeAny (model P w) A (.call (.ref f) args) (CR CX outer P w H s Q E) s
def ft(x:Str)(n:Nat):Str:=⟨((xm n x.cps.toList).flatten).toArray⟩
theorem Uj(x:Str)(n:Nat):(ft x n).length=n*x.length:=by
 show((xm n x.cps.toList).flatten).toArray.size=_;rw[ym,S6];rfl
theorem tB(ai:List Nat):∀(k:Nat) (acc:List Nat),Lf (λx1 x2=>x1++x2) acc.toArray (xm k ai.toArray)=(acc++(xm k ai).flatten).toArray
 |0,acc=>by simp
 |k+1,acc=>by
  rw[uc,HY,show acc.toArray++ai.toArray=(acc++ai).toArray by simp,tB ai k (acc++ai),uc,wH,wI]
theorem jn7(x:Str)(n:Nat):Txt.mul x n=ft x n:=by
 unfold Txt.mul ft;by_cases h1:(n:Int)<1
 ·have:n=0:=by omega
  subst this;rfl
 ·rw[if_neg h1];by_cases h2:((n:Int)==1||x.length==0)=true
  ·rw[if_pos h2];rw[Bool.or_eq_true,beq_iff_eq,beq_iff_eq]at h2;rcases h2 with h2|h2
   ·have:n=1:=(by omega);subst this;simp
   ·have e:x.cps.toList=[]:=by
     have:x.cps.toList.length=0:=h2;exact vw.mp this
    have e2:x.cps=#[]:=(by rw[<- y9j (xs:=x.cps),e]);rw[e];have:(xm n ([]:List Nat)).flatten=[]:=(by simp);rw[this,<- e2]
  ·rw[if_neg h2,yx];have:=tB x.cps.toList n [];simp only[y9j,DA]at this;rw[<- this]
section
variable{X:Cx}
def EW:R2:=λx y H Q=>∃i j,x=.str i/\y=.str j/\i.length+j.length<=sizeLine/\Q (.str (i++j)) H
def EX(K:yd):R2:=λx y H Q=>EL K x y H Q\/EW x y H Q
theorem aX:bR X (binaryOp .Add) (EX X.K):=EM.or jc8
def tD:R2:=λx y H Q=>∃(i:Str) (k:Int),x=.str i/\y=.int k/\0<=k/\k<=1000/\i.length<=1000/\Q (.str (ft i k.toNat)) H
theorem jn9:bR X (binaryOp .Mult) tD:=by
 intro ac s σ H x y v u Q I rx ry h;obtain⟨i,k,rfl,rfl,k0,k1,hl,q⟩:=h;obtain⟨t,rfl⟩:=rx;obtain⟨t',rfl⟩:=ry;obtain⟨n,rfl⟩:∃n:Nat,k=n:=⟨k.toNat,by omega⟩
 rw[yx]at q;refine SB.mul ⟨?_,λh1 _=>?_,λ_ _=>?_⟩ λt2 tk=>⟨.str (ft i n),H,I.tok _,⟨t2,by rw[jn7]⟩,q⟩
 ·rw[Bool.or_eq_false_iff,decide_eq_false_iff_not,decide_eq_false_iff_not];omega
 ·have h3:(i.length:Int)*n<=1000000:=by
   have:i.length*n<=1000*1000:=Uk hl (by omega);have:=Int.ofNat_le.mpr this;rw[Int.natCast_mul]at this;omega
  have h4:(i.length:Int)<=(2 ^ 63-1)/n:=Int.le_ediv_of_mul_le (by omega) (by omega);omega
 ·rw[yx];unfold yeh;have:i.length*n<=1000*1000:=Uk hl (by omega);rw[decide_eq_false_iff_not,xx];omega
def My:R2:=λx y H Q=>rI fX (λi j=>.int (i*j)) x y H Q\/tD x y H Q
theorem lB:bR X (binaryOp .Mult) My:=jmi.or jn9
def EY:R2:=λx y H Q=>∃i j,x=.str i/\y=.str j/\Q (.bl (!decide (j.cps.toList<i.cps.toList))) H
theorem yX:bR X (compareOp .LtE) EY:=by
 intro ac s σ H x y v u Q I rx ry h;obtain⟨i,j,rfl,rfl,q⟩:=h;obtain⟨t,rfl⟩:=rx;obtain⟨t',rfl⟩:=ry;exact PySem.P.le_str ⟨.bl _,H,I,rfl,q⟩
def EZ:R2:=λx y H Q=>oF (λi j=>.bl (decide (i<=j))) x y H Q\/EY x y H Q
theorem yY:bR X (compareOp .LtE) EZ:=C8.or yX
def IE(K:yd):List V->Hp->VK->Prop:=λxs H Q=>mG K xs H Q\/∃z:Str,xs=[.str z]/\z.length<=sizeLine/\Q (.int z.length) H
theorem cU:aG X (.builtin "len") (IE X.K):=LG.or j8m
end
def kq(x:Str):Prop:=x.cps.all (·<128)=true
theorem jg2:isSubtype (.type "tuple") (.type "set")=pure false:=by rw[BO];kernel_rfl
theorem jd1:isSubtype (.type "tuple") (.type "frozenset")=pure false:=by rw[BO];kernel_rfl
abbrev newSet(led:Bool):Obj:={cls:=.type "set",dict:=none,data:=.set #[] 0 (.fresh 0 0 led)}
theorem E1:∀{ss:List Str}{us:List Value},am (ss.map V.str) us->∀(i:Nat) (v:Value),us[i]?=some v->∃x t,ss[i]?=some x/\v=.str x t
 |[],us,r,i,v,h=>by cases r;simp at h
 |x::ss,us,r,i,v,h=>by
  cases r with
  |cons r1 r2=>
   cases i with
   |zero=>
    obtain⟨t,e⟩:=r1;simp at h;exact⟨x,t,rfl,by rw[<- h,e]⟩
   |succ i=>exact E1 r2 i v (by simpa using h)
theorem Ul:∀{ss:List Str}{us:List Value},am (ss.map V.str) us->Mz us ss
 |[],us,r=>by cases r;exact .nil
 |x::ss,us,r=>by
  cases r with
  |cons r1 r2=>
   obtain⟨t,e⟩:=r1;subst e;exact .cons x t (Ul r2)
theorem Um:∀{us:List Value}{ss:List Str},Mz us ss->am (ss.map V.str) us
 |_,_,.nil=>.nil
 |_,_,.cons x t h=>.cons ⟨t,rfl⟩ (Um h)
variable{ss:List Str}
section
variable{prog:xf}{w:World}{A:v7}{E:Value->ye->Prop}{s:ye}
theorem jjl{vs:List Value}{Q:Value->ye->Prop}(hl:fg b s.heap l vs.toArray)(hz:vs.length<=sizeLine)(hS:Mz vs ss)(fZ:vs.length<64)
  (h:∀(out:Array Value) (fH:List Str),Mz out.toList fH->fH.Perm ss->sortedS fH=true->Q (.ref (s.heap.objs.size+1)) {s with heap:=sortedAll s.heap vs out}):wpAny (model prog w) A (call (.builtin "sorted") [.ref l]) Q E s:=by
 refine BH EA EB EC (ED _) ?_;unfold EE;refine y0 (m:=checkCount "sorted" 1 1 _) (yc (y0 (T7 hl hz (y0 (qI ?_)))));have n1:((s.heap.push (seqObj "list" #[] 0)).update s.heap.objs.size (gf (·++vs.toArray))).objs.size=s.heap.objs.size+1:=by rw[Ua,Mp]
 have o1:(((s.heap.push (seqObj "list" #[] 0)).update s.heap.objs.size (gf (·++vs.toArray))).push (seqObj "list" vs.toArray 0)).get? (s.heap.objs.size+1)=some (seqObj "list" vs.toArray 0):=by rw[<- n1];exact yi _ rfl
 show wpAny _ _ _ _ _ {s with heap:=((s.heap.push (seqObj "list" #[] 0)).update s.heap.objs.size (gf (·++vs.toArray))).push (seqObj "list" vs.toArray 0)};rw[n1];refine y0 (gu (gj EF ⟨_,o1,rfl⟩ EG (list_sort_treeK strKind_oneLt o1 hS.keysOf (λv₁ v₂ br e=>keyKind_strs (by rw[<- e];exact hS)) fZ λdX a1 a2=>⟨_,rfl,?_⟩) (EH _)));obtain⟨fH,e1,e2,e3⟩:=sorted_out_str hS a1 a2;exact yc ⟨_,rfl,h _ fH e1 e2 e3⟩
end
section
variable{X:Cx}
def Uo(K:yd):List V->Hp->VK->Prop:=λxs H Q=>∃(p:Addr) (ss:List Str) (c:Bool),xs=[.ref p]/\fh K H p (ss.map V.str) c/\ss.length<64/\∀l (fH:List Str),H l=none->fH.Perm ss->sortedS fH=true->Q (.ref l) (aH H l (.lst (fH.map V.str)))
theorem yZ:aG X (.builtin "sorted") (Uo X.K):=by
 intro ac s σ H xs us Q I r h;obtain⟨p,ss,c,rfl,hq,fZ,q⟩:=h;obtain⟨u,rfl,rx⟩:=fM r;cases rx;obtain⟨ai,r',pl,hz⟩:=I.sqe hq;have aL:=r'.length;rw[y3]at aL hz;refine jjl pl (by omega) (Ul r') (by omega) λout fH a1 a2 a3=>?_;obtain⟨e,he⟩:=sortedAll_at s.heap ai out;refine⟨.ref (s.heap.objs.size+1),_,I.laid (t':=s.toks) (λb o q=>sortedAll_old q) (i6 _) (show ObjOk X.prog X.w _ _ _ (.lst (fH.map V.str))from⟨by rw[y3,a2.length_eq];exact hz,out.toList,e,Um a1,by simpa using he⟩),rfl,q _ fH (I.hok.fresh (i6 _)) a2 a3⟩
def E2(K:yd):List V->Hp->VK->Prop:=λxs H Q=>Ix K xs H Q\/Uo K xs H Q
theorem lC:aG X (.builtin "sorted") (E2 X.K):=jn1.or yZ
end
section
variable{prog:xf}{w:World}{A:v7}{E:Value->ye->Prop}{s:ye}
theorem Up(l:Addr)(xs:Array Value)(x:Value)(e:Value->Bool)(j:Nat)(hj:j<xs.size)(eB:e xs[j]=true)(i8:∀m (hm:m<xs.size),m<j->e xs[m]=false):
  Meets (Builtin.«tuple.index» ⟨[.ref l,x],[]⟩) (λA R s=>IsTup s.heap l xs/\(∀y,y∈xs->HV A.in1 s y x (e y))/\R (.ok (.ret (.int j s.toks))) {s with toks:=s.toks+1}):=by
 intro prog w A R s h;obtain⟨hl,he,h⟩:=h;unfold Builtin.«tuple.index»;refine y0 (ji (a:=(v5 l,[x])) rfl ?_);show wpAny _ _ (SA (.ref l) >>= _) _ _ s;refine y0 (SD hl ?_);skip;refine y0 (yc (y0 (yc ?_)));dsimp only;rw[ye6];have qJ:∀(k i:Nat) (s:ye) (f:Nat->Option IF×Unit->Sem (ForInStep (Option IF×Unit))) (Q:Option IF×Unit->ye->Prop) (E:Value->ye->Prop),i+k=xs.size->i<=j->(∀y,y∈xs->HV A.in1 s y x (e y))->
   (∀i st,f i st=(match xs[i]? with
    |some y=>do
     if <- eqBool y x then do
      let r <- retInt i
      pure (ForInStep.done (some r,()))
     else pure (yA (none,()))
    |_=>pure (yA (none,()))))->Q (some (.done (.ret (.int j s.toks))),()) {s with toks:=s.toks+1}->wpAny (model prog w) A.in1 (forIn (MA i k) (none,()) f) Q E s:=by
  intro k
  induction k with
  |zero=>intro i s f Q E hk hi;omega
  |succ k ih=>
   intro i s f Q E hk hi he hf q;have bF:i<xs.size:=by omega
   rw[List.range'_succ,BA,hf,yh bF];refine y0 (y0 (he _ (Array.getElem_mem bF) prog w _ _ ?_));by_cases iX:i=j
   ·subst iX;rw[eB];exact y0 (y0 (wpAny_mkInt (yc (yc (yc q)))))
   ·rw[i8 i bF (by omega)];exact yc (ih (i+1) s f Q E (by omega) (by omega) he hf q)
 skip;rw[y9f];rw[show MA ([:xs.size]:Uq).start ([:xs.size]:Uq).size ([:xs.size]:Uq).step=MA 0 xs.size by simp[yeb]];refine y0 (qJ xs.size 0 s _ _ _ (by omega) (gn _) he (λ_ _=>rfl) (yc h))
end
section
variable{X:Cx}
def Ur(r:V->List V->Hp->VK->Prop)(to:TE)(t:TA):TE:=λσ H Q=>to σ H λx H1=>(∃p xs,x=.ref p/\H1 p=some (.tup xs))/\t σ H1 λvs H2=>r x vs H2 Q
theorem IG{o e:Expr}{es:List Expr}{name:Str}{id:String}{cS bx:Pos}(pa:SS "tuple")(slot:Slot "tuple" name id)(Dx:typeOf (.builtin id)=pure (.type "method_descriptor"))(hm:wG X id r)(ho:PE X o to)(ha:PA X (e::es) t)
  (iq:attributeBase o name X.env (eval o X.env)=eval o X.env:=by rfl)
  (wF:((backTo bx (starEach (e::es) X.env)).all (λx=>!x.1)&&(backToKw bx (keywordEach [] X.env)).all (λx=>x.1.isSome)
   && decide ((e::es).length+([]:List sk).length+(if ([]:List sk).isEmpty then 0 else 1)<30))=true:=by rfl)
  (iu:(cS.endLine==bx.line)=true:=by rfl) (hs:starEach (e::es) X.env=(false,eval e X.env)::starEach es X.env:=by rfl) (ja:(backTo bx (starEach es X.env)).any (·.1)=false:=by rfl):
  PE X (.Call (.Attribute o name cS) (e::es) [] bx) (Ur r to t):=by
 intro ac s σ H Q I h;refine y8n iq wF iu rfl (aN (ho ac s σ H _ I h) λv s1 ⟨x,H1,I1,r1,⟨p,xs,ex,hp⟩,q1⟩=>?_);subst ex;cases r1;obtain⟨_,ai,_,it,od,f,d⟩:=(show ObjOk X.prog X.w H1 s1.heap p (.tup xs)from I1.hok p _ hp)
 refine⟨"tuple",id,pa,slot,Dx,it.typeIs,λa e=>by cases e;exact⟨od,f,d⟩,?_⟩;have hA:=ha bx ac s1 σ H1 _ I1 q1;rw[hs]at hA ⊢;refine SU (by show(false||(backTo bx (starEach es X.env)).any (·.1))=false;rw[ja]<;>rfl) (y9k ?_);exact aN hA λus s2 ⟨vs,H2,I2,r2,q2⟩=>hm ac s2 σ H2 (.ref p) vs (.ref p) us Q I2 rfl r2 q2
def IH(k:Str):Value->Bool
 | .str z _=>z==k
 |_=>false
def E3:V->List V->Hp->VK->Prop:=λx vs H Q=>∃(p:Addr) (ss:List Str) (k:Str),x=.ref p/\vs=[.str k]/\H p=some (.tup (ss.map V.str))/\k∈ss/\ss.length<=1000000/\Q (.int (ss.idxOf k:Nat)) H
theorem MB:wG X "tuple.index" E3:=by
 intro ac s σ H x vs v us Q I rx rv h;obtain⟨p,ss,k,rfl,rfl,hp,hk,hz,q⟩:=h;cases rx;obtain⟨u,rfl,t,rfl⟩:=rv.one;obtain⟨_,ai,r,it,_⟩:=(show ObjOk X.prog X.w H s.heap p (.tup (ss.map V.str))from I.hok p _ hp)
 have hl:=r.length;rw[y3]at hl;have hj:ss.idxOf k<ss.length:=E4.mpr hk;have at_:∀(m:Nat) (hm:m<ai.toArray.size),IH k ai.toArray[m]=(ss[m]'(by rw[ym]at hm;omega)==k):=λm hm=>by
  have oX:m<ai.length:=by rw[ym]at hm;exact hm
  obtain⟨z,t',h1,h2⟩:=E1 r m ai[m] (y4 oX);rw[y4 (show m<ss.length by omega)]at h1;have MC:ai.toArray[m]=.str z t':=by simpa using h2
  rw[MC];injection h1 with h1;rw[h1];rfl
 refine wJ yag it.typeIs ya1 (y9l _ _) (Up p ai.toArray (.str k t) (IH k) (ss.idxOf k) (by rw[ym];omega) ?_ ?_) ⟨it,λy hy=>?_,?_⟩
 ·rw[at_,E5 hj];exact beq_self_eq_true k
 ·intro m hm h2;rw[at_];exact Us h2
 ·obtain⟨m,hm,e⟩:=vd (show y∈ai by simpa using hy);obtain⟨z,t',_,h2⟩:=E1 r m y (by rw[<- e];exact y4 hm);rw[h2];exact Ld z t' k t
 ·exact⟨.int (ss.idxOf k:Nat),H,I.tok _,⟨_,rfl⟩,q⟩
end
section
variable{K:yd}{σ:St}{H:Hp}{Q:VK}
theorem MD(q:to σ H λx H1=>(∃p xs,x=.ref p/\H1 p=some (.tup xs))/\t σ H1 λvs H2=>r x vs H2 Q):Ur r to t σ H Q:=q
theorem E6{R:Prop}(h:H p=some (.tup xs))(q:R):(∃p' Ez,V.ref p=.ref p'/\H p'=some (.tup Ez))/\R:=⟨⟨p,xs,rfl,h⟩,q⟩
theorem ME{k:Str}(h:H p=some (.tup (ss.map V.str)))(hk:k∈ss)(hz:ss.length<=1000000)(q:Q (.int (ss.idxOf k:Nat)) H):E3 (.ref p) [.str k] H Q:=⟨p,ss,k,rfl,rfl,h,hk,hz,q⟩
theorem jnb(q:Q (.int (i+j)) H):EX K (.int i) (.int j) H Q:=.inl (Ug q)
theorem Ut{i j:Str}(h:i.length+j.length<=1000000)(q:Q (.str (i++j)) H):EX K (.str i) (.str j) H Q:=.inr ⟨i,j,rfl,rfl,by rw[xx];omega,q⟩
theorem II{b:Addr}(h1:H l=some (.lst xs))(h2:H b=some (.lst zs))(hl:xs.length+zs.length<=1000000)(q:∀p H',H p=none->H' p=some (.lst (xs++zs))->al H H'->Q (.ref p) H'):EX K (.ref l) (.ref b) H Q:=.inl (yG h1 h2 hl q)
theorem gO{b:Addr}(h1:H l=some (.tup xs))(h2:H b=some (.tup zs))(hl:xs.length+zs.length<=1000000)(q:∀p H',H' p=some (.tup (xs++zs))->al H H'->Q (.ref p) H'):EX K (.ref l) (.ref b) H Q:=.inl (yH h1 h2 hl q)
theorem Uu(c:fX i j)(q:Q (.int (i*j)) H):My (.int i) (.int j) H Q:=.inl (Tr c q)
theorem Uv{i:Str}{k:Int}(k0:0<=k)(k1:k<=1000)(h:i.length<=1000)(q:Q (.str (ft i k.toNat)) H):My (.str i) (.int k) H Q:=.inr ⟨i,k,rfl,rfl,k0,k1,h,q⟩
theorem za(q:Q (.bl (decide (i<=j))) H):EZ (.int i) (.int j) H Q:=.inl (D0 q)
theorem jl(h:H p=some (.lst xs))(q:Q (.int xs.length) H):IE K [.ref p] H Q:=.inl (xY h q)
theorem hZ(h:H p=some (.tup xs))(q:Q (.int xs.length) H):IE K [.ref p] H Q:=.inl (xZ h q)
theorem Uw(h:SqL K H p xs)(q:Q (.int xs.length) H):IE K [.ref p] H Q:=.inl (xX h q)
theorem Ux{z:Str}{c:Nat}(h:z.length<=1000000)(e:dP z.cps.toList i=some c)(q:Q (.str ⟨#[c]⟩) H):Bm K (.str z) (.int i) H Q:=.inr (.inr ⟨z,i,c,rfl,rfl,by rw[xx];omega,e,q⟩)
theorem jjm(h:H p=some (.tup (ss.map V.str)))(hl:ss.length<64)(q:∀l (fH:List Str) H',H l=none->fH.Perm ss->sortedS fH=true->H' l=some (.lst (fH.map V.str))->al H H'->Q (.ref l) H'):E2 K [.ref p] H Q:=
 .inr ⟨p,ss,true,rfl,aZ.of h,hl,λl fH n h1 h2=>q l fH _ n h1 h2 bi (dG n)⟩
end
section
variable{K:yd}{H:Hp}{Q:V->Hp->Prop}
theorem Uy(h:H p=some (.lst (ss.map V.str)))(hl:ss.length<64)(q:∀l (fH:List Str) H',H l=none->fH.Perm ss->sortedS fH=true->H' l=some (.lst (fH.map V.str))->al H H'->Q (.ref l) H'):E2 K [.ref p] H Q:=
 .inr ⟨p,ss,false,rfl,SqL.of h,hl,λl zs n hp ho=>q l zs _ n hp ho bi (dG n)⟩
end
section
variable{prog:xf}{w:World}{A:v7}{E:Value->ye->Prop}{s:ye}
theorem jbi{t sl:Addr}{items:Array Value}{vl vu:Value}{lo hi:Option Int}{Q:Value->ye->Prop}(ht:IsTup s.heap t items)(hs:s.heap.IsSliceOf sl vl vu .none)(pl:oN vl lo)(pu:oN vu hi)
  (hw:HT.sIx items.size 0 lo=0/\HT.sIx items.size items.size hi=items.size) (h:Q (.ref t) s):wpAny (model prog w) A (getItem (.ref t) (.ref sl)) Q E s:=by
 obtain⟨os,pY,HU,Dk⟩:=id hs;have K9:s.TypeIs (.ref sl) "slice":=⟨os,pY,HU⟩
 unfold getItem
 try with_reducible refine gu ?_
 first|refine y0 (yc ?_)|skip
 skip;refine y0 (ybh ht.typeIs (by decide) ?_);refine y0 (vf (name:=u5 "__getitem__") ht.typeIs Lc (gj Lc ht.typeIs yab ?_ (yar _ _)));show wpAny _ _ (SA (.ref t) >>= _) _ _ s;skip;refine y0 (SD ht ?_);skip;refine y0 (pZ K9 ?_);rw[if_pos (by decide)];skip;refine y0 (HT.sliceApplied_gen hs pl pu ?_);have MF:(((HT.sIx items.size 0 lo:Nat):Int)==0&&(1:Int)==1&&(HT.sIx items.size items.size hi-HT.sIx items.size 0 lo)==items.size)=true:=by
  rw[hw.1,hw.2];simp
 show wpAny _ _ (if (((HT.sIx items.size 0 lo:Nat):Int)==0&&(1:Int)==1&&(HT.sIx items.size items.size hi-HT.sIx items.size 0 lo)==items.size)=true then _ else _) _ _ s;rw[if_pos MF];refine y0 (y0 (pZ ht.typeIs (yc ?_)));rw[if_pos (by decide)]
 first
  |exact y0 (yD (y0 (yc (yc ⟨_,rfl,yc h⟩))))
  |exact y0 (yc (y0 (yc (yc ⟨_,rfl,yc h⟩))))
  |exact y0 (yD (yc ⟨_,rfl,yc h⟩))
end
section
variable{X:Cx}
def E7(K:yd):V->Option Int->Option Int->Hp->VK->Prop:=λx lo hi H Q=>∃a xs,x=.ref a/\aZ K H a xs/\(HT.sIx xs.length 0 lo=0/\HT.sIx xs.length xs.length hi=xs.length)/\Q (.ref a) H
theorem jlg:mC X (E7 X.K):=by
 intro ac s σ H x v vl vu lo hi sl Q I rx hs pl pu h;obtain⟨a,xs,rfl,hx,hw,q⟩:=h;cases rx;obtain⟨ai,r,ht,hz⟩:=I.tuple hx;have aL:ai.toArray.size=xs.length:=by rw[ym];exact r.length.symm
 refine⟨"tuple",_,Lc.lookup,ht.typeIs,?_⟩;exact jbi ht hs pl pu (by rw[aL];exact hw) ⟨.ref a,H,I,rfl,q⟩
def E8:V->Option Int->Option Int->Hp->VK->Prop:=λx lo hi H Q=>∃z:Str,x=.str z/\z.length<=1000000/\∀z':Str,(∀c∈z'.cps.toList,c∈z.cps.toList)->z'.length<=z.length->Q (.str z') H
theorem zb:mC X E8:=by
 intro ac s σ H x v vl vu lo hi sl Q I rx hs pl pu h;obtain⟨z,rfl,hz,q⟩:=h;obtain⟨t,rfl⟩:=rx;refine⟨"str",_,F.slot_str_getitem.lookup,SN _ _ _,?_⟩;have part:∀{v:Value}{o:Option Int},oN v o->∃l:Option (Int×Tok),v=partValue l/\l.map (·.1)=o:=λp=>by
  cases p with
  |none=>exact⟨none,rfl,rfl⟩
  |int i t=>exact⟨some (i,t),rfl,rfl⟩
 obtain⟨l,e1,_⟩:=part pl;obtain⟨u,e2,_⟩:=part pu;have fu:s.heap.IsSlice sl l u none:=by
  obtain⟨o,h1,h2,h3⟩:=hs;exact⟨o,h1,h2,by rw[h3,e1,e2];rfl⟩
 refine wpAny_getItem_str_slice fu rfl ?_;unfold sliceMade;split
 ·exact⟨.str z,H,I,⟨t,rfl⟩,q z (λc hc=>hc) (yg _)⟩
 ·have hle:((slicePicked z l u none).filterMap (z.cps[·]?)).length<=z.length:=v9 (List.length_filterMap_le _ _) (sliceIndices_le _ _ _);refine⟨?_,.str _,H,I.tok _,⟨_,rfl⟩,q _ (λc hc=>?_) ?_⟩
  ·rw[xx];show((slicePicked z l u none).filterMap (z.cps[·]?)).toArray.size<=_;rw[ym];omega
  ·have pK:c∈(slicePicked z l u none).filterMap (z.cps[·]?):=by simpa using hc
   obtain⟨i,_,hi⟩:=KL.mp pK;have:=Array.mem_of_getElem? hi;simpa using this
  ·show((slicePicked z l u none).filterMap (z.cps[·]?)).toArray.size<=_;rw[ym];exact hle
def E9(K:yd):V->Option Int->Option Int->Hp->VK->Prop:=λx lo hi H Q=>(qG K x lo hi H Q\/E7 K x lo hi H Q)\/E8 x lo hi H Q
theorem fR:mC X (E9 X.K):=(lh.or jlg).or zb
theorem jg3(h:HT.sIx xs.length 0 lo=0/\HT.sIx xs.length xs.length hi=xs.length):aQ xs lo hi=xs:=by
 unfold aQ;rw[h.1,h.2,BP,BQ,ut]
variable{o i value:Expr}{pos aY:Pos}{td ty tv:TE}
theorem BR(hr:aI k X.A)(ho:PE X o td)(hi:PE X i ty)(hs:wN i):PE X (.Subscript o i pos) (Lo td ty):=jme (by have:=hr.un;omega) ho hi hs
theorem jjo(hr:aI k X.A)(ho:PE X o td)(hi:PE X i ty)(hv:PE X value tv)(hs:swapsWith value (some (.Subscript o i aY)) pos.line X.env=pure false):PS X (.Assign [.Subscript o i aY] value pos) (Lp td ty tv):=jmf (by have:=hr.un;omega) ho hi hv hs
end
section
variable{K:yd}{σ:St}{H:Hp}{Q:VK}{td ty tv:TE}
theorem jN(h:H p=some (.tup xs))(q:∀l H',H' l=some (.tup (aQ xs lo hi))->al H H'->Q (.ref l) H'):E9 K (.ref p) lo hi H Q:=by
 by_cases c:HT.sIx xs.length 0 lo=0/\HT.sIx xs.length xs.length hi=xs.length
 ·exact .inl (.inr ⟨p,xs,rfl,aZ.of h,c,q p H (by rw[jg3 c];exact h) al.rfl'⟩)
 ·exact .inl (.inl (Iy h c λl H' _ h1 h2=>q l H' h1 h2))
def tE(x y:V)(H:Hp)(Q:VK):Prop:=∃a v,x=.ref a/\jb H a y (some v)/\Q v H
def tF(x y v:V)(H:Hp)(R:Hp->Prop):Prop:=∃a H4,x=.ref a/\DPut H a y v H4/\R H4
theorem zc(q:td σ H λx H1=>ty σ H1 λy H2=>tE x y H2 Q):Lo td ty σ H Q:=q
theorem zd{D:Ends}(q:tv σ H λv H1=>td σ H1 λx H2=>ty σ H2 λy H3=>tF x y v H3 λH4=>D.nx σ H4):Lp td ty tv D σ H:=q
end
variable{u:TE}
section
variable{X:Cx}
def mQ(t u:TE):TE:=λσ H Q=>t σ H Q\/u σ H Q
theorem lD{e:Expr}{t:TE}(h1:PE X e t)(h2:PE X e u):PE X e (mQ t u):=λac s σ H Q I h=>h.elim (λz=>h1 ac s σ H Q I z) λz=>h2 ac s σ H Q I z
theorem oY{t:TE}(q:t σ H Q):mQ t u σ H Q:=.inl q
theorem dI{t:TE}(q:u σ H Q):mQ t u σ H Q:=.inr q
end
theorem MG{α:Type}:∀(l:List α) (i:Nat) (h:i<l.length),(l[i]::l.eraseIdx i).Perm l
 |a::l,0,h=>kz _
 |a::l,i+1,h=>(Fa a _ _).trans (ycq a (MG l i (Nat.lt_of_succ_lt_succ h)))
theorem Uz{α:Type}(next:Nat->Nat):∀(fuel k:Nat) (jm:List α) (out:Array α),jm.length=fuel->(yec next fuel k jm out).toList.Perm (out.toList++jm)
 |0,k,jm,out,h=>by
  rw[vw.mp h,oK];exact kz _
 |fuel+1,k,jm,out,h=>by
  have lt:next k%jm.length<jm.length:=BS _ (by omega);unfold yec;rw[y4 lt];refine(Uz next fuel (k+1) _ _ (by rw[y6u lt];omega)).trans ?_;rw[Array.toList_push,wI];exact UA _ (MG _ _ lt)
theorem jg4{α:Type}(next:Nat->Nat)(xs:Array α):(pickOrder next xs).toList.Perm xs.toList:=Uz next xs.size 0 xs.toList #[] (yj ..)
theorem UB:Manifest.owners.lookup (String.ofList ['r','o','t','a','r','e','t','i','_','t','e','s'].reverse)=some Manifest.sig_set_iterator:=by kernel_rfl
theorem lE:Slot "set_iterator" "__next__" "set_iterator.__next__":=.of (owner:="set_iterator") (n:="__next__") (by rw[MH,MI];kernel_rfl) (by decide +kernel) (by decide +kernel) (by decide +kernel) (by first|exact .inl (by decide +kernel)|exact .inr (by decide +kernel)) (by rw[BO];kernel_rfl)
theorem IJ:entryFor table "set_iterator.__next__"=some Builtin.«set_iterator.__next__»:=entryFor_of_tree (by kernel_rfl)
theorem IK(a:Value):argsOk "set_iterator.__next__" ⟨[a],[]⟩:=by unfold argsOk;rw[signature?_of (id:="set_iterator.__next__") (n:=['_','_','t','x','e','n','_','_']) (o:=['r','o','t','a','r','e','t','i','_','t','e','s']) (by kernel_rfl) UB];kernel_rfl
theorem IM:Slot "set_iterator" "__iter__" "set_iterator.__iter__":=.of (owner:="set_iterator") (n:="__iter__") (by rw[MH,MI];kernel_rfl) (by decide +kernel) (by decide +kernel) (by decide +kernel) (by first|exact .inl (by decide +kernel)|exact .inr (by decide +kernel)) (by rw[BO];kernel_rfl)
theorem UC(a:Value):argsOk "set_iterator.__iter__" ⟨[a],[]⟩:=by unfold argsOk;rw[signature?_of (id:="set_iterator.__iter__") (n:=['_','_','r','e','t','i','_','_']) (o:=['r','o','t','a','r','e','t','i','_','t','e','s']) (by kernel_rfl) UB];kernel_rfl
theorem UD:entryFor table "set_iterator.__iter__"=some Builtin.«dict_keyiterator.__iter__»:=yd4 (id':="dict_keyiterator.__iter__") (by kernel_rfl) (by first|rfl|decide +kernel|(unfold yd3;simp +decide [ybb])) (by decide +kernel) (by kernel_rfl)
theorem UE:entryFor table "set.__iter__"=some Builtin.«frozenset.__iter__»:=yd4 (id':="frozenset.__iter__") (by kernel_rfl) (by first|rfl|decide +kernel|(unfold yd3;simp +decide [ybb])) (by decide +kernel) (by kernel_rfl)
def cN(w:World):Bool:=w.params.followText "set-order"
abbrev aW(es:Array (Int×Value))(ep:Nat)(t:u6):Obj:={cls:=.type "set",dict:=none,data:=.set es ep t,slots:=#[]}
abbrev fz(f i:Nat)(S:Addr)(n ep:Nat):Obj:={cls:=.type "set_iterator",dict:=none,data:=.fields #[rawInt f,rawInt i,.ref S,rawInt n,rawInt ep],slots:=#[]}
structure MJ(t:u6)(n:Nat)(sl:Nat->Nat):Prop where
 fits:t.fits n=true
 plain:t.plain=true
 zero:sl 0=0
 low:∀i,i<=n->xg t.place (sl i)=i
 step:∀i,i<n->∃j,t.place[i]?=some j/\j+1=sl (i+1)
def dR(w:World)(sl:Nat->Nat)(i:Nat):Nat:=if cN w then 0 else sl i
def lF(w:World)(S:Addr)(ep:Nat)(es:Array (Int×Value)):Array (Int×Value):=if cN w then pickOrder (w.params.setOrder S ep) es else es
theorem UF(w:World)(S:Addr)(ep:Nat)(es:Array (Int×Value)):(lF w S ep es).toList.Perm es.toList:=by
 unfold lF;split
 ·exact jg4 _ _
 ·exact kz _
theorem UG(w:World)(S:Addr)(ep:Nat)(es:Array (Int×Value)):(lF w S ep es).size=es.size:=by
 rw[<- yj,(UF w S ep es).length_eq,yj]
section
variable{prog:xf}{w:World}{A:v7}{E:Value->ye->Prop}{s:ye}
theorem IN{Q:Bool->ye->Prop}(h:Q (cN w) s):wpAny (model prog w) A setsByText Q E s:=by
 unfold setsByText;skip;exact y0 (UH (yc h))
theorem jnd{I S:Addr}{f i ep:Nat}{Q:Value->ye->Prop}(hI:s.heap.get? I=some (fz f i S n ep))(h:Q (.ref I) s):wpAny (model prog w) A (pyIter (.ref I)) Q E s:=by
 have te:s.TypeIs (.ref I) "set_iterator":=⟨_,hI,rfl⟩
 refine Fb te IM (gj IM te UD ?_ (UC _));exact yc ⟨_,rfl,"set_iterator",_,te,lE.lookup,h⟩
end
theorem ze:isSubtype (.type "set") (.type "set")=pure true:=by rw[BO];kernel_rfl
section
variable{prog:xf}{w:World}{A:v7}{E:Value->ye->Prop}{s:ye}
theorem UI{P:Nat->Value->Prop}{ys:List Value}{acc:Array Value}(h:BN P acc ys.length)(hp:∀i v,P i v->ys[i]?=some v):acc.toList=ys:=by
 refine ER λi=>?_;by_cases hi:i<acc.size
 ·have e:acc.toList[i]?=some acc[i]:=by rw[xr];exact yh hi
  rw[e];exact(hp i _ (h.2 i _ (yh hi))).symm
 ·rw[yW (by rw[yj];omega),yW (by have:=h.1;omega)]
end
def Fc(led:Bool)(k:Nat):u6:={mask:=if k<5 then 7 else 31,place:=Array.range k,dummies:=#[],finger:=0,led:=led,moves:=if k<5 then 0 else 1,plain:=true}
theorem UJ{α:Type}(xs:List α):∀k,k<=xs.length->(vi k).filterMap (xs[·]?)=xs.take k
 |0,_=>rfl
 |k+1,h=>by
  have e:xs[k]?=some (xs[k]'(by omega)):=y4 (by omega);rw[sY,List.filterMap_append,UJ xs k (by omega),gc,e];simp[e]
section
variable{prog:xf}{w:World}{A:v7}{E:Value->ye->Prop}{s:ye}
theorem jjp(a:Value){QN:Value->ye->Prop}(h:QN (.ref s.heap.objs.size) {s with heap:=s.heap.push (newSet (!cN w))}):
  codeAny (model prog w) A (.call (.builtin "set.__new__") ⟨[.type "set",a],[]⟩) (wants QN E) s:=by
 refine yci ?_;show wpAny _ A.in1 (do checkBuiltinCall "set.__new__" ⟨[.type "set",a],[]⟩;again (.builtin "set.__new__" ⟨[.type "set",a],[]⟩)) _ _ s;refine y0 (ji (PySem.F.newCall_set_1 a) (yc ⟨mR y95 _,lA PySem.F.entry_set_new ?_⟩));rw[uq y95 _];skip;unfold Builtin.«set.__new__» ycm;have Ey:=sub_set_self;skip;obtain⟨hp,g,d,tk,os⟩:=s;dsimp only;wp_walk;refine UH (yc ?_);dsimp only;simp only[newObj];skip;refine y0 (wpAny_alloc (yc (yc h)))
end
def fI(n:Nat):List Int:=(vi n).map λ(i:Nat)=>(i:Int)
theorem MK(n:Nat):(fI n).length=n:=by unfold fI;rw[y3,tG]
theorem jda{acc:Array Value}{n:Nat}(h:BN (λi v=>∃t,v=.int (0+(i:Nat)*1) t) acc n):am ((fI n).map V.int) acc.toList:=by
 have g:∀(l:List Value) (k:Nat),(∀(i:Nat) (v:Value),l[i]?=some v->∃t,v=.int ((k+i:Nat):Int) t)->am (((MA k l.length).map λ(i:Nat)=>(i:Int)).map V.int) l:=by
  intro l
  induction l with
  |nil=>intro k _;exact .nil
  |cons x l ih=>
   intro k hk;obtain⟨t,e⟩:=hk 0 x rfl;refine .cons ⟨t,by rw[e];rfl⟩ (ih (k+1) λi v hv=>?_);obtain⟨t,e⟩:=hk (i+1) v (by simpa using hv);exact⟨t,by rw[e,Nat.add_assoc,Lh 1 i]⟩
 have:=g acc.toList 0 λi v hv=>by
  rw[xr]at hv;obtain⟨t,e⟩:=h.2 i v hv;exact⟨t,by rw[e];congr 1;omega⟩
 rw[yj,h.1]at this;unfold fI;rw[List.range_eq_range'];exact this
section
variable{X:Cx}
def UK:List V->Hp->VK->Prop:=λxs H Q=>∃n:Nat,xs=[.int (n:Int)]/\n<=1000/\∀l,H l=none->Q (.ref l) (aH H l (.lst ((fI n).map V.int)))
theorem UL{a:Expr}{ta:TA}{p p' pos aY:Pos}(hc:X.calm=true)(hg:Gl X "list")(hm:X.mg "list"=none)(Fd:Gl X "range")(Fe:X.mg "range"=none)(ha:PA X [a] ta)(hs:starEach [a] X.env=[(false,eval a X.env)]:=by rfl)
  (ht:starEach [.Call (.Name "range" p') [a] [] aY] X.env=[(false,eval (.Call (.Name "range" p') [a] [] aY) X.env)]:=by rfl):
  PE X (.Call (.Name "list" p) [.Call (.Name "range" p') [a] [] aY] [] pos) (Bj UK ta):=by
 intro ac s σ H Q I h;refine ux (jY I hg hm vj (u0 ?_ ht rfl) (by decide) (by decide));rw[ht];show wpAny _ _ (spliced ((false,eval (.Call (.Name "range" p') [a] [] aY) X.env)::backTo pos [])) _ _ s;refine K2 (ux (jY I Fd Fe boot_range (u0 (aN (ha aY ac s σ H _ I h) λus s1 ⟨vs,H1,I1,r1,q1⟩=>?_) hs rfl) (by decide) (by decide)));obtain⟨n,e,hz,q⟩:=q1;subst e;obtain⟨u,rfl,ru⟩:=fM r1;obtain⟨t,rfl⟩:=ru;refine call_range_1 (HP ?_);have hn:Z8 0 (n:Int) 1=n:=by rw[rangeSize_one];split<;>omega
 refine call_list_range (s:={s1 with heap:=_,toks:=_}) (n:=n) (I1.ok.hd hc) (Z7 ..) (small_one (by omega) (by omega) (by omega) (by omega)) hn (by omega) λh' tk acc c' hk hS dQ=>?_;have l0:s1.heap.objs.size<=(s1.heap.push {cls:=.type "range",data:=.fields #[.int 0 s1.toks,.int (n:Int) t,.int 1 (s1.toks+1)]}).objs.size:=by rw[vq];exact i6 _
 have kk:∀b o,s1.heap.get? b=some o->h'.get? b=some o:=λb o e=>hk b o (yb _ e);exact⟨.ref _,_,I1.laid (t':=tk) kk l0 (show ObjOk X.prog X.w _ _ _ (.lst ((fI n).map V.int))from⟨by rw[y3,MK,xx];omega,acc.toList,c',jda dQ,by simpa using hS⟩),rfl,q _ (I1.hok.fresh l0)⟩
theorem UM(n:Nat)(e:i=n)(hn:n<=1000)(q:∀l H',H l=none->H' l=some (.lst ((fI n).map V.int))->al H H'->Q (.ref l) H'):UK [.int i] H Q:=⟨n,by rw[e],hn,λl nl=>q l _ nl bi (dG nl)⟩
end
end L2
set_option Elab.async false
set_option linter.all false
set_option maxRecDepth 100000
set_option maxHeartbeats 4000000
namespace L2
open PySem PySem.Spec PyProof.Rows PySem.W
variable{p:Array Nat}{i j m:Nat}
section
variable{O:KeyOrd}{k:Nat->O.α}{n:Nat}{s:ye}{cmp:Nat->Nat->(Bool->ye->Prop)->ye->Prop}
def bu(k:Nat->O.α)(p:Array Nat)(i:Nat):O.α:=k (p[i]?.getD 0)
def jo(k:Nat->O.α)(p:Array Nat)(m:Nat):Prop:=∀i j,i<=j->j<m->O.kle (bu k p i) (bu k p j)
def zf(k:Nat->O.α)(p:Array Nat)(m:Nat):Prop:=∀i j,i<=j->j<m->O.kle (bu k p j) (bu k p i)
def dD(n:Nat)(p:Array Nat):Prop:=p.toList.Perm (vi n)
theorem dD.size{p:Array Nat}(h:dD n p):p.size=n:=by have:=h.length_eq;simpa using this
theorem dD.lt(h:dD n p)(hi:i<n):p[i]?.getD 0<n:=by
 have hs:=h.size;rw[yh (by omega),IQ];exact u9.mp (h.mem_iff.mp (by simp))
theorem dD.of{q:Array Nat}(h:dD n p)(e:q.Perm p):dD n q:=(Array.perm_iff_toList_perm.mp e).trans h
theorem dD.rev(h:dD n p)(i j:Nat):dD n (kas_rev p i j):=h.of (mirror_perm _ _ _ _)
theorem dD.bub(h:dD n p)(i j:Nat):dD n (bubble p i j):=h.of (bubble_perm _ _ _)
theorem ML(hj:j<=p.size)(m:Nat):bu k (kas_rev p i j) m=if i<=m/\m<j then bu k p (i+j-1-m)else bu k p m:=by
 unfold bu kas_rev;rw[getElem?_mirror_all hj];split<;>rfl
theorem Ff(hj:j<=p.size)(he:∀m,i<=m->m<j->bu k p m=bu k p (j-1))(m:Nat):bu k (kas_rev p i j) m=bu k p m:=by
 rw[ML hj];split
 ·rw[he _ (by omega) (by omega),he m (by omega) (by omega)]
 ·rfl
theorem UN{a d:Nat}(ha:a<p.size)(hd:d<=a)(m:Nat):bu k (bubble p a d) m=if m=a-d then bu k p a else if a-d<m/\m<=a then bu k p (m-1)else bu k p m:=by
 unfold bu;rw[getElem?_bubble ha d hd];split
 ·rfl
 ·split<;>rfl
def Tells(k:Nat->O.α)(n:Nat)(cmp:Nat->Nat->(Bool->ye->Prop)->ye->Prop)(s:ye):Prop:=∀i j,i<n->j<n->∀C:Bool->ye->Prop,C (O.blt (k i) (k j)) s->cmp i j C s
theorem Tells.at(T:Tells k n cmp s)(h:dD n p)(hi:i<n)(hj:j<n){C:Bool->ye->Prop}(c:C (O.blt (bu k p i) (bu k p j)) s):cmp (p.getD i 0) (p.getD j 0) C s:=by
 rw[xy,xy];exact T _ _ (h.lt hi) (h.lt hj) C c
theorem jjq(h:jo k p m)(h1:1<=m)(c:O.blt (bu k p m) (bu k p (m-1))=false):jo k p (m+1):=by
 intro i j iX hj;by_cases hm:j<m
 ·exact h i j iX hm
 ·obtain rfl:j=m:=by omega
  by_cases hi:i=j
  ·rw[hi];exact zg _
  ·exact MM (h i (j-1) (by omega) (by omega)) c
theorem MN(T:Tells k n cmp s){p:Array Nat}(hp:dD n p){G:Nat->ye->Prop}:∀(f m:Nat),1<=m->m+f<=n->jo k p m->
  (∀r,m<=r->r<=m+f->jo k p r->(r=m+f\/O.klt (bu k p r) (bu k p (r-1)))->G r s)->(kas_asc p f m).kasWp cmp G s
 |0,m,h1,hn,hs,h=>h m (yg _) (yg _) hs (.inl rfl)
 |f+1,m,h1,hn,hs,h=>by
  show cmp (p.getD m 0) (p.getD (m-1) 0) (λb s'=>(if b=true then KasT.ret m else kas_asc p f (m+1)).kasWp cmp G s') s;refine T.at hp (by omega) (by omega) ?_;cases c:O.blt (bu k p m) (bu k p (m-1))with
  |true=>exact h m (yg _) (by omega) hs (.inr c)
  |false=>exact MN T hp f (m+1) (by omega) (by omega) (jjq hs h1 c) λr a b d e=>h r (by omega) (by omega) d (e.imp (λz=>by omega) id)
def MO(k:Nat->O.α)(p:Array Nat)(m q:Nat):Prop:=q+1<=m/\∀i,m-(q+1)<=i->i<m->bu k p i=bu k p (m-1)
theorem MP(h:1<=m):MO k p m 0:=⟨h,λi a b=>by rw[show i=m-1 by omega]⟩
theorem MQ{p':Array Nat}(e:∀i,bu k p' i=bu k p i)(h:zf k p m)(h1:1<=m)(c:O.kle (bu k p m) (bu k p (m-1))):zf k p' (m+1):=by
 intro i j iX hj;rw[e,e];by_cases hm:j<m
 ·exact h i j iX hm
 ·obtain rfl:j=m:=by omega
  by_cases hi:i=j
  ·rw[hi];exact zg _
  ·exact MM c (h i (j-1) (by omega) (by omega))
theorem IS(T:Tells k n cmp s){G:Array Nat×Nat×Nat->ye->Prop}:∀(f:Nat) (p:Array Nat) (m q:Nat),dD n p->1<=m->m+f<=n->zf k p m->MO k p m q->
  (∀p' r q',dD n p'->m<=r->r<=m+f->zf k p' r->MO k p' r q'->G (p',r,q') s)->(kas_desc f p m q).kasWp cmp G s
 |0,p,m,q,hp,h1,hn,hd,he,h=>h p m q hp (yg _) (yg _) hd he
 |f+1,p,m,q,hp,h1,hn,hd,he,h=>by
  show cmp (p.getD m 0) (p.getD (m-1) 0) (λb s'=>(if b=true then(if q > 0 then kas_desc f (kas_rev p (m-(q+1)) m) (m+1) 0 else kas_desc f p (m+1) 0)else KasT.ask (p.getD (m-1) 0) (p.getD m 0) λd=>if d=true then .ret (p,m,q)else kas_desc f p (m+1) (q+1)).kasWp cmp G s') s;refine T.at hp (by omega) (by omega) ?_;have hsz:=hp.size;cases c:O.blt (bu k p m) (bu k p (m-1))with
  |true=>
   rw[if_pos rfl];have cl:O.kle (bu k p m) (bu k p (m-1)):=MR c;by_cases hq:q > 0
   ·rw[if_pos hq];exact IS T f _ (m+1) 0 (hp.rev _ _) (by omega) (by omega) (MQ (Ff (by omega) he.2) hd h1 cl) (MP (by omega)) λp' r q' a b c d e=>h p' r q' a (by omega) (by omega) d e
   ·rw[if_neg hq];exact IS T f p (m+1) 0 hp (by omega) (by omega) (MQ (λ_=>rfl) hd h1 cl) (MP (by omega)) λp' r q' a b c d e=>h p' r q' a (by omega) (by omega) d e
  |false=>
   rw[if_neg (by decide)];show cmp (p.getD (m-1) 0) (p.getD m 0) (λb s'=>(if b=true then KasT.ret (p,m,q)else kas_desc f p (m+1) (q+1)).kasWp cmp G s') s;refine T.at hp (by omega) (by omega) ?_;cases d:O.blt (bu k p (m-1)) (bu k p m)with
   |true=>exact h p m q hp (yg _) (by omega) hd he
   |false=>
    have eq:bu k p m=bu k p (m-1):=ya2 d c;refine IS T f p (m+1) (q+1) hp (by omega) (by omega) (MQ (λ_=>rfl) hd h1 d) ⟨by have:=he.1;omega,λi a b=>?_⟩ λp' r q' a b c d e=>h p' r q' a (by omega) (by omega) d e;rw[show m+1-1=m by omega];by_cases hi:i=m
    ·rw[hi]
    ·rw[eq];exact he.2 i (by omega) (by omega)
theorem jnf(hm:m<=p.size)(h:zf k p m):jo k (kas_rev p 0 m) m:=by
 intro i j iX hj;rw[ML hm,ML hm,if_pos (by omega),if_pos (by omega)];exact h _ _ (by omega) (by omega)
theorem UO(T:Tells k n cmp s)(hp:dD n p)(h1:1<=m)(hm:m<=n)(hd:zf k p m){G:Nat×Array Nat->ye->Prop}
  (h:∀r p',dD n p'->1<=r->r<=n->jo k p' r->G (r,p') s):(kas_tail3 m n p).kasWp cmp G s:=by
 unfold kas_tail3;rw[KasT.kasWp_bind];exact MN T (hp.rev _ _) _ m h1 (by omega) (jnf (by rw[hp.size];exact hm) hd) λr a b c _=>h r _ (hp.rev _ _) (by omega) (by omega) c
theorem UP(T:Tells k n cmp s)(hp:dD n p)(hm:m+1<=n)(hd:zf k p (m+1)){G:Nat×Array Nat->ye->Prop}
  (h:∀r p',dD n p'->1<=r->r<=n->jo k p' r->G (r,p') s):(kas_descPart m n p).kasWp cmp G s:=by
 unfold kas_descPart;rw[KasT.kasWp_bind];refine IS T _ p (m+1) 0 hp (by omega) (by omega) hd (MP (by omega)) λp' r q' a b c d e=>?_;have hs:=a.size;by_cases hq:q' > 0
 ·show(if q' > 0 then kas_tail3 r n (kas_rev p' (r-(q'+1)) r)else kas_tail3 r n p').kasWp cmp G s;rw[if_pos hq];refine UO T (a.rev _ _) (by omega) (by omega) (λi j iX hj=>?_) h;rw[Ff (by omega) e.2,Ff (by omega) e.2];exact d i j iX hj
 ·show(if q' > 0 then kas_tail3 r n (kas_rev p' (r-(q'+1)) r)else kas_tail3 r n p').kasWp cmp G s;rw[if_neg hq];exact UO T a (by omega) (by omega) d h
theorem jng(T:Tells k n cmp s){p:Array Nat}(hp:dD n p)(h0:1<=n){G:Nat×Array Nat->ye->Prop}(h:∀r p',dD n p'->1<=r->r<=n->jo k p' r->G (r,p') s):(kas_count n p).kasWp cmp G s:=by
 have hsz:=hp.size;unfold kas_count;rw[KasT.kasWp_bind];refine MN T hp _ 1 (yg _) (by omega) (λi j iX hj=>by rw[show i=j by omega];exact zg _) λm a b c e=>?_;by_cases hm:m=n
 ·rw[if_pos (by simpa using hm)];exact h m p hp a (by omega) c
 ·rw[if_neg (by simpa using hm)];have lt:O.klt (bu k p m) (bu k p (m-1)):=e.resolve_left (by omega);by_cases h2:m > 1
  ·rw[if_pos h2];show cmp (p.getD 0 0) (p.getD (m-1) 0) (λb s'=>(if b=true then KasT.ret (m,p)else kas_descPart m n (kas_rev p 0 m)).kasWp cmp G s') s;refine T.at hp (by omega) (by omega) ?_;cases d:O.blt (bu k p 0) (bu k p (m-1))with
   |true=>exact h m p hp a (by omega) c
   |false=>
    rw[if_neg (by decide)];have all:∀i,0<=i->i<m->bu k p i=bu k p (m-1):=λi _ hi=>ya2 (c i (m-1) (by omega) (by omega)) (MM d (c 0 i (by omega) hi));refine UP T (hp.rev _ _) (by omega) (λi j iX hj=>?_) h;rw[Ff (by omega) all,Ff (by omega) all];by_cases hj2:j<m
    ·rw[all i (by omega) (by omega),all j (by omega) hj2];exact zg _
    ·obtain rfl:j=m:=(by omega);by_cases hi:i=j
     ·rw[hi];exact zg _
     ·rw[all i (by omega) (by omega)];exact MR lt
  ·rw[if_neg h2];obtain rfl:m=1:=by omega
   refine UP T hp (by omega) (λi j iX hj=>?_) h;by_cases hi:i=j
   ·rw[hi];exact zg _
   ·obtain rfl:i=0:=(by omega);obtain rfl:j=1:=(by omega);exact MR lt
theorem MS(T:Tells k n cmp s){p:Array Nat}(hp:dD n p){a:Nat}(ha:a<n)(hs:jo k p a){G:Nat->ye->Prop}(h:∀l,l<=a->(∀i,i<l->O.kle (bu k p i) (bu k p a))->(∀i,l<=i->i<a->O.klt (bu k p a) (bu k p i))->G l s):
  ∀(f l r:Nat),l<=r->r<=a->r-l<=f->(∀i,i<l->O.kle (bu k p i) (bu k p a))->(∀i,r<=i->i<a->O.klt (bu k p a) (bu k p i))->(kas_place p a f l r).kasWp cmp G s
 |0,l,r,hl,hr,hf,x,y=>h l (by omega) x (by rw[show l=r by omega];exact y)
 |f+1,l,r,hl,hr,hf,x,y=>by
  unfold kas_place;by_cases oZ:l>=r
  ·rw[if_pos oZ];exact h l (by omega) x (by rw[show l=r by omega];exact y)
  ·rw[if_neg oZ];show cmp (p.getD a 0) (p.getD ((l+r)/2) 0) (λb s'=>(if b=true then kas_place p a f l ((l+r)/2)else kas_place p a f ((l+r)/2+1) r).kasWp cmp G s') s;refine T.at hp ha (by omega) ?_;cases c:O.blt (bu k p a) (bu k p ((l+r)/2))with
   |true=>exact MS T hp ha hs h f l ((l+r)/2) (by omega) (by omega) (by omega) x λi u v=>KeyOrd.klt_of_klt_of_kle c (hs _ _ u v)
   |false=>exact MS T hp ha hs h f ((l+r)/2+1) r (by omega) (by omega) (by omega) (λi u=>MM (hs i ((l+r)/2) (by omega) (by omega)) c) y
theorem tH(T:Tells k n cmp s){G:Array Nat->ye->Prop}(h:∀p,dD n p->jo k p n->G p s):∀(f:Nat) (p:Array Nat) (a:Nat),dD n p->a+f=n->jo k p a->(kas_bin f p a).kasWp cmp G s
 |0,p,a,hp,ha,hs=>h p hp (by rw[<- ha];exact hs)
 |f+1,p,a,hp,ha,hs=>by
  have hsz:=hp.size;unfold kas_bin;rw[KasT.kasWp_bind];refine MS T hp (by omega) hs (λl hl x y=>?_) a 0 a (gn _) (yg _) (by omega) (λi hi=>by omega) λi u v=>by omega
  refine tH T h f _ (a+1) (hp.bub _ _) (by omega) λi j iX hj=>?_;rw[UN (by omega) (by omega),UN (by omega) (by omega),show a-(a-l)=l by omega]
  repeat' split
  all_goals first|(exfalso;omega)|exact zg _|exact x _ (by omega)|exact MR (y _ (by omega) (by omega))|exact hs _ _ (by omega) (by omega)
theorem zh(T:Tells k n cmp s)(h0:1<=n){G:Array Nat->ye->Prop}(h:∀p,dD n p->jo k p n->G p s):(kas_sort n).kasWp cmp G s:=by
 unfold kas_sort;rw[KasT.kasWp_bind];refine jng T (kz _) h0 λr p' a b c d=>?_;show(if r<n then kas_bin (n-max r 1) p' (max r 1)else KasT.ret p').kasWp cmp G s;rw[show max r 1=r by omega];by_cases hr:r<n
 ·rw[if_pos hr];exact tH T h _ p' r a (by omega) d
 ·rw[if_neg hr];obtain rfl:r=n:=by omega
  exact h p' a d
end
end L2
set_option Elab.async false
set_option linter.all false
set_option maxRecDepth 100000
set_option maxHeartbeats 4000000
namespace L2
open PySem PySem.Spec PyProof.Rows PySem.W
section
variable{prog:xf}{w:World}{A:v7}{E:Value->ye->Prop}{s:ye}{O:KeyOrd}{k:Nat->O.α}{a:Addr}{vs:List Value}
theorem jjs{κ:SortKind}{n:Nat}{P:IF->ye->Prop}(ho:s.heap.get? a=some (seqObj "list" vs.toArray n))(fZ:vs.length<64)
  (lG:2<=vs.length->∀h',(∀b o,b≠a->s.heap.get? b=some o->h'.get? b=some o)->∀Q:SortKind->ye->Prop,Q κ {s with heap:=h'}->wpAny (model prog w) A (keyKind' vs.toArray) Q E {s with heap:=h'})
  (hT:∀h',(∀b o,b≠a->s.heap.get? b=some o->h'.get? b=some o)->Tells k vs.length (kas_ask prog w A κ vs) {s with heap:=h'})
  (h:∀p:Array Nat,dD vs.length p->jo k p vs.length->P (.done (.ret .none)) {s with heap:=sortedHeap s.heap a vs (p.toList.map λi=>vs.getD i .none).toArray}):
  wpAny (model prog w) A (Builtin.«list.sort» ⟨[v5 a],[]⟩) P E s:=by
 have la:a<s.heap.objs.size:=yt ho;have zl:vs.length<=sizeLine:=by rw[xx];omega
 rw[list_sort_plain];refine y0 (T9 ho rfl (y0 (Mn ho rfl ?_ (by rw[ym];omega) (gn _))));obtain⟨e1,g1⟩:∃e1,(s.heap.update a (gf λ_=>#[])).get? a=some (seqObj "list" #[] e1):=⟨_,Mo ho (λ_=>#[])⟩
 refine y0 (UQ g1 rfl (y0 (TZ (y0 (qI (gu ?_) (gn _))) zl)));have g6:(((s.heap.update a (gf λ_=>#[])).push (seqObj "tuple" vs.toArray 0)).push (seqObj "list" #[] 0)).get? a=some (seqObj "list" #[] e1):=yb _ (yb _ g1);have kp:∀b o,b≠a->s.heap.get? b=some o->(((s.heap.update a (gf λ_=>#[])).push (seqObj "tuple" vs.toArray 0)).push (seqObj "list" #[] 0)).get? b=some o:=
  λb o q e=>yb _ (yb _ ((uo _ _ (iN q)).trans e))
 skip;show wpAny (model prog w) A _ P E {s with heap:=((s.heap.update a (gf λ_=>#[])).push (seqObj "tuple" vs.toArray 0)).push (seqObj "list" #[] 0)};dsimp only;have sz:vs.toArray.size=vs.length:=ym ..;by_cases h2:(vs.toArray.size<2)
 ·rw[if_pos h2,if_pos h2];refine y0 (yc ?_);rw[StateT.run_pure];refine y0 (yc ?_);have es:((vs.toArray.zip vs.toArray).map λx=>x.2)=((vi vs.length).toArray.toList.map λi=>vs.getD i .none).toArray:=by
   apply yf7;refine ER λi=>?_;by_cases hi:i<vs.length
   ·simp[hi]
   ·simp[hi]
  have q:=h (vi vs.length).toArray (kz _) λi j iX hj=>by rw[show i=j by omega];exact zg _
  rw[<- es]at q;refine y0 (UQ g6 rfl (y0 (Mn g6 rfl ?_ (by simp) (by show((vs.toArray.zip vs.toArray).map λx=>x.2).size<=_;rw[Array.size_map,Array.size_zip];omega))));skip;simp only[bne_self_eq_false,vt,if_false];exact yc q
 ·rw[if_neg h2,if_neg h2];refine y0 (lG (by omega) _ kp _ ?_);refine y0 (iP (kat_run (ks:=vs) (vs:=vs) (Q:=λdX s'=>s'={s with heap:=((s.heap.update a (gf λ_=>#[])).push (seqObj "tuple" vs.toArray 0)).push (seqObj "list" #[] 0)}/\∃p:Array Nat,arrOf dX=p.map (kas_item (vs.toArray.zip vs.toArray))/\failedOf dX=none/\dD vs.length p/\jo k p vs.length)
   rfl (by omega) fZ (λp dX s' _ a2 a3 a4=>⟨a4.1,p,a2,a3,a4.2⟩) (zh (G:=λp s'=>s'=_/\dD vs.length p/\jo k p vs.length) (hT _ kp) (by omega) λp x y=>⟨rfl,x,y⟩)) ?_ λ_ _ e=>e)
  rintro⟨⟨⟩,dX⟩ s' ⟨rfl,p,har,hf,ok,as⟩;have es:=kat_snds rfl har;dsimp only;refine y0 (UQ g6 rfl (y0 (Mn g6 rfl ?_ (by simp) (by show((arrOf dX).map λx=>x.2).size<=_;rw[es,ym,y3,yj,ok.size];omega))));rw[hf];skip;simp only[bne_self_eq_false,vt,if_false];have q:=h p ok as;rw[<- es]at q;exact yc q
end
section
variable{prog:xf}{w:World}{A:v7}{E:Value->ye->Prop}{s:ye}
theorem zi{b:Bool}{x y:Int}{t u:Tok}{Q:Bool->ye->Prop}(h:Q (decide (x<y)) s):wpAny (model prog w) A (oneLt' b (.int x t) (.int y u)) Q E s:=by
 cases b with
 |true=>exact oneLt_int h
 |false=>exact kat_one _ _ (lt_int h)
end
def kA(xs:Array Nat):Prop:=xs.toList.Pairwise (· < ·)
structure tI(xs:Array Nat)(j r:Nat):Prop where
 le:r<=xs.size
 lo:∀i,i<r->xs.getD i 0<j
 hi:∀i,r<=i->i<xs.size->j<=xs.getD i 0
variable{xs:Array Nat}{i:Nat}
theorem pc{d:Nat}(h:i<xs.size):xs.getD i d=xs[i]:=by simp[yf8,h]
theorem kA.lt(h:kA xs){k:Nat}(a:i<k)(b:k<xs.size):xs.getD i 0<xs.getD k 0:=by
 rw[pc (by omega),pc b];have:=UR.mp h i k (by rw[yj];omega) (by rw[yj];exact b) a;simpa using this
variable{j:Nat}
theorem tI.uniq{r r':Nat}(a:tI xs j r)(b:tI xs j r'):r=r':=by
 rcases US r r' with h|h|h
 ·have x:=a.hi r (yg _) (by have:=b.le;omega);have y:=b.lo r h;omega
 ·exact h
 ·have x:=b.hi r' (yg _) (by have:=a.le;omega);have y:=a.lo r' h;omega
theorem MT{xs:Array Nat}{j:Nat}(hr:kA xs):∀(fuel lo hi:Nat),lo<=hi->hi<=xs.size->hi-lo<=fuel->(∀i,i<lo->xs.getD i 0<j)->(∀i,hi<=i->i<xs.size->j<=xs.getD i 0)->tI xs j (yba xs j fuel lo hi)
 |0,lo,hi,a,b,c,d,e=>⟨by show lo<=_;omega,d,by show ∀i,lo<=i->_;rw[show lo=hi by omega];exact e⟩
 |fuel+1,lo,hi,a,b,c,d,e=>by
  unfold yba;by_cases h:lo<hi
  ·rw[if_pos h];have hm:(lo+hi)/2<xs.size:=by omega
   dsimp only;rw[pc hm];have em:xs.getD ((lo+hi)/2) 0=xs[(lo+hi)/2]:=pc hm;by_cases q:xs[(lo+hi)/2]<j
   ·rw[if_pos q];refine MT hr fuel _ hi (by omega) b (by omega) (λi pd=>?_) e;by_cases z:i=(lo+hi)/2
    ·rw[z,em];exact q
    ·have:=hr.lt (show i<(lo+hi)/2 by omega) hm;omega
   ·rw[if_neg q];refine MT hr fuel lo _ (by omega) (by omega) (by omega) d λi x y=>?_;by_cases z:i=(lo+hi)/2
    ·rw[z,em];omega
    ·have:=hr.lt (show(lo+hi)/2<i by omega) y;omega
  ·rw[if_neg h];exact⟨by omega,d,by rw[show lo=hi by omega];exact e⟩
theorem IT(hr:kA xs)(j:Nat):tI xs j (xg xs j):=MT hr xs.size 0 xs.size (gn _) (yg _) (by omega) (λi h=>by omega) λi a b=>by omega
theorem MU(hr:kA xs)(j:Nat):xs[xg xs j]?=some j↔j∈xs.toList:=by
 have L:=IT hr j;constructor
 ·intro h;exact vg (by rw[xr];exact h)
 ·intro h;obtain⟨i,hi,e⟩:=vd h;rw[yj]at hi;have e':xs.getD i 0=j:=by rw[pc hi];simpa using e
  have:xg xs j=i:=by
   refine L.uniq ⟨by omega,λk hk=>?_,λk a b=>?_⟩
   ·have:=hr.lt hk hi;omega
   ·by_cases z:k=i
    ·rw[z];omega
    ·have:=hr.lt (show i<k by omega) b;omega
  rw[this,yh hi];simpa using e
theorem IU{α:Type}(xs:Array α)(p:Nat)(x:α):(xa xs p x).toList=xs.toList.take p++x::xs.toList.drop p:=by
 unfold xa;simp;skip;exact xq (by simp)
variable{p:Nat}
theorem jju(L:tI xs j p):∀y∈xs.toList.take p,y<j:=by
 intro y hy;obtain⟨i,hi,e⟩:=vd hy;rw[yp]at hi;have:=L.lo i (by omega);rw[pc (by rw[yj]at hi;omega)]at this;rw[<- e];simpa using this
theorem jjv(L:tI xs j p):∀y∈xs.toList.drop p,j<=y:=by
 intro y hy;obtain⟨i,hi,e⟩:=vd hy;rw[ve,yj]at hi;have:=L.hi (p+i) (by omega) (by omega);rw[pc (by omega)]at this;rw[<- e];simpa using this
theorem jde(h:kA xs)(L:tI xs j p)(hn:j∉xs.toList):kA (xa xs p j):=by
 unfold kA at h ⊢;rw[IU];have hp:=h;rw[<- vz p xs.toList]at hp;obtain⟨h1,h2,h3⟩:=y9q.mp hp;have gt:∀y∈xs.toList.drop p,j<y:=λy hy=>by
  have:=jjv L y hy;have:j≠y:=λe=>hn (by rw[e];exact BU hy);omega
 refine y9q.mpr ⟨h1,BV.mpr ⟨gt,h2⟩,λx hx y hy=>?_⟩;skip;rcases xc.mp hy with rfl|hy
 ·exact jju L x hx
 ·exact h3 x hx y hy
variable{t:u6}
theorem MV(hd:t.dummies=#[])(hr:kA t.place)(j:Nat):t.slot j=if j∈t.place.toList then .live (xg t.place j)else .empty:=by
 unfold SetTable.slot;dsimp only;rw[hd];by_cases h:j∈t.place.toList
 ·rw[if_pos h,(MU hr j).mpr h,if_pos (by simp)]
 ·rw[if_neg h,if_neg (by rw[beq_iff_eq,MU hr];exact h),if_neg (by unfold IV;simp)]
theorem jjw{n:Nat}(hf:t.fits n=true)(hp:t.plain=true)(hr:kA t.place)(hn:t.place.size=n):MJ t n λi=>if i=0 then 0 else t.place.getD (i-1) 0+1:=by
 refine⟨hf,hp,rfl,λi hi=>?_,λi hi=>⟨t.place[i],yh (by omega),?_⟩⟩
 ·refine(IT hr _).uniq ⟨by omega,λk hk=>?_,λk a b=>?_⟩
  ·rw[if_neg (by omega)];by_cases z:k=i-1
   ·rw[z];omega
   ·have:=hr.lt (show k<i-1 by omega) (by omega);omega
  ·by_cases z:i=0
   ·rw[if_pos z];omega
   ·rw[if_neg z];have:=hr.lt (show i-1<k by omega) b;omega
 ·rw[if_neg (by omega),Nat.add_sub_cancel,pc (by omega)]
def lH(m:Nat)(p:IW):IW:=
 if p.more > 0 then {p with more:=p.more-1,j:=p.j+1} else
 {p with j:=(Fg m p.i p.perturb).1,more:=vo m (Fg m p.i p.perturb).1-(Fg m p.i p.perturb).1,i:=(Fg m p.i p.perturb).1,perturb:=(Fg m p.i p.perturb).2}
def MW(m:Nat)(h:Int):IW:={j:=ud h%(m+1),more:=vo m (ud h%(m+1))-ud h%(m+1),i:=ud h%(m+1),perturb:=ud h,dummy:=none}
def aB(m:Nat)(h:Int):Nat->IW
 |0=>MW m h
 |n+1=>lH m (aB m h n)
theorem UT(m:Nat)(h:Int):∀n,(aB m h n).dummy=none
 |0=>rfl
 |n+1=>by
  show(lH m (aB m h n)).dummy=none;unfold lH;split<;>exact UT m h n
theorem IY{m:Nat}{h:Int}{n:Nat}{p:IW}(e:aB m h n=p):∀c,c<=p.more->aB m h (n+c)={p with j:=p.j+c,more:=p.more-c}
 |0,_=>e
 |c+1,hc=>by
  show lH m (aB m h (n+c))=_;rw[IY e c (by omega)];unfold lH;rw[if_pos (show p.more-c > 0 by omega)];congr 1<;>omega
def lp(m:Nat)(h:Int):Nat->Nat×Nat
 |0=>(ud h%(m+1),ud h)
 |L+1=>Fg m (lp m h L).1 (lp m h L).2
theorem zj(m i:Nat):vo m i-i<=9:=by unfold vo;split<;>omega
theorem UU(m:Nat)(h:Int):∀L,∃n,n<=10*L/\aB m h n={j:=(lp m h L).1,more:=vo m (lp m h L).1-(lp m h L).1,i:=(lp m h L).1,perturb:=(lp m h L).2,dummy:=none}
 |0=>⟨0,yg _,rfl⟩
 |L+1=>by
  obtain⟨n,hn,e⟩:=UU m h L;have r:=zj m (lp m h L).1;refine⟨n+(vo m (lp m h L).1-(lp m h L).1)+1,by omega,?_⟩;show lH m (aB m h (n+_))=_;rw[IY e _ (yg _)];unfold lH;rw[if_neg (by simp)];rfl
theorem UV(m:Nat)(h:Int):∀L,(lp m h L).2=ud h/32 ^ L
 |0=>by show ud h=_;simp
 |L+1=>by
  show(lp m h L).2/32=_;rw[UV m h L,Nat.div_div_eq_div_mul,ye8]
theorem jni(h:Int):ud h<2 ^ 64:=by unfold ud;omega
theorem jnj(m:Nat)(h:Int)(L:Nat)(hL:13<=L):(lp m h L).2=0:=by
 rw[UV];refine Nat.div_eq_of_lt (xz (jni h) ?_);exact v9 (by decide) (Nat.pow_le_pow_right (by decide) hL)
def lJ(m:Nat):Nat->Nat->Nat
 |0,x=>x
 |d+1,x=>(lJ m d x*5+1)%(m+1)
theorem MX(m:Nat)(h:Int):∀d,(lp m h (13+d)).1=lJ m d (lp m h 13).1
 |0=>rfl
 |d+1=>by
  show((lp m h (13+d)).1*5+1+(lp m h (13+d)).2/32)%(m+1)=_;rw[jnj m h _ (by omega),MX m h d];rfl
theorem MY:∀x,x<8->∀e,e<8->∃d,d<8/\lJ 7 d x=e:=by decide +kernel
theorem Fh:∀x,x<32->∀e,e<32->∃d,d<32/\lJ 31 d x=e:=by decide +kernel
theorem IZ(m:Nat):∀(a b x:Nat),lJ m (a+b) x=lJ m a (lJ m b x)
 |0,b,x=>by rw[Nat.zero_add];rfl
 |a+1,b,x=>by
  rw[show a+1+b=(a+b)+1 by omega];show(lJ m (a+b) x*5+1)%(m+1)=_;rw[IZ m a b x];rfl
theorem tJ:∀e,e<128->∃d,d<128/\lJ 127 d 0=e:=by decide +kernel
theorem zk:∀x,x<128->∀e,e<128->∃d,d<128/\lJ 127 d x=e:=λx hx e he=>by
 obtain⟨p,hp,rfl⟩:=tJ x hx;obtain⟨q,hq,rfl⟩:=tJ e he;by_cases h:p<=q
 ·exact⟨q-p,by omega,by rw[<- IZ,Nat.sub_add_cancel h]⟩
 ·refine⟨q+128-p,by omega,?_⟩;rw[<- IZ,show q+128-p+p=q+128 by omega,IZ,show lJ 127 128 0=0 by decide +kernel]
def tK(m:Nat):Prop:=m=7\/m=31\/m=127
variable{m:Nat}
theorem UW(hm:tK m){x e:Nat}(hx:x<m+1)(he:e<=m):∃d,d<m+1/\lJ m d x=e:=by
 rcases hm with rfl|rfl|rfl
 ·exact MY _ hx _ (by omega)
 ·exact Fh _ hx _ (by omega)
 ·exact zk _ hx _ (by omega)
theorem tL(m:Nat)(h:Int):∀L,(lp m h L).1<m+1
 |0=>BS _ (I0 _)
 |L+1=>BS _ (I0 _)
theorem tM(hm:tK m)(h:Int){e:Nat}(he:e<=m):∃n,n<10*(m+14)/\(aB m h n).j=e:=by
 have l:=tL m h 13;obtain⟨d,hd,hc⟩:=UW hm l he;obtain⟨n,hn,q⟩:=UU m h (13+d);exact⟨n,by omega,by rw[q];show(lp m h (13+d)).1=e;rw[MX,hc]⟩
structure Tab(t:u6)(es:Array (Int×Value)):Prop where
 mask:tK t.mask
 dum:t.dummies=#[]
 ris:kA t.place
 size:t.place.size=es.size
 room:es.size*5<t.mask*3
 top:∀j∈t.place.toList,j<=t.mask
 way:∀(i:Nat) (hi:i<es.size),∃N,(aB t.mask es[i].1 N).j=t.place.getD i 0/\∀m,m<N->(aB t.mask es[i].1 m).j∈t.place.toList
theorem Tab.fits{t:u6}{es:Array (Int×Value)}(T:Tab t es):t.fits es.size=true:=by
 unfold UX Ja;rw[T.dum,T.size];have:=T.room;simp;omega
variable{es:Array (Int×Value)}
theorem Tab.gave(T:Tab t es):t.gaveWay=false:=by
 unfold SetTable.gaveWay;rcases T.mask with h|h|h<;>rw[h]<;>rfl
theorem UY:∀(n:Nat) (l:List Nat),(∀e,e<n->e∈l)->n<=l.length
 |0,l,_=>gn _
 |n+1,l,h=>by
  have hn:=h n (Bh _);have:=UY n (l.erase n) λe he=>(MZ (by omega)).mpr (h e (by omega));rw[Fi hn]at this;have:=Jb hn;omega
theorem Tab.free(T:Tab t es):∃e,e<=t.mask/\e∉t.place.toList:=by
 refine Jc λh=>?_;have all:∀e,e<=t.mask->e∈t.place.toList:=λe he=>Jc λq=>h ⟨e,he,q⟩;have:=UY (t.mask+1) t.place.toList λe he=>all e (by omega);rw[yj,T.size]at this;have:=T.room;omega
theorem UZ(h:i<=m):i+(vo m i-i)<=m:=by unfold vo;split<;>omega
theorem Fj(m:Nat)(h:Int):∀n,(aB m h n).j+(aB m h n).more<=m
 |0=>UZ (yb3 (BS _ (I0 _)))
 |n+1=>by
  have ih:=Fj m h n;show(lH m (aB m h n)).j+(lH m (aB m h n)).more<=m;unfold lH;split
  ·dsimp only;omega
  ·exact UZ (yb3 (BS _ (I0 _)))
theorem M0{t:u6}(hd:t.dummies=#[])(hr:kA t.place)(f:Nat->Int)(h:Int):∀(fuel m:Nat),(∃N,m<=N/\N<m+fuel/\(aB t.mask h N).j∉t.place.toList)->
  ∃r,m<=r/\(∀q,m<=q->q<r->(aB t.mask h q).j∈t.place.toList/\f (xg t.place (aB t.mask h q).j)≠h)/\
   (((aB t.mask h r).j∉t.place.toList/\U0 t f h fuel (aB t.mask h m)=some (.empty (aB t.mask h r).j none))\/
     ((aB t.mask h r).j∈t.place.toList/\f (xg t.place (aB t.mask h r).j)=h/\U0 t f h fuel (aB t.mask h m)=some (.candidate (aB t.mask h r).j (xg t.place (aB t.mask h r).j) (aB t.mask h (r+1)))))
 |0,m,⟨N,a,b,_⟩=>by omega
 |fuel+1,m,⟨N,a,b,c⟩=>by
  unfold U0;rw[MV hd hr];by_cases hm:(aB t.mask h m).j∈t.place.toList
  ·rw[if_pos hm];dsimp only;by_cases hf:f (xg t.place (aB t.mask h m).j)=h
   ·refine⟨m,yg _,λq x y=>by omega,.inr ⟨hm,hf,?_⟩⟩;rw[if_pos (by rw[hf];simp)];rfl
   ·rw[if_neg (by simpa using hf)];have bO:m≠N:=λz=>c (by rw[<- z];exact hm);obtain⟨r,r1,r2,r3⟩:=M0 hd hr f h fuel (m+1) ⟨N,by omega,by omega,c⟩;refine⟨r,by omega,λq x y=>?_,r3⟩;by_cases z:q=m
    ·rw[z];exact⟨hm,hf⟩
    ·exact r2 q (by omega) y
  ·rw[if_neg hm];refine⟨m,yg _,λq x y=>by omega,.inl ⟨hm,?_⟩⟩;dsimp only;rw[UT]
section
variable{prog:xf}{w:World}{A:v7}{E:Value->ye->Prop}{s:ye}
structure zm(prog:xf)(w:World)(A:v7)(E:Value->ye->Prop)(s:ye)(es:Array (Int×Value))(x:Value)(hash:Int){K:Type}[DecidableEq K](key:Nat->K)(k:K):Prop where
 hsh:∀(i:Nat) (hi:i<es.size),key i=k->es[i].1=hash
 eq:∀(i:Nat) (hi:i<es.size) (Q:Bool->ye->Prop),Q (decide (key i=k)) s->wpAny (model prog w) A (eqBool es[i].2 x) Q E s
 ref:∀(i:Nat) (hi:i<es.size),∃a,es[i].2=.ref a
 seen:∀(l:List Value),(∀y∈l,∃(i:Nat) (hi:i<es.size),y=es[i].2)->∀Q:Bool->ye->Prop,Q false s->wpAny (model prog w) A (searchCouldBeSeen x l) Q E s
theorem M3{S:Addr}{es:Array (Int×Value)}{ep:Nat}{t:u6}{x:Value}{hash:Int}{K:Type}[DecidableEq K]{key:Nat->K}{k:K}{Q:SetFound->ye->Prop}(hS:s.heap.get? S=some (aW es ep t))(T:Tab t es)(H:zm prog w A E s es x hash key k)
  (h1:(∃i,i<es.size/\key i=k)->Q (.there none) s)
  (h2:(∀i,i<es.size->key i≠k)->∀r,(aB t.mask hash r).j∉t.place.toList->(aB t.mask hash r).j<=t.mask->(∀q,q<r->(aB t.mask hash q).j∈t.place.toList)->Q (.free (aB t.mask hash r).j false) s):
  ∀(fuel m:Nat),(∃N,m<=N/\N<10*(t.mask+14)/\N<m+fuel/\(aB t.mask hash N).j∉t.place.toList)->
   (∀q,q<m->(aB t.mask hash q).j∈t.place.toList/\key (xg t.place (aB t.mask hash q).j)≠k)->
   ∀iA,(iA=some (aB t.mask hash m)\/(m=0/\iA=none))->wpAny (model prog w) A (setSearchFrom S x hash true fuel iA) Q E s
 |0,m,⟨N,a,b,c,d⟩,_,_,_=>by omega
 |fuel+1,m,⟨N,a,b,c,d⟩,hb,iA,eP=>by
  have bL:=λj=>MU T.ris j;unfold setSearchFrom;refine y0 (uv hS rfl T.fits ?_);dsimp only;rw[T.gave,if_neg (by decide)];have est:iA.getD (t.probeStart hash)=aB t.mask hash m:=by
   rcases eP with e|⟨rfl,e⟩<;>rw[e]<;>rfl
  rw[est];have M4:10*qM t.mask=10*(t.mask+15):=rfl;obtain⟨r,r1,r2,r3⟩:=M0 T.dum T.ris (λi=>(es[i]?.map (·.1)).getD 0) hash (10*qM t.mask) m ⟨N,a,by rw[M4];omega,d⟩;have at_:∀j,j∈t.place.toList->∃hi:xg t.place j<es.size,t.place.getD (xg t.place j) 0=j:=λj hj=>by
   have e:=(bL j).mpr hj;obtain⟨hi,e'⟩:=M5.mp e;exact⟨by rw[<- T.size];exact hi,by rw[pc hi];exact e'⟩
  have all:∀q,q<r->(aB t.mask hash q).j∈t.place.toList/\key (xg t.place (aB t.mask hash q).j)≠k:=λq hq=>by
   by_cases z:q<m
   ·exact hb q z
   ·obtain⟨x1,x2⟩:=r2 q (by omega) hq;obtain⟨hi,_⟩:=at_ _ x1;refine⟨x1,λz=>x2 ?_⟩;show(es[xg t.place (aB t.mask hash q).j]?.map (·.1)).getD 0=hash;rw[yh hi];exact H.hsh _ hi z
  rcases r3 with⟨n1,n2⟩|⟨n1,n2,n3⟩
  ·have pe:∀g:Nat->Int,(∀i,g i=(es[i]?.map (·.1)).getD 0)->t.probe g hash (aB t.mask hash m)=some (.empty (aB t.mask hash r).j none):=λg hg=>by rw[show g=_ from funext hg];exact n2
   rw[pe]
   rotate_left
   ·exact λ_=>rfl
   dsimp only;refine yc (h2 (λi hi e=>?_) r n1 ?_ λq hq=>(all q hq).1)
   ·obtain⟨N',w1,w2⟩:=T.way i hi;rw[H.hsh i hi e]at w1 w2;have lK:t.place.getD i 0∈t.place.toList:=by
     rw[pc (by rw[T.size];exact hi)];simp
    have:N'<r:=by
     rcases US N' r with z|z|z
     ·exact z
     ·exact absurd (by rw[<- z,w1];exact lK) n1
     ·exact absurd (w2 r z) n1
    obtain⟨y1,y2⟩:=all N' this;rw[w1]at y1 y2;refine y2 ?_;have:xg t.place (t.place.getD i 0)=i:=by
     refine(IT T.ris _).uniq ⟨by rw[T.size];omega,λk hk=>T.ris.lt hk (by rw[T.size];exact hi),λk a b=>?_⟩;by_cases z:k=i
     ·rw[z];exact yg _
     ·exact lV (T.ris.lt (by omega) b)
    rw[this];exact e
   ·have:=Fj t.mask hash r;omega
  ·have pe:∀g:Nat->Int,(∀i,g i=(es[i]?.map (·.1)).getD 0)->t.probe g hash (aB t.mask hash m)=some (.candidate (aB t.mask hash r).j (xg t.place (aB t.mask hash r).j) (aB t.mask hash (r+1))):=λg hg=>by rw[show g=_ from funext hg];exact n3
   rw[pe]
   rotate_left
   ·exact λ_=>rfl
   dsimp only;obtain⟨hi,ei⟩:=at_ _ n1;obtain⟨ya,U1⟩:=H.ref _ hi;have sm:t.sameMemory t.moves t.mask=some true:=by unfold SetTable.sameMemory;rw[if_pos (by simp)]
   have Qa7:r<N:=by
    rcases US r N with z|z|z
    ·exact z
    ·exact absurd (by rw[<- z];exact n1) d
    ·exact absurd (all N z).1 d
   by_cases hl:t.led=true
   ·rw[hl,if_neg (by decide)];rw[yh hi];dsimp only;refine y0 (gu (H.eq _ hi _ ?_));refine y0 (uv hS rfl T.fits ?_);by_cases e:key (xg t.place (aB t.mask hash r).j)=k
    ·rw[decide_eq_true e];exact yc (h1 ⟨_,hi,e⟩)
    ·rw[decide_eq_false e];dsimp only;rw[if_neg (by decide),sm];dsimp only;rw[if_pos rfl,MV T.dum T.ris,if_pos n1];dsimp only;rw[yh hi];dsimp only;rw[U1];refine y0 (y9b (y0 (yc ?_)));rw[if_pos rfl];dsimp only;rw[if_neg (by decide)];refine M3 hS T H h1 h2 fuel (r+1) ⟨N,by omega,b,by omega,d⟩ (λq hq=>?_) _ (.inl rfl);by_cases z:q=r
     ·rw[z];exact⟨n1,e⟩
     ·exact all q (by omega)
   ·rw[U2]at hl;rw[hl,if_pos (by decide)];refine y0 (H.seen _ (λy hy=>?_) _ ?_)
    ·obtain⟨p,hp,rfl⟩:=yk.mp hy;rw[Array.toList_filter]at hp;obtain⟨i,hi,e⟩:=vd (kT.mp hp).1;rw[yj]at hi;exact⟨i,hi,by rw[<- e];simp⟩
    rw[if_neg (by decide)];rw[yh hi];dsimp only;refine y0 (gu (H.eq _ hi _ ?_));refine y0 (uv hS rfl T.fits ?_);by_cases e:key (xg t.place (aB t.mask hash r).j)=k
    ·rw[decide_eq_true e];exact yc (h1 ⟨_,hi,e⟩)
    ·rw[decide_eq_false e];dsimp only;rw[if_neg (by decide),sm];dsimp only;rw[if_pos rfl,MV T.dum T.ris,if_pos n1];dsimp only;rw[yh hi];dsimp only;rw[U1];refine y0 (y9b (y0 (yc ?_)));rw[if_pos rfl];dsimp only;rw[if_neg (by decide)];refine M3 hS T H h1 h2 fuel (r+1) ⟨N,by omega,b,by omega,d⟩ (λq hq=>?_) _ (.inl rfl);by_cases z:q=r
     ·rw[z];exact⟨n1,e⟩
     ·exact all q (by omega)
end
abbrev iB:=Array (Option Nat)
theorem U3{m:Nat}{h:Int}{ow:iB}:∀(fuel L n:Nat),aB m h n={j:=(lp m h L).1,more:=vo m (lp m h L).1-(lp m h L).1,i:=(lp m h L).1,perturb:=(lp m h L).2,dummy:=none}->
  (∃L',L<=L'/\L'<L+fuel/\(ow.getD (lp m h L').1 (some 0)).isNone=true)->(∀q,q<n->(ow.getD (aB m h q).j (some 0)).isNone=false)->
  ∃N,Fk m ow fuel (lp m h L).1 (lp m h L).2=some (aB m h N).j/\(ow.getD (aB m h N).j (some 0)).isNone=true/\∀q,q<N->(ow.getD (aB m h q).j (some 0)).isNone=false
 |0,L,n,_,⟨L',a,b,_⟩,_=>by omega
 |fuel+1,L,n,hn,⟨L',a,b,c⟩,hq=>by
  unfold Fk;have Qa8:vo m (lp m h L).1+1-(lp m h L).1=(vo m (lp m h L).1-(lp m h L).1)+1:=by
   have:(lp m h L).1<=vo m (lp m h L).1:=by unfold vo;split<;>omega
   omega
  have pj:∀k,k<=vo m (lp m h L).1-(lp m h L).1->(aB m h (n+k)).j=(lp m h L).1+k:=λk hk=>by rw[IY hn k hk]
  cases hf:(vi (vo m (lp m h L).1+1-(lp m h L).1)).find? λk=>(ow.getD ((lp m h L).1+k) (some 0)).isNone with
  |some k=>
   obtain⟨f1,as,bs,f2,f3⟩:=List.find?_eq_some_iff_append.mp hf;have hk:k<vo m (lp m h L).1+1-(lp m h L).1:=u9.mp (by rw[f2];simp);refine⟨n+k,by rw[pj k (by omega)],by rw[pj k (by omega)];exact f1,λq bS=>?_⟩;by_cases z:q<n
   ·exact hq q z
   ·obtain⟨c',rfl⟩:∃c',q=n+c':=⟨q-n,by omega⟩
    rw[pj c' (by omega)];have pK:c'∈as:=by
     have aL:as.length=k:=by
      have e:=congrArg (λl=>l[as.length]?) f2;simp at e;have:=(Fl (n:=vo m (lp m h L).1+1-(lp m h L).1) (i:=as.length))
      by_cases w:as.length<vo m (lp m h L).1+1-(lp m h L).1
      ·rw[Fl w]at e;simpa using e
      ·rw[yW (by simpa using w)]at e;simp at e
     have e:=congrArg (λl=>l[c']?) f2;rw[Fl (by omega),gz (by omega)]at e;exact vg e.symm
    simpa using f3 c' pK
  |none=>
   have no:=List.find?_eq_none.mp hf;have run:∀k,k<=vo m (lp m h L).1-(lp m h L).1->(ow.getD ((lp m h L).1+k) (some 0)).isNone=false:=λk hk=>by
    have:=no k (u9.mpr (by omega));cases q:(ow.getD ((lp m h L).1+k) (some 0)).isNone with
    |false=>rfl
    |true=>exact absurd q this
   have hL:L≠L':=λz=>by
    have:=run 0 (gn _);rw[ye5,z,c]at this;cases this
   refine U3 fuel (L+1) (n+(vo m (lp m h L).1-(lp m h L).1)+1) ?_ ⟨L',by omega,by omega,c⟩ λq bS=>?_
   ·show lH m (aB m h (n+_))=_;rw[IY hn _ (yg _)];unfold lH;rw[if_neg (by simp)];rfl
   ·by_cases z:q<n
    ·exact hq q z
    ·obtain⟨c',rfl⟩:∃c',q=n+c':=⟨q-n,by omega⟩
     rw[pj c' (by omega)];exact run c' (by omega)
theorem bC:∀(l:List (Option Nat)) (j k:Nat),l[j]?=some none->((l.set j (some k)).filterMap id).Perm (k::l.filterMap id)
 |[],j,k,h=>by simp at h
 |a::l,0,k,h=>by
  simp at h;subst h;exact kz _
 |a::l,j+1,k,h=>by
  have ih:=bC l j k (by simpa using h);cases a with
  |none=>exact ih
  |some x=>exact(ih.cons x).trans (Fa _ _ _)
structure fA(m:Nat)(hs:List Int)(ow:iB):Prop where
 size:ow.size=m+1
 perm:(ow.toList.filterMap id).Perm (vi hs.length)
 way:∀j i,ow[j]?=some (some i)->∃h,hs[i]?=some h/\∃N,(aB m h N).j=j/\∀q,q<N->(ow.getD (aB m h q).j (some 0)).isNone=false
theorem jjy(m:Nat):fA m [] (yc8 (m+1) none):=by
 refine⟨by simp,?_,λj i h=>?_⟩
 ·have:((yc8 (m+1) (none:Option Nat)).toList.filterMap id)=[]:=by
   rw[List.filterMap_eq_nil_iff];intro x hx;simp at hx;exact hx
  rw[this];exact kz _
 ·rw[Array.getElem?_replicate]at h;split at h<;>cases h
theorem jjz{m:Nat}{hs:List Int}{ow:iB}(H:fA m hs ow)(hl:hs.length<=m):∃e,e<=m/\ow[e]?=some none:=by
 refine Jc λh=>?_;have hz:=H.size;have all:∀e,e<=m->∃i,ow[e]?=some (some i):=λe he=>by
  rw[yh (by omega)];cases q:ow[e]'(by omega)with
  |none=>exact absurd ⟨e,he,by rw[yh (by omega),q]⟩ h
  |some i=>exact⟨i,rfl⟩
 have:(ow.toList.filterMap id).length=ow.toList.length:=by
  rw[List.length_filterMap_eq_countP,List.countP_eq_length];intro x hx;obtain⟨e,he,q⟩:=vd hx;rw[yj]at he;obtain⟨i,hi⟩:=all e (by omega);rw[yh he]at hi;have:x=some i:=by rw[<- q];simpa using hi
  rw[this];rfl
 rw[H.perm.length_eq,tG,show ow.toList.length=m+1 from by rw[yj];exact hz]at this;omega
variable{ow:iB}
theorem jg6(hm:tK m){hs:List Int}(H:fA m hs ow)(hl:hs.length<=m)(h:Int):∃j,Fk m ow (qM m) (ud h%(m+1)) (ud h)=some j/\fA m (hs++[h]) (ow.setIfInBounds j (some hs.length)):=by
 have hz:=H.size;obtain⟨e,he,ee⟩:=jjz H hl;obtain⟨d,hd,hc⟩:=UW hm (tL m h 13) he;obtain⟨N,f1,f2,f3⟩:=U3 (m:=m) (h:=h) (ow:=ow) (qM m) 0 0 rfl ⟨13+d,by omega,by unfold qM;omega,by rw[MX,hc,xy,ee];rfl⟩ λq hq=>by omega
 have top:=Fj m h N;have hj:(aB m h N).j<ow.size:=by omega
 have ej:ow[(aB m h N).j]?=some none:=by
  rw[xy,yh hj]at f2;rw[yh hj];simpa using f2
 have Fm:∀x:Nat,(ow.getD x (some 0)).isNone=false->((ow.setIfInBounds (aB m h N).j (some hs.length)).getD x (some 0)).isNone=false:=λx hx=>by
  rw[xy]at hx ⊢;skip;rw[y6a];split<;>first|rfl|exact hx|(split<;>rfl)
 refine⟨_,f1,by simp[hz],?_,λx i q=>?_⟩
 ·rw[Array.toList_setIfInBounds,xi,uj,sY];exact(bC _ _ _ (by rw[xr];exact ej)).trans ((H.perm.cons _).trans (Jd (l₁:=[hs.length])))
 ·rw[y6a]at q;by_cases z:(aB m h N).j=x
  ·rw[if_pos z,if_pos (by omega)]at q;cases q;exact⟨h,by simp,N,z,λr hr=>Fm _ (f3 r hr)⟩
  ·rw[if_neg z]at q;obtain⟨h',e1,N',e2,e3⟩:=H.way x i q;refine⟨h',?_,N',e2,λr hr=>Fm _ (e3 r hr)⟩;rw[gz]
   ·exact e1
   ·obtain⟨w,_⟩:=xl.mp e1;exact w
theorem jk0{m:Nat}(hm:tK m)(hs:List Int)(hl:hs.length<=m):∃ow,U4 m hs.toArray=some ow/\fA m hs ow:=by
 have go:∀(l done:List Int) (ow:iB),(done++l).length<=m+0->fA m done ow->∃Je,(l.foldl (λ(acc:Option (iB×Nat)) h=>do
   let (owner,k) <- acc
   let j <- Fk m owner (qM m) (ud h%(m+1)) (ud h)
   pure (owner.setIfInBounds j (some k),k+1)) (some (ow,done.length)))=some (Je,(done++l).length)/\fA m (done++l) Je:=by
  intro l
  induction l with
  |nil=>intro done ow _ H;exact⟨ow,by simp,by simpa using H⟩
  |cons h l ih=>
   intro done ow aL H;obtain⟨j,f1,H1⟩:=jg6 hm H (by simp at aL;omega) h;obtain⟨Je,e1,e2⟩:=ih (done++[h]) _ (by simpa using aL) H1;refine⟨Je,?_,by simpa using e2⟩;rw[HY];have:(do
     let (owner,k) <- some (ow,done.length)
     let j <- Fk m owner (qM m) (ud h%(m+1)) (ud h)
     pure (owner.setIfInBounds j (some k),k+1))=some (ow.setIfInBounds j (some done.length),(done++[h]).length):=by
    show(Fk m ow (qM m) (ud h%(m+1)) (ud h)).bind _=_;rw[f1];simp
   rw[this,e1];simp
 obtain⟨ow,e,H⟩:=go hs [] _ (by simpa using hl) (jjy m);refine⟨ow,?_,by simpa using H⟩;unfold U4;rw[List.foldl_toArray];simp only[ub]at e;rw[e];rfl
def fB(ow:iB)(m:Nat):List (Nat×Nat):=(vi (m+1)).filterMap λj=>(ow.getD j none).map (j,·)
theorem jk1(hz:ow.size=m+1):(fB ow m).map (·.2)=ow.toList.filterMap id:=by
 have e:ow.toList=(vi (m+1)).map λj=>ow.getD j none:=by
  refine ER λi=>?_;rw[xh];by_cases hi:i<m+1
  ·rw[Fl hi,xr,yh (by omega)];simp[yf8,hz,hi]
  ·rw[yW (by rw[yj];omega),yW (by simpa using hi)];rfl
 rw[e,yai];unfold fB;rw[List.map_filterMap];congr 1
 funext j
 show yfc (·.2) ((ow.getD j none).map (j,·))=ow.getD j none;cases ow.getD j none<;>rfl
theorem M6(hz:ow.size=m+1):(j,i)∈fB ow m↔ow[j]?=some (some i):=by
 unfold fB;rw[KL];constructor
 ·rintro⟨x,hx,e⟩;obtain⟨y,e1,e2⟩:=Ib.mp e;cases e2;rw[u9]at hx;rw[xy,yh (by omega)]at e1;rw[yh (by omega)];exact congrArg some e1
 ·intro h;obtain⟨hj,_⟩:=M5.mp h;refine⟨j,u9.mpr (by omega),?_⟩;rw[xy,h];rfl
theorem jk2(ow:iB)(m:Nat):((fB ow m).map (·.1)).Pairwise (· < ·):=by
 unfold fB;rw[vh,List.pairwise_filterMap];refine(y8i (n:=m+1)).imp λ{a b} Jf x hx y hy=>?_;obtain⟨_,_,rfl⟩:=Ib.mp hx;obtain⟨_,_,rfl⟩:=Ib.mp hy;exact Jf
theorem tN{α β:Type}(f:α->Option β):∀(l:List α),(∀a∈l,(f a).isSome=true)->∀r:Nat,(l.filterMap f)[r]?=l[r]?.bind f
 |[],_,r=>by simp
 |a::l,h,r=>by
  obtain⟨b,hb⟩:=Sj.mp (h a yu);rw[List.filterMap_cons_some hb];cases r with
  |zero=>simp[hb]
  |succ r=>simpa using tN f l (λx hx=>h x (yr _ hx)) r
theorem U5{t:u6}{es:Array (Int×Value)}{mS m:Nat}(U6:tK m)(hw:U7 mS=m+1)(hn:es.size*5<m*3):
  ∃t' order,t.relaid (es.map (·.1)) mS=some (t',order)/\(order.filterMap (es[·]?)).size=es.size/\(order.filterMap (es[·]?)).toList.Perm es.toList/\Tab t' (order.filterMap (es[·]?))/\t'.led=t.led/\t'.plain=t.plain/\order.toList.Perm (vi es.size):=by
 obtain⟨ow,e,H⟩:=jk0 U6 (es.toList.map (·.1)) (by simp;omega);have hz:=H.size;have ha:(es.toList.map (·.1)).toArray=es.map (·.1):=by apply yf7;simp
 rw[ha]at e;have p1:=jk1 (m:=m) hz;have p2:((fB ow m).map (·.2)).Perm (vi es.size):=by
  rw[p1];have:=H.perm;simpa using this
 have len:(fB ow m).length=es.size:=by have:=p2.length_eq;simpa using this
 have lt:∀i∈(fB ow m).map (·.2),i<es.size:=λi hi=>u9.mp (p2.mem_iff.mp hi);have Fn:∀i∈(fB ow m).map (·.2),(es[i]?).isSome=true:=λi hi=>by rw[yh (lt i hi)];rfl
 have el:(((fB ow m).map (·.2)).toArray.filterMap (es[·]?)).toList=((fB ow m).map (·.2)).filterMap (es[·]?):=by rw[Array.toList_filterMap]
 have perm:(((fB ow m).map (·.2)).filterMap (es[·]?)).Perm es.toList:=by
  refine(p2.filterMap _).trans ?_;have:=UJ es.toList es.size (by simp);rw[xq (by simp)]at this;have e2:(λi:Nat=>es[i]?)=λi:Nat=>es.toList[i]?:=by funext i;rw[xr]
  rw[e2,this]
 have sz:(((fB ow m).map (·.2)).toArray.filterMap (es[·]?)).size=es.size:=by rw[<- yj,el,perm.length_eq,yj]
 refine⟨{mask:=m,place:=((fB ow m).map (·.1)).toArray,dummies:=#[],finger:=t.finger,led:=t.led,moves:=t.movedTo m,plain:=t.plain},((fB ow m).map (·.2)).toArray,?_,sz,by rw[el];exact perm,⟨U6,rfl,jk2 ow m,by rw[sz];simp[len],by rw[sz];exact hn,λj hj=>?_,λi hi=>?_⟩,rfl,rfl,p2⟩
 ·unfold SetTable.relaid SetTable.laid;rw[hw];show(U4 m (es.map (·.1))).bind _=_;rw[e];rfl
 ·obtain⟨⟨x,y⟩,hp,rfl⟩:=yk.mp (show j∈(fB ow m).map (·.1)from hj);obtain⟨hx,_⟩:=M5.mp ((M6 hz).mp hp);show x<=m;omega
 ·rw[sz]at hi;have BW:i<(fB ow m).length:=by omega
  have hm:(fB ow m)[i]∈fB ow m:=ua BW;cases hq:(fB ow m)[i] with
  |mk j o=>
   rw[hq]at hm;obtain⟨h,h1,N,h2,h3⟩:=H.way j o ((M6 hz).mp hm);have ho:o<es.size:=lt o (yk.mpr ⟨_,hm,rfl⟩);have ee:(((fB ow m).map (·.2)).toArray.filterMap (es[·]?))[i]?=some es[o]:=by
    rw[<- xr,el,tN _ _ Fn,xh,y4 BW,hq];show es[o]?=_;exact yh ho
   obtain⟨hb,eq⟩:=M5.mp ee;have hh:h=es[o].1:=by
    rw[xh,xr,yh ho]at h1;exact(vm h1).symm
   rw[eq,<- hh];refine⟨N,?_,λq bS=>?_⟩
   ·rw[h2];show j=(((fB ow m).map (·.1)).toArray).getD i 0;rw[xy,U8,xh,y4 BW,hq];rfl
   ·have:=h3 q bS;have tp:=Fj m h q;rw[xy,yh (by omega)]at this;cases w:ow[(aB m h q).j]'(by omega)with
    |none=>rw[w]at this;cases this
    |some i'=>exact yk.mpr ⟨((aB m h q).j,i'),(M6 hz).mpr (by rw[yh (by omega),w]),rfl⟩
theorem U9{hash:Int}{x:Value}{r:Nat}(T:Tab t es)(n1:(aB t.mask hash r).j∉t.place.toList)(n2:(aB t.mask hash r).j<=t.mask)(n3:∀q,q<r->(aB t.mask hash q).j∈t.place.toList)(hr:(es.size+1)*5<t.mask*3):
  Tab {t with place:=xa t.place (xg t.place (aB t.mask hash r).j) (aB t.mask hash r).j} (xa es (xg t.place (aB t.mask hash r).j) (hash,x)):=by
 have L:=IT T.ris (aB t.mask hash r).j;generalize xg t.place (aB t.mask hash r).j=p at L;have lp':=L.le;have hsz:=T.size;have pl:=IU t.place p (aB t.mask hash r).j;have el:=IU es p (hash,x);have gA:(xa es p (hash,x)).size=es.size+1:=by
  rw[<- yj,el,xi,yp,yn,ve,yj];omega
 have ps1:(xa t.place p (aB t.mask hash r).j).size=t.place.size+1:=by
  rw[<- yj,pl,xi,yp,yn,ve,yj];omega
 have up:∀y,y∈t.place.toList->y∈(xa t.place p (aB t.mask hash r).j).toList:=λy hy=>by
  rw[pl];rw[<- vz p t.place.toList]at hy;rcases yw.mp hy with h|h
  ·exact yy _ h
  ·exact yf _ (yr _ h)
 refine⟨T.mask,T.dum,jde T.ris L n1,by rw[gA];show(xa t.place p (aB t.mask hash r).j).size=_;rw[ps1,hsz],by rw[gA];exact hr,λj hj=>?_,λi hi=>?_⟩
 ·rw[pl]at hj;rcases yw.mp hj with h|h
  ·exact T.top j (gm h)
  ·skip;rcases xc.mp h with rfl|h
   ·exact n2
   ·exact T.top j (BU h)
 ·have at1:∀(i:Nat),(xa es p (hash,x))[i]?=if i<p then es[i]? else if i=p then some (hash,x)else es[i-1]?:=λi=>by
   rw[<- xr,el];by_cases a:i<p
   ·rw[if_pos a,gz (by simp;omega),Sl a,xr]
   ·rw[if_neg a,va (by simp;omega),yp,yj,show min p es.size=p by omega];by_cases b:i=p
    ·rw[if_pos b,b,zn];rfl
    ·rw[if_neg b];obtain⟨c,rfl⟩:∃c,i=p+1+c:=⟨i-p-1,by omega⟩
     rw[show p+1+c-p=c+1 by omega,Va,M7,xr,show p+1+c-1=p+c by omega]
  have at2:∀(i:Nat),(xa t.place p (aB t.mask hash r).j).getD i 0=if i<p then t.place.getD i 0 else if i=p then(aB t.mask hash r).j else t.place.getD (i-1) 0:=λi=>by
   rw[xy,<- xr,pl];by_cases a:i<p
   ·rw[if_pos a,gz (by simp;omega),Sl a,xr,xy]
   ·rw[if_neg a,va (by simp;omega),yp,yj,show min p t.place.size=p by omega];by_cases b:i=p
    ·rw[if_pos b,b,zn];rfl
    ·rw[if_neg b];obtain⟨c,rfl⟩:∃c,i=p+1+c:=⟨i-p-1,by omega⟩
     rw[show p+1+c-p=c+1 by omega,Va,M7,xr,show p+1+c-1=p+c by omega,xy]
  have e:=at1 i;rw[yh hi]at e;have e2:=at2 i;show ∃N,(aB t.mask (xa es p (hash,x))[i].1 N).j=(xa t.place p (aB t.mask hash r).j).getD i 0/\_;by_cases a:i<p
  ·rw[if_pos a,yh (by omega)]at e;rw[if_pos a]at e2;rw[vm e,e2];obtain⟨N,w1,w2⟩:=T.way i (by omega);exact⟨N,w1,λq hq=>up _ (w2 q hq)⟩
  ·rw[if_neg a]at e e2;by_cases b:i=p
   ·rw[if_pos b]at e e2;rw[vm e,e2];exact⟨r,rfl,λq hq=>up _ (n3 q hq)⟩
   ·rw[if_neg b,yh (by omega)]at e;rw[if_neg b]at e2;rw[vm e,e2];obtain⟨N,w1,w2⟩:=T.way (i-1) (by omega);exact⟨N,w1,λq hq=>up _ (w2 q hq)⟩
theorem Jg{α:Type}(xs:Array α)(p:Nat)(x:α):(xa xs p x).toList.Perm (x::xs.toList):=by
 rw[IU];refine Jh.trans ?_;rw[vz]
section
variable{prog:xf}{w:World}{A:v7}{E:Value->ye->Prop}{s:ye}
def M8(prog:xf)(w:World)(Z:Addr->List Int->Prop)(h:Heap)(e:Int×Value)(L:List Int):Prop:=∃a,e.2=.ref a/\jO (intKind prog w) h L a/\e.1=tupleKeyHash (intKind prog w) L/\Z a L
inductive mT(prog:xf)(w:World)(Z:Addr->List Int->Prop)(h:Heap):List (Int×Value)->List (List Int)->Prop
 |nil:mT prog w Z h [] []
 |cons {e:Int×Value}{L:List Int}{es:List (Int×Value)}{Ls:List (List Int)}:M8 prog w Z h e L->mT prog w Z h es Ls->mT prog w Z h (e::es) (L::Ls)
end
section
variable{w:World}{prog:xf}{A:v7}
variable{R:rY->ye->Prop}{I:Addr}{fp wr:List Addr}{G:Array vM->Array vM->Prop}{n:Nat}{P:Nat->Value->Prop}{St:Nat->ye->Prop}
theorem M9{Ms:List (List Int)}{L:List Int}:(∃i,i<Ms.length/\Ms.getD i []=L)↔L∈Ms:=by
 constructor
 ·rintro⟨i,hi,e⟩;rw[y8,y4 hi]at e;rw[<- e];exact ua hi
 ·intro h;obtain⟨i,hi,e⟩:=vd h;exact⟨i,hi,by rw[y8,y4 hi];exact e⟩
end
end L2
set_option Elab.async false
set_option linter.all false
set_option maxRecDepth 100000
set_option maxHeartbeats 4000000
namespace L2
open PySem PySem.Spec PyProof.Rows PySem.W
inductive mU(prog:xf)(w:World)(Z:Addr->List Int->Prop)(h:Heap):List Value->List (List Int)->Prop
 |nil:mU prog w Z h [] []
 |cons {a:Addr}{L:List Int}{vs:List Value}{Ls:List (List Int)}:jO (intKind prog w) h L a->Z a L->mU prog w Z h vs Ls->mU prog w Z h (.ref a::vs) (L::Ls)
inductive bc(H:Hp):List V->List (List Int)->Prop
 |nil:bc H [] []
 |cons {a:Addr}{L:List Int}{vs:List V}{Ls:List (List Int)}:H a=some (.tup (L.map V.int))->bc H vs Ls->bc H (.ref a::vs) (L::Ls)
theorem bc.length{H:Hp}{vs:List V}{Ls:List (List Int)}(r:bc H vs Ls):vs.length=Ls.length:=by
 induction r with
 |nil=>rfl
 |cons _ _ ih=>simp[ih]
theorem bc.mono{H H':Hp}(e:al H H'){vs:List V}{Ls:List (List Int)}(r:bc H vs Ls):bc H' vs Ls:=by
 induction r with
 |nil=>exact .nil
 |cons x _ ih=>exact .cons (e _ _ x) ih
theorem Vb:∀{xs:List V}{us:List Value},am xs us->∀(i:Nat) (u:Value),us[i]?=some u->∃x,xs[i]?=some x/\am [x] [u]
 |_,_,.nil,i,u,h=>by simp at h
 |_,_,.cons r1 r2,i,u,h=>by
  cases i with
  |zero=>simp at h;subst h;exact⟨_,rfl,.cons r1 .nil⟩
  |succ i=>
   obtain⟨x,e,r⟩:=Vb r2 i u (by simpa using h);exact⟨x,by simpa using e,r⟩
end L2
set_option Elab.async false
set_option linter.all false
set_option maxRecDepth 100000
set_option maxHeartbeats 4000000
namespace L2
open PySem PySem.Spec PyProof.Rows PySem.W
def Vc(p q:List Int×Int):Prop:=p.1<q.1\/(p.1=q.1/\p.2<q.2)
instance (p q:List Int×Int):Decidable (Vc p q):=by unfold Vc;infer_instance
theorem jnl(a b:List Int):a<b\/a=b\/b<a:=by
 by_cases h:a<b
 ·exact .inl h
 ·by_cases h2:b<a
  ·exact .inr (.inr h2)
  ·exact .inr (.inl (Ji (jP.mp h2) (jP.mp h)))
inductive gP(prog:xf)(w:World)(h:Heap):List Value->List (List Int×Int)->Prop
 |nil:gP prog w h [] []
 |cons {c a:Addr}{L:List Int}{x:Int}{t:Tok}{vs:List Value}{Ks:List (List Int×Int)}:IsTup h c #[.ref a,.int x t]->jO (intKind prog w) h L a->gP prog w h vs Ks->gP prog w h (.ref c::vs) ((L,x)::Ks)
end L2
set_option Elab.async false
set_option linter.all false
set_option maxRecDepth 100000
set_option maxHeartbeats 4000000
namespace L2
open PySem PySem.Spec PyProof.Rows PySem.W
inductive jq(H:Hp):List V->List (List Int×Int)->Prop
 |nil:jq H [] []
 |cons {c a:Addr}{L:List Int}{x:Int}{vs:List V}{Ks:List (List Int×Int)}:H c=some (.tup [.ref a,.int x])->H a=some (.tup (L.map V.int))->jq H vs Ks->jq H (.ref c::vs) ((L,x)::Ks)
section
variable{X:Cx}
open Classical in
end
def mV:HO->Bool
 | .tbl _=>false
 |_=>true
def be(H H':Hp):Prop:=∀b o,H b=some o->mV o=true->H' b=some o
variable{H:Hp}
theorem be.tr{H1 H2:Hp}(a:be H H1)(b:be H1 H2):be H H2:=λx o h n=>b x o (a x o h n) n
variable{H':Hp}
theorem al.toT(e:al H H'):be H H':=λb o h _=>e b o h
def dA(H:Hp)(c:Addr)(qual:Str):Prop:=∃(oc:Obj) (vs:Array Value) (t:Tok),H c=some (.frz oc (.own c))/\oc.data=.fields vs/\vs[1]?=some (.str qual t)
variable{c:Addr}{qual:Str}
theorem dA.mono(e:be H H')(h:dA H c qual):dA H' c qual:=by
 obtain⟨oc,vs,t,h1,h2⟩:=h;exact⟨oc,vs,t,e _ _ h1 rfl,h2⟩
variable{w:World}
theorem dA.record{P:xf}{h:Heap}(ok:cK P w H h)(k:dA H c qual):h.CodeRec (.ref c) qual:=by
 obtain⟨oc,vs,t,h1,h2,h3⟩:=k;obtain⟨e,_⟩:=(show ObjOk P w H h c (.frz oc (.own c))from ok c _ h1)
 exact⟨c,oc,vs,t,rfl,e,h2,h3⟩
def bJ(H:Hp)(P:Addr)(pos:Pos)(qual:Str):Prop:=H P=some (.tbl #[])\/∃c,H P=some (.tbl #[rawInt pos.line,rawInt pos.col,.ref c])/\dA H c qual
theorem bJ.ext{P:Addr}{pos:Pos}(e:al H H')(h:bJ H P pos qual):bJ H' P pos qual:=by
 rcases h with h|⟨c,h,k⟩
 ·exact .inl (e _ _ h)
 ·exact .inr ⟨c,e _ _ h,k.mono (al.toT e)⟩
variable{h':Heap}
section
variable{X:Cx}{ac:List (Addr×Obj)}{σ:St}{H:Hp}{s:ye}
theorem jg7{P c':Addr}{ps more:Array Value}{oc:Obj}{t':Nat}(I:Inv X ac σ H s)(hP:H P=some (.tbl ps))(hx:Io P s.heap h')(oZ:s.heap.objs.size<=c')(vO:h'.get? c'=some oc)
  (Jj:h'.get? P=some {cls:=.none,data:=.fields (ps++more)}):
  Inv X ac σ (aH (aH H P (.tbl (ps++more))) c' (.frz oc (.own c'))) {s with heap:=h',toks:=t'}:=by
 have nc:H c'=none:=I.hok.fresh oZ;have ncP:P≠c':=cD hP nc;have keep:∀b o,H b=some o->mV o=true->aH (aH H P (.tbl (ps++more))) c' (.frz oc (.own c')) b=some o:=λb o e n=>by
  rw[bf (cD e nc),bf (λz=>by rw[z,hP]at e;cases e;cases n)];exact e
 refine I.un (h':=h') (t':=t') ⟨λb o e n _ _=>hx b o (λz=>by rw[z,hP]at n;cases n) e,λb o e n _ _=>⟨o.slots,hx b o (λz=>by rw[z,hP]at n;cases n) e⟩,λb o e n _=>?_,λb o e _=>?_,
  λb xs e=>keep b _ e rfl,λb ob u e=>keep b _ e rfl,λb qs e=>?_⟩ λb u e=>?_
 ·rw[bf (xn (xz (yt e) oZ)),bf (λz=>by rw[z,hP]at n;cases n)];exact n
 ·by_cases hb:b=P
  ·exact⟨_,by rw[hb];exact Jj⟩
  ·exact⟨o,hx b o hb e⟩
 ·by_cases hb:b=P
  ·subst hb;rw[hP]at e;cases e;exact⟨more,by rw[bf ncP,bi]⟩
  ·exact⟨#[],by rw[bf (cD e nc),bf hb,e];simp⟩
 ·by_cases hc:b=c'
  ·subst hc;rw[bi]at e;cases e;exact⟨vO,oc,vO⟩
  ·rw[bf hc]at e;by_cases hb:b=P
   ·subst hb;rw[bi]at e;cases e;exact Jj
   ·rw[bf hb]at e;refine(I.hok b u e).stay (λd v hd q=>hx d v ?_ q) (λd q=>keep d _ q rfl) λd xs q=>keep d _ q rfl;rcases hd with z|z
    ·rw[z];exact hb
    ·intro y;rw[y,hP]at z;cases z
end
def Jk(X:Cx)(ac:List (Addr×Obj))(N:List Str)(qual:Str)(scope:Scope)(cl:List (Str×Addr))(f c:Addr)(A:v7)(s:ye)(H:Hp):Cx where
 prog:=X.prog
 w:=X.w
 K:=X.K
 mg:=X.mg
 base:=X.base
 A:=A.deeper (Na qual scope s.heap.objs.size f (.ref c) cl)
 N:=N
 s₀:=s
 H₀:=H
 env:=Na qual scope s.heap.objs.size f (.ref c) cl
 outer:=X.stack
 stack:=Na qual scope s.heap.objs.size f (.ref c) cl::X.stack
 ex:=[]
 fn:=λ_=>false
 calm:=true
 pn:=X.pn++ac
 xe:=mJ
def zo(v:V)(js:List Nat)(σ:St):St:=some v::js.map (BC σ)
structure mW(X:Cx)(scope:Scope)(cl:List (Str×Addr))(x:Str)(fr:List Str)(js:List Nat):Prop where
 kind:scope.kind=.function
 co:scope.isCoroutine=false
 gen:scope.isGenerator=false
 nc:∀y∈scope.names,y.2≠.cell
 par:scope.names.lookup x=some .local
 clos:li X.env.cells scope.names []=some cl
 frees:cZ X scope fr js
section
variable{X:Cx}{ac:List (Addr×Obj)}{σ:St}{H:Hp}{s:ye}
set_option tactic.hygienic true in
theorem jg8{A:v7}{x qual:Str}{fr:List Str}{js:List Nat}{scope:Scope}{cl:List (Str×Addr)}{f c:Addr}{h':Heap}{tk:Nat}{v:V}{u:Value}(I:Inv X ac σ H s)(O:mW X scope cl x fr js)(hA:A.frames=some X.stack)(hh:A.handled=none)(r:RelV v u)
  (hn:h'.Ns s.heap.objs.size (λy=>[(x,u)].reverse.lookup y)) (hk:∀b o,s.heap.get? b=some o->h'.get? b=some o):
  Inv (Jk X ac (x::fr) qual scope cl f c A s H) [] (zo v js σ) H {s with heap:=h',toks:=tk}:=by
 have sub:=Er _ _ _ O.clos (λ_ _ q=>by simp at q);have j7:∀b:Addr,b∉(Jk X ac (x::fr) qual scope cl f c A s H).ex:=λb z=>absurd (show b∈([]:List Addr)from z) (by simp);refine⟨⟨I.ok.mod,O.kind,rfl,rfl,yg _,λy z d e1 e2=>I.ok.inj y z d (sub _ _ e1) (sub _ _ e2),λy hy=>?_,(λy d q=>L3 (show false=true from q)),λ_=>hh,y9i hA,.inr ⟨rfl,rfl⟩,λb z=>absurd z (j7 b),
  I.bs,v9 I.ok.bsz I.sz,λb _ _=>j7 b,λb z=>absurd z (j7 b),I.stack,I.stkFree⟩,rfl,I.bare,Un.kept hk,⟨_,hn,λi y w e1 e2 e3=>?_⟩,λy d e=>?_,I.hok.fresh (yg _),λy d e=>I.freeC y d (sub y d e),λp hp=>?_,I.hok.kept hk,?_⟩
 ·have hy':scope.names.lookup y=some .cell\/scope.names.lookup y=some .free:=hy;rcases hy' with hy'|hy'
  ·exact absurd rfl (O.nc _ (uz hy'))
  ·exact BB _ _ _ O.clos y (.inr (uz hy'))
 ·cases i with
  |zero=>
   have Es:x=y:=by
    have z:(x::fr)[0]?=some y:=e1;simpa using z
   have mL:v=w:=by simpa[zo] using e2
   subst Es mL;exact⟨u,r,.inl ⟨O.par,by simp⟩⟩
  |succ i=>
   have Es:fr[i]?=some y:=by
    have z:(x::fr)[i+1]?=some y:=e1;simpa using z
   obtain⟨j,hj,nj,kj,lj⟩:=O.frees.get Es;have mL:BC σ j=some w:=by
    unfold zo at e2;rw[Va,xh,hj]at e2;exact vm e2
   have e4:σ[j]?=some (some w):=by
    unfold BC at mL;split at mL
    ·rename_i o q;rw[q,mL]
    ·cases mL
   obtain⟨m,hm,hl⟩:=I.loc;obtain⟨u',ru,lk⟩:=hl j y w nj e4 (kj.elim (λq=>.inr (.inl q)) λq=>.inr (.inr q));refine⟨u',ru,.inr ⟨lj,?_⟩⟩;rcases lk with⟨q,_⟩|⟨_,d,ed,id⟩
   ·rcases kj with k|k<;>(rw[q]at k;cases k)
   ·have lj':scope.names.lookup y=some .free:=by
     rcases lj with z|z
     ·exact absurd rfl (O.nc _ (uz z))
     ·exact z
    obtain⟨d',Vd⟩:=BB _ _ _ O.clos y (.inr (uz lj'));have:=sub _ _ Vd;rw[ed]at this;cases this;exact⟨d,Vd,id.keeps hk⟩
 ·obtain⟨w,q⟩:=I.cell y d (sub y d e);exact⟨w,q.keeps hk⟩
 ·have BD:p∈X.pn++ac:=by
   rcases yw.mp hp with q|q
   ·exact q
   ·simp at q
  obtain⟨q1,q2,q3,q4,q5⟩:=I.pin p BD;refine⟨hk _ _ q1,q2,xn (yt q1),λz=>?_,q5⟩;rcases xc.mp (I.stkSub _ z)with y|y
  ·exact q3 y
  ·exact q4 y
 ·show(zo v js σ).length=(x::fr).length;unfold zo;rw[yn,yn,y3,O.frees.len]
theorem jk3{A:v7}{E:Value->ye->Prop}{k:Nat}{name x qual:Str}{fr:List Str}{js:List Nat}{params:HQ}{body:Expr}{scope:Scope}{cl:List (Str×Addr)}{f c:Addr}{pm qN:Value}{t:TE}{v:V}{u:Value}{Q:VK}(I:Inv X ac σ H s)(O:mW X scope cl x fr js)
  (hA:A.frames=some X.stack) (hr:aI (k+1) A) (hf:(f,ycf name qual params body scope cl pm c qN)∈ac) (hc:dA H c qual) (r:RelV v u)
  (fq:bindArgs (yd2 name qual params body scope cl pm (.ref c) qN) ⟨[u],[]⟩=pure [(x,u)])
  (hb:PE (Jk X ac (x::fr) qual scope cl f c A s H) body t) (hq:t (zo v js σ) H Q):wpAny (model X.prog X.w) A (call (.ref f) [u]) (EP X ac σ Q) E s:=by
 obtain⟨ho,_⟩:=I.pin _ (yf _ hf);refine K4 (PySem.W.kla_callFunE hr.depth ho rfl O.co O.gen rfl (hc.record I.hok) ?_);rw[fq];refine yc (y9s O.nc (λy hy=>by rw[y9.mp hy];exact O.par) (λh₁ k7 BE=>⟨I.nolimit.fresh _ BE,?_⟩) O.kind);skip;have Fo:∀b o,s.heap.get? b=some o->h₁.get? b=some o:=λb o e=>BE.extBut b o (xn (yt e)) (yb _ e);have J:=jg8 (A:=A) (qual:=qual) (f:=f) (c:=c) (tk:=s.toks+[(x,u)].length) I O hA hr.hd r k7 Fo;show codeAny _ _ (.expr body (Na qual scope s.heap.objs.size f (.ref c) cl)) _ _;refine PySem.W.kla_codeExpr (iP (hb [] _ _ H Q J hq) (λu' s' ⟨v',H',J',r',q'⟩=>?_) λ_ _ z=>iQ z);have I':Inv X ac σ H' s':=I.call' (ch:=[]) J'.os J'.base J'.hok J'.bare λb z=>absurd z (by simp);exact⟨v',H',I',r',q'⟩
end
def gQ(lt:Nat->Nat->Bool):Nat->Nat
 |0=>0
 |j+1=>if lt (j+1) (gQ lt j)=true then j+1 else gQ lt j
variable{l:Addr}{k:Nat}
section
variable{prog:xf}{w:World}{A:v7}{E:Value->ye->Prop}{s:ye}
theorem Ve{b:Bool}{it:Addr}{xs:Array Value}{x:Value}{Q:Option Value->ye->Prop}(i0:dH b s.heap it l k)(l0:fg b s.heap l xs)(hx:xs[k]?=some x)
  (q:∀h',dH b h' it l (k+1)->i3 it s.heap h'->Q (some x) {s with heap:=h'}):wpAny (model prog w) A (pyNext (.ref it)) Q E s:=by
 cases b
 ·exact Z0 i0 l0 hx q
 ·exact Z3 i0 l0 hx q
theorem jbj{b:Bool}{it:Addr}{xs:Array Value}{Q:Option Value->ye->Prop}(hh:A.handled=none)(i0:dH b s.heap it l k)(l0:fg b s.heap l xs)(hx:xs[k]?=none)
  (q:∀h',Io it s.heap h'->Q none {s with heap:=h'}):wpAny (model prog w) A (pyNext (.ref it)) Q E s:=by
 cases b
 ·exact Z1 hh i0 l0 hx q
 ·exact Z4 hh i0 l0 hx q
end
variable{a:Addr}{o:Obj}
section
variable{X:Cx}{ac:List (Addr×Obj)}{σ:St}{H:Hp}{s:ye}
theorem Inv.drop1{eJ:List (Addr×Obj)}{t':Nat}(I:Inv X ac σ H s)(ha:(a,o)∈ac)(hs:X.s₀.heap.objs.size<=a)(hk:∀b u,b≠a->s.heap.get? b=some u->h'.get? b=some u)(hX:∀p∈X.pn,p.1≠a)
  (hp:∀p∈eJ,p∈ac/\p.1≠a):Inv X eJ σ H {s with heap:=h',toks:=t'}:=by
 obtain⟨a1,a2,a3,a4,a5⟩:=I.pin _ (yf _ ha);have J0:Inv X [] σ H s:=I.pins_of λp z=>by cases z
 have cl:∀x c,X.env.cells.lookup x=some c->c≠a:=λx c e z=>by
  obtain⟨v,ob,h1,h2⟩:=I.cell x c e;rw[z]at h1;have h3:s.heap.get? a=some o:=a1;rw[h3]at h1;cases h1;exact a5 v h2
 have J1:Inv X [] σ H {s with heap:=h',toks:=t'}:=J0.turned hk a2 a3 (.inr hs) cl λp z=>by
  rcases yw.mp z with z|z
  ·exact hX p z
  ·cases z
 refine J1.pins_of λp z=>?_;obtain⟨z1,z2⟩:=hp p z;obtain⟨p1,p2,p3,p4,p5⟩:=I.pin p (yf _ z1);exact⟨hk _ _ z2 p1,p2,p3,p4,p5⟩
theorem Inv.repin{eJ:List (Addr×Obj)}{o':Obj}{t':Nat}(I:Inv X ac σ H s)(ha:(a,o)∈ac)(hs:X.s₀.heap.objs.size<=a)(hk:∀b u,b≠a->s.heap.get? b=some u->h'.get? b=some u)(hn:h'.get? a=some o')(hd:∀v,o'.data≠.cell v)(hX:∀p∈X.pn,p.1≠a)
  (hp:∀p∈eJ,(p∈ac/\p.1≠a)\/p=(a,o')):Inv X eJ σ H {s with heap:=h',toks:=t'}:=by
 obtain⟨a1,a2,a3,a4,a5⟩:=I.pin _ (yf _ ha);have J1:Inv X [] σ H {s with heap:=h',toks:=t'}:=I.drop1 ha hs hk hX λp z=>by cases z
 refine J1.pins_of λp z=>?_;rcases hp p z with⟨z1,z2⟩|rfl
 ·obtain⟨p1,p2,p3,p4,p5⟩:=I.pin p (yf _ z1);exact⟨hk _ _ z2 p1,p2,p3,p4,p5⟩
 ·exact⟨hn,a2,a3,a4,hd⟩
theorem Inv.pin2{t':Nat}{b:Addr}{p:Obj}(I:Inv X ac σ H s)(hk:∀d u,s.heap.get? d=some u->h'.get? d=some u)(ha:h'.get? a=some o)(hb:h'.get? b=some p)(la:s.heap.objs.size<=a)(lb:s.heap.objs.size<=b)(da:∀v,o.data≠.cell v)(db:∀v,p.data≠.cell v):
  Inv X (ac++[(a,o),(b,p)]) σ H {s with heap:=h',toks:=t'}:=by
 have J:Inv X ac σ H {s with heap:=h',toks:=t'}:=I.kept hk;refine J.pins_of λq hq=>?_;rcases yw.mp hq with z|z
 ·exact J.pin q (yf _ z)
 ·rcases xc.mp z with rfl|z
  ·exact⟨ha,I.hok.fresh la,jZ (xz I.lt la),I.nofs la,da⟩
  ·rw[y9.mp z];exact⟨hb,I.hok.fresh lb,jZ (xz I.lt lb),I.nofs lb,db⟩
structure Keyed(X:Cx)(A:v7)(σ:St)(KR:Hp->V->Nat->Prop)(lt:Nat->Nat->Bool):Prop where
 ext:∀{H H':Hp}{v:V}{i:Nat},al H H'->KR H v i->KR H' v i
 cmp:∀{ac:List (Addr×Obj)}{H:Hp}{s:ye}{v1 v2:V}{u1 u2:Value}{i j:Nat}{Q:Value->ye->Prop}{E:Value->ye->Prop},Inv X ac σ H s->KR H v1 i->RelV v1 u1->KR H v2 j->RelV v2 u2->Q (.bool (lt i j)) s->
  wpAny (model X.prog X.w) A (richCompare .Lt u1 u2) Q E s
structure tO(X:Cx)(A:v7)(ac:List (Addr×Obj))(σ:St)(KR:Hp->V->Nat->Prop)(G:Hp->Prop)(q l:Addr)(xs:List V)(tp:Bool):Prop where
 ext:∀{H H':Hp},al H H'->G H->G H'
 src:∀{H:Hp},G H->fh X.K H l xs tp
 turn:∀{ps:List (Addr×Obj)}{H:Hp}{s:ye}{i:Nat}{x:V}{u:Value}{E:Value->ye->Prop},(∀p∈ac,p∈ps)->Inv X ps σ H s->G H->xs[i]?=some x->RelV x u->
  wpAny (model X.prog X.w) A (call (.ref q) [u]) (EP X ps σ λkv H'=>KR H' kv i/\al H H') E s
variable{A:v7}{KR:Hp->V->Nat->Prop}{lt:Nat->Nat->Bool}{G:Hp->Prop}{l q It S:Addr}{xs:List V}{tp:Bool}{R:rY->ye->Prop}
theorem jnm(hh:A.handled=none)(KY:Keyed X A.in1 σ KR lt)(T:tO X A.in1 ac σ KR G q l xs tp)(sI:X.s₀.heap.objs.size<=It)(sS:X.s₀.heap.objs.size<=S)(ph:S≠It)(pI:∀p∈X.pn++ac,p.1≠It)(pS:∀p∈X.pn++ac,p.1≠S)
  (hR:∀{H:Hp}{s:ye}{x:V}{u:Value},xs[gQ lt (xs.length-1)]?=some x->RelV x u->Inv X ac σ H s->G H->R (.ok (.ret u)) s):
  ∀(r j:Nat) {s:ye}{H:Hp}{oI:Obj}{c:Nat}{vb kb:Value}{xb kv:V},xs.length-(j+1)=r->j+1<=xs.length->Inv X (ac++[(It,oI),(S,seqObj "list" #[vb,kb] c)]) σ H s->dH tp s.heap It l (j+1)->xs[gQ lt j]?=some xb->RelV xb vb->RelV kv kb->KR H kv (gQ lt j)->G H->
   codeAny (model X.prog X.w) A (.builtin "min.loop" ⟨[.ref It,.ref q,.ref S],[]⟩) R s:=by
 skip;have iC:(toString "min"++toString ".loop":String)="min.loop":=by decide
 intro r
 induction r with
 |zero=>
  intro j s H oI c vb kb xb kv hr hj I eB Nb Nc Nd Nf hG;have mI:(It,oI)∈ac++[(It,oI),(S,seqObj "list" #[vb,kb] c)]:=yf _ (.head _);have gS:=(I.pin (S,seqObj "list" #[vb,kb] c) (yf _ (yf _ (.tail _ (.head _))))).1;obtain⟨ai,rv,sq,_⟩:=I.sqe (T.src hG);have hl:=rv.length;skip;refine lA Vf ?_;skip;rw[uq BX _];skip;show wpAny _ A.in1 (seqItems? (.ref S) >>= _) _ _ _;skip;refine y0 (um gS rfl ?_);skip;show wpAny _ A.in1 (tryCatch (pyNext (.ref It)) _ >>= _) _ _ _;refine y0 (Fp (jbj hh eB sq (ES (by rw[ym];omega)) λh' hx=>?_));have I1:Inv X (ac++[(S,seqObj "list" #[vb,kb] c)]) σ H {s with heap:=h'}:=I.drop1 mI sI (λb u n e=>hx b u n e) (λp hp=>pI p (yy _ hp)) λp hp=>by
   skip;rcases yw.mp hp with z|z
   ·exact⟨yy _ z,pI p (yf _ z)⟩
   ·rw[y9.mp z];exact⟨yf _ (.tail _ (.head _)),ph⟩
  have gS1:h'.get? S=some (seqObj "list" #[vb,kb] c):=hx S _ ph gS;skip;have s1:=ul h' S (gf λ_=>(#[]:Array Value));skip;show wpAny _ A.in1 (updateSeq S (λ_=>#[]) >>= _) _ _ _;skip;refine y0 ?_;refine zp gS1 rfl (y0 (sT (yc ?_)));refine hR (x:=xb) (H:=H) (by rw[show xs.length-1=j by omega];exact Nb) Nc (I1.drop1 (yf _ (.head _)) sS (λb u n e=>(s1.2 b n).trans e) (λp hp=>pS p (yy _ hp)) λp hp=>⟨yy _ hp,pS p (yf _ hp)⟩) hG
 |succ r ih=>
  intro j s H oI c vb kb xb kv hr hj I eB Nb Nc Nd Nf hG;have mI:(It,oI)∈ac++[(It,oI),(S,seqObj "list" #[vb,kb] c)]:=yf _ (.head _);have gS:=(I.pin (S,seqObj "list" #[vb,kb] c) (yf _ (yf _ (.tail _ (.head _))))).1;obtain⟨ai,rv,sq,_⟩:=I.sqe (T.src hG);have hl:=rv.length;have hx:xs[j+1]?=some (xs[j+1]'(by omega)):=y4 _;obtain⟨u,eu,ru⟩:=rv.get hx;skip;refine lA Vf ?_;skip;rw[uq BX _];skip;show wpAny _ A.in1 (seqItems? (.ref S) >>= _) _ _ _;skip;refine y0 (um gS rfl ?_);skip;show wpAny _ A.in1 (tryCatch (pyNext (.ref It)) _ >>= _) _ _ _;refine y0 (Fp (Ve eB sq (by simpa using eu) λh' eU sb=>?_));obtain⟨zq,mX,Ng⟩:=eU.ex;have I1:Inv X (ac++[(It,zq),(S,seqObj "list" #[vb,kb] c)]) σ H {s with heap:=h'}:=I.repin mI sI (λb u n e=>(sb.2 b n).trans e) mX Ng (λp hp=>pI p (yy _ hp)) λp hp=>by
   skip;rcases yw.mp hp with z|z
   ·exact .inl ⟨yy _ z,pI p (yf _ z)⟩
   ·rcases xc.mp z with rfl|z
    ·exact .inr rfl
    ·rw[y9.mp z];exact .inl ⟨yf _ (.tail _ (.head _)),ph⟩
  show wpAny _ A.in1 (tryCatch (holding [u] (call (.ref q) [u])) _ >>= _) _ _ _;refine y0 (Fp (gu (iP (T.turn (λp hp=>yy _ hp) I1 hG hx ru) (λku s2 ⟨kv2,H2,I2,Jl,tP,e2⟩=>?_) λ_ _ hF=>hF)));have Nh:=(I2.pin (It,zq) (yf _ (yf _ (.head _)))).1;have Fq:=(I2.pin (S,seqObj "list" #[vb,kb] c) (yf _ (yf _ (.tail _ (.head _))))).1;have qO:dH tp s2.heap It l (j+1+1):=eU.at λo e=>by rw[mX]at e;cases e;exact Nh
  show wpAny _ A.in1 (tryCatch (holding [u,ku] (richCompare .Lt ku kb >>= _)) _ >>= _) _ _ _;refine y0 (Fp (gu (y0 (KY.cmp I2 tP Jl (KY.ext e2 Nf) Nd ?_))));skip;refine y0 (gu (Hy ?_));skip;refine y0 (sT (yc ?_));by_cases km:lt (j+1) (gQ lt j)=true
  ·have eb:gQ lt (j+1)=j+1:=by unfold gQ;rw[if_pos km]
   have s1:=ul s2.heap S (gf λ_=>#[u,ku]);obtain⟨c2,jG⟩:∃c2,(s2.heap.update S (gf λ_=>#[u,ku])).get? S=some (seqObj "list" #[u,ku] c2):=⟨_,Mo Fq λ_=>#[u,ku]⟩
   simp only[km,if_true];skip;refine y0 ?_;refine zp Fq rfl (y0 (sT ?_));rw[iC];have I3:Inv X (ac++[(It,zq),(S,seqObj "list" #[u,ku] c2)]) σ H2 {s2 with heap:=s2.heap.update S (gf λ_=>#[u,ku])}:=I2.repin (yf _ (.tail _ (.head _))) sS (λb u n e=>(s1.2 b n).trans e) jG (λv z=>by cases z) (λp hp=>pS p (yy _ hp)) λp hp=>by
    skip;rcases yw.mp hp with z|z
    ·exact .inl ⟨yy _ z,pS p (yf _ z)⟩
    ·rcases xc.mp z with rfl|z
     ·exact .inl ⟨yf _ (.head _),ph.symm⟩
     ·exact .inr (y9.mp z)
   refine yc ⟨mR BX _,ih (j+1) (by omega) (by omega) I3 (qO.at λo e=>(s1.2 It ph.symm).trans e) (by rw[eb];exact hx) ru Jl (by rw[eb];exact tP) (T.ext e2 hG)⟩
  ·have eb:gQ lt (j+1)=gQ lt j:=by show(if _ then _ else _)=_;rw[if_neg km]
   have dU:lt (j+1) (gQ lt j)=false:=by simpa using km
   simp only[dU,vt,if_false];skip;refine y0 (sT ?_);rw[iC];refine yc ⟨mR BX _,ih (j+1) (by omega) (by omega) I2 qO (by rw[eb];exact Nb) Nc Nd (by rw[eb];exact KY.ext e2 Nf) (T.ext e2 hG)⟩
theorem zr{E:Value->ye->Prop}{Q:Value->ye->Prop}(hh:A.handled=none)(I:Inv X ac σ H s)(hG:G H)(KY:Keyed X A.in1 σ KR lt)(T:tO X A.in1 ac σ KR G q l xs tp)(bO:0<xs.length)
  (hQ:∀{H:Hp}{s:ye}{x:V}{u:Value},xs[gQ lt (xs.length-1)]?=some x->RelV x u->Inv X ac σ H s->G H->Q u s):
  wpAny (model X.prog X.w) A (call (.builtin "min") [.ref l] [(u5 "key",.ref q)]) Q E s:=by
 skip;have iC:(toString "min"++toString ".loop":String)="min.loop":=by decide
 obtain⟨ai,rv,sq,_⟩:=I.sqe (T.src hG);have hl:=rv.length;skip;refine kmk_tree PySem.F.kind_min PySem.F.plain_min PySem.F.entry_min (kmk_min_key _ _) ?_;skip;show wpAny _ A.in1 (y6j "min" ["key","default"] 0 ⟨[],[(u5 "key",.ref q)]⟩ >>= _) _ _ s;skip;refine y0 (ji (show y6j "min" ["key","default"] 0 ⟨[],[(u5 "key",.ref q)]⟩=pure [some (.ref q),none] from rfl) ?_);refine y0 (yc ?_);refine y0 (Mj sq ?_);skip;refine y0 (qI ?_ (gn _));rw[iC];have hS:(s.heap.push (fQ tp l)).objs.size=s.heap.objs.size+1:=Mp ..;have gI:((s.heap.push (fQ tp l)).push (seqObj "list" #[] 0)).get? s.heap.objs.size=some (fQ tp l):=yb _ (yi _ rfl);have gS:((s.heap.push (fQ tp l)).push (seqObj "list" #[] 0)).get? (s.heap.push (fQ tp l)).objs.size=some (seqObj "list" #[] 0):=yi _ rfl;have I1:Inv X (ac++[(s.heap.objs.size,fQ tp l),((s.heap.push (fQ tp l)).objs.size,seqObj "list" #[] 0)]) σ H {s with heap:=(s.heap.push (fQ tp l)).push (seqObj "list" #[] 0)}:=
  I.pin2 (λd u e=>yb _ (yb _ e)) gI gS (yg _) (by rw[hS];omega) (λv z=>by cases z) λv z=>by cases z
 have Ni:dH tp ((s.heap.push (fQ tp l)).push (seqObj "list" #[] 0)) s.heap.objs.size l 0:=Ml gI;have ph:(s.heap.push (fQ tp l)).objs.size≠s.heap.objs.size:=by rw[hS];omega
 have sI:X.s₀.heap.objs.size<=s.heap.objs.size:=I.sz;have sS:X.s₀.heap.objs.size<=(s.heap.push (fQ tp l)).objs.size:=by rw[hS];omega
 have pI:∀p∈X.pn++ac,p.1≠s.heap.objs.size:=λp hp=>xn (yt (I.pin p hp).1);have pS:∀p∈X.pn++ac,p.1≠(s.heap.push (fQ tp l)).objs.size:=λp hp=>by rw[hS];exact xn (ui (yt (I.pin p hp).1))
 skip;refine yc ⟨mR BX _,?_⟩;generalize s.heap.objs.size=It at *;generalize (s.heap.push (fQ tp l)).objs.size=S at *;generalize (s.heap.push (fQ tp l)).push (seqObj "list" #[] 0)=h2 at *;have hx:xs[0]?=some (xs[0]'bO):=y4 _;obtain⟨iw,rv2,sq2,_⟩:=I1.sqe (T.src hG);obtain⟨u,eu,ru⟩:=rv2.get hx;skip;refine lA Vf ?_;skip;rw[uq BX _];skip;show wpAny _ A.in1 (seqItems? (.ref _) >>= _) _ _ _;skip;refine y0 (um gS rfl ?_);skip;show wpAny _ A.in1 (tryCatch (pyNext (.ref It)) _ >>= _) _ _ _;refine y0 (Fp (Ve Ni sq2 (by simpa using eu) λh' eU sb=>?_));obtain⟨zq,mX,Ng⟩:=eU.ex;have I2:Inv X (ac++[(It,zq),(S,seqObj "list" #[] 0)]) σ H {s with heap:=h'}:=I1.repin (yf _ (.head _)) sI (λb u n e=>(sb.2 b n).trans e) mX Ng (λp hp=>pI p (yy _ hp)) λp hp=>by
  skip;rcases yw.mp hp with z|z
  ·exact .inl ⟨yy _ z,pI p (yf _ z)⟩
  ·rcases xc.mp z with rfl|z
   ·exact .inr rfl
   ·rw[y9.mp z];exact .inl ⟨yf _ (.tail _ (.head _)),ph⟩
 show wpAny _ A.in1 (tryCatch (holding [u] (call (.ref q) [u])) _ >>= _) _ _ _;refine y0 (Fp (gu (iP (T.turn (λp hp=>yy _ hp) I2 hG hx ru) (λku s2 ⟨kv2,H2,I3,Jl,tP,e2⟩=>?_) λ_ _ hF=>hF)));have Nh:=(I3.pin (It,zq) (yf _ (yf _ (.head _)))).1;have Fq:=(I3.pin (S,seqObj "list" #[] 0) (yf _ (yf _ (.tail _ (.head _))))).1;have qO:dH tp s2.heap It l 1:=eU.at λo e=>by rw[mX]at e;cases e;exact Nh
 have s1:=ul s2.heap S (gf λ_=>#[u,ku]);obtain⟨c2,jG⟩:∃c2,(s2.heap.update S (gf λ_=>#[u,ku])).get? S=some (seqObj "list" #[u,ku] c2):=⟨_,Mo Fq λ_=>#[u,ku]⟩
 show wpAny _ A.in1 (updateSeq S (λ_=>#[u,ku]) >>= _) _ _ _;skip;refine y0 ?_;refine zp Fq rfl ?_;rw[iC];have I4:Inv X (ac++[(It,zq),(S,seqObj "list" #[u,ku] c2)]) σ H2 {s2 with heap:=s2.heap.update S (gf λ_=>#[u,ku])}:=I3.repin (yf _ (.tail _ (.head _))) sS (λb u n e=>(s1.2 b n).trans e) jG (λv z=>by cases z) (λp hp=>pS p (yy _ hp)) λp hp=>by
  skip;rcases yw.mp hp with z|z
  ·exact .inl ⟨yy _ z,pS p (yf _ z)⟩
  ·rcases xc.mp z with rfl|z
   ·exact .inl ⟨yf _ (.head _),ph.symm⟩
   ·exact .inr (y9.mp z)
 refine yc ⟨mR BX _,jnm hh KY T sI sS ph pI pS (λh1 h2 h3 h4=>hQ h1 h2 h3 h4) _ 0 rfl bO I4 (qO.at λo e=>(s1.2 It ph.symm).trans e) hx ru Jl tP (T.ext e2 hG)⟩
end
section
variable{prog:xf}{w:World}{A:v7}{E:Value->ye->Prop}{s:ye}
theorem jnn{a b:Int}{t u:Tok}{Q:Value->ye->Prop}(h:Q (.bool (decide (a<b))) s):wpAny (model prog w) A (richCompare .Lt (.int a t) (.int b u)) Q E s:=
 richCompare_gives (op:=.Lt) (HW s _ t) (HW s _ u) F.slot_int_lt F.entry_int_lt (F.args_int_lt_2 _ _) (gives_int_lt _ _ t u) (λx=>nomatch x) h
end
def Vg(kf:Nat->Int):Hp->V->Nat->Prop:=λ_ v i=>v=.int (kf i)
def tQ(kf:Nat->Int)(i j:Nat):Bool:=decide (kf i<kf j)
section
variable{X:Cx}{σ:St}{A:v7}
theorem jdi(kf:Nat->Int):Keyed X A σ (Vg kf) (tQ kf) where
 ext:=λ_ h=>h
 cmp:=λ{ac H s v1 v2 u1 u2 i j Q E} I h1 r1 h2 r2 q=>by
  cases(show v1=.int (kf i)from h1);cases(show v2=.int (kf j)from h2);obtain⟨t1,rfl⟩:=r1;obtain⟨t2,rfl⟩:=r2;exact jnn q
end
abbrev LA(α:Type):=List (Addr×Obj)->Addr->Addr->ye->Hp->α
def qP(tp:Bool)(xs:List V):HO:=if tp then .tup xs else .lst xs
theorem jno{K:yd}{xs:List V}{tp:Bool}(h:H l=some (qP tp xs)):fh K H l xs tp:=by
 cases tp
 ·exact SqL.of h
 ·exact aZ.of h
theorem jk4(tp:Bool)(xs:List V):mV (qP tp xs)=true:=by cases tp<;>rfl
theorem jg9{P:xf}{w:World}{K:yd}{mg mb:Str->Option Value}{CX:iS}{k:Nat}{fa a:Addr}{fd:xo}{x:Str}{sp:Sp}{s₁:ye}{vs:List Value}{ns:List Int}{cps:List (Addr×Addr)}
  (KX:K.In s₁.heap) (k7:s₁.heap.Ns mainGlobals mg) (hb:s₁.heap.Ns builtinsNs mb) (Bt:∀x:Str,x≠"__name__"->mb x=bootBuiltins x) (wQ:s₁.heap.NoLimit)
  (Lw:∃bm ob,mg "__builtins__"=some (.ref bm)/\bm≠builtinsNs/\s₁.heap.get? bm=some ob/\ob.cls=.type "module"/\ob.dict=some builtinsNs/\ob.data=.plain) (hg:s₁.gens=#[])
  (ha:s₁.heap.get? a=some {cls:=.type "list",data:=.seq vs.toArray}) (hi:fW vs ns) (hl:ns.length<=sizeLine) (hr:aI k callerA)
  (hK:Jm K=true) (hT:∀q∈cps,zt K q.1 q.2=true/\s₁.heap.get? q.2=some (Jn #[]))
  (F:∀base:Heap,K.In base->base.Ns mainGlobals mg->FnOk P w K mg base CX k fa fd [x] sp) (fq:∀(s:ye) (u:Value),oJ s fd ⟨[u],[]⟩ [(x,u)])
  (hsp:∀H:Hp,(∀q∈cps,H q.2=some (.tbl #[]))->SqL K H a (ns.map V.int)->sp [.ref a] H (λv _=>v=.bl true) λ_ _ _=>False)
  (wR:∀H e s',CX [] H s₁ (λ_ _ _=>False) e s'->False):
  codeAny (model P w) callerA (.call (.ref fa) ⟨[.ref a],[]⟩) (λr s'=>r=.ok (.ret (.bool true))/\OldK s₁.heap s'.heap/\s'.os=s₁.os/\lU s'.gens) s₁:=by
 have rv:=Bs hi;have wT:=hi.length;have Fc:∀q∈cps,q.2≠a:=λq hq z=>by
  have:=(hT q hq).2;rw[z,ha]at this;cases this
 have Nj:∀q∈cps,K.lookup q.2=none:=λq hq=>by
  cases e:K.lookup q.2 with
  |none=>rfl
  |some o=>
   have h1:=KX _ _ e;rw[(hT q hq).2]at h1;cases h1;have h2:=IB.mp hK (q.2,_) (PySem.W.mem_of_lookupK e);skip;exact absurd (show false=true from h2) xj
 let tr:Addr->Option HO:=λb=>if b=a then(if K.lookup a=none then some (.frz {cls:=.type "list",data:=.seq vs.toArray} (.lst (ns.map V.int)))else none)else if b∈cps.map (·.2)then some (.tbl #[])else none
 obtain⟨H,hH⟩:∃H:Hp,H=tr:=⟨tr,rfl⟩
 have Ha:H a=if K.lookup a=none then some (.frz {cls:=.type "list",data:=.seq vs.toArray} (.lst (ns.map V.int)))else none:=by rw[hH];exact if_pos rfl
 have Hb:∀b,b≠a->b∈cps.map (·.2)->H b=some (.tbl #[]):=λb h1 h2=>by rw[hH];show(if _ then _ else _)=_;rw[if_neg h1,if_pos h2]
 have Hn:∀b,b≠a->b∉cps.map (·.2)->H b=none:=λb h1 h2=>by rw[hH];show(if _ then _ else _)=_;rw[if_neg h1,if_neg h2]
 have dE:∀b u,H b=some u->(b=a/\K.lookup a=none/\u=.frz {cls:=.type "list",data:=.seq vs.toArray} (.lst (ns.map V.int)))\/(u=.tbl #[]/\∃q∈cps,q.2=b):=λb u e=>by
  by_cases h1:b=a
  ·subst h1;rw[Ha]at e;by_cases h2:K.lookup b=none
   ·rw[if_pos h2]at e;cases e;exact .inl ⟨rfl,h2,rfl⟩
   ·rw[if_neg h2]at e;cases e
  ·by_cases h2:b∈cps.map (·.2)
   ·rw[Hb b h1 h2]at e;cases e;obtain⟨q,hq,rfl⟩:=yk.mp h2;exact .inr ⟨rfl,q,hq,rfl⟩
   ·rw[Hn b h1 h2]at e;cases e
 have kn:∀b u,H b=some u->K.lookup b=none:=λb u e=>by
  rcases dE b u e with⟨rfl,h,_⟩|⟨_,q,hq,rfl⟩
  ·exact h
  ·exact Nj q hq
 have hok:cK P w H s₁.heap:=λb u e=>by
  rcases dE b u e with⟨rfl,h,rfl⟩|⟨rfl,q,hq,rfl⟩
  ·exact⟨ha,by rw[y3];exact hl,vs,_,rv,ha⟩
  ·exact(hT q hq).2
 have hS:SqL K H a (ns.map V.int):=by
  cases hk:K.lookup a with
  |some o=>
   have e:=KX a o hk;rw[ha]at e;cases e;exact .inr ⟨_,vs.toArray,_,hk,rfl,rfl,rfl,by rw[ym,wT];exact hl,by simpa using rv⟩
  |none=>exact .inl (.inr ⟨{cls:=.type "list",data:=.seq vs.toArray},by rw[Ha,if_pos hk]⟩)
 have bZ:∀{b:Addr}{o:Obj},s₁.heap.get? b=some o->H b=none->(dL s₁.heap H).get? b=some o:=λe n=>RE e n;have j7:∀{b:Addr}{o:Obj},s₁.heap.get? b=some o->(∀ai n,o.data≠.seq ai n)->(∀fs,o.data≠.fields fs)->H b=none:=λ{b o} e d1 d2=>by
  cases q:H b with
  |none=>rfl
  |some u=>
   rcases dE b u q with⟨rfl,_,_⟩|⟨_,q',hq,rfl⟩
   ·rw[ha]at e;cases e;exact(d1 _ _ rfl).elim
   ·rw[(hT q' hq).2]at e;cases e;exact(d2 _ rfl).elim
 have qD:∀{b:Addr}{m:Str->Option Value},s₁.heap.Ns b m->(dL s₁.heap H).Ns b m:=λ{b m} ⟨o,es,ep,e,d,r⟩=>⟨o,es,ep,bZ e (j7 e (λ_ _ z=>by rw[d]at z;cases z) λ_ z=>by rw[d]at z;cases z),d,r⟩
 have DL:K.In (dL s₁.heap H):=λb o e=>bZ (KX b o e) (by
  cases q:H b with
  |none=>rfl
  |some u=>rw[kn b u q]at e;cases e)
 have hM:Mod K mg (dL s₁.heap H):=⟨DL,qD k7,⟨mb,qD hb,Bt⟩,let ⟨mc,h1,h2⟩:=wQ;⟨mc,qD h1,h2⟩,by
  obtain⟨bm,ob,b1,b2,b3,b4,b5,b6⟩:=Lw;exact⟨bm,ob,b1,b2,bZ b3 (j7 b3 (λ_ _ z=>by rw[b6]at z;cases z) λ_ z=>by rw[b6]at z;cases z),b4,b5,b6⟩⟩
 have e0:gH P w K mg (dL s₁.heap H) callerA [] s₁ H:=⟨rfl,hM,λb o e=>RF e,R6 (RD _ _),trivial,λb hb=>absurd (show b∈([]:List Addr)from hb) (by simp),hok,.of_eq hg⟩
 refine wq ((F _ DL (qD k7)).run callerA [] s₁ H ⟨[.ref a],[]⟩ [.ref a] [.ref a] _ _ hr e0 (fq s₁ (.ref a)) (.cons rfl .nil) (hsp H (λq hq=>Hb _ (Fc q hq) (yk.mpr ⟨q,hq,rfl⟩)) hS)) λr s' h=>?_;cases r with
 |error e=>exact(wR H e s' h).elim
 |ok fl=>
  cases fl with
  |next=>exact iQ h
  |brk=>exact iQ h
  |cont=>exact iQ h
  |ret u=>
   obtain⟨v,H',os,bare,un,qE,r',q⟩:=h;have q':v=.bl true:=q;subst q';obtain rfl:u=A2 true:=r';have Vh:∀b o,s₁.heap.get? b=some o->s'.heap.get? b=some o\/(∃q∈cps,q.2=b/\∃more,s'.heap.get? b=some {cls:=.none,data:=.fields (#[]++more)}):=λb o e=>by
    cases q:H b with
    |none=>exact .inl (un.keep b o e q (by intro z;exact absurd (show b∈([]:List Addr)from z) (by simp)) (by simp))
    |some u=>
     rcases dE b u q with⟨rfl,_,rfl⟩|⟨rfl,q',hq,rfl⟩
     ·have z2:=un.frzs b _ _ q;obtain⟨e1,_⟩:=hok b _ q;obtain⟨e2,_⟩:=qE b _ z2;rw[e]at e1;cases e1;exact .inl e2
     ·obtain⟨more,z2⟩:=un.tbls _ _ q;exact .inr ⟨q',hq,rfl,more,qE _ _ z2⟩
   refine⟨rfl,⟨λb o e=>?_,λb o e=>?_⟩,os,bare⟩
   ·rcases Vh b o e with z|⟨q',hq,rfl,more,z⟩
    ·exact .inl z
    ·obtain⟨h1,h2⟩:=hT q' hq;rw[h2]at e;cases e;obtain⟨oc,vc,Qa9,tf,Vi,tg,inF,Qb0,tt,c1,c2,c3,c4,_⟩:=yaa KX h1;exact .inr (.inl ⟨⟨q'.1,oc,vc,c1,c2,c3,c4⟩,rfl,#[],more,rfl,z⟩)
   ·rcases Vh b o e with z|⟨_,_,_,_,z⟩
    ·exact⟨_,z⟩
    ·exact⟨_,z⟩
theorem walk_ofT{l:Ly}{n k:Nat}{q:xf}{cL:List Str}{XP:(Str->Option Value)->Heap->Prop}{YP:World->Heap->Prop}{d:Ii}{K:Ih->yd}{CX:World->iS}{x:Str}{ts:List Addr}
  (hn:l.most=some n) (j4:n<=sizeLine) (qB:d.params.defaults=[]) (hr:aI k callerA)
  (hY:∀(w:World) (h:Heap),YP w h->(K w.params).In h) (Nk:∀(w:World) (h:Heap),YP w h->∀P∈ts,h.get? P=some (Jn #[]))
  (F:∀(w:World) (mg:Str->Option Value) (fa:Addr) (h:Heap),(K w.params).In h->h.Ns mainGlobals mg->mg d.name=some (.ref fa)->
   ∃(fd:xo) (cps:List (Addr×Addr)) (sp:Sp),Jm (K w.params)=true/\(∀q∈cps,zt (K w.params) q.1 q.2=true/\ts.contains q.2=true)/\(∀(s:ye) (u:Value),oJ s fd ⟨[u],[]⟩ [(x,u)])/\
    (∀(H:Hp) (a:Addr) (ns:List Int),ns.length<=n->(∀z∈ns,ib z<=1048576)->(∀q∈cps,H q.2=some (.tbl #[]))->SqL (K w.params) H a (ns.map V.int)->sp [.ref a] H (λv _=>v=.bl true) λ_ _ _=>False)/\
    ∀base:Heap,(K w.params).In base->base.Ns mainGlobals mg->FnOk l.prog w (K w.params) mg base (CX w) k fa fd [x] sp)
  (wR:∀(w:World) (H:Hp) (s:ye) (e:Value) (s':ye),CX w [] H s (λ_ _ _=>False) e s'->False):
  Tg q cL XP YP l.row.toRowW d [] (λf vs=>Ij f vs):=by
 refine j8p hn qB λw s₀ s₁ mg mb fa o pm cd doc a vs ns G Y ho hd fF qC jc fo aL Nl hg=>?_;have KX:=hY w _ Y;obtain⟨fd,cps,sp,hK,hT,hb,hsp,hF⟩:=F w mg fa _ KX G.T.g qC;exact jg9 KX G.T.g G.T.b G.T.builtins G.T.nolimit G.T.bmain hg jc fo (v9 aL j4) hr hK (λq hq=>⟨(hT q hq).1,Nk w _ Y _ (by have:=(hT q hq).2;simpa using this)⟩) hF hb (λH h1 hS=>hsp H a ns aL Nl h1 hS) λH e s'=>wR w H s₁ e s'
variable{A:v7}
section
variable{P:xf}{w:World}{K:yd}{mg:Str->Option Value}{base:Heap}
theorem bT.okL{x:Str}{st:Stmt}{f:Addr}{fd:xo}{N ps:List Str}{k:Nat}{sp:Sp}(F:bT K x qual st f fd)(hc:fd.code=.ref c)(S:ah N ps (aP st))(len:∀vs H Q E,sp vs H Q E->vs.length=ps.length)
  (il:∀(A:v7) (outer:List Env) (s:ye) (H:Hp) (vs:List V) (Q:VK) (E:XK),aI k (A.deeper (envOfC qual (aP st) s.heap.objs.size f (.ref c)))->sp vs H Q E->
   ∃t,iO (gJ (CXU P w) P w K mg base N qual (aP st) f (.ref c) A outer s H E).nox (gY st) t/\t {nx:=λ_ H'=>Q .non H',rt:=Q} (start N vs) H):FnOk P w K mg base (CXU P w) (k+1) f fd ps sp:=by
 obtain⟨oc,od,kV,doc,pm,an,bj,ct,kY,rfl,lk,fF⟩:=F.ex;have e:bj=.ref c:=hc;subst e;refine su lk fF S len λA outer s H vs Q E hr hsp=>?_;obtain⟨t,h,q⟩:=il A outer s H vs Q E hr hsp;exact⟨t,h.nox,q⟩
theorem aI.lam{j:Nat}{env:Env}(h:j+2<=k)(r:aI k A):aI j (A.in1.deeper env):=(r.mono h).in1.deeper env
end
structure NoC(K:yd)(C B:Addr):Prop where
 ha:v0 K (.ref C) "__class__"=some (some (.builtin "object.__class__"))
 hn:Bg K (.builtin "object.__class__") "__get__"=some (some (.builtin "getset_descriptor.__get__"))
 HL:HM K (.builtin "object.__class__")=some true
 hm:HN K C (.type "object")=some true
 ki:pV K (.ref C) (.ref B)=some false
theorem be.ext{H1 H2:Hp}(a:be H H1)(b:al H1 H2):be H H2:=a.tr (al.toT b)
section
variable{X:Cx}
def tR:V->List V->Hp->VK->Prop:=λx vs H Q=>∃(p:Addr) (ns:List Int) (k:Int),x=.ref p/\vs=[.int k]/\H p=some (.tup (ns.map V.int))/\k∈ns/\ns.length<=1000000/\Q (.int (ns.idxOf k:Nat)) H
theorem jdj:wG X "tuple.index" tR:=by
 skip;intro ac s σ H x vs v us Q I rx rv h;obtain⟨p,ns,k,rfl,rfl,hp,hk,hz,q⟩:=h;cases rx;obtain⟨u,rfl,t,rfl⟩:=rv.one;obtain⟨_,ai,r,it,_⟩:=(show ObjOk X.prog X.w H s.heap p (.tup (ns.map V.int))from I.hok p _ hp)
 have hi:fW ai ns:=Bk r;have hn:=hi.length;skip;have hj:ns.idxOf k<ns.length:=E4.mpr hk;refine wJ yag it.typeIs ya1 (y9l _ _) (Up p ai.toArray (.int k t) (isInt k) (ns.idxOf k) (by rw[ym];omega) ?_ ?_) ⟨it,λy hy=>?_,?_⟩
 ·refine(isInt_at k hi _ (by omega) hj).trans ?_;rw[E5 hj];exact beq_self_eq_true k
 ·intro m hm h2;rw[ym]at hm;refine(isInt_at k hi m (by omega) (by omega)).trans ?_;exact Us h2
 ·exact(eq_isInt k t hi y (by simpa using hy)).at _ _
 ·exact⟨.int (ns.idxOf k:Nat),H,I.tok _,⟨_,rfl⟩,q⟩
end
theorem jga{Q:VK}{p:Addr}{ns:List Int}{k:Int}(h:H p=some (.tup (ns.map V.int)))(hk:k∈ns)(hz:ns.length<=1000000)(q:Q (.int (ns.idxOf k:Nat)) H):tR (.ref p) [.int k] H Q:=⟨p,ns,k,rfl,rfl,h,hk,hz,q⟩
theorem Nm{lt:Nat->Nat->Bool}(Jo:∀i,lt i i=false)(tr:∀i j k,lt i j=true->lt j k=true->lt i k=true):∀n i,i<=n->lt i (gQ lt n)=false
 |0,i,h=>by rw[show i=0 by omega];exact Jo 0
 |n+1,i,h=>by
  show lt i (if lt (n+1) (gQ lt n)=true then n+1 else gQ lt n)=false;by_cases c:lt (n+1) (gQ lt n)=true
  ·rw[if_pos c];by_cases e:i=n+1
   ·rw[e];exact Jo _
   ·cases d:lt i (n+1)with
    |false=>rfl
    |true=>
     have:=Nm Jo tr n i (by omega);rw[tr _ _ _ d c]at this;cases this
  ·rw[if_neg c];by_cases e:i=n+1
   ·rw[e];simpa using c
   ·exact Nm Jo tr n i (by omega)
theorem jnp(kf:Nat->Int)(i:Nat):tQ kf i i=false:=decide_eq_false (by omega)
theorem zx(kf:Nat->Int)(i j k:Nat)(h1:tQ kf i j=true)(h2:tQ kf j k=true):tQ kf i k=true:=by
 have h1:=of_decide_eq_true h1;have h2:=of_decide_eq_true h2;skip;exact decide_eq_true (by omega)
variable{n:Nat}
section
variable{prog:xf}{w:World}{A:v7}{E:Value->ye->Prop}{s:ye}
theorem jdk{src:Source}{Q:Nat->ye->Prop}(hn:n≠0)(h:∀i d,i<n->Q i {s with drawn:=d}):wpAny (model prog w) A (choose src n) Q E s:=λΓ hΓ p=>by
 unfold choose;rw[Sem.wp_choose];exact⟨hn,by rw[Sem.wp_pure];exact h _ _ (BS _ (by omega))⟩
theorem Vj{α:Type}:∀(n:Nat) (xs:List α) {s:ye}{Q:List α->ye->Prop},xs.length=n->(∀ys d,ys.Perm xs->Q ys {s with drawn:=d})->wpAny (model prog w) A (drawOrder n xs) Q E s
 |0,xs,s,Q,hl,h=>by
  rw[vw.mp hl]at h ⊢;unfold drawOrder;exact yc (h [] s.drawn (kz _))
 |n+1,[],s,Q,hl,h=>by simp at hl
 |n+1,x::xs,s,Q,hl,h=>by
  unfold drawOrder;refine y0 (jdk (by simp) λi d hi=>?_);rw[y4 hi];refine y0 (Vj n _ (by rw[y6u hi];omega) λys d' hp=>yc (h _ d' ?_));exact(ycq _ hp).trans (MG _ _ hi)
end
abbrev zy(T:Addr)(i:Nat)(S:Addr)(n ep:Nat):Obj:={cls:=.type "set_iterator",dict:=none,data:=.fields #[.ref T,rawInt i,.ref S,rawInt n,rawInt ep],slots:=#[]}
abbrev tS(ps:List Nat):Obj:={cls:=.type "tuple",data:=.seq (ps.map λ(i:Nat)=>rawInt i).toArray}
variable{S I T:Addr}{es:Array (Int×Value)}{ep i:Nat}{t:u6}{ps:List Nat}
section
variable{prog:xf}{w:World}{A:v7}{E:Value->ye->Prop}{s:ye}
theorem jnq{Q:Value->ye->Prop}(hS:s.heap.get? S=some (aW es ep t))(fits:t.fits es.size=true)(hb:cN w=false)(hp:t.plain=false)(h2:1<es.size)(hz:es.size<=sizeLine)
  (h:∀(ps:List Nat) (d:Drawn),ps.Perm (vi es.size)->Q (.ref (s.heap.objs.size+1)) {s with heap:=(s.heap.push (tS ps)).push (zy s.heap.objs.size 0 S es.size ep),drawn:=d}):wpAny (model prog w) A (pyIter (.ref S)) Q E s:=by
 have te:s.TypeIs (.ref S) "set":=⟨_,hS,rfl⟩
 skip;refine Fb te Nn (gj Nn te UE ?_ (y7y _));unfold Builtin.«frozenset.__iter__»;refine y0 (ji (a:=S) rfl ?_);unfold y7d;refine y0 (y0 (Fs hS rfl fits (yc ?_)));refine y0 ?_;unfold setDrawn;refine y0 (uv hS rfl fits (y0 (IN (yc ?_))));have e:(!cN w&&(!t.plain&&decide (es.size > 1)))=true:=by rw[hb,hp,decide_eq_true (show es.size > 1 from h2)];rfl
 show wpAny _ _ (if (!cN w&&(!t.plain&&decide (es.size > 1)))=true then _ else _) _ _ _;rw[e,if_pos rfl];refine y0 (Vj es.size (vi es.size) (tG) λps d mM=>y0 (TZ ?_ (by rw[y3,mM.length_eq,tG];exact hz)));have gB:(s.heap.push (tS ps)).get? S=some (aW es ep t):=yb _ hS;refine y0 (ybi gB rfl fits ?_);refine y0 (vp (yc ⟨_,rfl,"set_iterator",_,⟨_,yi _ rfl,rfl⟩,lE.lookup,?_⟩));have:=h ps d mM;rw[<- vq s.heap (tS ps)]at this;exact this
theorem jnr{x:Int×Value}{Q:Option Value->ye->Prop}(hI:s.heap.get? I=some (zy T i S es.size ep))(hT:s.heap.get? T=some (tS ps))(hS:s.heap.get? S=some (aW es ep t))(fits:t.fits es.size=true)(hi:i<ps.length)(hx:es[ps[i]]?=some x)
  (hQ:∀h',h'.get? I=some (zy T (i+1) S es.size ep)->i3 I s.heap h'->Q (some x.2) {s with heap:=h'}):wpAny (model prog w) A (pyNext (.ref I)) Q E s:=by
 have te:s.TypeIs (.ref I) "set_iterator":=⟨_,hI,rfl⟩
 unfold pyNext;skip;refine y0 (yE (vf (name:=u5 "__next__") te lE (gj lE te IJ ?_ (IK _))));unfold Builtin.«set_iterator.__next__»;refine y0 (ji (a:=(v5 I,[])) rfl ?_);refine y0 (zz hI rfl ?_);show wpAny _ _ (setEntries S >>= _) _ _ _;refine y0 (Fs hS rfl fits ?_);rw[if_neg (by simp)];show wpAny _ _ (seqItems? (.ref T) >>= _) _ _ _;refine y0 (um hT rfl ?_);have fi:(ps.map λ(i:Nat)=>rawInt i).toArray[(i:Int).toNat]?=some (rawInt (ps[i]:Nat)):=by
  rw[yx,U8,xh,y4 hi];rfl
 simp only[fi];show wpAny _ _ (setNextDrawn S ((ps[i]:Nat):Int).toNat (ep:Int).toNat >>= _) _ _ _;rw[yx,yx];refine y0 ?_;unfold setNextDrawn;refine y0 (uv hS rfl fits ?_);dsimp only;rw[if_neg (by simp),hx];refine yc ?_;refine y0 (uk hI (by simp) λg1 e1 s1=>?_);exact yc ⟨_,rfl,yc (hQ g1 e1 s1)⟩
theorem zA{Q:Option Value->ye->Prop}(hh:A.handled=none)(hI:s.heap.get? I=some (zy T ps.length S es.size ep))(hT:s.heap.get? T=some (tS ps))(hS:s.heap.get? S=some (aW es ep t))(fits:t.fits es.size=true)
  (hQ:∀h',(∀b o,b≠I->s.heap.get? b=some o->h'.get? b=some o)->Q none {s with heap:=h'}):wpAny (model prog w) A (pyNext (.ref I)) Q E s:=by
 have te:s.TypeIs (.ref I) "set_iterator":=⟨_,hI,rfl⟩
 unfold pyNext;skip;refine y0 (yE (vf (name:=u5 "__next__") te lE (gj lE te IJ ?_ (IK _))));unfold Builtin.«set_iterator.__next__»;refine y0 (ji (a:=(v5 I,[])) rfl ?_);refine y0 (zz hI rfl ?_);show wpAny _ _ (setEntries S >>= _) _ _ _;refine y0 (Fs hS rfl fits ?_);rw[if_neg (by simp)];show wpAny _ _ (seqItems? (.ref T) >>= _) _ _ _;refine y0 (um hT rfl ?_);have fi:(ps.map λ(i:Nat)=>rawInt i).toArray[((ps.length:Nat):Int).toNat]?=none:=by
  rw[yx,U8,yW (by rw[y3];exact yg _)]
 simp only[fi];show wpAny _ _ (setField (.ref I) 0 (rawInt 0) >>= _) _ _ _;refine y0 (uk hI (by simp) λg0 e0 s0=>y0 (uk e0 (by simp) λg1 e1 s1=>?_));have kk:∀b o,b≠I->s.heap.get? b=some o->g1.get? b=some o:=λb o q h=>s1.extBut b o q (s0.extBut b o q h);skip;refine y0 ?_;simp only[newExc,newTuple];refine y0 (vp (y0 (m:=firstArgMember _ _) (ji (a:=uy) (by first|rfl|(simp only[firstArgMember];rfl)) (vp ?_ (by size_fits)))) (by size_fits));skip;simp only[raiseNew];refine y0 (Mb ?_);first|rw[show A.in1.handled=none from hh]|rw[hh]
 skip;refine y0 (yc (Mc ?_));refine y0 (BF (T:="StopIteration") (b:=true) ⟨_,yi _ rfl,rfl⟩ Mi ?_);exact yc (hQ _ λb o q h=>yb _ (yb _ (kk b o q h)))
end
structure gC(w:World)(t:u6)(n:Nat)(sl:Nat->Nat):Prop where
 fits:t.fits n=true
 dr:cN w=false->(!t.plain&&decide (n > 1))=false
 zero:sl 0=0
 low:∀i,i<=n->xg t.place (sl i)=i
 step:∀i,i<n->∃j,t.place[i]?=some j/\j+1=sl (i+1)
variable{sl:Nat->Nat}
section
variable{prog:xf}{w:World}{A:v7}{E:Value->ye->Prop}{s:ye}
theorem Vk{Q:Option (Value×Nat)->ye->Prop}(hS:s.heap.get? S=some (aW es ep t))(R:gC w t es.size sl)(dF:t.led=!cN w)(hi:i<=es.size)
  (h:Q (((lF w S ep es)[i]?).map λe=>(e.2,dR w sl (i+1))) s):wpAny (model prog w) A (setNext S (dR w sl i) i ep) Q E s:=by
 unfold setNext;refine y0 (uv hS rfl R.fits (y0 (IN ?_)));unfold lF dR at h;unfold dR;by_cases hb:cN w=true
 ·rw[hb]at h ⊢;simp only[if_true]at h ⊢;rw[if_neg (by simp)];refine y0 ?_;unfold setWalk;refine y0 (uv hS rfl R.fits (y0 (IN ?_)));rw[hb];exact y0 (UH (yc (yc h)))
 ·rw[U2]at hb;rw[hb]at h dF ⊢;simp only[vt,if_false]at h ⊢;show wpAny _ _ (if (!t.plain&&decide (es.size > 1))=true then _ else _) _ _ _;rw[R.dr hb,if_neg (by simp)];refine y0 ?_;show wpAny _ _ (if (!t.led && !es.isEmpty)=true then _ else _) _ _ _;rw[dF,if_neg (by simp)];refine yc ?_;rw[R.low i hi];by_cases bF:i<es.size
  ·obtain⟨j,e1,e2⟩:=R.step i bF;rw[yh bF]at h ⊢;rw[e1];dsimp only[yfc]at h ⊢;rw[e2];exact yc h
  ·rw[ES (by omega)]at h ⊢;exact yc h
theorem jk5{x:Int×Value}{Q:Option Value->ye->Prop}(hI:s.heap.get? I=some (fz (dR w sl i) i S es.size ep))(hS:s.heap.get? S=some (aW es ep t))(R:gC w t es.size sl)(dF:t.led=!cN w)(hi:i<es.size)(ne:S≠I)
  (hx:(lF w S ep es)[i]?=some x) (hQ:∀h',h'.get? I=some (fz (dR w sl (i+1)) (i+1) S es.size ep)->i3 I s.heap h'->Q (some x.2) {s with heap:=h'}):wpAny (model prog w) A (pyNext (.ref I)) Q E s:=by
 have te:s.TypeIs (.ref I) "set_iterator":=⟨_,hI,rfl⟩
 unfold pyNext;refine y0 (yE (vf (name:=u5 "__next__") te lE (gj lE te IJ ?_ (IK _))));unfold Builtin.«set_iterator.__next__»;refine y0 (ji (a:=(v5 I,[])) rfl ?_);refine y0 (zz hI rfl ?_);show wpAny _ _ (setEntries S >>= _) _ _ _;refine y0 (Fs hS rfl R.fits ?_);rw[if_neg (by simp)];show wpAny _ _ (setNext S (dR w sl i:Int).toNat (i:Int).toNat (ep:Int).toNat >>= _) _ _ _;rw[yx,yx,yx];refine y0 (Vk hS R dF (by omega) ?_);rw[hx];show wpAny _ _ (setField (.ref I) 0 (rawInt (dR w sl (i+1):Nat)) >>= _) _ _ _;refine y0 (uk hI (by simp) λg1 e1 s1=>y0 (uk e1 (by simp) λg2 e2 s2=>?_));refine yc ⟨_,rfl,yc (hQ g2 ?_ (s1.trans s2))⟩;exact e2
theorem jns{Q:Option Value->ye->Prop}(hh:A.handled=none)(hI:s.heap.get? I=some (fz (dR w sl es.size) es.size S es.size ep))(hS:s.heap.get? S=some (aW es ep t))(R:gC w t es.size sl)(dF:t.led=!cN w)
  (hQ:∀h',(∀b o,b≠I->s.heap.get? b=some o->h'.get? b=some o)->Q none {s with heap:=h'}):wpAny (model prog w) A (pyNext (.ref I)) Q E s:=by
 have te:s.TypeIs (.ref I) "set_iterator":=⟨_,hI,rfl⟩
 unfold pyNext;refine y0 (yE (vf (name:=u5 "__next__") te lE (gj lE te IJ ?_ (IK _))));unfold Builtin.«set_iterator.__next__»;refine y0 (ji (a:=(v5 I,[])) rfl ?_);refine y0 (zz hI rfl ?_);show wpAny _ _ (setEntries S >>= _) _ _ _;refine y0 (Fs hS rfl R.fits ?_);rw[if_neg (by simp)];show wpAny _ _ (setNext S (dR w sl es.size:Int).toNat (es.size:Int).toNat (ep:Int).toNat >>= _) _ _ _;rw[yx,yx,yx];refine y0 (Vk hS R dF (yg _) ?_);rw[ES (by rw[UG];exact yg _)];show wpAny _ _ (setField (.ref I) 2 .none >>= _) _ _ _;refine y0 (uk hI (by simp) λg1 e1 s1=>?_);have kk:∀b o,b≠I->s.heap.get? b=some o->g1.get? b=some o:=λb o q h=>s1.extBut b o q h;refine y0 ?_;simp only[newExc,newTuple];refine y0 (vp (y0 (m:=firstArgMember _ _) (ji (a:=uy) (by first|rfl|(simp only[firstArgMember];rfl)) (vp ?_ (by size_fits)))) (by size_fits));simp only[raiseNew];refine y0 (Mb ?_);first|rw[show A.in1.handled=none from hh]|rw[hh]
 refine y0 (yc (Mc ?_));refine y0 (BF (T:="StopIteration") (b:=true) ⟨_,yi _ rfl,rfl⟩ Mi ?_);exact yc (hQ _ λb o q h=>yb _ (yb _ (kk b o q h)))
theorem jk6{S:Addr}{es:Array (Int×Value)}{ep:Nat}{t:u6}{sl:Nat->Nat}{Q:Value->ye->Prop}(hS:s.heap.get? S=some (aW es ep t))(R:gC w t es.size sl)
  (h:Q (.ref s.heap.objs.size) {s with heap:=s.heap.push (fz 0 0 S es.size ep)}):wpAny (model prog w) A (pyIter (.ref S)) Q E s:=by
 have te:s.TypeIs (.ref S) "set":=⟨_,hS,rfl⟩
 refine Fb te Nn (gj Nn te UE ?_ (y7y _));unfold Builtin.«frozenset.__iter__»;refine y0 (ji (a:=S) rfl ?_);unfold y7d;refine y0 (y0 (Fs hS rfl R.fits (yc ?_)));refine y0 ?_;unfold setDrawn;refine y0 (uv hS rfl R.fits (y0 (IN (yc ?_))));have e:(!cN w&&(!t.plain&&decide (es.size > 1)))=false:=by
  cases hb:cN w with
  |true=>rfl
  |false=>rw[R.dr hb];rfl
 show wpAny _ _ (if (!cN w&&(!t.plain&&decide (es.size > 1)))=true then _ else _) _ _ _;rw[e,if_neg (by decide)];refine y0 (yc ?_);refine y0 (ybi hS rfl R.fits ?_);exact y0 (vp (yc ⟨_,rfl,"set_iterator",_,⟨_,yi _ rfl,rfl⟩,lE.lookup,h⟩))
end
theorem jgb{prog:xf}(hh:A.handled=none)(I S:Addr)(ne:S≠I){ep:Nat}(R:gC w t es.size sl)(dF:t.led=!cN w):
  Walks prog w A I [I,S] [I] es.size (λi v=>((lF w S ep es)[i]?).map (·.2)=some v) (λi h=>i<=es.size/\h.get? I=some (fz (dR w sl i) i S es.size ep)/\h.get? S=some (aW es ep t)) where
 sub:=λb hb=>by rw[y9.mp hb];simp
 frame:=λ_ _ _ x hk=>⟨x.1,hk I (by simp) _ x.2.1,hk S (by simp) _ x.2.2⟩
 item:=λi s Q E hi x (hQ)=>by
  have hx:(lF w S ep es)[i]?=some ((lF w S ep es)[i]'(by rw[UG];exact hi)):=yh _;refine jk5 x.2.1 x.2.2 R dF hi ne hx λh' eU fu=>?_;exact hQ _ h' s.toks (by rw[hx];rfl) ⟨hi,eU,(fu.2 S ne).trans x.2.2⟩ λb o hb eo=>fu.extBut b o (λh=>hb (by simp[h])) eo
 done:=λs Q E x hQ=>jns hh x.2.1 x.2.2 R dF λh' zB=>hQ h' s.toks λb o hb eo=>zB b o (λh=>hb (by simp[h])) eo
 self:=λ_ _ _ _ x hQ=>jnd x.2.1 hQ
section
variable{prog:xf}{w:World}{A:v7}{E:Value->ye->Prop}{s:ye}
theorem jnt{Q:Value->ye->Prop}(hI:s.heap.get? I=some (zy T i S n ep))(h:Q (.ref I) s):wpAny (model prog w) A (pyIter (.ref I)) Q E s:=by
 have ti:s.TypeIs (.ref I) "set_iterator":=⟨_,hI,rfl⟩
 skip;refine Fb ti IM (gj IM ti UD ?_ (UC _));exact yc ⟨_,rfl,"set_iterator",_,ti,lE.lookup,h⟩
end
theorem jk7{prog:xf}{w:World}(hh:A.handled=none)(I S T:Addr)(nS:S≠I)(nT:T≠I){ep:Nat}(fits:t.fits es.size=true)(hl:ps.length=es.size)(hm:∀k∈ps,k<es.size):
  Walks prog w A I [I,S,T] [I] es.size (λi v=>(ps.map λk=>(es.getD k (0,.none)).2)[i]?=some v) (λi h=>h.get? I=some (zy T i S es.size ep)/\h.get? S=some (aW es ep t)/\h.get? T=some (tS ps)) where
 sub:=λb hb=>by rw[y9.mp hb];simp
 frame:=λ_ _ _ x hk=>⟨hk I (by simp) _ x.1,hk S (by simp) _ x.2.1,hk T (by simp) _ x.2.2⟩
 item:=λi s Q E hi x (hQ)=>by
  have pd:i<ps.length:=by omega
  have hk:ps[i]<es.size:=hm _ (ua pd);refine jnr x.1 x.2.2 x.2.1 fits pd (yh hk) λh' eU fu=>?_;refine hQ _ h' s.toks ?_ ⟨eU,(fu.2 S nS).trans x.2.1,(fu.2 T nT).trans x.2.2⟩ λb o hb eo=>fu.extBut b o (λh=>hb (by simp[h])) eo;rw[xh,y4 pd,zC,xy,yh hk];rfl
 done:=λs Q E x hQ=>zA hh (by rw[hl];exact x.1) x.2.2 x.2.1 fits λh' zB=>hQ h' s.toks λb o hb eo=>zB b o (λh=>hb (by simp[h])) eo
 self:=λ_ _ _ _ x hQ=>jnt x.1 hQ
theorem jgc(hf:t.fits n=true)(hd:cN w=false->(!t.plain&&decide (n > 1))=false)(hr:kA t.place)(hn:t.place.size=n):gC w t n λi=>if i=0 then 0 else t.place.getD (i-1) 0+1:=by
 have R:=jjw (t:={t with plain:=true}) (n:=n) hf rfl hr hn;exact⟨hf,hd,rfl,R.low,R.step⟩
section
variable{prog:xf}{w:World}{A:v7}{E:Value->ye->Prop}{s:ye}
theorem jdm{S:Addr}{es:Array (Int×Value)}{ep:Nat}{t:u6}{Q:Value->ye->Prop}(hS:s.heap.get? S=some (aW es ep t))(T:Tab t es)(dF:t.led=!cN w)(hz:es.size<=sizeLine)
  (h:∀(I:Addr) (fp:List Addr) (h':Heap) (d:Drawn) (ord:List Value) (St:Nat->Heap->Prop),s.heap.objs.size<=I->(∀b o,s.heap.get? b=some o->h'.get? b=some o)->(∀b∈fp,b=S\/s.heap.objs.size<=b)->ord.Perm (es.toList.map (·.2))->(∀A':v7,A'.handled=none->Walks prog w A' I fp [I] es.size (λi v=>ord[i]?=some v) St)->St 0 h'->Q (.ref I) {s with heap:=h',drawn:=d}):wpAny (model prog w) A (pyIter (.ref S)) Q E s:=by
 have lS:S<s.heap.objs.size:=yt hS;by_cases dr:cN w=false/\t.plain=false/\1<es.size
 ·refine jnq hS T.fits dr.1 dr.2.1 dr.2.2 hz λps d hp=>?_;have hl:ps.length=es.size:=by rw[hp.length_eq,tG]
  have hm:∀k∈ps,k<es.size:=λk hk=>u9.mp (hp.mem_iff.mp hk);have n1:(s.heap.push (tS ps)).objs.size=s.heap.objs.size+1:=vq ..;refine h _ [s.heap.objs.size+1,S,s.heap.objs.size] _ d (ps.map λk=>(es.getD k (0,.none)).2) _ (i6 _) (λb o e=>yb _ (yb _ e)) (λb hb=>?_) ?_ (λA' h'=>jk7 h' _ S _ (xn (ui lS)) (xn (Bh _)) (ep:=ep) T.fits hl hm) ⟨?_,yb _ (yb _ hS),yb _ (yi _ rfl)⟩
  ·simp only[xc,oW,or_false]at hb;skip;rcases hb with rfl|rfl|rfl
   ·exact .inr (i6 _)
   ·exact .inl rfl
   ·exact .inr (yg _)
  ·refine(hp.map _).trans ?_;have:(vi es.size).map (λk=>(es.getD k (0,.none)).2)=es.toList.map (·.2):=by
    refine ER λi=>?_;rw[xh,xh,xr (xs:=es)];by_cases hi:i<es.size
    ·rw[Fl hi,yh hi,zC,xy,yh hi];rfl
    ·rw[yW (l:=vi es.size) (by rw[tG];omega),ES (by omega)];rfl
   rw[this]
  ·have:=yi (s.heap.push (tS ps)) (o:=zy s.heap.objs.size 0 S es.size ep) rfl;rw[n1]at this;exact this
 ·have R:=jgc (w:=w) (t:=t) (n:=es.size) T.fits (λhb=>by
   cases hp:t.plain with
   |true=>rfl
   |false=>simpa using λz=>dr ⟨hb,hp,z⟩) T.ris T.size
  refine jk6 hS R ?_;have ne:S≠s.heap.objs.size:=xn lS;refine h _ [s.heap.objs.size,S] _ s.drawn ((lF w S ep es).toList.map (·.2)) (λi g=>i<=es.size/\g.get? s.heap.objs.size=some (fz (dR w (λi=>if i=0 then 0 else t.place.getD (i-1) 0+1) i) i S es.size ep)/\g.get? S=some (aW es ep t)) (yg _) (λb o e=>yb _ e) (λb hb=>?_) ((UF w S ep es).map _) (λA' h'=>?_) ⟨gn _,?_,yb _ hS⟩
  ·simp only[xc,oW,or_false]at hb;rcases hb with rfl|rfl
   ·exact .inr (yg _)
   ·exact .inl rfl
  ·have W:=jgb (prog:=prog) h' s.heap.objs.size S ne (ep:=ep) R dF;have e:(λ(i:Nat) (v:Value)=>((lF w S ep es).toList.map (·.2))[i]?=some v)=(λi v=>((lF w S ep es)[i]?).map (·.2)=some v):=by
    funext i v
    rw[xh,xr]
   rw[e];exact W
  ·have z0:dR w (λi=>if i=0 then 0 else t.place.getD (i-1) 0+1) 0=0:=by unfold dR;simp
   rw[z0];exact yi _ rfl
theorem jbk{Q:List Value->ye->Prop}(hh:A.handled=none)(hS:s.heap.get? S=some (aW es ep t))(T:Tab t es)(dF:t.led=!cN w)(hz:es.size<=sizeLine)
  (hQ:∀(s':ye) (d:Drawn) (ord:List Value),Moved [] (λa b=>b=a) {s with drawn:=d} s'->ord.Perm (es.toList.map (·.2))->Q ord s'):wpAny (model prog w) A (collect (.ref S)) Q E s:=by
 have lS:S<s.heap.objs.size:=yt hS;have nd:s.heap.objs.size≠S:=jZ lS;skip;unfold collect;refine y0 (Iw (lA y8t ?_));rw[uq y8u _];show wpAny _ A.in1 (newList [] >>= λx=>again (.builtin "list.__iadd__" ⟨[x,.ref S],[]⟩)) _ _ s;skip;refine y0 (vp (yc ⟨mR No _,lA yax ?_⟩));rw[uq No _];generalize Jp:s.heap.push {cls:=.type "list",data:=.seq ([]:List Value).toArray}=g0;have d1:g0.get? S=some (aW es ep t):=by rw[<- Jp];exact yb _ hS
 have S1:g0.get? s.heap.objs.size=some {cls:=.type "list",data:=.seq ([]:List Value).toArray}:=by rw[<- Jp];exact yi _ rfl
 have k1:∀b o,s.heap.get? b=some o->g0.get? b=some o:=λb o e=>by rw[<- Jp];exact yb _ e
 have n1:g0.objs.size=s.heap.objs.size+1:=by rw[<- Jp,vq]
 have same:Ft (.ref s.heap.objs.size) (.ref S)=false:=by simp[Ft,nd]
 skip;show wpAny _ A.in1 (vx (.ref s.heap.objs.size) (.ref S) (.ref s.heap.objs.size)) _ _ _;unfold vx;refine y0 (pZ (T:="set") ⟨_,d1,rfl⟩ ?_);rw[if_neg (by rw[same];decide)];refine y0 (jdm (s:={s with heap:=g0}) d1 T dF hz λI fp g1 d ord St hI kk oU hp W MW=>y0 (gu ?_));replace hI:s.heap.objs.size+1<=I:=by rw[<- n1];exact hI
 replace oU:∀b∈fp,b=S\/s.heap.objs.size+1<=b:=λb hb=>by rw[<- n1];exact oU b hb
 have d2:=kk S _ d1;have S2:=kk _ _ S1;have te:Np {s with heap:=g1,drawn:=d} (.ref S) "set":=⟨_,d2,rfl⟩
 skip;unfold Vl;refine y0 (DF (T:="set") te PySem.F.slot_set_len.lookup ?_)
 (generalize mY:("set.__len__":String)=tT;(fail_if_success (clear mY tT));wp_delta;rw[show splitId tT=some ("set","__len__")from by subst mY;decide +kernel];subst mY)
 refine y0 (BF (T:="set") (b:=true) te ze ?_);rw[if_neg (by decide)];rw[if_pos (by decide +kernel)];refine y0 (pZ (T:="set") te (yc ?_));rw[if_pos (by decide +kernel)];refine y0 (yD (y0 ?_));have S3:=vy (gf (·.push uy)) S2 rfl;skip;show wpAny _ A.in1 (updateSeq s.heap.objs.size (·.push .none) >>= λ_=>updateSeq s.heap.objs.size (·.pop)) _ _ _;refine y0 (zp S2 rfl (zp S3 rfl ?_));have S4:=vy (gf (·.pop)) S3 rfl;have pi:∀b o,b≠s.heap.objs.size->g1.get? b=some o->((g1.update s.heap.objs.size (gf (·.push uy))).update s.heap.objs.size (gf (·.pop))).get? b=some o:=
  λb o nb e=>(uo _ _ (iN nb)).trans ((uo _ _ (iN nb)).trans e)
 have nS:s.heap.objs.size∉fp:=λz=>by
  rcases oU _ z with q|q
  ·exact nd q
  ·omega
 have W1:=(W A.in1 hh).toS;refine yc ⟨mR Vm _,Vn W1 hz _ nS _ es.size 0 _ _ _ rfl (gn _) ((W A.in1 hh).frame _ _ _ MW λb hb o e=>pi b o (λz=>nS (by rw[<- z];exact hb)) e) S4 (Vo _) λs' eC c' hm gB dQ=>y0 (KJ gB (yc ?_))⟩;have ea:eC.toList=ord:=UI (P:=λi v=>ord[i]?=some v) (by rw[hp.length_eq,y3,yj];exact dQ) λi v hv=>hv;have:=hQ s' d ord ⟨λb o _ e=>?_,hm.gens,hm.drawn,hm.os,hm.toks⟩ hp
 ·rw[<- ea]at this;exact this
 ·have lb:=yt e;replace lb:b<s.heap.objs.size:=lb;refine hm.heap b o (λq=>?_) (pi b o (xn lb) (kk b o (k1 b o e)));rcases xc.mp q with q|q
  ·exact xn lb q
  ·rw[y9.mp q]at lb;exact absurd (xz lb (Nat.le_of_succ_le hI)) (A4 _)
end
section
variable{prog:xf}{w:World}{A:v7}{E:Value->ye->Prop}{s:ye}
theorem jgd{α:Type}{c:Prop}[Decidable c]{m:Sem Bool}{f:Bool->Sem α}{g:Sem α}{Q:α->ye->Prop}(hm:∀Q:Bool->ye->Prop,(∀b,Q b s)->wpAny (model prog w) A m Q E s)(hg:g=(pure true >>= f))(K:∀b,wpAny (model prog w) A (f b) Q E s):wpAny (model prog w) A (if c then m >>= f else g) Q E s:=by
 by_cases hc:c
 ·rw[if_pos hc];exact y0 (hm _ K)
 ·rw[if_neg hc,hg];exact y0 (yc (K true))
theorem jk8{S a:Addr}{es:Array (Int×Value)}{ep:Nat}{t:u6}{hash:Int}{K:Type}[DecidableEq K]{key:Nat->K}{k:K}{Q:Bool->ye->Prop}(hS:s.heap.get? S=some (aW es ep t))(T:Tab t es)(hb:es.size<60)(H:zm prog w A E s es (.ref a) hash key k)
  (hv:∀Q:Bool->ye->Prop,(∀b,Q b s)->wpAny (model prog w) A (hashByValue 8 (.ref a)) Q E s)
  (h1:(∃i,i<es.size/\key i=k)->Q false s)
  (h2:(∀i,i<es.size->key i≠k)->∀h' eO t' fi,i3 S s.heap h'->h'.get? S=some (aW eO fi t')->Tab t' eO->t'.led=t.led->eO.toList.Perm ((hash,.ref a)::es.toList)->Q true {s with heap:=h'}):
  wpAny (model prog w) A (setAddHashed S (.ref a) hash) Q E s:=by
 obtain⟨e0,e1,e2⟩:=T.free;obtain⟨N,m1,m2⟩:=tM T.mask hash e1;skip;unfold setAddHashed setAddHashedIn;refine gu (y0 (uv hS rfl T.fits ?_));dsimp only;rw[show byScan (.ref a) es=false from rfl,if_neg (by decide)];refine y0 ?_;unfold setSearch;have mk:t.mask<=127:=by rcases T.mask with h|h|h<;>omega
 refine M3 hS T H (λq=>?_) (λq r n1 n2 n3=>?_) 100000 0 ⟨N,by omega,m1,by omega,by rw[m2];exact e2⟩ (λq hq=>by omega) none (.inr ⟨rfl,rfl⟩)
 ·exact yc (h1 q)
 ·dsimp only;refine y0 (uv hS rfl T.fits ?_);dsimp only;have pu:t.put (aB t.mask hash r).j=({t with place:=xa t.place (xg t.place (aB t.mask hash r).j) (aB t.mask hash r).j},xg t.place (aB t.mask hash r).j):=by
   unfold yea;rw[T.dum];have:IV #[] (aB t.mask hash r).j=false:=by unfold IV;simp
   rw[this];simp[T.dum]
  rw[pu];dsimp only;refine jgd (c:=t.plain=true) hv rfl λbv=>?_;obtain⟨pl,epl⟩:∃pl,(if bv=true then({t with place:=xa t.place (xg t.place (aB t.mask hash r).j) (aB t.mask hash r).j}:u6)else {t with place:=xa t.place (xg t.place (aB t.mask hash r).j) (aB t.mask hash r).j,plain:=false})={t with place:=xa t.place (xg t.place (aB t.mask hash r).j) (aB t.mask hash r).j,plain:=pl}:=by
   cases bv with
   |true=>exact⟨t.plain,rfl⟩
   |false=>exact⟨false,rfl⟩
  rw[epl];have ip:=Jg es (xg t.place (aB t.mask hash r).j) (hash,v5 a);have lM:(xa es (xg t.place (aB t.mask hash r).j) (hash,v5 a)).size=es.size+1:=by rw[<- yj,ip.length_eq,yn,yj]
  have pp:=Jg t.place (xg t.place (aB t.mask hash r).j) (aB t.mask hash r).j;have Fu:(xa t.place (xg t.place (aB t.mask hash r).j) (aB t.mask hash r).j).size=es.size+1:=by rw[<- yj,pp.length_eq,yn,yj,T.size]
  refine y0 (Nq hS rfl ?_ (by rw[lM,xx];omega));generalize ht:({t with place:=xa t.place (xg t.place (aB t.mask hash r).j) (aB t.mask hash r).j,plain:=pl}:u6)=t1;generalize he:xa es (xg t.place (aB t.mask hash r).j) (hash,v5 a)=gA at ip lM;have o1:(s.heap.update S (Nr gA t1)).get? S=some (aW gA (ep+1) t1):=vy _ hS rfl;have s1:i3 S s.heap (s.heap.update S (Nr gA t1)):=ul ..;have l1:t1.led=t.led:=by rw[<- ht]
  have tf:t1.tooFull=decide ((es.size+1)*5>=t.mask*3):=by
   rw[<- ht];unfold yc3 Ja;show decide (((xa t.place _ _).size+t.dummies.size)*5>=t.mask*3)=_;rw[Fu,T.dum];rfl
  by_cases mZ:(es.size+1)*5>=t.mask*3
  ·rw[tf,decide_eq_true mZ,if_pos (by decide)];obtain⟨m',oX,wn,rm⟩:∃m',tK m'/\U7 (Vp (es.size+1))=m'+1/\(es.size+1)*5<m'*3:=by
    have:=T.room;rcases T.mask with h|h|h
    ·have hn:es.size=4:=(by omega);exact⟨31,.inr (.inl rfl),by rw[hn];decide +kernel,by omega⟩
    ·have hn:es.size=18:=(by omega);exact⟨127,.inr (.inr rfl),by rw[hn];decide +kernel,by omega⟩
    ·omega
   have f1:t1.fits gA.size=true:=by
    have:=T.room;rw[<- ht,lM];unfold UX Ja;show((xa t.place _ _).size==_&&decide ((xa t.place _ _).size+t.dummies.size<=t.mask))=true;rw[Fu,T.dum,oO,beq_iff_eq,decide_eq_true_iff];have z:(#[]:Array Nat).size=0:=rfl;refine⟨rfl,?_⟩;rcases T.mask with h|h|h<;>omega
   obtain⟨t2,ord,r1,r2,r3,r4,r5,r6,_⟩:=U5 (t:=t1) (es:=gA) oX wn (by rw[lM];exact rm);refine y0 ?_;unfold setRelay;refine y0 (uv o1 rfl f1 ?_);dsimp only;rw[wn,if_neg (by rw[xx];rcases oX with h|h|h<;>rw[h]<;>decide),r1];refine y0 ?_;show wpAny _ _ (if (ord.filterMap (gA[·]?)).size !=gA.size then _ else _) _ _ _;rw[if_neg (by rw[r2];simp)];refine yc ?_;refine Nq o1 rfl ?_ (by rw[r2,lM,xx];omega);exact yc (h2 q _ _ t2 _ (s1.trans (ul ..)) (vy _ o1 rfl) r4 (r5.trans l1) (r3.trans ip))
  ·rw[tf,decide_eq_false mZ,if_neg (by decide)];refine yc (h2 q _ _ t1 _ s1 o1 ?_ l1 ip);have T1:=U9 (x:=v5 a) T n1 n2 n3 (by omega);rw[he]at T1;rw[<- ht];exact⟨T1.mask,T1.dum,T1.ris,T1.size,T1.room,T1.top,T1.way⟩
end
section
variable{prog:xf}{w:World}{A:v7}{E:Value->ye->Prop}{s:ye}
def Fv(prog:xf)(w:World)(Z:Addr->List Str->Prop)(h:Heap)(e:Int×Value)(L:List Str):Prop:=∃a,e.2=.ref a/\jO (Nt prog w) h L a/\e.1=tupleKeyHash (Nt prog w) L/\Z a L
inductive jr(prog:xf)(w:World)(Z:Addr->List Str->Prop)(h:Heap):List (Int×Value)->List (List Str)->Prop
 |nil:jr prog w Z h [] []
 |cons {e:Int×Value}{L:List Str}{es:List (Int×Value)}{Ls:List (List Str)}:Fv prog w Z h e L->jr prog w Z h es Ls->jr prog w Z h (e::es) (L::Ls)
end
section
variable{w:World}{prog:xf}{A:v7}
variable{R:rY->ye->Prop}{I:Addr}{fp wr:List Addr}{G:Array vM->Array vM->Prop}{n:Nat}{P:Nat->Value->Prop}{St:Nat->ye->Prop}
theorem Vq{Ms:List (List Str)}{L:List Str}:(∃i,i<Ms.length/\Ms.getD i []=L)↔L∈Ms:=by
 constructor
 ·rintro⟨i,hi,e⟩;rw[y8,y4 hi]at e;rw[<- e];exact ua hi
 ·intro h;obtain⟨i,hi,e⟩:=vd h;exact⟨i,hi,by rw[y8,y4 hi];exact e⟩
end
end L2
set_option Elab.async false
set_option linter.all false
set_option maxRecDepth 100000
set_option maxHeartbeats 4000000
namespace L2
open PySem PySem.Spec PyProof.Rows PySem.W
def eM(L:List Str):List (List Nat):=L.map λx=>x.cps.toList
theorem Vr{x y:Str}(h:x.cps.toList=y.cps.toList):x=y:=by
 cases x;cases y;congr;exact ybv.mp h
theorem Vs:∀{xs ys:List Str},eM xs=eM ys->xs=ys
 |[],[],_=>rfl
 |[],_::_,h=>by cases h
 |_::_,[],h=>by cases h
 |x::xs,y::ys,h=>by
  obtain⟨h1,h2⟩:=ydu h;rw[Vr h1,Vs h2]
inductive jQ:List Value->List Str->Prop
 |nil:jQ [] []
 |cons (n:Str) (t:Tok) {vs:List Value}{ns:List Str}:jQ vs ns->jQ (.str n t::vs) (n::ns)
section
variable{prog:xf}{w:World}{A:v7}{E:Value->ye->Prop}{s:ye}
theorem jnv{b:Bool}{x y:Str}{t u:Tok}{Q:Bool->ye->Prop}(h:Q (decide (x.cps.toList<y.cps.toList)) s):wpAny (model prog w) A (oneLt' b (.str x t) (.str y u)) Q E s:=by
 cases b with
 |true=>exact oneLt_str h
 |false=>exact kat_one _ _ (lt_str h)
end
inductive jt(prog:xf)(w:World)(Z:Addr->List Str->Prop)(h:Heap):List Value->List (List Str)->Prop
 |nil:jt prog w Z h [] []
 |cons {a:Addr}{L:List Str}{vs:List Value}{Ls:List (List Str)}:jO (Nt prog w) h L a->Z a L->jt prog w Z h vs Ls->jt prog w Z h (.ref a::vs) (L::Ls)
inductive aq(H:Hp):List V->List (List Str)->Prop
 |nil:aq H [] []
 |cons {a:Addr}{L:List Str}{vs:List V}{Ls:List (List Str)}:H a=some (.tup (L.map V.str))->aq H vs Ls->aq H (.ref a::vs) (L::Ls)
theorem aq.length{H:Hp}{vs:List V}{Ls:List (List Str)}(r:aq H vs Ls):vs.length=Ls.length:=by
 induction r with
 |nil=>rfl
 |cons _ _ ih=>simp[ih]
theorem aq.mono{H H':Hp}(e:al H H'){vs:List V}{Ls:List (List Str)}(r:aq H vs Ls):aq H' vs Ls:=by
 induction r with
 |nil=>exact .nil
 |cons x _ ih=>exact .cons (e _ _ x) ih
theorem aq.get{H:Hp}{vs:List V}{Ls:List (List Str)}(r:aq H vs Ls):∀(i:Nat) (v:V),vs[i]?=some v->∃a,v=.ref a/\H a=some (.tup ((Ls.getD i []).map V.str)):=by
 induction r with
 |nil=>intro i v h;simp at h
 |cons x _ ih=>
  intro i v h;cases i with
  |zero=>simp at h;subst h;exact⟨_,rfl,by simpa using x⟩
  |succ i=>simpa using ih i v (by simpa using h)
theorem jk9{ns:List Str}:∀{us:List Value},am (ns.map V.str) us->jQ us ns:=by
 induction ns with
 |nil=>intro us r;rw[Bl]at r;cases r;exact .nil
 |cons n ns ih=>
  intro us r;rw[xu]at r;cases r with
  |cons r1 r2=>
   obtain⟨t,rfl⟩:=r1;exact .cons n t (ih r2)
theorem Inv.drew{X:Cx}{ac:List (Addr×Obj)}{σ:List (Option V)}{H:Hp}{s:ye}(I:Inv X ac σ H s)(d:Drawn):Inv X ac σ H {s with drawn:=d}:=⟨I.ok,I.os,I.bare,I.base,I.loc,I.cell,I.free,I.freeC,I.pin,I.hok,I.len⟩
section
open PySem.SeqAt
open PySem.AutoSeq1 (wpAny_loadPart')
open PySem.MeetsSeq PySem.MeetsSeq2 PySem.MeetsSeq3
end
end L2
set_option Elab.async false
set_option linter.all false
set_option maxRecDepth 100000
set_option maxHeartbeats 4000000
namespace L2
open PySem PySem.Spec PyProof.Rows PySem.W
def Vt(p q:List Str×Int):Prop:=eM p.1<eM q.1\/(p.1=q.1/\p.2<q.2)
instance (p q:List Str×Int):Decidable (Vt p q):=by unfold Vt;infer_instance
theorem jka(a b:List Str):eM a<eM b\/a=b\/eM b<eM a:=by
 by_cases h:eM a<eM b
 ·exact .inl h
 ·by_cases h2:eM b<eM a
  ·exact .inr (.inr h2)
  ·exact .inr (.inl (Vs (Ji (jP.mp h2) (jP.mp h))))
inductive fC(prog:xf)(w:World)(h:Heap):List Value->List (List Str×Int)->Prop
 |nil:fC prog w h [] []
 |cons {c a:Addr}{L:List Str}{x:Int}{t:Tok}{vs:List Value}{Ks:List (List Str×Int)}:IsTup h c #[.ref a,.int x t]->jO (Nt prog w) h L a->fC prog w h vs Ks->fC prog w h (.ref c::vs) ((L,x)::Ks)
inductive gR(H:Hp):List V->List (List Str×Int)->Prop
 |nil:gR H [] []
 |cons {c a:Addr}{L:List Str}{x:Int}{vs:List V}{Ks:List (List Str×Int)}:H c=some (.tup [.ref a,.int x])->H a=some (.tup (L.map V.str))->gR H vs Ks->gR H (.ref c::vs) ((L,x)::Ks)
section
open PySem.SeqAt
open PySem.AutoSeq1 (wpAny_loadPart')
open PySem.MeetsSeq PySem.MeetsSeq2 PySem.MeetsSeq3
end
section
variable{prog:xf}{w:World}{A:v7}{E:Value->ye->Prop}{s:ye}{d it:Addr}{o:Obj}{es:Array Lx}{i ep:Nat}
theorem Nu(ho:s.heap.get? d=some o)(hc:o.ExactDict):s.TypeIs (.ref d) "dict":=⟨o,ho,hc.1⟩
theorem Nv{Q:Value->ye->Prop}(hd:(d==sysModules)=false)(ho:s.heap.get? d=some o)(hc:o.ExactDict)(eV:o.data=.dict es ep)
  (hQ:∀h',h'.IsKeyIter s.heap.objs.size d 0 es.size ep->(∀b u,s.heap.get? b=some u->h'.get? b=some u)->Q (.ref s.heap.objs.size) {s with heap:=h'}):wpAny (model prog w) A (pyIter (.ref d)) Q E s:=by
 have hT:=Nu ho hc;refine Fb hT y8k (gj y8k hT PySem.F.entry_dict_iter ?_ (PySem.F.args_dict_iter_1 _));skip;unfold Builtin.«dict.__iter__»;refine y0 ?_;skip;unfold ycn;refine y0 (wpAny_notOrdered_dict hT ?_);show wpAny _ _ (pure (v5 d)) _ _ s;refine yc ?_;show wpAny _ _ (y8r d >>= _) _ _ s;unfold y8r;rw[if_neg (by rw[hd];decide)];refine y0 (yc (y0 (Nw ho eV (y0 (Vu ho eV ?_)))));refine y0 (vp (yc ⟨_,rfl,"dict_keyiterator",_,⟨_,yi _ rfl,rfl⟩,uh.lookup,?_⟩));exact hQ _ ⟨_,yi _ rfl,rfl,rfl⟩ λb u e=>yb _ e
theorem Nx{Q:Option Value->ye->Prop}(eB:s.heap.IsKeyIter it d i es.size ep)(ho:s.heap.get? d=some o)(hc:o.ExactDict)(eV:o.data=.dict es ep)(bF:i<es.size)
  (hQ:∀h',h'.IsKeyIter it d (i+1) es.size ep->i3 it s.heap h'->Q (some es[i].key) {s with heap:=h'}):wpAny (model prog w) A (pyNext (.ref it)) Q E s:=by
 obtain⟨oi,tU,Vw,qQ⟩:=id eB;unfold pyNext;refine y0 (yE (vf (name:=u5 "__next__") eB.typeIs uh (gj uh eB.typeIs y49 ?_ (y3x _))));refine y0 (yc (y0 (y0 ?_)))
 first|refine y0 (Ny eB.typeIs (yc (y0 (zz tU qQ ?_))))|refine y0 (Nz eB.typeIs (yc (y0 (zz tU qQ ?_))))
 simp only[show y6b "dict_keyiterator"=false by decide,vt,if_false];show wpAny _ _ (if (v5 d==uy)=true then _ else _) _ _ s;rw[if_neg (show ¬ ((v5 d==uy)=true) by exact xj)];refine y0 (yc (y0 (Nw ho eV ?_)));rw[if_neg (by simp)];refine y0 (yc (y0 (Vu ho eV ?_)));rw[if_neg (by simp)];refine yc ?_;simp only[show ¬ ((i:Int)<0) by omega,if_false,yx,yh bF];refine y0 ?_
 first|refine y0 (Ny eB.typeIs (yc (y0 (Vx eB.typeIs ?_))))|refine y0 (Nz eB.typeIs (yc (y0 (Vx eB.typeIs ?_))))
 show wpAny _ _ (setField (.ref it) 1 (rawInt ((i:Int)+1)) >>= _) _ _ s;refine y0 (L9 tU qQ (by simp) ?_);have eU:(s.heap.update it (ydx (·.setIfInBounds 1 (rawInt ((i:Int)+1))))).IsKeyIter it d (i+1) es.size ep:=
  ⟨_,vy _ tU (y92 (Ma qQ _)),(yb4 ..).trans Vw,(Ma qQ _).trans (by simp[rawInt])⟩
 refine y0 (gu (y0 (Vx (s:={s with heap:=s.heap.update it (ydx (·.setIfInBounds 1 (rawInt ((i:Int)+1))))}) eU.typeIs ?_)));skip;show wpAny _ _ (pure es[i].key) _ _ _;exact yc (yc ⟨_,rfl,yc (hQ _ eU (ul ..))⟩)
theorem NA{Q:Option Value->ye->Prop}(hh:A.handled=none)(eB:s.heap.IsKeyIter it d i es.size ep)(ho:s.heap.get? d=some o)(hc:o.ExactDict)(eV:o.data=.dict es ep)(oZ:es.size<=i)
  (hQ:∀h2,Io it s.heap h2->Q none {s with heap:=h2}):wpAny (model prog w) A (pyNext (.ref it)) Q E s:=by
 obtain⟨oi,tU,Vw,qQ⟩:=id eB;unfold pyNext;refine y0 (yE (vf (name:=u5 "__next__") eB.typeIs uh (gj uh eB.typeIs y49 ?_ (y3x _))));refine y0 (yc (y0 (y0 ?_)))
 first|refine y0 (Ny eB.typeIs (yc (y0 (zz tU qQ ?_))))|refine y0 (Nz eB.typeIs (yc (y0 (zz tU qQ ?_))))
 simp only[show y6b "dict_keyiterator"=false by decide,vt,if_false];show wpAny _ _ (if (v5 d==uy)=true then _ else _) _ _ s;rw[if_neg (show ¬ ((v5 d==uy)=true) by exact xj)];refine y0 (yc (y0 (Nw ho eV ?_)));rw[if_neg (by simp)];refine y0 (yc (y0 (Vu ho eV ?_)));rw[if_neg (by simp)];refine yc ?_;simp only[show ¬ ((i:Int)<0) by omega,if_false,yx,ES oZ];refine y0 ?_
 first|fail|refine y0 (Ny eB.typeIs (yc ?_))|refine y0 (Nz eB.typeIs (yc ?_))
 show wpAny _ _ (setField (.ref it) 0 .none >>= _) _ _ s;refine y0 (L9 tU qQ (by simp) ?_);show wpAny _ _ (newExc (.type "StopIteration") [] >>= _) _ _ _;refine y0 ?_;simp only[newExc,newTuple];refine y0 (vp (y0 (m:=firstArgMember _ _) (ji (a:=uy) (by first|rfl|(simp only[firstArgMember];rfl)) ?_)) (by size_fits));skip;refine vp ?_ (by size_fits);simp only[raiseNew];refine y0 (Mb ?_);rw[show A.in1.handled=none from hh];refine y0 (yc (Mc ?_));refine y0 (BF (T:="StopIteration") (b:=true) ⟨_,yi _ rfl,rfl⟩ Mi (yc (hQ _ (((ul ..).extBut.push _).push _))))
theorem NB{Q:Value->ye->Prop}{n:Nat}(eB:s.heap.IsKeyIter it d i n ep)(h:Q (.ref it) s):wpAny (model prog w) A (pyIter (.ref it)) Q E s:=by
 refine Fb eB.typeIs y4h (gj y4h eB.typeIs PySem.F.entry_dict_keyiterator_iter ?_ (PySem.F.args_dict_keyiterator_iter_1 _));exact yc ⟨_,rfl,"dict_keyiterator",_,eB.typeIs,uh.lookup,h⟩
end
theorem Fw{P:xf}{w:World}:∀{k:Key}{u:Value},(cJ P w).is k u=true->RelV (kV k) u
 | .inl i,u,h=>by
  obtain⟨t,rfl⟩:=ydy (show yfd _ u=true from h);exact⟨t,rfl⟩
 | .inr x,u,h=>by
  obtain⟨t,rfl⟩:=yd1 (show yeo _ u=true from h);exact⟨t,rfl⟩
def iD(a:Addr)(o:Obj):It:=
 ⟨λi H=>∃af,H a=some (.frz o (.dK af))/\i<af.length,λi H x H'=>H'=H/\∀af,H a=some (.frz o (.dK af))->∃kv,af[i]?=some kv/\x=kV kv.1,λi H=>∃af,H a=some (.frz o (.dK af))/\af.length<=i⟩
def iE(a:Addr)(o:Obj):It:=
 ⟨λi H=>∃af,H a=some (.frz o (.dT af))/\i<af.length,λi H x H'=>H'=H/\∀af,H a=some (.frz o (.dT af))->∃kv b,af[i]?=some kv/\x=.ref b/\H b=some (.tup (kv.1.map kV)),λi H=>∃af,H a=some (.frz o (.dT af))/\af.length<=i⟩
variable{P:xf}{w:World}{H:Hp}{o:Obj}{af:List (Key×V)}
theorem qR{h:Heap}{a:Addr}(ok:cK P w H h)(e:H a=some (.frz o (.dK af))):h.get? a=some o/\o.ExactDict/\(a==sysModules)=false/\∃es ep,o.data=.dict es ep/\es.size=af.length/\∀(i:Nat) (hi:i<es.size),∃kv,af[i]?=some kv/\RelV (kV kv.1) es[i].key:=by
 obtain⟨h1,z,y,vs,cI,o',es,ep,g,c,dt,ks,ps,nd⟩:=(show ObjOk P w H h a (.frz o (.dK af))from ok a _ e)
 rw[h1]at g;cases g;have l1:es.size=vs.length:=by rw[<- ps.length];simp
 have l2:=cI.length;refine⟨h1,c,y,es,ep,dt,by omega,λi hi=>?_⟩;have hk:i<af.length:=by omega
 have hv:i<vs.length:=by omega
 obtain⟨q1,_⟩:=ps.get? (i:=i) (e:=es[i]) (by simp[hi]) (show vs[i]?=some (vs[i].1,vs[i].2) by rw[y4 hv]);refine⟨af[i],y4 hk,?_⟩;have ek:(af.map (·.1))[i]?=(vs.map (·.1))[i]?:=by rw[cI.keys]
 rw[xh,xh,y4 hk,y4 hv]at ek;injection ek with ek;have ek':af[i].1=vs[i].1:=ek;rw[ek'];exact Fw q1
theorem Paired.at{α β:Type}{F:α->β->Prop}{l₁:List α}{l₂:List β}(r:Paired F l₁ l₂):∀(i:Nat) (a:α) (b:β),l₁[i]?=some a->l₂[i]?=some b->F a b:=by
 induction r with
 |nil=>intro i a b h;simp at h
 |cons x _ ih=>
  intro i a b h1 h2;cases i with
  |zero=>simp at h1 h2;subst h1 h2;exact x
  |succ i=>exact ih i a b (by simpa using h1) (by simpa using h2)
theorem qS{h:Heap}{a:Addr}{af:List (List Key×V)}(ok:cK P w H h)(e:H a=some (.frz o (.dT af))):h.get? a=some o/\o.ExactDict/\(a==sysModules)=false/\∃es ep,o.data=.dict es ep/\es.size=af.length/\∀(i:Nat) (hi:i<es.size),∃kv b,af[i]?=some kv/\es[i].key=.ref b/\H b=some (.tup (kv.1.map kV)):=by
 obtain⟨h1,z,y,xs,cI,o',es,ep,g,c,dt,en,nd⟩:=(show ObjOk P w H h a (.frz o (.dT af))from ok a _ e)
 rw[h1]at g;cases g;have l1:es.size=xs.length:=ycl en;have l2:af.length=xs.length:=CJ cI;refine⟨h1,c,y,es,ep,dt,by omega,λi hi=>?_⟩;have hk:i<af.length:=by omega
 have hv:i<xs.length:=by omega
 have q:=Paired.at cI i af[i] xs[i] (y4 hk) (y4 hv);have Jq:=entry_at en i;rw[yh hi,y4 hv]at Jq;injection Jq with Jq;exact⟨af[i],xs[i].2.1,y4 hk,by rw[Jq];rfl,q.2.1⟩
variable{K:yd}{tg:Expr}{es:Array Lx}{ep:Nat}
theorem jdr(a it:Addr)(o:Obj)(hd:o.data=.dict es ep):gG P w K tg (iD a o) [it] it (λi h=>h.IsKeyIter it a i es.size ep) where
 mem:=y9.mpr rfl
 obj:=λi h st b hb=>by
  cases y9.mp hb;obtain⟨u,e,_,d⟩:=st;exact⟨u,e,λv z=>by rw[d]at z;cases z⟩
 keep:=λi h h' st k=>let ⟨u,e,r⟩:=st;⟨u,k it (y9.mpr rfl) u e,r⟩
 item:=by
  intro X hP hw hK hc i ac s σ H E I hf st hg;subst hP hw hK;obtain⟨af,hq,hx⟩:=hg;obtain⟨g1,g2,g3,eO,fi,g4,g5,g6⟩:=qR I.hok hq;rw[hd]at g4;cases g4;obtain⟨f0,f1,f2,f3,f4,f5⟩:=hf it (y9.mpr rfl);obtain⟨kv,k1,k2⟩:=g6 i (by omega);refine Nx st g1 g2 hd (by omega) λh' dX sb=>?_;have I1:Inv X ac σ H {s with heap:=h'}:=I.turned (t':=s.toks) (λb u hb e=>(sb.2 b hb).trans e) f0 f1 f3 f4 f5;obtain⟨u,e,c,d⟩:=id dX;exact⟨_,rfl,Bb (s:={s with heap:=h'}) e c d (by decide) ⟨kV kv.1,H,I1,k2,⟨rfl,λNC eW=>⟨kv,by rw[hq]at eW;cases eW;exact k1,rfl⟩⟩,dX,λb hb=>(hf b hb).1⟩⟩
 done:=by
  intro X hP hw hK hc i ac s σ H E I hf st hg;subst hP hw hK;obtain⟨af,hq,hx⟩:=hg;obtain⟨g1,g2,g3,eO,fi,g4,g5,g6⟩:=qR I.hok hq;rw[hd]at g4;cases g4;obtain⟨f0,f1,f2,f3,f4,f5⟩:=hf it (y9.mpr rfl);exact NA (I.ok.hd hc) st g1 g2 hd (by omega) λh' eb=>⟨rfl,I.turned (t':=s.toks) (λb u hb e=>eb b u hb e) f0 f1 f3 f4 f5⟩
 self:=λ_ _ _ _ _ st h=>NB st h
theorem jds(a it:Addr)(o:Obj)(hd:o.data=.dict es ep):gG P w K tg (iE a o) [it] it (λi h=>h.IsKeyIter it a i es.size ep) where
 mem:=y9.mpr rfl
 obj:=λi h st b hb=>by
  cases y9.mp hb;obtain⟨u,e,_,d⟩:=st;exact⟨u,e,λv z=>by rw[d]at z;cases z⟩
 keep:=λi h h' st k=>let ⟨u,e,r⟩:=st;⟨u,k it (y9.mpr rfl) u e,r⟩
 item:=by
  intro X hP hw hK hc i ac s σ H E I hf st hg;subst hP hw hK;obtain⟨af,hq,hx⟩:=hg;obtain⟨g1,g2,g3,eO,fi,g4,g5,g6⟩:=qS I.hok hq;rw[hd]at g4;cases g4;obtain⟨f0,f1,f2,f3,f4,f5⟩:=hf it (y9.mpr rfl);obtain⟨kv,b0,k1,k2,k3⟩:=g6 i (by omega);refine Nx st g1 g2 hd (by omega) λh' dX sb=>?_;have I1:Inv X ac σ H {s with heap:=h'}:=I.turned (t':=s.toks) (λb u hb e=>(sb.2 b hb).trans e) f0 f1 f3 f4 f5;obtain⟨u,e,c,d⟩:=id dX;refine⟨_,rfl,Bb (s:={s with heap:=h'}) e c d (by decide) ⟨.ref b0,H,I1,k2,⟨rfl,λNC eW=>⟨kv,b0,by rw[hq]at eW;cases eW;exact k1,rfl,k3⟩⟩,dX,λb hb=>(hf b hb).1⟩⟩
 done:=by
  intro X hP hw hK hc i ac s σ H E I hf st hg;subst hP hw hK;obtain⟨af,hq,hx⟩:=hg;obtain⟨g1,g2,g3,eO,fi,g4,g5,g6⟩:=qS I.hok hq;rw[hd]at g4;cases g4;obtain⟨f0,f1,f2,f3,f4,f5⟩:=hf it (y9.mpr rfl);exact NA (I.ok.hd hc) st g1 g2 hd (by omega) λh' eb=>⟨rfl,I.turned (t':=s.toks) (λb u hb e=>eb b u hb e) f0 f1 f3 f4 f5⟩
 self:=λ_ _ _ _ _ st h=>NB st h
variable{tl:TE}
section
variable{X:Cx}{tg:Expr}
def ND(tl:TE):TI:=λσ H R=>tl σ H λx H1=>∃a o af,x=.ref a/\H1 a=some (.frz o (.dK af))/\R (iD a o) H1
def NE(tl:TE):TI:=λσ H R=>tl σ H λx H1=>∃a o af,x=.ref a/\H1 a=some (.frz o (.dT af))/\R (iE a o) H1
theorem tV{l:Expr}(hl:PE X l tl):PI X tg l (ND tl):=by
 intro ac s σ H R I h;refine aN (hl ac s σ H _ I h) λv s1 ⟨x,H1,I1,r1,q1⟩=>?_;obtain⟨a,o,af,e,hq,q⟩:=q1;subst e;cases r1;obtain⟨g1,g2,g3,es,ep,g4,g5,g6⟩:=qR I1.hok hq;refine Nv g3 g1 g2 g4 λh' st k=>?_;refine⟨s1.heap.objs.size,[s1.heap.objs.size],_,_,H1,rfl,I1.kept (t':=s1.toks) k,jdr a _ o g4,st,λb hb=>?_,q⟩;cases y9.mp hb;exact I1.fpOk (yg _) (I1.hok.fresh (yg _))
theorem tW{l:Expr}(hl:PE X l tl):PI X tg l (NE tl):=by
 intro ac s σ H R I h;refine aN (hl ac s σ H _ I h) λv s1 ⟨x,H1,I1,r1,q1⟩=>?_;obtain⟨a,o,af,e,hq,q⟩:=q1;subst e;cases r1;obtain⟨g1,g2,g3,es,ep,g4,g5,g6⟩:=qS I1.hok hq;refine Nv g3 g1 g2 g4 λh' st k=>?_;refine⟨s1.heap.objs.size,[s1.heap.objs.size],_,_,H1,rfl,I1.kept (t':=s1.toks) k,jds a _ o g4,st,λb hb=>?_,q⟩;cases y9.mp hb;exact I1.fpOk (yg _) (I1.hok.fresh (yg _))
end
variable{R:It->Hp->Prop}
section
variable{a:Addr}{o:Obj}{g:TG}{tb:TS}{D:Ends}{σ:St}{H:Hp}
theorem zD(Pv:Nat->St->Hp->Prop)(h0:Pv 0 σ H)(hl:∀i σ H,i<=af.length->Pv i σ H->H a=some (.frz o (.dK af)))
  (hs:∀i kv σ H,af[i]?=some kv->Pv i σ H->g (kV kv.1) σ H λσ2 H2=>tb {D with nx:=Pv (i+1),ct:=Pv (i+1),bk:=D.nx} σ2 H2) (hd:∀σ H,Pv af.length σ H->D.nx σ H):
  ∃W:Nat->Nat->St->Hp->Prop,(∃m,W 0 m σ H)/\∀i m σ H,W i m σ H->
   ((iD a o).stop i H/\D.nx σ H)\/((iD a o).go i H/\∃N:St->Hp->Prop,(∀σ' H',N σ' H'->∃m',m'<m/\W (i+1) m' σ' H')/\∀x H',(iD a o).yld i H x H'->g x σ H' λσ2 H2=>tb {D with nx:=N,ct:=N,bk:=D.nx} σ2 H2):=by
 refine⟨λi m σ H=>m=af.length-i/\i<=af.length/\Pv i σ H,⟨af.length,by simp,gn _,h0⟩,?_⟩;rintro i m σ H ⟨rfl,hi,p⟩;have q:=hl i σ H hi p;by_cases bF:i<af.length
 ·refine .inr ⟨⟨af,q,bF⟩,Pv (i+1),λσ' H' p'=>⟨af.length-(i+1),by omega,rfl,bF,p'⟩,λx H' y=>?_⟩;obtain⟨e,y⟩:=y;subst e;obtain⟨kv,k1,rfl⟩:=y af q;exact hs i kv σ _ k1 p
 ·have e:i=af.length:=by omega
  subst e;exact .inl ⟨⟨af,q,yg _⟩,hd σ H p⟩
theorem zE{af:List (List Key×V)}(Pv:Nat->St->Hp->Prop)(h0:Pv 0 σ H)(hl:∀i σ H,i<=af.length->Pv i σ H->H a=some (.frz o (.dT af)))
  (hs:∀i kv b σ H,af[i]?=some kv->H b=some (.tup (kv.1.map kV))->Pv i σ H->g (.ref b) σ H λσ2 H2=>tb {D with nx:=Pv (i+1),ct:=Pv (i+1),bk:=D.nx} σ2 H2) (hd:∀σ H,Pv af.length σ H->D.nx σ H):
  ∃W:Nat->Nat->St->Hp->Prop,(∃m,W 0 m σ H)/\∀i m σ H,W i m σ H->
   ((iE a o).stop i H/\D.nx σ H)\/((iE a o).go i H/\∃N:St->Hp->Prop,(∀σ' H',N σ' H'->∃m',m'<m/\W (i+1) m' σ' H')/\∀x H',(iE a o).yld i H x H'->g x σ H' λσ2 H2=>tb {D with nx:=N,ct:=N,bk:=D.nx} σ2 H2):=by
 refine⟨λi m σ H=>m=af.length-i/\i<=af.length/\Pv i σ H,⟨af.length,by simp,gn _,h0⟩,?_⟩;rintro i m σ H ⟨rfl,hi,p⟩;have q:=hl i σ H hi p;by_cases bF:i<af.length
 ·refine .inr ⟨⟨af,q,bF⟩,Pv (i+1),λσ' H' p'=>⟨af.length-(i+1),by omega,rfl,bF,p'⟩,λx H' y=>?_⟩;obtain⟨e,y⟩:=y;subst e;obtain⟨kv,b,k1,rfl,k2⟩:=y af q;exact hs i kv b σ _ k1 k2 p
 ·have e:i=af.length:=by omega
  subst e;exact .inl ⟨⟨af,q,yg _⟩,hd σ H p⟩
theorem Fx(q:tl σ H λx H1=>∃a o af,x=.ref a/\H1 a=some (.frz o (.dK af))/\R (iD a o) H1):ND tl σ H R:=q
theorem Fy(q:tl σ H λx H1=>∃a o af,x=.ref a/\H1 a=some (.frz o (.dT af))/\R (iE a o) H1):NE tl σ H R:=q
end
section
variable{K:yd}{ts:List TT}{te:TE}{acc:Addr}{fr:St}{H1:Hp}{R:Hp->Prop}{a:Addr}{o:Obj}
theorem jnx{u:Option V}(hx:H1 a=some (.frz o (.dK af)))(hz:af.length<=1000000)(hn:H1 acc=none)(Pv:Nat->List V->Hp->Prop)(h0:Pv 0 [] H1)(kp:∀i ys H H',Kp H H'->Pv i ys H->Pv i ys H')(len:∀i ys H,i<=af.length->Pv i ys H->ys.length<=i)
  (turn:∀i kv ys H,af[i]?=some kv->al H1 H->Pv i ys H->qK ts te (Pv (i+1)) ys H (some (kV kv.1)::fr) H)
  (fin:∀ys H,al H1 H->H acc=some (.lst ys)->Pv af.length ys H->R H):jg (iD a o) (iR 0) ts te acc (u::fr) H1 R:=by
 refine yC af.length hz hn (λσ=>∃u,σ=u::fr) Pv ⟨u,rfl⟩ h0 kp (λi H hi e=>⟨af,e _ _ hx,hi⟩) (λH e=>⟨af,e _ _ hx,yg _⟩) len ?_ fin;rintro i σ ys H x H' G hi e ⟨u,rfl⟩ pv ⟨rfl,y⟩ hG;obtain⟨kv,k1,rfl⟩:=y af (e _ _ hx);exact hG _ _ ⟨_,rfl⟩ (turn i kv ys _ k1 e pv)
theorem jny{af:List (List Key×V)}{u:Option V}(hx:H1 a=some (.frz o (.dT af)))(hz:af.length<=1000000)(hn:H1 acc=none)(Pv:Nat->List V->Hp->Prop)(h0:Pv 0 [] H1)(kp:∀i ys H H',Kp H H'->Pv i ys H->Pv i ys H')(len:∀i ys H,i<=af.length->Pv i ys H->ys.length<=i)
  (turn:∀i kv b ys H,af[i]?=some kv->H b=some (.tup (kv.1.map kV))->al H1 H->Pv i ys H->qK ts te (Pv (i+1)) ys H (some (.ref b)::fr) H)
  (fin:∀ys H,al H1 H->H acc=some (.lst ys)->Pv af.length ys H->R H):jg (iE a o) (iR 0) ts te acc (u::fr) H1 R:=by
 refine yC af.length hz hn (λσ=>∃u,σ=u::fr) Pv ⟨u,rfl⟩ h0 kp (λi H hi e=>⟨af,e _ _ hx,hi⟩) (λH e=>⟨af,e _ _ hx,yg _⟩) len ?_ fin;rintro i σ ys H x H' G hi e ⟨u,rfl⟩ pv ⟨rfl,y⟩ hG;obtain⟨kv,b,k1,rfl,k2⟩:=y af (e _ _ hx);exact hG _ _ ⟨_,rfl⟩ (turn i kv b ys _ k1 k2 e pv)
end
inductive kB:HO->Prop
 |k (af:List (Key×V)):kB (.dK af)
 |t (af:List (List Key×V)):kB (.dT af)
theorem kB.obj{P:xf}{w:World}{H:Hp}{h:Heap}{a:Addr}{u:HO}(d:kB u)(ok:ObjOk P w H h a u):∃o,h.get? a=some o:=by
 cases d with
 |k af=>obtain⟨_,_,_,_,o,_,_,g,_⟩:=ok;exact⟨o,g⟩
 |t af=>obtain⟨_,_,_,_,o,_,_,g,_⟩:=ok;exact⟨o,g⟩
theorem Inv.frz{X:Cx}{ac:List (Addr×Obj)}{σ:St}{H:Hp}{s:ye}{a:Addr}{u:HO}{o:Obj}(I:Inv X ac σ H s)(e:H a=some u)(d:kB u)(ho:s.heap.get? a=some o):Inv X ac σ (aH H a (.frz o u)) s:=by
 have ne:∀b v,H b=some v->v≠u->b≠a:=λb v h n z=>by rw[z,e]at h;cases h;exact n rfl
 have keep:∀b v,H b=some v->v≠u->aH H a (.frz o u) b=some v:=λb v h n=>by rw[bf (ne b v h n)];exact h
 refine I.un (h':=s.heap) (t':=s.toks) ⟨λb o e n _ _=>e,λb o e n _ _=>⟨o.slots,e⟩,λb o _ n _=>?_,λb o e _=>⟨o,e⟩,λb xs h=>keep b _ h (by intro z;rw[<- z]at d;cases d),λb ob v h=>keep b _ h (by intro z;rw[<- z]at d;cases d),λb qs h=>⟨#[],by rw[keep b _ h (by intro z;rw[<- z]at d;cases d)];simp⟩⟩ λb v h=>?_
 ·rw[bf (λz=>by rw[z,e]at n;cases n)];exact n
 ·have st:∀{v:HO},ObjOk X.prog X.w H s.heap b v->ObjOk X.prog X.w (aH H a (.frz o u)) s.heap b v:=λx=>x.stay (λ_ _ _ q=>q) (λc q=>keep c _ q (by intro z;rw[<- z]at d;cases d)) λc xs q=>keep c _ q (by intro z;rw[<- z]at d;cases d);by_cases hb:b=a
  ·subst hb;rw[bi]at h;cases h;exact⟨ho,st (I.hok b _ e)⟩
  ·rw[bf hb]at h;exact st (I.hok b _ h)
def nA(x:V)(H:Hp)(Q:VK):Prop:=∃a u,x=.ref a/\H a=some u/\kB u/\∀o,Q x (aH H a (.frz o u))
def Fz(t:TE):TE:=λσ H Q=>t σ H λx H1=>nA x H1 Q
section
variable{X:Cx}{e:Expr}{t:TE}
theorem Vy(he:PE X e t):PE X e (Fz t):=by
 intro ac s σ H Q I h;refine aN (he ac s σ H _ I h) λv s1 ⟨x,H1,I1,r1,a,u,ex,hu,d,q⟩=>?_;subst ex;obtain⟨o,ho⟩:=d.obj (I1.hok a _ hu);exact⟨.ref a,_,I1.frz hu d ho,r1,q o⟩
end
section
variable{K:yd}{σ:St}{H:Hp}{Q:VK}{td ty tv t:TE}{p b:Addr}
theorem tX(q:t σ H λx H1=>nA x H1 Q):Fz t σ H Q:=q
theorem zF(h:H p=some (.dK af))(q:∀o H',H' p=some (.frz o (.dK af))->bQ p H H'->Q (.ref p) H'):nA (.ref p) H Q:=⟨p,_,rfl,h,.k _,λo=>q o _ bi mE⟩
theorem zG{af:List (List Key×V)}(h:H p=some (.dT af))(q:∀o H',H' p=some (.frz o (.dT af))->bQ p H H'->Q (.ref p) H'):nA (.ref p) H Q:=⟨p,_,rfl,h,.t _,λo=>q o _ bi mE⟩
def tY:R2:=λx y H Q=>∃a o,y=.ref a/\jb H a x o/\Q (.bl (!o.isSome)) H
def NF:List V->Hp->VK->Prop:=λxs H Q=>∃a af,xs=[V.ref a]/\H a=some (.dK af)/\Q (.int af.length) H
theorem zH(h:H p=some (.dK af))(q:Q (.int af.length) H):NF [.ref p] H Q:=⟨p,af,rfl,h,q⟩
def Vz(p:Addr)(x v:V)(H:Hp)(Q:VK):Prop:=H p=some (.dK [])/\∃af:List (Key×V),[(x,v)]=af.map (λkv=>(kV kv.1,kv.2))/\af.length<=15/\Q (.ref p) (aH H p (.dK (Bq [] af)))
theorem jo1{tk tv:TE}(q:∀p H',H p=none->H' p=some (.dK [])->al H H'->tk σ H' λx H2=>tv σ H2 λv H3=>Vz p x v H3 Q):Lu [(tk,tv)] σ H Q:=λp n=>q p _ n bi (dG n)
end
section
variable{X:Cx}
theorem jo2{k:Nat}(hr:aI k X.A):bR X (compareOp .NotIn) tY:=by
 skip;intro ac s σ H x y v u Q I rx ry h;obtain⟨a,o,rfl,g,q⟩:=h;cases ry;exact jmb (by have:=hr.un;omega) I g rx λs' I'=>⟨.bl _,H,I',rfl,q⟩
theorem FA:aG X (.builtin "len") NF:=jfq
end
def BY(a:Addr)(n:Nat):It:=
 ⟨λi H=>i<n/\∃xs,H a=some (.lst xs)/\xs.length=n,λi H x H'=>H'=H/\∀xs,H a=some (.lst xs)->xs[n-1-i]?=some x,λi _=>n<=i⟩
theorem jkc(a it:Addr)(n:Nat):gG P w K tg (BY a n) [it] it (λi h=>i<=n/\h.IsRevIter it a ((n:Int)-1-(i:Int))) where
 mem:=y9.mpr rfl
 obj:=λi h st b hb=>by
  cases y9.mp hb;obtain⟨_,u,e,_,d⟩:=st;exact⟨u,e,λv z=>by rw[d]at z;cases z⟩
 keep:=λi h h' st k=>⟨st.1,let ⟨u,e,r⟩:=st.2;⟨u,k it (y9.mpr rfl) u e,r⟩⟩
 item:=by
  intro X hP hw hK hc i ac s σ H E I hf st hg;subst hP hw hK;obtain⟨hi,xs,hq,hx⟩:=hg;obtain⟨ai,rv,p,hz⟩:=I.list (SqL.of hq);have hl:=rv.length;obtain⟨f0,f1,f2,f3,f4,f5⟩:=hf it (y9.mpr rfl);have hv:xs[n-1-i]?=some (xs[n-1-i]'(by omega)):=y4 (by omega);obtain⟨u,hu,ru⟩:=rv.get hv;have e1:(n:Int)-1-(i:Int)=((n-1-i:Nat):Int):=by omega
  have oE:=st.2;rw[e1]at oE;refine wpAny_pyNext_rev_item oE p.isList (x:=u) (by simpa using hu) λh' dX sb=>?_;have e2:((n-1-i:Nat):Int)-1=(n:Int)-1-((i+1:Nat):Int):=by omega
  rw[e2]at dX;have I1:Inv X ac σ H {s with heap:=h'}:=I.turned (t':=s.toks) (λb o hb e=>(sb.2 b hb).trans e) f0 f1 f3 f4 f5;obtain⟨o,e,c,d⟩:=id dX;exact⟨u,rfl,Bb (s:={s with heap:=h'}) e c d (by decide) ⟨_,H,I1,ru,⟨rfl,λys hy=>by rw[hq]at hy;cases hy;exact hv⟩,⟨hi,dX⟩,λb hb=>(hf b hb).1⟩⟩
 done:=by
  intro X hP hw hK hc i ac s σ H E I hf st hg;subst hP hw hK;have hi:n<=i:=hg;obtain⟨f0,f1,f2,f3,f4,f5⟩:=hf it (y9.mpr rfl);have e1:(n:Int)-1-(i:Int)=-1:=by have:=st.1;omega
  have oE:=st.2;rw[e1]at oE;exact wpAny_pyNext_rev_end (I.ok.hd hc) oE λh' eb=>⟨rfl,I.turned (t':=s.toks) (λb o hb e=>eb b o hb e) f0 f1 f3 f4 f5⟩
 self:=λ_ _ _ _ _ st h=>VA st.2 h
variable{ta:TA}
section
variable{X:Cx}{tg:Expr}
def FC(ta:TA):TI:=λσ H R=>ta σ H λvs H1=>∃a xs,vs=[.ref a]/\H1 a=some (.lst xs)/\R (BY a xs.length) H1
theorem zI{a:Expr}{p pos:Pos}(hg:Gl X "reversed")(hm:X.mg "reversed"=none)(ha:PA X [a] ta)(hs:starEach [a] X.env=[(false,eval a X.env)]:=by rfl):PI X tg (.Call (.Name "reversed" p) [a] [] pos) (FC ta):=by
 intro ac s σ H R I h;refine Call_ (jY I hg hm boot_reversed (u0 (aN (ha pos ac s σ H _ I h) λus s1 ⟨vs,H1,I1,r1,q1⟩=>?_) hs rfl));obtain⟨p1,xs,e,hx,q⟩:=q1;subst e;obtain⟨u,rfl,ru⟩:=fM r1;cases ru;obtain⟨ai,rv,pl,hz⟩:=I1.list (SqL.of hx);have hl:=rv.length;refine yas pl.isList ?_;have st:(s1.heap.push (revObj p1 ((ai.toArray.size:Int)-1))).IsRevIter s1.heap.objs.size p1 ((xs.length:Int)-1-((0:Nat):Int)):=⟨_,yi _ rfl,rfl,by rw[show(xs.length:Int)-1-((0:Nat):Int)=(ai.toArray.size:Int)-1 by simp;omega];rfl⟩
 have I2:Inv X ac σ H1 {s1 with heap:=s1.heap.push (revObj p1 ((ai.toArray.size:Int)-1))}:=I1.kept (t':=s1.toks) λb o e=>yb _ e;refine VA (s:={s1 with heap:=s1.heap.push (revObj p1 ((ai.toArray.size:Int)-1))}) st ⟨s1.heap.objs.size,[s1.heap.objs.size],_,_,H1,rfl,I2,jkc p1 _ xs.length,⟨gn _,st⟩,λb hb=>?_,q⟩;cases y9.mp hb;exact I1.fpOk (yg _) (I1.hok.fresh (yg _))
end
variable{xs:List V}
section
variable{a:Addr}{g:TG}{tb:TS}{D:Ends}{σ:St}{H:Hp}
theorem jo3(Pv:Nat->St->Hp->Prop)(h0:Pv 0 σ H)(hl:∀i σ H,i<=xs.length->Pv i σ H->H a=some (.lst xs))
  (hs:∀i x σ H,i<xs.length->xs[xs.length-1-i]?=some x->Pv i σ H->g x σ H λσ2 H2=>tb {D with nx:=Pv (i+1),ct:=Pv (i+1),bk:=D.nx} σ2 H2) (hd:∀σ H,Pv xs.length σ H->D.nx σ H):
  ∃W:Nat->Nat->St->Hp->Prop,(∃m,W 0 m σ H)/\∀i m σ H,W i m σ H->
   ((BY a xs.length).stop i H/\D.nx σ H)\/((BY a xs.length).go i H/\∃N:St->Hp->Prop,(∀σ' H',N σ' H'->∃m',m'<m/\W (i+1) m' σ' H')/\∀x H',(BY a xs.length).yld i H x H'->g x σ H' λσ2 H2=>tb {D with nx:=N,ct:=N,bk:=D.nx} σ2 H2):=by
 refine⟨λi m σ H=>m=xs.length-i/\i<=xs.length/\Pv i σ H,⟨xs.length,by simp,gn _,h0⟩,?_⟩;rintro i m σ H ⟨rfl,hi,p⟩;have q:=hl i σ H hi p;by_cases bF:i<xs.length
 ·refine .inr ⟨⟨bF,xs,q,rfl⟩,Pv (i+1),λσ' H' p'=>⟨xs.length-(i+1),by omega,rfl,bF,p'⟩,λx H' y=>?_⟩;obtain⟨e,y⟩:=y;subst e;exact hs i x σ _ bF (y xs q) p
 ·have e:i=xs.length:=by omega
  subst e;exact .inl ⟨yg _,hd σ H p⟩
theorem zJ(q:ta σ H λvs H1=>∃a xs,vs=[.ref a]/\H1 a=some (.lst xs)/\R (BY a xs.length) H1):FC ta σ H R:=q
end
theorem jge:typeLookup (.type "list_reverseiterator") "__len__"=pure none:=by rw[MH,MI];kernel_rfl
theorem jkd:typeLookup (.type "list_reverseiterator") "__length_hint__"=pure (some (.builtin "list_reverseiterator.__length_hint__")):=by rw[MH,MI];kernel_rfl
section
variable{prog:xf}{w:World}{A:v7}{E:Value->ye->Prop}{s:ye}
theorem jke{I l S:Addr}{xs:Array Value}{R:rY->ye->Prop}(hh:A.handled=none)(hd:s.heap.IsRevIter I l ((xs.size:Int)-1))(hl:s.heap.IsList l xs)(ne:l≠I)(nI:S≠I)(nl:S≠l)(hz:xs.size<=sizeLine)(hS:s.heap.get? S=some {cls:=.type "list",data:=.seq #[]})
  (hR:∀s' eC c',Moved [S,I] (λa b=>b=a) s s'->s'.heap.get? S=some {cls:=.type "list",dict:=none,data:=.seq eC c',slots:=#[]}->BN (λi v=>xs[xs.size-1-i]?=some v) eC xs.size->R (.ok (.ret .none)) s'):
  wpAny (model prog w) A.in1 (Builtin.«list.__init__» ⟨[.ref S,.ref I],[]⟩) (λfin s'=>match fin with | .done f=>R (.ok f) s' | .again c'=>c'.quiet=true/\codeAny (model prog w) A c' R s') (λe s'=>R (.error e) s') s:=by
 have W:=(Walks.listRev (prog:=prog) (w:=w) (A:=A.in1) hh I l ne xs).toS;have nS:S∉[I,l]:=by
  simp only[xc,oW,or_false,not_or];exact⟨nI,nl⟩
 have same:Ft (.ref S) (.ref I)=false:=by simp[Ft,nI]
 show wpAny _ A.in1 (do let w5 <- y8f (.ref S);yds (.ref S) (λ_=>#[]);letGo w5.toList.reverse;vx (.ref S) (.ref I) .none) _ _ s;refine y0 ?_;unfold y8f;refine y0 (um hS rfl (yc ?_));show wpAny _ A.in1 (updateSeq S (λ_=>#[]) >>= λ_=>letGo (#[]:Array Value).toList.reverse >>= λ_=>vx (.ref S) (.ref I) .none) _ _ s;refine y0 (zp hS rfl ?_);have S2:=vy (gf (λ_=>(#[]:Array Value))) hS rfl;have pi:∀b o,b≠S->s.heap.get? b=some o->(s.heap.update S (gf (λ_=>(#[]:Array Value)))).get? b=some o:=λb o hb e=>(uo _ _ (iN hb)).trans e;refine y0 (sT ?_);have d2:(s.heap.update S (gf (λ_=>(#[]:Array Value)))).IsRevIter I l ((xs.size:Int)-1):=hd.at λo e=>pi I o (iN nI) e;have l2:(s.heap.update S (gf (λ_=>(#[]:Array Value)))).IsList l xs:=hl.at λo e=>pi l o (iN nl) e;have ty:Np {s with heap:=s.heap.update S (gf (λ_=>(#[]:Array Value)))} (.ref I) "list_reverseiterator":=d2.typeIs (s:={s with heap:=s.heap.update S (gf (λ_=>(#[]:Array Value)))});unfold vx;refine y0 (pZ ty ?_);rw[if_neg (by rw[same];decide)];refine y0 (VA (s:={s with heap:=s.heap.update S (gf (λ_=>(#[]:Array Value)))}) d2 (y0 (gu ?_)));unfold Vl;refine y0 (DF ty jge ?_);show wpAny _ A.in1 (specialOf (v5 I) (u5 "__length_hint__") >>= _) _ _ _;refine y0 (DF ty jkd ?_)
 (generalize mY:("list_reverseiterator.__length_hint__":String)=tT;(fail_if_success (clear mY tT));wp_delta;rw[show splitId tT=some ("list_reverseiterator","__length_hint__")from by subst mY;decide +kernel];subst mY)
 refine y0 (BF (b:=true) ty (by rw[BO];kernel_rfl) ?_);refine yc ?_;rw[if_neg (by decide)];refine yc ⟨mR Vm _,Vn W hz _ nS _ xs.size 0 _ _ _ rfl (gn _) ⟨gn _,?_,l2⟩ S2 (Vo _) λs' eC c' hm gB dQ=>hR s' eC c' ⟨λb o hb e=>?_,hm.gens,hm.drawn,hm.os,hm.toks⟩ gB dQ⟩
 ·rw[show(xs.size:Int)-1-((0:Nat):Int)=(xs.size:Int)-1 by omega];exact d2
 ·have nb:b≠S:=λz=>hb (by rw[z];exact yu);exact hm.heap b o hb (pi b o nb e)
theorem j90{I l:Addr}{xs:Array Value}{Q:Value->ye->Prop}(hh:A.handled=none)(hd:s.heap.IsRevIter I l ((xs.size:Int)-1))(hl:s.heap.IsList l xs)(ne:l≠I)(hz:xs.size<=sizeLine)
  (hQ:∀s' eC c',Moved [s.heap.objs.size,I] (λa b=>b=a) {s with heap:=s.heap.push {cls:=.type "list",data:=.seq #[]} } s'->s'.heap.get? s.heap.objs.size=some {cls:=.type "list",dict:=none,data:=.seq eC c',slots:=#[]}->BN (λi v=>xs[xs.size-1-i]?=some v) eC xs.size->Q (.ref s.heap.objs.size) s'):wpAny (model prog w) A (call (.type "list") [.ref I]) Q E s:=by
 have lI:I<s.heap.objs.size:=by obtain⟨o,e,_⟩:=hd;exact yt e
 have ll:l<s.heap.objs.size:=by obtain⟨o,e,_⟩:=hl;exact yt e
 refine callType_codes (Q₁:=λobj s₁=>obj=.ref s.heap.objs.size/\s₁={s with heap:=s.heap.push {cls:=.type "list",data:=.seq #[]} }) F.called_list (F.typeCall_list_1 _) F.entry_list_init (code_list_new _ ⟨rfl,rfl⟩) λobj s₁ h₁=>?_;obtain⟨rfl,rfl⟩:=h₁;skip;have hS:(s.heap.push {cls:=.type "list",data:=.seq #[]}).get? s.heap.objs.size=some {cls:=.type "list",data:=.seq #[]}:=yi _ rfl;refine⟨⟨_,hS,rfl⟩,F.args_list_init_2 _ _,jke (s:={s with heap:=s.heap.push {cls:=.type "list",data:=.seq #[]} }) hh (hd.at λo e=>yb _ e) (hl.at λo e=>yb _ e) ne (jZ lI) (jZ ll) hz hS λs' eC c' hm gB dQ=>?_⟩;skip;exact⟨rfl,hQ s' eC c' hm gB dQ⟩
end
section
variable{X:Cx}
def VB:List V->Hp->VK->Prop:=λxs H Q=>∃p ys,xs=[.ref p]/\H p=some (.lst ys)/\∀l,H l=none->Q (.ref l) (aH H l (.lst ys.reverse))
theorem jdu{a:Expr}{p p' pos aY:Pos}(hc:X.calm=true)(hg:Gl X "list")(hm:X.mg "list"=none)(Fd:Gl X "reversed")(Fe:X.mg "reversed"=none)(ha:PA X [a] ta)(hs:starEach [a] X.env=[(false,eval a X.env)]:=by rfl)
  (ht:starEach [.Call (.Name "reversed" p') [a] [] aY] X.env=[(false,eval (.Call (.Name "reversed" p') [a] [] aY) X.env)]:=by rfl):
  PE X (.Call (.Name "list" p) [.Call (.Name "reversed" p') [a] [] aY] [] pos) (Bj VB ta):=by
 skip;intro ac s σ H Q I h;refine ux (jY I hg hm vj (u0 ?_ ht rfl) (by decide) (by decide));rw[ht];show wpAny _ _ (spliced ((false,eval (.Call (.Name "reversed" p') [a] [] aY) X.env)::backTo pos [])) _ _ s;refine K2 (ux (jY I Fd Fe boot_reversed (u0 (aN (ha aY ac s σ H _ I h) λus s1 ⟨vs,H1,I1,r1,q1⟩=>?_) hs rfl) (by decide) (by decide)));obtain⟨p1,ys,e,hx,q⟩:=q1;subst e;obtain⟨u,rfl,ru⟩:=fM r1;cases ru;obtain⟨ai,ri,pl,hz⟩:=I1.list (SqL.of hx);have hl:=ri.length;have z1:ai.toArray.size<=sizeLine:=by rw[ym];omega
 refine yas pl.isList (HP ?_);have lp:p1<s1.heap.objs.size:=by obtain⟨o,ho,_⟩:=pl.isList;exact yt ho
 refine j90 (s:={s1 with heap:=s1.heap.push (revObj p1 ((ai.toArray.size:Int)-1))}) (I1.ok.hd hc) ⟨_,yi _ rfl,rfl,rfl⟩ (pl.isList.at λo e=>yb _ e) (xn lp) z1 λs' acc c hm hS dQ=>?_;have e:=jjk dQ;have n1:H1 s1.heap.objs.size=none:=I1.hok.fresh (yg _);obtain⟨h',g',d',t',o'⟩:=s';have e1:g'=s1.gens:=hm.gens;have e2:d'=s1.drawn:=hm.drawn;have e3:o'=s1.os:=hm.os;subst e1 e2 e3;have sz:(s1.heap.push (revObj p1 ((ai.toArray.size:Int)-1))).objs.size=s1.heap.objs.size+1:=vq ..;have kk:∀b o,s1.heap.get? b=some o->h'.get? b=some o:=λb o e=>by
  have lb:=yt e;refine hm.heap b o (λz=>?_) (yb _ (yb _ e));rcases xc.mp z with z|z
  ·exact xn (ui lb) (by rw[sz]at z;exact z)
  ·exact xn lb (y9.mp z)
 have gB:h'.get? (s1.heap.objs.size+1)=some {cls:=.type "list",dict:=none,data:=.seq acc c,slots:=#[]}:=by rw[<- sz];exact hS
 have I3:Inv X ac σ (aH H1 (s1.heap.objs.size+1) (.lst ys.reverse)) {s1 with heap:=h',toks:=t'}:=
  I1.laid (t':=t') kk (i6 _) (show ObjOk X.prog X.w _ _ _ (.lst ys.reverse)from⟨by rw[ya5];exact hz,ai.reverse,c,am.reverse ri,by rw[gB,<- e]⟩)
 refine⟨.ref (s1.heap.objs.size+1),_,I3,by rw[sz];rfl,q _ (I1.hok.fresh (i6 _))⟩
end
variable{p:Addr}
section
variable{H:Hp}{Q:VK}
theorem jgf(h:H p=some (.lst xs))(q:∀l H',H l=none->H' l=some (.lst xs.reverse)->al H H'->Q (.ref l) H'):VB [.ref p] H Q:=⟨p,xs,rfl,h,λl n=>q l _ n bi (dG n)⟩
end
theorem zK:isSubtype (.type "dict") (.type "dict")=pure true:=by rw[BO];kernel_rfl
theorem jkf{prog:xf}{w:World}{A:v7}(hh:A.handled=none)(I d:Addr)(nd:d≠I)(hc:o.ExactDict)(hd:o.data=.dict es ep):
  Walks prog w A I [I,d] [I] es.size (λi v=>(es[i]?).map (·.key)=some v) (λi h=>h.IsKeyIter I d i es.size ep/\h.get? d=some o) where
 sub:=λb hb=>by rw[y9.mp hb];simp
 frame:=λ_ _ _ x hk=>⟨let ⟨u,e,r⟩:=x.1;⟨u,hk I (by simp) u e,r⟩,hk d (by simp) _ x.2⟩
 item:=λi s Q E hi x (hQ)=>by
  refine Nx x.1 x.2 hc hd hi λh' dX sb=>?_;refine hQ _ h' s.toks ?_ ⟨dX,(sb.2 d nd).trans x.2⟩ λb u hb eu=>sb.extBut b u (λh=>hb (by simp[h])) eu;rw[yh hi];rfl
 done:=λs Q E x hQ=>NA hh x.1 x.2 hc hd (yg _) λh' zB=>hQ h' s.toks λb u hb eu=>zB b u (λh=>hb (by simp[h])) eu
 self:=λ_ _ _ _ x hQ=>NB x.1 hQ
variable{d:Addr}{ns:List Int}
section
variable{prog:xf}{w:World}{A:v7}{E:Value->ye->Prop}{s:ye}
theorem VC{Q:List Value->ye->Prop}(hh:A.handled=none)(lo:(d==sysModules)=false)(hS:s.heap.get? d=some o)(hc:o.ExactDict)(hd:o.data=.dict es ep)(hz:es.size<=sizeLine)
  (hQ:∀s' acc,Moved [] (λa b=>b=a) s s'->s.heap.objs.size<s'.heap.objs.size->BN (λi v=>(es[i]?).map (·.key)=some v) acc es.size->Q acc.toList s'):wpAny (model prog w) A (collect (.ref d)) Q E s:=by
 have lS:d<s.heap.objs.size:=yt hS;have nd:s.heap.objs.size≠d:=jZ lS;unfold collect;refine y0 (Iw (lA y8t ?_));rw[uq y8u _];show wpAny _ A.in1 (newList [] >>= λx=>again (.builtin "list.__iadd__" ⟨[x,.ref d],[]⟩)) _ _ s;refine y0 (vp (yc ⟨mR No _,lA yax ?_⟩));rw[uq No _];have d1:(s.heap.push {cls:=.type "list",data:=.seq ([]:List Value).toArray}).get? d=some o:=yb _ hS;have S1:(s.heap.push {cls:=.type "list",data:=.seq ([]:List Value).toArray}).get? s.heap.objs.size=some {cls:=.type "list",data:=.seq ([]:List Value).toArray}:=yi _ rfl;have same:Ft (.ref s.heap.objs.size) (.ref d)=false:=by simp[Ft,nd]
 show wpAny _ A.in1 (vx (.ref s.heap.objs.size) (.ref d) (.ref s.heap.objs.size)) _ _ _;unfold vx;refine y0 (pZ (T:="dict") ⟨_,d1,hc.1⟩ ?_);rw[if_neg (by rw[same];decide)];refine y0 (Nv lo d1 hc hd λh2 oE k2=>y0 (gu ?_));have n1:(s.heap.push {cls:=.type "list",data:=.seq ([]:List Value).toArray}).objs.size=s.heap.objs.size+1:=by rw[vq]
 rw[show({s with heap:=s.heap.push {cls:=.type "list",data:=.seq ([]:List Value).toArray} }:ye).heap.objs.size=s.heap.objs.size+1 from n1]at oE;rw[n1];have d2:=k2 _ _ d1;have S2:=k2 _ _ S1;have te:Np {s with heap:=h2} (.ref d) "dict":=⟨_,d2,hc.1⟩
 unfold Vl;refine y0 (DF (T:="dict") te VD.lookup ?_)
 (generalize mY:("dict.__len__":String)=tT;(fail_if_success (clear mY tT));wp_delta;rw[show splitId tT=some ("dict","__len__")from by subst mY;decide +kernel];subst mY)
 refine y0 (BF (T:="dict") (b:=true) te zK ?_);rw[if_neg (by decide)];rw[if_pos (by decide +kernel)];refine y0 (pZ (T:="dict") te (yc ?_));rw[if_pos (by decide +kernel)];refine y0 (yD (y0 ?_));have S3:=vy (gf (·.push uy)) S2 rfl;show wpAny _ A.in1 (updateSeq s.heap.objs.size (·.push .none) >>= λ_=>updateSeq s.heap.objs.size (·.pop)) _ _ _;refine y0 (zp S2 rfl (zp S3 rfl ?_));have S4:=vy (gf (·.pop)) S3 rfl;have pi:∀b u,b≠s.heap.objs.size->h2.get? b=some u->((h2.update s.heap.objs.size (gf (·.push uy))).update s.heap.objs.size (gf (·.pop))).get? b=some u:=
  λb u nb e=>(uo _ _ (iN nb)).trans ((uo _ _ (iN nb)).trans e)
 have neI:d≠s.heap.objs.size+1:=xn (ui lS);have W:=(jkf (prog:=prog) (w:=w) (A:=A.in1) hh (s.heap.objs.size+1) d neI hc hd).toS;have nS:s.heap.objs.size∉[s.heap.objs.size+1,d]:=by
  simp only[xc,oW,or_false,not_or];exact⟨xn (Bh _),nd⟩
 refine yc ⟨mR Vm _,Vn W hz _ nS _ es.size 0 _ _ _ rfl (gn _) ⟨?_,pi d _ nd.symm d2⟩ S4 (Vo _) λs' eC c' hm gB dQ=>y0 (KJ gB (yc (hQ s' eC ⟨λb u _ e=>?_,hm.gens,hm.drawn,hm.os,hm.toks⟩ (yt gB) dQ)))⟩
 ·obtain⟨u,e,r⟩:=oE;exact⟨u,pi _ _ (jZ (Bh _)) e,r⟩
 ·have lb:=yt e;refine hm.heap b u (λq=>?_) (pi b u (xn lb) (k2 _ _ (yb _ e)));skip;rcases xc.mp q with q|q
  ·exact xn lb q
  ·exact xn (ui lb) (y9.mp q)
theorem NG{acc:Array Value}(h:BN (λi v=>(es[i]?).map (·.key)=some v) acc es.size):acc.toList=es.toList.map (·.key):=by
 refine UI (P:=λi v=>(es[i]?).map (·.key)=some v) (by rw[y3,yj];exact h) λi v hv=>?_;rw[xh,xr];exact hv
theorem jgg{Q:Value->ye->Prop}(hh:A.handled=none)(lo:(d==sysModules)=false)(hS:s.heap.get? d=some o)(hc:o.ExactDict)(hd:o.data=.dict es ep)(fZ:es.size<64)(hI:fW (es.toList.map (·.key)) ns)
  (h:∀(s':ye) (h':Heap) (a:Addr) (out:List Value) (e:Nat) (bB:List Int),(∀b o,s.heap.get? b=some o->h'.get? b=some o)->s.heap.objs.size<=a->h'.get? a=some (seqObj "list" out.toArray e)->fW out bB->bB.Perm ns->bB.Pairwise (·<=·)->Q (.ref a) {s with heap:=h',toks:=s'.toks}):wpAny (model prog w) A (call (.builtin "sorted") [.ref d]) Q E s:=by
 have hz:es.size<=sizeLine:=by rw[xx];omega
 refine BH EA EB EC (ED _) ?_;unfold EE;refine y0 (m:=checkCount "sorted" 1 1 _) (yc (y0 (VC hh lo hS hc hd hz λs' acc hm le ha=>?_)));have i1:fW acc.toList ns:=by rw[NG ha];exact hI
 have l1:acc.toList.length<64:=by rw[NG ha,y3,yj];exact fZ
 skip;refine y0 (qI ?_ (by rw[xx];omega));have o1:(s'.heap.push (seqObj "list" acc.toList.toArray 0)).get? s'.heap.objs.size=some (seqObj "list" acc.toList.toArray 0):=yi _ rfl;refine y0 (gu (gj EF ⟨_,o1,rfl⟩ EG (Ub o1 i1 l1 λout bB a1 a2 a3=>⟨_,rfl,yc ⟨_,rfl,?_⟩⟩) (EH _)));obtain⟨h',g',d',t',q'⟩:=s';skip;have eg:g'=s.gens:=hm.gens;skip;have ed:d'=s.drawn:=hm.drawn;have eo:q'=s.os:=hm.os;subst eg ed eo;obtain⟨e,he⟩:=NH (out:=out) o1;refine h ⟨h',s.gens,s.drawn,t',s.os⟩ _ _ out.toList e bB (λb o eb=>?_) (lV le) (by simpa using he) a1 a2 a3;have hb:=hm.heap b o (by simp) eb;have lb:=yt hb;refine(NI (xn lb) ?_).trans (yb _ hb);rw[vq];exact ui lb
end
theorem jgh{ns:List Int}{vs:List Value}(h:∀(i:Nat) (n:Int),ns[i]?=some n->∃u,vs[i]?=some u/\RelV (.int n) u)(hl:ns.length=vs.length):fW vs ns:=by
 induction ns generalizing vs with
 |nil=>cases vs with
  |nil=>exact .nil
  |cons x r=>simp at hl
 |cons n r ih=>
  cases vs with
  |nil=>simp at hl
  |cons x q=>
   obtain⟨u,e,t,ht⟩:=h 0 n rfl;simp at e;subst e ht;exact .cons n t (ih (λi m hm=>by simpa using h (i+1) m (by simpa using hm)) (by simpa using hl))
variable{Q:VK}
section
variable{X:Cx}
def NJ:List V->Hp->VK->Prop:=λxs H Q=>∃(p:Addr) (o:Obj) (af:List (Key×V)) (ns:List Int),xs=[.ref p]/\H p=some (.frz o (.dK af))/\af.map (·.1)=ns.map fU/\af.length<64/\∀l (ms:List Int),H l=none->ms.Perm ns->ms.Pairwise (·<=·)->Q (.ref l) (aH H l (.lst (ms.map V.int)))
theorem jo4(hc:X.calm=true):aG X (.builtin "sorted") NJ:=by
 skip;intro ac s σ H xs us Q I r h;obtain⟨p,o,af,ns,rfl,hp,hk,fZ,q⟩:=h;obtain⟨u,rfl,ru⟩:=fM r;cases ru;obtain⟨g1,g2,g3,es,ep,g4,g5,g6⟩:=qR I.hok hp;have hl:af.length=ns.length:=by have:=congrArg Sk hk;simpa using this
 have hI:fW (es.toList.map (·.key)) ns:=jgh (λi n hn=>by
  have hi:i<ns.length:=(xl.mp hn).1;have BW:i<es.size:=by omega
  obtain⟨kv,k1,k2⟩:=g6 i BW;have e:(af.map (·.1))[i]?=some (fU n):=by rw[hk,xh,hn];rfl
  rw[xh,k1]at e;have e':kv.1=fU n:=vm e;rw[e']at k2;exact⟨es[i].key,by rw[xh,xr,yh BW];rfl,k2⟩) (by have:=yj (xs:=es);rw[y3];omega)
 refine jgg (I.ok.hd hc) g3 g1 g2 g4 (by omega) hI λs' h' l out ex bB kk le ho hI' BD hw=>?_;have ln:bB.length=ns.length:=BD.length_eq;exact⟨.ref l,aH H l (.lst (bB.map V.int)),I.laid (t':=s'.toks) kk le (show ObjOk X.prog X.w _ _ _ (.lst (bB.map V.int))from⟨by rw[y3,xx];omega,out,ex,Bs hI',ho⟩),rfl,q l bB (I.hok.fresh le) BD hw⟩
theorem jkg(h:H p=some (.frz o (.dK af)))(hk:af.map (·.1)=ns.map fU)(hn:af.length<64)(q:∀l (ms:List Int) H',H l=none->ms.Perm ns->ms.Pairwise (·<=·)->H' l=some (.lst (ms.map V.int))->al H H'->Q (.ref l) H'):NJ [.ref p] H Q:=⟨p,o,af,ns,rfl,h,hk,hn,λl ms nl pm pw=>q l ms _ nl pm pw bi (dG nl)⟩
end
structure VE(sc:Scope)(x y:Str):Prop where
 kind:sc.kind=.function
 co:sc.isCoroutine=false
 gen:sc.isGenerator=false
 nc:∀z∈sc.names,z.2≠.cell
 par:sc.names.lookup x=some .local
 fre:sc.names.lookup y=some .free
 only:∀z∈sc.names,z.2=.free->z.1=y
structure VF(sc:Scope)(x y:Str)(br:List (Str×so)):Prop where
 kind:sc.kind=.function
 co:sc.isCoroutine=false
 gen:sc.isGenerator=false
 names:sc.names=(x,.cell)::br
 nc:∀z∈br,z.2≠.cell
 ne:x≠y
 fre:sc.names.lookup y=some .free
 only:∀z∈sc.names,z.2=.free->z.1=y
abbrev LAC(α:Type):=List (Addr×Obj)->Addr->Addr->ye->Addr->Hp->α
theorem bQ.tk{P:Addr}{H':Hp}{ps:Array Value}(hP:H P=some (.tbl ps))(e:bQ P H H'):be H H':=λb o h n=>e b o (λz=>by rw[z,hP]at h;cases h;cases n) h
theorem bJ.is{P:Addr}{pos:Pos}{qual:Str}(h:bJ H P pos qual):∃ps,H P=some (.tbl ps):=by
 rcases h with h|⟨c,h,_⟩
 ·exact⟨_,h⟩
 ·exact⟨_,h⟩
theorem bQ.new{x:Addr}{H1 H2 H3:Hp}(a:bQ p H H1)(n:H1 x=none)(e:al H1 H2)(b:bQ x H2 H3):bQ p H H3:=λy o ny h=>b y o (λz=>by have:=a y o ny h;rw[z,n]at this;cases this) (e y o (a y o ny h))
section
variable{X:Cx}{ac:List (Addr×Obj)}{σ:St}{H:Hp}{s:ye}
theorem jgi{A:v7}{E:Value->ye->Prop}{P c:Addr}{params:HQ}{body:Expr}{scope:Scope}{pos:Pos}{clos:List (Str×Addr)}{Q:Value->ye->Prop}(I:Inv X ac σ H s)(fF:X.env.code=.ref c)(hC:zt X.K c P=true)
  (hT:bJ H P pos (X.env.qual++"<lambda>")) (zL:defaultsOf params X.env=([],[])) (gZ:closureFor scope X.env=pure clos)
  (h:∀(f c':Addr) (pm qN:Value) (H':Hp) (s':ye),Inv X (ac++[(f,ycf "<lambda>" (X.env.qual++"<lambda>") params body scope clos pm c' qN)]) σ H' s'->dA H' c' (X.env.qual++"<lambda>")->bJ H' P pos (X.env.qual++"<lambda>")->bQ P H H'->Q (.ref f) s'):
  wpAny (model X.prog X.w) A (eval (.Lambda params body scope pos) X.env) Q E s:=by
 have hg:=I.mod.glob.keeps I.bk;have C:=yaa I.kIn hC;have Jr:∀{ps:Array Value},H P=some (.tbl ps)->s.heap.get? P=some (Jn ps):=λe=>(show ObjOk X.prog X.w H s.heap P (.tbl _)from I.hok P _ e)
 obtain⟨ps0,Js⟩:∃ps,s.heap.get? P=some (Jn ps):=by
  rcases hT with hT|⟨c',hT,_⟩
  ·exact⟨_,Jr hT⟩
  ·exact⟨_,Jr hT⟩
 have gnP:mainGlobals≠P:=λq=>by
  obtain⟨o,es,ep,e,hd,_⟩:=hg;rw[q,Js]at e;cases e;cases hd
 obtain⟨bm,ob,b1,b2,b3,b4,b5,b6⟩:=I.mod.bmain;have BZ:=I.bk _ _ b3;have VG:bm≠P:=λq=>by rw[q,Js]at BZ;cases BZ;cases b4
 have VH:bm≠mainGlobals:=λq=>by
  obtain⟨o,es,ep,e,hd,_⟩:=hg;rw[q,e]at BZ;cases BZ;rw[hd]at b6;cases b6
 have pinned:∀{H':Hp}{h2:Heap}{o:Obj}{tk:Nat},Inv X ac σ H' {s with heap:=h2,toks:=tk}->(∀v,o.data≠.cell v)->o.isFreed=false->
   Inv X (ac++[(h2.objs.size,o)]) σ H' {s with heap:=h2.push o,toks:=tk}:=λ{H' h2 o tk} J hd hfr=>by
  have J2:Inv X ac σ H' {s with heap:=h2.push o,toks:=tk}:=J.kept λb u e=>yb _ e;refine J2.pins_of λp hp=>?_;skip;rcases yw.mp hp with z|z
  ·exact J2.pin p (yf _ z)
  ·rw[y9.mp z];exact⟨yi _ hfr,J.hok.fresh (yg _),jZ J.lt,J.nofs (yg _),hd⟩
 refine PySem.W.kla_eval zL ?_;rcases hT with hT|⟨c',hT,rL⟩
 ·refine PySem.W.kla_makeFunction gZ I.ok.glob hg fF C (Jr hT) trivial rfl gnP ⟨bm,ob,b1,b2,VH,VG,BZ,b4,b5,b6⟩ λc' qN h' tk hx oZ bF NK Jj=>?_;obtain⟨c2,oc,vs,t,e2,vO,hd,hv⟩:=NK;cases e2;have J:=jg7 (t':=tk) I hT hx oZ vO Jj;have nc:H c'=none:=I.hok.fresh oZ;have rL:dA (aH (aH H P (.tbl (#[]++#[rawInt pos.line,rawInt pos.col,.ref c']))) c' (.frz oc (.own c'))) c' (X.env.qual++"<lambda>"):=⟨oc,vs,t,bi,hd,hv⟩
  refine h _ c' _ qN _ _ (pinned J (λv z=>by cases z) rfl) rL (.inr ⟨c',?_,rL⟩) λb o n e=>?_
  ·rw[bf (cD hT nc),bi];rfl
  ·rw[bf (cD e nc),bf n];exact e
 ·refine PySem.W.kla_makeFunctionHit gZ I.ok.glob hg fF C (Jr hT) trivial (cv:=.ref c') (codeAmong_snoc [] trivial rfl) ⟨bm,ob,b1,b2,VH,VG,BZ,b4,b5,b6⟩ λqN h' tk hk hsz=>?_;have J:Inv X ac σ H {s with heap:=h',toks:=tk}:=I.kept hk;exact h _ c' _ qN H _ (pinned J (λv z=>by cases z) rfl) rL (.inr ⟨c',hT,rL⟩) λb o _ h=>h
end
def VI(κ:Type)(KR:(Nat->κ)->Hp->V->Nat->Prop)(lt:(Nat->κ)->Nat->Nat->Bool)(P:Addr)(lp:Pos)(qual:Str)(t:TA)(js:List Nat)(tb:LA TE):TE:=λσ H Q=>t σ H λvs H1=>
 ∃(l:Addr) (xs:List V) (tp:Bool) (kf:Nat->κ),vs=[.ref l]/\H1 l=some (qP tp xs)/\0<xs.length/\bJ H1 P lp qual/\
  (∀i x,xs[i]?=some x->∀ac f c s Hc H2,be H1 H2->tb ac f c s Hc (zo x js σ) H2 λkv H3=>KR kf H3 kv i/\al H2 H3)/\
  ∀x H2,xs[gQ (lt kf) (xs.length-1)]?=some x->be H1 H2->bQ P H1 H2->bJ H2 P lp qual->Q x H2
section
variable{X:Cx}{κ:Type}{KR:(Nat->κ)->Hp->V->Nat->Prop}{lt:(Nat->κ)->Nat->Nat->Bool}{k:Nat}{c P:Addr}{p pos lp kp:Pos}{e lb:Expr}{t:TA}{params:HQ}{sc:Scope}{cl:List (Str×Addr)}{x:Str}{fr:List Str}{js:List Nat}{tb:LA TE}
theorem jdx(KY:∀σ kf,Keyed X X.A.in1 σ (KR kf) (lt kf))(hr:aI (k+2) X.A)(hg:Gl X "min")(hm:X.mg "min"=none)(ha:PA X [e] t)(fF:X.env.code=.ref c)(hC:zt X.K c P=true)(zL:defaultsOf params X.env=([],[]))(O:mW X sc cl x fr js)
  (fq:∀pm cd ct u,bindArgs (yd2 "<lambda>" (X.env.qual++"<lambda>") params lb sc cl pm cd ct) ⟨[u],[]⟩=pure [(x,u)])
  (hb:∀ac f c' s Hc,PE (Jk X ac (x::fr) (X.env.qual++"<lambda>") sc cl f c' X.A.in1 s Hc) lb (tb ac f c' s Hc))
  (he:starEach [e] X.env=[(false,eval e X.env)]:=by rfl):
  PE X (.Call (.Name "min" p) [e] [⟨some "key",.Lambda params lb sc lp,kp⟩] pos) (VI κ KR lt P lp (X.env.qual++"<lambda>") t js tb):=by
 intro ac s σ H Q I h;refine ux (jY I hg hm (u:=.builtin "min") rfl ?_ (by decide) (by decide));refine callWith_kw (aN (ha pos ac s σ H _ I h) λus s1 ⟨vs,H1,I1,r1,q1⟩=>?_) (by rw[he];rfl) (by rw[he];rfl);obtain⟨l,xs,tp,kf,rfl,hl,bO,hT,FD,NL⟩:=q1;obtain⟨u,rfl,ru⟩:=fM r1;cases ru;refine kws_cons (jgi I1 fF hC hT zL (L1 O.clos) λf c' pm qN H2 s2 I2 jG hT2 b2=>kws_nil ?_);obtain⟨ps0,Js⟩:=hT.is;have e2:be H1 H2:=bQ.tk Js b2;show wpAny _ _ (call (.builtin "min") [.ref l] [(u5 "key",.ref f)]) _ _ _;refine zr (G:=λH=>H l=some (qP tp xs)/\(be H1 H/\bQ P H1 H)/\bJ H P lp (X.env.qual++"<lambda>")/\dA H c' (X.env.qual++"<lambda>")) (tp:=tp) (xs:=xs) (KR:=KR kf) (lt:=lt kf) hr.hd I2 ⟨e2 _ _ hl (jk4 _ _),⟨e2,b2⟩,hT2,jG⟩ (KY σ kf)
  ⟨λe ⟨g1,g2,g3,g4⟩=>⟨e _ _ g1,⟨g2.1.tr (al.toT e),λb o n h=>e _ _ (g2.2 b o n h)⟩,g3.ext e,g4.mono (al.toT e)⟩,λ⟨g1,_⟩=>jno g1,λ{ps H3 s3 i y v E} mM I3 ⟨g1,g2,g3,g4⟩ hy rv=>?_⟩ bO λ{H3 s3 y v} hy rv I3 ⟨g1,g2,g3,g4⟩=>?_
 ·exact jk3 I3 O I3.ok.frames hr.in1 (mM _ (yf _ (.head _))) g4 rv (fq _ _ _ _) (hb ps f c' s3 H3) (FD i y hy ps f c' s3 H3 H3 g2.1)
 ·exact⟨y,H3,I3.pins_of (λp hp=>I3.pin p (yf _ (yy _ hp))),rv,NL y H3 hy g2.1 g2.2 g3⟩
end
section
variable{prog:xf}{w:World}{A:v7}{E:Value->ye->Prop}{s:ye}{K:Type}[DecidableEq K]{knd:HeapKind prog w K}
theorem jkh{pairs:List (Sem Value×Sem Value)}{Q:Addr->ye->Prop}(hu:knd.room A)(aL:pairs.length<=15)
  (h:wpAny (model prog w) A (evalPairs pairs) (λvs s₁=>∃(b:Addr) (v:Value) (ks:K),vs=[(.ref b,v)]/\knd.is s₁.heap ks b/\s₁.heap.DictOfH knd s.heap.objs.size []/\
   ∀h' tk,h'.DictOfH knd s.heap.objs.size [(ks,b,v)]->i3 s.heap.objs.size s₁.heap h'->Q s.heap.objs.size {s₁ with heap:=h',toks:=tk}) E {s with heap:=s.heap.push {cls:=.type "dict",data:=.dict #[]} }):wpAny (model prog w) A (subDict pairs) Q E s:=by
 unfold subDict;refine y0 (wpAny_alloc (y0 (gu ?_)));rw[if_pos aL];skip;refine y0 (iP h (λvs s₁ h₁=>?_) λ_ _ e=>e);obtain⟨b,v,ks,rfl,hk,hm,hQ⟩:=h₁;skip;refine gu (y0 ?_);rw[BA];refine y0 (y0 (wpAny_dictSet_heap hu hk hm (λh' oX fu=>yc ?_) (by simp)));dsimp only;rw[TX];exact yc (yc (yc (hQ h' _ oX fu)))
end
def Jt(p:Addr)(ps:List (V×V))(H:Hp)(Q:VK):Prop:=∃x y,ps=[(x,y)]/\H p=some (.dT [])/\∃b ks,x=.ref b/\H b=some (.tup (ks.map kV))/\Q (.ref p) (aH H p (.dT [(ks,y)]))
def NM(tk tv:TE):TE:=λσ H Q=>∀p,H p=none->Ig [(tk,tv)] σ (aH H p (.dT [])) λps H2=>Jt p ps H2 Q
theorem jkj{X:Cx}{pos:Pos}{k v:Expr}{tk tv:TE}{j:Nat}(hr:aI j X.A)(hk:PE X k tk)(hv:PE X v tv):PE X (.Dict [some k] [v] pos) (NM tk tv):=by
 skip;intro ac s σ H Q I q;have hn:=I.hok.fresh (yg s.heap.objs.size);have I1:=I.laid (a:=s.heap.objs.size) (o:=.dT []) (h':=s.heap.push {cls:=.type "dict",data:=.dict #[]}) (t':=s.toks) (λ_ _ q=>yb _ q) (yg _) (Tb s.heap I.big);have hp:DH X pos [some k] [v] [(tk,tv)]:=Td hk hv Tc;have un:=hr.un;have ln:(pairTrees [some k] [v] X.env pos).length=1:=pairTrees_length [some k] [v] X.env pos rfl rfl;rw[arm_eval_Dict,zip_pairTrees [some k] [v] X.env pos rfl rfl,dictDisplay_pairs _ (λz=>by rw[z]at ln;cases ln) (by rw[ln];decide)];refine y0 (KI (y0 (jkh (knd:=tupleKind (cJ X.prog X.w)) (show X.A.units<cLine by omega) (by rw[ln];decide) (aN (hp ac _ σ _ _ I1 (q _ hn)) λws s2 ⟨ps,H2,I2,cI,x,y,ep,e,b,ks,ex,hb,q2⟩=>?_))))
 ·subst ep ex;cases cI with
  | @cons _ w1 _ _ h1 h2=>
   cases h2;obtain⟨u1,u2⟩:=w1;cases(show u1=v5 b from h1.1);obtain⟨z,hd,xs,NN,dd⟩:=Ln I2.hok e;cases NN;refine⟨b,u2,ks,rfl,DD I2.hok hb,dd,λh' pk p0 hs=>yc ⟨.ref s.heap.objs.size,_,?_,rfl,q2⟩⟩;obtain⟨qo,es,ep,hq,h2,h3,h4,_,h5⟩:=p0;have nb:b≠s.heap.objs.size:=A3 hb e (λz=>nomatch z);exact Ie I2 (by rw[e];exact j6) hs ⟨qo,hq⟩ ⟨by show 1<=sizeLine;rw[xx];decide,hd,[(ks,b,u2)],.cons ⟨rfl,by rw[bf nb];exact hb,h1.2⟩ .nil,qo,es,ep,hq,h2,h3,h4,h5⟩
section
variable{K:yd}{σ:St}{H:Hp}{Q:VK}{p b:Addr}
theorem jo6{tk tv:TE}(q:∀p H',H p=none->H' p=some (.dT [])->al H H'->tk σ H' λx H2=>tv σ H2 λv H3=>Jt p [(x,v)] H3 Q):NM tk tv σ H Q:=λp n=>q p _ n bi (dG n)
theorem jkk{v:V}{ks:List Key}(h:H p=some (.dT []))(hb:H b=some (.tup (ks.map kV)))(q:∀H',H' p=some (.dT [(ks,v)])->bQ p H H'->Q (.ref p) H'):Jt p [(.ref b,v)] H Q:=⟨_,_,rfl,h,b,ks,rfl,hb,q _ bi mE⟩
theorem jo7(q:∀p H',H p=none->H' p=some (.dT [])->al H H'->Q (.ref p) H'):Lr σ H Q:=λp n=>q p _ n bi (dG n)
end
section
variable{prog:xf}{w:World}{A:v7}{E:Value->ye->Prop}{s:ye}
theorem jdy(hd:(d==sysModules)=false):MeetsIn prog w (Builtin.«dict.__len__» ⟨[.ref d],[]⟩) (λ_ R s=>∃o es ep,s.heap.get? d=some o/\o.data=.dict es ep/\R (.ok (.ret (.int es.size s.toks))) {s with toks:=s.toks+1}):=
 .of_wp λA R s ⟨o,es,ep,ho,eV,h⟩=>by
  skip;show wpAny _ _ (dictSize d >>= _) _ _ s;unfold dictSize;refine y0 (y0 (Nw ho eV (yc ?_)));show wpAny _ _ (yco d >>= _) _ _ s;refine y0 (wpAny_pendingCount_other hd (wpAny_ret_mkInt ?_));rw[ye5];exact h
theorem jgk{Q:Value->ye->Prop}(hd:(d==sysModules)=false)(ho:s.heap.get? d=some o)(hc:o.ExactDict)(eV:o.data=.dict es ep)(dY:(es.size:Int)<2 ^ 63)
  (h:∀t tk,Q (.int es.size t) {s with toks:=tk}):wpAny (model prog w) A (call (.builtin "len") [.ref d]) Q E s:=by
 refine BH kind_len plain_len entry_len (args_len1 _) ?_;unfold Builtin.«len»;refine y0 (m:=oneArg "len" _) (yc (y0 (m:=callSpecial? (.ref d) (u5 "__len__")) (vf (name:=u5 "__len__") (Nu ho hc) VD (call_meetsIn VD (Nu ho hc) PySem.F.entry_dict_len (PySem.F.args_dict_len_1 _) (jdy hd) ⟨o,es,ep,ho,eV,?_⟩))));show wpAny _ _ _ _ _ {s with toks:=s.toks+1};refine y0 (gu (yc (y0 (sT ?_))));show wpAny _ _ (if ((es.size:Nat):Int)<0 then _ else _) _ _ _;rw[if_neg (by omega)];show wpAny _ _ (if ((es.size:Nat):Int)>=2 ^ 63 then _ else _) _ _ _;rw[if_neg (by omega)];exact y0 (wpAny_mkInt (yc ⟨_,rfl,h _ _⟩))
end
def NO:List V->Hp->VK->Prop:=λxs H Q=>∃a af,xs=[V.ref a]/\H a=some (.dT af)/\Q (.int af.length) H
section
variable{X:Cx}
theorem FE:aG X (.builtin "len") NO:=by
 skip;intro ac s σ H xs us Q I r h;obtain⟨a,af,rfl,ha,q⟩:=h;obtain⟨u,rfl,ru⟩:=fM r;cases ru;obtain⟨z,hd,Ez,cI,o,es,ep,g,c,dt,en,_⟩:=Ln I.hok ha;have l1:es.size=Ez.length:=ycl en;have l2:af.length=Ez.length:=CJ cI;rw[xx]at z;refine jgk hd g c dt (by omega) λt tk=>⟨.int af.length,H,I.tok _,⟨t,by rw[l1,<- l2]⟩,q⟩
theorem jo8{af:List (List Key×V)}(h:H p=some (.dT af))(q:Q (.int af.length) H):NO [.ref p] H Q:=⟨p,af,rfl,h,q⟩
end
section
variable{H:Hp}{Q:VK}
theorem jkl{b:Addr}{zs:List V}(h:H p=some (.lst xs))(hb:H b=some (.lst zs))(hz:xs.length+zs.length<=1000000)(q:∀H',H' p=some (.lst (xs++zs))->bQ p H H'->Q .non H'):SY (.ref p) [.ref b] H Q:=⟨p,b,xs,zs,rfl,rfl,h,hb,by rw[xx];omega,q _ bi mE⟩
end
inductive bG:List (Int×Value)->List Int->Prop
 |nil:bG [] []
 |cons {n:Int}{t:Tok}{es:List (Int×Value)}{ns:List Int}:bG es ns->bG ((hashInt n,.int n t)::es) (n::ns)
theorem bG.elems{prog:xf}{w:World}{es:List (Int×Value)}{ns:List Int}(r:bG es ns):ElemsOf (intKind prog w) es:=by
 induction r with
 |nil=>intro e he;cases he
 | @cons n t _ _ _ ih=>
  intro e he;skip;rcases xc.mp he with rfl|he
  ·exact⟨⟨n,Ju _ _ _ _,rfl⟩,rfl⟩
  ·exact ih e he
theorem bG.find{prog:xf}{w:World}{x:Int}{es:List (Int×Value)}{ns:List Int}(r:bG es ns):(x∈ns->∃j,es.findIdx? (λe=>(intKind prog w).is x e.2)=some j)/\(x∉ns->es.findIdx? (λe=>(intKind prog w).is x e.2)=none):=by
 have key:∀(n:Int) (t:Tok),(intKind prog w).is x (.int n t)=true↔n=x:=λn t=>by
  constructor
  ·intro h;exact((intKind prog w).inj _ _ _ h (Ju _ _ _ _)).symm
  ·rintro rfl;exact Ju _ _ _ _
 constructor
 ·intro hx;have:(es.findIdx? (λe=>(intKind prog w).is x e.2)).isSome=true:=by
   rw[List.findIdx?_isSome,Mv]
   induction r with
   |nil=>cases hx
   | @cons n t es ns _ ih=>
    skip;rcases xc.mp hx with rfl|hx
    ·exact⟨_,yu,(key _ _).mpr rfl⟩
    ·obtain⟨e,h1,h2⟩:=ih hx;exact⟨e,yr _ h1,h2⟩
  exact Sj.mp this
 ·intro hx;rw[List.findIdx?_eq_none_iff]
  induction r with
  |nil=>intro e he;cases he
  | @cons n t es ns _ ih=>
   intro e he;skip;rcases xc.mp he with rfl|he
   ·exact Bool.eq_false_iff.mpr λz=>hx (by rw[(key _ _).mp z];exact yu)
   ·exact ih (λz=>hx (yr _ z)) e he
theorem bG.perm{us vs:List (Int×Value)}(p:us.Perm vs):∀{ns:List Int},bG vs ns->∃ms,bG us ms/\ms.Perm ns:=by
 induction p with
 |nil=>intro ns r;exact⟨ns,r,kz _⟩
 |cons x _ ih=>
  intro ns r;cases r with
  |cons r=>
   obtain⟨m,a,b⟩:=ih r;exact⟨_,.cons a,b.cons _⟩
 |swap x y l=>
  intro ns r;cases r with
  |cons r=>
   cases r with
   |cons r2=>exact⟨_,.cons (.cons r2),Fa _ _ _⟩
 |trans _ _ i1 i2=>
  intro ns r;obtain⟨m,a,b⟩:=i2 r;obtain⟨m2,a2,b2⟩:=i1 a;exact⟨m2,a2,b2.trans b⟩
theorem Jv:∀{l m:List Int},l.Nodup->(∀x∈l,x∈m)->l.length<=m.length
 |[],m,_,_=>gn _
 |x::r,m,nd,h=>by
  obtain⟨h1,h2⟩:=kX.mp nd;have hx:=h x yu;have:=Jv (l:=r) (m:=m.erase x) h2 λy hy=>(MZ (show y≠x from λe=>h1 (by rw[<- e];exact hy))).mpr (h y (yr _ hy));rw[Fi hx]at this;have:=Jb hx;rw[yn];omega
variable{t:u6}
theorem jkm{es:Array (Int×Value)}(T:Tab t es)(h:Int):∃r,t.freeSlot h=some ((aB t.mask h r).j,false)/\(aB t.mask h r).j∉t.place.toList/\(aB t.mask h r).j<=t.mask/\∀q,q<r->(aB t.mask h q).j∈t.place.toList:=by
 obtain⟨e0,e1,e2⟩:=T.free;obtain⟨N,m1,m2⟩:=tM T.mask h e1;have M4:10*qM t.mask=10*(t.mask+15):=rfl;obtain⟨r,r1,r2,r3⟩:=M0 T.dum T.ris (λ_=>h+1) h (10*qM t.mask) 0 ⟨N,gn _,by rw[M4];omega,by rw[m2];exact e2⟩;rcases r3 with⟨n1,n2⟩|⟨_,n2,_⟩
 ·refine⟨r,?_,n1,by have:=Fj t.mask h r;omega,λq hq=>(r2 q (gn _) hq).1⟩;have pe:t.probe (λ_=>h+1) h (t.probeStart h)=some (.empty (aB t.mask h r).j none):=n2;unfold SetTable.freeSlot;rw[pe];rfl
 ·exact absurd n2 (by omega)
theorem jo9{es:Array (Int×Value)}(T:Tab t es)(j:Nat):t.put j=({t with place:=xa t.place (xg t.place j) j},xg t.place j):=by
 unfold yea;rw[T.dum];have:IV #[] j=false:=by unfold IV;simp
 rw[this];simp[T.dum]
section
variable{prog:xf}{w:World}{A:v7}{E:Value->ye->Prop}{s:ye}
theorem add_int{S:Addr}{es:Array (Int×Value)}{x:Int}{tx:Tok}{Q:Bool->ye->Prop}(hS:s.heap.get? S=some (aW es ep t))(T:Tab t es)(hp:t.plain=true)(r:bG es.toList ns)(hb:es.size<60)
  (h1:x∈ns->Q false s)
  (h2:x∉ns->∀h' eO t' fi bB,i3 S s.heap h'->h'.get? S=some (aW eO fi t')->Tab t' eO->t'.led=t.led->t'.plain=true->bG eO.toList bB->bB.Perm (x::ns)->Q true {s with heap:=h'}):
  wpAny (model prog w) A (setAddHashed S (.int x tx) ((intKind prog w).hash x)) Q E s:=by
 have VJ:(kQ x tx).scannable=true:=rfl;have hk:(intKind prog w).hash x=hashInt x:=rfl;skip;unfold setAddHashed setAddHashedIn;refine gu (y0 (uv hS rfl T.fits ?_));dsimp only;rw[byScan_of VJ (by unfold scanBound;omega) (r.elems (prog:=prog) (w:=w)),if_pos rfl];unfold setAddByScan;refine y0 (y0 (yD (y0 (wpAny_setScan_of (Ju _ _ _ _) hS rfl T.fits r.elems ?_))));by_cases hx:x∈ns
 ·obtain⟨j,hj⟩:=(r.find (prog:=prog) (w:=w)).1 hx;rw[hj];dsimp only;exact yc (yc (h1 hx))
 rw[(r.find (prog:=prog) (w:=w)).2 hx];dsimp only;obtain⟨rr,f1,n1,n2,n3⟩:=jkm T ((intKind prog w).hash x);have ip:=Jg es (xg t.place (aB t.mask ((intKind prog w).hash x) rr).j) ((intKind prog w).hash x,kQ x tx);have lM:(xa es (xg t.place (aB t.mask ((intKind prog w).hash x) rr).j) ((intKind prog w).hash x,kQ x tx)).size=es.size+1:=by rw[<- yj,ip.length_eq,yn,yj]
 have pp:=Jg t.place (xg t.place (aB t.mask ((intKind prog w).hash x) rr).j) (aB t.mask ((intKind prog w).hash x) rr).j;have Fu:(xa t.place (xg t.place (aB t.mask ((intKind prog w).hash x) rr).j) (aB t.mask ((intKind prog w).hash x) rr).j).size=es.size+1:=by rw[<- yj,pp.length_eq,yn,yj,T.size]
 have VL:({t with place:=xa t.place (xg t.place (aB t.mask ((intKind prog w).hash x) rr).j) (aB t.mask ((intKind prog w).hash x) rr).j}:u6).fits (es.size+1)=true:=by
  have:=T.room;unfold UX Ja;show((xa t.place _ _).size==_&&decide ((xa t.place _ _).size+t.dummies.size<=t.mask))=true;rw[Fu,T.dum,oO,beq_iff_eq,decide_eq_true_iff];have z:(#[]:Array Nat).size=0:=rfl;refine⟨rfl,?_⟩;rcases T.mask with h|h|h<;>omega
 have lay:layNew t es ((intKind prog w).hash x) (.int x tx)=(xa es (xg t.place (aB t.mask ((intKind prog w).hash x) rr).j) ((intKind prog w).hash x,kQ x tx),{t with place:=xa t.place (xg t.place (aB t.mask ((intKind prog w).hash x) rr).j) (aB t.mask ((intKind prog w).hash x) rr).j},false,false):=by
  unfold layNew;rw[f1];dsimp only;rw[jo9 T];dsimp only;unfold SetTable.orStandIn;rw[lM,VL,if_pos rfl];rfl
 rw[lay];dsimp only;refine y0 (yc ?_);rw[if_pos hp,hashByValue_scannable 8 VJ];refine y0 (yc ?_);rw[show plainKind (kQ x tx)=true from rfl,if_pos rfl];refine y0 (Nq hS rfl ?_ (by rw[lM,xx];omega));obtain⟨t1,ht⟩:∃t1:u6,{t with place:=xa t.place (xg t.place (aB t.mask ((intKind prog w).hash x) rr).j) (aB t.mask ((intKind prog w).hash x) rr).j}=t1:=⟨_,rfl⟩
 obtain⟨gA,he⟩:∃gA,xa es (xg t.place (aB t.mask ((intKind prog w).hash x) rr).j) ((intKind prog w).hash x,kQ x tx)=gA:=⟨_,rfl⟩
 have pt:=λhr=>U9 (x:=kQ x tx) T n1 n2 n3 hr;rw[ht]at VL pt;rw[he]at ip lM pt;rw[ht,he];have o1:(s.heap.update S (Nr gA t1)).get? S=some (aW gA (ep+1) t1):=vy _ hS rfl;have s1:i3 S s.heap (s.heap.update S (Nr gA t1)):=ul ..;have l1:t1.led=t.led:=by rw[<- ht]
 have p1:t1.plain=true:=by rw[<- ht];exact hp
 have tf:t1.tooFull=decide ((es.size+1)*5>=t.mask*3):=by
  rw[<- ht];unfold yc3 Ja;show decide (((xa t.place _ _).size+t.dummies.size)*5>=t.mask*3)=_;rw[Fu,T.dum];rfl
 obtain⟨ns1,r1,VM⟩:=bG.perm ip (.cons r);by_cases mZ:(es.size+1)*5>=t.mask*3
 ·rw[tf,decide_eq_true mZ,if_pos (by decide)];obtain⟨m',oX,wn,rm⟩:∃m',tK m'/\U7 (Vp (es.size+1))=m'+1/\(es.size+1)*5<m'*3:=by
   have:=T.room;rcases T.mask with h|h|h
   ·have hn:es.size=4:=(by omega);exact⟨31,.inr (.inl rfl),by rw[hn];decide +kernel,by omega⟩
   ·have hn:es.size=18:=(by omega);exact⟨127,.inr (.inr rfl),by rw[hn];decide +kernel,by omega⟩
   ·omega
  rw[lM];obtain⟨t2,ord,q1,q2,q3,q4,q5,q6,q7⟩:=U5 (t:=t1) (es:=gA) oX wn (by rw[lM];exact rm);have cI:relayAll t1 gA (Vp (es.size+1))=(ord.filterMap (gA[·]?),t2,false):=by
   unfold relayAll;rw[q1];dsimp only;have c1:coversAll ord gA.size=true:=by unfold coversAll;rw[List.isPerm_iff];exact q7
   rw[c1,q4.fits,if_pos (by decide)]
  rw[cI];dsimp only;refine y0 (yc ?_);refine y0 (Nq o1 rfl ?_ (by rw[q2,lM,xx];omega));obtain⟨ns2,r2,kD⟩:=bG.perm q3 r1;exact yc (yc (h2 hx _ _ t2 _ ns2 (s1.trans (ul ..)) (vy _ o1 rfl) q4 (q5.trans l1) (q6.trans p1) r2 (kD.trans VM)))
 ·rw[tf,decide_eq_false mZ,if_neg (by decide)];exact yc (yc (h2 hx _ _ t1 _ ns1 s1 o1 (pt (by omega)) l1 p1 r1 VM))
end
section
variable{X:Cx}
theorem jbl:∀{ks:List Int},ks.Nodup->ks.Pairwise (·<=·)->ks.Pairwise (· < ·):=λn p=>(p.and n).imp λ{a b} h=>by have:=h.1;have:=h.2;omega
end
section
variable{X:Cx}
open Classical in
end
section
variable{X:Cx}
def tZ:V->List V->Hp->VK->Prop:=λx vs H Q=>∃(l:Addr) (ss:List Str) (k:Str),x=.ref l/\vs=[.str k]/\H l=some (.lst (ss.map V.str))/\k∈ss/\ss.length<=1000000/\Q (.int (ss.idxOf k:Nat)) H
theorem NP:wG X "list.index" tZ:=by
 intro ac s σ H x vs v us Q I rx rv h;obtain⟨l,ss,k,rfl,rfl,hH,hk,hz,q⟩:=h;cases rx;obtain⟨u,rfl,t,rfl⟩:=rv.one;obtain⟨z,ai,n,r,hl,e⟩:=I.lstM hH;have hn:=r.length;rw[y3]at hn;have hj:ss.idxOf k<ss.length:=E4.mpr hk;have at_:∀(m:Nat) (hm:m<ai.toArray.size),IH k ai.toArray[m]=(ss[m]'(by rw[ym]at hm;omega)==k):=λm hm=>by
  have oX:m<ai.length:=by rw[ym]at hm;exact hm
  obtain⟨z,t',h1,h2⟩:=E1 r m ai[m] (y4 oX);rw[y4 (show m<ss.length by omega)]at h1;have MC:ai.toArray[m]=.str z t':=by simpa using h2
  rw[MC];injection h1 with h1;rw[h1];rfl
 refine wJ F.slot_list_index ⟨_,e,rfl⟩ F.entry_list_index (F.args_list_index_2 _ _) (SeqAt.list_indexAt l ai.toArray n none #[] (.str k t) (IH k) (ss.idxOf k) (by rw[ym];omega) (by omega) ?a ?b) ⟨e,?c,?d⟩
 case a=>rw[at_,E5 hj];exact beq_self_eq_true k
 case b=>
  intro m h1 h2;rw[at_];exact Us h2
 case c=>
  intro y hy;obtain⟨m,hm,e⟩:=vd (show y∈ai by simpa using hy);obtain⟨z,t',_,h2⟩:=E1 r m y (by rw[<- e];exact y4 hm);rw[h2];exact Ld z t' k t
 case d=>exact⟨.int (ss.idxOf k:Nat),H,I.tok _,⟨_,rfl⟩,q⟩
theorem NQ{ss:List Str}{k:Str}(h:H p=some (.lst (ss.map V.str)))(hk:k∈ss)(hz:ss.length<=1000000)(q:Q (.int (ss.idxOf k:Nat)) H):tZ (.ref p) [.str k] H Q:=⟨p,ss,k,rfl,rfl,h,hk,hz,q⟩
theorem uA(h:H p=some (.tup (ns.map V.int)))(hl:ns.length<64)(q:∀l (bB:List Int) H',H l=none->bB.Perm ns->bB.Pairwise (·<=·)->H' l=some (.lst (bB.map V.int))->al H H'->Q (.ref l) H'):E2 K [.ref p] H Q:=.inl (jfz h hl q)
end
end L2
set_option Elab.async false
set_option linter.all false
set_option maxRecDepth 100000
set_option maxHeartbeats 4000000
namespace L2
open PySem PySem.Spec PyProof.Rows PySem.W
variable{K:yd}
theorem VN{H:Hp}{Q:VK}{p:Addr}{ns:List Int}(h:H p=some (.lst (ns.map V.int)))(hl:ns.length<64)(q:∀l (bB:List Int) H',H l=none->bB.Perm ns->bB.Pairwise (·<=·)->H' l=some (.lst (bB.map V.int))->al H H'->Q (.ref l) H'):E2 K [.ref p] H Q:=.inl (jfy h hl q)
def cF(K:yd)(x:Str)(st:Stmt)(f:Addr):Prop:=FF K mainGlobals x=some (some (.ref f))/\∃fd,bT K x x st f fd
def gT(K:yd)(C:Addr)(x q:Str)(st:Stmt)(f:Addr):Prop:=v0 K (.ref C) x=some (some (.ref f))/\∃fd,bT K x q st f fd
def NsC(K:yd)(x:Str)(C:Addr):Prop:=FF K mainGlobals x=some (some (.ref C))
def NsB(K:yd)(x:Str):Prop:=FF K mainGlobals x=some none
theorem bT.one{x qual:Str}{st:Stmt}{f:Addr}{fd:xo}{n:Str}(F:bT K x qual st f fd)
  (h:∀(kV doc pm:Value) (an:Option Addr) (bj ct:Value) (s:ye) (v:Value),bindArgs (i7 x qual (jK st) (gY st) (aP st) .none kV doc pm an bj ct) ⟨[v],[]⟩=pure [(n,v)]) (s:ye) (v:Value):oJ s fd ⟨[v],[]⟩ [(n,v)]:=by
 obtain⟨oc,od,kV,doc,pm,an,bj,ct,kY,rfl,lk,fF⟩:=F.ex;exact .of_eq (h kV doc pm an bj ct s v)
section
variable{X:Cx}
def FG(t u:TI):TI:=λσ H R=>t σ H R\/u σ H R
theorem VO{tg e:Expr}{t u:TI}(h1:PI X tg e t)(h2:PI X tg e u):PI X tg e (FG t u):=λac s σ H R I h=>h.elim (λz=>h1 ac s σ H R I z) λz=>h2 ac s σ H R I z
end
abbrev KU:=Key ⊕ List Key
def KU.tup:KU->Bool
 | .inl _=>false
 | .inr _=>true
def qT(H:Hp):KU->V->Prop
 | .inl k,v=>v=kV k
 | .inr ks,v=>∃b,v=.ref b/\H b=some (.tup (ks.map kV))
def eD{α:Type}(f:α->KU)(af:List (α×V)):List (KU×V):=af.map λkv=>(f kv.1,kv.2)
inductive DU:HO->Bool->List (KU×V)->Prop
 |k (af:List (Key×V)):DU (.dK af) false (eD .inl af)
 |t (af:List (List Key×V)):DU (.dT af) true (eD .inr af)
theorem NR{α:Type}[DecidableEq α]{f:α->KU}(inj:∀a b,f a=f b->a=b)(k:α):∀af:List (α×V),bY (eD f af) (f k)=bY af k
 |[]=>rfl
 |(a,v)::r=>by
  by_cases e:a=k
  ·rw[e,Bo rfl];exact Bo (p:=(f k,v)) rfl
  ·rw[Bp (p:=(a,v)) e,<- NR inj k r];exact Bp (p:=(f a,v)) (λz=>e (inj _ _ z))
theorem VP{α:Type}[DecidableEq α]{f:α->KU}(inj:∀a b,f a=f b->a=b)(k:α):∀af:List (α×V),((eD f af).any λkv=>decide (kv.1=f k))=af.any λkv=>decide (kv.1=k)
 |[]=>rfl
 |(a,v)::r=>by
  have ih:=VP inj k r;show(decide (f a=f k)||(eD f r).any _)=(decide (a=k)||r.any _)
  rw[ih,decide_eq_decide.mpr ⟨inj a k,λz=>z ▸ rfl⟩]
theorem VQ{α:Type}[DecidableEq α]{f:α->KU}(inj:∀a b,f a=f b->a=b)(k:α)(v:V)(af:List (α×V)):bP (eD f af) (f k) v=eD f (bP af k v):=by
 unfold bP;rw[VP inj];split
 ·unfold eD;skip;rw[v8,v8];refine NS λkv _=>?_;show(if f kv.1=f k then(f kv.1,v)else(f kv.1,kv.2))=(λkv:α×V=>(f kv.1,kv.2)) (if kv.1=k then(kv.1,v)else kv)
  by_cases e:kv.1=k
  ·rw[if_pos e,if_pos (by rw[e])]
  ·rw[if_neg e,if_neg (λz=>e (inj _ _ z))]
 ·unfold eD;rw[xk];rfl
theorem NT(a b:Key)(h:(fU a:KU)=.inl b):a=b:=by injection h
theorem Jw(a b:List Key)(h:(ij a:KU)=.inr b):a=b:=by injection h
section
variable{K:yd}{σ:St}{H:Hp}{Q:VK}{p:Addr}{T:Bool}{u:HO}{af:List (KU×V)}{k:KU}{x v:V}
theorem qT.get(h:qT H k x)(hd:Rd H p u)(du:DU u T af)(kt:k.tup=T):jb H p x (bY af k):=by
 cases du with
 |k kv=>
  cases k with
  |inl k=>exact .inl ⟨kv,k,hd,h,by rw[NR NT]⟩
  |inr k=>cases kt
 |t kv=>
  cases k with
  |inl k=>cases kt
  |inr k=>obtain⟨b,h1,h2⟩:=h;exact .inr ⟨kv,k,b,hd,h1,h2,by rw[NR Jw]⟩
theorem zM(hd:Rd H p u)(du:DU u T af)(kt:k.tup=T)(hk:qT H k x)(q:Q (.bl (!(bY af k).isSome)) H):tY x (.ref p) H Q:=⟨p,_,rfl,hk.get hd du kt,q⟩
theorem B0(hd:Rd H p u)(du:DU u T af)(kt:k.tup=T)(hk:qT H k x)(e:bY af k=some v)(q:Q v H):tE (.ref p) x H Q:=⟨p,v,rfl,by have:=hk.get hd du kt;rw[e]at this;exact this,q⟩
theorem VR{R:Hp->Prop}(h:H p=some u)(du:DU u T af)(kt:k.tup=T)(hk:qT H k x)(hl:af.length<1000000)(q:∀H' u',H' p=some u'->DU u' T (bP af k v)->bQ p H H'->R H'):tF (.ref p) x v H R:=by
 cases du with
 |k kv=>
  cases k with
  |inl k=>
   rw[VQ NT]at q;cases hk;exact⟨p,_,rfl,DPut.k (k:=k) h (by rw[xx];rw[eD,y3]at hl;omega),q _ _ bi (.k _) mE⟩
  |inr k=>cases kt
 |t kv=>
  cases k with
  |inl k=>cases kt
  |inr k=>
   rw[VQ Jw]at q;obtain⟨b,rfl,h2⟩:=hk;exact⟨p,_,rfl,DPut.t h h2 (by rw[xx];rw[eD,y3]at hl;omega),q _ _ bi (.t _) mE⟩
def uB:List V->Hp->VK->Prop:=λxs H Q=>NF xs H Q\/NO xs H Q
theorem zN(h:H p=some u)(du:DU u T af)(q:Q (.int af.length) H):uB [.ref p] H Q:=by
 cases du with
 |k kv=>exact .inl (zH h (by rw[eD,y3]at q;exact q))
 |t kv=>exact .inr (jo8 h (by rw[eD,y3]at q;exact q))
theorem zO(T:Bool)(q:∀p H' u,H p=none->H' p=some u->DU u T []->al H H'->Q (.ref p) H'):mQ Lq Lr σ H Q:=by
 cases T with
 |false=>exact .inl (Tt λp H' n h e=>q p H' _ n h (.k []) e)
 |true=>exact .inr (jo7 λp H' n h e=>q p H' _ n h (.t []) e)
theorem VS(h:H p=some u)(du:DU u T af)(q:∀o H',H' p=some (.frz o u)->bQ p H H'->Q (.ref p) H'):nA (.ref p) H Q:=by
 cases du with
 |k kv=>exact zF h q
 |t kv=>exact zG h q
def VT:Bool->Addr->V->V->Hp->VK->Prop
 |false,p,x,v,H,Q=>Vz p x v H Q
 |true,p,x,v,H,Q=>Jt p [(x,v)] H Q
theorem jog(T:Bool){tk tv:TE}(q:∀p H' u,H p=none->H' p=some u->DU u T []->al H H'->tk σ H' λx H2=>tv σ H2 λv H3=>VT T p x v H3 Q):mQ (Lu [(tk,tv)]) (NM tk tv) σ H Q:=by
 cases T with
 |false=>exact .inl (jo1 λp H' n h e=>q p H' _ n h (.k []) e)
 |true=>exact .inr (jo6 λp H' n h e=>q p H' _ n h (.t []) e)
theorem jkp(h:H p=some u)(du:DU u T [])(kt:k.tup=T)(hk:qT H k x)(q:∀H' u',H' p=some u'->DU u' T [(k,v)]->bQ p H H'->Q (.ref p) H'):VT T p x v H Q:=by
 generalize hn:([]:List (KU×V))=af at du;cases du with
 |k kv=>
  cases kv with
  |cons a b=>cases hn
  |nil=>
   cases k with
   |inl k=>
    cases hk;exact⟨h,[(k,v)],rfl,by show 1<=15;decide,q _ _ bi (.k [(k,v)]) mE⟩
   |inr k=>cases kt
 |t kv=>
  cases kv with
  |cons a b=>cases hn
  |nil=>
   cases k with
   |inl k=>cases kt
   |inr k=>
    obtain⟨b,rfl,h2⟩:=hk;exact jkk h h2 λH' q1 q2=>q _ _ q1 (.t [(k,v)]) q2
def nB:Bool->Addr->Obj->It
 |false=>iD
 |true=>iE
def rIU(T:Bool)(x:V)(H:Hp)(R:It->Hp->Prop):Prop:=∃a o u af,x=.ref a/\H a=some (.frz o u)/\DU u T af/\R (nB T a o) H
end
section
variable{a:Addr}{o:Obj}{g:TG}{tb:TS}{D:Ends}{σ:St}{H:Hp}{T:Bool}{u:HO}{af:List (KU×V)}
theorem FH(T:Bool){tl:TE}{R:It->Hp->Prop}(mo:∀{P P':VK},(∀v H,P v H->P' v H)->tl σ H P->tl σ H P')(q:tl σ H λx H1=>rIU T x H1 R):FG (ND tl) (NE tl) σ H R:=by
 cases T with
 |false=>
  refine .inl (Fx (mo (λx H1 ⟨a,o,u,af,h1,h2,h3,h4⟩=>?_) q));cases h3;exact⟨a,o,_,h1,h2,h4⟩
 |true=>
  refine .inr (Fy (mo (λx H1 ⟨a,o,u,af,h1,h2,h3,h4⟩=>?_) q));cases h3;exact⟨a,o,_,h1,h2,h4⟩
theorem FI(du:DU u T af)(Pv:Nat->St->Hp->Prop)(h0:Pv 0 σ H)(hl:∀i σ H,i<=af.length->Pv i σ H->H a=some (.frz o u))
  (hs:∀i kv x σ H,af[i]?=some kv->qT H kv.1 x->Pv i σ H->g x σ H λσ2 H2=>tb {D with nx:=Pv (i+1),ct:=Pv (i+1),bk:=D.nx} σ2 H2) (hd:∀σ H,Pv af.length σ H->D.nx σ H):
  ∃W:Nat->Nat->St->Hp->Prop,(∃m,W 0 m σ H)/\∀i m σ H,W i m σ H->
   ((nB T a o).stop i H/\D.nx σ H)\/((nB T a o).go i H/\∃N:St->Hp->Prop,(∀σ' H',N σ' H'->∃m',m'<m/\W (i+1) m' σ' H')/\∀x H',(nB T a o).yld i H x H'->g x σ H' λσ2 H2=>tb {D with nx:=N,ct:=N,bk:=D.nx} σ2 H2):=by
 cases du with
 |k kv=>
  have e:(eD .inl kv).length=kv.length:=y3 ..;rw[e]at hl hd;refine zD Pv h0 hl (λi z σ H hz pv=>hs i (.inl z.1,z.2) _ σ H ?_ rfl pv) hd;rw[eD,xh,hz];rfl
 |t kv=>
  have e:(eD .inr kv).length=kv.length:=y3 ..;rw[e]at hl hd;refine zE Pv h0 hl (λi z b σ H hz hb pv=>hs i (.inr z.1,z.2) _ σ H ?_ ⟨b,rfl,hb⟩ pv) hd;rw[eD,xh,hz];rfl
theorem zP{ts:List TT}{te:TE}{acc:Addr}{fr:St}{H1:Hp}{R:Hp->Prop}{w:Option V}(du:DU u T af)(hx:H1 a=some (.frz o u))(hz:af.length<=1000000)(hn:H1 acc=none)(Pv:Nat->List V->Hp->Prop)(h0:Pv 0 [] H1)(kp:∀i ys H H',Kp H H'->Pv i ys H->Pv i ys H')(len:∀i ys H,i<=af.length->Pv i ys H->ys.length<=i)
  (turn:∀i kv x ys H,af[i]?=some kv->qT H kv.1 x->al H1 H->Pv i ys H->qK ts te (Pv (i+1)) ys H (some x::fr) H)
  (fin:∀ys H,al H1 H->H acc=some (.lst ys)->Pv af.length ys H->R H):jg (nB T a o) (iR 0) ts te acc (w::fr) H1 R:=by
 cases du with
 |k kv=>
  have e:(eD .inl kv).length=kv.length:=y3 ..;rw[e]at hz len fin;refine jnx hx hz hn Pv h0 kp len (λi z ys H hz e pv=>turn i (.inl z.1,z.2) _ ys H ?_ rfl e pv) fin;rw[eD,xh,hz];rfl
 |t kv=>
  have e:(eD .inr kv).length=kv.length:=y3 ..;rw[e]at hz len fin;refine jny hx hz hn Pv h0 kp len (λi z b ys H hz hb e pv=>turn i (.inr z.1,z.2) _ ys H ?_ ⟨b,rfl,hb⟩ e pv) fin;rw[eD,xh,hz];rfl
end
theorem FJ{X:Cx}:aG X (.builtin "len") uB:=FA.or FE
variable{a:Addr}
theorem jdz{ts:List TT}{te:TE}{acc:Addr}{fr:St}{H1:Hp}{R:Hp->Prop}{xs:List V}{u v:Option V}(hx:SqL K H1 a xs)(hz:xs.length<=1000000)(hn:H1 acc=none)(Pv:Nat->List V->Hp->Prop)(h0:Pv 0 [] H1)(kp:∀i ys H H',Kp H H'->Pv i ys H->Pv i ys H')(len:∀i ys H,i<=xs.length->Pv i ys H->ys.length<=i)
  (turn:∀i x ys H,xs[i]?=some x->al H1 H->Pv i ys H->∃p y z,x=.ref p/\H p=some (.tup [y,z])/\qK ts te (Pv (i+1)) ys H (some y::some z::fr) H)
  (fin:∀ys H,al H1 H->H acc=some (.lst ys)->Pv xs.length ys H->R H):jg (rS K a) (pR K 2 (Ba (iR 0) (Ba (iR 1) pQ))) ts te acc (u::v::fr) H1 R:=by
 refine yC xs.length hz hn (λσ=>∃u v,σ=u::v::fr) Pv ⟨u,v,rfl⟩ h0 kp (λi H hi e=>⟨xs,xs[i],e.seqL hx,y4 hi⟩) (λH e=>⟨xs,e.seqL hx,yg _⟩) len ?_ fin;rintro i σ ys H x H' G hi e ⟨u,v,rfl⟩ pv ⟨rfl,y⟩ hG;obtain⟨p,y1,z1,rfl,hp,q⟩:=turn i x ys _ (y xs (e.seqL hx)) e pv;exact⟨p,[y1,z1],rfl,aZ.of hp,rfl,y1,[z1],rfl,z1,[],rfl,rfl,hG _ _ ⟨_,_,rfl⟩ q⟩
def NU(v:Value):Prop:=(∃n t,v=.int n t)\/∃n t,v=.str n t
variable{ks:List Key}{Q:Bool->ye->Prop}
section
variable{prog:xf}{w:World}{A:v7}{E:Value->ye->Prop}{s:ye}
theorem VU{ks:List Key}{vs:List Value}(h:ItemsAre (cJ prog w) ks vs):∀v∈vs,NU v:=by
 induction h with
 |nil=>exact λv hv=>by simp at hv
 | @cons k v' ks vs h1 _ ih=>
  intro v hv;skip;rcases xc.mp hv with rfl|hv
  ·cases k with
   |inl n=>obtain⟨t,e⟩:=Fw (k:=.inl n) h1;exact .inl ⟨_,t,e⟩
   |inr n=>obtain⟨t,e⟩:=Fw (k:=.inr n) h1;exact .inr ⟨_,t,e⟩
  ·exact ih v hv
theorem joh(hk:jO (cJ prog w) s.heap ks a)(h:∀b,Q b s):wpAny (model prog w) A (hashByValue 8 (.ref a)) Q E s:=by
 have hT:=hk.typeIs;skip;obtain⟨o,items,n,ho,_,hd,hi⟩:=hk;unfold hashByValue;refine y0 (DF hT PySem.F.slot_tuple_hash.lookup ?_);dsimp only;skip;refine y0 (um ho hd ?_);refine y0 ?_;skip;show wpAny _ _ (forIn items _ _) _ _ s;rw[<- yae];refine NV _ (λbr r s'=>r.1=none/\s'=s/\∀v∈br,NU v) _ ?_ ?_ _ _ ⟨rfl,rfl,VU hi⟩
 ·rintro v br r s' ⟨hr,rfl,all⟩;rcases all v yu with⟨m,t,rfl⟩|⟨m,t,rfl⟩
  ·refine y0 (m:=hashByValue 7 (.int m t)) (ji (a:=true) (by unfold hashByValue;rfl) ?_);skip;simp only[FK,vt,if_false];exact yc ⟨rfl,rfl,λu hu=>all u (yr _ hu)⟩
  ·refine y0 (m:=hashByValue 7 (.str m t)) (ji (a:=false) (by unfold hashByValue;rfl) ?_);skip;simp only[VW,if_true];exact yc (yc (h false))
 ·skip;rintro⟨r1,r2⟩ s' ⟨hr,rfl,_⟩;simp only at hr;subst hr;exact yc (h true)
theorem VX(hk:jO (cJ prog w) s.heap ks a)(h:Q false s):wpAny (model prog w) A (ofAClassStatement 8 (.ref a)) Q E s:=by
 have hT:=hk.typeIs;skip;obtain⟨o,items,n,ho,_,hd,hi⟩:=hk;unfold ofAClassStatement;refine y0 (pZ (T:="tuple") hT ?_);dsimp only;rw[if_pos (by decide)];refine y0 (yc ?_);skip;simp only[FK,vt,if_false];skip;refine y0 (um ho hd ?_);refine y0 ?_;skip;show wpAny _ _ (forIn items _ _) _ _ s;rw[<- yae];refine NV _ (λbr r s'=>r.1=none/\s'=s/\∀v∈br,NU v) _ ?_ ?_ _ _ ⟨rfl,rfl,VU hi⟩
 ·rintro v br r s' ⟨hr,rfl,all⟩;obtain⟨u,hu⟩:∃u,ofAClassStatement 7 v=u/\u=pure false:=⟨_,rfl,by rcases all v yu with⟨m,t,rfl⟩|⟨m,t,rfl⟩<;>(unfold ofAClassStatement;rfl)⟩
  refine y0 (m:=ofAClassStatement 7 v) (ji (a:=false) (hu.1.trans hu.2) ?_);skip;simp only[vt,if_false];exact yc ⟨rfl,rfl,λu hu=>all u (yr _ hu)⟩
 ·skip;rintro⟨r1,r2⟩ s' ⟨hr,rfl,_⟩;simp only at hr;subst hr;exact yc h
theorem jgn(hk:jO (cJ prog w) s.heap ks a){l:List Value}(hl:∀y∈l,∃b M,y=.ref b/\jO (cJ prog w) s.heap M b)(h:Q false s):wpAny (model prog w) A (searchCouldBeSeen (.ref a) l) Q E s:=by
 unfold searchCouldBeSeen;refine y0 ?_;refine NV _ (λbr r s'=>r.1=none/\s'=s/\∀y∈br,∃b M,y=.ref b/\jO (cJ prog w) s.heap M b) _ ?_ ?_ _ _ ⟨rfl,rfl,hl⟩
 ·rintro y br r s' ⟨hr,rfl,all⟩;obtain⟨b,M,rfl,hb⟩:=all y yu;have fin:∀u∈br,∃b M,u=.ref b/\jO (cJ prog w) s'.heap M b:=λu hu=>all u (yr _ hu);dsimp only;by_cases e:(a==b)=true
  ·rw[e];simp only[ye1,if_true];exact yc ⟨rfl,rfl,fin⟩
  ·rw[U2]at e;rw[e];rw[if_neg (by simp[carriedByValue])];refine y0 (y99 hk ?_);skip;simp only[FK,vt,if_false];refine y0 (y99 hb ?_);skip;simp only[FK,vt,if_false];refine y0 (VX hk ?_);skip;simp only[vt,if_false];refine y0 (VX hb ?_);skip;simp only[vt,if_false];exact yc ⟨rfl,rfl,fin⟩
 ·skip;rintro⟨r1,r2⟩ s' ⟨hr,rfl,_⟩;simp only at hr;subst hr;exact yc h
end
inductive au{α β:Type}(R:α->β->Prop):List α->List β->Prop
 |nil:au R [] []
 |cons {a:α}{b:β}{as:List α}{bs:List β}:R a b->au R as bs->au R (a::as) (b::bs)
section
variable{α β γ:Type}{R:α->β->Prop}{as us:List α}{bs:List β}
theorem au.length(r:au R as bs):as.length=bs.length:=by
 induction r with
 |nil=>rfl
 |cons _ _ ih=>simp[ih]
theorem au.imp{R':α->β->Prop}(k:∀{a b},R a b->R' a b)(r:au R as bs):au R' as bs:=by
 induction r with
 |nil=>exact .nil
 |cons x _ ih=>exact .cons (k x) ih
theorem au.map{f:α->γ}{R':γ->β->Prop}(k:∀{a b},R a b->R' (f a) b)(r:au R as bs):au R' (as.map f) bs:=by
 induction r with
 |nil=>exact .nil
 |cons x _ ih=>exact .cons (k x) ih
theorem au.at(r:au R as bs):∀{i:Nat}{a:α},as[i]?=some a->∃b,bs[i]?=some b/\R a b:=by
 induction r with
 |nil=>exact λh=>by simp at h
 | @cons a b as bs x _ ih=>
  intro i c h;cases i with
  |zero=>exact⟨b,rfl,by simp at h;rw[<- h];exact x⟩
  |succ i=>simpa using ih (i:=i) (by simpa using h)
theorem au.perm(p:us.Perm as):∀{bs:List β},au R as bs->∃cs,au R us cs/\cs.Perm bs:=by
 induction p with
 |nil=>intro bs r;exact⟨bs,r,kz _⟩
 |cons x _ ih=>
  intro bs r;cases r with
  |cons e r=>
   obtain⟨m,a,b⟩:=ih r;exact⟨_,.cons e a,b.cons _⟩
 |swap x y l=>
  intro bs r;cases r with
  |cons e r=>
   cases r with
   |cons e2 r2=>exact⟨_,.cons e2 (.cons e r2),Fa _ _ _⟩
 |trans _ _ i1 i2=>
  intro bs r;obtain⟨m,a,b⟩:=i2 r;obtain⟨m2,a2,b2⟩:=i1 a;exact⟨m2,a2,b2.trans b⟩
theorem au.pick(r:au R as bs)(d:α)(e:β):∀l:List Nat,(∀i∈l,i<as.length)->au R (l.map λi=>as.getD i d) (l.map λi=>bs.getD i e)
 |[],_=>.nil
 |i::l,h=>by
  obtain⟨b,h1,h2⟩:=r.at (y4 (h i yu))
  rw[xu,xu];refine .cons ?_ (au.pick r d e l λj hj=>h j (yr _ hj));rw[y8,y8,h1,y4 (h i yu)];exact h2
end
def eX(h0 h:Heap):Prop:=∀b o,o.cls=.type "tuple"->h0.get? b=some o->h.get? b=some o
def iF{τ:Type}(w:World)(Pl:u6->Prop)(R:Int×Value->τ->Prop)(h:Heap)(S:Addr)(Ms:List τ):Prop:=
 ∃es ep t,h.get? S=some (aW es ep t)/\Tab t es/\t.led=(!cN w)/\Pl t/\au R es.toList Ms/\Ms.Nodup
def Puts(prog:xf)(w:World)(A:v7){τ:Type}(Pl:u6->Prop)(R:Int×Value->τ->Prop)(Vv:Value->τ->Prop)(h0:Heap):Prop:=
 ∀{E:Value->ye->Prop}{s:ye}{S:Addr}{es:Array (Int×Value)}{ep:Nat}{t:u6}{Ms:List τ}{v:Value}{x:τ}{Q:Bool->ye->Prop},
  s.heap.get? S=some (aW es ep t)->Tab t es->Pl t->au R es.toList Ms->es.size<60->Vv v x->eX h0 s.heap->
  (x∈Ms->∀tk,s.toks<=tk->Q false {s with toks:=tk})->
  (x∉Ms->∀tk h' eO t' fi gD,s.toks<=tk->i3 S s.heap h'->h'.get? S=some (aW eO fi t')->Tab t' eO->t'.led=t.led->Pl t'->au R eO.toList gD->gD.Perm (x::Ms)->Q true {s with heap:=h',toks:=tk})->
  wpAny (model prog w) A (setAdd S v) Q E s
section
variable{w:World}{prog:xf}{A:v7}{τ:Type}{Pl:u6->Prop}{R:Int×Value->τ->Prop}{Vv:Value->τ->Prop}
variable{Z:rY->ye->Prop}{I:Addr}{fp wr:List Addr}{G:Array vM->Array vM->Prop}{n:Nat}{P:Nat->Value->Prop}{St:Nat->ye->Prop}
theorem VY{h0:Heap}(qU:Puts prog w A.in1 Pl R Vv h0)(W:WalksS prog w A.in1 I fp wr G n P St)(S:Addr)(FL:S∉fp)(xs:List τ)(hn:xs.length=n)(oR:∀(i:Nat) (Ms:List τ),i<n->Ms.Nodup->(∀y∈Ms,y∈xs.take i)->Ms.length<60)(NW:∀i v,P i v->∃x,xs[i]?=some x/\Vv v x)
  (FM:∀b o,b∈S::wr->h0.get? b=some o->o.cls≠.type "tuple"):
  ∀(k i:Nat) (s:ye) (Ms:List τ),n-i=k->i<=n->St i s->eX h0 s.heap->iF w Pl R s.heap S Ms->(∀y,y∈Ms↔y∈xs.take i)->
   (∀s' gD,Moved (S::wr) G s s'->iF w Pl R s'.heap S gD->(∀y,y∈gD↔y∈xs)->Z (.ok (.ret .none)) s')->
   codeAny (model prog w) A (Sa "set.update.loop" ⟨[.ref S,.ref I],[]⟩) Z s:=by
 skip;have VZ:S∉wr:=λh=>FL (W.sub _ h);have zQ:∀b∈wr,b∈S::wr:=λb hb=>yr _ hb;intro k
 induction k with
 |zero=>
  intro i s Ms hk hi eP hT hS hM hR;obtain rfl:i=n:=by omega
  refine lA y3w ?_;rw[uq NX _];show wpAny _ A.in1 (pyNext (.ref I) >>= _) _ _ s;refine y0 (W.done s _ _ eP λs' hm=>?_);obtain⟨es,ep,t,g,r⟩:=hS;exact yc (hR s' Ms (hm.mono zQ) ⟨es,ep,t,hm.heap S _ VZ g,r⟩ (by rw[<- hn,ut]at hM;exact hM))
 |succ k ih=>
  intro i s Ms hk hi eP hT hS hM hR;have bF:i<n:=by omega
  refine lA y3w ?_;rw[uq NX _];show wpAny _ A.in1 (pyNext (.ref I) >>= _) _ _ s;refine y0 (W.item i s _ _ bF eP λv s' hP FN hm=>?_);obtain⟨x,ex,hv⟩:=NW i v hP;obtain⟨es,ep,t,g,T,l,pl,r,nd⟩:=hS;have NY:eX h0 s'.heap:=λb o c e=>hm.heap b o (λz=>FM b o (yr _ z) e c) (hT b o c e);have g':=hm.heap S _ VZ g;have rl:=r.length;rw[yj]at rl;have tk:xs.take (i+1)=xs.take i++[x]:=by rw[gc,ex];rfl
  have fw:=oR i Ms bF nd λy hy=>(hM y).mp hy;show wpAny _ A.in1 (holding [v] (setAdd S v) >>= _) _ _ s';refine y0 (gu (qU g' T pl r (by omega) hv NY (λlK pk qV=>?_) (λi8 pk h' eO t' fi gD qV sb g2 T2 l2 Iv r2 kD=>?_)))
  ·refine yc ⟨mR NX _,ih (i+1) _ Ms (by omega) bF (W.frame _ s' _ _ FN qV λb hb o e=>e) NY ⟨es,ep,t,g',T,l,pl,r,nd⟩ (λy=>?_) λpX gD zR zS zT=>?_⟩
   ·rw[tk,yw,y9,hM];exact⟨.inl,λz=>z.elim id λe=>by rw[e,<- hM];exact lK⟩
   ·exact hR pX gD (yek W.gtrans ((hm.mono zQ).then_heap qV λb o hb e=>e) zR) zS zT
  ·have NZ:∀b o,b≠S->s'.heap.get? b=some o->h'.get? b=some o:=λb o z e=>by rw[sb.2 b z];exact e
   refine yc ⟨mR NX _,ih (i+1) _ gD (by omega) bF (W.frame _ s' _ _ FN qV λb hb o e=>NZ b o (λz:b=S=>FL (by rw[<- z];exact hb)) e) (λb o c e=>NZ b o (λz=>FM b o (by rw[z];exact yu) e c) (NY b o c e)) ⟨eO,fi,t',g2,T2,l2.trans l,Iv,r2,kD.nodup_iff.mpr (kX.mpr ⟨i8,nd⟩)⟩ (λy=>?_) λpX N0 zR zS zT=>?_⟩
   ·rw[tk,yw,y9,kD.mem_iff,xc,hM];exact⟨λz=>z.symm,λz=>z.symm⟩
   ·refine hR pX N0 (yek W.gtrans ((hm.mono zQ).then_heap qV λb o hb e=>?_) zR) zS zT;exact NZ b o (λz=>hb (by rw[z];exact yu)) e
end
section
variable{prog:xf}{w:World}{A:v7}{E:Value->ye->Prop}{s:ye}
set_option maxHeartbeats 8000000 in
theorem V0{τ:Type}{Pl:u6->Prop}{R:Int×Value->τ->Prop}{Vv:Value->τ->Prop}{l:Addr}{items:Array Value}{xs:List τ}{Q:Value->ye->Prop}(hh:A.handled=none)(qU:Puts prog w A.in1.in1.in1 Pl R Vv s.heap)(jF:∀t:u6,t.plain=true->Pl t)(hl:s.heap.IsList l items\/s.heap.IsTuple l items)(hz:xs.length=items.size)(hi:∀(i:Nat) (v:Value),items[i]?=some v->∃x,xs[i]?=some x/\Vv v x)(oR:∀(i:Nat) (Ms:List τ),i<items.size->Ms.Nodup->(∀y∈Ms,y∈xs.take i)->Ms.length<60)
  (h:∀(h':Heap) (tk:Nat) (Ms:List τ),iF w Pl R h' s.heap.objs.size Ms->(∀y,y∈Ms↔y∈xs)->(∀b o,b<s.heap.objs.size->s.heap.get? b=some o->h'.get? b=some o)->Q (.ref s.heap.objs.size) {s with heap:=h',toks:=tk}):
  wpAny (model prog w) A (call (kR "set") [.ref l]) Q E s:=by
 obtain⟨c,tl,Qb1⟩:=zU.mro;have V1:=zU.made;have Ey:=zU.sub;refine K4 (yci ?_);show wpAny _ _ (callAny (.type "set") _) _ _ _;refine yc ⟨yaf _ (by decide +kernel),lA PySem.F.entry_type_call ?_⟩;skip;rw[Around.under_plain (weight_type_call_type "set" [.ref l] []) rfl];have h1:=zU.notType;have h2:=zU.canCreate;have hct:=PySem.F.typeCall_set_1 (.ref l);skip;repeat (any_goals (first|assumption|wp_step))
 refine wq (jjp (.ref l) (E:=E) (QN:=λobj s₁=>obj=.ref s.heap.objs.size/\s₁={s with heap:=s.heap.push (newSet (!cN w))}) ⟨rfl,rfl⟩) λr s₁ hr=>?_;cases r with
 |error e=>exact hr
 |ok fl=>
  cases fl with
  |ret obj=>
   obtain⟨rfl,rfl⟩:=hr;have hS:(s.heap.push (newSet (!cN w))).get? s.heap.objs.size=some (newSet (!cN w)):=yi _ rfl;have hT:Np {s with heap:=s.heap.push (newSet (!cN w))} (.ref s.heap.objs.size) "set":=⟨_,hS,rfl⟩
   have hli:=zU.init.lookup;have hbi:=zU.init.bind (.ref s.heap.objs.size);skip;repeat (any_goals (first|assumption|wp_step))
   refine wq (codeAny_call_builtin (R:=wants (λr s₂=>r=.none/\∃h' tk Ms,s₂={s with heap:=h',toks:=tk}/\iF w Pl R h' s.heap.objs.size Ms/\(∀y,y∈Ms↔y∈xs)/\(∀b o,b<s.heap.objs.size->s.heap.get? b=some o->h'.get? b=some o)) E) zU.init.plain PySem.F.entry_set_init (check_set_init_1 hT ?_)) λr₂ s₂ nC=>?_
   ·have V2:l<s.heap.objs.size:=(by rcases hl with⟨o,e,_⟩|⟨o,e,_⟩<;>exact yt e);have V3:A.in1.in1.in1.handled=none:=hh;have FO:l≠(s.heap.push (newSet (!cN w))).objs.size:=(by rw[vq];exact xn (ui V2));have FL:s.heap.objs.size∉[(s.heap.push (newSet (!cN w))).objs.size,l]:=by
     rw[vq];simp only[xc,oW,or_false,not_or];skip;exact⟨xn (Bh _),jZ V2⟩
    have uC:∀b,s.heap.objs.size<=b->s.heap.get? b=none:=λb hb=>ZP hb;have FM:∀b o,b∈s.heap.objs.size::[(s.heap.push (newSet (!cN w))).objs.size]->s.heap.get? b=some o->o.cls≠.type "tuple":=by
     intro b o hb e;skip;rcases xc.mp hb with rfl|hb
     ·rw[uC _ (yg _)]at e;cases e
     ·rw[y9.mp hb,uC _ (by rw[vq];exact i6 _)]at e;cases e
    have fin:∀(it:Obj) s' gD,Moved (s.heap.objs.size::[(s.heap.push (newSet (!cN w))).objs.size]) (λa b=>b=a) {s with heap:=(s.heap.push (newSet (!cN w))).push it} s'->iF w Pl R s'.heap s.heap.objs.size gD->(∀y,y∈gD↔y∈xs)->∃h' tk Ms,s'={s with heap:=h',toks:=tk}/\iF w Pl R h' s.heap.objs.size Ms/\(∀y,y∈Ms↔y∈xs)/\(∀b o,b<s.heap.objs.size->s.heap.get? b=some o->h'.get? b=some o):=by
     intro it s' gD hm gB bL;obtain⟨h',g',d',t',o'⟩:=s';skip;have eg:g'=s.gens:=hm.gens;skip;have ed:d'=s.drawn:=hm.drawn;have eo:o'=s.os:=hm.os;subst eg ed eo;refine⟨h',t',gD,rfl,gB,bL,λb o hb e=>hm.heap b o ?_ (yb _ (yb _ e))⟩;rw[vq];simp only[xc,oW,or_false,not_or];exact⟨xn hb,xn (ui hb)⟩
    have S0:∀o,iF w Pl R ((s.heap.push (newSet (!cN w))).push o) s.heap.objs.size []:=λo=>⟨#[],0,_,yb _ hS,⟨.inl rfl,rfl,Lv,rfl,by show 0*5<7*3;decide,λj hj=>by simp[SetTable.fresh]at hj,λi hi=>by simp at hi⟩,rfl,jF _ rfl,.nil,DG⟩
    rcases hl with hl|hl
    ·obtain⟨⟨zV,nD,nE,ju⟩,N1,gZ,nl,zW⟩:=hl;replace gZ:zV=.type "list":=gZ;replace zW:nE=.seq items nl:=zW;subst gZ zW;have qW:(s.heap.push (newSet (!cN w))).get? l=some {cls:=.type "list",dict:=nD,data:=.seq items nl,slots:=ju}:=yb _ N1;have N2:=PySem.F.sub_list_set;have N3:=PySem.F.sub_list_frozenset;skip;have bO:(kR "list" == kR "dict")=false:=by decide
     have zX:(s.heap.push (newSet (!cN w))).IsList l items:=⟨_,qW,rfl,nl,rfl⟩
     unfold Builtin.«set.__init__» noKeywords y6c;generalize N4:pyIter=PI;wp_walk;subst N4;refine RP zX (y0 (Iw ?_));refine VY qU ((Walks.list V3 _ l FO items).toS) s.heap.objs.size FL xs hz oR hi FM (items.size-0) 0 _ [] (by omega) (gn _) ⟨⟨_,yi _ rfl,rfl,rfl⟩,zX.push _⟩ (λb o _ e=>yb _ (yb _ e)) (S0 _) (λy=>by simp) λs' gD hm gB bL=>?_;show wpAny _ _ _ _ _ _;refine yc ?_;show wpAny _ _ (ret uy) _ _ _;exact yc ⟨rfl,fin _ s' gD hm gB bL⟩
    ·obtain⟨⟨zV,nD,nE,ju⟩,N1,gZ,nl,zW⟩:=hl;replace gZ:zV=.type "tuple":=gZ;replace zW:nE=.seq items nl:=zW;subst gZ zW;have qW:(s.heap.push (newSet (!cN w))).get? l=some {cls:=.type "tuple",dict:=nD,data:=.seq items nl,slots:=ju}:=yb _ N1;have N2:=jg2;have N3:=jd1;skip;have bO:(kR "tuple" == kR "dict")=false:=by decide
     have zX:(s.heap.push (newSet (!cN w))).IsTuple l items:=⟨_,qW,rfl,nl,rfl⟩
     unfold Builtin.«set.__init__» noKeywords y6c;generalize N4:pyIter=PI;wp_walk;subst N4;refine RQ zX (y0 (Iw ?_));refine VY qU ((Walks.tuple V3 _ l FO items).toS) s.heap.objs.size FL xs hz oR hi FM (items.size-0) 0 _ [] (by omega) (gn _) ⟨⟨_,yi _ rfl,rfl,rfl⟩,⟨_,yb _ qW,rfl,nl,rfl⟩⟩ (λb o _ e=>yb _ (yb _ e)) (S0 _) (λy=>by simp) λs' gD hm gB bL=>?_;show wpAny _ _ _ _ _ _;refine yc ?_;show wpAny _ _ (ret uy) _ _ _;exact yc ⟨rfl,fin _ s' gD hm gB bL⟩
   ·cases r₂ with
    |error e=>exact nC
    |ok FP=>
     cases FP with
     |ret r=>
      skip;obtain⟨rfl,h',tk,Ms,rfl,gB,bL,eW⟩:=nC;skip;repeat (any_goals (first|assumption|wp_step))
      exact h _ _ _ gB bL eW
     |_=>exact nC.elim
  |_=>exact hr.elim
end
end L2
set_option Elab.async false
set_option linter.all false
set_option maxRecDepth 100000
set_option maxHeartbeats 4000000
namespace L2
open PySem PySem.Spec PyProof.Rows PySem.W
abbrev nF:List Int->List Key:=List.map fU
abbrev kE:List Str->List Key:=List.map ij
theorem FQ:∀{a b:List Int},nF a=nF b->a=b
 |[],[],_=>rfl
 |[],_::_,h=>by cases h
 |_::_,[],h=>by cases h
 |x::a,y::b,h=>by
  injection h with h1 h2;injection h1 with h1;rw[h1,FQ h2]
theorem FR:∀{a b:List Str},kE a=kE b->a=b
 |[],[],_=>rfl
 |[],_::_,h=>by cases h
 |_::_,[],h=>by cases h
 |x::a,y::b,h=>by
  injection h with h1 h2;injection h1 with h1;rw[h1,FR h2]
theorem Jy{α β:Type}{f:β->α}{p:β->Prop}:∀{l:List α},(∀x∈l,∃z,x=f z/\p z)->∃m:List β,l=m.map f/\∀z∈m,p z
 |[],_=>⟨[],rfl,λz h=>by cases h⟩
 |x::l,h=>by
  obtain⟨z,e,hz⟩:=h x yu;obtain⟨m,e2,hm⟩:=Jy λy hy=>h y (yr _ hy);exact⟨z::m,by rw[e,e2];rfl,λy hy=>by
   skip;rcases xc.mp hy with rfl|hy
   ·exact hz
   ·exact hm y hy⟩
theorem V4{α:Type}{Ms:List (List α)}{L:List α}:(∃i,i<Ms.length/\Ms.getD i []=L)↔L∈Ms:=by
 constructor
 ·rintro⟨i,hi,e⟩;rw[y8,y4 hi]at e;rw[<- e];exact ua hi
 ·intro h;obtain⟨i,hi,e⟩:=vd h;exact⟨i,hi,by rw[y8,y4 hi];exact e⟩
def uD(prog:xf)(w:World)(Z:Addr->List Key->Prop)(h0:Heap)(v:Value)(L:List Key):Prop:=∃a,v=.ref a/\jO (cJ prog w) h0 L a/\Z a L
def N5(prog:xf)(w:World)(Z:Addr->List Key->Prop)(h0:Heap)(e:Int×Value)(L:List Key):Prop:=e.1=tupleKeyHash (cJ prog w) L/\uD prog w Z h0 e.2 L
def FS(v:Value)(x:Int):Prop:=∃t,v=.int x t
def Jz(e:Int×Value)(x:Int):Prop:=∃t,e=(hashInt x,.int x t)
section
variable{prog:xf}{w:World}{A:v7}{E:Value->ye->Prop}{s:ye}{Z:Addr->List Key->Prop}{h0:Heap}
theorem N6{h h':Heap}{L:List Key}{a:Addr}(k:jO (cJ prog w) h L a)(e:eX h h'):jO (cJ prog w) h' L a:=by
 obtain⟨o,items,n,ho,hc,r⟩:=k;exact⟨o,items,n,e a o hc ho,hc,r⟩
theorem jgo(hu:A.units<cLine):Puts prog w A (λ_=>True) (N5 prog w Z h0) (uD prog w Z h0) h0:=by
 intro E s S es ep t Ms v L Q g T _ r hb hv hT h1 h2;obtain⟨a,rfl,V5,hz⟩:=hv;have eW:=N6 V5 hT;have rl:=r.length;rw[yj]at rl;skip;unfold setAdd;refine gu ?_;refine y0 (wpAny_pyHash_tuple hu eW ?_);have qV:s.toks<=s.toks+(L.length+1):=by omega
 generalize s.toks+(L.length+1)=pk at qV ⊢;have at_:∀(i:Nat) (hi:i<es.size),N5 prog w Z h0 es[i] (Ms.getD i []):=λi hi=>by
  obtain⟨M,e1,e2⟩:=r.at (i:=i) (a:=es[i]) (by rw[xr];exact yh hi)
  rw[y8,e1];exact e2
 have N7:zm prog w A E {s with toks:=pk} es (.ref a) (tupleKeyHash (cJ prog w) L) (λi=>Ms.getD i []) L:=by
  refine⟨λi hi e=>?_,λi hi Q q=>?_,λi hi=>?_,λl hl Q q=>?_⟩
  ·rw[(at_ i hi).1,e]
  ·obtain⟨_,b,x1,x2,_⟩:=at_ i hi;rw[x1];exact V6 (s:={s with toks:=pk}) hu (N6 x2 hT) eW q
  ·obtain⟨_,b,x1,_⟩:=at_ i hi;exact⟨b,x1⟩
  ·refine jgn (s:={s with toks:=pk}) eW (λy hy=>?_) q;obtain⟨i,hi,e⟩:=hl y hy;obtain⟨_,b,x1,x2,_⟩:=at_ i hi;exact⟨b,_,by rw[e,x1],N6 x2 hT⟩
 refine jk8 (s:={s with toks:=pk}) g T hb N7 (λQ q=>joh (s:={s with toks:=pk}) eW q) (λlK=>?_) (λi8 h' eO t' fi sb g2 T2 l2 pm=>?_)
 ·obtain⟨j,hj,e⟩:=lK;exact h1 (V4.mp ⟨j,by omega,e⟩) pk qV
 ·obtain⟨gD,r2,kD⟩:=au.perm pm (.cons ⟨rfl,a,rfl,V5,hz⟩ r);refine h2 (λz=>?_) pk h' eO t' fi gD qV sb g2 T2 l2 trivial r2 kD;obtain⟨j,hj,e⟩:=V4.mpr z;exact i8 j (by omega) e
theorem jkr{es:List (Int×Value)}{ns:List Int}(r:au Jz es ns):bG es ns:=by
 induction r with
 |nil=>exact .nil
 |cons x _ ih=>obtain⟨t,rfl⟩:=x;exact .cons ih
theorem jks{es:List (Int×Value)}{ns:List Int}(r:bG es ns):au Jz es ns:=by
 induction r with
 |nil=>exact .nil
 |cons _ ih=>exact .cons ⟨_,rfl⟩ ih
theorem jgp:Puts prog w A (λt=>t.plain=true) Jz FS h0:=by
 intro E s S es ep t Ms v x Q g T pl r hb hv hT h1 h2;obtain⟨tt,rfl⟩:=hv;skip;unfold setAdd;refine gu ?_;refine y0 ((intKind prog w).pyHash (k:=x) (Ju _ _ _ _) ?_);exact add_int (s:={s with toks:=s.toks+1}) g T pl (jkr r) hb (λlK=>h1 lK (s.toks+1) (i6 _)) λi8 h' eO t' fi ks' sb g2 T2 l2 p2 r2 pm=>h2 i8 (s.toks+1) h' eO t' fi ks' (i6 _) sb g2 T2 l2 p2 (jks r2) pm
def JA(prog:xf)(w:World)(A:v7){τ:Type}(Vv:Value->τ->Prop)(lt:τ->τ->Prop)(h0:Heap)(G:List τ->Prop):Prop:=
 ∀{E:Value->ye->Prop}{s:ye}{a:Addr}{n:Nat}{us:List Value}{Xs:List τ}{P:IF->ye->Prop},au Vv us Xs->G Xs->eX h0 s.heap->s.heap.get? a=some (seqObj "list" us.toArray n)->us.length<64->
  (∀jR FT,au Vv jR FT->FT.Perm Xs->FT.Pairwise (λa b=>¬ lt b a)->P (.done (.ret .none)) {s with heap:=sortedHeap s.heap a us jR.toArray})->
  wpAny (model prog w) A (Builtin.«list.sort» ⟨[.ref a],[]⟩) P E s
theorem je2{τ:Type}{Xs:List τ}(d:τ){p:Array Nat}(ok:dD Xs.length p):(p.toList.map λi=>Xs.getD i d).Perm Xs:=by
 refine(ok.map _).trans ?_;have:(vi Xs.length).map (λi=>Xs.getD i d)=Xs:=by
  refine ER λi=>?_;by_cases hi:i<Xs.length
  ·simp[hi]
  ·simp[hi]
 rw[this]
theorem V7{us:List Value}{ns:List Int}(r:au FS us ns):fW us ns:=by
 induction r with
 |nil=>exact .nil
 |cons x _ ih=>obtain⟨t,rfl⟩:=x;exact .cons _ _ ih
theorem jgq{us:List Value}{ns:List Int}(r:fW us ns):au FS us ns:=by
 induction r with
 |nil=>exact .nil
 |cons n t _ ih=>exact .cons ⟨t,rfl⟩ ih
theorem jgr:JA prog w A FS (· < ·) h0 (λ_=>True):=by
 intro E s a n us Xs P r _ hT g fZ h;exact Ub g (V7 r) fZ λout bB a1 a2 a3=>by
  have:=h out.toList bB (jgq a1) a2 (a3.imp λz k=>absurd k (by omega));simpa using this
theorem V8{τ:Type}{Pl:u6->Prop}{R:Int×Value->τ->Prop}{Vv:Value->τ->Prop}{lt:τ->τ->Prop}{G:List τ->Prop}{S:Addr}{Ms:List τ}{Q:Value->ye->Prop}(hh:A.handled=none)(hS:iF w Pl R s.heap S Ms)(hRV:∀{e x},R e x->Vv e.2 x)(fZ:Ms.length<64)(hG:∀Xs:List τ,Xs.Perm Ms->G Xs)(hk:eX h0 s.heap)(FU:JA prog w A.in1.in1 Vv lt h0 G)
  (h:∀(s':ye) (h':Heap) (a:Addr) (out:List Value) (e:Nat) (Xs:List τ),(∀b o,s.heap.get? b=some o->h'.get? b=some o)->S<a->h'.get? a=some (seqObj "list" out.toArray e)->au Vv out Xs->Xs.Perm Ms->Xs.Pairwise (λa b=>¬ lt b a)->Q (.ref a) {s with heap:=h',toks:=s'.toks,drawn:=s'.drawn}):wpAny (model prog w) A (call (.builtin "sorted") [.ref S]) Q E s:=by
 obtain⟨es,ep,t,g,T,dF,_,hr,nd⟩:=hS;have rl:=hr.length;rw[yj]at rl;have hz:es.size<=sizeLine:=by rw[xx];omega
 refine BH EA EB EC (ED _) ?_;skip;unfold EE;refine y0 (m:=checkCount "sorted" 1 1 _) (yc (y0 (jbk hh g T dF hz λs' d acc hm ha=>?_)));obtain⟨M1,rv,p1⟩:=au.perm ha (hr.map (R':=Vv) (f:=Prod.snd) λz=>hRV z);have l1:=rv.length;have l2:=p1.length_eq;skip;refine y0 (qI ?_ (by rw[xx];omega));have o1:(s'.heap.push (seqObj "list" acc.toArray 0)).get? s'.heap.objs.size=some (seqObj "list" acc.toArray 0):=yi _ rfl;have le:S<s'.heap.objs.size:=yt (hm.heap S _ (by simp) g);have kt:eX h0 (s'.heap.push (seqObj "list" acc.toArray 0)):=λb o c e=>yb _ (hm.heap b o (by simp) (hk b o c e));refine y0 (gu (gj EF ⟨_,o1,rfl⟩ EG (FU (s:={s' with heap:=s'.heap.push (seqObj "list" acc.toArray 0)}) rv (hG _ p1) kt o1 (by omega) λjR FT r' pm pw=>⟨_,rfl,yc ⟨_,rfl,?_⟩⟩) (EH _)));obtain⟨h',g',d',t',q'⟩:=s';skip;have eg:g'=s.gens:=hm.gens;skip;have ed:d'=d:=hm.drawn;have eo:q'=s.os:=hm.os;subst eg eo;obtain⟨e,he⟩:=NH (out:=jR.toArray) o1;refine h ⟨h',s.gens,d',t',s.os⟩ _ _ jR e FT (λb o eb=>?_) le he r' (pm.trans p1) pw;have hb:=hm.heap b o (by simp) eb;have lb:=yt hb;refine(NI (xn lb) ?_).trans (yb _ hb);rw[vq];exact ui lb
end
end L2
set_option Elab.async false
set_option linter.all false
set_option maxRecDepth 100000
set_option maxHeartbeats 4000000
namespace L2
open PySem PySem.Spec PyProof.Rows PySem.W
def h6(x:Str):List Int:=x.cps.toList.map λ(n:Nat)=>(n:Int)
theorem uE{α β:Type}[LT α][LT β]{f:α->β}(hf:∀{a b},f a<f b↔a<b)(hi:∀{a b},f a=f b->a=b):∀{l m:List α},l.map f<m.map f↔l<m
 |[],[]=>⟨λh=>absurd h (uF _),λh=>absurd h (uF _)⟩
 |[],_::_=>⟨λ_=>N8 _ _,λ_=>N8 _ _⟩
 |_::_,[]=>⟨λh=>absurd h (uF _),λh=>absurd h (uF _)⟩
 |a::l,b::m=>by
  rw[xu,xu,zY,zY,hf,uE hf hi];exact or_congr FV (and_congr_left λ_=>⟨hi,λe=>by rw[e]⟩)
theorem pq{α:Type}[LT α]{a b:α}:[a]<[b]↔a<b:=by
 rw[zY];exact⟨λh=>h.elim id λz=>absurd z.2 (uF _),.inl⟩
theorem V9{x y:Str}:h6 x<h6 y↔x.cps.toList<y.cps.toList:=uE Wa FW
theorem zZ{x y:Str}(h:h6 x=h6 y):x=y:=Vr (uw (λa b e=>FW e) |>.mp h)
inductive C where|i|t|r (b:Bool)
def FX:C->Bool
 | .r _=>false
 |_=>true
def kF:Bool->Value->List Int->Prop
 |false,v,x=>∃n t,v=.int n t/\x=[n]
 |true,v,x=>∃n t,v=.str n t/\x=h6 n
def B1(h:Heap):C->Value->List (List Int)->Prop
 | .i,v,x=>∃X,x=[X]/\kF false v X
 | .t,v,x=>∃X,x=[X]/\kF true v X
 | .r b,v,x=>∃a ai,v=.ref a/\IsTup h a ai/\au (kF b) ai.toList x
def jS(h:Heap):(Nat->C)->List Value->List (List (List Int))->Prop
 |_,[],[]=>True
 |kd,v::vs,x::xs=>B1 h (kd 0) v x/\jS h (λi=>kd (i+1)) vs xs
 |_,_,_=>False
def Rw(h:Heap)(kd:Nat->C)(v:Value)(X:List (List (List Int))):Prop:=∃a ai,v=.ref a/\IsTup h a ai/\jS h kd ai.toList X
theorem Wb{h h':Heap}(e:eX h h'){a:Addr}{ai:Array Value}(k:IsTup h a ai):IsTup h' a ai:=by
 obtain⟨o,ho,hc,r⟩:=k;exact⟨o,e a o hc ho,hc,r⟩
theorem jS.keep{h h':Heap}(e:eX h h'):∀{kd:Nat->C}{vs:List Value}{xs:List (List (List Int))},jS h kd vs xs->jS h' kd vs xs
 |_,[],[],_=>trivial
 |kd,_::_,_::_,⟨h1,h2⟩=>by
  refine⟨?_,jS.keep e h2⟩;generalize kd 0=c at h1;cases c with
  |i=>exact h1
  |t=>exact h1
  |r b=>obtain⟨a,ai,k1,k2,k3⟩:=h1;exact⟨a,ai,k1,Wb e k2,k3⟩
 |_,[],_::_,z=>z.elim
 |_,_::_,[],z=>z.elim
theorem Rw.keep{h h':Heap}(e:eX h h'){kd:Nat->C}{v:Value}{X:List (List (List Int))}(k:Rw h kd v X):Rw h' kd v X:=let ⟨a,ai,k1,k2,k3⟩:=k;⟨a,ai,k1,Wb e k2,k3.keep e⟩
theorem jS.length{h:Heap}:∀{kd:Nat->C}{vs:List Value}{xs:List (List (List Int))},jS h kd vs xs->vs.length=xs.length
 |_,[],[],_=>rfl
 |_,_::_,_::_,⟨_,h2⟩=>by rw[yn,yn,jS.length h2]
 |_,[],_::_,z=>z.elim
 |_,_::_,[],z=>z.elim
theorem Wc{prog:xf}{w:World}{vs:List Value}{x:List (List Int)}(r:au (kF false) vs x):∃ns:List Int,x=ns.map (λn=>[n])/\ItemsAre (cJ prog w) (nF ns) vs:=by
 induction r with
 |nil=>exact⟨[],rfl,.nil⟩
 |cons h _ ih=>
  obtain⟨n,t,rfl,rfl⟩:=h;obtain⟨ns,rfl,k⟩:=ih;exact⟨n::ns,rfl,.cons (Hs _ _ n t) k⟩
theorem Wd{prog:xf}{w:World}{vs:List Value}{x:List (List Int)}(r:au (kF true) vs x):∃ns:List Str,x=ns.map h6/\ItemsAre (cJ prog w) (kE ns) vs:=by
 induction r with
 |nil=>exact⟨[],rfl,.nil⟩
 |cons h _ ih=>
  obtain⟨n,t,rfl,rfl⟩:=h;obtain⟨ns,rfl,k⟩:=ih;exact⟨n::ns,rfl,.cons (Ht _ _ n t) k⟩
@[reducible] def FY:KeyOrd where
 α:=List (List (List Int))
 blt a b:=decide (a<b)
 irrefl x:=by simpa using FZ x
 trans x y z h1 h2:=by simp only[decide_eq_true_eq] at *;exact N9 h1 h2
 negTrans a b c h:=by
  skip;simp only[decide_eq_true_eq] at *;by_cases Jf:a<b
  ·exact .inl Jf
  ·skip;exact .inr (ya7 (jP.mp Jf) h)
 total x y h1 h2:=by simp only[decide_eq_false_iff_not] at *;exact Ji (jP.mp h2) (jP.mp h1)
def kG{α:Type}[DecidableEq α][LT α][DecidableLT α]:List α->List α->Bool->Bool
 |x::xs,y::ys,e=>if x=y then kG xs ys e else decide (x<y)
 |_,_,e=>e
theorem JB{α:Type}[DecidableEq α][LT α][DecidableLT α](ir:∀x:α,¬ x<x):∀xs ys:List α,kG xs ys (decide (xs.length<ys.length))=decide (xs<ys)
 |[],[]=>by rw[decide_eq_false (uF ([]:List α))];rfl
 |[],y::ys=>by rw[decide_eq_true (N8 y ys)];exact decide_eq_true (I0 _)
 |x::xs,[]=>by rw[decide_eq_false (uF (x::xs))];exact decide_eq_false (Nat.not_lt_zero _)
 |x::xs,y::ys=>by
  show(if x=y then kG xs ys (decide (xs.length+1<ys.length+1))else decide (x<y))=_;have:=JB ir xs ys;by_cases c:x=y
  ·subst c;rw[if_pos rfl,decide_eq_decide.mpr (y7f),this];exact decide_eq_decide.mpr ⟨λh=>zY.mpr (.inr ⟨rfl,h⟩),λh=>(zY.mp h).elim (λz=>absurd z (ir _)) λz=>z.2⟩
  ·rw[if_neg c];exact decide_eq_decide.mpr ⟨λh=>zY.mpr (.inl h),λh=>(zY.mp h).elim id λz=>absurd z.1 c⟩
theorem jgs{α:Type}[DecidableEq α][LT α][DecidableLT α](ir:∀x:α,¬ x<x)(x y:α)(xs ys:List α):decide (x::xs<y::ys)=if x=y then decide (xs<ys)else decide (x<y):=by
 rw[<- JB ir,<- JB ir xs ys];show(if x=y then kG xs ys (decide (xs.length+1<ys.length+1))else decide (x<y))=_;rw[decide_eq_decide.mpr (y7f)]
theorem Ga(A:v7)(s:ye){b:Bool}{u v:Value}{x y:List Int}(hx:kF b u x)(hy:kF b v y):∃e,HV A s u v e/\(e=true↔x=y):=by
 cases b with
 |false=>
  obtain⟨n,t,rfl,rfl⟩:=hx;obtain⟨m,q,rfl,rfl⟩:=hy;exact⟨(n==m),yam n t m q,by simp⟩
 |true=>
  obtain⟨n,t,rfl,rfl⟩:=hx;obtain⟨m,q,rfl,rfl⟩:=hy;exact⟨(n==m),Ld n t m q,by rw[beq_iff_eq];exact⟨λe=>by rw[e],zZ⟩⟩
theorem Gb(A:v7)(s:ye){b:Bool}{u v:Value}{x y:List Int}(hx:kF b u x)(hy:kF b v y)(prog:xf)(w:World)(E:Value->ye->Prop)(Q:Value->ye->Prop)(h:Q (.bool (decide (x<y))) s):wpAny (model prog w) A (richCompare .Lt u v) Q E s:=by
 cases b with
 |false=>
  obtain⟨n,t,rfl,rfl⟩:=hx;obtain⟨m,q,rfl,rfl⟩:=hy;rw[decide_eq_decide.mpr pq]at h;exact(yem h:wpAny (model prog w) A (compareOp .Lt (.int n t) (.int m q)) Q E s)
 |true=>
  obtain⟨n,t,rfl,rfl⟩:=hx;obtain⟨m,q,rfl,rfl⟩:=hy;rw[decide_eq_decide.mpr V9]at h;exact(yen h:wpAny (model prog w) A (compareOp .Lt (.str n t) (.str m q)) Q E s)
section
open PySem.SeqAt
open PySem.AutoSeq1 (wpAny_loadPart')
open PySem.MeetsSeq PySem.MeetsSeq2 PySem.MeetsSeq3
theorem jgt(c0:Bool)(l b:Addr)(xs ys:Array Value)(n m:Nat)(dl db:Option Addr)(sl sb:Array (Option Value))(L M:List (List Int))(hi:au (kF c0) xs.toList L)(hj:au (kF c0) ys.toList M):
  Meets (Builtin.«tuple.__lt__» ⟨[.ref l,.ref b],[]⟩)
   (λ_ R s=>s.heap.get? l=some {cls:=.type "tuple",dict:=dl,data:=.seq xs n,slots:=sl}/\s.heap.get? b=some {cls:=.type "tuple",dict:=db,data:=.seq ys m,slots:=sb}/\R (.ok (.ret (.bool (decide (L<M))))) s):=
 .of_wp λprog w A R s h=>by
  skip;obtain⟨hp,g,d,tk,os⟩:=s;obtain⟨gl,gb,h⟩:=h;have tt:=AutoSeq1.sub_tuple_tuple;have z1:xs.size=L.length:=by rw[<- hi.length];simp
  have z2:ys.size=M.length:=by rw[<- hj.length];simp
  wp_walk using y3b gl,y3b gb,NV _ (λbr r s'=>r.1=none/\s'=⟨hp,g,d,tk,os⟩/\∃(vs ws:List Value) (L' M':List (List Int)),br=vs.zip ws/\au (kF c0) vs L'/\au (kF c0) ws M'/\L'.length+ys.size=M'.length+xs.size/\R (.ok (.ret (.bool (decide (L'<M'))))) ⟨hp,g,d,tk,os⟩) _
  case turn=>
   rintro⟨y,x⟩ br r s' ⟨hr,rfl,vs,ws,L',M',hz,hv,hw,hl,hR⟩;cases hv with
   |nil=>exact absurd hz (by rw[List.zip_nil_left];simp)
   |cons ha Dc=>
    cases hw with
    |nil=>exact absurd hz (by rw[List.zip_nil_right];simp)
    |cons hc px=>
     rw[yaj]at hz;obtain⟨q1,q2⟩:=ydu hz;obtain⟨rfl,rfl⟩:=Prod.mk.inj q1;rw[jgs (λx=>FZ x)]at hR;rw[yn,yn]at hl;obtain⟨e,he,hf⟩:=Ga A.in1 ⟨hp,g,d,tk,os⟩ ha hc;refine y0 (he prog w _ _ ?_);cases e with
     |true=>
      rw[if_pos (hf.mp rfl)]at hR
      wp_walk
      exact⟨rfl,rfl,_,_,_,_,q2,Dc,px,by omega,hR⟩
     |false=>
      rw[if_neg (λz=>xj (hf.mpr z))]at hR;have ask:=Gb A.in1 ⟨hp,g,d,tk,os⟩ ha hc prog w
      wp_walk using ask
      exact⟨_,rfl,by simpa using hR⟩
  case fin=>
   rintro⟨r1,r2⟩ s' ⟨hr,rfl,vs,ws,L',M',hz,hv,hw,hl,hR⟩;dsimp only at hr;subst hr;have key:decide (L'<M')=decide (xs.size<ys.size):=by
    cases hv with
    |nil=>
     cases hw with
     |nil=>
      rw[ub]at hl;rw[decide_eq_false (uF ([]:List (List Int))),decide_eq_false (by omega)]
     |cons hc hw=>
      rw[ub,yn]at hl;rw[decide_eq_true (N8 _ _),decide_eq_true (by omega)]
    |cons ha hv=>
     cases hw with
     |nil=>
      rw[ub,yn]at hl;rw[decide_eq_false (uF _),decide_eq_false (by omega)]
     |cons hc hw=>exact absurd hz (by rw[yaj];simp)
   rw[key]at hR
   wp_walk
   exact⟨_,rfl,by simpa[yav] using hR⟩
  case h=>exact⟨rfl,rfl,xs.toList,ys.toList,L,M,rfl,hi,hj,by omega,h⟩
end
section
variable{prog:xf}{w:World}{A:v7}{E:Value->ye->Prop}{s:ye}
theorem z9(hu:A.units<cLine){c:C}{u v:Value}{x y:List (List Int)}{Q:Bool->ye->Prop}(hx:B1 s.heap c u x)(hy:B1 s.heap c v y)(h:Q (decide (x=y)) s):wpAny (model prog w) A (eqBool u v) Q E s:=by
 cases c with
 |i=>
  obtain⟨_,rfl,n,t,rfl,rfl⟩:=hx;obtain⟨_,rfl,m,q,rfl,rfl⟩:=hy;refine(cJ prog w).eqBool (Hs _ _ n t) (Hs _ _ m q) ?_;rw[show decide ((fU n:Key)=.inl m)=decide ([[n]]=[[m]])from decide_eq_decide.mpr ⟨λe=>by cases e;rfl,λe=>by cases e;rfl⟩];exact h
 |t=>
  obtain⟨_,rfl,n,t,rfl,rfl⟩:=hx;obtain⟨_,rfl,m,q,rfl,rfl⟩:=hy;refine(cJ prog w).eqBool (Ht _ _ n t) (Ht _ _ m q) ?_;rw[show decide ((ij n:Key)=.inr m)=decide ([h6 n]=[h6 m])from decide_eq_decide.mpr ⟨λe=>by cases e;rfl,λe=>by injection e with e _;rw[zZ e]⟩];exact h
 |r b=>
  obtain⟨a,is,rfl,⟨o,ho,hc,n,hd⟩,k1⟩:=hx;obtain⟨a',JC,rfl,⟨o',nY,pK,n',A6⟩,k2⟩:=hy;cases b with
  |false=>
   obtain⟨ns,rfl,j1⟩:=Wc (prog:=prog) (w:=w) k1;obtain⟨ms,rfl,j2⟩:=Wc (prog:=prog) (w:=w) k2;refine V6 hu ⟨o,is,n,ho,hc,hd,j1⟩ ⟨o',JC,n',nY,pK,A6,j2⟩ ?_;rw[show decide (nF ns=nF ms)=decide (ns.map (λn=>[n])=ms.map (λn=>[n]))from decide_eq_decide.mpr ⟨λe=>by rw[FQ e],λe=>by rw[(uw (λa b e=>by injection e)).mp e]⟩];exact h
  |true=>
   obtain⟨ns,rfl,j1⟩:=Wd (prog:=prog) (w:=w) k1;obtain⟨ms,rfl,j2⟩:=Wd (prog:=prog) (w:=w) k2;refine V6 hu ⟨o,is,n,ho,hc,hd,j1⟩ ⟨o',JC,n',nY,pK,A6,j2⟩ ?_;rw[show decide (kE ns=kE ms)=decide (ns.map h6=ms.map h6)from decide_eq_decide.mpr ⟨λe=>by rw[FR e],λe=>by rw[(uw (λa b=>zZ)).mp e]⟩];exact h
theorem Aa(hu:A.units<cLine){c:C}{b:Bool}(hb:b=true->FX c=true){u v:Value}{x y:List (List Int)}{Q:Bool->ye->Prop}(hx:B1 s.heap c u x)(hy:B1 s.heap c v y)(h:Q (decide (x<y)) s):wpAny (model prog w) A (oneLt' b u v) Q E s:=by
 cases c with
 |i=>
  obtain⟨_,rfl,n,t,rfl,rfl⟩:=hx;obtain⟨_,rfl,m,q,rfl,rfl⟩:=hy;refine zi ?_;rw[decide_eq_decide.mpr (pq.trans pq)]at h;exact h
 |t=>
  obtain⟨_,rfl,n,t,rfl,rfl⟩:=hx;obtain⟨_,rfl,m,q,rfl,rfl⟩:=hy;refine jnv ?_;rw[decide_eq_decide.mpr (pq.trans V9)]at h;exact h
 |r c0=>
  cases b with
  |true=>cases hb rfl
  |false=>
   obtain⟨a,is,rfl,⟨⟨c1,d1,e1,f1⟩,ho,hc,n,hd⟩,k1⟩:=hx;obtain⟨a',JC,rfl,⟨⟨c2,d2,e2,f2⟩,oM,jG,m,sw⟩,k2⟩:=hy;dsimp only at hc hd jG sw;subst hc hd jG sw;exact kat_one _ _ (richCompare_meets_room (op:=.Lt) ⟨_,ho,rfl⟩ ⟨_,oM,rfl⟩ PySem.F.slot_tuple_lt PySem.F.entry_tuple_lt (PySem.F.args_tuple_lt_2 _ _) (jgt c0 a a' is JC n m d1 d2 f1 f2 x y k1 k2) ⟨ho,oM,show A2 (decide (x<y))≠Value.notImplemented/\_ from⟨(λx=>nomatch x),h⟩⟩ hu)
theorem We(hu:A.units<cLine){b fin:Bool}{Q:Bool->ye->Prop}:∀{kd:Nat->C}{xs ys:List Value}{L M:List (List (List Int))}{i:Nat},((b&&i==0)=true->FX (kd 0)=true)->jS s.heap kd xs L->jS s.heap kd ys M->Q (kG L M fin) s->KatLex prog w A b fin Q (xs.zip ys) i s
 |_,[],_,[],_,i,_,_,_,h=>kat_nil h
 |_,_::_,[],_::_,[],i,_,_,_,h=>kat_nil h
 |kd,_::_,_::_,x::L,y::M,i,hb,⟨h1,h2⟩,⟨g1,g2⟩,h=>by
  refine kat_cons (z9 hu h1 g1 ?_);unfold kG at h;by_cases c:x=y
  ·rw[if_pos c]at h;rw[decide_eq_true c];exact kat_yes (We hu (λz=>by simp at z) h2 g2 h)
  ·rw[if_neg c]at h;rw[decide_eq_false c];exact kat_no (Aa hu hb h1 g1 h)
 |_,[],_,_::_,_,_,_,z,_,_=>z.elim
 |_,_::_,_,[],_,_,_,z,_,_=>z.elim
 |_,_,[],_,_::_,_,_,_,z,_=>z.elim
 |_,_,_::_,_,[],_,_,_,z,_=>z.elim
def Oa:C->Value
 | .i=>.type "int"
 | .t=>.type "str"
 | .r _=>.type "tuple"
theorem uG{vs:List Value}{Xs:List (List (List (List Int)))}{kd:Nat->C}(r:au (Rw s.heap kd) vs Xs){i:Nat}(hi:i<vs.length):∃a ai,vs.getD i .none=.ref a/\IsTup s.heap a ai/\jS s.heap kd ai.toList (Xs.getD i []):=by
 obtain⟨X,e,a,ai,k1,k2,k3⟩:=r.at (y4 hi)
 refine⟨a,ai,?_,k2,?_⟩
 ·rw[y8,y4 hi];exact k1
 ·rw[y8,e];exact k3
theorem Gc(hu:A.units<cLine){vs:List Value}{Xs:List (List (List (List Int)))}{kd:Nat->C}(r:au (Rw s.heap kd) vs Xs):Tells (O:=FY) (λi=>Xs.getD i []) vs.length (kas_ask prog w A (tuples' (FX (kd 0))) vs) s:=by
 intro i j hi hj C c;obtain⟨x,xs,ex,tx,ix⟩:=uG r hi;obtain⟨y,ys,ey,ty,iy⟩:=uG r hj;obtain⟨ox,gx,_,nx,dx⟩:=tx;obtain⟨oy,gy,_,ny,dy⟩:=ty;unfold kas_ask;rw[ex,ey];refine kat_lt gx dx gy dy (We hu (λz=>by simpa using z) ix iy ?_);have lx:=ix.length;have ly:=iy.length;rw[yj]at lx ly;rw[lx,ly,JB (λx=>FZ x)];exact c
theorem joj{h:Heap}{vs:List Value}{Xs:List (List (List (List Int)))}{kd:Nat->C}(r:au (Rw h kd) vs Xs)(bO:∀X∈Xs,X≠[]):∃fs,KatTups h vs fs/\fs.length=vs.length/\∀v∈fs,∃x,B1 h (kd 0) v x:=by
 induction r with
 |nil=>exact⟨[],KatTups.nil,rfl,by simp⟩
 | @cons v X vs Xs x _ ih=>
  obtain⟨fs,k1,k2,k3⟩:=ih λY hY=>bO Y (yr _ hY);obtain⟨a,ai,rfl,⟨o,ho,hc,n,hd⟩,im⟩:=x;cases e3:ai.toList with
  |nil=>
   rw[e3]at im;cases X with
   |nil=>exact absurd rfl (bO _ yu)
   |cons _ _=>exact im.elim
  |cons y ys=>
   rw[e3]at im;cases X with
   |nil=>exact im.elim
   |cons z X=>
    refine⟨y::fs,KatTups.cons ho hc hd (by rw[<- xr,e3];rfl) k1,by rw[yn,yn,k2],λv hv=>?_⟩;skip;rcases xc.mp hv with rfl|hv
    ·exact⟨z,im.1⟩
    ·exact k3 v hv
theorem Ob{h0:Heap}{kd:Nat->C}{Z:Value->List (List (List Int))->Prop}(hu:A.units<cLine):JA prog w A (λv X=>Rw h0 kd v X/\Z v X) (λX Y=>X<Y) h0 (λXs=>2<=Xs.length->∀X∈Xs,X≠[]):=by
 intro E s a n us Xs P r hG hT g fZ h;have ra:au (Rw s.heap kd) us Xs:=r.imp λz=>Rw.keep hT z.1;have lr:=r.length;have kt:∀h':Heap,(∀b o,b≠a->s.heap.get? b=some o->h'.get? b=some o)->eX s.heap h':=λh' e b o c q=>e b o (λz=>by
  subst z;rw[g]at q;cases q;exact absurd (show kR "list"=kR "tuple" from c) (by decide)) q
 refine jjs (κ:=tuples' (FX (kd 0))) (O:=FY) (k:=λi=>Xs.getD i []) g fZ (λh2 h' e Q q=>?_) (λh' e=>Gc (s:={s with heap:=h'}) hu (ra.imp λz=>Rw.keep (kt h' e) z)) λp ok as=>?_
 ·obtain⟨fs,k1,k2,k3⟩:=joj (ra.imp λz=>Rw.keep (kt h' e) z) (hG (by omega));have et:(Oa (kd 0) !=kR "tuple")=FX (kd 0):=by cases kd 0<;>rfl
  refine kat_kind (s:={s with heap:=h'}) (T:=Oa (kd 0)) k1 (by omega) (λv hv=>?_) ?_ (by rw[et];exact q)
  ·obtain⟨x,hx⟩:=k3 v hv;generalize kd 0=c at hx ⊢;cases c with
   |i=>obtain⟨_,_,m,t,rfl,_⟩:=hx;exact .now
   |t=>obtain⟨_,_,m,t,rfl,_⟩:=hx;exact .now
   |r b=>
    obtain⟨b',is,rfl,⟨o,hb,hc,_⟩,_⟩:=hx;rw[show Oa (.r b)=o.cls from hc.symm];exact(Looks.ld hb).andThen .now
  ·cases kd 0<;>rfl
 ·have all:∀i∈p.toList,i<us.length:=λi hi=>u9.mp (ok.mem_iff.mp hi);refine h _ _ (r.pick .none [] p.toList all) (je2 [] (by rw[<- lr];exact ok)) ?_;rw[vh,UR];intro i j hi hj iX;rw[yj]at hi hj;have hs:=ok.size;have:=as i j (by omega) (by omega);unfold bu at this;rw[yh hi,yh hj]at this;have q:decide (Xs.getD p[j] []<Xs.getD p[i] [])=false:=this;simpa using q
end
end L2
set_option Elab.async false
set_option linter.all false
set_option maxRecDepth 100000
set_option maxHeartbeats 4000000
namespace L2
open PySem PySem.Spec PyProof.Rows PySem.W
variable{P:List Value->Prop}
theorem al0(h:P []):∀us:List Value,us.length=0->P us:=λus e=>List.eq_nil_of_length_eq_zero e ▸ h
theorem JD{n:Nat}{P:List Value->Prop}(h:∀a us,us.length=n->P (a::us))(us:List Value)(e:us.length=n+1):P us:=by
 cases us with
 |nil=>cases e
 |cons a us=>exact h a us (Nat.succ.inj e)
theorem Wf(h:∀a,P [a]):∀us:List Value,us.length=1->P us:=JD λa=>al0 (P:=λus=>P (a::us)) (h a)
theorem Wg(h:∀a b,P [a,b]):∀us:List Value,us.length=2->P us:=JD λa=>Wf (P:=λus=>P (a::us)) (h a)
theorem Wh(h:∀a b c,P [a,b,c]):∀us:List Value,us.length=3->P us:=JD λa=>Wg (P:=λus=>P (a::us)) (h a)
theorem al4(h:∀a b c d,P [a,b,c,d]):∀us:List Value,us.length=4->P us:=JD λa=>Wh (P:=λus=>P (a::us)) (h a)
def JE(H:Hp):C->V->List (List Int)->Prop
 | .i,v,x=>∃n,v=.int n/\x=[[n]]
 | .t,v,x=>∃n,v=.str n/\x=[h6 n]
 | .r false,v,x=>∃a,∃ns:List Int,v=.ref a/\H a=some (.tup (ns.map V.int))/\x=ns.map λn=>[n]
 | .r true,v,x=>∃a,∃ns:List Str,v=.ref a/\H a=some (.tup (ns.map V.str))/\x=ns.map h6
def iG(H:Hp):(Nat->C)->List V->List (List (List Int))->Prop
 |_,[],[]=>True
 |kd,v::vs,x::xs=>JE H (kd 0) v x/\iG H (λi=>kd (i+1)) vs xs
 |_,_,_=>False
def kI(H:Hp)(kd:Nat->C)(v:V)(X:List (List (List Int))):Prop:=∃a us,v=.ref a/\H a=some (.tup us)/\iG H kd us X
section
variable{X:Cx}{ac:List (Addr×Obj)}{σ:St}{H:Hp}{s:ye}
theorem Wi(I:Inv X ac σ H s):∀{kd:Nat->C}{vs:List V}{us:List Value}{xs:List (List (List Int))},am vs us->iG H kd vs xs->jS s.heap kd us xs
 |_,[],_,[],r,_=>by cases r;trivial
 |kd,v::vs,_,x::xs,r,⟨h1,h2⟩=>by
  cases r with
  |cons r1 r2=>
   refine⟨?_,Wi I r2 h2⟩;generalize kd 0=c at h1;cases c with
   |i=>obtain⟨n,rfl,rfl⟩:=h1;obtain⟨t,rfl⟩:=r1;exact⟨_,rfl,n,t,rfl,rfl⟩
   |t=>obtain⟨n,rfl,rfl⟩:=h1;obtain⟨t,rfl⟩:=r1;exact⟨_,rfl,n,t,rfl,rfl⟩
   |r b=>
    cases b with
    |false=>
     obtain⟨a,ns,rfl,ha,rfl⟩:=h1;cases r1;obtain⟨ai,ri,pl,hz⟩:=I.tuple (aZ.of (K:=X.K) ha);refine⟨a,_,rfl,pl,?_⟩;have:=Bk ri;clear ha ri pl hz;rw[show ai.toArray.toList=ai by simp]
     induction this with
     |nil=>exact .nil
     |cons n t _ ih=>exact .cons ⟨n,t,rfl,rfl⟩ ih
    |true=>
     obtain⟨a,ns,rfl,ha,rfl⟩:=h1;cases r1;obtain⟨ai,ri,pl,hz⟩:=I.tuple (aZ.of (K:=X.K) ha);refine⟨a,_,rfl,pl,?_⟩;have:=jk9 ri;clear ha ri pl hz;rw[show ai.toArray.toList=ai by simp]
     induction this with
     |nil=>exact .nil
     |cons n t _ ih=>exact .cons ⟨n,t,rfl,rfl⟩ ih
 |_,[],_,_::_,_,z=>z.elim
 |_,_::_,_,[],_,z=>z.elim
def Wj(H:Hp)(h:Heap)(kd:Nat->C)(v:Value)(Y:List (List (List Int))):Prop:=Rw h kd v Y/\∃a,v=.ref a/\kI H kd (.ref a) Y
theorem uH(I:Inv X ac σ H s){kd:Nat->C}{vs:List V}{Ys:List (List (List (List Int)))}(r:au (kI H kd) vs Ys):∀{us:List Value},am vs us->au (Wj H s.heap kd) us Ys:=by
 induction r with
 |nil=>intro us v;cases v;exact .nil
 |cons h _ ih=>
  intro us v;cases v with
  |cons v1 v2=>
   obtain⟨a,xs,rfl,ha,im⟩:=h;cases v1;obtain⟨ai,ri,pl,_⟩:=I.tuple (aZ.of (K:=X.K) ha);exact .cons ⟨⟨a,_,rfl,pl,by simpa using Wi I ri im⟩,a,rfl,a,xs,rfl,ha,im⟩ (ih v2)
theorem Wk{h:Heap}{kd:Nat->C}{us:List Value}{Ys:List (List (List (List Int)))}(r:au (Wj H h kd) us Ys):∃vs,am vs us/\au (kI H kd) vs Ys:=by
 induction r with
 |nil=>exact⟨_,.nil,.nil⟩
 |cons x _ ih=>
  obtain⟨_,a,rfl,y⟩:=x;obtain⟨vs,e1,e2⟩:=ih;exact⟨.ref a::vs,.cons rfl e1,.cons y e2⟩
end
section
variable{X:Cx}
def Ab(K:yd):List V->Hp->VK->Prop:=λxs H Q=>∃(p:Addr) (vs:List V) (kd:Nat->C) (Ys:List (List (List (List Int)))),xs=[.ref p]/\SqL K H p vs/\au (kI H kd) vs Ys/\(2<=Ys.length->∀Y∈Ys,Y≠[])/\vs.length<64/\∀l bo cV,H l=none->au (kI H kd) bo cV->cV.Perm Ys->cV.Pairwise (λa b=>¬ b<a)->Q (.ref l) (aH H l (.lst bo))
theorem Oc{k:Nat}(hr:aI k X.A):aG X (.builtin "sorted") (Ab X.K):=by
 skip;intro ac s σ H xs us Q I r h;obtain⟨p,vs,kd,Ys,rfl,hq,hP,bO,fZ,q⟩:=h;obtain⟨u,rfl,rx⟩:=fM r;cases rx;obtain⟨ai,ri,pl,hz⟩:=I.list hq;have aL:=ri.length;have un:=hr.un;have pa:=uH I hP ri;refine BH EA EB EC (ED _) ?_;skip;unfold EE;refine y0 (m:=checkCount "sorted" 1 1 _) (yc (y0 (collect_list pl.isList (y0 (qI ?_ (by rw[xx];omega))) (by rw[xx];omega))));have n1:((s.heap.push (seqObj "list" #[] 0)).update s.heap.objs.size (gf (·++ai.toArray))).objs.size=s.heap.objs.size+1:=by rw[Ua,Mp]
 have o1:(((s.heap.push (seqObj "list" #[] 0)).update s.heap.objs.size (gf (·++ai.toArray))).push (seqObj "list" ai.toArray 0)).get? (s.heap.objs.size+1)=some (seqObj "list" ai.toArray 0):=by rw[<- n1];exact yi _ rfl
 have kp:∀b o,s.heap.get? b=some o->(((s.heap.push (seqObj "list" #[] 0)).update s.heap.objs.size (gf (·++ai.toArray))).push (seqObj "list" ai.toArray 0)).get? b=some o:=
  λb o e=>yb _ ((uo _ _ (jZ (yt e))).trans (yb _ e))
 skip;show wpAny _ _ _ _ _ {s with heap:=((s.heap.push (seqObj "list" #[] 0)).update s.heap.objs.size (gf (·++ai.toArray))).push (seqObj "list" ai.toArray 0)};rw[n1];refine y0 (gu (gj EF ⟨_,o1,rfl⟩ EG (Ob (h0:=s.heap) (by show X.A.units+1+1<cLine;omega) (s:={s with heap:=((s.heap.push (seqObj "list" #[] 0)).update s.heap.objs.size (gf (·++ai.toArray))).push (seqObj "list" ai.toArray 0)}) pa bO (λb o _ e=>kp b o e) o1 (by omega) λjR cV r' pm pw=>⟨_,rfl,yc ⟨_,rfl,?_⟩⟩) (EH _)));obtain⟨e,he⟩:=NH (out:=jR.toArray) o1;obtain⟨bo,v1,v2⟩:=Wk r';have l1:=v2.length;have l2:=pm.length_eq;have l3:=hP.length;have kk:∀b u,s.heap.get? b=some u->(sortedHeap (((s.heap.push (seqObj "list" #[] 0)).update s.heap.objs.size (gf (·++ai.toArray))).push (seqObj "list" ai.toArray 0)) (s.heap.objs.size+1) ai jR.toArray).get? b=some u:=λb u eb=>by
  have lb:=yt eb;refine(NI (xn (ui lb)) ?_).trans (kp b u eb);rw[vq,n1];exact ui (ui lb)
 exact⟨.ref (s.heap.objs.size+1),_,I.laid (t':=s.toks) kk (i6 _) (show ObjOk X.prog X.w _ _ _ (.lst bo)from⟨by rw[xx];omega,_,e,v1,he⟩),rfl,q _ _ _ (I.hok.fresh (i6 _)) v2 pm pw⟩
theorem Gd{K:yd}{H:Hp}{Q:VK}{p:Addr}{vs:List V}{kd:Nat->C}{Ys:List (List (List (List Int)))}(h:H p=some (.lst vs))(hr:au (kI H kd) vs Ys)(bO:2<=Ys.length->∀Y∈Ys,Y≠[])(hn:vs.length<64)(q:∀l bo cV H',H l=none->H' l=some (.lst bo)->au (kI H kd) bo cV->cV.Perm Ys->cV.Pairwise (λa b=>¬ b<a)->al H H'->Q (.ref l) H'):Ab K [.ref p] H Q:=⟨p,vs,kd,Ys,rfl,SqL.of h,hr,bO,hn,λl bo cV nl r' pm pw=>q l bo cV _ nl bi r' pm pw (dG nl)⟩
def qX:List V->Hp->VK->Prop:=λxs H Q=>∃(p:Addr) (o:Obj) (af:List (List Key×V)) (kd:Nat->C) (Ys:List (List (List (List Int)))),xs=[.ref p]/\H p=some (.frz o (.dT af))/\au (λks Y=>iG H kd (ks.map kV) Y) (af.map (·.1)) Ys/\(2<=Ys.length->∀Y∈Ys,Y≠[])/\af.length<64/\∀l bo cV,H l=none->au (kI H kd) bo cV->cV.Perm Ys->cV.Pairwise (λa b=>¬ b<a)->Q (.ref l) (aH H l (.lst bo))
theorem Od{k:Nat}(hr:aI k X.A)(hc:X.calm=true):aG X (.builtin "sorted") qX:=by
 skip;intro ac s σ H xs us Q I r h;obtain⟨p,o,af,kd,Ys,rfl,hp,hk,bO,fZ,q⟩:=h;obtain⟨u,rfl,ru⟩:=fM r;cases ru;obtain⟨g1,g2,g3,es,ep,g4,g5,g6⟩:=qS I.hok hp;have un:=hr.un;have hl:=hk.length;rw[y3]at hl;have le0:=yj (xs:=es);obtain⟨vs,v1,v2⟩:∃vs,am vs (es.toList.map (·.key))/\au (kI H kd) vs Ys:=by
  have key:∀(l:List Lx) (ks:List (List Key)) (Ys:List (List (List (List Int)))),l.length=ks.length->(∀(i:Nat) x L,l[i]?=some x->ks[i]?=some L->∃b,x.key=.ref b/\H b=some (.tup (L.map kV)))->au (λks Y=>iG H kd (ks.map kV) Y) ks Ys->∃vs,am vs (l.map (·.key))/\au (kI H kd) vs Ys:=by
   intro l
   induction l with
   |nil=>intro ks Ys e _ r;cases ks with
    |nil=>cases r;exact⟨[],.nil,.nil⟩
    |cons _ _=>cases e
   |cons x l ih=>intro ks Ys e hx r;cases r with
    |nil=>cases e
    | @cons L Y ks Ys h1 h2=>
     obtain⟨vs,k1,k2⟩:=ih ks Ys (by simpa using e) (λi y M hy hM=>hx (i+1) y M (by simpa using hy) (by simpa using hM)) h2;obtain⟨b,b1,b2⟩:=hx 0 x L rfl rfl;refine⟨.ref b::vs,?_,.cons ⟨b,_,rfl,b2,h1⟩ k2⟩;rw[xu,show x.key=.ref b from b1];exact .cons rfl k1
  refine key _ _ _ (by rw[y3];omega) (λi x L hx hL=>?_) hk;obtain⟨hi,ex⟩:=xl.mp hx;obtain⟨kv,b,k1,k2,k3⟩:=g6 i (by omega);rw[xh,k1]at hL;cases(vm hL:kv.1=L);exact⟨b,by rw[<- ex,Array.getElem_toList];exact k2,k3⟩
 have pa:=uH I v2 v1;have lv:=v2.length;have lv1:=v1.length;rw[y3]at lv1;refine BH EA EB EC (ED _) ?_;skip;unfold EE;refine y0 (m:=checkCount "sorted" 1 1 _) (yc (y0 (VC (I.ok.hd hc) g3 g1 g2 g4 (by rw[xx];omega) λs' acc hm le ha=>?_)));rw[NG ha];have ll:(es.toList.map (·.key)).length<64:=by rw[y3];omega
 generalize es.toList.map (·.key)=ai at pa ll;skip;refine y0 (qI ?_ (by rw[xx];omega));have o1:(s'.heap.push (seqObj "list" ai.toArray 0)).get? s'.heap.objs.size=some (seqObj "list" ai.toArray 0):=yi _ rfl;have kt:eX s.heap (s'.heap.push (seqObj "list" ai.toArray 0)):=λb o c e=>yb _ (hm.heap b o (by simp) e);refine y0 (gu (gj EF ⟨_,o1,rfl⟩ EG (Ob (h0:=s.heap) (by show X.A.units+1+1<cLine;omega) (s:={s' with heap:=s'.heap.push (seqObj "list" ai.toArray 0)}) pa bO kt o1 ll λjR cV r' pm pw=>⟨_,rfl,yc ⟨_,rfl,?_⟩⟩) (EH _)));obtain⟨h',g',d',t',q'⟩:=s';skip;have eg:g'=s.gens:=hm.gens;skip;have ed:d'=s.drawn:=hm.drawn;skip;have eo:q'=s.os:=hm.os;subst eg ed eo;obtain⟨e,he⟩:=NH (out:=jR.toArray) o1;obtain⟨bo,v3,v4⟩:=Wk r';have l1:=v4.length;have l2:=pm.length_eq;have kk:∀b u,s.heap.get? b=some u->(sortedHeap (h'.push (seqObj "list" ai.toArray 0)) h'.objs.size ai jR.toArray).get? b=some u:=λb u eb=>by
  have hb:=hm.heap b u (by simp) eb;have lb:=yt hb;refine(NI (xn lb) ?_).trans (yb _ hb);rw[vq];exact ui lb
 exact⟨.ref h'.objs.size,_,I.laid (t':=t') kk (lV le) (show ObjOk X.prog X.w _ _ _ (.lst bo)from⟨by rw[xx];omega,_,e,v3,he⟩),rfl,q _ bo cV (I.hok.fresh (lV le)) v4 pm pw⟩
theorem uI{H:Hp}{Q:VK}{p:Addr}{o:Obj}{af:List (List Key×V)}{kd:Nat->C}{Ys:List (List (List (List Int)))}(h:H p=some (.frz o (.dT af)))(hr:au (λks Y=>iG H kd (ks.map kV) Y) (af.map (·.1)) Ys)(bO:2<=Ys.length->∀Y∈Ys,Y≠[])(hn:af.length<64)(q:∀l bo cV H',H l=none->H' l=some (.lst bo)->au (kI H kd) bo cV->cV.Perm Ys->cV.Pairwise (λa b=>¬ b<a)->al H H'->Q (.ref l) H'):qX [.ref p] H Q:=⟨p,o,af,kd,Ys,rfl,h,hr,bO,hn,λl bo cV nl r' pm pw=>q l bo cV _ nl bi r' pm pw (dG nl)⟩
end
end L2
set_option Elab.async false
set_option linter.all false
set_option maxRecDepth 100000
set_option maxHeartbeats 4000000
namespace L2
open PySem PySem.Spec PyProof.Rows PySem.W
class El(n:Nat)(P:Prop) where
 K:Prop->Prop
 el:P->∀G,K G->G
instance (priority:=low) El0 {P:Prop}:El 0 P:=⟨λG=>P->G,λh G k=>k h⟩
instance ElA{n:Nat}{a b:Prop}[i:El n b]:El (n+1) (a/\b):=⟨λG=>a->i.K G,λh G k=>i.el h.2 G (k h.1)⟩
instance ElE{n:Nat}{α:Sort _}{p:α->Prop}[i:∀x,El n (p x)]:El (n+1) (∃x,p x):=⟨λG=>∀x,(i x).K G,λh G k=>h.elim λx hx=>(i x).el hx G (k x)⟩
theorem aO(n:Nat){P G:Prop}[i:El n P](h:P)(k:i.K G):G:=i.el h G k
theorem Ge{α β:Type}{f:α->β}{S:α->Prop}(inj:∀{a b},S a->S b->f a=f b->a=b){l m:List α}(hl:∀x∈l,S x)(hm:∀x∈m,S x)(p:(l.map f).Perm (m.map f)):l.Perm m:=by
 have:∃g:β->Option α,∀a,S a->g (f a)=some a:=⟨λy=>@dite _ (∃a,S a/\f a=y) (Wl _) (λh=>some h.choose) λ_=>none,λa ha=>by
  have h:∃b,S b/\f b=f a:=⟨a,ha,rfl⟩
  dsimp only;rw[dif_pos h];exact congrArg some (inj h.choose_spec.1 ha h.choose_spec.2)⟩
 obtain⟨g,hg⟩:=this;have e:∀{l:List α},(∀x∈l,S x)->(l.map f).filterMap g=l:=λ{l} h=>by
  induction l with
  |nil=>rfl
  |cons x l ih=>rw[xu,Kz,hg x (h x yu),ih λy hy=>h y (yr _ hy)]
 have:=p.filterMap g
 rwa [e hl,e hm]at this
def kw:Key->List Int
 | .inl n=>[n]
 | .inr x=>h6 x
def wK(L:List Key):List (List (List Int)):=L.map λk=>[kw k]
def iH:Bool->List Key->Prop
 |false,L=>∃ns:List Int,L=nF ns/\ns≠[]
 |true,L=>∃ns:List Str,L=kE ns/\ns≠[]
def cB:Bool->C
 |false=>.i
 |true=>.t
theorem qY(ns:List Int):wK (nF ns)=ns.map λn=>[[n]]:=by rw[wK,v8];rfl
theorem Ac(ns:List Str):wK (kE ns)=ns.map λn=>[h6 n]:=by rw[wK,v8];rfl
theorem uJ{c:Bool}{L M:List Key}(h:iH c L)(g:iH c M)(e:wK L=wK M):L=M:=by
 cases c with
 |false=>
  obtain⟨a,rfl,_⟩:=h;obtain⟨b,rfl,_⟩:=g;rw[qY,qY]at e;rw[(uw (λa b e=>by cases e;rfl)).mp e]
 |true=>
  obtain⟨a,rfl,_⟩:=h;obtain⟨b,rfl,_⟩:=g;rw[Ac,Ac]at e;rw[(uw (λa b e=>by injection e with e _;exact zZ e)).mp e]
section
variable{prog:xf}{w:World}{A:v7}{E:Value->ye->Prop}{s:ye}{Z:Addr->List Key->Prop}{h0:Heap}
theorem uK{h:Heap}:∀{c:Bool}{L:List Key}{vs:List Value},iH c L\/L=[]->ItemsAre (cJ prog w) L vs->jS h (λ_=>cB c) vs (wK L)
 |_,[],_,_,.nil=>trivial
 |c,k::L,_,hc,.cons (v:=v) h1 h2=>by
  have hc:iH c (k::L):=hc.elim id λz=>nomatch z;refine⟨?_,uK ?_ h2⟩
  ·cases c with
   |false=>
    obtain⟨ns,e,_⟩:=hc;cases ns with
    |nil=>cases e
    |cons n ns=>injection e with e _;subst e;obtain⟨t,rfl⟩:=Fw (k:=.inl n) h1;exact⟨_,rfl,n,t,rfl,rfl⟩
   |true=>
    obtain⟨ns,e,_⟩:=hc;cases ns with
    |nil=>cases e
    |cons n ns=>injection e with e _;subst e;obtain⟨t,rfl⟩:=Fw (k:=.inr n) h1;exact⟨_,rfl,n,t,rfl,rfl⟩
  ·cases L with
   |nil=>exact .inr rfl
   |cons k2 L=>
    refine .inl ?_;cases c with
    |false=>
     obtain⟨ns,e,_⟩:=hc;cases ns with
     |nil=>cases e
     |cons n ns=>injection e with _ e;exact⟨ns,e,λz=>by rw[z]at e;cases e⟩
    |true=>
     obtain⟨ns,e,_⟩:=hc;cases ns with
     |nil=>cases e
     |cons n ns=>injection e with _ e;exact⟨ns,e,λz=>by rw[z]at e;cases e⟩
theorem jom(c:Bool)(hu:A.units<cLine):JA prog w A (uD prog w Z h0) (λL M=>wK L<wK M) h0 (λLs=>∀L∈Ls,iH c L):=by
 intro E s a n us Ls P r hG hT g fZ h;have rr:au (λv Y=>Rw h0 (λ_=>cB c) v Y/\∃L,Y=wK L/\uD prog w Z h0 v L/\iH c L) us (Ls.map wK):=by
  clear g h fZ
  induction r with
  |nil=>exact .nil
  |cons x _ ih=>
   have hc:=hG _ yu;refine .cons ⟨?_,_,rfl,x,hc⟩ (ih λL hL=>hG L (yr _ hL));obtain⟨b,rfl,⟨o,items,m,ho,gZ,hd,hi⟩,_⟩:=x;exact⟨b,items,rfl,⟨o,ho,gZ,m,hd⟩,uK (.inl hc) hi⟩
 refine Ob hu rr (λ_ Y hY=>?_) hT g fZ λjR cV r' pm pw=>?_
 ·obtain⟨L,hL,rfl⟩:=yk.mp hY;intro z;have:=B2.mp z;subst this;cases c with
  |false=>obtain⟨ns,e,k⟩:=hG _ hL;exact k (B2.mp e.symm)
  |true=>obtain⟨ns,e,k⟩:=hG _ hL;exact k (B2.mp e.symm)
 ·obtain⟨fD,rfl,r2,Gf⟩:∃fD,cV=fD.map wK/\au (uD prog w Z h0) jR fD/\∀L∈fD,iH c L:=by
   clear pm pw
   induction r' with
   |nil=>exact⟨[],rfl,.nil,λL h=>by cases h⟩
   |cons x _ ih=>
    obtain⟨_,L,rfl,x2,x3⟩:=x;obtain⟨fD,rfl,k1,k2⟩:=ih;exact⟨L::fD,rfl,.cons x2 k1,λM hM=>by
     skip;rcases xc.mp hM with rfl|hM
     ·exact x3
     ·exact k2 M hM⟩
  exact h jR fD r2 (Ge (S:=iH c) (λh g e=>uJ h g e) Gf hG pm) (vh.mp pw)
end
def bH(H:Hp)(v:V)(L:List Key):Prop:=∃a,v=.ref a/\H a=some (.tup (L.map kV))
theorem Oe{α:Type}[DecidableEq α]:∀{l m:List α},l.Nodup->(∀x∈l,x∈m)->l.length<=m.length
 |[],m,_,_=>gn _
 |x::r,m,nd,h=>by
  obtain⟨h1,h2⟩:=kX.mp nd;have hx:=h x yu;have:=Oe (l:=r) (m:=m.erase x) h2 λy hy=>(MZ (show y≠x from λe=>h1 (by rw[<- e];exact hy))).mpr (h y (yr _ hy));rw[Fi hx]at this;have:=Jb hx;rw[yn];omega
variable{H:Hp}
section
variable{X:Cx}
theorem jgu{H:Hp}{h:Heap}:∀{us:List Value}{Ls:List (List Key)},au (uD X.prog X.w (λa L=>H a=some (.tup (L.map kV))) h) us Ls->∃vs,am vs us/\au (bH H) vs Ls:=by
 intro us Ls r
 induction r with
 |nil=>exact⟨_,.nil,.nil⟩
 |cons x _ ih=>
  obtain⟨a,rfl,_,y⟩:=x;obtain⟨vs,e1,e2⟩:=ih;exact⟨.ref a::vs,.cons rfl e1,.cons ⟨a,rfl,y⟩ e2⟩
def JF(K:yd):List V->Hp->VK->Prop:=λxs H Q=>∃(p:Addr) (vs:List V),xs=[.ref p]/\(SqL K H p vs\/H p=some (.tup vs))/\
 ((∃ns ms:List Int,vs=ns.map V.int/\(∀n∈ns,n∈ms)/\ms.length<=50/\∀l (ks:List Int),H l=none->ks.Pairwise (· < ·)->(∀k,k∈ks↔k∈ns)->Q (.ref l) (aH H l (.lst (ks.map V.int))))\/
  ∃Ls:List (List Key),au (bH H) vs Ls/\vs.length<=60/\(∃c,∀L∈Ls,iH c L)/\∀l bo fD,H l=none->au (bH H) bo fD->fD.Nodup->fD.Pairwise (λa b=>¬ wK b<wK a)->(∀L,L∈fD↔L∈Ls)->Q (.ref l) (aH H l (.lst bo)))
theorem Wm{k:Nat}(hr:aI k X.A){a:Expr}{ta:TA}{p p' pos aY:Pos}(hc:X.calm=true)(hg:Gl X "sorted")(hm:X.mg "sorted"=none)(Fd:Gl X "set")(Fe:X.mg "set"=none)(ha:PA X [a] ta)(hs:starEach [a] X.env=[(false,eval a X.env)]:=by rfl)
  (ht:starEach [.Call (.Name "set" p') [a] [] aY] X.env=[(false,eval (.Call (.Name "set" p') [a] [] aY) X.env)]:=by rfl):
  PE X (.Call (.Name "sorted" p) [.Call (.Name "set" p') [a] [] aY] [] pos) (Bj (JF X.K) ta):=by
 skip;intro ac s σ H Q I h;refine ux (jY I hg hm gg (y5r ?_ ht rfl) (by decide) (by decide));rw[ht];show wpAny _ _ (spliced ((false,eval (.Call (.Name "set" p') [a] [] aY) X.env)::backTo pos [])) _ _ s;refine K2 (ux (jY I Fd Fe boot_set (u0 (aN (ha aY ac s σ H _ I h) λus s1 ⟨vs,H1,I1,r1,q1⟩=>?_) hs rfl) (by decide) (by decide)));obtain⟨p1,xs,e,hx,q⟩:=q1;subst e;obtain⟨u,rfl,ru⟩:=fM r1;cases ru;have un:=hr.un;obtain⟨ai,ri,pl⟩:∃ai,am xs ai/\(s1.heap.IsList p1 ai.toArray\/s1.heap.IsTuple p1 ai.toArray):=by
  rcases hx with hx|hx
  ·obtain⟨ai,ri,pl,_⟩:=I1.list hx;exact⟨ai,ri,.inl pl.isList⟩
  ·obtain⟨_,ai,ri,pl,_⟩:=(show ObjOk X.prog X.w H1 s1.heap p1 (.tup xs)from I1.hok p1 _ hx)
   exact⟨ai,ri,.inr pl⟩
 have hl:=ri.length;have sz:ai.toArray.size=ai.length:=ym ..;rcases q with⟨ns,ms,rfl,lK,hz,q⟩|⟨Ls,Wn,hz,bO,q⟩
 ·rw[y3]at hl;refine V0 (Pl:=λt=>t.plain=true) (R:=Jz) (Vv:=FS) (xs:=ns) (I1.ok.hd hc) jgp (λt z=>z) pl (by omega) (λi v hv=>?_) (λi Ms _ nd mem=>?_) λh' tk Ms hS bL hk=>HP ?_
  ·obtain⟨t,e⟩:=IntsAre.int_at (Bk ri) i v (by simpa using hv);have hi:i<ns.length:=by have:=(xl.mp (show ai[i]?=some v by simpa using hv)).1;omega
   exact⟨ns.getD i 0,by rw[y8,y4 hi];rfl,t,e⟩
  ·have:=Jv nd λx hx=>lK x (gm (mem x hx));omega
  ·have oR:=Jv (show Ms.Nodup by obtain⟨_,_,_,_,_,_,_,_,nd⟩:=hS;exact nd) λx hx=>lK x ((bL x).mp hx);refine V8 (h0:=s1.heap) (s:={s1 with heap:=h',toks:=tk}) (I1.ok.hd hc) hS (λ{e x} ⟨t,z⟩=>⟨t,by rw[z]⟩) (by omega) (λ_ _=>trivial) (λb o _ e=>hk b o (yt e) e) jgr λs' g' l out ex ks tP bF ho hI hp hw=>?_;have kk:∀b u,s1.heap.get? b=some u->g'.get? b=some u:=λb u e=>tP b u (hk b u (yt e) e);have ln:=hp.length_eq;obtain⟨_,_,_,_,_,_,_,_,nd⟩:=hS;refine⟨.ref l,aH H1 l (.lst (ks.map V.int)),(I1.drew s'.drawn).laid (t':=s'.toks) kk (lV bF) (show ObjOk X.prog X.w _ _ _ (.lst (ks.map V.int))from⟨by rw[y3,xx];omega,out,ex,Bs (V7 hI),ho⟩),rfl,q l ks (I1.hok.fresh (lV bF)) (jbl (hp.nodup_iff.mpr nd) (hw.imp λz=>by omega)) λk=>by rw[hp.mem_iff,bL]⟩
 ·have l2:=Wn.length;refine V0 (xs:=Ls) (Pl:=λ_=>True) (R:=N5 X.prog X.w (λa L=>H1 a=some (.tup (L.map kV))) s1.heap) (Vv:=uD X.prog X.w (λa L=>H1 a=some (.tup (L.map kV))) s1.heap) (I1.ok.hd hc) (jgo (by show X.A.units+1+1+1<cLine;omega)) (λt z=>trivial) pl (by omega) (λi v hv=>?_) (λi Ms hi nd mem=>?_) λh' tk Ms hS bL hk=>HP ?_
  ·have Dc:ai[i]?=some v:=by simpa using hv
   obtain⟨x,ex,rx⟩:=Vb ri i v Dc;obtain⟨L,eL,b,rfl,hb⟩:=Wn.at ex;refine⟨L,eL,?_⟩;cases rx with
   |cons r0 _=>
    cases r0;obtain⟨it2,r2,t2,_⟩:=I1.tuple (aZ.of (K:=X.K) hb);obtain⟨o,ho,gZ,n,hd⟩:=t2;exact⟨b,rfl,⟨o,_,n,ho,gZ,hd,by simpa using Lm r2⟩,hb⟩
  ·have:=Oe nd mem;rw[yp]at this;omega
  ·have oR:=Oe (show Ms.Nodup by obtain⟨_,_,_,_,_,_,_,_,nd⟩:=hS;exact nd) λx hx=>(bL x).mp hx;have fin:∀(s':ye) (g':Heap) (l:Addr) (out:List Value) (ex:Nat) (Ks:List (List Key)),(∀b o,h'.get? b=some o->g'.get? b=some o)->s1.heap.objs.size<l->g'.get? l=some (seqObj "list" out.toArray ex)->au (uD X.prog X.w (λa L=>H1 a=some (.tup (L.map kV))) s1.heap) out Ks->Ks.Perm Ms->Ks.Pairwise (λa b=>¬ wK b<wK a)->EP X ac σ Q (.ref l) {s1 with heap:=g',toks:=s'.toks,drawn:=s'.drawn}:=by
    intro s' g' l out ex Ks tP bF ho hrv Gg hpw;obtain⟨bo,v1,v2⟩:=jgu hrv;obtain⟨_,_,_,_,_,_,_,_,nd⟩:=hS;have kk:∀b u,s1.heap.get? b=some u->g'.get? b=some u:=λb u e=>tP b u (hk b u (yt e) e);have lv:=v2.length;have lk:=Gg.length_eq;exact⟨.ref l,aH H1 l (.lst bo),(I1.drew s'.drawn).laid (t':=s'.toks) kk (lV bF) (show ObjOk X.prog X.w _ _ _ (.lst bo)from⟨by rw[xx];omega,out,ex,v1,ho⟩),rfl,q l bo Ks (I1.hok.fresh (lV bF)) v2 (Gg.nodup_iff.mpr nd) hpw λL=>by rw[Gg.mem_iff,bL]⟩
   obtain⟨c,bO⟩:=bO;exact V8 (h0:=s1.heap) (s:={s1 with heap:=h',toks:=tk}) (I1.ok.hd hc) hS (λ{e x} z=>z.2) (by omega) (λXs pm L hL=>bO L ((bL L).mp (pm.mem_iff.mp hL))) (λb o _ e=>hk b o (yt e) e) (jom c (by show X.A.units+1+1<cLine;omega)) fin
theorem uL{K:yd}{Q:VK}{p:Addr}{ns:List Int}(ms:List Int)(h:H p=some (.lst (ns.map V.int))\/H p=some (.tup (ns.map V.int)))(lK:∀n∈ns,n∈ms)(hn:ms.length<=50)(q:∀l (ks:List Int) H',H l=none->H' l=some (.lst (ks.map V.int))->ks.Pairwise (· < ·)->(∀k,k∈ks↔k∈ns)->al H H'->Q (.ref l) H'):JF K [.ref p] H Q:=⟨p,_,rfl,h.imp SqL.of id,.inl ⟨ns,ms,rfl,lK,hn,λl ks nl pw mm=>q l ks _ nl bi pw mm (dG nl)⟩⟩
theorem bH.mono{H':Hp}(e:al H H'){v:V}{L:List Key}(h:bH H v L):bH H' v L:=let ⟨a,h1,h2⟩:=h;⟨a,h1,e _ _ h2⟩
theorem uM{K:yd}{Q:VK}{p:Addr}{vs:List V}{Ls:List (List Key)}(h:H p=some (.lst vs))(hr:au (bH H) vs Ls)(hn:vs.length<=60)(bO:∃c,∀L∈Ls,iH c L)(q:∀l bo fD H',H l=none->H' l=some (.lst bo)->au (bH H') bo fD->fD.Nodup->fD.Pairwise (λa b=>¬ wK b<wK a)->(∀L,L∈fD↔L∈Ls)->al H H'->Q (.ref l) H'):JF K [.ref p] H Q:=⟨p,vs,rfl,.inl (SqL.of h),.inr ⟨Ls,hr,hn,bO,λl bo fD nl r' nd pw mm=>q l bo fD _ nl bi (r'.imp λz=>z.mono (dG nl)) nd pw mm (dG nl)⟩⟩
theorem Of{H:Hp}:∀{c:Bool}{L:List Key}{us:List V},iH c L\/L=[]->(iG H (λ_=>cB c) us (wK L)↔us=L.map kV)
 |c,[],[],_=>⟨λ_=>rfl,λ_=>trivial⟩
 |c,[],_::_,_=>⟨λz=>z.elim,λe=>by cases e⟩
 |c,_::_,[],_=>⟨λz=>z.elim,λe=>by cases e⟩
 |c,k::L,u::us,hc=>by
  have hc:iH c (k::L):=hc.elim id λz=>nomatch z;have hL:iH c L\/L=[]:=by
   cases c with
   |false=>
    obtain⟨ns,e,_⟩:=hc;cases ns with
    |nil=>cases e
    |cons n ns=>
     injection e with _ e;cases ns with
     |nil=>exact .inr e
     |cons m ns=>exact .inl ⟨_,e,λz=>nomatch z⟩
   |true=>
    obtain⟨ns,e,_⟩:=hc;cases ns with
    |nil=>cases e
    |cons n ns=>
     injection e with _ e;cases ns with
     |nil=>exact .inr e
     |cons m ns=>exact .inl ⟨_,e,λz=>nomatch z⟩
  have h1:JE H (cB c) u [kw k]↔u=kV k:=by
   cases c with
   |false=>
    obtain⟨ns,e,_⟩:=hc;cases ns with
    |nil=>cases e
    |cons n ns=>injection e with e _;subst e;exact⟨λ⟨m,e1,e2⟩=>by cases e2;exact e1,λe=>⟨n,e,rfl⟩⟩
   |true=>
    obtain⟨ns,e,_⟩:=hc;cases ns with
    |nil=>cases e
    |cons n ns=>injection e with e _;subst e;exact⟨λ⟨m,e1,e2⟩=>by injection e2 with e2 _;rw[e1,zZ e2];rfl,λe=>⟨n,e,rfl⟩⟩
  show JE H (cB c) u [kw k]/\iG H (λ_=>cB c) us (wK L)↔u::us=kV k::L.map kV;rw[h1,Of hL];exact⟨λ⟨a,b⟩=>by rw[a,b],λe=>by injection e with a b;exact⟨a,b⟩⟩
theorem uN{H:Hp}{Q:VK}{p:Addr}{o:Obj}{af:List (List Key×V)}{c:Bool}(h:H p=some (.frz o (.dT af)))(hG:∀L∈af.map (·.1),iH c L)(hn:af.length<64)(q:∀l bo Ms H',H l=none->H' l=some (.lst bo)->au (bH H') bo Ms->Ms.Perm (af.map (·.1))->Ms.Pairwise (λa b=>¬ wK b<wK a)->al H H'->Q (.ref l) H'):qX [.ref p] H Q:=by
 refine uI (kd:=λ_=>cB c) (Ys:=(af.map (·.1)).map wK) h ?_ (λ_ Y hY=>?_) hn λl bo cV H' nl ql r' pm pw e=>?_
 ·generalize af.map (·.1)=Ms at hG
  induction Ms with
  |nil=>exact .nil
  |cons L Ms ih=>exact .cons ((Of (.inl (hG L yu))).mpr rfl) (ih λM hM=>hG M (yr _ hM))
 ·obtain⟨L,hL,rfl⟩:=yk.mp hY;intro z;have:=B2.mp z;subst this;cases c with
  |false=>obtain⟨ns,e,k⟩:=hG _ hL;exact k (B2.mp e.symm)
  |true=>obtain⟨ns,e,k⟩:=hG _ hL;exact k (B2.mp e.symm)
 ·obtain⟨Ms,rfl,r2,Gf⟩:∃Ms,cV=Ms.map wK/\au (bH H) bo Ms/\∀L∈Ms,iH c L:=by
   have sub:∀Y∈cV,∃L,Y=wK L/\iH c L:=λY hY=>by
    obtain⟨L,hL,z⟩:=yk.mp (pm.mem_iff.mp hY);exact⟨L,z.symm,hG L hL⟩
   clear pm pw ql
   induction r' with
   |nil=>exact⟨[],rfl,.nil,λL h=>by cases h⟩
   |cons x _ ih=>
    obtain⟨L,rfl,hL⟩:=sub _ yu;obtain⟨Ms,rfl,k1,k2⟩:=ih λY hY=>sub Y (yr _ hY);obtain⟨a,us,rfl,ha,im⟩:=x;rw[(Of (.inl hL)).mp im]at ha;exact⟨L::Ms,rfl,.cons ⟨a,rfl,ha⟩ k1,λM hM=>by
     skip;rcases xc.mp hM with rfl|hM
     ·exact hL
     ·exact k2 M hM⟩
  exact q l bo Ms H' nl ql (r2.imp λz=>z.mono e) (Ge (S:=iH c) (λh g e=>uJ h g e) Gf hG pm) (vh.mp pw) e
def B3:List V->Hp->VK->Prop:=λxs H Q=>NJ xs H Q\/qX xs H Q
theorem Gh{k:Nat}(hr:aI k X.A)(hc:X.calm=true):aG X (.builtin "sorted") B3:=(jo4 hc).or (Od hr hc)
end
end L2
set_option Elab.async false
set_option linter.all false
set_option maxRecDepth 100000
set_option maxHeartbeats 4000000
namespace L2
open PySem PySem.Spec PyProof.Rows PySem.W
section
variable{P:xf}{w:World}{K:yd}{mg:Str->Option Value}{base:Heap}{x qual:Str}{st:Stmt}{f:Addr}{fd:xo}{N ps:List Str}{k:Nat}{sp:Sp}
theorem bT.okU1(F:bT K x qual st f fd)(S:ah N ps (aP st))
  (hb:∀vs H Q E,sp vs H Q E->vs.length=ps.length/\∀(bj:Value) (A:v7) (outer:List Env) (s:ye),aI k (A.deeper (envOfC qual (aP st) s.heap.objs.size f bj))->
   ∃t,iO (gJ (CXU P w) P w K mg base N qual (aP st) f bj A outer s H E).nox (gY st) t/\t {nx:=λ_ H'=>Q .non H',rt:=Q} (start N vs) H):FnOk P w K mg base (CXU P w) (k+1) f fd ps sp:=
 F.okU S (λvs H Q E h=>(hb vs H Q E h).1) λbj A outer s H vs Q E hr h=>(hb vs H Q E h).2 bj A outer s hr
theorem bT.okL1{c:Addr}(F:bT K x qual st f fd)(hc:fd.code=.ref c)(S:ah N ps (aP st))
  (hb:∀vs H Q E,sp vs H Q E->vs.length=ps.length/\∀(A:v7) (outer:List Env) (s:ye),aI k (A.deeper (envOfC qual (aP st) s.heap.objs.size f (.ref c)))->
   ∃t,iO (gJ (CXU P w) P w K mg base N qual (aP st) f (.ref c) A outer s H E).nox (gY st) t/\t {nx:=λ_ H'=>Q .non H',rt:=Q} (start N vs) H):FnOk P w K mg base (CXU P w) (k+1) f fd ps sp:=
 F.okL hc S (λvs H Q E h=>(hb vs H Q E h).1) λA outer s H vs Q E hr h=>(hb vs H Q E h).2 A outer s hr
theorem bT.b1(F:bT K x qual st f fd)(h:∀(kV doc pm:Value) (an:Option Addr) (bj ct:Value) (a:Value),bindArgs (i7 x qual (jK st) (gY st) (aP st) .none kV doc pm an bj ct) ⟨[a],[]⟩=pure (ps.zip [a]):=by exact λ_ _ _ _ _ _ _=>rfl)(l:ps.length=1:=by rfl):Binds K fd ps []:=
 F.binds λkV doc pm an bj ct us hl=>Wf (P:=λus=>bindArgs (i7 x qual (jK st) (gY st) (aP st) .none kV doc pm an bj ct) ⟨us,[]⟩=pure (ps.zip us)) (h kV doc pm an bj ct) us (hl.trans l)
theorem bT.b2(F:bT K x qual st f fd)(h:∀(kV doc pm:Value) (an:Option Addr) (bj ct:Value) (a b:Value),bindArgs (i7 x qual (jK st) (gY st) (aP st) .none kV doc pm an bj ct) ⟨[a,b],[]⟩=pure (ps.zip [a,b]):=by exact λ_ _ _ _ _ _ _ _=>rfl)(l:ps.length=2:=by rfl):Binds K fd ps []:=
 F.binds λkV doc pm an bj ct us hl=>Wg (P:=λus=>bindArgs (i7 x qual (jK st) (gY st) (aP st) .none kV doc pm an bj ct) ⟨us,[]⟩=pure (ps.zip us)) (h kV doc pm an bj ct) us (hl.trans l)
theorem bT.b3(F:bT K x qual st f fd)(h:∀(kV doc pm:Value) (an:Option Addr) (bj ct:Value) (a b c:Value),bindArgs (i7 x qual (jK st) (gY st) (aP st) .none kV doc pm an bj ct) ⟨[a,b,c],[]⟩=pure (ps.zip [a,b,c]):=by exact λ_ _ _ _ _ _ _ _ _=>rfl)(l:ps.length=3:=by rfl):Binds K fd ps []:=
 F.binds λkV doc pm an bj ct us hl=>Wh (P:=λus=>bindArgs (i7 x qual (jK st) (gY st) (aP st) .none kV doc pm an bj ct) ⟨us,[]⟩=pure (ps.zip us)) (h kV doc pm an bj ct) us (hl.trans l)
theorem bT.b4(F:bT K x qual st f fd)(h:∀(kV doc pm:Value) (an:Option Addr) (bj ct:Value) (a b c d:Value),bindArgs (i7 x qual (jK st) (gY st) (aP st) .none kV doc pm an bj ct) ⟨[a,b,c,d],[]⟩=pure (ps.zip [a,b,c,d]):=by exact λ_ _ _ _ _ _ _ _ _ _=>rfl)(l:ps.length=4:=by rfl):Binds K fd ps []:=
 F.binds λkV doc pm an bj ct us hl=>al4 (P:=λus=>bindArgs (i7 x qual (jK st) (gY st) (aP st) .none kV doc pm an bj ct) ⟨us,[]⟩=pure (ps.zip us)) (h kV doc pm an bj ct) us (hl.trans l)
structure aT(K:yd)(mg:Str->Option Value)(x:Str)(st:Stmt)(f:Addr)(fd:xo):Prop extends bT K x x st f fd where
 m:mg x=some (.ref f)
theorem cF.g{h:Heap}(l:cF K x st f)(X:K.In h)(G:h.Ns mainGlobals mg):∃fd,aT K mg x st f fd:=l.2.imp λ_ F=>⟨F,nG X G l.1⟩
end
theorem bq{X:Cx}{x:Str}{st:Stmt}{f:Addr}{fd:xo}{ps:List Str}{k n:Nat}{sp:Sp}{P:xf}{w:World}{e:Expr}{es:List Expr}{t:TA}{p pos:Pos}(F:FnOk X.prog X.w X.K X.mg X.base (CXU P w) k f fd ps sp)(hr:aI n X.A)(Z:aT X.K X.mg x st f fd)(hb:Binds X.K fd ps [])(ha:PA X (e::es) t)(hk:k<=n:=by decide)(hg:Gl X x:=by rfl)
  (pW:(x==("__debug__":Str))=false:=by decide) (he:starEach (e::es) X.env=(false,eval e X.env)::starEach es X.env:=by rfl) (jF:(backTo pos (starEach es X.env)).any (·.1)=false:=by rfl):PE X (.Call (.Name x p) (e::es) [] pos) (K3 sp [] E0 t):=
 Bi F (hr.mono hk) hg Z.m Z.kp hb .nil cT ha pW he jF
end L2
namespace Q
open PySem PySem.Spec PyProof.Rows L2
def top(i:Nat):Stmt:=y8q.main.body.getD i (.Pass ⟨0,0,0,0⟩)
abbrev Og:Stmt:=top 57
abbrev Oh:Stmt:=top 39
abbrev Oi:Stmt:=top 37
abbrev Ad:Stmt:=top 40
abbrev Oj:Stmt:=top 10
abbrev nH:Stmt:=top 7
abbrev Ol:Stmt:=top 6
abbrev Om:Stmt:=gM (top 33) 4
abbrev Ae:Stmt:=gM (top 12) 4
abbrev On:Stmt:=gM (top 33) 3
abbrev Af:Stmt:=gM (top 31) 3
abbrev Ag:Stmt:=gM (top 28) 3
abbrev Ah:Stmt:=top 26
abbrev Oo:Stmt:=top 25
abbrev Op:Stmt:=gM (top 23) 3
abbrev Ai:Stmt:=top 21
abbrev Oq:Stmt:=gM (top 19) 3
abbrev Ot:Stmt:=gM (top 17) 3
abbrev Ou:Stmt:=top 16
abbrev Ov:Stmt:=top 15
abbrev Aj:Stmt:=gM (top 31) 4
abbrev Ow:Stmt:=top 30
abbrev Ak:Stmt:=gM (top 28) 4
abbrev Ox:Stmt:=top 27
abbrev Oy:Stmt:=gM (top 23) 4
abbrev Oz:Stmt:=top 22
abbrev OA:Stmt:=gM (top 19) 4
abbrev OB:Stmt:=gM (top 17) 4
abbrev OC:Stmt:=gM (top 19) 0
abbrev OD:Stmt:=top 56
abbrev OE:Stmt:=top 52
abbrev OF:Stmt:=top 51
abbrev OG:Stmt:=top 50
abbrev OH:Stmt:=top 55
abbrev nJ:Stmt:=top 54
abbrev OI:Stmt:=top 53
abbrev OJ:Stmt:=top 9
abbrev Al:Stmt:=top 8
abbrev OK:Stmt:=top 49
abbrev OL:Stmt:=gM (top 17) 0
abbrev OM:Stmt:=gM (top 31) 0
abbrev ON:Stmt:=gM (top 33) 0
abbrev OO:Stmt:=gM (top 28) 0
abbrev OP:Stmt:=gM (top 23) 0
abbrev OQ:Stmt:=top 36
abbrev OR:Stmt:=top 35
abbrev OS:Stmt:=top 48
abbrev OT:Stmt:=top 47
abbrev OU:Stmt:=top 38
abbrev OV:Stmt:=top 46
abbrev OW:Stmt:=top 41
abbrev Am:Stmt:=top 45
abbrev OX:Stmt:=top 44
abbrev OY:Stmt:=top 43
abbrev OZ:Stmt:=top 42
set_option genInjectivity false in
structure Adr where
 f54:Addr
 d54:xo
 f44:Addr
 d44:xo
 f40:Addr
 d40:xo
 f_z2:Addr
 d_z2:xo
 f52:Addr
 d52:xo
 ck52:Addr
 tb52:Addr
 f11:Addr
 d11:xo
 f47:Addr
 d47:xo
 f20:Addr
 d20:xo
 f_z1:Addr
 d_z1:xo
 f21:Addr
 d21:xo
 f_z8:Addr
 d8:xo
 f_z6:Addr
 d6:xo
 f_z3:Addr
 d_z3:xo
 f28:Addr
 d28:xo
 f17:Addr
 d17:xo
 f_z4:Addr
 d4:xo
 f15:Addr
 d15:xo
 f13:Addr
 d13:xo
 f49:Addr
 d49:xo
 f50:Addr
 d50:xo
 f_z7:Addr
 d_z7:xo
 f48:Addr
 d48:xo
 f_z5:Addr
 d5:xo
 f22:Addr
 d22:xo
 f16:Addr
 d16:xo
 f53:Addr
 d53:xo
 f14:Addr
 d14:xo
 f12:Addr
 d12:xo
 f30:Addr
 d30:xo
 f27:Addr
 d27:xo
 f38:Addr
 d38:xo
 f45:Addr
 d45:xo
 f26:Addr
 d26:xo
 f33:Addr
 d33:xo
 f10:Addr
 d10:xo
 f23:Addr
 d23:xo
 f51:Addr
 d51:xo
 f_z0:Addr
 d_z0:xo
 f41:Addr
 d41:xo
 f29:Addr
 d29:xo
 f19:Addr
 d19:xo
 f32:Addr
 d32:xo
 f18:Addr
 d18:xo
 f31:Addr
 d31:xo
 f35:Addr
 d35:xo
 f42:Addr
 d42:xo
 f43:Addr
 d43:xo
 f39:Addr
 d39:xo
 f46:Addr
 d46:xo
 f37:Addr
 d37:xo
 f36:Addr
 d36:xo
 f9:Addr
 d9:xo
 f25:Addr
 d25:xo
 f_z24:Addr
 d24:xo
 f34:Addr
 d34:xo
 oo:Addr
 de:Addr
 dg:Addr
 dj:Addr
 cg:Addr
 cf:Addr
 cu:Addr
 ng:Tok
 nu:Tok
structure Txt(K:yd)(mg:Str->Option Value)(a:Adr):Prop where
 F54:aT K mg "law" Og a.f54 a.d54
 F44:aT K mg "_law_same" Oh a.f44 a.d44
 F40:aT K mg "_law_whole" Oi a.f40 a.d40
 F2:aT K mg "_law_all_same" Ad a.f_z2 a.d_z2
 F52:aT K mg "best" Oj a.f52 a.d52
 ck52:a.d52.code=.ref a.ck52
 o6:zt K a.ck52 a.tb52=true
 F11:aT K mg "traced_rows" nH a.f11 a.d11
 F47:aT K mg "reached" Ol a.f47 a.d47
 F20:bT K "moves" "Ways.moves" Om a.f20 a.d20
 F1:bT K "priced" "World.priced" Ae a.f_z1 a.d_z1
 F21:bT K "price" "Ways.price" On a.f21 a.d21
 F8:bT K "price" "Store.price" Af a.f_z8 a.d8
 F6:bT K "price" "Shelf.price" Ag a.f_z6 a.d6
 F3:aT K mg "turned_pairs" Ah a.f_z3 a.d_z3
 F28:aT K mg "overtakers" Oo a.f28 a.d28
 F17:bT K "price" "Line.price" Op a.f17 a.d17
 F4:aT K mg "ways_between" Ai a.f_z4 a.d4
 F15:bT K "price" "Hire.price" Oq a.f15 a.d15
 F13:bT K "price" "Bags.price" Ot a.f13 a.d13
 F49:aT K mg "filled" Ou a.f49 a.d49
 F50:aT K mg "opened" Ov a.f50 a.d50
 F7:bT K "moves" "Store.moves" Aj a.f_z7 a.d_z7
 F48:aT K mg "swapped" Ow a.f48 a.d48
 F5:bT K "moves" "Shelf.moves" Ak a.f_z5 a.d5
 F22:aT K mg "all_orders" Ox a.f22 a.d22
 F16:bT K "moves" "Line.moves" Oy a.f16 a.d16
 F53:aT K mg "sent" Oz a.f53 a.d53
 F14:bT K "moves" "Hire.moves" OA a.f14 a.d14
 F12:bT K "moves" "Bags.moves" OB a.f12 a.d12
 F30:bT K "__init__" "Hire.__init__" OC a.f30 a.d30
 F27:aT K mg "_law_walked" OD a.f27 a.d27
 F38:aT K mg "_law_price" OE a.f38 a.d38
 F45:aT K mg "_law_put" OF a.f45 a.d45
 F26:aT K mg "_law_turned" OG a.f26 a.d26
 F33:aT K mg "_law_after" OH a.f33 a.d33
 F10:aT K mg "_law_put_out" nJ a.f10 a.d10
 F23:aT K mg "_law_orders" OI a.f23 a.d23
 F51:aT K mg "table" OJ a.f51 a.d51
 F0:aT K mg "without_trace" Al a.f_z0 a.d_z0
 F41:aT K mg "_law_world" OK a.f41 a.d41
 F29:bT K "__init__" "Bags.__init__" OL a.f29 a.d29
 F19:bT K "__init__" "Store.__init__" OM a.f19 a.d19
 F32:bT K "__init__" "Ways.__init__" ON a.f32 a.d32
 F18:bT K "__init__" "Shelf.__init__" OO a.f18 a.d18
 F31:bT K "__init__" "Line.__init__" OP a.f31 a.d31
 F35:aT K mg "_law_mixed" OQ a.f35 a.d35
 F42:aT K mg "_law_cell" OR a.f42 a.d42
 F43:aT K mg "_law_game" OS a.f43 a.d43
 F39:aT K mg "_law_sizes" OT a.f39 a.d39
 F46:aT K mg "_law_sum" OU a.f46 a.d46
 F37:aT K mg "_law_pages" OV a.f37 a.d37
 F36:aT K mg "_law_names" OW a.f36 a.d36
 F9:aT K mg "_law_charged" Am a.f9 a.d9
 F25:aT K mg "_law_things" OX a.f25 a.d25
 F24:aT K mg "_law_places" OY a.f_z24 a.d24
 F34:aT K mg "_law_hires" OZ a.f34 a.d34
 m_Bags:mg "Bags"=some (.ref a.de)
 mt:eQ K a.de
 og:Mk K a.de a.f29
 dn:NoAttr K a.de "room"
 mj:aS K a.de "moves" a.f12
 mn:aS K a.de "price" a.f13
 tj:aS K a.de "priced" a.f_z1
 m_Hire:mg "Hire"=some (.ref a.dg)
 my:eQ K a.dg
 o7:Mk K a.dg a.f30
 dq:NoAttr K a.dg "whole"
 mq:aS K a.dg "moves" a.f14
 ml:aS K a.dg "price" a.f15
 tm:aS K a.dg "priced" a.f_z1
 m_Line:mg "Line"=some (.ref a.dj)
 md:eQ K a.dj
 oh:Mk K a.dj a.f31
 cx:NoAttr K a.dj "many"
 mh:aS K a.dj "moves" a.f16
 me:aS K a.dj "price" a.f17
 eh:aS K a.dj "priced" a.f_z1
 m_Shelf:mg "Shelf"=some (.ref a.cg)
 mr:eQ K a.cg
 nv:Mk K a.cg a.f18
 dk:NoAttr K a.cg "things"
 m6:aS K a.cg "moves" a.f_z5
 tw:aS K a.cg "price" a.f_z6
 t7:aS K a.cg "priced" a.f_z1
 m_Store:mg "Store"=some (.ref a.cf)
 dv:eQ K a.cf
 o0:Mk K a.cf a.f19
 ck:NoAttr K a.cf "many"
 m9:aS K a.cf "moves" a.f_z7
 tu:aS K a.cf "price" a.f_z8
 dm:aS K a.cf "priced" a.f_z1
 m_Ways:mg "Ways"=some (.ref a.cu)
 t9:eQ K a.cu
 oj:Mk K a.cu a.f32
 dc:NoAttr K a.cu "many"
 t5:NoAttr K a.cu "toll"
 mi:aS K a.cu "moves" a.f20
 mf:aS K a.cu "price" a.f21
 ma:aS K a.cu "priced" a.f_z1
 n_abs:mg "abs"=none
 qw:mg "bool"=none
 n_int:mg "int"=none
 c7:mg "isinstance"=none
 cr:mg "len"=none
 mx:mg "list"=none
 n_max:mg "max"=none
 om:mg "min"=none
 c9:mg "range"=none
 ot:mg "reversed"=none
 n_set:mg "set"=none
 cw:mg "sorted"=none
 n_str:mg "str"=none
 n_sum:mg "sum"=none
 dh:mg "tuple"=none
 n_zip:mg "zip"=none
 qd:mg "MOST_STATES"=some (.int 60 a.ng)
 qv:mg "MOST_BAGS"=some (.int 500 a.nu)
theorem all_mk{ts:List Addr}{l:Ly}{w:World}{K:yd}{h:Heap}{mg:Str->Option Value}{fa:Addr}(sp:yd->Adr->Sp)(ok:∀(a:Adr) (base:Heap),Txt K mg a->FnOk l.prog w K mg base (CXU l.prog w) 14 a.f54 a.d54 ["_law_script"] (sp K a))(hsp:∀(K:yd) (a:Adr) (H:Hp) (p:Addr) (ns:List Int),ns.length<=63->(∀z∈ns,ib z<=1048576)->H a.tb52=some (.tbl #[])->SqL K H p (ns.map V.int)->sp K a [.ref p] H (λv _=>v=.bl true) λ_ _ _=>False)(X:K.In h)(G:h.Ns mainGlobals mg)(hfa:mg "law"=some (.ref fa))
  {f54 f44 f40 f_z2 f52 f11 f47 f20 f_z1 f21 f_z8 f_z6 f_z3 f28 f17 f_z4 f15 f13 f49 f50 f_z7 f48 f_z5 f22 f16 f53 f14 f12 f30 f27 f38 f45 f26 f33 f10 f23 f51 f_z0 f41 f29 f19 f32 f18 f31 f35 f42 f43 f39 f46 f37 f36 f9 f25 f_z24 f34 oo de dg dj cg cf cu:Addr}
  {ck52 tb52:Addr}{nK:Option Addr}{qr:Array Value}{nL:Array (Option Value)}
  {ng:Tok}
  {nu:Tok}
  (qu:NsC K "World" oo)
  (qi:NsC K "Bags" de)
  (qh:NsC K "Hire" dg)
  (qg:NsC K "Line" dj)
  (qa:NsC K "Shelf" cg)
  (ou:NsC K "Store" cf)
  (qm:NsC K "Ways" cu)
  (O0:cF K "law" Og f54)
  (l44:cF K "_law_same" Oh f44)
  (l40:cF K "_law_whole" Oi f40)
  (l_z2:cF K "_law_all_same" Ad f_z2)
  (O1:FF K mainGlobals "best"=some (some (.ref f52))/\∃fd,bT K "best" "best" Oj f52 fd/\fd.code=.ref ck52)
  (jT:K.lookup ck52=some ⟨.type "code",nK,.fields qr,nL⟩)
  (jU:qr[11]?=some (.ref tb52))
  (o6:zt K ck52 tb52=true)
  (qp:ts.contains tb52=true)
  (JG:cF K "traced_rows" nH f11)
  (l47:cF K "reached" Ol f47)
  (l20:gT K cu "moves" "Ways.moves" Om f20)
  (l_z1:gT K oo "priced" "World.priced" Ae f_z1)
  (l21:gT K cu "price" "Ways.price" On f21)
  (l_z8:gT K cf "price" "Store.price" Af f_z8)
  (l_z6:gT K cg "price" "Shelf.price" Ag f_z6)
  (l_z3:cF K "turned_pairs" Ah f_z3)
  (l28:cF K "overtakers" Oo f28)
  (l17:gT K dj "price" "Line.price" Op f17)
  (l_z4:cF K "ways_between" Ai f_z4)
  (l_z15:gT K dg "price" "Hire.price" Oq f15)
  (l_z13:gT K de "price" "Bags.price" Ot f13)
  (l49:cF K "filled" Ou f49)
  (l50:cF K "opened" Ov f50)
  (l_z7:gT K cf "moves" "Store.moves" Aj f_z7)
  (l48:cF K "swapped" Ow f48)
  (l_z5:gT K cg "moves" "Shelf.moves" Ak f_z5)
  (l22:cF K "all_orders" Ox f22)
  (l_z16:gT K dj "moves" "Line.moves" Oy f16)
  (l53:cF K "sent" Oz f53)
  (l14:gT K dg "moves" "Hire.moves" OA f14)
  (l_z12:gT K de "moves" "Bags.moves" OB f12)
  (l30:gT K dg "__init__" "Hire.__init__" OC f30)
  (l27:cF K "_law_walked" OD f27)
  (l38:cF K "_law_price" OE f38)
  (l45:cF K "_law_put" OF f45)
  (l26:cF K "_law_turned" OG f26)
  (l33:cF K "_law_after" OH f33)
  (l10:cF K "_law_put_out" nJ f10)
  (l23:cF K "_law_orders" OI f23)
  (l51:cF K "table" OJ f51)
  (l_z0:cF K "without_trace" Al f_z0)
  (l41:cF K "_law_world" OK f41)
  (l29:gT K de "__init__" "Bags.__init__" OL f29)
  (l19:gT K cf "__init__" "Store.__init__" OM f19)
  (l32:gT K cu "__init__" "Ways.__init__" ON f32)
  (l18:gT K cg "__init__" "Shelf.__init__" OO f18)
  (l31:gT K dj "__init__" "Line.__init__" OP f31)
  (l35:cF K "_law_mixed" OQ f35)
  (l42:cF K "_law_cell" OR f42)
  (l43:cF K "_law_game" OS f43)
  (l39:cF K "_law_sizes" OT f39)
  (l46:cF K "_law_sum" OU f46)
  (l37:cF K "_law_pages" OV f37)
  (l36:cF K "_law_names" OW f36)
  (l_z9:cF K "_law_charged" Am f9)
  (l25:cF K "_law_things" OX f25)
  (l24:cF K "_law_places" OY f_z24)
  (l34:cF K "_law_hires" OZ f34)
  (mt:eQ K de)
  (og:Mk K de f29)
  (dn:NoAttr K de "room")
  (mj:aS K de "moves" f12)
  (mn:aS K de "price" f13)
  (tj:aS K de "priced" f_z1)
  (my:eQ K dg)
  (o7:Mk K dg f30)
  (dq:NoAttr K dg "whole")
  (mq:aS K dg "moves" f14)
  (ml:aS K dg "price" f15)
  (tm:aS K dg "priced" f_z1)
  (md:eQ K dj)
  (oh:Mk K dj f31)
  (cx:NoAttr K dj "many")
  (mh:aS K dj "moves" f16)
  (me:aS K dj "price" f17)
  (eh:aS K dj "priced" f_z1)
  (mr:eQ K cg)
  (nv:Mk K cg f18)
  (dk:NoAttr K cg "things")
  (m6:aS K cg "moves" f_z5)
  (tw:aS K cg "price" f_z6)
  (t7:aS K cg "priced" f_z1)
  (dv:eQ K cf)
  (o0:Mk K cf f19)
  (ck:NoAttr K cf "many")
  (m9:aS K cf "moves" f_z7)
  (tu:aS K cf "price" f_z8)
  (dm:aS K cf "priced" f_z1)
  (t9:eQ K cu)
  (oj:Mk K cu f32)
  (dc:NoAttr K cu "many")
  (t5:NoAttr K cu "toll")
  (mi:aS K cu "moves" f20)
  (mf:aS K cu "price" f21)
  (ma:aS K cu "priced" f_z1)
  (nM:NsB K "abs")
  (qx:NsB K "bool")
  (z_int:NsB K "int")
  (nn:NsB K "isinstance")
  (z_len:NsB K "len")
  (z_list:NsB K "list")
  (z_max:NsB K "max")
  (z_min:NsB K "min")
  (qk:NsB K "range")
  (o8:NsB K "reversed")
  (z_set:NsB K "set")
  (oq:NsB K "sorted")
  (z_str:NsB K "str")
  (z_sum:NsB K "sum")
  (qj:NsB K "tuple")
  (z_zip:NsB K "zip")
  (mz:FF K mainGlobals "MOST_STATES"=some (some (.int 60 ng)))
  (nq:FF K mainGlobals "MOST_BAGS"=some (some (.int 500 nu)))
  (nt:Jm K=true):
  ∃(fd:xo) (cps:List (Addr×Addr)) (sp:Sp),Jm K=true/\(∀q∈cps,zt K q.1 q.2=true/\ts.contains q.2=true)/\(∀(s:ye) (v:Value),oJ s fd ⟨[v],[]⟩ [("_law_script",v)])/\(∀(H:Hp) (a:Addr) (ns:List Int),ns.length<=63->(∀z∈ns,ib z<=1048576)->(∀q∈cps,H q.2=some (.tbl #[]))->SqL K H a (ns.map V.int)->sp [.ref a] H (λv _=>v=.bl true) λ_ _ _=>False)/\∀base:Heap,K.In base->base.Ns mainGlobals mg->FnOk l.prog w K mg base (CXU l.prog w) 14 fa fd ["_law_script"] sp:=by
 obtain⟨Wo,d54,F54⟩:=O0;obtain⟨d44,F44⟩:=l44.g X G;obtain⟨d40,F40⟩:=l40.g X G;obtain⟨d_z2,F2⟩:=l_z2.g X G;obtain⟨a52,d52,F52,An⟩:=O1;obtain⟨d11,F11⟩:=JG.g X G;obtain⟨d47,F47⟩:=l47.g X G;obtain⟨a20,d20,F20⟩:=l20;obtain⟨Qb2,d_z1,F1⟩:=l_z1;obtain⟨a21,d21,F21⟩:=l21;obtain⟨Qb3,d8,F8⟩:=l_z8;obtain⟨a6,d6,F6⟩:=l_z6;obtain⟨d_z3,F3⟩:=l_z3.g X G;obtain⟨d28,F28⟩:=l28.g X G;obtain⟨a17,d17,F17⟩:=l17;obtain⟨d4,F4⟩:=l_z4.g X G;obtain⟨a15,d15,F15⟩:=l_z15;obtain⟨a13,d13,F13⟩:=l_z13;obtain⟨d49,F49⟩:=l49.g X G;obtain⟨d50,F50⟩:=l50.g X G;obtain⟨a7,d_z7,F7⟩:=l_z7;obtain⟨d48,F48⟩:=l48.g X G;obtain⟨Qb4,d5,F5⟩:=l_z5;obtain⟨d22,F22⟩:=l22.g X G;obtain⟨a16,d16,F16⟩:=l_z16;obtain⟨d53,F53⟩:=l53.g X G;obtain⟨a14,d14,F14⟩:=l14;obtain⟨a12,d12,F12⟩:=l_z12;obtain⟨a30,d30,F30⟩:=l30;obtain⟨d27,F27⟩:=l27.g X G;obtain⟨d38,F38⟩:=l38.g X G;obtain⟨d45,F45⟩:=l45.g X G;obtain⟨d26,F26⟩:=l26.g X G;obtain⟨d33,F33⟩:=l33.g X G;obtain⟨d10,F10⟩:=l10.g X G;obtain⟨d23,F23⟩:=l23.g X G;obtain⟨d51,F51⟩:=l51.g X G;obtain⟨d_z0,F0⟩:=l_z0.g X G;obtain⟨d41,F41⟩:=l41.g X G;obtain⟨a29,d29,F29⟩:=l29;obtain⟨a19,d19,F19⟩:=l19;obtain⟨a32,d32,F32⟩:=l32;obtain⟨a18,d18,F18⟩:=l18;obtain⟨a31,d31,F31⟩:=l31;obtain⟨d35,F35⟩:=l35.g X G;obtain⟨d42,F42⟩:=l42.g X G;obtain⟨d43,F43⟩:=l43.g X G;obtain⟨d39,F39⟩:=l39.g X G;obtain⟨d46,F46⟩:=l46.g X G;obtain⟨d37,F37⟩:=l37.g X G;obtain⟨d36,F36⟩:=l36.g X G;obtain⟨d9,F9⟩:=l_z9.g X G;obtain⟨d25,F25⟩:=l25.g X G;obtain⟨d24,F24⟩:=l24.g X G;obtain⟨d34,F34⟩:=l34.g X G;have e:=hfa.symm.trans (nG X G Wo);cases e;have T:Txt K mg ⟨fa,d54,f44,d44,f40,d40,f_z2,d_z2,f52,d52,ck52,tb52,f11,d11,f47,d47,f20,d20,f_z1,d_z1,f21,d21,f_z8,d8,f_z6,d6,f_z3,d_z3,f28,d28,f17,d17,f_z4,d4,f15,d15,f13,d13,f49,d49,f50,d50,f_z7,d_z7,f48,d48,f_z5,d5,f22,d22,f16,d16,f53,d53,f14,d14,f12,d12,f30,d30,f27,d27,f38,d38,f45,d45,f26,d26,f33,d33,f10,d10,f23,d23,f51,d51,f_z0,d_z0,f41,d41,f29,d29,f19,d19,f32,d32,f18,d18,f31,d31,f35,d35,f42,d42,f43,d43,f39,d39,f46,d46,f37,d37,f36,d36,f9,d9,f25,d25,f_z24,d24,f34,d34,oo,de,dg,dj,cg,cf,cu,_,_⟩:=⟨⟨F54,nG X G Wo⟩,F44,F40,F2,⟨F52,nG X G a52⟩,An,o6,F11,F47,F20,F1,F21,F8,F6,F3,F28,F17,F4,F15,F13,F49,F50,F7,F48,F5,F22,F16,F53,F14,F12,F30,F27,F38,F45,F26,F33,F10,F23,F51,F0,F41,F29,F19,F32,F18,F31,F35,F42,F43,F39,F46,F37,F36,F9,F25,F24,F34,nG X G qi,mt,og,dn,mj,mn,tj,nG X G qh,my,o7,dq,mq,ml,tm,nG X G qg,md,oh,cx,mh,me,eh,nG X G qa,mr,nv,dk,m6,tw,t7,nG X G ou,dv,o0,ck,m9,tu,dm,nG X G qm,t9,oj,dc,t5,mi,mf,ma,vn X G nM,vn X G qx,vn X G z_int,vn X G nn,vn X G z_len,vn X G z_list,vn X G z_max,vn X G z_min,vn X G qk,vn X G o8,vn X G z_set,vn X G oq,vn X G z_str,vn X G z_sum,vn X G qj,vn X G z_zip,nG X G mz,nG X G nq⟩
 exact⟨_,[(ck52,tb52)],_,nt,λq hq=>by rw[y9.mp hq];exact⟨o6,qp⟩,F54.one λ_ _ _ _ _ _ _ _=>rfl,λH p ns h1 h2 h3 h4=>hsp K _ H p ns h1 h2 (h3 _ (.head _)) h4,λbase _ _=>ok _ base T⟩
theorem walk{l:Ly}{q:xf}{cL:List Str}{XP:(Str->Option Value)->Heap->Prop}{YP:World->Heap->Prop}{d:Ii}{K:Ih->yd}{ts:List Addr}(hn:l.most=some 63)(qB:d.params.defaults=[])
  (hY:∀(w:World) (h:Heap),YP w h->(K w.params).In h) (Nk:∀(w:World) (h:Heap),YP w h->∀P∈ts,h.get? P=some (Jn #[]))
  (F:∀(w:World) (mg:Str->Option Value) (fa:Addr) (h:Heap),(K w.params).In h->h.Ns mainGlobals mg->mg d.name=some (.ref fa)->
   ∃(fd:xo) (cps:List (Addr×Addr)) (sp:Sp),Jm (K w.params)=true/\(∀q∈cps,zt (K w.params) q.1 q.2=true/\ts.contains q.2=true)/\(∀(s:ye) (u:Value),oJ s fd ⟨[u],[]⟩ [("_law_script",u)])/\
    (∀(H:Hp) (a:Addr) (ns:List Int),ns.length<=63->(∀z∈ns,ib z<=1048576)->(∀q∈cps,H q.2=some (.tbl #[]))->SqL (K w.params) H a (ns.map V.int)->sp [.ref a] H (λv _=>v=.bl true) λ_ _ _=>False)/\
    ∀base:Heap,(K w.params).In base->base.Ns mainGlobals mg->FnOk l.prog w (K w.params) mg base (CXU l.prog w) 14 fa fd ["_law_script"] sp):
  Tg q cL XP YP l.row.toRowW d [] (λf vs=>Ij f vs):=
 L2.walk_ofT (n:=63) (k:=14) (x:="_law_script") (CX:=λw=>CXU l.prog w) hn (by decide) qB ⟨rfl,by decide,by decide,rfl⟩ hY Nk F DO
end Q
section
structure PySem.W.Fast:Prop where
  (tw16651953868175875716 tw9914828944097030670 tw14964151117088073646 tw11986978670668562085 tw4516208269328355929 tw9717973452540230776 tw11900628758079658339 tw13814216538201753322 tw13021227568653230501 tw18405005116695130056 tw6189542663787199508 tw3962828569457184026 tw15701821963173614739 tw7904426839956977223 tw5634122585529695536 tw6635739080495980483 tw3578244156035082513 tw6871896634114698891 tw6095629182923337625 tw293730171946301737 tw2548212878891722259 tw7284733885340690908 tw6668529481626421899 tw2639508471006062675 tw5653263314237777659 tw6627962324215408343 tw7291635209132404543 tw7374741229493698876 tw3267105177923394691 tw13300121688299432009 tw304225431579220092 tw10483502363786303033 tw6494731449836089887 tw18310471016526858508 tw13400656520820730194 tw14862364886675689222 tw13902797908724287887 tw10054517130674220154 tw12916550035341117661 tw2656944292579856072 tw14229473273264215883 tw13786693960420955788 tw1398474543126173677 tw4407087714302587107 tw9213479386035647984 tw6691539805387294894 tw13959908793284637302 tw16391986192927500936 tw958513995889481705 tw16338387626689968080 tw3768400688138236057 tw4580853742774155423 tw16090718882452445621 tw5576667401967700843 tw10212008973265791538 tw5483013389777853730 tw5835695734697558578 tw5219316061635326599 tw14820739436015339189 tw9257869832688741743 tw1396992420290901506 tw5643707544150466197 tw15648729335865014871 tw5395633257500910863 tw8965438821673951834 tw13490923612452529610 tw9161157154817666380 tw285081347562194218 tw2122566740711393777 tw11848714187406284171 tw3050587641502939798 tw8609958520816729861 tw362592369428782978 tw5342434432091544451 tw8647224321943402203 tw6686617523524604598 tw8521458431111551583 tw8078434599941290874 tw6816369650847024861 tw7827325989332309479 tw15725104612728580974 tw15827928494568496694 tw17405610133985659256 tw4342934639677069566 tw2257709381139704422 tw4332719682298622690 tw14785400913277618678 tw14485996687787711597 tw10281640624846617754 tw4909506416340363445 tw5302255349533693861 tw13811637990588468297 tw650068481930010709 tw3301932471655046505 tw10956288336163167607 tw3904918464395563460 tw16518143816664631697 tw15595812668154234632 tw12516431228578067883 tw1536261794045519617 tw5155618775318807280 tw15584083842480955653 tw1840887380938210728 tw10240333807288752398 tw15143367564193581259 tw8684042010372672382 tw15953439005563019871 tw3170230435153153828 tw1895229681336972434 tw5011216902103003964 tw13512918051241753166 tw7047715580167657231 tw2612479055056346535 tw13908632211149024303 tw9672234847114377397 tw16332092747406669194 tw2701964700664381798 tw15427355987496868786 tw3012095366993557775 tw2411726530515995792 tw4373492597285142618 tw11863556474927700173 tw54918578408615499 tw17309157693163492943 tw8009763081997825452 tw4303525117450119806 tw6596745538426003074 tw14600195460142217438 tw15415978332209162466 tw10850848245518316783 tw4133077520721847255 tw2997830760126383881 tw4685279814877548180 tw7856811151703173373 tw15736045791655957976 tw18267440569098801520 tw12713911051182972922 tw9222342607581612715 tw9036495167703030120 tw7128967433500920699 tw13989860616125646741 tw4549273644339291137 tw15563322270372645615 tw12480037931209023682 tw11658360749502171438 tw18056639095619276182 tw6432235359274933294 tw14779303732286375767 tw16491734938137101551 tw18299740856027516338 tw10220614455966343630 tw10818213176108238293 tw17739246541134555787 tw10450302941670170528 tw8746559678135347952 tw12977556064226136441 tw14602926280064968834 tw17946232590925608526 tw10940151656559636829 tw13154282889998692738 tw491802863745046546 tw6475075890693854340 tw1200670225197064012 tw9626338796563473395 tw3249237579092563898 tw17641745539333533011 tw5885207157793826597 tw15524040370565135134 tw10616943666366966024 tw11208714752696242491 tw16030232205982265325 tw5437102394151946074 tw11219704451234421776 tw12793609495170356265 tw16978844922043813357 tw2316212207119850216 tw13707794330115166357 tw16876552123279715162 tw12574039739167064455 tw2588897996941304617 tw17486274120733375435 tw9024306363965011832 tw2363064572439725635 tw16534627659437272940 tw10798037287615432431 tw393673975999628943 tw12184348474100572991 tw13822589392084733927 tw15958737649962438031 tw3693250388215750282 tw6812615029420114161 tw15599185583693332252 tw9071910600017199311 tw1045354480831562331 tw6146588837468217070 tw7262164461589488871 tw11720049581798280744 tw8871489643047786984 tw3147345749329703891 tw7577556779847169045 tw16397067721485159107 tw15220344701952612498 tw8622965661028712411 tw12121474056986548290 tw15424804432692052686 tw16652612783179295735 tw4684045500990667072 tw16145821521547408649 tw14899506559580899081 tw5863408206200458521 tw7717729819304141381 tw16794855198925173684 tw5992808117382571439 tw13546368390129029840 tw3849041123368082457 tw16405248969921497051 tw324217816971231039 tw2811200480159875634 tw13828104515204053813 tw15841167753352300255 tw15655175529070164313 tw3673780281115293689 tw41193102641711251 tw16912130132331424329 tw11504755699057013650 tw5336411022078785609 tw16095475775356931876 tw13461680272160750797 tw10044392468218591197 tw4214502931061827724 tw6759269610204416712 tw10626418726533751560 tw8530826928426113830 tw15994766980608654867 tw15204203434684044351 tw8562027343254401348 tw10512291219905682614 tw2189475756578538698 tw17723718799355823046 tw12979525024525382273 tw3977849623258612665 tw5253897344547923035 tw17300239403835903736 tw3144747648092647889 tw1426141571705853173 tw12448315029141877215 tw11550103503567325526 tw16825771150133066708 tw601539555516196456 tw15340568792478994736 tw9000914034550339295 tw1533277717119423350 tw3104367872065459272 tw9635459453070779103 tw10669937606383145075 tw8752263339885582394 tw15023083604796368686 tw6712433060309867894 tw2740000066423778717 tw6338030223892671002 tw15542790767679810309 tw13113938581810834778 tw5420564646673579047 tw51007738342296836 tw17035593267521299684 tw16004437621847424551 tw1570762907277092639 tw15483822893258517772 tw15648962999714925068 tw11096930356916702266 tw10008139982990275987 tw9822886465266656245 tw5942122726800452231 tw13946585143886910021 tw1653697989210972284 tw8126184602839714034 tw5024088981918583629 tw9176685225759156690 tw17029485259930234817 tw6570648755763254057 tw1937040183345715252 tw3643469458458732490 tw8269568228807364092 tw10557685270108829855 tw15439623149132464720 tw5781371414941630413 tw2875245708700577624 tw2714198775811792749 tw1722286186856513969 tw3237458800090876985 tw10133635549481071409 tw17189049816270236897 tw12046582478814771101 tw5440783912157933526 tw2957466248408193394 tw3089778551636099794 tw11735865636069233938 tw6944770404465625036 tw9209197444184590031 tw5389343402050970825 tw9427748701708850068 tw17225639179850366577 tw17521955022206588179 tw11573731815315351661 tw798547593095471262 tw7609197291198049907 tw2713210403012269999 tw346036305961088014 tw13967463832591376711 tw11152795803467185194 tw12716957183216108860 tw8173452023899106494 tw12360363331408290669 tw4004429123529626879 tw2773423719766870548 tw7555507507618781887 tw15571752682150432020 tw16724099365632721940 tw6110740818472400820 tw16551021690732040585 tw3389155352833961408 tw14250981402771294659 tw16654797797096768878 tw8500458936614029601 tw11808074029776020194 tw6913090747053285704 tw5071068121482897934 tw16577695734104449412 tw18334025799651296261 tw9601338219116260082 tw10417665133255601046 tw11978931367521123179 tw5357653844060470173 tw18326832613282502833 tw13875438004006473325 tw15945001065497569615 tw2935951073749560652 tw10642963271458004458 tw3602539489269007603 tw7088607624648180766 tw2159058170951628354 tw17294071877585421594 tw10728883786456324960 tw10707166122600941115 tw8009777637878998059 tw12140452466931910024 tw13591599897444257569 tw8691561232184936563 tw13870076700140128367 tw12475136656385887279 tw16027313139452481270 tw1323149663340789948 tw2670249520353779720 tw2017493404278276065 tw16930240191214328897 tw4851055729344170522 tw6385686996910812079 tw15170879581795356699 tw85727030901717716 tw6700059015620388771 tw4303618936308497576 tw9697837018622969291 tw16331205968115005047 tw4650175316391787346 tw5600211003590068560 tw13030782652122706175 tw16176862251377036282 tw3466843486947998748 tw14522977208740942594 tw7045314735633776633 tw213235906166200331 tw13954713081214516231 tw5818007117003198523 tw1506229217974018189 tw11560705326614635001 tw7532319495159928590 tw246712593818780794 tw12347536673159490463 tw10981531039132893681 tw2337363862625484021 tw5828483688102017220 tw6081712595455909505 tw5344574873073941287 tw1570478832350071161 tw773901074313904067 tw4682404661824988900 tw17375442254365111649 tw7838738660822704323 tw5990480711401525219 tw1627355280984982586 tw5573175619330475725:True)
open PySem PySem.W PyProof.Rows
set_option maxRecDepth 100000 in
set_option maxHeartbeats 0 in
open_top PySem.Challenge.cw_lateknow_k63_best_way_hd for PySem.Challenge.rw_lateknow_k63_best_way
local macro_rules | `(tactic| walk_at "k0")=>`(tactic| first | ((with_reducible show L2.NsC _ _ _);unfold L2.NsC;k_is) | (unfold L2.NsB;k_is))
local macro_rules | `(tactic| walk_at "kn")=>`(tactic| (unfold L2.NoAttr;k_is))
local macro_rules | `(tactic| walk_at "kf")=>`(tactic| (refine' ⟨?ka,_,L2.fun_mk ?kb ?kc ?kd⟩;(case ka=>k_is);(case kb=>k_is);(case kc=>k_is);(case kd=>k_is)))
local macro_rules | `(tactic| walk_at "kl")=>`(tactic| (refine' ⟨?ka,_,L2.fun_mk ?kb ?kc ?kd,rfl⟩;(case ka=>k_is);(case kb=>k_is);(case kc=>k_is);(case kd=>k_is)))
local macro_rules | `(tactic| walk_at "k3")=>`(tactic| (refine' ⟨?ka,?kb,?kc⟩;(case ka=>k_is);(case kb=>k_is);(case kc=>k_is)))
local macro_rules | `(tactic| walk_at "k4")=>`(tactic| (refine' ⟨?ka,?kb,?kc,?kd⟩;(case ka=>k_is);(case kb=>k_is);(case kc=>k_is);(case kd=>k_is)))
set_option maxRecDepth 100000 in
set_option maxHeartbeats 0 in
theorem PySem.Challenge.cw_lateknow_k63_best_way_pre (sp : PySem.W.Frag → Q.Adr → L2.Sp) (hsp : ∀ (K : PySem.W.Frag) (a : Q.Adr) (H : L2.Hp) (p : Addr) (ns : List Int), ns.length ≤ 63 → (∀ z ∈ ns, L2.ib z ≤ 1048576) → H a.tb52 = some (.tbl #[]) → L2.SqL K H p (ns.map L2.V.int) → sp K a [.ref p] H (fun v _ => v = .bl true) fun _ _ _ => False)
  (ok:∀(w:World) (K:yd) (mg:Str->Option Value) (a:Q.Adr) (base:Heap),Q.Txt K mg a->L2.FnOk O2.prog w K mg base (L2.CXU O2.prog w) 14 a.f54 a.d54 ["_law_script"] (sp K a)):O2.Holds:=by
 refine PySem.Challenge.cw_lateknow_k63_best_way_hd ?_
 k_fill
 refine Q.walk (l:=O2) rfl rfl (λw h Y=>PySem.W.km_in_of Y) (λw h Y=>PySem.W.km_tabs_of Y) ?F
 case F=>
  intro w mg fa h KX G qC
  refine' Q.all_mk sp (λa base T=>ok w _ mg a base T) hsp KX G qC ?qu ?qi ?qh ?qg ?qa ?ou ?qm ?O0 ?l44 ?l40 ?l_z2 ?O1 ?jT ?jU ?o6 ?qp ?JG ?l47 ?l20 ?l_z1 ?l21 ?l_z8 ?l_z6 ?l_z3 ?l28 ?l17 ?l_z4 ?l_z15 ?l_z13 ?l49 ?l50 ?l_z7 ?l48 ?l_z5 ?l22 ?l_z16 ?l53 ?l14 ?l_z12 ?l30 ?l27 ?l38 ?l45 ?l26 ?l33 ?l10 ?l23 ?l51 ?l_z0 ?l41 ?l29 ?l19 ?l32 ?l18 ?l31 ?l35 ?l42 ?l43 ?l39 ?l46 ?l37 ?l36 ?l_z9 ?l25 ?l24 ?l34 ?mt ?og ?dn ?mj ?mn ?tj ?my ?o7 ?dq ?mq ?ml ?tm ?md ?oh ?cx ?mh ?me ?eh ?mr ?nv ?dk ?m6 ?tw ?t7 ?dv ?o0 ?ck ?m9 ?tu ?dm ?t9 ?oj ?dc ?t5 ?mi ?mf ?ma ?nM ?qx ?z_int ?nn ?z_len ?z_list ?z_max ?z_min ?qk ?o8 ?z_set ?oq ?z_str ?z_sum ?qj ?z_zip ?mz ?nq ?nt
  (case qu|qi|qh|qg|qa|ou|qm=>walk_at "k0")
  (case O0|l44|l40|l_z2=>walk_at "kf")
  (case O1=>walk_at "kl")
  (case jT=>k_is)
  (case jU=>exact rfl)
  (case o6=>kernel_rfl)
  (case qp=>exact rfl)
  (case JG|l47|l20|l_z1|l21|l_z8|l_z6|l_z3|l28|l17|l_z4|l_z15|l_z13|l49|l50|l_z7|l48|l_z5|l22|l_z16|l53|l14|l_z12|l30|l27|l38|l45|l26|l33|l10|l23|l51|l_z0|l41|l29|l19|l32|l18|l31|l35|l42|l43|l39|l46|l37|l36|l_z9|l25|l24|l34=>walk_at "kf")
  (case mt|og=>walk_at "k4")
  (case dn=>walk_at "kn")
  (case mj|mn|tj=>walk_at "k3")
  (case my|o7=>walk_at "k4")
  (case dq=>walk_at "kn")
  (case mq|ml|tm=>walk_at "k3")
  (case md|oh=>walk_at "k4")
  (case cx=>walk_at "kn")
  (case mh|me|eh=>walk_at "k3")
  (case mr|nv=>walk_at "k4")
  (case dk=>walk_at "kn")
  (case m6|tw|t7=>walk_at "k3")
  (case dv|o0=>walk_at "k4")
  (case ck=>walk_at "kn")
  (case m9|tu|dm=>walk_at "k3")
  (case t9|oj=>walk_at "k4")
  (case dc|t5=>walk_at "kn")
  (case mi|mf|ma=>walk_at "k3")
  (case nM|qx|z_int|nn|z_len|z_list|z_max|z_min|qk|o8|z_set|oq|z_str|z_sum|qj|z_zip=>walk_at "k0")
  (case mz|nq=>k_is)
  (case nt=>kernel_rfl)
end
namespace Q
open PySem PySem.Spec PyProof.Rows L2
local macro_rules | `(tactic| nofun) => `(tactic| first | exact k9 rfl | exact Il rfl)
local macro_rules | `(tactic| exists $t:term) => `(tactic| (repeat walk_at "vs");(refine $t))
local macro_rules | `(tactic| symm) => `(tactic| repeat walk_at "vs")
local macro_rules | `(tactic| walk_at "side")=>`(tactic| first | exact⟨by decide,by decide,by decide⟩ | exact k9 ⟨by omega,by omega⟩ | exact Il (k9 ⟨by omega,by omega⟩) | exact⟨by omega,by omega⟩ | omega | decide)
local macro_rules | `(tactic| walk_at "hp")=>`(tactic| first | assumption | ((refine up (H:=?kH) ?ke ?kf);(case ke=>assumption);(case kf=>walk_at "hp")))
local macro_rules | `(tactic| walk_at "vs")=>`(tactic| first
 |((with_reducible refine DX (v:=?kv) ?kh ?_);(case kh=>exact rfl))
 |with_reducible refine LJ ?_
 |with_reducible refine r_c ?_
 |with_reducible refine DY ?_
 |with_reducible refine DZ ?_
 |with_reducible refine jmn ?_
 |with_reducible refine LK ?_
 |with_reducible refine w6 ?_
 |with_reducible refine LL ?_
 |with_reducible refine D0 ?_
 |with_reducible refine Ug ?_
 |with_reducible refine jnb ?_
 |with_reducible refine za ?_
 |((with_reducible refine Uu ?kc ?_);(case kc=>walk_at "side"))
 |with_reducible refine jmo ?_
 |with_reducible refine xA ?_
 |with_reducible refine xB ?_
 |((with_reducible refine Tr ?kc ?_);(case kc=>walk_at "side"))
 |with_reducible refine yM ?_
 |with_reducible refine sN ?_
 |with_reducible refine yT ?_
 |with_reducible refine D4 ?_
 |with_reducible refine xC ?_
 |with_reducible refine xD ?_
 |with_reducible refine D5 ?_
 |with_reducible refine jmp ?_
 |with_reducible refine D6 ?_
 |with_reducible refine D7 ?_
 |with_reducible refine LN ?_
 |with_reducible refine xE ?_
 |with_reducible refine xF ?_
 |with_reducible refine D8 ?_
 |with_reducible refine LO ?_
 |with_reducible refine LP ?_
 |with_reducible refine xG ?_
 |with_reducible refine LQ ?_
 |with_reducible refine xH ?_
 |with_reducible refine D9 ?_
 |with_reducible refine xI ?_
 |((with_reducible refine xJ (dx:=?kd) (fs:=?kf) ?kh ?kl ?_);(case kh=>walk_at "hp");(case kl=>exact rfl))
 |with_reducible refine xK ?_
 |with_reducible refine xL ?_
 |((with_reducible refine Eb (C:=?kC) (dx:=?kd) (fs:=?kf) (v:=?kv) ?kh ?kc ?kn ?kl ?_);(case kh=>walk_at "hp");(case kc=>assumption);(case kn=>assumption);(case kl=>exact rfl))
 |with_reducible refine xM ?_
 |with_reducible refine Ed ?_
 |with_reducible refine Ee ?_
 |((with_reducible refine xP ?kc ?_);(case kc=>exact rfl))
 |((with_reducible refine xQ ?kc ?_);(case kc=>exact rfl))
 |with_reducible refine Tt ?_
 |with_reducible refine Ef ?_
 |with_reducible refine xR ?_
 |with_reducible refine yL ?_
 |with_reducible refine yB ?_
 |with_reducible refine Mu ?_
 |with_reducible refine jji ?_
 |with_reducible refine yI ?_
 |with_reducible refine Mt ?_
 |with_reducible refine jjh ?_
 |with_reducible refine yK ?_
 |with_reducible refine jn5 ?_
 |with_reducible refine jms ?_
 |with_reducible refine xS ?_
 |with_reducible refine LS ?_
 |with_reducible refine Eg ?_
 |((with_reducible refine Eh (xs:=?kx) ?kh ?_);(case kh=>walk_at "hp"))
 |with_reducible refine MD ?_
 |((with_reducible refine E6 (xs:=?kx) ?kh ?_);(case kh=>walk_at "hp"))
 |with_reducible refine zc ?_
 |with_reducible refine zd ?_
 |with_reducible refine xT ?_
 |with_reducible refine jmu ?_
 |((with_reducible refine Tu (xs:=?kx) ?kh ?kl ?_);(case kh=>walk_at "hp");(case kl=>exact rfl))
 |with_reducible refine Ei ?_
 |with_reducible refine Ej ?_
 |with_reducible refine Ek ?_
 |with_reducible refine xU ?_
 |with_reducible refine Em ?_
 |with_reducible refine xV ?_
 |((with_reducible refine ET ?kh ?_);(case kh=>exact rfl))
 |((with_reducible refine EU ?kh ?_);(case kh=>exact rfl)))
variable{l b os L ns:List Int}{i j k c0 size f a0:Nat}{R s p c:Int}{v:V}{z:Str}{ss:List Str}{H H':Hp}{ys:List V}{x:Addr}
section
variable{P:xf}{w:World}{K:yd}{mg:Str->Option Value}{base:Heap}{a:Adr}
seal PA PE PS iO PT
theorem uO:ah ["_law_script","_law_game_here","_law_number","_law_world_here","_law_wishes","_law_found","_law_last","_law_held"] ["_law_script"] (aP Og):=by walk_at "s"
theorem Pf:ah ["_law_found","_law_due"] ["_law_found","_law_due"] (aP Oh):=by walk_at "s"
theorem Pg:ah ["_law_found"] ["_law_found"] (aP Oi):=by walk_at "s"
theorem Ph:ah ["_law_found","_law_due","_law_one","_law_other"] ["_law_found","_law_due"] (aP Ad):=by walk_at "s"
theorem uP:ah ["world","start","wishes","rows","last","state","least","way","row"] ["world","start","wishes"] (aP Oj):=by walk_at "s"
theorem Pj:ah ["world","start","wishes","rows","wish"] ["world","start","wishes"] (aP nH):=by walk_at "s"
theorem B4:ah ["world","row","wish","found","before","paid","after","price"] ["world","row","wish"] (aP Ol):=by walk_at "s"
theorem Pk:ah ["self","before","wish"] ["self","before","wish"] (aP Om):=by walk_at "s"
theorem Wt:ah ["self","before","wish","states","pairs"] ["self","before","wish","states"] (aP Ae):=by walk_at "s"
theorem Pm:ah ["self","before","wish","after"] ["self","before","wish","after"] (aP On):=by walk_at "s"
theorem sc8:ah ["self","before","wish","after"] ["self","before","wish","after"] (aP Af):=by walk_at "s"
theorem sc6:ah ["self","before","wish","after"] ["self","before","wish","after"] (aP Ag):=by walk_at "s"
theorem sc3:ah ["before","after"] ["before","after"] (aP Ah):=by walk_at "s"
theorem Wu:ah ["order","at","other","place"] ["order","at","other"] (aP Oo):=by walk_at "s"
theorem Pn:ah ["self","before","wish","after"] ["self","before","wish","after"] (aP Op):=by walk_at "s"
theorem sc4:ah ["before","after"] ["before","after"] (aP Ai):=by walk_at "s"
theorem Po:ah ["self","before","wish","after"] ["self","before","wish","after"] (aP Oq):=by walk_at "s"
theorem Wv:ah ["self","before","wish","after","places"] ["self","before","wish","after"] (aP Ot):=by walk_at "s"
theorem Pp:ah ["loads","at","size"] ["loads","at","size"] (aP Ou):=by walk_at "s"
theorem Pq:ah ["loads","size"] ["loads","size"] (aP Ov):=by walk_at "s"
theorem sc7:ah ["self","before","wish"] ["self","before","wish"] (aP Aj):=by walk_at "s"
theorem Pr:ah ["pages","gone","wish"] ["pages","gone","wish"] (aP Ow):=by walk_at "s"
theorem sc5:ah ["self","before","wish"] ["self","before","wish"] (aP Ak):=by walk_at "s"
theorem B5:ah ["things","orders","thing","longer","order"] ["things"] (aP Ox):=by walk_at "s"
theorem Ps:ah ["self","before","wish"] ["self","before","wish"] (aP Oy):=by walk_at "s"
theorem Pt:ah ["places","at","wish"] ["places","at","wish"] (aP Oz):=by walk_at "s"
theorem Pu:ah ["self","before","wish"] ["self","before","wish"] (aP OA):=by walk_at "s"
theorem Pw:ah ["self","before","wish","loads","states"] ["self","before","wish"] (aP OB):=by walk_at "s"
theorem Px:ah ["self","whole"] ["self","whole"] (aP OC):=by walk_at "s"
theorem uQ:ah ["_law_game_here","_law_way","_law_here","_law_total","_law_k","_law_some","_law_places_here"] ["_law_game_here","_law_way"] (aP OD):=by walk_at "s"
theorem Py:ah ["_law_game_here","_law_before","_law_wish","_law_after_here"] ["_law_game_here","_law_before","_law_wish","_law_after_here"] (aP OE):=by walk_at "s"
theorem Pz:ah ["_law_room","_law_before","_law_wish","_law_after_here","_law_k","_law_load"] ["_law_room","_law_before","_law_wish","_law_after_here"] (aP OF):=by walk_at "s"
theorem Gj:ah ["_law_before","_law_wish","_law_after_here","_law_found","_law_k","_law_j"] ["_law_before","_law_wish","_law_after_here"] (aP OG):=by walk_at "s"
theorem PB:ah ["_law_game_here","_law_before","_law_wish"] ["_law_game_here","_law_before","_law_wish"] (aP OH):=by walk_at "s"
theorem JM:ah ["_law_before","_law_wish","_law_game_here","_law_found","_law_k","_law_others"] ["_law_before","_law_wish","_law_game_here"] (aP nJ):=by walk_at "s"
theorem JN:ah ["_law_things_here","_law_found","_law_k","_law_row"] ["_law_things_here"] (aP OI):=by walk_at "s"
theorem PC:ah ["world","start","wishes"] ["world","start","wishes"] (aP OJ):=by walk_at "s"
theorem sc0:ah ["row"] ["row"] (aP Al):=by walk_at "s"
theorem PD:ah ["_law_game_here"] ["_law_game_here"] (aP OK):=by walk_at "s"
theorem PF:ah ["self","room"] ["self","room"] (aP OL):=by walk_at "s"
theorem PH:ah ["self","many"] ["self","many"] (aP OM):=by walk_at "s"
theorem PJ:ah ["self","many","toll"] ["self","many","toll"] (aP ON):=by walk_at "s"
theorem PK:ah ["self","things"] ["self","things"] (aP OO):=by walk_at "s"
theorem PL:ah ["self","many"] ["self","many"] (aP OP):=by walk_at "s"
theorem Ww:ah ["_law_cell_here","_law_k","_law_number"] ["_law_cell_here","_law_k"] (aP OQ):=by walk_at "s"
theorem PM:ah ["_law_script","_law_k"] ["_law_script","_law_k"] (aP OR):=by walk_at "s"
theorem Gk:ah ["_law_script","_law_most","_law_head","_law_many","_law_cells"] ["_law_script","_law_most"] (aP OS):=by walk_at "s"
theorem Ao:ah ["_law_head","_law_cells","_law_room","_law_wishes","_law_k","_law_number","_law_size","_law_many"] ["_law_head","_law_cells"] (aP OT):=by walk_at "s"
theorem Wx:ah ["_law_cell_here","_law_k","_law_number"] ["_law_cell_here","_law_k"] (aP OU):=by walk_at "s"
theorem JO:ah ["_law_head","_law_cells","_law_many","_law_names_here","_law_wishes"] ["_law_head","_law_cells"] (aP OV):=by walk_at "s"
theorem uR:ah ["_law_number","_law_many","_law_size","_law_at","_law_letters","_law_same_here","_law_found","_law_j","_law_unlike"] ["_law_number","_law_many"] (aP OW):=by walk_at "s"
theorem Ap:ah ["_law_head","_law_cells","_law_many","_law_toll","_law_wishes","_law_k","_law_number","_law_wide"] ["_law_head","_law_cells"] (aP Am):=by walk_at "s"
theorem B6:ah ["_law_head","_law_cells","_law_many","_law_names_here","_law_turn","_law_start","_law_room"] ["_law_head","_law_cells"] (aP OX):=by walk_at "s"
theorem Gn:ah ["_law_head","_law_cells","_law_many","_law_wide","_law_places_here","_law_wishes"] ["_law_head","_law_cells"] (aP OY):=by walk_at "s"
theorem PN:ah ["_law_head","_law_cells","_law_whole_here","_law_start"] ["_law_head","_law_cells"] (aP OZ):=by walk_at "s"
def jor:Pos:=⟨35,34,35,60⟩
def jos:Str:=("best"++".<locals>.")++"<lambda>"
theorem bC:∀(l:List Int) (i:Nat) (w:Int),i<l.length->(l.set i w).Perm (w::l.eraseIdx i)
 |[],_,_,h=>by simp at h
 |x::r,0,w,_=>kz _
 |x::r,i+1,w,h=>by
  have:=bC r i w (by simpa using h);exact(this.cons x).trans (Fa w x _)
theorem Go:∀(l:List Int) (i:Nat),i<l.length->l.Perm (l.getD i 0::l.eraseIdx i)
 |[],_,h=>by simp at h
 |x::r,0,_=>kz _
 |x::r,i+1,h=>by
  have:=Go r i (by simpa using h);exact(this.cons x).trans (Fa _ x _)
theorem Wy{w:Int}(hi:i<l.length)(hj:j<l.length)(e:l.getD i 0=l.getD j 0):(l.set i w).Perm (l.set j w):=by
 have a:=(Go l i hi).symm.trans (Go l j hj);rw[e]at a;have b:=(List.perm_cons _).mp a;exact(bC l i w hi).trans ((b.cons w).trans (bC l j w hj).symm)
theorem PP(v:Int):∀{l:List Int},l.Pairwise (·<=·)->l=(l.filter λx=>decide (x<v))++l.filter λx=>!decide (x<v)
 |[],_=>rfl
 |x::r,h=>by
  have hr:=PP v (ye3 h);by_cases c:x<v
  ·simp only[gw,decide_eq_true c,FK,if_true,PQ];rw[if_neg (by decide)];rw[<- hr]
  ·have hx:=(BV.mp h).1;have e:r.filter (λx=>decide (x<v))=[]:=by
    rw[List.filter_eq_nil_iff];intro y hy;have:=hx y hy;simp;omega
   simp only[gw,decide_eq_false c,VW,if_true];rw[e]at hr;rw[if_neg (by decide),e,DA];rw[DA]at hr;rw[<- hr]
theorem jV{a:List Int}(h:a.Perm b)(s1:a.Pairwise (·<=·))(s2:b.Pairwise (·<=·)):a=b:=
 Wz (λx y _ _ h1 h2=>Int.le_antisymm h1 h2) s1 s2 h
theorem WA{m:List Int}(h:j<l.length):(l++m).getD j 0=l.getD j 0:=by
 rw[y8,y8,gz h]
theorem jgy{m:List Int}(h:¬ j<l.length)(h2:j<(l++m).length):(l++m).getD j 0∈m:=by
 rw[y8,va (by omega),y4 (by rw[xi]at h2;omega)];exact ua _
theorem WB(h:j<l.length):l.getD j 0∈l:=by
 rw[y8,y4 h];exact ua h
theorem jeb{a:List Int}{w:Int}(sa:a.Pairwise (·<=·))(sb:b.Pairwise (·<=·))(hk:k<a.length)(hw:a.getD k 0<w)(hp:b.Perm (a.set k w))(hj:j<a.length)
  (heq:∀i,i<j->a.getD i 0=b.getD i 0) (bO:a.getD j 0≠b.getD j 0):a.getD j 0=a.getD k 0:=by
 have aL:b.length=a.length:=by rw[hp.length_eq,Dq]
 generalize hv:a.getD k 0=v at *;have pb:b.Perm (w::a.eraseIdx k):=hp.trans (bC a k w hk);have pa:a.Perm (v::a.eraseIdx k):=by have:=Go a k hk;rwa [hv]at this
 have c1:¬ a.getD j 0<v:=by
  intro q;have f:(a.filter λx=>decide (x<v))=b.filter λx=>decide (x<v):=by
   refine jV ?_ (sa.filter _) (sb.filter _);have e1:=pa.filter (λx=>decide (x<v));have e2:=pb.filter (λx=>decide (x<v));rw[gw,if_neg (by simp)]at e1;rw[gw,if_neg (by simp;omega)]at e2;exact e1.trans e2.symm
  have ea:=PP v sa;have eb:=PP v sb;by_cases hl:j<(a.filter λx=>decide (x<v)).length
  ·refine bO ?_;rw[ea,WA hl,f,<- WA (m:=b.filter λx=>!decide (x<v)) (by rw[<- f];exact hl),<- eb]
  ·have:=jgy (m:=a.filter λx=>!decide (x<v)) hl (by rw[<- ea];exact hj);rw[<- ea]at this;have h3:=(kT.mp this).2;rw[decide_eq_true q]at h3;cases h3
 by_cases c2:v<a.getD j 0
 ·exfalso
  have ct:∀l:List Int,l.count v=(l.take j).count v+(l.drop j).count v:=λl=>by
   rw[<- List.count_append,vz]
  have tk:a.take j=b.take j:=by
   refine ybx (by rw[yp,yp];omega) λi h1 h2=>?_;have hi:i<j:=by rw[yp]at h1;omega
   have:=heq i hi;rw[y8,y8,y4 (by omega),y4 (by omega)]at this;rw[yb1,yb1];exact this
  have dz:(a.drop j).count v=0:=by
   rw[List.count_eq_zero];intro hm;obtain⟨i,hi,e⟩:=vd hm;rw[List.getElem_drop]at e;have iX:j+i<a.length:=by rw[ve]at hi;omega
   have le:a[j]<=a[j+i]:=by
    by_cases z:i=0
    ·subst z;exact B7 _
    ·exact UR.mp sa j (j+i) hj iX (by omega)
   rw[y8,y4 hj,IQ]at c2;omega
  have n1:=pa.count_eq v;have n2:=pb.count_eq v;rw[y9o]at n1;rw[y8w (by omega)]at n2;have n3:=ct a;have n4:=ct b;rw[tk]at n3;omega
 ·omega
theorem jgz{a:List Int}{w:Int}(hk:k<a.length)(hw:a.getD k 0<w)(hp:b.Perm (a.set k w)):∃j,j<a.length/\a.getD j 0≠b.getD j 0:=by
 have aL:b.length=a.length:=by rw[hp.length_eq,Dq]
 refine Jc λno=>?_;have e:a=b:=by
  refine ybx aL.symm λj h1 h2=>?_;refine Jc λq=>no ⟨j,h1,?_⟩;rw[y8,y8,y4 h1,y4 h2];exact q
 have pb:b.Perm (w::a.eraseIdx k):=hp.trans (bC a k w hk);have pa:=Go a k hk;rw[<- e]at pb;have n1:=pa.count_eq w;have n2:=pb.count_eq w;rw[y9o]at n2;rw[y8w (by omega)]at n1;omega
def eE(R:Int)(os:List Int)(s:Int)(fs:List Int)(pr:Int):Prop:=fs.Pairwise (·<=·)/\((pr=1/\fs.Perm (os++[s]))\/(pr=0/\∃k,k<os.length/\os.getD k 0+s<=R/\fs.Perm (os.set k (os.getD k 0+s))))
def WC(R:Int)(os:List Int):Prop:=os.Pairwise (·<=·)/\∀x∈os,1<=x/\x<=R
theorem WD{w:Int}(h:k<l.length):l.take k++[w]++l.drop (k+1)=l.set k w:=by
 rw[List.set_eq_take_append_cons_drop,if_pos h];simp
theorem bc.keep{H H':Hp}(e:Kp H H'){vs:List V}{Ls:List (List Int)}(r:bc H vs Ls):bc H' vs Ls:=by
 induction r with
 |nil=>exact .nil
 |cons x _ ih=>exact .cons (e _ _ x rfl) ih
theorem bc.snoc{H H':Hp}{a:Addr}{L:List Int}(e:al H H')(ha:H' a=some (.tup (L.map V.int))){vs:List V}{Ls:List (List Int)}(r:bc H vs Ls):bc H' (vs++[.ref a]) (Ls++[L]):=by
 induction r with
 |nil=>exact .cons ha .nil
 |cons x _ ih=>exact .cons (e _ _ x) ih
def WE(os L:List Int):Int:=if L.length=os.length then 0 else 1
theorem eE.pr{R s pr:Int}{os L:List Int}(h:eE R os s L pr):pr=WE os L:=by
 unfold WE;rcases h.2 with⟨e,p⟩|⟨e,k,hk,_,p⟩
 ·have:=p.length_eq;rw[xi,uj]at this;rw[if_neg (by omega),e]
 ·have:=p.length_eq;rw[Dq]at this;rw[if_pos this,e]
def iY(R:Int)(os:List Int)(s:Int)(L:List Int)(v:V):Prop:=(∃pr,eE R os s L pr/\v=.int pr)\/((∀pr,¬ eE R os s L pr)/\v=.non)
theorem iY.uniq{u:V}(h:iY R os s L v)(k:iY R os s L u):v=u:=by
 rcases h with⟨p,h1,rfl⟩|⟨h1,rfl⟩<;>rcases k with⟨q,k1,rfl⟩|⟨k1,rfl⟩
 ·rw[h1.pr,k1.pr]
 ·exact absurd h1 (k1 p)
 ·exact absurd k1 (h1 q)
 ·rfl
theorem iY.some(R s:Int)(os L:List Int):∃v,iY R os s L v:=by
 by_cases h:∃pr,eE R os s L pr
 ·obtain⟨pr,h⟩:=h;exact⟨_,.inl ⟨pr,h,rfl⟩⟩
 ·exact⟨_,.inr ⟨λpr q=>h ⟨pr,q⟩,rfl⟩⟩
inductive jv(H:Hp):List V->List (List Int×V)->Prop
 |nil:jv H [] []
 |cons {c a:Addr}{L:List Int}{x:V}{vs:List V}{Ks:List (List Int×V)}:H c=some (.tup [.ref a,x])->H a=some (.tup (L.map V.int))->jv H vs Ks->jv H (.ref c::vs) ((L,x)::Ks)
def qZ(ns ms:List Int):Int:=(WG (λa b:Int=>((a-b).natAbs:Int)) ns ms).sum
theorem PR{cs:List Int}(h:j<=cs.length):aQ (cs.map V.int) (some (j:Int)) none=(cs.drop j).map V.int:=by
 unfold aQ;rw[HT.sIx_nat,HT.sIx_none,y3,uu h,<- B8,xq (by rw[y3,ve];exact yg _)]
theorem PU{cs:List Int}(h:j<=cs.length):aQ (cs.map V.int) none (some (j:Int))=(cs.take j).map V.int:=by
 unfold aQ;rw[HT.sIx_nat,HT.sIx_none,y3,uu h,BP,BQ,<- B9]
def eY(ns:List Int)(k:Nat)(w:Int)(ms:List Int):Prop:=ms.Perm (ns.take k++[w]++ns.drop (k+1))/\ms.Pairwise (·<=·)
def WH(ns:List Int)(w:Int)(L:List Int):Prop:=(w∈ns/\L=ns)\/(w∉ns/\∃k,k<ns.length/\eY ns k w L)
theorem eY.len{ms:List Int}{w:Int}(h:eY ns k w ms)(hk:k<ns.length):ms.length=ns.length:=by
 rw[h.1.length_eq];simp;omega
theorem eY.mem{ms:List Int}{w:Int}(h:eY ns k w ms):w∈ms:=h.1.mem_iff.mpr (by simp)
def PV(c:Nat):Bool:=decide (97<=c)&&decide (c<=122)
def nN(z:Str):Bool:=decide (1<=z.length)&&decide (z.length<=8)&&z.cps.toList.all PV
theorem jou(h:nN z=true):kq z:=by
 unfold nN at h;rw[oO]at h;unfold kq;rw[WI];intro c hc;have:=IB.mp h.2 c (by simpa using hc);unfold PV at this;rw[oO,decide_eq_true_iff,decide_eq_true_iff]at this;exact decide_eq_true (by omega)
structure WJ(ss:List Str):Prop where
 nm:∀s∈ss,nN s=true
 nd:ss.Nodup
 lo:1<=ss.length
 hi:ss.length<=8
def PX(o q:List Str)(i:Nat):Nat:=((o.drop (i+1)).filter λt=>decide (q.idxOf t<q.idxOf (o.getD i ⟨#[]⟩))).length
def kJ(o q:List Str):Int:=((vi o.length).map λi=>(PX o q i:Int)).sum
theorem WK:∀{l:List Str},sortedS l=true->l.Pairwise λa b=>¬ b.cps.toList<a.cps.toList
 |[],_=>Lv
 |x::r,h=>by
  have key:∀(p:Str) (l:List Str),risingS p l=true->(p::l).Pairwise λa b=>¬ b.cps.toList<a.cps.toList:=by
   intro p l
   induction l generalizing p with
   |nil=>intro _;simp
   |cons y r ih=>
    intro h;have h':(!ltCps y.cps.toList p.cps.toList&&risingS y r)=true:=h;rw[oO]at h';have h2:=ih y h'.2;have h1:¬ y.cps.toList<p.cps.toList:=by
     have:=h'.1;rw[ltCps_eq]at this;simpa using this
    refine BV.mpr ⟨λz hz=>?_,h2⟩;rcases xc.mp hz with rfl|hz
    ·exact h1
    ·have h3:=(BV.mp h2).1 z hz;exact λq=>h1 (ya7 (jP.mp h3) q)
  exact key x r h
theorem WL{a b:Str}(h:a.cps.toList=b.cps.toList):a=b:=by
 cases a;cases b;congr 1;exact ybv.mp h
theorem WM{a b:List Str}(p:a.Perm b)(ha:sortedS a=true)(hb:sortedS b=true):a=b:=
 Wz (λx y _ _ h1 h2=>WL (Ji (jP.mp h1) (jP.mp h2))) (WK ha) (WK hb) p
theorem Ca(x:Str)(ss:List Str):sB (.str x) (ss.map V.str)=decide (x∈ss):=by
 unfold sB;rw[ye4,Bd,Mv,decide_eq_true_iff];constructor
 ·rintro⟨y,hy,e⟩;have:y=x:=by simpa[kZ] using e
  exact this ▸ hy
 ·intro h;exact⟨x,h,by simp[kZ]⟩
theorem Cb(ss:List Str):(ss.map V.str).all jJ=true:=by rw[List.all_map,IB];intro x _;rfl
theorem Cc{y:V}(h:(ss.map V.str)[i]?=some y):∃x,ss[i]?=some x/\y=.str x:=by
 rw[xh]at h;obtain⟨x,h1,h2⟩:=Ib.mp h;exact⟨x,h1,h2.symm⟩
theorem Gp{k:Int}(h0:0<=k)(h1:k<ss.length):dP (ss.map V.str) k=some (.str (ss.getD k.toNat ⟨#[]⟩)):=by
 refine Bx h0 ?_;rw[xh,y8,y4 (show k.toNat<ss.length by omega)];rfl
theorem WN{H:Hp}{p:Addr}{ss:List Str}(h:H p=some (.tup (ss.map V.str))):aR H (.tup (ss.map D.str)) (.ref p):=aR.tupI h (by
 clear h
 induction ss with
 |nil=>exact .nil
 |cons x r ih=>exact .cons .strI ih)
theorem PY(ss:List Str):D.depthL (ss.map D.str)=0:=by
 induction ss with
 |nil=>rfl
 |cons x r ih=>show max 0 (D.depthL (r.map D.str))=0;rw[ih];rfl
theorem WO(h:nN z=true):Uc z=true:=by
 have h1:=jou h;unfold kq at h1;unfold Uc;rw[WI]at h1 ⊢;intro c hc;have:=of_decide_eq_true (h1 c hc);exact decide_eq_true (by omega)
theorem jow:kq z↔∀c∈z.cps.toList,c<128:=by
 unfold kq;rw[WI];constructor
 ·intro h c hc;exact of_decide_eq_true (h c (by simpa using hc))
 ·intro h c hc;exact decide_eq_true (h c (by simpa using hc))
instance PZ(z:Str):Decidable (kq z):=decidable_of_iff (∀c∈z.cps.toList,c<128) jow.symm
theorem Cd(h:i<ss.length):ss.getD i ⟨#[]⟩∈ss:=by rw[y8,y4 h];exact ua h
theorem JP(h:i<=ss.length):aQ (ss.map V.str) none (some (i:Int))=(ss.take i).map V.str:=by
 unfold aQ;rw[HT.sIx_none,HT.sIx_nat,y3,uu h,BP,BQ,B9]
theorem JQ(h:i<=ss.length):aQ (ss.map V.str) (some (i:Int)) none=(ss.drop i).map V.str:=by
 unfold aQ;rw[HT.sIx_nat,HT.sIx_none,y3,uu h,<- B8,xq (by rw[y3,ve];exact yg _)]
theorem P0(x:Str)(r qs:List Str):kJ (x::r) qs=((r.filter λt=>decide (qs.idxOf t<qs.idxOf x)).length:Nat)+kJ r qs:=by
 unfold kJ;rw[yn,y8j,xu,P1,v8];rfl
theorem WP(qs:List Str):kJ [] qs=0:=rfl
theorem WQ(qs:List Str)(y:Str):∀l:List Str,kJ (l++[y]) qs=kJ l qs+((l.filter λt=>decide (qs.idxOf y<qs.idxOf t)).length:Nat)
 |[]=>by rw[DA,P0,WP];rfl
 |x::r=>by
  rw[PQ,P0,WQ qs y r,P0,vk,xi,gw (x:=x)];by_cases c:qs.idxOf y<qs.idxOf x
  ·rw[if_pos (decide_eq_true c),gw,if_pos (decide_eq_true c),nO,yn,yn];simp only[ub];omega
  ·rw[if_neg (by simpa using c),gw,if_neg (by simpa using c),nO];simp only[ub];omega
def pA(ss:List Str)(g w:Str)(L:List Str):Prop:=L.Perm (ss.filter (λt=>!decide (t=g))++[w])/\sortedS L=true
theorem pA.mem{L:List Str}{g w:Str}(h:pA ss g w L):w∈L:=h.1.mem_iff.mpr (by simp)
theorem pA.uniq{L M:List Str}{g w:Str}(h:pA ss g w L)(k:pA ss g w M):L=M:=WM (h.1.trans k.1.symm) h.2 k.2
def JR(ss:List Str)(w:Str)(L:List Str):Prop:=(w∈ss/\L=ss)\/(w∉ss/\∃g,g∈ss/\pA ss g w L)
theorem JR.len{L:List Str}{w:Str}(nd:ss.Nodup)(h:JR ss w L):L.length=ss.length:=by
 rcases h with⟨_,rfl⟩|⟨_,g,hg,hs⟩
 ·rfl
 ·have e:ss.filter (λt=>!decide (t=g))=ss.erase g:=by
   rw[nd.erase_eq_filter];exact List.filter_congr λt _=>by simp[bne,BEq.beq]
  rw[hs.1.length_eq,xi,e,Fi hg];have:0<ss.length:=Jb hg;simp only[yn,ub];omega
theorem aq.keep{H H':Hp}(e:Kp H H'){vs:List V}{Ls:List (List Str)}(r:aq H vs Ls):aq H' vs Ls:=by
 induction r with
 |nil=>exact .nil
 |cons x _ ih=>exact .cons (e _ _ x rfl) ih
theorem aq.snoc{H H':Hp}{a:Addr}{L:List Str}(e:al H H')(ha:H' a=some (.tup (L.map V.str))){vs:List V}{Ls:List (List Str)}(r:aq H vs Ls):aq H' (vs++[.ref a]) (Ls++[L]):=by
 induction r with
 |nil=>exact .cons ha .nil
 |cons x _ ih=>exact .cons (e _ _ x) ih
theorem Aq(ss:List Str):D.fineL (ss.map D.str)=true:=by
 induction ss with
 |nil=>rfl
 |cons x r ih=>exact ih
inductive ag where|i (z:Int)|l (ns:List Int)|t (ss:List Str)
inductive aw where|i (z:Int)|s (x:Str)|l (ns:List Int)
def ag.at_(H:Hp):ag->V->Prop
 | .i z,v=>v=.int z
 | .l ns,v=>∃p,v=.ref p/\H p=some (.tup (ns.map V.int))
 | .t ss,v=>∃p,v=.ref p/\H p=some (.tup (ss.map V.str))
def aw.at_(H:Hp):aw->V->Prop
 | .i z,v=>v=.int z
 | .s x,v=>v=.str x
 | .l ns,v=>∃p,v=.ref p/\H p=some (.tup (ns.map V.int))
theorem ag.mono{H H':Hp}(e:al H H'){s:ag}{v:V}(h:s.at_ H v):s.at_ H' v:=by
 cases s with
 |i z=>exact h
 |l ns=>obtain⟨p,h1,h2⟩:=h;exact⟨p,h1,e _ _ h2⟩
 |t ss=>obtain⟨p,h1,h2⟩:=h;exact⟨p,h1,e _ _ h2⟩
theorem aw.mono{H H':Hp}(e:al H H'){s:aw}{v:V}(h:s.at_ H v):s.at_ H' v:=by
 cases s with
 |i z=>exact h
 |s z=>exact h
 |l ns=>obtain⟨p,h1,h2⟩:=h;exact⟨p,h1,e _ _ h2⟩
theorem ag.but{H H':Hp}{x:Addr}{zs:List V}(hx:H x=some (.lst zs))(b:bQ x H H'){s:ag}{v:V}(h:s.at_ H v):s.at_ H' v:=by
 cases s with
 |i z=>exact h
 |l ns=>obtain⟨p,h1,h2⟩:=h;exact⟨p,h1,b _ _ (A3 h2 hx (by intro z;cases z)) h2⟩
 |t ss=>obtain⟨p,h1,h2⟩:=h;exact⟨p,h1,b _ _ (A3 h2 hx (by intro z;cases z)) h2⟩
theorem aw.but{H H':Hp}{x:Addr}{zs:List V}(hx:H x=some (.lst zs))(b:bQ x H H'){s:aw}{v:V}(h:s.at_ H v):s.at_ H' v:=by
 cases s with
 |i z=>exact h
 |s z=>exact h
 |l ns=>obtain⟨p,h1,h2⟩:=h;exact⟨p,h1,b _ _ (A3 h2 hx (by intro z;cases z)) h2⟩
def ao{α:Type}(f:α->V->Prop):List α->List V->Prop
 |[],[]=>True
 |a::as,v::vs=>f a v/\ao f as vs
 |_,_=>False
theorem ao.len{α:Type}{f:α->V->Prop}:∀{as:List α}{vs:List V},ao f as vs->as.length=vs.length
 |[],[],_=>rfl
 |_::_,_::_,⟨_,h⟩=>by rw[yn,yn,ao.len h]
 |[],_::_,h=>h.elim
 |_::_,[],h=>h.elim
theorem ao.imp{α:Type}{f g:α->V->Prop}(k:∀{a v},f a v->g a v):∀{as:List α}{vs:List V},ao f as vs->ao g as vs
 |[],[],_=>trivial
 |_::_,_::_,⟨h1,h⟩=>⟨k h1,ao.imp k h⟩
 |[],_::_,h=>h.elim
 |_::_,[],h=>h.elim
theorem ao.get{α:Type}{f:α->V->Prop}:∀{as:List α}{vs:List V}{i:Nat}{v:V},ao f as vs->vs[i]?=some v->∃a,as[i]?=some a/\f a v
 |[],[],_,_,_,e=>by simp at e
 |a::as,u::vs,0,v,⟨h1,h⟩,e=>⟨a,rfl,by simp at e;rw[<- e];exact h1⟩
 |a::as,u::vs,i+1,v,⟨h1,h⟩,e=>by simpa using ao.get (i:=i) h (by simpa using e)
 |[],_::_,_,_,h,_=>h.elim
 |_::_,[],_,_,h,_=>h.elim
theorem ao.snoc{α:Type}{f:α->V->Prop}{a:α}{v:V}(k:f a v):∀{as:List α}{vs:List V},ao f as vs->ao f (as++[a]) (vs++[v])
 |[],[],_=>⟨k,trivial⟩
 |_::_,_::_,⟨h1,h⟩=>⟨h1,ao.snoc k h⟩
 |[],_::_,h=>h.elim
 |_::_,[],h=>h.elim
theorem Gq{H:Hp}:∀ns:List Int,ao (aw.at_ H) (ns.map aw.i) (ns.map V.int)
 |[]=>trivial
 |_::r=>⟨rfl,Gq r⟩
theorem P2{H:Hp}:∀ss:List Str,ao (aw.at_ H) (ss.map aw.s) (ss.map V.str)
 |[]=>trivial
 |_::r=>⟨rfl,P2 r⟩
theorem Ce{H:Hp}:∀ns:List Int,ao (ag.at_ H) (ns.map ag.i) (ns.map V.int)
 |[]=>trivial
 |_::r=>⟨rfl,Ce r⟩
theorem P4{H:Hp}{vs:List V}{Ls:List (List Str)}(r:aq H vs Ls):ao (ag.at_ H) (Ls.map ag.t) vs:=by
 induction r with
 |nil=>trivial
 |cons x _ ih=>exact⟨⟨_,rfl,x⟩,ih⟩
inductive Gm where|hire (W:Int)|line (m:Nat)|shelf (ts:List Str)|wys (m:Nat) (t:Int)|store (m:Nat)|bags (R:Int)
def Gm.no:Gm->Int
 | .hire _=>0 | .line _=>1 | .shelf _=>2 | .wys _ _=>3 | .store _=>4 | .bags _=>5
def Gm.pv(H:Hp):Gm->V->Prop
 | .hire W,v=>v=.int W
 | .line m,v=>v=.int (m:Nat)
 | .shelf ts,v=>∃p,v=.ref p/\H p=some (.tup (ts.map V.str))
 | .wys m t,v=>∃p,v=.ref p/\H p=some (.tup [.int (m:Nat),.int t])
 | .store m,v=>v=.int (m:Nat)
 | .bags R,v=>v=.int R
theorem Gm.pv_mono{H H':Hp}(e:al H H'){g:Gm}{v:V}(h:g.pv H v):g.pv H' v:=by
 cases g with
 |shelf ts=>obtain⟨p,h1,h2⟩:=h;exact⟨p,h1,e _ _ h2⟩
 |wys m t=>obtain⟨p,h1,h2⟩:=h;exact⟨p,h1,e _ _ h2⟩
 |_=>exact h
def Gm.wf:Gm->Prop
 | .hire _=>True
 | .line m=>1<=m/\m<=3
 | .shelf ts=>1<=ts.length/\ts.length<=4/\∀x∈ts,nN x=true
 | .wys m _=>1<=m/\m<=4
 | .store m=>1<=m/\m<=4
 | .bags R=>1<=R
def Gm.ok:Gm->Nat->ag->Prop
 | .hire _,_,s=>s=.i 0\/s=.i 1
 | .line m,_,s=>∃ns,s=.l ns/\ns.length=m
 | .shelf ts,_,s=>∃ss,s=.t ss/\ss.Perm ts
 | .wys m _,_,s=>∃z:Int,s=.i z/\0<=z/\z<m
 | .store m,_,s=>∃ss,s=.t ss/\ss.length=m/\∀x∈ss,nN x=true
 | .bags R,n,s=>∃ns,s=.l ns/\WC R ns/\ns.length<=n
def Gm.okW:Gm->aw->Prop
 | .hire _,w=>∃z,w=.i z
 | .line _,w=>∃z,w=.i z
 | .shelf ts,w=>∃x,w=.s x/\x∈ts
 | .wys m _,w=>∃ns,w=.l ns/\ns.length=m
 | .store _,w=>∃x,w=.s x/\nN x=true
 | .bags R,w=>∃z,w=.i z/\1<=z/\z<=R
def ag.gi:ag->Int | .i z=>z|_=>0
def ag.gl:ag->List Int | .l z=>z|_=>[]
def ag.gt:ag->List Str | .t z=>z|_=>[]
def aw.gi:aw->Int | .i z=>z|_=>0
def aw.gl:aw->List Int | .l z=>z|_=>[]
def aw.gs:aw->Str | .s z=>z|_=>""
def Gm.pp(g:Gm)(b:ag)(w:aw)(a:ag)(v:V):Prop:=match g with
 | .hire W=>v=if b.gi=1 then(if a.gi=1 then .int 0 else .non)else(if a.gi=1 then .int W else .int w.gi)
 | .line _=>v=if w.gi∈a.gl then .int (qZ b.gl a.gl)else .non
 | .shelf _=>v=.int (kJ b.gt a.gt+(a.gt.idxOf w.gs:Nat)+1)
 | .wys _ t=>v=.int (if a.gi=b.gi then w.gl.getD a.gi.toNat 0 else w.gl.getD a.gi.toNat 0+t)
 | .store _=>v=if w.gs∈a.gt then .int ((a.gt.filter λx=>!decide (x∈b.gt)).length:Nat)else .non
 | .bags R=>iY R b.gl w.gi a.gl v
theorem Gm.ok_mono{g:Gm}{n m:Nat}{s:ag}(h:g.ok n s)(l:n<=m):g.ok m s:=by
 cases g with
 |bags R=>obtain⟨ns,h1,h2,h3⟩:=h;exact⟨ns,h1,h2,v9 h3 l⟩
 |_=>exact h
theorem Gm.pp_some{g:Gm}{n m:Nat}{b a:ag}{w:aw}(hb:g.ok n b)(hw:g.okW w)(ha:g.ok m a):∃v,g.pp b w a v:=by
 cases g with
 |hire W=>
  obtain⟨z,rfl⟩:=hw;rcases hb with rfl|rfl<;>rcases ha with rfl|rfl<;>exact⟨_,rfl⟩
 |line m=>obtain⟨z,rfl⟩:=hw;obtain⟨_,rfl,_⟩:=hb;obtain⟨_,rfl,_⟩:=ha;exact⟨_,rfl⟩
 |shelf ts=>obtain⟨z,rfl,_⟩:=hw;obtain⟨_,rfl,_⟩:=hb;obtain⟨_,rfl,_⟩:=ha;exact⟨_,rfl⟩
 |wys m t=>obtain⟨z,rfl,_⟩:=hw;obtain⟨_,rfl,_⟩:=hb;obtain⟨_,rfl,_⟩:=ha;exact⟨_,rfl⟩
 |store m=>obtain⟨z,rfl,_⟩:=hw;obtain⟨_,rfl,_⟩:=hb;obtain⟨_,rfl,_⟩:=ha;exact⟨_,rfl⟩
 |bags R=>obtain⟨z,rfl,_⟩:=hw;obtain⟨_,rfl,_⟩:=hb;obtain⟨_,rfl,_⟩:=ha;exact iY.some _ _ _ _
theorem Gm.pp_val{g:Gm}{b a:ag}{w:aw}{v:V}(h:g.pp b w a v):v=.non\/∃i,v=.int i:=by
 cases g with
 |hire W=>rw[show v=_ from h];split<;>split<;>first|exact .inl rfl|exact .inr ⟨_,rfl⟩
 |line m=>rw[show v=_ from h];split<;>first|exact .inl rfl|exact .inr ⟨_,rfl⟩
 |shelf ts=>exact .inr ⟨_,h⟩
 |wys m t=>exact .inr ⟨_,h⟩
 |store m=>rw[show v=_ from h];split<;>first|exact .inl rfl|exact .inr ⟨_,rfl⟩
 |bags R=>
  rcases h with⟨p,_,e⟩|⟨_,e⟩
  ·exact .inr ⟨p,e⟩
  ·exact .inl e
def h7(a:Adr)(H:Hp):Gm->Addr->Prop
 | .hire W,r=>∃dw,H r=some (.ins a.dg dw [("whole",.int W)])
 | .line m,r=>∃dw,H r=some (.ins a.dj dw [("many",.int (m:Nat))])
 | .shelf _,r=>∃dw v,H r=some (.ins a.cg dw [("things",v)])
 | .wys m t,r=>∃dw,H r=some (.ins a.cu dw [("many",.int (m:Nat)),("toll",.int t)])
 | .store m,r=>∃dw,H r=some (.ins a.cf dw [("many",.int (m:Nat))])
 | .bags R,r=>∃dw,H r=some (.ins a.de dw [("room",.int R)])
theorem h7.mono{a:Adr}{H H':Hp}(e:al H H'){g:Gm}{r:Addr}(h:h7 a H g r):h7 a H' g r:=by
 cases g with
 |shelf ts=>obtain⟨d,v,h⟩:=h;exact⟨d,v,e _ _ h⟩
 |hire W=>obtain⟨d,h⟩:=h;exact⟨d,e _ _ h⟩
 |line W=>obtain⟨d,h⟩:=h;exact⟨d,e _ _ h⟩
 |wys W t=>obtain⟨d,h⟩:=h;exact⟨d,e _ _ h⟩
 |store W=>obtain⟨d,h⟩:=h;exact⟨d,e _ _ h⟩
 |bags W=>obtain⟨d,h⟩:=h;exact⟨d,e _ _ h⟩
def bE(H:Hp)(gl:Addr)(g:Gm)(st:ag)(ws:List aw):Prop:=∃gv sv wl cC,H gl=some (.lst [.int g.no,gv,sv,.ref wl])/\g.pv H gv/\st.at_ H sv/\H wl=some (.lst cC)/\ao (aw.at_ H) ws cC
def jw(g:Gm)(st:ag)(ws:List aw):Prop:=g.wf/\g.ok 4 st/\(∀w∈ws,g.okW w)/\ws.length<=12
def rb:Gm->ag->List aw->Prop
 | .line _,.l ns,ws=>∃aU:List Int,aU.length<=7/\(∀x∈ns,x∈aU)/\ns.Pairwise (·<=·)/\∀w∈ws,∃z,w=.i z/\z∈aU
 | .store _,.t ss,ws=>∃aU:List Str,aU.length<=7/\aU.Nodup/\(∀x∈ss,x∈aU)/\sortedS ss=true/\ss.Nodup/\∀w∈ws,∃z,w=.s z/\z∈aU
 | .bags _,.l ns,ws=>ns.length+ws.length<=5
 |_,_,_=>True
theorem bE.mono{H H':Hp}(e:al H H'){gl:Addr}{g:Gm}{st:ag}{ws:List aw}(h:bE H gl g st ws):bE H' gl g st ws:=by
 obtain⟨gv,sv,wl,cC,h1,h2,h3,h4,h5⟩:=h;exact⟨gv,sv,wl,cC,e _ _ h1,Gm.pv_mono e h2,ag.mono e h3,e _ _ h4,h5.imp λk=>aw.mono e k⟩
theorem iY.one(h:iY R os s L v)(hg:eE R os s L 1):v=.int 1:=h.uniq (.inl ⟨1,hg,rfl⟩)
theorem iY.nought(h:iY R os s L v)(hg:eE R os s L 0):v=.int 0:=h.uniq (.inl ⟨0,hg,rfl⟩)
theorem iY.no(h:iY R os s L v)(hg:∀pr,¬ eE R os s L pr):v=.non:=h.uniq (.inr ⟨hg,rfl⟩)
def uS(H:Hp)(Q:VK):Prop:=∀gl g st ws H',H gl=none->bE H' gl g st ws->jw g st ws->rb g st ws->al H H'->Q (.ref gl) H'
theorem P5(b:Bool):ag.i (if b=true then 1 else 0)=.i 0\/ag.i (if b=true then 1 else 0)=.i 1:=by cases b<;>simp
theorem P6{h:Int}(h0:0<=h)(h1:h<2147483629):ib h<=1048577:=v9 (show ib h<=31 from Tv (by omega)) (by decide)
theorem P7{g:Gm}{xs:List Int}(h:∀x∈xs,g.okW (.i x)):∀w∈xs.map aw.i,g.okW w:=λw hw=>by
 obtain⟨x,hx,rfl⟩:=yk.mp hw;exact h x hx
theorem WR{g:Gm}{xs:List Str}(h:∀x∈xs,g.okW (.s x)):∀w∈xs.map aw.s,g.okW w:=λw hw=>by
 obtain⟨x,hx,rfl⟩:=yk.mp hw;exact h x hx
def Cf(us:List V)(H:Hp)(h:Int)(p:Addr)(cs:List Int):Prop:=us=[.int h,.ref p]/\0<=h/\h<2147483629/\H p=some (.lst (cs.map V.int))/\cs.length<=12/\∀c∈cs,ib c<=1048576
theorem WS(h:i<=os.length):aQ (os.map V.int) none (some (i:Int))=(os.take i).map V.int:=by
 unfold aQ;rw[HT.sIx_none,HT.sIx_nat,y3,uu h,BP,BQ,B9]
theorem P8{t u:TS}{D:Ends}{σ:L2.St}(J:L2.St->Hp->Prop)(h2:∀σ' H',J σ' H'->u D σ' H')(h1:(∀σ' H',J σ' H'->u D σ' H')->pN t u D σ H):pN t u D σ H:=h1 h2
theorem Ar{q:Int}(q0:0<=q)(e:q+3*(i:Int)=c0)(h:j<i)(hi:i<9)(z:(q+3*(j:Int)).toNat%26=c0%26):False:=by omega
theorem WT{w:Int}(h:k<l.length):(l.take k++l.drop (k+1)++[w]).Perm (l.set k w):=by
 rw[<- WD h,wI,wI];exact UA _ Jd
def wD:aw->D
 | .i z=>.int z
 | .s x=>.str x
 | .l ns=>.tup (ns.map D.int)
def sD:ag->D
 | .i z=>.int z
 | .l ns=>.tup (ns.map D.int)
 | .t ss=>.tup (ss.map D.str)
theorem P9{H:Hp}:∀{ws:List aw}{vs:List V},ao (aw.at_ H) ws vs->aE H (ws.map wD) vs
 |[],[],_=>aE.nil
 |w::ws,v::vs,⟨h1,h⟩=>by
  refine aE.cons ?_ (P9 h);cases w with
  |i z=>exact h1
  |s x=>exact h1
  |l ns=>obtain⟨p,rfl,hp⟩:=h1;exact aR.tupInts hp
 |[],_::_,h=>h.elim
 |_::_,[],h=>h.elim
theorem WU{H:Hp}:∀{ws:List ag}{vs:List V},ao (ag.at_ H) ws vs->aE H (ws.map sD) vs
 |[],[],_=>aE.nil
 |w::ws,v::vs,⟨h1,h⟩=>by
  refine aE.cons ?_ (WU h);cases w with
  |i z=>exact h1
  |l ns=>obtain⟨p,rfl,hp⟩:=h1;exact aR.tupInts hp
  |t ss=>obtain⟨p,rfl,hp⟩:=h1;exact WN hp
 |[],_::_,h=>h.elim
 |_::_,[],h=>h.elim
theorem uT{g:Gm}(gE:g.wf):∀{ws:List aw},(∀w∈ws,g.okW w)->D.eqOkL (ws.map wD)=true
 |[],_=>rfl
 |w::ws,h=>by
  show((wD w).eqOk&&D.eqOkL (ws.map wD))=true;rw[uT gE λx hx=>h x (yr _ hx),ydp];have hw:=h w yu;cases g with
  |hire W=>obtain⟨z,rfl⟩:=hw;rfl
  |line m=>obtain⟨z,rfl⟩:=hw;rfl
  |shelf ts=>obtain⟨x,rfl,hx⟩:=hw;exact WO (gE.2.2 x hx)
  |wys m t=>obtain⟨ns,rfl,_⟩:=hw;exact BL ns
  |store m=>obtain⟨x,rfl,hx⟩:=hw;exact WO hx
  |bags R=>obtain⟨z,rfl,_⟩:=hw;rfl
theorem WV:∀(ws:List aw),D.depthL (ws.map wD)<=1
 |[]=>by decide
 |w::ws=>by
  have:=WV ws;have h1:(wD w).depth<=1:=by
   cases w with
   |i z=>exact gn _
   |s z=>exact gn _
   |l ns=>show D.depthL (ns.map D.int)+1<=1;rw[DN];omega
  show max (wD w).depth (D.depthL (ws.map wD))<=1;omega
theorem Qa:∀(ws:List ag),D.depthL (ws.map sD)<=1
 |[]=>by decide
 |w::ws=>by
  have:=Qa ws;have h1:(sD w).depth<=1:=by
   cases w with
   |i z=>exact gn _
   |l ns=>show D.depthL (ns.map D.int)+1<=1;rw[DN];omega
   |t ss=>show D.depthL (ss.map D.str)+1<=1;rw[PY];omega
  show max (sD w).depth (D.depthL (ws.map sD))<=1;omega
theorem As{d:D}(h:d.eqOk=true):jL d d=true:=SeqAt.eqv_refl _ (D.canLay _ h)
def re(x:Str)(L:List Str):List (List Str):=(vi (L.length+1)).map λi=>L.take i++x::L.drop i
def cG(ss:List Str):List (List Str):=ss.foldl (λLs x=>Ls.flatMap (re x)) [[]]
theorem WW(l:List Str)(x:Str):cG (l++[x])=(cG l).flatMap (re x):=by unfold cG;rw[Gr];rfl
theorem WX{x:Str}{L M:List Str}(h:M∈re x L):M.Perm (x::L):=by
 obtain⟨i,_,rfl⟩:=yk.mp h;refine Jh.trans ?_;rw[vz]
theorem Qb(x:Str){k:Nat}:∀{Ls:List (List Str)},(∀L∈Ls,L.length=k)->(Ls.flatMap (re x)).length=Ls.length*(k+1)
 |[],_=>by simp
 |L::Ls,h=>by
  rw[WY,xi,Qb x λM hM=>h M (yr _ hM),yn,HZ,Lh];congr 1;unfold re;rw[y3,tG,h L yu]
theorem WZ:∀(ss:List Str) (Ls:List (List Str)) (base:List Str),(∀L∈Ls,L.Perm base)->∀L∈ss.foldl (λLs x=>Ls.flatMap (re x)) Ls,L.Perm (base++ss)
 |[],Ls,base,h,L,hL=>by rw[oK];exact h L hL
 |x::r,Ls,base,h,L,hL=>by
  rw[HY]at hL;have:=WZ r _ (x::base) (λM hM=>by
   obtain⟨N,hN,hM⟩:=JS.mp hM;exact(WX hM).trans ((h N hN).cons x)) L hL
  exact this.trans Jh.symm
theorem JT{L:List Str}(h:L∈cG ss):L.Perm ss:=by
 have:=WZ ss [[]] [] (λL hL=>by rw[y9.mp hL]) L h;simpa using this
def At:Nat->Nat->Nat
 |_,0=>1
 |k,n+1=>(k+1)*At (k+1) n
theorem W0:∀(ss:List Str) (Ls:List (List Str)) (k:Nat),(∀L∈Ls,L.length=k)->(ss.foldl (λLs x=>Ls.flatMap (re x)) Ls).length=Ls.length*At k ss.length
 |[],Ls,k,h=>by show Ls.length=Ls.length*1;omega
 |x::r,Ls,k,h=>by
  rw[HY,W0 r _ (k+1) (λM hM=>by
   obtain⟨N,hN,hM⟩:=JS.mp hM;rw[(WX hM).length_eq,yn,h N hN]),Qb x h,Nat.mul_assoc]
  rfl
theorem Au:∀n,n<5->At 0 n<=24:=by decide
theorem Qc(h:ss.length<=4):(cG ss).length<=24:=by
 unfold cG;rw[W0 ss [[]] 0 (λL hL=>by rw[y9.mp hL];rfl)];have:=Au ss.length (by omega);simpa using this
theorem aq.butL{H H':Hp}{x:Addr}{zs:List V}(hx:H x=some (.lst zs))(b:bQ x H H'){vs:List V}{Ls:List (List Str)}(r:aq H vs Ls):aq H' vs Ls:=by
 induction r with
 |nil=>exact .nil
 |cons c _ ih=>exact .cons (b _ _ (λz=>by rw[z,hx]at c;cases c) c) ih
theorem aq.app{H:Hp}{vs us:List V}{Ls Ms:List (List Str)}(r:aq H vs Ls)(q:aq H us Ms):aq H (vs++us) (Ls++Ms):=by
 induction r with
 |nil=>exact q
 |cons c _ ih=>exact .cons c ih
def jx(way size f a0 c0 k:Nat):List Nat:=if way=2 then xm (k+1) f else xm (if way=0 then a0 else k%size) f++(97+(c0+7*k)%26)::xm (size-(if way=0 then a0 else k%size)-1) f
structure Av(way size f a0:Nat):Prop where
 s1:1<=size
 s8:size<=8
 f1:97<=f
 f2:f<=122
 a1:a0<size
theorem Gs{way:Nat}(h:Av way size f a0)(hw:way≠2):∃a,a<size/\jx way size f a0 c0 k=xm a f++(97+(c0+7*k)%26)::xm (size-a-1) f/\a=if way=0 then a0 else k%size:=by
 refine⟨if way=0 then a0 else k%size,?_,?_,rfl⟩
 ·split
  ·exact h.a1
  ·exact BS _ h.s1
 ·unfold jx;rw[if_neg hw]
theorem Gu{way:Nat}(h:Av way size f a0)(hk:k<8):nN ⟨(jx way size f a0 c0 k).toArray⟩=true:=by
 have Qd:=h.f1;have Aw:=h.f2;have Qe:=h.s1;have hs8:=h.s8;have el:(⟨(jx way size f a0 c0 k).toArray⟩:Str).length=(jx way size f a0 c0 k).length:=rfl;unfold nN;rw[el];have ll:1<=(jx way size f a0 c0 k).length/\(jx way size f a0 c0 k).length<=8/\∀c∈jx way size f a0 c0 k,97<=c/\c<=122:=by
  by_cases hw:way=2
  ·unfold jx;rw[if_pos hw,y8z];refine⟨by omega,by omega,λc hc=>?_⟩;rw[Qf hc];exact⟨Qd,Aw⟩
  ·obtain⟨a,ha,ea,_⟩:=Gs (c0:=c0) (k:=k) h hw;rw[ea];refine⟨by simp;omega,by simp;omega,λc hc=>?_⟩;rcases yw.mp hc with hc|hc
   ·rw[Qf hc];exact⟨Qd,Aw⟩
   ·rcases xc.mp hc with rfl|hc
    ·omega
    ·rw[Qf hc];exact⟨Qd,Aw⟩
 rw[decide_eq_true ll.1,decide_eq_true ll.2.1,ydr,ydr,IB];intro c hc;have:=ll.2.2 c (by simpa using hc);unfold PV;rw[decide_eq_true this.1,decide_eq_true this.2];rfl
def Cg(way size f a0 c0 k:Nat):Str:=⟨(jx way size f a0 c0 k).toArray⟩
theorem Qg(a b:Str):(a++b).cps.toList=a.cps.toList++b.cps.toList:=by
 show(a.cps++b.cps).toList=_;simp
theorem mul_one(f n:Nat):(ft ⟨#[f]⟩ n).cps.toList=xm n f:=by
 show((xm n [f]).flatten).toArray.toList=_;rw[Mx]
theorem JU(c:Nat):(⟨#[c]⟩:Str).length=1:=rfl
theorem W2:(u5 "abcdefghijklmnopqrstuvwxyz").length=26:=by decide
theorem W3{i:Int}(h0:0<=i)(h1:i<26):dP (u5 "abcdefghijklmnopqrstuvwxyz").cps.toList i=some (97+i.toNat):=by
 have e:(u5 "abcdefghijklmnopqrstuvwxyz").cps.toList=(vi 26).map (97+·):=by decide
 rw[e];refine Bx h0 ?_;rw[xh,Fl (by omega)];rfl
def pB:ag->ag->Prop
 | .i a,.i b=>a<b
 | .l a,.l b=>a<b
 | .t a,.t b=>eM a<eM b
 |_,_=>False
theorem JV:∀{a b:ag},pB a b->pB b a->False
 | .i a,.i b,h,k=>by have h':a<b:=h;have k':b<a:=k;omega
 | .l a,.l b,h,k=>FZ _ (N9 (show a<b from h) (show b<a from k))
 | .t a,.t b,h,k=>FZ _ (N9 (show eM a<eM b from h) (show eM b<eM a from k))
def eZ(ps:List (ag×Int)):Prop:=ps.Pairwise λa b=>pB a.1 b.1
theorem eZ.uniq{a b:List (ag×Int)}(ha:eZ a)(hb:eZ b)(h:∀s c,(s,c)∈a↔(s,c)∈b):a=b:=by
 have nd:∀{l:List (ag×Int)},eZ l->l.Nodup:=λh=>h.imp λz e=>by rw[e]at z;exact JV z z
 have p:a.Perm b:=(y6v (nd ha) (nd hb)).mpr λx=>h x.1 x.2;exact Wz (le:=λx y:ag×Int=>pB x.1 y.1) (λx y _ _ h1 h2=>(JV h1 h2).elim) ha hb p
def eF(H:Hp)(ps:List (ag×Int))(zs:List V):Prop:=ao (λ(p:ag×Int) v=>∃c sv,v=.ref c/\H c=some (.tup [sv,.int p.2])/\p.1.at_ H sv) ps zs
def kK(g:Gm)(b:ag)(w:aw)(H:Hp)(ss:List ag)(zs:List V):Prop:=ao (λs v=>∃c sv pv,v=.ref c/\H c=some (.tup [sv,pv])/\s.at_ H sv/\g.pp b w s pv) ss zs
theorem ag.keep{H H':Hp}(e:Kp H H'){s:ag}{v:V}(h:s.at_ H v):s.at_ H' v:=by
 cases s with
 |i z=>exact h
 |l ns=>obtain⟨p,h1,h2⟩:=h;exact⟨p,h1,e _ _ h2 rfl⟩
 |t ss=>obtain⟨p,h1,h2⟩:=h;exact⟨p,h1,e _ _ h2 rfl⟩
theorem kK.keep{g:Gm}{b:ag}{w:aw}{H H':Hp}(e:Kp H H'){ss:List ag}{zs:List V}(h:kK g b w H ss zs):kK g b w H' ss zs:=ao.imp (λ⟨c,sv,pv,h1,h2,h3,h4⟩=>⟨c,sv,pv,h1,e _ _ h2 rfl,ag.keep e h3,h4⟩) h
theorem eF.keep{H H':Hp}(e:Kp H H'){ps:List (ag×Int)}{zs:List V}(h:eF H ps zs):eF H' ps zs:=ao.imp (λ⟨c,sv,h1,h2,h3⟩=>⟨c,sv,h1,e _ _ h2 rfl,ag.keep e h3⟩) h
theorem W4{H:Hp}{vs:List V}{Ls:List (List Int)}(r:bc H vs Ls):ao (ag.at_ H) (Ls.map ag.l) vs:=by
 induction r with
 |nil=>trivial
 |cons x _ ih=>exact⟨⟨_,rfl,x⟩,ih⟩
theorem W5{H:Hp}:∀{ns:List Int}{vs:List V},ao (ag.at_ H) (ns.map ag.i) vs->vs=ns.map V.int
 |[],[],_=>rfl
 |n::_,_::_,⟨h1,h⟩=>by rw[W5 h,show _=V.int n from h1];rfl
 |[],_::_,h=>h.elim
 |_::_,[],h=>h.elim
theorem Qh{α β:Type}{f:α->β}(hf:∀a b,f a=f b->a=b):∀{l:List α},l.Nodup->(l.map f).Nodup
 |[],_=>by simp
 |x::l,h=>by
  rw[kX]at h;rw[xu,kX];refine⟨λhm=>?_,Qh hf h.2⟩;obtain⟨y,hy,e⟩:=yk.mp hm;exact h.1 (by rw[<- hf _ _ e];exact hy)
theorem Gv[DecidableEq ag]:∀{l m:List ag},l.Nodup->(∀x∈l,x∈m)->l.length<=m.length
 |[],_,_,_=>gn _
 |a::l,m,h,hs=>by
  rw[kX]at h;have ha:=hs a yu;have:=Gv (l:=l) (m:=m.erase a) h.2 λx hx=>(MZ (λe=>h.1 (by rw[<- e];exact hx))).mpr (hs x (yr _ hx));rw[Fi ha]at this;have:0<m.length:=Jb ha;rw[yn];omega
noncomputable instance:DecidableEq ag:=λa b=>Wl (a=b)
theorem Gm.pp_uniq{g:Gm}{b s:ag}{w:aw}{v v':V}(h:g.pp b w s v)(h':g.pp b w s v'):v=v':=by
 cases g with
 |bags R=>exact iY.uniq h h'
 |_=>exact Eq.trans h (Eq.symm h')
def uU(h9:List ag):Prop:=(∃n,n<=8/\h9=(fI n).map ag.i)\/(∃Ls:List (List Int),h9=Ls.map ag.l/\∀L∈Ls,L≠[])\/∃Ls:List (List Str),h9=Ls.map ag.t/\∀L∈Ls,L≠[]
theorem W6:bH H v (nF L)↔(ag.l L).at_ H v:=by
 show(∃b,v=.ref b/\H b=some (.tup ((L.map fU).map kV)))↔∃p,v=.ref p/\H p=some (.tup (L.map V.int));rw[v8];exact FV
theorem W7{L:List Str}:bH H v (kE L)↔(ag.t L).at_ H v:=by
 show(∃b,v=.ref b/\H b=some (.tup ((L.map ij).map kV)))↔∃p,v=.ref p/\H p=some (.tup (L.map V.str));rw[v8];exact FV
theorem Ch{α:Type}{f:α->ag}{k:α->List Key}{H:Hp}(h:∀{v L},bH H v (k L)↔(f L).at_ H v):∀{Ls:List α}{vs:List V},ao (ag.at_ H) (Ls.map f) vs↔au (bH H) vs (Ls.map k)
 |[],[]=>⟨λ_=>.nil,λ_=>trivial⟩
 |_::_,_::_=>⟨λ⟨h1,h2⟩=>.cons (h.mpr h1) ((Ch h).mp h2),λr=>by cases r with|cons x r=>exact⟨h.mp x,(Ch h).mpr r⟩⟩
 |[],_::_=>⟨λz=>z.elim,λr=>by cases r⟩
 |_::_,[]=>⟨λz=>z.elim,λr=>by cases r⟩
theorem W8{vs:List V}{Ls:List (List Key)}(r:au (bH H) vs Ls)(nd:Ls.Nodup)(pw:Ls.Pairwise λa b=>¬ wK b<wK a)(sub:∀L∈Ls,∃M,L=nF M/\True):∃Ms:List (List Int),Ls=Ms.map nF/\ao (ag.at_ H) (Ms.map .l) vs/\(Ms.map ag.l).Pairwise pB:=by
 obtain⟨Ms,rfl,_⟩:=Jy sub;refine⟨Ms,rfl,(Ch W6).mpr r,?_⟩;rw[Qi,vh]at nd;rw[vh]at pw;refine vh.mpr ((nd.and pw).imp λ{a b} ⟨k1,k2⟩=>?_);show a<b;rw[qY,qY,uE (pq.trans pq) (λe=>by cases e;rfl)]at k2;rcases jnl a b with z|z|z
 ·exact z
 ·exact absurd (by rw[z]) k1
 ·exact absurd z k2
theorem W9{vs:List V}{Ls:List (List Key)}(r:au (bH H) vs Ls)(nd:Ls.Nodup)(pw:Ls.Pairwise λa b=>¬ wK b<wK a)(sub:∀L∈Ls,∃M,L=kE M/\True):∃Ms:List (List Str),Ls=Ms.map kE/\ao (ag.at_ H) (Ms.map .t) vs/\(Ms.map ag.t).Pairwise pB:=by
 obtain⟨Ms,rfl,_⟩:=Jy sub;refine⟨Ms,rfl,(Ch W7).mpr r,?_⟩;rw[Qi,vh]at nd;rw[vh]at pw;refine vh.mpr ((nd.and pw).imp λ{a b} ⟨k1,k2⟩=>?_);show eM a<eM b;have e:∀l:List Str,wK (kE l)=(eM l).map λx=>[x.map λ(n:Nat)=>(n:Int)]:=λl=>by rw[Ac];unfold eM;rw[v8];rfl
 rw[e,e,uE (pq.trans (uE Wa FW)) λh=>by injection h with h _;exact(uw (λa b e=>FW e)).mp h]at k2;rcases jka a b with z|z|z
 ·exact z
 ·exact absurd (by rw[z]) k1
 ·exact absurd z k2
theorem Xa{α β:Type}{f:α->β}(hf:∀{a b},f a=f b->a=b){Ms Ls:List α}(mm:∀L,L∈Ms.map f↔L∈Ls.map f)(M:α):M∈Ms↔M∈Ls:=
 ⟨λh=>by obtain⟨N,h1,h2⟩:=yk.mp ((mm _).mp (yk.mpr ⟨M,h,rfl⟩));rw[<- hf h2];exact h1,λh=>by obtain⟨N,h1,h2⟩:=yk.mp ((mm _).mpr (yk.mpr ⟨M,h,rfl⟩));rw[<- hf h2];exact h1⟩
theorem Gw{K:yd}{Q:VK}{p:Addr}{h9:List ag}(hp:H p=some (.lst ys))(nP:ao (ag.at_ H) h9 ys)(Qj:h9.length<=60)(hk:uU h9)(q:∀lq ts Qk H1,H1 lq=some (.lst Qk)->ao (ag.at_ H1) ts Qk->ts.Pairwise pB->(∀s,s∈ts↔s∈h9)->al H H1->Q (.ref lq) H1):JF K [.ref p] H Q:=by
 have ly:=nP.len;rcases hk with⟨n,n8,rfl⟩|⟨Ls,rfl,bO⟩|⟨Ls,rfl,bO⟩
 ·obtain rfl:=W5 nP;refine uL (fI n) (.inl hp) (λn h=>h) (by rw[MK];omega) λl ks H' nl ql pw mm e=>q l (ks.map .i) _ H' ql (Ce ks) (vh.mpr (pw.imp λz=>z)) (λs=>by simp only[yk,mm]) e
 ·refine uM hp ((Ch W6).mp nP) (by omega) ⟨false,λL hL=>by obtain⟨M,hM,rfl⟩:=yk.mp hL;exact⟨M,rfl,bO M hM⟩⟩ λl bo fD H' nl ql r' nd pw mm e=>?_;obtain⟨Ms,rfl,h1,h2⟩:=W8 r' nd pw λL hL=>by obtain⟨M,_,z⟩:=yk.mp ((mm L).mp hL);exact⟨M,z.symm,trivial⟩
  exact q l (Ms.map .l) bo H' ql h1 h2 (λs=>by rw[yk,yk];simp only[Xa @FQ mm]) e
 ·refine uM hp ((Ch W7).mp nP) (by omega) ⟨true,λL hL=>by obtain⟨M,hM,rfl⟩:=yk.mp hL;exact⟨M,rfl,bO M hM⟩⟩ λl bo fD H' nl ql r' nd pw mm e=>?_;obtain⟨Ms,rfl,h1,h2⟩:=W9 r' nd pw λL hL=>by obtain⟨M,_,z⟩:=yk.mp ((mm L).mp hL);exact⟨M,z.symm,trivial⟩
  exact q l (Ms.map .t) bo H' ql h1 h2 (λs=>by rw[yk,yk];simp only[Xa @FR mm]) e
theorem via{t:TE}{σ:L2.St}{K:VK}{P:VK->Prop}(h1:∀K,P K->t σ H K)(h2:P K):t σ H K:=h1 K h2
theorem Xb:∀{ss:List Str},∀{L:List Str},L.Perm ss->L∈cG ss:=by
 have:∀n,∀ss:List Str,ss.length=n->∀L:List Str,L.Perm ss->L∈cG ss:=by
  intro n
  induction n with
  |zero=>
   intro ss hl L p;have e:=vw.mp hl;subst e;rw[ydv.mp p];exact y9.mpr rfl
  |succ n ih=>
   intro ss hl L p;have bO:ss≠[]:=λz=>by rw[z]at hl;simp at hl
   obtain⟨l,x,rfl⟩:∃l x,ss=l++[x]:=⟨ss.dropLast,ss.getLast bO,(Xc bO).symm⟩
   obtain⟨A,B,rfl⟩:=List.append_of_mem (p.mem_iff.mpr (yf _ (y9.mpr rfl)));have p2:(A++B).Perm l:=by
    have h1:(x::(A++B)).Perm (x::l):=Jh.symm.trans (p.trans (Jd (l₁:=l) (l₂:=[x])));exact h1.cons_inv
   rw[WW,JS];refine⟨A++B,ih l (by simpa using hl) _ p2,yk.mpr ⟨A.length,u9.mpr (by simp;omega),?_⟩⟩;rw[List.take_left' rfl,List.drop_left' rfl]
 exact λ{ss L} p=>this ss.length ss rfl L p
def Gm.dst:Gm->ag->aw->ag->Prop
 | .hire _,_,_,s=>s=.i 0\/s=.i 1
 | .line _,.l b,.i w,s=>∃L,s=.l L/\WH b w L
 | .shelf _,.t b,_,s=>∃L,s=.t L/\L.Perm b
 | .wys m _,_,_,s=>∃z:Int,s=.i z/\0<=z/\z<m
 | .store _,.t b,.s w,s=>∃L,s=.t L/\JR b w L
 | .bags R,.l b,.i w,s=>∃L pr,s=.l L/\eE R b w L pr
 |_,_,_,_=>False
def Gm.to(g:Gm)(b:ag)(w:aw)(s:ag)(c:Int):Prop:=g.dst b w s/\g.pp b w s (.int c)
def Gm.nd:Gm->ag->Prop
 | .store _,.t ss=>ss.Nodup
 |_,_=>True
def Xd(H:Hp)(Q:VK)(g:Gm)(b:ag)(w:aw):Prop:=∀l zs (ps:List (ag×Int)) H',H l=none->H' l=some (.lst zs)->eF H' ps zs->eZ ps->(∀s c,(s,c)∈ps↔g.to b w s c)->al H H'->Q (.ref l) H'
def Ci(a:Adr)(H:Hp)(Q:VK)(us:List V)(g:Gm):Prop:=∃(r:Addr) (bv wv:V) (b:ag) (w:aw),us=[.ref r,bv,wv]/\h7 a H g r/\g.wf/\b.at_ H bv/\g.ok 30 b/\g.nd b/\w.at_ H wv/\g.okW w/\Xd H Q g b w
theorem Gm.dst_ok{g:Gm}{n:Nat}{b s:ag}{w:aw}(hb:g.ok n b)(vN:g.nd b)(hw:g.okW w)(h:g.dst b w s):g.ok (n+1) s:=by
 cases g with
 |hire W=>exact h
 |line m=>
  obtain⟨z,rfl⟩:=hw;obtain⟨ns,rfl,hl⟩:=hb;obtain⟨L,rfl,⟨_,rfl⟩|⟨_,k,hk,hs⟩⟩:=h
  ·exact⟨_,rfl,hl⟩
  ·exact⟨_,rfl,by rw[hs.len hk,hl]⟩
 |shelf ts=>
  obtain⟨ss,rfl,pm⟩:=hb;obtain⟨L,rfl,hL⟩:=h;exact⟨L,rfl,hL.trans pm⟩
 |wys m t=>exact h
 |store m=>
  obtain⟨x,rfl,hx⟩:=hw;obtain⟨ss,rfl,hl,hn⟩:=hb;obtain⟨L,rfl,hg⟩:=h;refine⟨L,rfl,?_,λy hy=>?_⟩
  ·rw[hg.len vN,hl]
  ·rcases hg with⟨_,rfl⟩|⟨_,g,_,hs⟩
   ·exact hn y hy
   ·rcases yw.mp (hs.1.mem_iff.mp hy)with z|z
    ·exact hn y ((kT.mp z).1)
    ·rw[y9.mp z];exact hx
 |bags R=>
  obtain⟨z,rfl,z1,z2⟩:=hw;obtain⟨ns,rfl,⟨h1,h2⟩,h3⟩:=hb;obtain⟨L,pr,rfl,g1,hg⟩:=h;refine⟨L,rfl,⟨g1,λx hx=>?_⟩,?_⟩
  ·rcases hg with⟨_,pm⟩|⟨_,k,hk,hR,pm⟩
   ·rcases yw.mp (pm.mem_iff.mp hx)with y|y
    ·exact h2 x y
    ·rw[y9.mp y];exact⟨z1,z2⟩
   ·rcases List.mem_or_eq_of_mem_set (pm.mem_iff.mp hx)with y|y
    ·exact h2 x y
    ·have hm:ns.getD k 0∈ns:=(by rw[y8,y4 hk];exact ua hk);have:=h2 _ hm;rw[y];exact⟨by omega,hR⟩
  ·rcases hg with⟨_,pm⟩|⟨_,k,hk,hR,pm⟩
   ·have:=pm.length_eq;simp at this;omega
   ·have:=pm.length_eq;simp at this;omega
def jy{α:Type}:Nat->List α->List (List α)
 |0,_=>[[]]
 |_+1,[]=>[]
 |k+1,x::l=>(jy k l).map (x :: ·)++jy (k+1) l
def kL:Nat->Nat->Nat
 |0,_=>1
 |_+1,0=>0
 |k+1,n+1=>kL k n+kL (k+1) n
theorem Ql{α:Type}:∀(k:Nat) (l:List α),(jy k l).length=kL k l.length
 |0,l=>by cases l<;>rfl
 |k+1,[]=>rfl
 |k+1,x::l=>by
  show((jy k l).map (x :: ·)++jy (k+1) l).length=kL k l.length+kL (k+1) l.length;rw[xi,y3,Ql k l,Ql (k+1) l]
theorem jl4{α:Type}{S l:List α}(h:S.Sublist l):S∈jy S.length l:=by
 induction h with
 |slnil=>exact y9.mpr rfl
 | @cons S l x h ih=>
  cases S with
  |nil=>exact y9.mpr rfl
  |cons y S=>exact yf _ ih
 | @cons_cons S l x h ih=>exact yy _ (yk.mpr ⟨S,ih,rfl⟩)
theorem jp7:∀k,k<5->∀n,n<8->kL k n<=60:=by decide
def Gx{α:Type}(aU:List α):Nat->List (List α)
 |0=>[[]]
 |k+1=>aU.flatMap λx=>(Gx aU k).map (x :: ·)
theorem Xe{α β:Type}{f:α->List β}{n:Nat}:∀{l:List α},(∀x∈l,(f x).length<=n)->(l.flatMap f).length<=l.length*n
 |[],_=>by simp
 |x::l,h=>by
  rw[WY,xi,yn,HZ];have:=h x yu;have:=Xe (l:=l) λy hy=>h y (yr _ hy);omega
theorem Xf{α:Type}{aU:List α}(h:aU.length<=7):∀k,(Gx aU k).length<=7 ^ k
 |0=>yg _
 |k+1=>by
  have:=Xe (f:=λx=>(Gx aU k).map (x :: ·)) (n:=7 ^ k) (l:=aU) λx _=>by rw[y3];exact Xf h k
  refine v9 this (v9 (y9r _ h) ?_);rw[ye8,ye7];exact yg _
theorem Xg{α:Type}{aU:List α}:∀{L:List α},(∀x∈L,x∈aU)->L∈Gx aU L.length
 |[],_=>y9.mpr rfl
 |x::L,h=>JS.mpr ⟨x,h x yu,yk.mpr ⟨L,Xg λy hy=>h y (yr _ hy),rfl⟩⟩
def iI(l:List Int):List Int:=l.mergeSort λa b=>decide (a<=b)
theorem Ax(l:List Int):(iI l).Perm l:=ya8 _ _
theorem Gy(l:List Int):(iI l).Pairwise (·<=·):=by
 have:=y7t (le:=λa b:Int=>decide (a<=b)) (λa b c h1 h2=>by simp at *;omega) (λa b=>by simp;omega) l;exact this.imp λh=>by simpa using h
theorem jek:∀{l:List Str},(l.Pairwise λa b=>¬ b.cps.toList<a.cps.toList)->sortedS l=true
 |[],_=>rfl
 |x::r,h=>by
  have key:∀(p:Str) (l:List Str),((p::l).Pairwise λa b=>¬ b.cps.toList<a.cps.toList)->risingS p l=true:=by
   intro p l
   induction l generalizing p with
   |nil=>intro _;rfl
   |cons y r ih=>
    intro h;obtain⟨h1,h2⟩:=BV.mp h;show(!ltCps y.cps.toList p.cps.toList&&risingS y r)=true;rw[ih y h2,ltCps_eq,ydp];simpa using h1 y yu
  exact key x r h
theorem Xh(l:List Str):(l.mergeSort λa b=>!decide (b.cps.toList<a.cps.toList)).Perm l/\sortedS (l.mergeSort λa b=>!decide (b.cps.toList<a.cps.toList))=true:=by
 refine⟨ya8 _ _,?_⟩;refine jek (yf9 (λh=>?_) (y7t (le:=λa b:Str=>!decide (b.cps.toList<a.cps.toList)) (λa b c h1 h2=>?_) (λa b=>?_) l))
 ·simpa using h
 ·simp only[Bool.not_eq_true',decide_eq_false_iff_not] at *;exact jP.mpr (List.le_trans (jP.mp h1) (jP.mp h2))
 ·by_cases c:b.cps.toList<a.cps.toList
  ·have:¬ a.cps.toList<b.cps.toList:=λz=>FZ _ (N9 c z);simp[this]
  ·simp[c]
def cH:Nat->Nat->Nat
 |_,0=>1
 |n,k+1=>n*cH n k+cH (n+1) k
theorem Xi:∀k n,1<=cH n k
 |0,n=>yg _
 |k+1,n=>by have:=Xi k (n+1);show 1<=n*cH n k+cH (n+1) k;omega
theorem jp9:∀n,n<6->∀k,k<6->n+k<=5->cH n k<=60:=by decide
def JW(w:Int)(b:List Int):List (List Int):=((vi b.length).map λi=>iI (b.set i (b.getD i 0+w)))++[iI (b++[w])]
def uV(k:Nat)(C:List (List Int)):Nat:=(C.map λb=>cH b.length k).sum
theorem Xj(m:Nat):∀n,(xm n m).sum=n*m
 |0=>by simp
 |n+1=>by rw[uc,P1,Xj m n,HZ,Lh]
theorem Ay(k:Nat)(w:Int)(b:List Int):uV k (JW w b)=cH b.length (k+1):=by
 unfold uV JW;rw[xk,ycd,v8];have e1:((vi b.length).map ((λb:List Int=>cH b.length k) ∘ λi=>iI (b.set i (b.getD i 0+w))))=xm b.length (cH b.length k):=by
  rw[List.eq_replicate_iff];refine⟨by simp,λx hx=>?_⟩;obtain⟨i,_,rfl⟩:=yk.mp hx;show cH (iI _).length k=_;rw[(Ax _).length_eq,Dq]
 rw[e1,Xj];show b.length*cH b.length k+(cH (iI (b++[w])).length k+0)=b.length*cH b.length k+cH (b.length+1) k;rw[(Ax _).length_eq,xi,uj];rfl
theorem Xk(k:Nat)(w:Int):∀C:List (List Int),uV k (C.flatMap (JW w))=uV (k+1) C
 |[]=>rfl
 |b::C=>by
  have h1:=Ay k w b;have h2:=Xk k w C;unfold uV at *;rw[WY,xk,ycd,h1,h2,xu,P1]
theorem Xl(k:Nat):∀C:List (List Int),C.length<=uV k C
 |[]=>yg _
 |b::C=>by
  have:=Xl k C;have:=Xi k b.length;unfold uV at *;rw[yn,xu,P1];omega
inductive Rc(g:Gm)(st:ag):List aw->ag->Prop
 |nil:Rc g st [] st
 |snoc {ws:List aw}{w:aw}{b s:ag}:Rc g st ws b->g.dst b w s->Rc g st (ws++[w]) s
theorem Rc.ok{g:Gm}{st s:ag}{ws:List aw}(h:Rc g st ws s)(h0:g.ok 4 st)(n0:g.nd st)(hw:∀w∈ws,g.okW w):g.ok (4+ws.length) s/\g.nd s:=by
 induction h with
 |nil=>exact⟨h0,n0⟩
 | @snoc ws w b s h1 h2 ih=>
  obtain⟨i1,i2⟩:=ih λx hx=>hw x (yy _ hx);have bI:=hw w (yf _ (y9.mpr rfl));refine⟨by rw[xi,uj];exact Gm.dst_ok i1 i2 bI h2,?_⟩;cases g with
  |store m=>
   obtain⟨x,rfl,hx⟩:=bI;obtain⟨ss,rfl,_⟩:=i1;obtain⟨L,rfl,⟨_,rfl⟩|⟨hn,y,_,hs⟩⟩:=h2
   ·exact i2
   ·refine hs.1.nodup_iff.mpr (JX.mpr ⟨Xm _ i2,by simp,λa ha c hc e=>hn ?_⟩);rw[y9.mp hc]at e;rw[<- e];exact(kT.mp ha).1
  |_=>trivial
theorem jl5{aU:List Int}(hp:aU.length<=7){m:Nat}{st:List Int}(hs:∀x∈st,x∈aU)(ha:st.Pairwise (·<=·))(m3:m<=3)(hl:st.length=m){ws:List aw}(hw:∀w∈ws,∃z,w=.i z/\z∈aU):∃L:List ag,L.length<=60/\∀s,Rc (.line m) (.l st) ws s->s∈L:=by
 have Gz:∀{ws:List aw}{s:ag},Rc (.line m) (.l st) ws s->(∀w∈ws,∃z,w=.i z/\z∈aU)->∃L,s=.l L/\L.length=m/\L.Pairwise (·<=·)/\(∀x∈L,x∈aU)/\∀us z,ws=us++[.i z]->z∈L:=by
  intro ws s h hw
  induction h with
  |nil=>exact⟨st,rfl,hl,ha,hs,λus z e=>by simp at e⟩
  | @snoc ws w b s h1 h2 ih=>
   obtain⟨B,rfl,b1,b2,b3,_⟩:=ih λx hx=>hw x (yy _ hx);obtain⟨z,rfl,hz⟩:=hw w (yf _ (y9.mpr rfl));have GB:∀{L:List Int},z∈L->∀us y,ws++[aw.i z]=us++[.i y]->y∈L:=λhL us y e=>by
    have:=(Xn e rfl).2;injection this with this;injection this with this;rw[<- this];exact hL
   obtain⟨L,rfl,⟨hm,rfl⟩|⟨hm,k,hk,fu⟩⟩:=h2
   ·exact⟨_,rfl,b1,b2,b3,GB hm⟩
   ·refine⟨L,rfl,by rw[fu.len hk,b1],fu.2,λx hx=>?_,GB fu.mem⟩;rcases yw.mp (fu.1.mem_iff.mp hx)with y|y
    ·rcases yw.mp y with y|y
     ·exact b3 x (gm y)
     ·rw[y9.mp y];exact hz
    ·exact b3 x (BU y)
 rcases Xo ws with rfl|⟨us,w,e⟩
 ·refine⟨[.l st],by simp,λs h=>?_⟩;generalize he:([]:List aw)=ws at h;cases h with
  |nil=>exact y9.mpr rfl
  |snoc _ _=>simp at he
 ·rw[Xp]at e;subst e;obtain⟨z,rfl,hz⟩:=hw w (yf _ (y9.mpr rfl));refine⟨(Gx aU (m-1)).map λR=>.l (iI (z::R)),?_,λs h=>?_⟩
  ·rw[y3];refine v9 (Xf hp _) ?_;have:m-1=0\/m-1=1\/m-1=2:=by omega
   rcases this with e|e|e<;>rw[e]<;>decide
  ·obtain⟨L,rfl,l1,l2,l3,l4⟩:=Gz h hw;have hz:=l4 us z rfl;have pe:=List.perm_cons_erase hz;refine yk.mpr ⟨L.erase z,?_,?_⟩
   ·have:(L.erase z).length=m-1:=(by rw[Fi hz,l1]);rw[<- this];exact Xg λx hx=>l3 x (List.mem_of_mem_erase hx)
   ·rw[jV ((Ax _).trans pe.symm) (Gy _) l2]
theorem jh1{aU:List Str}(hp:aU.length<=7)(pn:aU.Nodup){m:Nat}{st:List Str}(hs:∀x∈st,x∈aU)(ha:sortedS st=true)(hn:st.Nodup)(m4:m<=4)(hl:st.length=m){ws:List aw}(hw:∀w∈ws,∃z,w=.s z/\z∈aU):∃L:List ag,L.length<=60/\∀s,Rc (.store m) (.t st) ws s->s∈L:=by
 have Gz:∀{ws:List aw}{s:ag},Rc (.store m) (.t st) ws s->(∀w∈ws,∃z,w=.s z/\z∈aU)->∃L,s=.t L/\L.length=m/\sortedS L=true/\L.Nodup/\∀x∈L,x∈aU:=by
  intro ws s h hw
  induction h with
  |nil=>exact⟨st,rfl,hl,ha,hn,hs⟩
  | @snoc ws w b s h1 h2 ih=>
   obtain⟨B,rfl,b1,b2,b3,b4⟩:=ih λx hx=>hw x (yy _ hx);obtain⟨z,rfl,hz⟩:=hw w (yf _ (y9.mpr rfl));obtain⟨L,rfl,hg⟩:=h2;have aL:=hg.len b3;rcases hg with⟨_,rfl⟩|⟨hm,y,_,fu⟩
   ·exact⟨_,rfl,b1,b2,b3,b4⟩
   ·refine⟨L,rfl,by rw[aL,b1],fu.2,?_,λx hx=>?_⟩
    ·refine fu.1.nodup_iff.mpr (JX.mpr ⟨Xm _ b3,by simp,λa ha c hc e=>hm ?_⟩);rw[y9.mp hc]at e;rw[<- e];exact(kT.mp ha).1
    ·rcases yw.mp (fu.1.mem_iff.mp hx)with y|y
     ·exact b4 x (kT.mp y).1
     ·rw[y9.mp y];exact hz
 refine⟨(jy m aU).map λS=>.t (S.mergeSort λa b=>!decide (b.cps.toList<a.cps.toList)),by rw[y3,Ql];exact jp7 m (by omega) _ (by omega),λs h=>?_⟩;obtain⟨L,rfl,l1,l2,l3,l4⟩:=Gz h hw;have pm:(aU.filter λx=>decide (x∈L)).Perm L:=(y6v (pn.filter _) l3).mpr λx=>by
  rw[kT,decide_eq_true_iff];exact⟨λh=>h.2,λh=>⟨l4 x h,h⟩⟩
 refine yk.mpr ⟨_,by rw[<- l1,<- pm.length_eq];exact jl4 List.filter_sublist,?_⟩;obtain⟨s1,s2⟩:=Xh (aU.filter λx=>decide (x∈L));rw[WM (s1.trans pm) s2 l2]
theorem jl6{R:Int}{st:List Int}{ws us:List aw}(hk:st.length+(ws++us).length<=5)(hw:∀w∈ws,∃z,w=.i z):∃L:List ag,L.length<=60/\∀s,Rc (.bags R) (.l st) ws s->s∈L:=by
 have Gz:∀n (ws us:List aw),ws.length=n->st.length+(ws++us).length<=5->(∀w∈ws,∃z,w=.i z)->∃C:List (List Int),uV us.length C=cH st.length (ws++us).length/\∀s,Rc (.bags R) (.l st) ws s->s∈C.map ag.l:=by
  intro n
  induction n with
  |zero=>
   intro ws us hl _ _;cases(vw.mp hl);refine⟨[st],by show cH st.length us.length+0=cH st.length us.length;omega,λs h=>?_⟩;generalize he:([]:List aw)=ws at h;cases h with
   |nil=>exact y9.mpr rfl
   |snoc _ _=>simp at he
  |succ n ih=>
   intro ws us hl hk hw;obtain⟨vs,w,rfl⟩:∃vs w,ws=vs++[w]:=by
    rcases Xo ws with rfl|⟨vs,w,e⟩
    ·simp at hl
    ·exact⟨vs,w,by rw[e,Xp]⟩
   obtain⟨z,rfl⟩:=hw w (yf _ (y9.mpr rfl));have ea:vs++[aw.i z]++us=vs++(aw.i z::us):=by simp
   obtain⟨C,c1,c2⟩:=ih vs (.i z::us) (by simpa using hl) (by rw[<- ea];exact hk) λx hx=>hw x (yy _ hx);refine⟨C.flatMap (JW z),by rw[Xk,ea];exact c1,λs h=>?_⟩;generalize he:vs++[aw.i z]=ws at h;cases h with
   |nil=>simp at he
   | @snoc ws' w' b _ h1 h2=>
    obtain⟨e1,e2⟩:=Xn he rfl;subst e1;injection e2 with e2;subst e2;obtain⟨B,hB,rfl⟩:=yk.mp (c2 b h1);obtain⟨L,pr,rfl,g1,hg⟩:=h2;refine yk.mpr ⟨L,JS.mpr ⟨B,hB,?_⟩,rfl⟩;rcases hg with⟨_,pm⟩|⟨_,k,hk,_,pm⟩
    ·refine yf _ (y9.mpr ?_);exact jV (pm.trans (Ax _).symm) g1 (Gy _)
    ·refine yy _ (yk.mpr ⟨k,u9.mpr hk,?_⟩);exact jV ((Ax _).trans pm.symm) (Gy _) g1
 obtain⟨C,c1,c2⟩:=Gz ws.length ws us rfl hk hw;refine⟨C.map ag.l,?_,c2⟩;rw[y3];refine v9 (Xl us.length C) ?_;rw[c1];exact jp9 _ (by omega) _ (by omega) hk
theorem Xq{g:Gm}{st:ag}{ws us:List aw}(wf:g.wf)(h0:g.ok 4 st)(hw:∀w∈ws++us,g.okW w)(hf:rb g st (ws++us)):∃L:List ag,L.length<=60/\∀s,Rc g st ws s->s∈L:=by
 have px:∀w∈ws,g.okW w:=λw h=>hw w (yy _ h);have ok:∀s,g.nd st->Rc g st ws s->g.ok (4+ws.length) s:=λs n h=>(h.ok h0 n px).1;cases g with
 |hire W=>exact⟨[.i 0,.i 1],by simp,λs h=>by rcases ok s trivial h with rfl|rfl<;>simp⟩
 |wys m t=>
  refine⟨(fI m).map ag.i,by have:=wf.2;simp[fI];omega,λs h=>?_⟩;obtain⟨z,rfl,z0,z1⟩:=ok s trivial h;simp only[fI,v8,yk,u9,Xr];exact⟨z.toNat,by omega,by congr 1;omega⟩
 |shelf ts=>
  refine⟨(cG ts).map ag.t,by rw[y3];have:=Qc wf.2.1;omega,λs h=>?_⟩;obtain⟨L,rfl,pm⟩:=ok s trivial h;exact yk.mpr ⟨L,Xb pm,rfl⟩
 |line m=>
  obtain⟨ns,rfl,hl⟩:=h0;obtain⟨aU,p1,p2,p3,p4⟩:=hf;exact jl5 p1 p2 p3 wf.2 hl λw h=>p4 w (yy _ h)
 |store m=>
  obtain⟨ss,rfl,hl,_⟩:=h0;obtain⟨aU,p1,p2,p3,p4,p5,p6⟩:=hf;exact jh1 p1 p2 p3 p4 p5 wf.2 hl λw h=>p6 w (yy _ h)
 |bags R=>
  obtain⟨ns,rfl,_⟩:=h0;refine jl6 (us:=us) hf λw h=>?_;obtain⟨z,rfl,_⟩:=px w h;exact⟨z,rfl⟩
theorem uW{g:Gm}{b:ag}{w:aw}{h9:List ag}{ps:List (ag×Int)}(mm:∀s c,(s,c)∈ps↔s∈h9/\g.pp b w s (.int c))(h:∀s,s∈h9↔g.dst b w s)(s:ag)(c:Int):(s,c)∈ps↔g.to b w s c:=by rw[mm,h];rfl
section
variable{S:Type}[DecidableEq S]
def cO{α:Type}(d:α)(l:List α):α:=l.foldl (λ_ x=>x) d
theorem JY{α:Type}(d x:α)(l:List α):cO d (l++[x])=x:=by unfold cO;rw[Gr];rfl
abbrev Row(S:Type):=List (S×Int×Option S)
def aC(r:Row S)(s:S):Option (Int×Option S):=(r.find? λe=>decide (e.1=s)).map (·.2)
def eG(r:Row S)(s:S)(x:Int×Option S):Row S:=if (r.any λe=>decide (e.1=s))=true then r.map λe=>if e.1=s then(e.1,x)else e else r++[(s,x)]
def cW(p:Int)(b:S)(acc:Row S)(m:S×Int):Row S:=
 match aC acc m.1 with
 |none=>eG acc m.1 (p+m.2,some b)
 |some y=>if p+m.2<y.1 then eG acc m.1 (p+m.2,some b)else acc
theorem jh2{b:S}{acc:Row S}{m:S×Int}(h:aC acc m.1=none):cW p b acc m=eG acc m.1 (p+m.2,some b):=by unfold cW;rw[h]
theorem jel{b:S}{acc:Row S}{m:S×Int}{y:Int×Option S}(h:aC acc m.1=some y)(c:p+m.2<y.1):cW p b acc m=eG acc m.1 (p+m.2,some b):=by unfold cW;rw[h];exact if_pos c
theorem jem{b:S}{acc:Row S}{m:S×Int}{y:Int×Option S}(h:aC acc m.1=some y)(c:¬ p+m.2<y.1):cW p b acc m=acc:=by unfold cW;rw[h];exact if_neg c
def Az(mv:S->List (S×Int))(acc:Row S)(e:S×Int×Option S):Row S:=(mv e.1).foldl (cW e.2.1 e.1) acc
def dJ(mv:S->List (S×Int))(r:Row S):Row S:=r.foldl (Az mv) []
theorem lN{e:S×Int×Option S}{r:Row S}{s:S}(h:e.1=s):aC (e::r) s=some e.2:=by simp[aC,wM,h]
theorem nQ{e:S×Int×Option S}{r:Row S}{s:S}(h:¬ e.1=s):aC (e::r) s=aC r s:=by simp[aC,wM,h]
theorem AA{r:Row S}{s:S}{x:Int×Option S}(h:aC r s=some x):(s,x)∈r:=by
 induction r with
 |nil=>cases h
 |cons e r ih=>
  by_cases q:e.1=s
  ·rw[lN q]at h;cases h;rw[<- q];exact yu
  ·rw[nQ q]at h;exact yr _ (ih h)
theorem GC(s:S):∀r:Row S,(r.any λe=>decide (e.1=s))=(aC r s).isSome
 |[]=>rfl
 |e::r=>by
  rw[Dt,GC s r];by_cases q:e.1=s
  ·rw[lN q,decide_eq_true q];rfl
  ·rw[nQ q,decide_eq_false q,ydq]
theorem Cj{r:Row S}(nd:(r.map (·.1)).Nodup){e:S×Int×Option S}(h:e∈r):aC r e.1=some e.2:=by
 induction r with
 |nil=>cases h
 |cons f r ih=>
  rw[xu,kX]at nd;rcases xc.mp h with rfl|h
  ·exact lN rfl
  ·rw[nQ (λz=>nd.1 (z ▸ yk.mpr ⟨e,h,rfl⟩))];exact ih nd.2 h
theorem Xt(s t:S)(x:Int×Option S):∀r:Row S,aC (r.map λe=>if e.1=s then(e.1,x)else e) t=(aC r t).map λy=>if t=s then x else y
 |[]=>rfl
 |e::r=>by
  rw[xu];by_cases q:e.1=t
  ·rw[lN (e:=if e.1=s then(e.1,x)else e) (by split<;>exact q),lN q];by_cases z:e.1=s
   ·rw[if_pos z,zC,if_pos (q.symm.trans z)]
   ·rw[if_neg z,zC,if_neg (λw=>z (q.trans w))]
  ·rw[nQ (e:=if e.1=s then(e.1,x)else e) (by split<;>exact q),nQ q];exact Xt s t x r
theorem Xu(s t:S)(x:Int×Option S):∀r:Row S,aC r s=none->aC (r++[(s,x)]) t=if t=s then some x else aC r t
 |[],_=>by
  by_cases q:t=s
  ·rw[if_pos q];exact lN q.symm
  ·rw[if_neg q];exact nQ (λz=>q z.symm)
 |e::r,h=>by
  have ne:¬ e.1=s:=λz=>by rw[lN z]at h;cases h
  rw[nQ ne]at h;rw[PQ];by_cases q:e.1=t
  ·rw[lN q,lN q,if_neg (λz=>ne (q.trans z))]
  ·rw[nQ q,nQ q];exact Xu s t x r h
theorem JZ(r:Row S)(s t:S)(x:Int×Option S):aC (eG r s x) t=if t=s then some x else aC r t:=by
 unfold eG;rw[GC];cases h:aC r s with
 |none=>
  rw[if_neg (by simp)];exact Xu s t x r h
 |some y=>
  rw[if_pos (by simp),Xt];by_cases q:t=s
  ·rw[if_pos q,q,h,zC,if_pos rfl]
  ·rw[if_neg q];cases aC r t with
   |none=>rfl
   |some y=>rw[zC,if_neg q]
theorem jh3(r:Row S)(s:S)(x:Int×Option S):((eG r s x).map (·.1))=if (aC r s).isSome=true then r.map (·.1)else r.map (·.1)++[s]:=by
 unfold eG;rw[GC];split
 ·rw[v8];refine NS λe _=>?_;show(if e.1=s then(e.1,x)else e).1=e.1;split<;>rfl
 ·rw[xk];rfl
theorem Xv{r:Row S}{s:S}(h:aC r s=none):s∉r.map (·.1):=λq=>by
 obtain⟨e,he,rfl⟩:=yk.mp q;have:=GC e.1 r;rw[h]at this;have z:(r.any λf=>decide (f.1=e.1))=true:=Mv.mpr ⟨e,he,by simp⟩;rw[this]at z;cases z
theorem Ck{r:Row S}{s:S}(h:s∈r.map (·.1)):∃x,aC r s=some x:=by
 cases q:aC r s with
 |none=>exact absurd h (Xv q)
 |some x=>exact⟨x,rfl⟩
theorem Xw{r:Row S}{s:S}{x:Int×Option S}(nd:(r.map (·.1)).Nodup):((eG r s x).map (·.1)).Nodup:=by
 rw[jh3];split
 ·exact nd
 ·rename_i h;refine JX.mpr ⟨nd,kX.mpr ⟨by simp,DG⟩,λa ha b hb=>?_⟩;rw[y9.mp hb];intro z;rw[z]at ha;exact Xv (by simpa using h) ha
structure dS(mv:S->List (S×Int))(r:Row S)(done:List (S×Int×Option S))(acc:Row S):Prop where
 nd:(acc.map (·.1)).Nodup
 of:∀s x,aC acc s=some x->∃e m,e∈r/\m∈mv e.1/\m.1=s/\x=(e.2.1+m.2,some e.1)
 met:∀e∈done,∀m∈mv e.1,∃x,aC acc m.1=some x/\x.1<=e.2.1+m.2
theorem Xx{p:Int}{b:S}{acc:Row S}{m:S×Int}:(∀t,t≠m.1->aC (cW p b acc m) t=aC acc t)/\(∃x,aC (cW p b acc m) m.1=some x/\x.1<=p+m.2/\(∀y,aC acc m.1=some y->x.1<=y.1)/\(aC acc m.1=some x\/x=(p+m.2,some b)))/\((acc.map (·.1)).Nodup->((cW p b acc m).map (·.1)).Nodup):=by
 unfold cW;cases h:aC acc m.1 with
 |none=>
  dsimp only;refine⟨λt ht=>by rw[JZ,if_neg ht],⟨_,by rw[JZ,if_pos rfl],B7 _,λy hy=>(by cases hy),.inr rfl⟩,Xw⟩
 |some y=>
  dsimp only;split
  ·rename_i c;refine⟨λt ht=>by rw[JZ,if_neg ht],⟨_,by rw[JZ,if_pos rfl],B7 _,λz hz=>(by cases hz;show p+m.2<=y.1;omega),.inr rfl⟩,Xw⟩
  ·rename_i c;exact⟨λt _=>rfl,⟨y,h,by omega,λz hz=>(by cases hz;exact B7 _),.inl rfl⟩,id⟩
theorem Qm{mv:S->List (S×Int)}{r:Row S}{e:S×Int×Option S}(he:e∈r):∀(ms:List (S×Int)),(∀m∈ms,m∈mv e.1)->∀{done:List (S×Int×Option S)}{acc:Row S},dS mv r done acc->
  dS mv r done (ms.foldl (cW e.2.1 e.1) acc)/\∀m∈ms,∃x,aC (ms.foldl (cW e.2.1 e.1) acc) m.1=some x/\x.1<=e.2.1+m.2
 |[],_,done,acc,h=>⟨h,λm hm=>by cases hm⟩
 |m::ms,hm,done,acc,h=>by
  obtain⟨g1,⟨x,g2,g3,g4,g5⟩,g6⟩:=Xx (p:=e.2.1) (b:=e.1) (acc:=acc) (m:=m);have mono:∀t y,aC acc t=some y->∃z,aC (cW e.2.1 e.1 acc m) t=some z/\z.1<=y.1:=λt y hy=>by
   by_cases q:t=m.1
   ·subst q;exact⟨x,g2,g4 y hy⟩
   ·exact⟨y,by rw[g1 t q];exact hy,B7 _⟩
  have h1:dS mv r done (cW e.2.1 e.1 acc m):=by
   refine⟨g6 h.nd,λs y hy=>?_,λf hf k hk=>?_⟩
   ·by_cases q:s=m.1
    ·subst q;rw[g2]at hy;cases hy;rcases g5 with g5|g5
     ·exact h.of _ _ g5
     ·exact⟨e,m,he,hm m yu,rfl,g5⟩
    ·rw[g1 s q]at hy;exact h.of _ _ hy
   ·obtain⟨y,y1,y2⟩:=h.met f hf k hk;obtain⟨z,z1,z2⟩:=mono _ _ y1;exact⟨z,z1,by omega⟩
  obtain⟨h2,h3⟩:=Qm he ms (λk hk=>hm k (yr _ hk)) h1;refine⟨h2,λk hk=>?_⟩;rcases xc.mp hk with rfl|hk
  ·have:dS (λs=>if s=e.1 then[k] else[]) [e] [e] (cW e.2.1 e.1 acc k)->True:=λ_=>trivial;have keep:∀(ks:List (S×Int)) (a:Row S) (t:S) (y:Int×Option S),aC a t=some y->∃z,aC (ks.foldl (cW e.2.1 e.1) a) t=some z/\z.1<=y.1:=by
    intro ks
    induction ks with
    |nil=>intro a t y hy;exact⟨y,hy,B7 _⟩
    |cons k' ks ih=>
     intro a t y hy;obtain⟨k1,⟨x',k2,k3,k4,k5⟩,_⟩:=Xx (p:=e.2.1) (b:=e.1) (acc:=a) (m:=k');obtain⟨z,z1,z2⟩:∃z,aC (cW e.2.1 e.1 a k') t=some z/\z.1<=y.1:=by
      by_cases q:t=k'.1
      ·subst q;exact⟨x',k2,k4 y hy⟩
      ·exact⟨y,by rw[k1 t q];exact hy,B7 _⟩
     obtain⟨w,w1,w2⟩:=ih _ t z z1;exact⟨w,w1,by omega⟩
   obtain⟨z,z1,z2⟩:=keep ms _ _ x g2;exact⟨z,z1,by omega⟩
  ·exact h3 k hk
theorem Qn(mv:S->List (S×Int))(r:Row S):∀(es done:List (S×Int×Option S)) (acc:Row S),(∀e∈es,e∈r)->dS mv r done acc->dS mv r (done++es) (es.foldl (Az mv) acc)
 |[],done,acc,_,h=>by rw[oK];exact h
 |e::es,done,acc,hr,h=>by
  obtain⟨h1,h2⟩:=Qm (hr e yu) (mv e.1) (λm hm=>hm) h;have h3:dS mv r (done++[e]) (Az mv acc e):=⟨h1.nd,h1.of,λf hf k hk=>by
   rcases yw.mp hf with hf|hf
   ·exact h1.met f hf k hk
   ·rw[y9.mp hf]at hk ⊢;exact h2 k hk⟩
  have:=Qn mv r es (done++[e]) (Az mv acc e) (λf hf=>hr f (yr _ hf)) h3
  rwa [wI]at this
theorem rg(mv:S->List (S×Int))(r:Row S):dS mv r r (dJ mv r):=by
 have:=Qn mv r r [] [] (λe h=>h) ⟨DG,λs x h=>(by cases h),λe h=>(by cases h)⟩
 rwa [DA]at this
def aM(r:Row S):List (S->List (S×Int))->List (Row S)
 |[]=>[r]
 |mv::mvs=>r::aM (dJ mv r) mvs
theorem Cm(mvs:List (S->List (S×Int))):∀r,(aM r mvs).length=mvs.length+1:=by
 induction mvs with
 |nil=>intro r;rfl
 |cons mv mvs ih=>intro r;show(aM _ mvs).length+1=_;rw[ih];rfl
theorem Qo(mvs:List (S->List (S×Int)))(mv:S->List (S×Int)):∀r,aM r (mvs++[mv])=aM r mvs++[dJ mv (cO r (aM r mvs))]:=by
 induction mvs with
 |nil=>intro r;rfl
 |cons m mvs ih=>
  intro r;show r::aM (dJ m r) (mvs++[mv])=(r::aM (dJ m r) mvs)++_;rw[ih,PQ];cases h:aM (dJ m r) mvs with
  |nil=>have:=Cm mvs (dJ m r);rw[h]at this;simp at this
  |cons x l=>
   have:aM r (m::mvs)=r::x::l:=by show r::aM (dJ m r) mvs=_;rw[h]
   rw[this];rfl
inductive cX:S->List (S->List (S×Int))->List S->Int->Prop
 |nil {s:S}:cX s [] [] 0
 |cons {s t:S}{p q:Int}{mv:S->List (S×Int)}{mvs:List (S->List (S×Int))}{ws:List S}:(t,p)∈mv s->cX t mvs ws q->cX s (mv::mvs) (t::ws) (p+q)
theorem Xy:∀{mvs:List (S->List (S×Int))}{s:S}{ws:List S}{q:Int},cX s mvs ws q->∀{r:Row S},(r.map (·.1)).Nodup->∀{x:Int×Option S},aC r s=some x->∃y,aC (cO r (aM r mvs)) (cO s (ws))=some y/\y.1<=x.1+q
 |_,_,_,_,.nil,r,_,x,h=>⟨x,h,by omega⟩
 |_,s,_,_,.cons (t:=t) (p:=p) (q:=q) (mv:=mv) (mvs:=mvs) (ws:=ws) hm hw,r,nd,x,h=>by
  have M:=rg mv r;obtain⟨y,y1,y2⟩:=M.met (s,x) (AA h) (t,p) hm;obtain⟨z,z1,z2⟩:=Xy hw M.nd y1;refine⟨z,?_,by have:y.1<=x.1+p:=y2;omega⟩;have e1:cO r (aM r (mv::mvs))=cO (dJ mv r) (aM (dJ mv r) mvs):=by
   show cO r (r::aM (dJ mv r) mvs)=_;cases hq:aM (dJ mv r) mvs with
   |nil=>have:=Cm mvs (dJ mv r);rw[hq]at this;simp at this
   |cons a l=>rfl
  have e2:cO s (t::ws)=cO t (ws):=rfl;rw[e1,e2];exact z1
def jW(r:Row S)(s:S):S:=((aC r s).bind (·.2)).getD s
def lO:List (Row S)->S->List S
 |[],_=>[]
 |r::rs,s=>s::lO rs (jW r s)
theorem Xz:∀{mvs:List (S->List (S×Int))}{s:S}{ws:List S}{q:Int},cX s mvs ws q->∀{mv:S->List (S×Int)}{t:S}{p:Int},(t,p)∈mv (cO s (ws))->cX s (mvs++[mv]) (ws++[t]) (q+p)
 |_,_,_,_,.nil,mv,t,p,h=>by
  have:=cX.cons (mvs:=[]) (ws:=[]) h .nil;rw[show(0:Int)+p=p+0 by omega];exact this
 |_,s,_,_,.cons (t:=u) (p:=a) (q:=b) (ws:=ws) hm hw,mv,t,p,h=>by
  have e2:cO s (u::ws)=cO u (ws):=rfl;rw[e2]at h;have:=cX.cons hm (Xz hw h);rw[show a+b+p=a+(b+p) by omega];exact this
theorem XA(st:S):∀(n:Nat) (mvs:List (S->List (S×Int))),mvs.length=n->∀(s:S) (x:Int×Option S),aC (cO [] (aM [(st,0,none)] mvs)) s=some x->
  cX st mvs (lO ((aM [(st,0,none)] mvs).drop 1).reverse s).reverse x.1/\(cO st ((lO ((aM [(st,0,none)] mvs).drop 1).reverse s).reverse))=s
 |0,mvs,hl,s,x,h=>by
  cases(vw.mp hl);have h':aC [(st,(0:Int),(none:Option S))] s=some x:=h;by_cases q:st=s
  ·rw[lN q]at h';cases h';exact⟨.nil,q⟩
  ·rw[nQ q]at h';cases h'
 |n+1,mvs,hl,s,x,h=>by
  have bO:mvs≠[]:=λz=>by rw[z]at hl;simp at hl
  obtain⟨ms,mv,rfl⟩:∃ms mv,mvs=ms++[mv]:=⟨mvs.dropLast,mvs.getLast bO,(Xc bO).symm⟩
  have hl':ms.length=n:=by simpa using hl
  have ln:=Cm ms [(st,(0:Int),(none:Option S))];rw[Qo]at h ⊢;generalize hL:aM [(st,(0:Int),(none:Option S))] ms=L at *;obtain⟨a,L',rfl⟩:∃a L',L=a::L':=by
   cases L with
   |nil=>simp at ln
   |cons a L'=>exact⟨a,L',rfl⟩
  have el:cO [] ((a::L')++[dJ mv (cO [(st,0,none)] (a::L'))])=dJ mv (cO [(st,0,none)] (a::L')):=JY _ _ _;rw[el]at h;have M:=rg mv (cO [(st,0,none)] (a::L'));obtain⟨e,m,he,hm,hs,hx⟩:=M.of s x h;have ed:((a::L')++[dJ mv (cO [(st,0,none)] (a::L'))]).drop 1=L'++[dJ mv (cO [(st,0,none)] (a::L'))]:=rfl;have pv:jW (dJ mv (cO [(st,0,none)] (a::L'))) s=e.1:=by unfold jW;rw[h,hx];rfl
  have et:lO (((a::L')++[dJ mv (cO [(st,0,none)] (a::L'))]).drop 1).reverse s=s::lO L'.reverse e.1:=by
   rw[ed,List.reverse_append];show s::lO L'.reverse (jW _ s)=_;rw[pv]
  have eL:cO [(st,0,none)] (a::L')=cO [] (a::L'):=rfl;have nd:((cO [] (a::L')).map (·.1)).Nodup:=by
   cases ms with
   |nil=>
    have:a::L'=[[(st,(0:Int),(none:Option S))]]:=hL.symm;rw[this];show([(st,(0:Int),(none:Option S))].map (·.1)).Nodup;simp
   |cons m0 Cn=>
    have AB:(m0::Cn)≠[]:=(by simp);have e3:m0::Cn=(m0::Cn).dropLast++[(m0::Cn).getLast AB]:=(Xc AB).symm;rw[e3,Qo]at hL;rw[<- hL];have:=(rg ((m0::Cn).getLast AB) (cO [(st,0,none)] (aM [(st,(0:Int),(none:Option S))] (m0::Cn).dropLast))).nd;rw[JY];exact this
  rw[eL]at he;have ge:=Cj nd he;obtain⟨i1,i2⟩:=XA st n ms hl' e.1 e.2 (by rw[hL];exact ge);rw[hL]at i1 i2;have i1':cX st ms (lO L'.reverse e.1).reverse e.2.1:=i1;have i2':cO st ((lO L'.reverse e.1).reverse)=e.1:=i2;rw[et,HX,hx];refine⟨?_,JY _ _ _⟩;obtain⟨m1,m2⟩:=m;cases(show m1=s from hs);exact Xz i1' (by rw[i2'];exact hm)
end
section
variable{S:Type}[DecidableEq S]
theorem J3(r:Row S)(mvs:List (S->List (S×Int))):(aM r mvs).getD 0 []=r:=by cases mvs<;>rfl
theorem GD:∀(mvs:List (S->List (S×Int))) (r:Row S) (j:Nat),j<mvs.length->(aM r mvs).getD (j+1) []=dJ (mvs.getD j λ_=>[]) ((aM r mvs).getD j [])
 |[],r,j,h=>by simp at h
 |mv::mvs,r,0,h=>by
  show(aM (dJ mv r) mvs).getD 0 []=dJ mv r;exact J3 _ _
 |mv::mvs,r,j+1,h=>by
  have:=GD mvs (dJ mv r) j (by simpa using h);show(aM (dJ mv r) mvs).getD (j+1) []=dJ ((mv::mvs).getD (j+1) λ_=>[]) ((aM (dJ mv r) mvs).getD j []);rw[this];congr 1
def iJ(R:List (Row S))(s:S):Nat->S
 |0=>s
 |i+1=>jW (R.getD i []) (iJ R s i)
theorem XB(r:Row S)(R:List (Row S))(s:S):∀i,iJ (r::R) s (i+1)=iJ R (jW r s) i
 |0=>rfl
 |i+1=>by
  show jW ((r::R).getD (i+1) []) (iJ (r::R) s (i+1))=jW (R.getD i []) (iJ R (jW r s) i);rw[XB r R s i];rfl
theorem XC:∀(R:List (Row S)) (s:S),lO R s=(vi R.length).map (iJ R s)
 |[],s=>rfl
 |r::R,s=>by
  show s::lO R (jW r s)=_;rw[XC R,yn,y8j,xu,v8];congr 1;exact NS λi _=>(XB r R s i).symm
theorem XD{α:Type}(L:List α)(d:α)(T i:Nat)(hl:L.length=T+1)(hi:i<T):(L.drop 1).reverse.getD i d=L.getD (T-i) d:=by
 have l1:(L.drop 1).length=T:=by rw[ve];omega
 rw[y8,y8x (by omega),M7,l1,y8];congr 2;omega
theorem XE{r0:Row S}{mvs:List (S->List (S×Int))}{s:S}(hs:s∈((aM r0 mvs).getD mvs.length []).map (·.1)):∀i,i<=mvs.length->iJ ((aM r0 mvs).drop 1).reverse s i∈((aM r0 mvs).getD (mvs.length-i) []).map (·.1)
 |0,_=>hs
 |i+1,hi=>by
  have ih:=XE hs i (by omega);obtain⟨x,hx⟩:=Ck ih;have e1:=XD (aM r0 mvs) [] mvs.length i (Cm mvs r0) (by omega);have e2:=GD mvs r0 (mvs.length-(i+1)) (by omega);rw[show mvs.length-(i+1)+1=mvs.length-i by omega]at e2;have M:=rg (mvs.getD (mvs.length-(i+1)) λ_=>[]) ((aM r0 mvs).getD (mvs.length-(i+1)) []);have qH:=hx;rw[e2]at qH;obtain⟨e,m,he,_,_,ex⟩:=M.of _ _ qH;show jW (((aM r0 mvs).drop 1).reverse.getD i []) (iJ ((aM r0 mvs).drop 1).reverse s i)∈_;rw[e1];unfold jW;rw[hx,ex];exact yk.mpr ⟨e,he,rfl⟩
theorem jpc{r0:Row S}{mvs:List (S->List (S×Int))}{s:S}(hs:s∈((aM r0 mvs).getD mvs.length []).map (·.1))(i:Nat)(hi:i<mvs.length):∃p b,aC ((aM r0 mvs).getD (mvs.length-i) []) (iJ ((aM r0 mvs).drop 1).reverse s i)=some (p,some b)/\iJ ((aM r0 mvs).drop 1).reverse s (i+1)=b:=by
 obtain⟨x,hx⟩:=Ck (XE hs i (by omega));have e1:=XD (aM r0 mvs) [] mvs.length i (Cm mvs r0) hi;have e2:=GD mvs r0 (mvs.length-(i+1)) (by omega);rw[show mvs.length-(i+1)+1=mvs.length-i by omega]at e2;have M:=rg (mvs.getD (mvs.length-(i+1)) λ_=>[]) ((aM r0 mvs).getD (mvs.length-(i+1)) []);have qH:=hx;rw[e2]at qH;obtain⟨e,m,he,_,_,ex⟩:=M.of _ _ qH;refine⟨_,e.1,by rw[hx,ex],?_⟩;show jW (((aM r0 mvs).drop 1).reverse.getD i []) (iJ ((aM r0 mvs).drop 1).reverse s i)=_;rw[e1];unfold jW;rw[hx,ex];rfl
theorem XF{α:Type}(d:α):∀(L:List α) (n:Nat),L.length=n+1->cO d L=L.getD n d
 |[],n,h=>by simp at h
 |[x],0,h=>rfl
 |[x],n+1,h=>by simp at h
 |x::y::L,0,h=>by simp at h
 |x::y::L,n+1,h=>by
  have e:cO d (x::y::L)=cO d (y::L):=rfl;rw[e,XF d (y::L) n (by simpa using h)];rfl
theorem jes{r0:Row S}(nd:(r0.map (·.1)).Nodup){mvs:List (S->List (S×Int))}(j:Nat)(hj:j<=mvs.length):(((aM r0 mvs).getD j []).map (·.1)).Nodup:=by
 cases j with
 |zero=>rw[J3];exact nd
 |succ j=>rw[GD _ _ _ (by omega)];exact(rg _ _).nd
end
theorem jh4{S:Type}[DecidableEq S]{mv:S->List (S×Int)}{r:Row S}(hr:r≠[])(hm:∀s∈r.map (·.1),mv s≠[]):dJ mv r≠[]:=by
 obtain⟨e,he⟩:=y77 r hr;obtain⟨m,hm⟩:=y77 _ (hm e.1 (yk.mpr ⟨e,he,rfl⟩));obtain⟨x,hx,_⟩:=(rg mv r).met e he m hm;intro z;rw[z]at hx;cases hx
theorem XG{S:Type}[DecidableEq S]{mvs:List (S->List (S×Int))}{s:S}{ws:List S}{q:Int}(h:cX s mvs ws q):ws.length=mvs.length:=by
 induction h with
 |nil=>rfl
 |cons _ _ ih=>simp[ih]
def TK(H H':Hp):Prop:=∀b xs,H b=some (.tup xs)->H' b=some (.tup xs)
theorem TK.tr{H1 H2:Hp}(a:TK H H1)(b:TK H1 H2):TK H H2:=λc xs h=>b c xs (a c xs h)
theorem Co(e:al H H'):TK H H':=λb xs h=>e b _ h
theorem pC(e:be H H'):TK H H':=λb xs h=>e b _ h rfl
theorem J4(hx:H x=some (.lst ys))(b:bQ x H H'):TK H H':=λc xs h=>b c _ (λz=>by rw[z,hx]at h;cases h) h
section
variable{S κ:Type}[DecidableEq S][DecidableEq κ]
def uX(sv:Hp->S->V->Prop)(H:Hp):Option S->V->Prop
 |none,v=>v=.non
 |some s,v=>sv H s v
inductive bn(key:S->κ)(sv:Hp->S->V->Prop)(H:Hp):List (κ×V)->Row S->Prop
 |nil:bn key sv H [] []
 |cons {s:S}{q:Addr}{p:Int}{b:Option S}{bv:V}{af:List (κ×V)}{r:Row S}:H q=some (.tup [.int p,bv])->uX sv H b bv->bn key sv H af r->bn key sv H ((key s,.ref q)::af) ((s,p,b)::r)
variable{key:S->κ}{sv:Hp->S->V->Prop}{H H':Hp}{af:List (κ×V)}{r:Row S}
theorem bn.mono(mo:∀{s v},sv H s v->sv H' s v)(e:TK H H')(h:bn key sv H af r):bn key sv H' af r:=by
 induction h with
 |nil=>exact .nil
 | @cons s q p b bv af r hq hb _ ih=>
  refine .cons (e _ _ hq) ?_ ih;cases b with
  |none=>exact hb
  |some x=>exact mo hb
theorem bn.length(h:bn key sv H af r):af.length=r.length:=by
 induction h with
 |nil=>rfl
 |cons _ _ _ ih=>simp[ih]
theorem bn.keys(h:bn key sv H af r):af.map (·.1)=r.map λe=>key e.1:=by
 induction h with
 |nil=>rfl
 |cons _ _ _ ih=>simp[ih]
theorem bn.at(h:bn key sv H af r):∀(i:Nat) (kv:κ×V),af[i]?=some kv->∃s q p b bv,r[i]?=some (s,p,b)/\kv=(key s,.ref q)/\H q=some (.tup [.int p,bv])/\uX sv H b bv:=by
 induction h with
 |nil=>exact λi kv h=>by simp at h
 | @cons s q p b bv af r hq hb _ ih=>
  intro i kv h;cases i with
  |zero=>simp at h;exact⟨s,q,p,b,bv,by simp,h.symm,hq,hb⟩
  |succ i=>simpa using ih i kv (by simpa using h)
theorem bn.val(inj:∀a b,key a=key b->a=b)(h:bn key sv H af r)(s:S):(bY af (key s)=none/\aC r s=none)\/∃q p b bv,bY af (key s)=some (.ref q)/\aC r s=some (p,b)/\H q=some (.tup [.int p,bv])/\uX sv H b bv:=by
 induction h with
 |nil=>exact .inl ⟨rfl,rfl⟩
 | @cons t q p b bv af r hq hb _ ih=>
  by_cases e:t=s
  ·subst e;exact .inr ⟨q,p,b,bv,Bo rfl,lN rfl,hq,hb⟩
  ·rw[Bp (p:=(key t,V.ref q)) (λz=>e (inj _ _ z)),nQ (e:=(t,p,b)) e];exact ih
theorem bn.any(inj:∀a b,key a=key b->a=b)(h:bn key sv H af r)(s:S):(af.any λkv=>decide (kv.1=key s))=r.any λe=>decide (e.1=s):=by
 rw[Lk,GC];rcases h.val inj s with⟨a,b⟩|⟨q,p,b,bv,a,c,_⟩
 ·rw[a,b];rfl
 ·rw[a,c];rfl
theorem bn.repl(inj:∀a b,key a=key b->a=b)(h:bn key sv H af r){s:S}{q:Addr}{p:Int}{b:Option S}{bv:V}(hq:H q=some (.tup [.int p,bv]))(hb:uX sv H b bv):bn key sv H (af.map λkv=>if kv.1=key s then(kv.1,.ref q)else kv) (r.map λe=>if e.1=s then(e.1,(p,b))else e):=by
 induction h with
 |nil=>exact .nil
 | @cons t q' p' b' pD af r bS km _ ih=>
  rw[xu,xu];by_cases e:t=s
  ·subst e;rw[if_pos rfl,if_pos rfl];exact .cons hq hb ih
  ·rw[if_neg (show ¬ (key t,V.ref q').1=key s from λz=>e (inj _ _ z)),if_neg (show ¬ (t,p',b').1=s from e)];exact .cons bS km ih
theorem bn.snoc(h:bn key sv H af r){s:S}{q:Addr}{p:Int}{b:Option S}{bv:V}(hq:H q=some (.tup [.int p,bv]))(hb:uX sv H b bv):bn key sv H (af++[(key s,.ref q)]) (r++[(s,(p,b))]):=by
 induction h with
 |nil=>exact .cons hq hb .nil
 |cons bS km _ ih=>exact .cons bS km ih
theorem bn.put(inj:∀a b,key a=key b->a=b)(h:bn key sv H af r){s:S}{q:Addr}{b:Option S}{bv:V}(hq:H q=some (.tup [.int p,bv]))(hb:uX sv H b bv):bn key sv H (bP af (key s) (.ref q)) (eG r s (p,b)):=by
 unfold bP eG;rw[h.any inj s];split
 ·exact h.repl inj hq hb
 ·exact h.snoc hq hb
end
def fb:ag->KU
 | .i z=>.inl (.inl z)
 | .l ns=>.inr (ns.map fU)
 | .t []=>.inl (.inr ⟨#[]⟩)
 | .t (s::r)=>.inr ((s::r).map ij)
theorem XH:∀{a b:List Int},(a.map (fU:Int->Key))=b.map fU->a=b
 |[],[],_=>rfl
 |[],_::_,h=>by cases h
 |_::_,[],h=>by cases h
 |x::a,y::b,h=>by
  rw[xu,xu]at h;injection h with h1 h2;injection h1 with h1;rw[h1,XH h2]
theorem XI:∀{a b:List Str},(a.map (ij:Str->Key))=b.map ij->a=b
 |[],[],_=>rfl
 |[],_::_,h=>by cases h
 |_::_,[],h=>by cases h
 |x::a,y::b,h=>by
  rw[xu,xu]at h;injection h with h1 h2;injection h1 with h1;rw[h1,XI h2]
theorem uY:∀a b:ag,fb a=fb b->a=b
 | .i z,.i y,h=>by injection h with h;injection h with h;rw[h]
 | .i z,.l y,h=>by cases h
 | .i z,.t [],h=>by injection h with h;cases h
 | .i z,.t (_::_),h=>by cases h
 | .l z,.i y,h=>by cases h
 | .l z,.l y,h=>by injection h with h;rw[XH h]
 | .l z,.t [],h=>by cases h
 | .l [],.t (_::_),h=>by injection h with h;cases h
 | .l (_::_),.t (_::_),h=>by injection h with h;injection h with h;cases h
 | .t [],.i y,h=>by injection h with h;cases h
 | .t [],.l y,h=>by cases h
 | .t [],.t [],h=>rfl
 | .t [],.t (_::_),h=>by cases h
 | .t (_::_),.i y,h=>by cases h
 | .t (_::_),.l [],h=>by injection h with h;cases h
 | .t (_::_),.l (_::_),h=>by injection h with h;injection h with h;cases h
 | .t (_::_),.t [],h=>by cases h
 | .t (_::_),.t (_::_),h=>by injection h with h;rw[XI h]
theorem pE{H:Hp}{v:V}:∀{s:ag},s≠.t []->(qT H (fb s) v↔s.at_ H v)
 | .i z,_=>FV
 | .l ns,_=>by
  show(∃b,v=.ref b/\H b=some (.tup ((ns.map fU).map kV)))↔∃p,v=.ref p/\H p=some (.tup (ns.map V.int));rw[v8];exact FV
 | .t [],h=>absurd rfl h
 | .t (s::r),_=>by
  show(∃b,v=.ref b/\H b=some (.tup (((s::r).map ij).map kV)))↔∃p,v=.ref p/\H p=some (.tup ((s::r).map V.str));rw[v8];exact FV
def Gm.T:Gm->Bool
 | .hire _=>false
 | .wys _ _=>false
 |_=>true
theorem Gm.kd{g:Gm}{n:Nat}{s:ag}(wf:g.wf)(h:g.ok n s):(fb s).tup=g.T/\s≠.t []:=by
 cases g with
 |hire W=>rcases h with rfl|rfl<;>exact⟨rfl,λz=>nomatch z⟩
 |line m=>obtain⟨ns,rfl,_⟩:=h;exact⟨rfl,λz=>nomatch z⟩
 |wys m t=>obtain⟨z,rfl,_⟩:=h;exact⟨rfl,λz=>nomatch z⟩
 |bags R=>obtain⟨ns,rfl,_⟩:=h;exact⟨rfl,λz=>nomatch z⟩
 |shelf ts=>
  obtain⟨ss,rfl,pm⟩:=h;have:=pm.length_eq;have:=wf.1;cases ss with
  |nil=>simp at *;omega
  |cons x r=>exact⟨rfl,λz=>nomatch z⟩
 |store m=>
  obtain⟨ss,rfl,hl,_⟩:=h;have:=wf.1;cases ss with
  |nil=>simp at *;omega
  |cons x r=>exact⟨rfl,λz=>nomatch z⟩
abbrev fS:=bn fb ag.at_
theorem ag.tk{H H':Hp}(e:TK H H'){s:ag}{v:V}(h:s.at_ H v):s.at_ H' v:=by
 cases s with
 |i z=>exact h
 |l ns=>obtain⟨p,h1,h2⟩:=h;exact⟨p,h1,e _ _ h2⟩
 |t ss=>obtain⟨p,h1,h2⟩:=h;exact⟨p,h1,e _ _ h2⟩
theorem GF{af:List (KU×V)}{r:Row ag}(e:TK H H')(h:fS H af r):fS H' af r:=bn.mono (H:=H) (H':=H') (ag.tk e) e h
theorem Cp{u:HO}{T:Bool}{af:List (KU×V)}(hx:H x=some u)(du:DU u T af)(b:bQ x H H'):TK H H':=λc xs h=>b c _ (λz=>by rw[z,hx]at h;cases du<;>cases h) h
structure Made(src:ag->Int->ag->Prop)(met:ag->Int->Prop)(acc:Row ag):Prop where
 nd:(acc.map (·.1)).Nodup
 of:∀s x,aC acc s=some x->∃b,src s x.1 b/\x.2=some b
 met:∀s q,met s q->∃x,aC acc s=some x/\x.1<=q
def Qp(g:Gm)(w:aw)(r:Row ag)(s:ag)(q:Int)(b:ag):Prop:=∃e∈r,e.1=b/\∃c,g.to b w s c/\q=e.2.1+c
def Qq(g:Gm)(w:aw)(r:Row ag)(s:ag)(q:Int):Prop:=∃e∈r,∃c,g.to e.1 w s c/\q=e.2.1+c
def Nxt(g:Gm)(w:aw)(r r':Row ag):Prop:=Made (Qp g w r) (Qq g w r) r'
def eI(H:Hp)(g:Gm)(d:Addr)(r:Row ag):Prop:=∃o u af,H d=some (.frz o u)/\DU u g.T af/\fS H af r
theorem eI.mono(k:∀b o u,H b=some (.frz o u)->H' b=some (.frz o u))(e:TK H H'){g:Gm}{d:Addr}{r:Row ag}(h:eI H g d r):eI H' g d r:=let ⟨o,u,af,h1,h2,h3⟩:=h;⟨o,u,af,k _ _ _ h1,h2,GF e h3⟩
theorem eI.ext(e:al H H'){g:Gm}{d:Addr}{r:Row ag}(h:eI H g d r):eI H' g d r:=h.mono (λb o u z=>e _ _ z) (Co e)
def GG(P:ag->Prop):Prop:=(∀s,P s->∃z,s=.i z)\/(∀s,P s->∃L,s=.l L)\/∀s,P s->∃L,s=.t L
theorem Gm.one(g:Gm)(n:Nat):GG (g.ok n):=by
 cases g with
 |hire W=>exact .inl λs h=>by rcases h with h|h<;>exact⟨_,h⟩
 |line m=>exact .inr (.inl λs ⟨L,h,_⟩=>⟨L,h⟩)
 |shelf m=>exact .inr (.inr λs ⟨L,h,_⟩=>⟨L,h⟩)
 |wys m t=>exact .inl λs ⟨z,h,_⟩=>⟨z,h⟩
 |store m=>exact .inr (.inr λs ⟨L,h,_⟩=>⟨L,h⟩)
 |bags m=>exact .inr (.inl λs ⟨L,h,_⟩=>⟨L,h⟩)
def wS:ag->List (List Int)
 | .i z=>[[z]]
 | .l ns=>ns.map λn=>[n]
 | .t ss=>ss.map h6
def kS:ag->C
 | .i _=>.i
 | .l _=>.r false
 | .t _=>.r true
def wP(p:ag×Int):List (List (List Int)):=[wS p.1,[[p.2]]]
def XJ(c:C):Nat->C
 |0=>c
 |_=>.i
theorem uZ{a b:ag}(k:kS a=kS b)(e:wS a=wS b):a=b:=by
 cases a with
 |i x=>cases b with
  |i y=>cases e;rfl
  |_=>cases k
 |l x=>cases b with
  |l y=>rw[(uw (λa b e=>by injection e)).mp e]
  |_=>cases k
 |t x=>cases b with
  |t y=>rw[(uw (λa b=>zZ)).mp e]
  |_=>cases k
theorem GH{a b:ag}(k:kS a=kS b):wS a<wS b\/a=b\/wS b<wS a:=by
 by_cases h:wS a<wS b
 ·exact .inl h
 ·by_cases g:wS b<wS a
  ·exact .inr (.inr g)
  ·exact .inr (.inl (uZ k (Ji (jP.mp g) (jP.mp h))))
theorem AC{a b:ag}(k:kS a=kS b)(h:wS a<wS b):pB a b:=by
 cases a with
 |i x=>cases b with
  |i y=>exact(pq.trans pq).mp h
  |_=>cases k
 |l x=>cases b with
  |l y=>exact(uE pq λe=>by cases e;rfl).mp h
  |_=>cases k
 |t x=>cases b with
  |t y=>
   show eM x<eM y;have e:∀l:List Str,l.map h6=(eM l).map λx=>x.map λ(n:Nat)=>(n:Int):=λl=>by unfold eM;rw[v8];rfl
   have h':x.map h6<y.map h6:=h;rw[e,e,uE (uE Wa FW) λh=>(uw (λa b e=>FW e)).mp h]at h';exact h'
  |_=>cases k
theorem vA{H:Hp}{v:V}{s:ag}:JE H (kS s) v (wS s)↔s.at_ H v:=by
 cases s with
 |i z=>exact⟨λ⟨n,h1,h2⟩=>by cases h2;exact h1,λh=>⟨z,h,rfl⟩⟩
 |l ns=>exact⟨λ⟨a,ms,h1,h2,h3⟩=>⟨a,h1,by rw[(uw (λa b e=>by injection e)).mp h3];exact h2⟩,λ⟨a,h1,h2⟩=>⟨a,ns,h1,h2,rfl⟩⟩
 |t ns=>exact⟨λ⟨a,ms,h1,h2,h3⟩=>⟨a,h1,by rw[(uw (λa b=>zZ)).mp h3];exact h2⟩,λ⟨a,h1,h2⟩=>⟨a,ns,h1,h2,rfl⟩⟩
theorem GI{H:Hp}{v:V}{p:ag×Int}:kI H (XJ (kS p.1)) v (wP p)↔∃c sv,v=.ref c/\H c=some (.tup [sv,.int p.2])/\p.1.at_ H sv:=by
 constructor
 ·rintro⟨a,us,rfl,ha,im⟩
  match us,im,ha with
  |[u1,u2],⟨i1,⟨n,e1,e2⟩,_⟩,ha=>cases e2;rw[e1]at ha;exact⟨a,u1,rfl,ha,vA.mp i1⟩
 ·rintro⟨c,sv,rfl,hc,h⟩;exact⟨c,_,rfl,hc,vA.mpr h,⟨_,rfl,rfl⟩,trivial⟩
theorem AD{H:Hp}{c:C}:∀{ps:List (ag×Int)}{ys:List V},(∀p∈ps,kS p.1=c)->(eF H ps ys↔au (kI H (XJ c)) ys (ps.map wP))
 |[],[],_=>⟨λ_=>.nil,λ_=>trivial⟩
 |p::ps,y::ys,hc=>by
  have h1:=hc p yu;have ih:=AD (H:=H) (ps:=ps) (ys:=ys) λq hq=>hc q (yr _ hq);subst h1;exact⟨λ⟨k1,k2⟩=>.cons (GI.mpr k1) (ih.mp k2),λr=>by cases r with|cons x r=>exact⟨GI.mp x,ih.mpr r⟩⟩
 |[],_::_,_=>⟨λz=>z.elim,λr=>by cases r⟩
 |_::_,[],_=>⟨λz=>z.elim,λr=>by cases r⟩
theorem jpd{K:yd}{Q:VK}{p:Addr}{ps:List (ag×Int)}{P:ag->Prop}(h:H p=some (.lst ys))(hp:eF H ps ys)(nd:(ps.map XM).Nodup)(hP:∀x∈ps,P x.1)(ok:GG P)(hn:ys.length<64)
  (q:∀l zs qs H',H l=none->H' l=some (.lst zs)->eF H' qs zs->qs.Perm ps->eZ qs->al H H'->Q (.ref l) H'):Ab K [.ref p] H Q:=by
 obtain⟨c,hc⟩:∃c,∀x∈ps,kS x.1=c:=by
  rcases ok with ok|ok|ok
  ·exact⟨.i,λx hx=>by obtain⟨z,e⟩:=ok _ (hP x hx);rw[e];rfl⟩
  ·exact⟨.r false,λx hx=>by obtain⟨z,e⟩:=ok _ (hP x hx);rw[e];rfl⟩
  ·exact⟨.r true,λx hx=>by obtain⟨z,e⟩:=ok _ (hP x hx);rw[e];rfl⟩
 refine Gd h ((AD hc).mp hp) (λ_ Y hY=>by obtain⟨x,_,rfl⟩:=yk.mp hY;exact λz=>nomatch z) hn λl bo cV H' nl ql r' pm pw e=>?_;obtain⟨qs,rfl,hq⟩:=Jy (f:=wP) (p:=λx=>kS x.1=c) λY (hY:Y∈cV)=>by obtain⟨x,hx,z⟩:=yk.mp (pm.mem_iff.mp hY);exact⟨x,z.symm,hc x hx⟩
 have kD:=Ge (S:=λx:ag×Int=>kS x.1=c) (λ{a b} ha hb e=>by
  injection e with e1 e2;injection e2 with e2 _;injection e2 with e2 _;injection e2 with e2 _;exact Prod.ext (uZ (ha.trans hb.symm) e1) e2) hq hc pm
 refine q l bo qs H' nl ql (((AD hq).mpr r').keep e.kp) kD ?_ e;have GJ:=(kD.map XM).nodup_iff.mpr nd;rw[Qi,vh]at GJ;rw[vh]at pw;refine yd6 (λ{a b} ha hb ⟨n,k⟩=>?_) (GJ.and pw);have kk:=(hq a ha).trans (hq b hb).symm;rcases GH kk with z|z|z
 ·exact AC kk z
 ·exact absurd z n
 ·exact absurd (zY.mpr (.inl z)) k
def iK(H:Hp)(g:Gm)(r:Row ag)(v:V):Prop:=∃d,v=.ref d/\eI H g d r
inductive Qr(g:Gm)(st:ag):List aw->List (Row ag)->Prop
 |nil:Qr g st [] ([]++[[(st,(0:Int),(none:Option ag))]])
 |snoc {ws:List aw}{w:aw}{rs:List (Row ag)}{r r':Row ag}:Qr g st ws (rs++[r])->Nxt g w r r'->Qr g st (ws++[w]) (rs++[r]++[r'])
theorem rb.nd{g:Gm}{st:ag}{ws:List aw}(h:g.ok 4 st)(f:rb g st ws):g.nd st:=by
 cases g with
 |store m=>
  obtain⟨ss,rfl,_⟩:=h;obtain⟨_,_,_,_,_,k,_⟩:=f;exact k
 |_=>trivial
def GK(g:Gm)(w:aw)(ps qs:List (ag×Int)):Prop:=eZ qs/\∀s c,(s,c)∈qs↔(∃b p q,(b,p)∈ps/\g.to b w s q/\c=p+q)/\∀b p q,(b,p)∈ps->g.to b w s q->c<=p+q
def AE(r:Row ag):List (ag×Int):=r.map λe=>(e.1,e.2.1)
def Told(r:Row ag)(ps:List (ag×Int)):Prop:=eZ ps/\∀s c,(s,c)∈ps↔∃b,(s,c,b)∈r
inductive AF(g:Gm)(st:ag):List aw->List (List (ag×Int))->Prop
 |nil:AF g st [] ([]++[[(st,(0:Int))]])
 |snoc {ws:List aw}{w:aw}{ts:List (List (ag×Int))}{p q:List (ag×Int)}:AF g st ws (ts++[p])->GK g w p q->AF g st (ws++[w]) (ts++[p]++[q])
def GL(H0 H:Hp)(ps:List (ag×Int))(v:V):Prop:=∃l zs,v=.ref l/\H0 l=none/\H l=some (.lst zs)/\eF H ps zs
theorem GL.keep{H0 H H':Hp}(e:Kp H H'){ps:List (ag×Int)}{v:V}(h:GL H0 H ps v):GL H0 H' ps v:=let ⟨l,zs,h1,h0,h2,h3⟩:=h;⟨l,zs,h1,h0,e _ _ h2 rfl,h3.keep e⟩
theorem jpe{α:Type}(zs:List α)(v:α):dP (zs++[v]) (-1)=some v:=by
 have e:j8 (zs++[v]).length (-1)=some zs.length:=by
  unfold j8;rw[if_neg (by decide),if_pos (by simp;omega),xi,uj];congr 1;omega
 unfold dP;rw[e];show(zs++[v])[zs.length]?=some v;rw[va (yg _),zn];rfl
theorem vB{α:Type}{xs:List α}{k:Int}{v:α}(hk:k=(i:Nat))(e:xs[i]?=some v):dP xs k=some v:=by
 have hi:=(xl.mp e).1;subst hk;unfold dP j8;rw[if_pos (by omega),if_pos (by omega),yx];exact e
theorem GN(A B:List Int)(z:Int):(A++B++[z]).Perm (A++[z]++B):=by
 rw[wI,wI];exact UA A Jd
theorem eY.same{M:List Int}{z:Int}(h:eY ns k z L)(g:eY ns k z M):L=M:=jV (h.1.trans g.1.symm) h.2 g.2
theorem lP{g:Gm}{n:Nat}{b s:ag}{w:aw}(hb:g.ok n b)(hw:g.okW w)(hg:∀W,g≠.hire W):(∃c,g.to b w s c)↔g.dst b w s:=by
 refine⟨λ⟨c,h⟩=>h.1,λh=>?_⟩;cases g with
 |hire W=>exact absurd rfl (hg W)
 |line m=>
  obtain⟨z,rfl⟩:=hw;obtain⟨ns,rfl,_⟩:=hb;have h0:=h;obtain⟨L,rfl,hL⟩:=h;have hz:z∈L:=by
   rcases hL with⟨y,rfl⟩|⟨_,k,_,hs⟩
   ·exact y
   ·exact hs.mem
  exact⟨_,h0,(if_pos hz).symm⟩
 |shelf ts=>
  obtain⟨z,rfl,_⟩:=hw;obtain⟨ns,rfl,_⟩:=hb;have h0:=h;obtain⟨L,rfl,hL⟩:=h;exact⟨_,h0,rfl⟩
 |wys m t=>
  obtain⟨z,rfl,_⟩:=hw;obtain⟨ns,rfl,_⟩:=hb;have h0:=h;obtain⟨L,rfl,hL⟩:=h;exact⟨_,h0,rfl⟩
 |store m=>
  obtain⟨z,rfl,_⟩:=hw;obtain⟨ns,rfl,_⟩:=hb;have h0:=h;obtain⟨L,rfl,hL⟩:=h;have hz:z∈L:=by
   rcases hL with⟨y,rfl⟩|⟨_,k,_,hs⟩
   ·exact y
   ·exact hs.mem
  exact⟨_,h0,(if_pos hz).symm⟩
 |bags R=>
  obtain⟨z,rfl,_⟩:=hw;obtain⟨ns,rfl,_⟩:=hb;have h0:=h;obtain⟨L,pr,rfl,hL⟩:=h;exact⟨pr,h0,.inl ⟨pr,hL,rfl⟩⟩
structure Qb6(XN:ag->Int->Prop)(acc:Row ag):Prop where
 nd:(acc.map (·.1)).Nodup
 of:∀s x,aC acc s=some x->XN s x.1
 met:∀s q,XN s q->∃x,aC acc s=some x/\x.1<=q
theorem Cq{α β:Type}{f:α->β}(hf:∀a b,f a=f b->a=b):∀{l m:List α},l.map f=m.map f->l=m
 |[],[],_=>rfl
 |[],_::_,h=>by cases h
 |_::_,[],h=>by cases h
 |x::l,y::m,h=>by
  rw[xu,xu]at h;injection h with h1 h2;rw[hf _ _ h1,Cq hf h2]
theorem GO{α β:Type}{f:β->α}:∀{l:List α},(∀x∈l,∃z,x=f z)->∃m:List β,l=m.map f
 |[],_=>⟨[],rfl⟩
 |x::l,h=>by
  obtain⟨z,e⟩:=h x yu;obtain⟨m,e2⟩:=GO λy hy=>h y (yr _ hy);exact⟨z::m,by rw[e,e2];rfl⟩
theorem jl9{H:Hp}{Q:VK}{p:Addr}{o:Obj}{u:HO}{af:List (KU×V)}{g:Gm}{ks:List ag}(h:H p=some (.frz o u))(du:DU u g.T af)(hk:af.map (·.1)=ks.map fb)(nd:ks.Nodup)(hP:∀s∈ks,g.ok 31 s)(ne:∀s∈ks,s≠.l []/\s≠.t [])(hn:ks.length<64)
  (q:∀l zs ss H',H l=none->H' l=some (.lst zs)->ao (ag.at_ H') ss zs->ss.Perm ks->ss.Pairwise pB->al H H'->Q (.ref l) H'):B3 [.ref p] H Q:=by
 have lk:af.length=ks.length:=by have:=congrArg Sk hk;simpa using this
 have I:g.T=false->(∀s∈ks,∃z,s=.i z)->B3 [.ref p] H Q:=λgt hi=>by
  rw[gt]at du;obtain⟨ns,rfl⟩:=GO hi;cases du with
  |k kv=>
   have e1:kv.map (·.1)=ns.map fU:=Cq (f:=(fU:Key->KU)) NT (by
    rw[eD,v8,v8]at hk;rw[v8,v8];exact hk)
   refine .inl (jkg h e1 (by rw[eD,y3]at lk;omega) λl ms H' nl pm pw ql e=>q l _ (ms.map .i) H' nl ql (Ce ms) (pm.map _) ?_ e);have GJ:=(pm.map ag.i).nodup_iff.mpr nd;rw[Qi,vh]at GJ;rw[vh];refine(GJ.and pw).imp λ{a b} ⟨n,k⟩=>?_;show a<b;have n':a≠b:=λz=>n (by rw[z]);omega
 have L:g.T=true->(∀s∈ks,∃z,s=.l z)->B3 [.ref p] H Q:=λgt hi=>by
  rw[gt]at du;obtain⟨ns,rfl⟩:=GO hi;cases du with
  |t kv=>
   have e1:kv.map (·.1)=ns.map nF:=Cq (f:=(ij:List Key->KU)) Jw (by
    rw[eD,v8,v8]at hk;rw[v8,v8];exact hk)
   have bO:∀M∈ns,M≠[]:=λM hM z=>(ne (.l M) (yk.mpr ⟨M,hM,rfl⟩)).1 (by rw[z]);refine .inr (uN (c:=false) h (λL hL=>by rw[e1]at hL;obtain⟨M,hM,rfl⟩:=yk.mp hL;exact⟨M,rfl,bO M hM⟩) (by rw[eD,y3]at lk;omega) λl bo fD H' nl ql rl pm pw e=>?_);rw[e1]at pm;have Qs:=pm.nodup_iff.mpr (Qh (λa b=>FQ) (y9n ag.l (λa b z e=>z (by rw[e])) nd));obtain⟨Ms,rfl,h1,h2⟩:=W8 rl Qs pw λL hL=>by obtain⟨M,_,z⟩:=yk.mp (pm.mem_iff.mp hL);exact⟨M,z.symm,trivial⟩
   exact q l bo (Ms.map .l) H' nl ql h1 ((Ge (S:=λ_=>True) (λ_ _=>FQ) (λ_ _=>trivial) (λ_ _=>trivial) pm).map _) h2 e
 have T:g.T=true->(∀s∈ks,∃z,s=.t z)->B3 [.ref p] H Q:=λgt hi=>by
  rw[gt]at du;obtain⟨ns,rfl⟩:=GO hi;have bO:∀M∈ns,M≠[]:=λM hM z=>(ne (.t M) (yk.mpr ⟨M,hM,rfl⟩)).2 (by rw[z]);have eW:af.map (·.1)=ns.map λM=>(ij (kE M):KU):=by
   rw[hk,v8];refine NS λM hM=>?_;cases M with
   |nil=>exact absurd rfl (bO _ hM)
   |cons x r=>rfl
  cases du with
  |t kv=>
   have e1:kv.map (·.1)=ns.map kE:=Cq (f:=(ij:List Key->KU)) Jw (by
    rw[eD,v8]at eW;rw[v8,v8];exact eW)
   refine .inr (uN (c:=true) h (λL hL=>by rw[e1]at hL;obtain⟨M,hM,rfl⟩:=yk.mp hL;exact⟨M,rfl,bO M hM⟩) (by rw[eD,y3]at lk;omega) λl bo fD H' nl ql rl pm pw e=>?_);rw[e1]at pm;have Qs:=pm.nodup_iff.mpr (Qh (λa b=>FR) (y9n ag.t (λa b z e=>z (by rw[e])) nd));obtain⟨Ms,rfl,h1,h2⟩:=W9 rl Qs pw λL hL=>by obtain⟨M,_,z⟩:=yk.mp (pm.mem_iff.mp hL);exact⟨M,z.symm,trivial⟩
   exact q l bo (Ms.map .t) H' nl ql h1 ((Ge (S:=λ_=>True) (λ_ _=>FR) (λ_ _=>trivial) (λ_ _=>trivial) pm).map _) h2 e
 have ok:=g.one 31;cases g with
 |hire W=>exact I rfl λs hs=>by rcases hP s hs with z|z<;>exact⟨_,z⟩
 |line m=>exact L rfl λs hs=>by obtain⟨z,e,_⟩:=hP s hs;exact⟨z,e⟩
 |shelf m=>exact T rfl λs hs=>by obtain⟨z,e,_⟩:=hP s hs;exact⟨z,e⟩
 |wys m t=>exact I rfl λs hs=>by obtain⟨z,e,_⟩:=hP s hs;exact⟨z,e⟩
 |store m=>exact T rfl λs hs=>by obtain⟨z,e,_⟩:=hP s hs;exact⟨z,e⟩
 |bags m=>exact L rfl λs hs=>by obtain⟨z,e,_⟩:=hP s hs;exact⟨z,e⟩
theorem AG{g:Gm}{n:Nat}{b s:ag}{w:aw}(wf:g.wf)(hb:g.ok n b)(hw:g.okW w)(h:g.dst b w s):s≠.l []:=by
 rintro rfl;cases g with
 |hire W=>rcases h with h|h<;>cases h
 |wys m t=>obtain⟨z,h,_⟩:=h;cases h
 |shelf ts=>obtain⟨ss,rfl,_⟩:=hb;obtain⟨z,h,_⟩:=h;cases h
 |store m=>obtain⟨ss,rfl,_⟩:=hb;obtain⟨x,rfl,_⟩:=hw;obtain⟨z,h,_⟩:=h;cases h
 |line m=>
  obtain⟨z,rfl⟩:=hw;obtain⟨ns,rfl,hl⟩:=hb;have w1:=wf.1;obtain⟨L,e,⟨_,e2⟩|⟨_,k,hk,hs⟩⟩:=h
  ·injection e with e;rw[<- e2,<- e]at hl;simp at hl;omega
  ·injection e with e;have:=hs.len hk;rw[<- e]at this;simp at this;omega
 |bags R=>
  obtain⟨z,rfl,_⟩:=hw;obtain⟨ns,rfl,_⟩:=hb;obtain⟨L,pr,e,_,⟨_,pm⟩|⟨_,k,hk,_,pm⟩⟩:=h
  ·injection e with e;rw[<- e]at pm;have:=pm.length_eq;simp at this
  ·injection e with e;rw[<- e]at pm;have:=pm.length_eq;simp at this;omega
def jz(P:ag->Int->Prop):Prop:=∃ps,eZ ps/\∀s c,(s,c)∈ps↔P s c
noncomputable def gU(P:ag->Int->Prop):List (ag×Int):=@dite _ (jz P) (Wl _) (λh=>h.choose) λ_=>[]
theorem Qt{P:ag->Int->Prop}(h:jz P):eZ (gU P)/\∀s c,(s,c)∈gU P↔P s c:=by
 unfold gU;rw[dif_pos h];exact h.choose_spec
theorem J5{P:ag->Int->Prop}{ps:List (ag×Int)}(r:eZ ps)(h:∀s c,(s,c)∈ps↔P s c):gU P=ps:=by
 obtain⟨k1,k2⟩:=Qt ⟨ps,r,h⟩;exact k1.uniq r λs c=>by rw[k2,h]
theorem Qu{P:ag->Int->Prop}{s:ag}(h:(s,c)∈gU P):P s c:=by
 by_cases k:jz P
 ·exact((Qt k).2 s c).mp h
 ·unfold gU at h;rw[dif_neg k]at h;cases h
noncomputable def dB(g:Gm)(w:aw)(b:ag):List (ag×Int):=gU (g.to b w)
def nR(st:ag):Row ag:=[(st,0,none)]
noncomputable def bM(g:Gm)(st:ag)(ws:List aw):List (Row ag):=aM (nR st) (ws.map (dB g))
theorem rh(g:Gm)(st:ag)(ws:List aw):(bM g st ws).length=ws.length+1:=by rw[bM,Cm,y3]
theorem Qv(g:Gm)(st:ag)(ws:List aw)(x:aw):bM g st (ws++[x])=bM g st ws++[dJ (dB g x) (cO (nR st) (bM g st ws))]:=by
 unfold bM;rw[xk];exact Qo _ _ _
theorem XO{g:Gm}{w:aw}{r r0 done:Row ag}(h:dS (dB g w) r0 done r){L:List ag}(hL:∀e∈r0,∀s,g.dst e.1 w s->s∈L):r.length<=L.length:=by
 have:=Gv h.nd (m:=L) λs hs=>by
  obtain⟨x,hx⟩:=Ck hs;obtain⟨e,m,he,hm,rfl,_⟩:=h.of s x hx;exact hL e he _ (Qu (P:=g.to e.1 w) hm).1
 simpa using this
def pF(g:Gm)(st:ag)(ws:List aw):Prop:=g.wf/\g.ok 4 st/\(∀w∈ws,g.okW w)/\ws.length<=500/\(ws.length<=12\/∀R,g≠.bags R)
theorem jw.long{g:Gm}{st:ag}{ws:List aw}(h:jw g st ws):pF g st ws:=⟨h.1,h.2.1,h.2.2.1,by have:=h.2.2.2;omega,.inl h.2.2.2⟩
theorem Rc.okL{g:Gm}{st s:ag}{ws us:List aw}(r:Rc g st us s)(h:pF g st ws)(nd:g.nd st)(hu:∀w∈us,w∈ws)(lu:us.length<=ws.length):g.ok 30 s/\g.nd s:=by
 obtain⟨h1,h2⟩:=r.ok h.2.1 nd λy hy=>h.2.2.1 y (hu y hy);refine⟨?_,h2⟩;rcases h.2.2.2.2 with l|k
 ·exact Gm.ok_mono h1 (by omega)
 ·cases g with
  |bags R=>exact absurd rfl (k R)
  |_=>exact h1
theorem GP{g:Gm}{st:ag}{ws:List aw}(j:Nat)(hj:j<=ws.length):(((bM g st ws).getD j []).map (·.1)).Nodup:=jes (r0:=nR st) (J6 _ _) (mvs:=ws.map (dB g)) j (by rw[y3];exact hj)
theorem XQ{g:Gm}{st:ag}{ws:List aw}{w:aw}(e:ws[j]?=some w):(bM g st ws).getD (j+1) []=dJ (dB g w) ((bM g st ws).getD j []):=by
 have hj:=(xl.mp e).1;rw[bM,GD _ _ _ (by rw[y3];exact hj)];congr 1;rw[y8,xh,e];rfl
theorem Qw{ws:List aw}{w:aw}(e:ws[j]?=some w):ws.take (j+1)=ws.take j++[w]:=by rw[gc,e];rfl
theorem AH{g:Gm}{st:ag}{ws:List aw}:∀j,j<=ws.length->∀e∈(bM g st ws).getD j [],Rc g st (ws.take j) e.1
 |0,_,e,he=>by
  rw[bM,J3]at he;rw[y9.mp he];exact .nil
 |j+1,h,e,he=>by
  have ew:ws[j]?=some (ws[j]'h):=y4 h;have ge:=Cj (GP (j+1) h) he;rw[XQ ew]at ge;obtain⟨e',m,zB,hm,hs,_⟩:=(rg _ _).of _ _ ge;rw[Qw ew,<- hs];exact .snoc (AH j (by omega) e' zB) (Qu (P:=g.to e'.1 (ws[j]'h)) hm).1
theorem jev{g:Gm}{st:ag}{ws:List aw}{rs:List (Row ag)}{r:Row ag}(h:bM g st ws=rs++[r]):rs.length=ws.length/\(bM g st ws).getD ws.length []=r:=by
 have l:=rh g st ws;rw[h,xi,uj]at l;have l':rs.length=ws.length:=by omega
 refine⟨l',?_⟩;rw[h,y8,<- l',va (yg _),zn];rfl
def kM(g:Gm)(st:ag)(ws:List aw):Prop:=∀(j:Nat) w,ws[j]?=some w->∀e∈(bM g st ws).getD j [],jz (g.to e.1 w)
theorem kM.snoc{g:Gm}{st:ag}{ws:List aw}{x:aw}(h:kM g st ws)(k:∀e∈(bM g st ws).getD ws.length [],jz (g.to e.1 x)):kM g st (ws++[x]):=λj w ew e he=>by
 have lr:=rh g st ws;by_cases c:j<ws.length
 ·rw[gz c]at ew;rw[Qv,y8,gz (by omega),<- y8]at he;exact h j w ew e he
 ·obtain rfl:j=ws.length:=by have:=(xl.mp ew).1;simp at this;omega
  rw[va (yg _),zn]at ew;cases(vm ew:x=w);rw[Qv,y8,gz (by omega),<- y8]at he;exact k e he
theorem GQ{g:Gm}{n:Nat}{b:ag}{w:aw}(wf:g.wf)(hb:g.ok n b)(hw:g.okW w):∃s c,g.to b w s c:=by
 cases g with
 |hire W=>
  obtain⟨z,rfl⟩:=hw;rcases hb with rfl|rfl
  ·exact⟨.i 1,W,.inr rfl,rfl⟩
  ·exact⟨.i 1,0,.inr rfl,rfl⟩
 |line m=>
  obtain⟨s,h⟩:∃s,(Gm.line m).dst b w s:=by
   obtain⟨z,rfl⟩:=hw;obtain⟨ns,rfl,hl⟩:=hb;by_cases hz:z∈ns
   ·exact⟨.l ns,ns,rfl,.inl ⟨hz,rfl⟩⟩
   ·exact⟨_,_,rfl,.inr ⟨hz,0,by have:=wf.1;omega,Ax _,Gy _⟩⟩
  obtain⟨c,h⟩:=(lP hb hw λW z=>nomatch z).mpr h;exact⟨s,c,h⟩
 |shelf ts=>
  obtain⟨s,h⟩:∃s,(Gm.shelf ts).dst b w s:=by
   obtain⟨ss,rfl,hl⟩:=hb;exact⟨_,ss,rfl,kz _⟩
  obtain⟨c,h⟩:=(lP hb hw λW z=>nomatch z).mpr h;exact⟨s,c,h⟩
 |wys m t=>
  obtain⟨c,h⟩:=(lP (s:=.i 0) hb hw λW z=>nomatch z).mpr ⟨0,rfl,by omega,by have:=wf.1;omega⟩;exact⟨_,c,h⟩
 |store m=>
  obtain⟨s,h⟩:∃s,(Gm.store m).dst b w s:=by
   obtain⟨x,rfl,_⟩:=hw;obtain⟨ss,rfl,hl,_⟩:=hb;by_cases hz:x∈ss
   ·exact⟨.t ss,ss,rfl,.inl ⟨hz,rfl⟩⟩
   ·obtain⟨s1,s2⟩:=Xh (ss.filter (λt=>!decide (t=ss[0]'(by have:=wf.1;omega)))++[x]);exact⟨_,_,rfl,.inr ⟨hz,ss[0]'(by have:=wf.1;omega),ua _,s1,s2⟩⟩
  obtain⟨c,h⟩:=(lP hb hw λW z=>nomatch z).mpr h;exact⟨s,c,h⟩
 |bags R=>
  obtain⟨s,h⟩:∃s,(Gm.bags R).dst b w s:=by
   obtain⟨x,rfl,_⟩:=hw;obtain⟨ss,rfl,_⟩:=hb;exact⟨_,_,1,rfl,Gy (ss++[x]),.inl ⟨rfl,Ax _⟩⟩
  obtain⟨c,h⟩:=(lP hb hw λW z=>nomatch z).mpr h;exact⟨s,c,h⟩
theorem XR{g:Gm}{st:ag}{ws:List aw}(h:kM g st ws)(gl:pF g st ws)(nd:g.nd st):∀j,j<=ws.length->(bM g st ws).getD j []≠[]
 |0,_=>by rw[bM,J3];exact λz=>nomatch z
 |j+1,hj=>by
  have ew:ws[j]?=some (ws[j]'hj):=y4 hj;rw[XQ ew];refine jh4 (XR h gl nd j (by omega)) λs hs=>?_;obtain⟨e,he,rfl⟩:=yk.mp hs;obtain⟨ok,_⟩:=(AH j (by omega) e he).okL gl nd (λw hw=>gm hw) (by rw[yp];omega);obtain⟨s,c,AI⟩:=GQ gl.1 ok (gl.2.2.1 _ (vg ew));have:=((Qt (h j _ ew e he)).2 s c).mpr AI;intro z;rw[show dB g (ws[j]'hj) e.1=gU (g.to e.1 (ws[j]'hj))from rfl]at z;rw[z]at this;cases this
theorem Qx{g:Gm}{st:ag}{ws:List aw}(gl:pF g st ws)(f:rb g st ws)(hj:j<=ws.length):((bM g st ws).getD j []).length<=60:=by
 obtain⟨L,XS,hL⟩:=Xq (ws:=ws.take j) (us:=ws.drop j) gl.1 gl.2.1 (by rw[vz];exact gl.2.2.1) (by rw[vz];exact f);have:=Gv (GP (g:=g) (st:=st) j hj) (m:=L) λs hs=>by
  obtain⟨e,he,rfl⟩:=yk.mp hs;exact hL _ (AH j hj e he)
 rw[y3]at this;omega
noncomputable def gW(r:Row ag):List (ag×Int):=gU λs c=>∃b,(s,c,b)∈r
theorem Told.is{r:Row ag}{ps:List (ag×Int)}(h:Told r ps):gW r=ps:=J5 h.1 h.2
theorem jla(xs:List V)(h:1<=xs.length):aQ xs (some 1) none=xs.drop 1:=by
 unfold aQ HT.sIx;dsimp only;rw[if_neg (by decide),show min (1:Int).toNat xs.length=1 by show min 1 xs.length=1;omega];exact xq (by rw[ve];exact yg _)
theorem XT{α:Type}{xs:List α}{v:α}(h:0<xs.length)(e:xs[xs.length-1]?=some v):dP xs (-1)=some v:=by
 have:j8 xs.length (-1)=some (xs.length-1):=by
  unfold j8;rw[if_neg (by decide),if_pos (by omega)];congr 1;omega
 unfold dP;rw[this];exact e
theorem ao.rev{α:Type}{f:α->V->Prop}:∀{as:List α}{vs:List V},ao f as vs->ao f as.reverse vs.reverse
 |[],[],_=>trivial
 |_::_,_::_,⟨h1,h⟩=>by rw[HX,HX];exact ao.snoc h1 (ao.rev h)
 |[],_::_,h=>h.elim
 |_::_,[],h=>h.elim
def nU(ps:List (ag×Int))(i:Nat):Int:=(ps.getD i (.i 0,0)).2
def J7(ps:List (ag×Int)):ag×Int:=ps.getD (gQ (tQ (nU ps)) (ps.length-1)) (.i 0,0)
noncomputable def nV(g:Gm)(st:ag)(ws:List aw):Row ag:=(bM g st ws).getD ws.length []
structure eN(g:Gm)(st:ag)(ws:List aw)(c:Int)(Ys:List ag):Prop where
 way:cX st (ws.map (dB g)) Ys c
 has:∃e∈nV g st ws,e.2.1=c
 low:∀e∈nV g st ws,c<=e.2.1
 one:c=(J7 (gW (nV g st ws))).2/\Ys=(lO ((bM g st ws).drop 1).reverse (J7 (gW (nV g st ws))).1).reverse
theorem XU(g:Gm)(st:ag)(ws:List aw):cO [] (bM g st ws)=nV g st ws:=XF [] _ _ (rh g st ws)
theorem eN.min{g:Gm}{st:ag}{ws:List aw}{Ys:List ag}(h:eN g st ws c Ys)(Zs:List ag)(q:Int)(w:cX st (ws.map (dB g)) Zs q):c<=q:=by
 obtain⟨y,y1,y2⟩:=Xy w (r:=nR st) (J6 _ _) (lN rfl);have e:cO (nR st) (aM (nR st) (ws.map (dB g)))=nV g st ws:=by rw[<- XU,bM];cases ws.map (dB g)<;>rfl
 rw[e]at y1;have:=h.low _ (AA y1);have y2':y.1<=(0:Int)+q:=y2;have:c<=y.1:=this;omega
theorem eN.uniq{g:Gm}{st:ag}{ws:List aw}{c':Int}{Ys cV:List ag}(h:eN g st ws c Ys)(k:eN g st ws c' cV):c=c'/\Ys=cV:=⟨h.one.1.trans k.one.1.symm,h.one.2.trans k.one.2.symm⟩
theorem Gm.kdT{g:Gm}{n:Nat}{x:List Int}(h:g.ok n (.l x)):g.T=true:=by
 cases g with
 |hire W=>rcases h with h|h<;>cases h
 |wys m t=>obtain⟨z,h,_⟩:=h;cases h
 |_=>rfl
theorem jlb{H:Hp}{Q:VK}{p:Addr}{o:Obj}{u:HO}{af:List (KU×V)}{g:Gm}{ks:List ag}(h:H p=some (.frz o u))(du:DU u g.T af)(hk:af.map (·.1)=ks.map fb)(nd:ks.Nodup)(hP:∀s∈ks,g.ok 31 s)(ne:(∀s∈ks,s≠.l []/\s≠.t [])\/ks=[.l []])(hn:ks.length<64)
  (q:∀l zs ss H',H l=none->H' l=some (.lst zs)->ao (ag.at_ H') ss zs->ss.Perm ks->ss.Pairwise pB->al H H'->Q (.ref l) H'):B3 [.ref p] H Q:=by
 rcases ne with ne|rfl
 ·exact jl9 h du hk nd hP ne hn q
 ·have ht:g.T=true:=Gm.kdT (hP _ (y9.mpr rfl));rw[ht]at du;cases du with
  |t kv=>
   obtain⟨v,rfl⟩:∃v,kv=[([],v)]:=by
    match kv,hk with
    |[(x1,x2)],hk=>injection hk with h1 _;injection h1 with h1;exact⟨x2,by rw[show x1=[] from h1]⟩
   refine .inr (uI (kd:=λ_=>.i) (Ys:=[[]]) h (.cons trivial .nil) (λz=>absurd z (by decide)) (by show(1:Nat)<64;decide) λl bo cV H' nl ql r' pm pw e=>?_);have:=List.perm_singleton.mp pm;subst this
   match bo,r' with
   |[v'],.cons ⟨a,us,e1,ha,im⟩ .nil=>
    match us,im with
    |[],_=>exact q l _ [.l []] H' nl ql ⟨⟨a,e1,e _ _ ha⟩,trivial⟩ (kz _) (J6 _ _) e
theorem iK.mono{H H':Hp}(k:∀b o u,H b=some (.frz o u)->H' b=some (.frz o u))(e:TK H H'){g:Gm}{r:Row ag}{v:V}(h:iK H g r v):iK H' g r v:=let ⟨d,h1,h2⟩:=h;⟨d,h1,h2.mono k e⟩
def XV:Sp:=λvs H Q _=>∃x k,vs=[x]/\cM H x k/\Q (.bl (k == .int)) H
theorem XW(T:Txt K mg a):FnOk P w K mg base (CXU P w) 1 a.f40 a.d40 ["_law_found"] (XV):=by
 refine T.F40.okU1 Pg λvs H Q E h=>?_;unfold XV at h;refine aO 4 h ?_;clear h;rintro x k rfl hk hq;refine⟨rfl,λ_ _ _ _ hr=>⟨_,(ay (aK (rP (aV lc (by rfl) T.c7 gp (ae (pv 0) (ae (kW (v:=V.ty "int") (by rfl) T.n_int XX rfl) aj))) (A9 (vT (aV lc (by rfl) T.c7 gp (ae (pv 0) (ae (kW (v:=V.ty "bool") (by rfl) T.qw XY rfl) aj)))))))),?_⟩⟩;exists En hk ?_;cases k<;>(symm)<;>first|exact hq|(refine Bw hk ?_;(symm);exact hq)
def GR(n:Nat):Sp:=λvs H Q _=>∃x y d1 d2,vs=[x,y]/\aR H d1 x/\aR H d2 y/\d2.fine=true/\d2.depth<=n/\∀b H',(b=true↔d1=d2)->al H H'->Q (.bl b) H'
def Qy(n:Nat):Sp:=λvs H Q _=>∃p q xs ys ds es,vs=[.ref p,.ref q]/\H p=some (.lst xs)/\H q=some (.lst ys)/\aE H ds xs/\aE H es ys/\D.fineL es=true/\D.depthL es<=n/\xs.length=ys.length/\
 ∀b H',(b=true↔ds=es)->al H H'->Q (.bl b) H'
theorem jbs{n k:Nat}(T:Txt K mg a)(G:FnOk P w K mg base (CXU P w) k a.f44 a.d44 ["_law_found","_law_due"] (GR n)):
  FnOk P w K mg base (CXU P w) (k+1) a.f_z2 a.d_z2 ["_law_found","_law_due"] (Qy n):=by
 refine T.F2.okU Ph (λvs H Q E h=>?_) (λbj A outer s H vs Q E hr h=>?_)
 ·obtain⟨p,q,xs,ys,ds,es,rfl,_⟩:=h;rfl
 ·obtain⟨p,q,xs,ys,ds,es,rfl,hp,bS,hd,he,hf,hn,hl,hq⟩:=h;refine⟨_,(ax (ik u8 rfl (Mm rfl T.n_zip (ae (pv 0) (ae (pv 1) aj))) (CY rfl (oA (bK (i:=2) Ph.nd rfl (by nofun)) (oA (bK (i:=3) Ph.nd rfl (by nofun)) CW))) (ay (bw (A8 (mH (Bi (G) hr (by rfl) T.F44.m T.F44.kp (T.F44.b2) .nil cT (ae (pv 2) (ae (pv 3) aj))) (λ_=>rfl))) (ay (aK vR)) bA)))
   (ay (aK vR))),?_⟩
  have l1:=hd.length;have l2:=he.length;exists⟨p,q,xs,ys,false,false,rfl,SqL.of hp,SqL.of bS,jjf (λi σ H2=>(∃u v,σ=[some (.ref p),some (.ref q),u,v])/\al H H2/\ds.take i=es.take i) hl ⟨⟨none,none,rfl⟩,al.rfl',rfl⟩ (λi σ H2 _ ⟨_,e,_⟩=>⟨SqL.of (e _ _ hp),SqL.of (e _ _ bS)⟩) ?_ ?_⟩
  ·rintro i x y σ H2 r hx hy ⟨⟨u,v,rfl⟩,e,ht⟩ ia;obtain⟨d,d1,d2⟩:=hd.get hx;obtain⟨f,f1,f2⟩:=he.get hy;refine Tu bi rfl ?_;symm;have e2:al H (aH H2 r (.tup [x,y])):=e.tr (dG ia);refine⟨x,y,d,f,rfl,d2.mono e2,f2.mono e2,Tl hf f1,Tn hn f1,λb H3 hb e3=>?_⟩;symm;cases b with
   |true=>
    exists⟨⟨_,_,rfl⟩,e2.tr e3,?_⟩;rw[gc,gc,d1,f1,ht,hb.mp rfl]
   |false=>
    exists hq false H3 ⟨λz=>L3 z,λz=>?_⟩ (e2.tr e3);subst z;rw[d1]at f1;cases f1;exact hb.mpr rfl
  ·rintro σ H2 ⟨⟨u,v,rfl⟩,e,ht⟩;exists hq true H2 ⟨λ_=>?_,λ_=>rfl⟩ e;rw[xq (by omega),xq (by omega)]at ht;exact ht
theorem XZ{n k:Nat}{spA:Sp}(T:Txt K mg a)(hA:∀vs H Q E,(∃m,n=m+1/\Qy m vs H Q E)->spA vs H Q E)(GA:FnOk P w K mg base (CXU P w) (k+1) a.f_z2 a.d_z2 ["_law_found","_law_due"] spA):
  FnOk P w K mg base (CXU P w) (k+2) a.f44 a.d44 ["_law_found","_law_due"] (GR n):=by
 refine T.F44.okU Pf (λvs H Q E h=>?_) (λbj A outer s H vs Q E hr h=>?_)
 ·obtain⟨x,y,d1,d2,rfl,_⟩:=h;rfl
 ·obtain⟨x,y,d1,d2,rfl,h1,h2,hf,hn,hq⟩:=h;refine⟨_,(ax (bw (mH (aV lc (by rfl) T.c7 gp (ae (pv 1) (ae (kW (v:=V.ty "tuple") (by rfl) T.dh xw rfl) aj))) (λ_=>rfl)) (ay (aK (rP (aV lc (by rfl) T.c7 gp (ae (pv 0) (ae (kW (v:=V.ty "tuple") (by rfl) T.dh xw rfl) aj))) (rP (rW (bW hr) (aV cU (by rfl) T.cr xt (ae (pv 0) aj)) (aV cU (by rfl) T.cr xt (ae (pv 1) aj)) (bd _)) (A9 (Bi (GA) (hr.mono (by omega)) (by rfl) T.F2.m T.F2.kp (T.F2.b2) .nil cT (ae (eS sK (by rfl) T.mx vj (ae (pv 0) aj)) (ae (eS sK (by rfl) T.mx vj (ae (pv 1) aj)) aj)))))))) bA)
   (ax (bw (mH (aV lc (by rfl) T.c7 gp (ae (pv 1) (ae (kW (v:=V.ty "list") (by rfl) T.mx vj rfl) aj))) (λ_=>rfl)) (ay (aK (rP (aV lc (by rfl) T.c7 gp (ae (pv 0) (ae (kW (v:=V.ty "list") (by rfl) T.mx vj rfl) aj))) (rP (rW (bW hr) (aV cU (by rfl) T.cr xt (ae (pv 0) aj)) (aV cU (by rfl) T.cr xt (ae (pv 1) aj)) (bd _)) (A9 (Bi (GA) (hr.mono (by omega)) (by rfl) T.F2.m T.F2.kp (T.F2.b2) .nil cT (ae (pv 0) (ae (pv 1) aj)))))))) bA)
   (ax (bw (mH (aV lc (by rfl) T.c7 gp (ae (pv 1) (ae (kW (v:=V.ty "bool") (by rfl) T.qw XY rfl) aj))) (λ_=>rfl)) (ay (aK (rP (aV lc (by rfl) T.c7 gp (ae (pv 0) (ae (kW (v:=V.ty "bool") (by rfl) T.qw XY rfl) aj))) (A9 (rW (bW hr) (pv 0) (pv 1) (bd _)))))) bA)
   (ax (bw (ba DT (pv 1) jE (bd _)) (ay (aK (rW DT (pv 0) jE (bd _)))) bA)
   (ax (bw (mH (aV lc (by rfl) T.c7 gp (ae (pv 1) (ae (kW (v:=V.ty "str") (by rfl) T.n_str y94 rfl) aj))) (λ_=>rfl)) (ay (aK (rP (aV lc (by rfl) T.c7 gp (ae (pv 0) (ae (kW (v:=V.ty "str") (by rfl) T.n_str y94 rfl) aj))) (A9 (rW (bW hr) (pv 0) (pv 1) (bd _)))))) bA)
   (ay (aK (rP (Bi (XW T) (hr.mono (by omega)) (by rfl) T.F40.m T.F40.kp (T.F40.b1) .nil cT (ae (pv 0) aj)) (A9 (rW (bW hr) (pv 0) (pv 1) (bd _))))))))))),?_⟩
  have k1:=h1.kd;have k2:=h2.kd;have no:∀{B:Prop},¬ B->(false=true↔B):=λnb=>⟨λz=>L3 z,λz=>(nb z).elim⟩
  exists LV k2 ?_;cases d2 with
  |tup es=>
   exists LV k1 ?_;cases d1 with
   |tup ds=>
    obtain⟨p,xs,rfl,hp,hd⟩:=h1;obtain⟨q,ys,rfl,bS,he⟩:=h2;exists hZ hp ?_;exists hZ bS ?_;exists bg (λhl=>?_) (λhl=>?_)
    ·exists Ep hp λp2 H2 n2 iz e2=>?_;exists Ep (e2 _ _ bS) λq2 H3 n3 hq3 e3=>?_;symm;have vN:D.depthL es+1<=n:=hn;refine hA _ _ _ _ ⟨n-1,by omega,p2,q2,xs,ys,ds,es,rfl,e3 _ _ iz,hq3,hd.mono (e2.tr e3),he.mono (e2.tr e3),hf,by omega,by omega,λb H4 hb e4=>?_⟩;exact hq b H4 (hb.trans ⟨λz=>by rw[z],λz=>by cases z;rfl⟩) ((e2.tr e3).tr e4)
    ·exists hq false H (no λz=>hl ?_) al.rfl';cases z;have l1:=hd.length;have l2:=he.length;omega
   |_=>
    symm;exact hq false H (no λz=>by cases z) al.rfl'
  |lst es=>
   exists xW k2 ?_;exists xW k1 ?_;cases d1 with
   |lst ds=>
    obtain⟨p,xs,rfl,hp,hd⟩:=h1;obtain⟨q,ys,rfl,bS,he⟩:=h2;exists jl hp ?_;exists jl bS ?_;exists bg (λhl=>?_) (λhl=>?_)
    ·symm;have vN:D.depthL es+1<=n:=hn;refine hA _ _ _ _ ⟨n-1,by omega,p,q,xs,ys,ds,es,rfl,hp,bS,hd,he,hf,by omega,by omega,λb H4 hb e4=>?_⟩;exact hq b H4 (hb.trans ⟨λz=>by rw[z],λz=>by cases z;rfl⟩) e4
    ·exists hq false H (no λz=>hl ?_) al.rfl';cases z;have l1:=hd.length;have l2:=he.length;omega
   |_=>
    symm;exact hq false H (no λz=>by cases z) al.rfl'
  |bl c=>
   cases(show y=.bl c from h2);exists xW k2 ?_;exists Bw k2 ?_;exists Bw k1 ?_;cases d1 with
   |bl c1=>
    cases(show x=.bl c1 from h1);exists yN (hq _ H ?_ al.rfl');rw[decide_eq_true_iff];exact⟨λz=>by rw[z],λz=>by cases z;rfl⟩
   |_=>
    symm;exact hq false H (no λz=>by cases z) al.rfl'
  |non=>
   cases(show y=.non from h2);exists xW k2 ?_;exists Bw k2 ?_;exists hq _ H ?_ al.rfl';rw[decide_eq_true_iff];cases d1 with
   |non=>exact⟨λ_=>rfl,λ_=>h1⟩
   |bl c1=>cases(show x=.bl c1 from h1);exact⟨λz=>(by cases z),λz=>(by cases z)⟩
   |int c1=>cases(show x=.int c1 from h1);exact⟨λz=>(by cases z),λz=>(by cases z)⟩
   |str c1=>cases(show x=.str c1 from h1);exact⟨λz=>(by cases z),λz=>(by cases z)⟩
   |tup c1=>obtain⟨_,_,rfl,_⟩:=h1;exact⟨λz=>(by cases z),λz=>(by cases z)⟩
   |lst c1=>obtain⟨_,_,rfl,_⟩:=h1;exact⟨λz=>(by cases z),λz=>(by cases z)⟩
   |dct=>obtain⟨_,_,rfl,_⟩:=h1;exact⟨λz=>(by cases z),λz=>(by cases z)⟩
  |str c=>
   cases(show y=.str c from h2);exists xW k2 ?_;exists Bw k2 ?_;exists LU k2 ?_;exists LU k1 ?_;cases d1 with
   |str c1=>
    cases(show x=.str c1 from h1);exists yO (hq _ H ?_ al.rfl');rw[decide_eq_true_iff];exact⟨λz=>by rw[z],λz=>by cases z;rfl⟩
   |_=>
    symm;exact hq false H (no λz=>by cases z) al.rfl'
  |int c=>
   cases(show y=.int c from h2);exists xW k2 ?_;exists Bw k2 ?_;exists LU k2 ?_;exists⟨x,_,rfl,k1,?_⟩;cases d1 with
   |int c1=>
    cases(show x=.int c1 from h1);exists hq _ H ?_ al.rfl';rw[decide_eq_true_iff];exact⟨λz=>by rw[z],λz=>by cases z;rfl⟩
   |_=>
    symm;exact hq false H (no λz=>by cases z) al.rfl'
  |dct=>cases hf
theorem X0(T:Txt K mg a):∀n:Nat,FnOk P w K mg base (CXU P w) (2*n+2) a.f44 a.d44 ["_law_found","_law_due"] (GR n)
 |0=>XZ (k:=0) (spA:=λ_ _ _ _=>False) T (λ_ _ _ _ ⟨m,e,_⟩=>by omega) FnOk.no
 |n+1=>by
  have G:=jbs T (X0 T n);have z:=XZ (n:=n+1) (k:=2*n+2) (spA:=Qy n) T (λ_ _ _ _ ⟨m,e,h⟩=>by cases e;exact h) G;exact z
theorem Qz(T:Txt K mg a):FnOk P w K mg base (CXU P w) 12 a.f44 a.d44 ["_law_found","_law_due"] (GR 5):=X0 T 5
theorem X1{x y:V}{d:D}{Q:VK}{E:XK}(h1:aR H d x)(h2:aR H d y)(hf:d.fine=true)(hd:Im d.depth 5=true)(hq:∀H',al H H'->Q (.bl true) H'):GR 5 [x,y] H Q E:=
 ⟨x,y,d,d,rfl,h1,h2,hf,LR hd,λb H' hb e=>by rw[hb.mpr rfl];exact hq H' e⟩
def X2(a:Adr):Sp:=λvs H Q _=>∃(w dw p:Addr) (cs:List Int) (n b f t:Int),vs=[.ref w,.int b,.ref p,.int f]/\H w=some (.ins a.cu dw [("many",.int n),("toll",.int t)])/\H p=some (.tup (cs.map V.int))/\0<=f/\f<cs.length/\Q (.int (if f=b then cs.getD f.toNat 0 else cs.getD f.toNat 0+t)) H
theorem j7o(T:Txt K mg a):FnOk P w K mg base (CXU P w) 1 a.f21 a.d21 ["self","before","wish","after"] (X2 a):=by
 refine T.F21.okU1 Pm λvs H Q E h=>?_;unfold X2 at h;refine aO 13 h ?_;clear h;rintro w dw p cs n b f t rfl hw hp f0 f1 hq;have on:=T.t9;have qq:=T.t5;refine⟨rfl,λ_ _ _ _ hr=>⟨_,(ay (aK (CT (ba (bW hr) (pv 3) (pv 1) (bd _)) (aD aF (pv 2) (pv 3) (λ_ _=>rfl)) (ar aX (aD aF (pv 2) (pv 3) (λ_ _=>rfl)) (Dg (pv 0) rfl))))),?_⟩⟩;have i1:=iW (ns:=cs) f0 f1;exists bg (λc=>?_) (λc=>?_)
 ·rw[if_pos c]at hq;exists cP hp i1 ?_;exact hq
 ·rw[if_neg c]at hq;exists cP hp i1 ?_;symm;exact hq
def X3:Sp:=λvs H Q _=>∃(r p q:Addr) (ss qs:List Str) (w:Str),vs=[.ref r,.ref p,.str w,.ref q]/\H p=some (.tup (ss.map V.str))/\H q=some (.tup (qs.map V.str))/\qs.length<=1000/\∀H',al H H'->Q (if w∈qs then .int ((qs.filter λt=>!decide (t∈ss)).length:Nat)else .non) H'
theorem j6m(T:Txt K mg a):FnOk P w K mg base (CXU P w) 1 a.f_z8 a.d8 ["self","before","wish","after"] (X3):=by
 refine T.F8.okU1 sc8 λvs H Q E h=>?_;unfold X3 at h;refine aO 10 h ?_;clear h;rintro r p q ss qs w rfl hp bS hl hq;refine⟨rfl,λ_ _ _ _ hr=>⟨_,(ax (bw (ba DS (pv 2) (pv 3) (by with_unfolding_all rfl)) (ay (aK jE)) bA)
  (ay (aK (aV cU (by rfl) T.cr xt (ae (hW (["page"]:List Str) (["before"]:List Str) [1] rfl ⟨rfl,by decide +kernel,by decide +kernel,by rfl,⟨⟨rfl,by nofun,by nofun⟩,trivial⟩⟩ (Bc (pv 3)) (λ_ _ _ _=>⟨(bK (i:=0) (by show((["page"]:List Str)++(["before"]:List Str)).Nodup;decide +kernel) rfl (by nofun)),(show dC _ [_] [_] from⟨(ba DS (pv 0) (pv 1) (by with_unfolding_all rfl)),trivial⟩),(pv 0)⟩)) aj))))),?_⟩⟩
 exists BJ bS rfl (Cb _) ?_;rw[Ca];exists dZ (λhw=>?_) (λhw=>?_)
 ·symm;have e:(if w∈qs then V.int ((qs.filter λt=>!decide (t∈ss)).length:Nat)else V.non)=.non:=if_neg hw;rw[<- e];exact hq H al.rfl'
 have e0:(if w∈qs then V.int ((qs.filter λt=>!decide (t∈ss)).length:Nat)else V.non)=.int ((qs.filter λt=>!decide (t∈ss)).length:Nat):=if_pos hw;rw[e0]at hq;exists⟨q,rfl,⟨_,aZ.of bS⟩,λacc hn _ _ _ _=>Ex (aZ.of bS) (by rw[y3];omega) hn (λj ys _=>ys=((qs.take j).filter λt=>!decide (t∈ss)).map V.str) (by simp) (λ_ _ _ _ _ h=>h) (λj ys H' _ h=>by rw[h,y3];exact v9 (AJ _ _) (by rw[yp];omega)) ?_ ?_⟩
 ·rintro j y ys H2 hy e rfl Y N hY hN;obtain⟨y,ey,rfl⟩:=Cc hy;have et:qs.take (j+1)=qs.take j++[y]:=by rw[gc,ey];rfl
  exists BJ (e _ _ hp) rfl (Cb _) ?_;rw[Ca];exists dZ (λh=>?_) (λh=>?_)
  ·exists hY _ _ al.rfl' ?_;rw[et,vk,gw,if_pos (by simp[h]),xk];rfl
  ·exists hN _ al.rfl' ?_;rw[et,vk,gw,if_neg (by simp[h]),nO,oK]
 ·rintro ys H2 e2 ha rfl;rw[y3,xq (yg _)]at ha;exists jl ha ?_;rw[y3];exact hq H2 e2
def X4:Sp:=λvs H Q _=>∃(p q:Addr) (ss qs:List Str) (i:Nat),vs=[.ref p,.int (i:Nat),.ref q]/\H p=some (.tup (ss.map V.str))/\H q=some (.tup (qs.map V.str))/\i<ss.length/\ss.length<=1000/\qs.length<=1000/\(∀x∈ss,x∈qs)/\∀H',al H H'->Q (.int (PX ss qs i:Nat)) H'
theorem j7p(T:Txt K mg a):FnOk P w K mg base (CXU P w) 1 a.f28 a.d28 ["order","at","other"] (X4):=by
 refine T.F28.okU1 Wu λvs H Q E h=>?_;unfold X4 at h;refine aO 12 h ?_;clear h;rintro p q ss qs i rfl hp bS hi hl k6 hs hq;refine⟨rfl,λ_ _ _ _ hr=>⟨_,(ax (bh (i:=3) Wu.nd rfl (by nofun) (IG QA QB QC MB (pv 2) (ae (aD aF (pv 0) (pv 1) (λ_ _=>rfl)) aj)))
  (ay (aK (aV cU (by rfl) T.cr xt (ae (hW (["thing"]:List Str) (["other","place"]:List Str) [2,3] rfl ⟨rfl,by decide +kernel,by decide +kernel,by rfl,⟨⟨rfl,by nofun,by nofun⟩,⟨rfl,by nofun,by nofun⟩,trivial⟩⟩ (Bc (fO lh (pv 0) (fj (ar aX (pv 1) ak)) gK)) (λ_ _ _ _=>⟨(bK (i:=0) (by show((["thing"]:List Str)++(["other","place"]:List Str)).Nodup;decide +kernel) rfl (by nofun)),(show dC _ [_] [_] from⟨(ba HH (IG QA QB QC MB (pv 1) (ae (pv 0) aj)) (pv 2) (bd _)),trivial⟩),(pv 0)⟩)) aj))))),?_⟩⟩
 have gi:ss.getD i ⟨#[]⟩∈ss:=by rw[y8,y4 hi];exact ua hi
 exists cP hp (v:=.str (ss.getD i ⟨#[]⟩)) (by have:=Gp (ss:=ss) (k:=(i:Nat)) (by omega) (by omega);rwa [yx]at this) ?_;exists ME bS (hs _ gi) (by omega) ?_;exists Iy hp (by rintro⟨z,_⟩;rw[show((i:Int)+1)=((i+1:Nat):Int) by omega,HT.sIx_nat,y3]at z;omega) λl H1 n1 q1 e1=>?_;have ec:aQ (ss.map V.str) (some ((i:Int)+1)) none=(ss.drop (i+1)).map V.str:=by
  unfold aQ;rw[show((i:Int)+1)=((i+1:Nat):Int) by omega,HT.sIx_nat,HT.sIx_none,y3,uu (by omega),<- B8,xq (by rw[y3,ve];exact yg _)]
 rw[ec]at q1;have QD:=e1 _ _ bS;refine⟨l,rfl,⟨_,aZ.of q1⟩,λacc hn _ _ _ _=>Ex (aZ.of q1) (by rw[y3,ve];omega) hn (λj ys _=>ys=(((ss.drop (i+1)).take j).filter λt=>decide (qs.idxOf t<qs.idxOf (ss.getD i ⟨#[]⟩))).map V.str) (by simp) (λ_ _ _ _ _ h=>h) (λj ys H' _ h=>by rw[h,y3];exact v9 (AJ _ _) (by rw[yp];omega)) ?_ ?_⟩
 ·rintro j y ys H2 hy e rfl Y N hY hN;obtain⟨y,ey,rfl⟩:=Cc hy;have hq2:=e _ _ QD;have QE:y∈qs:=hs y (BU (vg ey));exists ME hq2 QE (by omega) ?_;symm;have et:((ss.drop (i+1)).take (j+1))=((ss.drop (i+1)).take j)++[y]:=by rw[gc,ey];rfl
  refine bg (λh=>?_) (λh=>?_)
  ·exists hY _ _ al.rfl' ?_;rw[et,vk,gw,if_pos (decide_eq_true (by omega)),xk];rfl
  ·exists hN _ al.rfl' ?_;rw[et,vk,gw,if_neg (λz=>h (by have:=of_decide_eq_true z;omega)),nO,oK]
 ·rintro ys H2 e ha rfl;rw[y3,xq (yg _)]at ha;exists jl ha ?_;rw[y3];exact hq H2 (e1.tr e)
def X5:Sp:=λvs H Q _=>∃(p q:Addr) (ss qs:List Str),vs=[.ref p,.ref q]/\H p=some (.tup (ss.map V.str))/\H q=some (.tup (qs.map V.str))/\ss.length<=1000/\qs.length<=1000/\(∀x∈ss,x∈qs)/\∀H',al H H'->Q (.int (kJ ss qs)) H'
theorem j5d(T:Txt K mg a):FnOk P w K mg base (CXU P w) 2 a.f_z3 a.d_z3 ["before","after"] (X5):=by
 refine T.F3.okU1 sc3 λvs H Q E h=>?_;unfold X5 at h;refine aO 10 h ?_;clear h;rintro p q ss qs rfl hp bS hl k6 hs hq;refine⟨rfl,λ_ _ _ _ hr=>⟨_,(ay (aK (aV (wZ rfl) (by rfl) T.n_sum X6 (ae (hW (["at"]:List Str) (["before","after"]:List Str) [0,1] rfl ⟨rfl,by decide +kernel,by decide +kernel,by rfl,⟨⟨rfl,by nofun,by nofun⟩,⟨rfl,by nofun,by nofun⟩,trivial⟩⟩ (fL rfl T.c9 (ae (aV cU (by rfl) T.cr xt (ae (pv 0) aj)) aj)) (λ_ _ _ _=>⟨(bK (i:=0) (by show((["at"]:List Str)++(["before","after"]:List Str)).Nodup;decide +kernel) rfl (by nofun)),(show dC _ [] [] from trivial),(bq (j7p T) hr T.F28 (T.F28.b3) (ae (pv 1) (ae (pv 0) (ae (pv 2) aj))))⟩)) aj)))),?_⟩⟩;exists hZ hp ?_;rw[y3];refine⟨_,rfl,by omega,by omega,λacc hn _ _ _ _=>jg1 V.int (λ(i:Nat)=>(PX ss qs i:Int)) (by omega) hn (λi H3 Y hi e hY=>?_) λH2 e2 ha=>?_⟩
 ·symm;exact⟨p,q,ss,qs,i,rfl,e _ _ hp,e _ _ bS,by omega,hl,k6,hs,λH4 e4=>hY H4 e4⟩
 ·exists LX ha ?_;rw[yx];exact hq H2 e2
def X7:Sp:=λvs H Q _=>∃(r p q:Addr) (ss qs:List Str) (w:Str),vs=[.ref r,.ref p,.str w,.ref q]/\H p=some (.tup (ss.map V.str))/\H q=some (.tup (qs.map V.str))/\ss.length<=1000/\qs.length<=1000/\(∀x∈ss,x∈qs)/\w∈qs/\∀H',al H H'->Q (.int (kJ ss qs+(qs.idxOf w:Nat)+1)) H'
theorem j6n(T:Txt K mg a):FnOk P w K mg base (CXU P w) 3 a.f_z6 a.d6 ["self","before","wish","after"] (X7):=by
 refine T.F6.okU1 sc6 λvs H Q E h=>?_;unfold X7 at h;refine aO 13 h ?_;clear h;rintro r p q ss qs w rfl hp bS hl k6 hs hw hq;refine⟨rfl,λ_ _ _ _ hr=>⟨_,(ay (aK (ar aX (ar aX (bq (j5d T) hr T.F3 (T.F3.b2) (ae (pv 1) (ae (pv 3) aj))) (IG QA QB QC MB (pv 3) (ae (pv 2) aj))) ak))),?_⟩⟩;exists⟨p,q,ss,qs,rfl,hp,bS,hl,k6,hs,λH1 e1=>?_⟩;have QD:=e1 _ _ bS;exists ME QD hw (by omega) ?_;symm;exact hq H1 e1
def X8:Sp:=λvs H Q _=>∃(p q:Addr) (ns ms:List Int),vs=[.ref p,.ref q]/\H p=some (.tup (ns.map V.int))/\H q=some (.tup (ms.map V.int))/\ns.length=ms.length/\ns.length<=1000/\∀H',al H H'->Q (.int (qZ ns ms)) H'
theorem j5e(T:Txt K mg a):FnOk P w K mg base (CXU P w) 1 a.f_z4 a.d4 ["before","after"] (X8):=by
 refine T.F4.okU1 sc4 λvs H Q E h=>?_;unfold X8 at h;refine aO 9 h ?_;clear h;rintro p q ns ms rfl hp bS hl hz hq;refine⟨rfl,λ_ _ _ _ hr=>⟨_,(ay (aK (aV (wZ rfl) (by rfl) T.n_sum X6 (ae (hW (["here","there"]:List Str) ([]:List Str) [] rfl ⟨rfl,by decide +kernel,by decide +kernel,by rfl,trivial⟩ (Mm rfl T.n_zip (ae (pv 0) (ae (pv 1) aj))) (λ_ _ _ _=>⟨(CY rfl (oA (bK (i:=0) (by show((["here","there"]:List Str)++([]:List Str)).Nodup;decide +kernel) rfl (by nofun)) (oA (bK (i:=1) (by show((["here","there"]:List Str)++([]:List Str)).Nodup;decide +kernel) rfl (by nofun)) CW))),(show dC _ [] [] from trivial),(aV LF (by rfl) T.n_abs ye9 (ae (ar oG (pv 0) (pv 1)) aj))⟩)) aj)))),?_⟩⟩;exists⟨p,q,ns.map V.int,ms.map V.int,true,true,rfl,aZ.of hp,aZ.of bS,λacc hn _ _ _ _=>T4 (c:=true) (d:=true) (aZ.of hp) (aZ.of bS) (by simpa using hl) (by rw[y3];omega) hn
  (λi ys _=>ys=((WG (λa b:Int=>((a-b).natAbs:Int)) ns ms).take i).map V.int) (by simp) (λ_ _ _ _ _ h=>h) (λi ys H' _ h=>by rw[h,y3,yp];omega) ?_ ?_⟩
 ·rintro i x z ys H2 H3 hx QF e e3 rfl Y N hY hN;obtain⟨x,ex,rfl⟩:=BM hx;obtain⟨z,ez,rfl⟩:=BM QF;exists hY _ _ e3 ?_;rw[gc,xk,y8y,ex,ez];rfl
 ·rintro ys H2 e ha rfl;rw[xq (by rw[ya6,y3];omega)]at ha;symm;exact LX ha (hq H2 e)
def X9:Sp:=λvs H Q _=>∃(r p q:Addr) (ns ms:List Int) (w:Int),vs=[.ref r,.ref p,.int w,.ref q]/\H p=some (.tup (ns.map V.int))/\H q=some (.tup (ms.map V.int))/\ns.length=ms.length/\ns.length<=1000/\∀H',al H H'->Q (if w∈ms then .int (qZ ns ms)else .non) H'
theorem j7q(T:Txt K mg a):FnOk P w K mg base (CXU P w) 2 a.f17 a.d17 ["self","before","wish","after"] (X9):=by
 refine T.F17.okU1 Pn λvs H Q E h=>?_;unfold X9 at h;refine aO 11 h ?_;clear h;rintro r p q ns ms w rfl hp bS hl hz hq;refine⟨rfl,λ_ _ _ _ hr=>⟨_,(ax (bw (ba DS (pv 2) (pv 3) (by with_unfolding_all rfl)) (ay (aK jE)) bA)
  (ay (aK (bq (j5e T) hr T.F4 (T.F4.b2) (ae (pv 1) (ae (pv 3) aj)))))),?_⟩⟩
 exists BJ bS rfl (IA _) ?_;rw[IC];exists dZ (λh=>?_) (λh=>?_)
 ·rw[if_neg h]at hq;symm;exact hq H al.rfl'
 ·rw[if_pos h]at hq;symm;exact⟨p,q,ns,ms,rfl,hp,bS,hl,hz,hq⟩
def Ya(a:Adr):Sp:=λvs H Q _=>∃(r dw:Addr) (W b:Int) (h:V) (f:Int),vs=[.ref r,.int b,h,.int f]/\H r=some (.ins a.dg dw [("whole",.int W)])/\Q (if b=1 then(if f=1 then .int 0 else .non)else(if f=1 then .int W else h)) H
theorem j7r(T:Txt K mg a):FnOk P w K mg base (CXU P w) 1 a.f15 a.d15 ["self","before","wish","after"] (Ya a):=by
 refine T.F15.okU1 Po λvs H Q E h=>?_;unfold Ya at h;refine aO 8 h ?_;clear h;rintro r dw W b h f rfl ia hq;have rj:=T.my;have qb:=T.dq;refine⟨rfl,λ_ _ _ _ hr=>⟨_,(ax (bw (ba (bW hr) (pv 1) ak (bd _)) (ay (aK (CT (ba (bW hr) (pv 3) ak (bd _)) ak jE))) bA)
  (ay (aK (CT (ba (bW hr) (pv 3) ak (bd _)) (Dg (pv 0) rfl) (pv 2))))),?_⟩⟩
 exists bg (λh=>?_) (λh=>?_)
 ·rw[if_pos h]at hq;exists bg (λh=>?_) (λh=>?_)
  ·rw[if_pos h]at hq;symm;exact hq
  ·rw[if_neg h]at hq;symm;exact hq
 ·rw[if_neg h]at hq;exists bg (λh=>?_) (λh=>?_)
  ·rw[if_pos h]at hq;symm;exact hq
  ·rw[if_neg h]at hq;symm;exact hq
def Yb:Sp:=λvs H Q _=>∃(p:Addr) (os:List Int) (s:Int) (kk:Nat),vs=[.ref p,.int (kk:Nat),.int s]/\H p=some (.tup (os.map V.int))/\kk<os.length/\os.length<=60/\∀q (fs:List Int) H',fs.Perm (os.set kk (os.getD kk 0+s))->fs.Pairwise (·<=·)->H' q=some (.tup (fs.map V.int))->al H H'->Q (.ref q) H'
theorem Yc(T:Txt K mg a):FnOk P w K mg base (CXU P w) 1 a.f49 a.d49 ["loads","at","size"] (Yb):=by
 refine T.F49.okU1 Pp λvs H Q E h=>?_;unfold Yb at h;refine aO 8 h ?_;clear h;rintro p os s kk rfl hp lG hl hq;refine⟨rfl,λ_ _ _ _ hr=>⟨_,(ay (aK (eS jd (by rfl) T.dh xw (ae (aV lC (by rfl) T.cw gg (ae (ar aX (ar aX (fO lh (pv 0) gK (fj (pv 1))) (fN (ae (ar aX (aD aF (pv 0) (pv 1) (λ_ _=>rfl)) (pv 2)) aj))) (fO lh (pv 0) (fj (ar aX (pv 1) ak)) gK)) aj)) aj)))),?_⟩⟩;have s1:aQ (os.map V.int) none (some ((kk:Nat):Int))=(os.take kk).map V.int:=by
  unfold aQ;rw[HT.sIx_nat,HT.sIx_none,y3,BP,BQ,uu (lV lG),B9]
 have s2:aQ (os.map V.int) (some (((kk:Nat):Int)+1)) none=(os.drop (kk+1)).map V.int:=by
  unfold aQ;rw[show(((kk:Nat):Int)+1)=((kk+1:Nat):Int) by omega,HT.sIx_nat,HT.sIx_none,y3,uu (show kk+1<=os.length by omega),<- B8,xq (by rw[y3,ve];exact yg _)]
 have i1:=iW (ns:=os) (k:=(kk:Nat)) (by omega) (by omega);rw[yx]at i1;exists Iy hp (by rintro⟨_,z⟩;rw[HT.sIx_nat,y3]at z;omega) λl1 H1 n1 q1 e1=>?_;rw[s1]at q1;have GS:=e1 _ _ hp;exists cP GS i1 ?_;symm;intro p2 H2 n2 q2 e2;exists gO (e2 _ _ q1) q2 (by simp;omega) λp3 H3 q3 e3=>?_;have kN:=e3 _ _ (e2 _ _ GS);exists Iy kN (by rintro⟨z,_⟩;rw[show(((kk:Nat):Int)+1)=((kk+1:Nat):Int) by omega,HT.sIx_nat,y3]at z;omega) λl4 H4 n4 q4 e4=>?_;rw[s2]at q4;exists gO (e4 _ _ q3) q4 (by simp;omega) λp5 H5 q5 e5=>?_;rw[show(os.take kk).map V.int++[V.int (os.getD kk 0+s)]++(os.drop (kk+1)).map V.int=(os.set kk (os.getD kk 0+s)).map V.int by rw[<- WD lG];simp]at q5;exists uA q5 (by simp;omega) λl6 bB H6 n6 Cr hs6 q6 e6=>?_;exists iT q6 λl7 H7 n7 q7 e7=>?_;exact hq l7 bB H7 Cr hs6 q7 ((((((e1.tr e2).tr e3).tr e4).tr e5).tr e6).tr e7)
def Yd:Sp:=λvs H Q _=>∃(p:Addr) (os:List Int) (s:Int),vs=[.ref p,.int s]/\H p=some (.tup (os.map V.int))/\os.length<=60/\∀q (fs:List Int) H',fs.Perm (os++[s])->fs.Pairwise (·<=·)->H' q=some (.tup (fs.map V.int))->al H H'->Q (.ref q) H'
theorem Ye(T:Txt K mg a):FnOk P w K mg base (CXU P w) 1 a.f50 a.d50 ["loads","size"] (Yd):=by
 refine T.F50.okU1 Pq λvs H Q E h=>?_;unfold Yd at h;refine aO 6 h ?_;clear h;rintro p os s rfl hp hl hq;refine⟨rfl,λ_ _ _ _ hr=>⟨_,(ay (aK (eS jd (by rfl) T.dh xw (ae (aV lC (by rfl) T.cw gg (ae (ar aX (pv 0) (fN (ae (pv 1) aj))) aj)) aj)))),?_⟩⟩;symm;intro p1 H1 n1 q1 e1;exists gO (e1 _ _ hp) q1 (by simp;omega) λp2 H2 q2 e2=>?_;rw[show os.map V.int++[V.int s]=(os++[s]).map V.int by simp]at q2;exists uA q2 (by simp;omega) λl3 bB H3 n3 kN hV q3 e3=>?_;exists iT q3 λl4 H4 n4 q4 e4=>?_;exact hq l4 bB H4 kN hV q4 (((e1.tr e2).tr e3).tr e4)
theorem jh5{n j:Nat}{p:Nat->Bool}{r:List Nat}(h:(vi n).filter p=j::r):j<n/\p j=true/\∀i,i<j->p i=false:=by
 have hm:j∈(vi n).filter p:=by rw[h];exact yu
 obtain⟨m1,m2⟩:=kT.mp hm;refine⟨u9.mp m1,m2,λi hi=>?_⟩;cases e:p i with
 |false=>rfl
 |true=>
  exfalso
  have pd:i∈(vi n).filter p:=kT.mpr ⟨u9.mpr (by have:=u9.mp m1;omega),e⟩;have sl:((vi n).filter p).Pairwise (· < ·):=Xm _ y8i;rw[h]at pd sl;rcases xc.mp pd with z|z
  ·omega
  ·have:=(BV.mp sl).1 i z;omega
def Yf(a:Adr):Sp:=λvs H Q _=>∃(w dw b f:Addr) (os fs:List Int) (R s:Int) (v:V),vs=[.ref w,.ref b,.int s,.ref f]/\H w=some (.ins a.de dw [("room",.int R)])/\H b=some (.tup (os.map V.int))/\H f=some (.tup (fs.map V.int))/\WC R os/\1<=s/\os.length<=60/\iY R os s fs v/\∀H',al H H'->Q v H'
theorem j7s(T:Txt K mg a):FnOk P w K mg base (CXU P w) 2 a.f13 a.d13 ["self","before","wish","after"] (Yf a):=by
 refine T.F13.okU1 Wv λvs H Q E h=>?_;unfold Yf at h;refine aO 12 h ?_;clear h;rintro w dw b f os fs R s v rfl hw hb h;refine aO 5 h ?_;clear h;rintro hf pY s1 hl hg hq;have jX:=T.mt;have o9:=T.dn;refine⟨rfl,λ_ _ _ _ hr=>⟨_,(ax (bw (ba Be (aV cU (by rfl) T.cr xt (ae (pv 3) aj)) (aV cU (by rfl) T.cr xt (ae (pv 1) aj)) (bd _)) (ay (aK (CT (PW.pt (CS (ba HH (aV cU (by rfl) T.cr xt (ae (pv 1) aj)) (RJ (v:=V.int 500) (by rfl) T.qv ⟨_,rfl⟩) (bd _)) (Hx (ba (bW hr) (pv 3) (bq (Ye T) hr T.F50 (T.F50.b2) (ae (pv 1) (ae (pv 2) aj))) (bd _))))) ak jE))) bA)
  (ax (sQ (i:=4) (["at"]:List Str) (["before","after"]:List Str) [1,3] Wv.nd rfl (k9 rfl) rfl ⟨rfl,by decide +kernel,by decide +kernel,by rfl,⟨⟨rfl,by nofun,by nofun⟩,⟨rfl,by nofun,by nofun⟩,trivial⟩⟩ (fL rfl T.c9 (ae (aV cU (by rfl) T.cr xt (ae (pv 1) aj)) aj)) (λ_ _ _ _=>⟨(bK (i:=0) (by show((["at"]:List Str)++(["before","after"]:List Str)).Nodup;decide +kernel) rfl (by nofun)),(show dC _ [_] [_] from⟨(ba Be (aD aF (pv 1) (pv 0) (λ_ _=>rfl)) (aD aF (pv 2) (pv 0) (λ_ _=>rfl)) (bd _)),trivial⟩),(pv 0)⟩))
  (ax (bw (PW.pt (A7 (A8 (mH (pv 4) (λ_=>rfl))) (CQ (ba HI (ar aX (aD aF (pv 1) (aD aF (pv 4) ak (λ_ _=>rfl)) (λ_ _=>rfl)) (pv 2)) (Dg (pv 0) rfl) (bd _))))) (ay (aK jE)) bA)
  (ay (aK (CT (ba (bW hr) (pv 3) (bq (Yc T) hr T.F49 (T.F49.b3) (ae (pv 1) (ae (aD aF (pv 4) ak (λ_ _=>rfl)) (ae (pv 2) aj)))) (bd _)) ak jE)))))),?_⟩⟩
 exists hZ hf ?_;rw[y3];exists hZ hb ?_;rw[y3];exists dZ (λnl=>?_) (λnl=>?_)
 ·exists hZ hb ?_;rw[y3];exists bg (λ_=>?_) (λz=>by omega);exists⟨b,os,s,rfl,hb,hl,λq gs H1 GS Qe q1 e1=>?_⟩;exists ID (e1 _ _ hf) q1 ?_;by_cases c:fs=gs
  ·subst c;rw[decide_eq_true rfl];symm;rw[<- hg.one ⟨Qe,.inl ⟨rfl,GS⟩⟩];exact hq H1 e1
  ·rw[decide_eq_false c];symm;rw[<- hg.no λpr ⟨z1,z⟩=>by
    rcases z with⟨_,z⟩|⟨_,k,hk,_,z⟩
    ·exact c (jV (z.trans GS.symm) z1 Qe)
    ·have:=z.length_eq;rw[Dq]at this;omega]
   exact hq H1 e1
 ·have fl:fs.length=os.length:=by omega
  exists hZ hb ?_;rw[y3];exists⟨_,rfl,by omega,by omega,λacc hn _ _ _ _=>sR (by omega) hn (λj ys _=>ys=((vi j).filter λi=>!decide (os.getD i 0=fs.getD i 0)).map λ(i:Nat)=>V.int (i:Nat)) rfl (λ_ _ _ _ _ h=>h) (λj ys H' _ h=>by rw[h,y3];exact v9 (AJ _ _) (by simp)) ?_ ?_⟩
  ·rintro j ys H2 hj e rfl Y N hY hN;have dU:=e _ _ hb;have Aw:=e _ _ hf;have i1:=iW (ns:=os) (k:=0+(j:Nat)) (by omega) (by omega);have i2:=iW (ns:=fs) (k:=0+(j:Nat)) (by omega) (by omega);rw[show((0:Int)+(j:Nat)).toNat=j by omega]at i1 i2;exists cP dU i1 ?_;exists cP Aw i2 ?_;exists dZ (λc=>?_) (λc=>?_)
   ·exists hY _ _ al.rfl' ?_;rw[sY,vk,xk];simp only[gw,nO,decide_eq_false c,VW,if_true,xu,Bl];rw[show((0:Int)+(j:Nat))=(j:Nat) by omega]
   ·exists hN _ al.rfl' ?_;rw[sY,vk,xk];simp only[gw,nO,decide_eq_true c,FK,vt,if_false,Bl,oK]
  rintro ys H2 e ha rfl;rw[show((os.length:Int).toNat)=os.length by omega]at ha;have QG:¬ eE R os s fs 1:=λz=>by
   rcases z.2 with⟨_,z⟩|⟨z,_⟩
   ·have:=z.length_eq;rw[xi,uj]at this;omega
   ·cases z
  cases hL:(vi os.length).filter (λi=>!decide (os.getD i 0=fs.getD i 0))with
  |nil=>
   rw[hL]at ha;exists Ts (SqL.of ha) ?_;symm;rw[<- hg.no λpr z=>by
    rcases z.2 with⟨e1,z2⟩|⟨_,k,hk,_,z2⟩
    ·exact QG ⟨z.1,.inl ⟨rfl,z2⟩⟩
    ·obtain⟨j0,hj0,hd0⟩:=jgz hk (w:=os.getD k 0+s) (by omega) z2;have:j0∈(vi os.length).filter (λi=>!decide (os.getD i 0=fs.getD i 0)):=kT.mpr ⟨u9.mpr hj0,by rw[decide_eq_false hd0];rfl⟩;rw[hL]at this;cases this]
   exact hq H2 e
  |cons j br=>
   rw[hL]at ha;obtain⟨jn,jp,jf⟩:=jh5 hL;have jne:os.getD j 0≠fs.getD j 0:=by
    intro z;rw[decide_eq_true z]at jp;cases jp
   have jeq:∀i,i<j->os.getD i 0=fs.getD i 0:=λi hi=>by
    have:=jf i hi;simpa using this
   have ev:∀k,k<os.length->fs.Pairwise (·<=·)->fs.Perm (os.set k (os.getD k 0+s))->os.getD j 0=os.getD k 0:=λk hk QH Gg=>jeb pY.1 QH hk (by omega) Gg jn jeq jne;have dU:=e _ _ hb;have Aw:=e _ _ hf;have Cs:=e _ _ hw;have i1:=iW (ns:=os) (k:=(j:Nat)) (by omega) (by omega);rw[yx]at i1;exists Ts (SqL.of ha) ?_;exists aA ha (v:=.int (j:Nat)) (Bx (by decide) rfl) ?_;exists cP dU i1 ?_;exists bg (λc=>?_) (λc=>?_)
   ·symm;rw[<- hg.no λpr z=>by
     rcases z.2 with⟨e1,z2⟩|⟨_,k,hk,hR,z2⟩
     ·exact QG ⟨z.1,.inl ⟨rfl,z2⟩⟩
     ·have:=ev k hk z.1 z2;omega]
    exact hq H2 e
   exists aA ha (v:=.int (j:Nat)) (Bx (by decide) rfl) ?_;exists⟨b,os,s,j,rfl,dU,jn,hl,λq gs H3 kN hV q3 e3=>?_⟩;exists ID (e3 _ _ Aw) q3 ?_;by_cases c2:fs=gs
   ·subst c2;rw[decide_eq_true rfl];symm;rw[<- hg.nought ⟨hV,.inr ⟨rfl,j,jn,by omega,kN⟩⟩];exact hq H3 (e.tr e3)
   ·rw[decide_eq_false c2];symm;rw[<- hg.no λpr z=>by
     rcases z.2 with⟨e1,z2⟩|⟨_,k,hk,hR,z2⟩
     ·exact QG ⟨z.1,.inl ⟨rfl,z2⟩⟩
     ·have ek:=ev k hk z.1 z2;rw[<- ek]at z2;exact c2 (jV (z2.trans ((Wy hk jn ek.symm).trans kN.symm)) z.1 hV)]
    exact hq H3 (e.tr e3)
def Yg(a:Adr):Sp:=λus H Q _=>∃(r p:Addr) (bv wv:V) (g:Gm) (b:ag) (w:aw) (h9:List ag) (ys:List V),us=[.ref r,bv,wv,.ref p]/\h7 a H g r/\g.wf/\b.at_ H bv/\g.ok 40 b/\w.at_ H wv/\g.okW w/\H p=some (.lst ys)/\ao (ag.at_ H) h9 ys/\h9.length<=60/\(∀s∈h9,g.ok 40 s)/\uU h9/\
 ∀l zs (ps:List (ag×Int)) H',H l=none->H' l=some (.lst zs)->eF H' ps zs->eZ ps->(∀s c,(s,c)∈ps↔s∈h9/\g.pp b w s (.int c))->al H H'->Q (.ref l) H'
theorem vC(T:Txt K mg a):FnOk P w K mg base (CXU P w) 4 a.f_z1 a.d_z1 ["self","before","wish","states"] (Yg a):=by
 refine T.F1.okU1 Wt λvs H Q E h=>?_;unfold Yg at h;refine aO 12 h ?_;clear h;rintro r p bv wv g b w h9 ys rfl ia gE h;refine aO 9 h ?_;clear h;rintro hb bt hw bI hp nP Qj Ct hk hq;refine⟨rfl,λ_ _ _ _ hr=>⟨_,(ax (sQ (i:=4) (["after"]:List Str) (["self","before","wish"]:List Str) [0,1,2] Wt.nd rfl (k9 rfl) rfl ⟨rfl,by decide +kernel,by decide +kernel,by rfl,⟨⟨rfl,by nofun,by nofun⟩,⟨rfl,by nofun,by nofun⟩,⟨rfl,by nofun,by nofun⟩,trivial⟩⟩ (oC (Wm hr rfl (by rfl) T.cw (by rfl) T.n_set (ae (pv 3) aj))) (λ_ _ _ _=>⟨(bK (i:=0) (by show((["after"]:List Str)++(["self","before","wish"]:List Str)).Nodup;decide +kernel) rfl (by nofun)),(show dC _ [] [] from trivial),(fN (ae (pv 0) (ae (lD (fV (pv 1) T.mt T.mn (j7s T) (hr.mono (by decide)) (T.F13.b4) .nil cT (ae (pv 2) (ae (pv 3) (ae (pv 0) aj)))) (lD (fV (pv 1) T.my T.ml (j7r T) (hr.mono (by decide)) (T.F15.b4) .nil cT (ae (pv 2) (ae (pv 3) (ae (pv 0) aj)))) (lD (fV (pv 1) T.md T.me (j7q T) (hr.mono (by decide)) (T.F17.b4) .nil cT (ae (pv 2) (ae (pv 3) (ae (pv 0) aj)))) (lD (fV (pv 1) T.mr T.tw (j6n T) (hr.mono (by decide)) (T.F6.b4) .nil cT (ae (pv 2) (ae (pv 3) (ae (pv 0) aj)))) (lD (fV (pv 1) T.dv T.tu (j6m T) (hr.mono (by decide)) (T.F8.b4) .nil cT (ae (pv 2) (ae (pv 3) (ae (pv 0) aj)))) (fV (pv 1) T.t9 T.mf (j7o T) (hr.mono (by decide)) (T.F21.b4) .nil cT (ae (pv 2) (ae (pv 3) (ae (pv 0) aj))))))))) aj)))⟩))
  (ay (aK (hW (["pair"]:List Str) ([]:List Str) [] rfl ⟨rfl,by decide +kernel,by decide +kernel,by rfl,trivial⟩ (oC (pv 4)) (λ_ _ _ _=>⟨(bK (i:=0) (by show((["pair"]:List Str)++([]:List Str)).Nodup;decide +kernel) rfl (by nofun)),(show dC _ [_] [_] from⟨(ba DV (aD aF (pv 0) ak (λ_ _=>rfl)) jE (bd _)),trivial⟩),(pv 0)⟩))))),?_⟩⟩
 exists Gw hp nP Qj hk ?_;rintro lq ts Qk H1 q1 Yh Yi QI e1;have ly1:=Yh.len;have nd1:ts.Nodup:=Yi.imp λz e=>by rw[e]at z;exact JV z z
 have l1:ts.length<=60:=v9 (Gv nd1 λs hs=>(QI s).mp hs) Qj;exists⟨lq,rfl,⟨_,SqL.of q1⟩,λacc hn _ _ _ _=>Ew (SqL.of q1) (by omega) hn (λj zs H2=>kK g b w H2 (ts.take j) zs) trivial (λ_ _ _ _ k h=>kK.keep k h) (λj zs H' _ h=>by have:=h.len;rw[yp]at this;omega) ?_ ?_⟩
 ·rintro j av zs H2 hy e fc Y N hY hN;obtain⟨aa,ea,ha0⟩:=Yh.get hy;have dW:=Ct aa ((QI aa).mp (vg ea));have x3:al H H2:=e1.tr e;have lQ:=ia.mono x3;have ie:=ag.mono x3 hb;have jA:=aw.mono x3 hw;have rn:=ag.mono e ha0;obtain⟨xp,fJ⟩:=Gm.pp_some bt bI dW;have Cu:ts.take (j+1)=ts.take j++[aa]:=by rw[gc,ea];rfl
  have put:∀H4,al H2 H4->∀c H5,H5 c=some (.tup [av,xp])->al H4 H5->Y (.ref c) H5:=λH4 e4 c H5 q5 e5=>hY _ _ (e4.tr e5) (by
   rw[Cu];exact ao.snoc ⟨c,av,xp,rfl,q5,ag.mono (e4.tr e5) rn,fJ⟩ (kK.keep (e4.tr e5).kp fc))
  clear hY hN;symm;cases g with
  |hire W=>
   obtain⟨dw,fK⟩:=lQ;obtain⟨z,rfl⟩:=bI;obtain⟨bz,rfl⟩:∃bz,b=.i bz:=by rcases bt with h|h<;>exact⟨_,h⟩
   obtain⟨az,rfl⟩:∃az,aa=.i az:=by rcases dW with h|h<;>exact⟨_,h⟩
   obtain rfl:bv=.int bz:=ie;obtain rfl:av=.int az:=rn;obtain rfl:wv=.int z:=jA;refine dI (oY ?_);exists⟨r,dw,W,bz,.int z,az,rfl,fK,?_⟩;obtain rfl:xp=_:=fJ;symm;intro c H5 n5 q5 e5;exact put _ al.rfl' c H5 q5 e5
  |line m=>
   obtain⟨dw,fK⟩:=lQ;obtain⟨z,rfl⟩:=bI;obtain⟨bs,rfl,lb⟩:=bt;obtain⟨AK,rfl,la⟩:=dW;obtain⟨bp,rfl,bN⟩:=ie;obtain⟨ap,rfl,gX⟩:=rn;obtain rfl:wv=.int z:=jA;have:=gE.2;refine dI (dI (oY ?_));exists⟨r,bp,ap,bs,AK,z,rfl,bN,gX,by omega,by omega,λH4 e4=>?_⟩;obtain rfl:xp=_:=fJ;symm;intro c H5 n5 q5 e5;exact put _ e4 c H5 q5 e5
  |shelf ths=>
   obtain⟨dw,fv,fK⟩:=lQ;obtain⟨z,rfl,hz⟩:=bI;obtain⟨bs,rfl,pb⟩:=bt;obtain⟨AK,rfl,pa⟩:=dW;obtain⟨bp,rfl,bN⟩:=ie;obtain⟨ap,rfl,gX⟩:=rn;obtain rfl:wv=.str z:=jA;have l4:=gE.2.1;have lb:=pb.length_eq;have la:=pa.length_eq;refine dI (dI (dI (oY ?_)));exists⟨r,bp,ap,bs,AK,z,rfl,bN,gX,by omega,by omega,λx hx=>pa.mem_iff.mpr (pb.mem_iff.mp hx),pa.mem_iff.mpr hz,λH4 e4=>?_⟩;obtain rfl:xp=_:=fJ;symm;intro c H5 n5 q5 e5;exact put _ e4 c H5 q5 e5
  |wys m tl=>
   obtain⟨dw,fK⟩:=lQ;obtain⟨z,rfl,lz⟩:=bI;obtain⟨bz,rfl,_⟩:=bt;obtain⟨az,rfl,a0,a1⟩:=dW;obtain rfl:bv=.int bz:=ie;obtain rfl:av=.int az:=rn;obtain⟨wp,rfl,QJ⟩:=jA;refine dI (dI (dI (dI (dI ?_))));exists⟨r,dw,wp,z,_,bz,az,tl,rfl,fK,QJ,a0,by omega,?_⟩;obtain rfl:xp=_:=fJ;symm;intro c H5 n5 q5 e5;exact put _ al.rfl' c H5 q5 e5
  |store m=>
   obtain⟨dw,fK⟩:=lQ;obtain⟨z,rfl,hz⟩:=bI;obtain⟨bs,rfl,lb,nb⟩:=bt;obtain⟨AK,rfl,la,na⟩:=dW;obtain⟨bp,rfl,bN⟩:=ie;obtain⟨ap,rfl,gX⟩:=rn;obtain rfl:wv=.str z:=jA;have:=gE.2;refine dI (dI (dI (dI (oY ?_))));exists⟨r,bp,ap,bs,AK,z,rfl,bN,gX,by omega,λH4 e4=>?_⟩;obtain rfl:xp=_:=fJ;symm;intro c H5 n5 q5 e5;exact put _ e4 c H5 q5 e5
  |bags R=>
   obtain⟨dw,fK⟩:=lQ;obtain⟨z,rfl,z1,z2⟩:=bI;obtain⟨bs,rfl,hL,lb⟩:=bt;obtain⟨AK,rfl,hLa,la⟩:=dW;obtain⟨bp,rfl,bN⟩:=ie;obtain⟨ap,rfl,gX⟩:=rn;obtain rfl:wv=.int z:=jA;refine oY ?_;exists⟨r,dw,bp,ap,bs,AK,R,z,xp,rfl,fK,bN,gX,hL,z1,by omega,fJ,λH4 e4=>?_⟩;symm;intro c H5 n5 q5 e5;exact put _ e4 c H5 q5 e5
 rintro zs H2 e2 ha fc;rw[xq (by omega)]at fc;have lz:=fc.len;exists⟨acc,rfl,⟨_,SqL.of ha⟩,λrp j4 _ _ _ _=>Ew (SqL.of ha) (by omega) j4 (λj us H3=>∃ps:List (ag×Int),eF H3 ps us/\(ps.map XM).Sublist (ts.take j)/\ps.length<=j/\∀s c,(s,c)∈ps↔s∈ts.take j/\g.pp b w s (.int c)) ⟨[],trivial,by simp,by simp,λs c=>by simp⟩ (λ_ _ _ _ k ⟨ps,h1,h2⟩=>⟨ps,h1.keep k,h2⟩) (λj us H' _ ⟨ps,h1,_,h2,_⟩=>by rw[<- h1.len];exact h2) ?_ ?_⟩
 ·rintro j y us H3 hy e ⟨ps,h1,h2,h3,h4⟩ Y N hY hN;obtain⟨s,es,c,sv,pv,rfl,qc,hs,fJ⟩:=fc.get hy;have Cu:ts.take (j+1)=ts.take j++[s]:=by rw[gc,es];rfl
  have Yj:=e _ _ qc;exists cP Yj rfl ?_;rcases Gm.pp_val fJ with rfl|⟨i,rfl⟩
  ·exists hN _ al.rfl' ⟨ps,h1,h2.trans (by rw[Cu];exact List.sublist_append_left _ _),by omega,λs' c'=>?_⟩;rw[h4,Cu,yw,y9];constructor
   ·exact λ⟨k1,k2⟩=>⟨.inl k1,k2⟩
   ·rintro⟨k1|rfl,k2⟩
    ·exact⟨k1,k2⟩
    ·exact absurd (Gm.pp_uniq fJ k2) (by simp)
  ·exists hY _ _ al.rfl' ⟨ps++[(s,i)],ao.snoc ⟨c,sv,rfl,Yj,ag.mono e hs⟩ h1,?_,by simp;omega,λs' c'=>?_⟩
   ·rw[Cu,xk];exact h2.append (yfa _)
   ·rw[yw,y9,h4,Cu,yw,y9];constructor
    ·rintro(⟨k1,k2⟩|k)
     ·exact⟨.inl k1,k2⟩
     ·injection k with k1 k2;subst k1 k2;exact⟨.inr rfl,fJ⟩
    ·rintro⟨k1|rfl,k2⟩
     ·exact .inl ⟨k1,k2⟩
     ·have:=Gm.pp_uniq fJ k2;injection this with this;exact .inr (by rw[this])
 rintro us H3 e3 ha2 ⟨ps,h1,h2,h3,h4⟩;rw[xq (by omega)]at h2 h4;have x2:=e1.tr e2;exact hq rp us ps H3 (x2.free j4) ha2 h1 (vh.mp (Yi.sublist h2)) (λs c=>by rw[h4,QI]) (x2.tr e3)
def j7t(a:Adr):Sp:=λus H Q _=>∃m t,Ci a H Q us (.wys m t)
theorem j7u(T:Txt K mg a):FnOk P w K mg base (CXU P w) 5 a.f20 a.d20 ["self","before","wish"] (j7t a):=by
 refine T.F20.okU1 Pk λvs H Q E h=>?_;obtain⟨m,t,r,bv,wv,b,w,rfl,⟨dw,ia⟩,wf,hb,bt,_,hw,bI,hq⟩:=h;have qe:=T.md;have nk:=T.cx;have oz:=T.dv;have nh:=T.ck;have on:=T.t9;have ni:=T.dc;refine⟨rfl,λ_ _ _ _ hr=>⟨_,(ay (aK (fV (pv 0) T.t9 T.ma (vC T) (hr.mono (by decide)) (T.F1.b4) .nil cT (ae (pv 1) (ae (pv 2) (ae (UL rfl (by rfl) T.mx (by rfl) T.c9 (ae (Dg (pv 0) rfl) aj)) aj)))))),?_⟩⟩;have m4:=wf.2;exists UM m rfl (by omega) λl1 H1 n1 q1 e1=>?_;have hm:∀s,s∈(fI m).map ag.i↔∃z:Int,s=.i z/\0<=z/\z<m:=λs=>by
  simp only[fI,v8,yk,u9,Xr];exact⟨λ⟨n,h1,h2⟩=>⟨_,h2.symm,by omega,by omega⟩,λ⟨z,h1,h2,h3⟩=>⟨z.toNat,by omega,by rw[h1];congr 1;omega⟩⟩
 exists⟨r,l1,_,_,.wys m t,b,w,(fI m).map ag.i,_,rfl,⟨dw,e1 _ _ ia⟩,wf,ag.mono e1 hb,bt,aw.mono e1 hw,bI,q1,Ce _,by simp[fI];omega,λs hs=>(hm s).mp hs,.inl ⟨m,by omega,rfl⟩,λl zs ps H2 n2 q2 p2 nd mm e2=>hq l zs ps H2 (e1.free n2) q2 p2 nd (uW mm hm) (e1.tr e2)⟩
def Yk:Sp:=λvs H Q _=>∃(p:Addr) (ss:List Str) (g w:Str),vs=[.ref p,.str g,.str w]/\H p=some (.tup (ss.map V.str))/\ss.length<=60/\∀l L H',pA ss g w L->H' l=some (.tup (L.map V.str))->al H H'->Q (.ref l) H'
theorem jf0(T:Txt K mg a):FnOk P w K mg base (CXU P w) 1 a.f48 a.d48 ["pages","gone","wish"] (Yk):=by
 refine T.F48.okU1 Pr λvs H Q E h=>?_;unfold Yk at h;refine aO 7 h ?_;clear h;rintro p ss g w rfl hp hl hq;refine⟨rfl,λ_ _ _ _ hr=>⟨_,(ay (aK (eS jd (by rfl) T.dh xw (ae (aV lC (by rfl) T.cw gg (ae (ar aX (hW (["page"]:List Str) (["gone"]:List Str) [1] rfl ⟨rfl,by decide +kernel,by decide +kernel,by rfl,⟨⟨rfl,by nofun,by nofun⟩,trivial⟩⟩ (Bc (pv 0)) (λ_ _ _ _=>⟨(bK (i:=0) (by show((["page"]:List Str)++(["gone"]:List Str)).Nodup;decide +kernel) rfl (by nofun)),(show dC _ [_] [_] from⟨(ba (yS hr) (pv 0) (pv 1) (bd _)),trivial⟩),(pv 0)⟩)) (bX (ae (pv 2) aj))) aj)) aj)))),?_⟩⟩;exists⟨p,rfl,⟨_,aZ.of hp⟩,λacc hn _ _ _ _=>Ex (aZ.of hp) (by rw[y3];omega) hn (λj ys _=>ys=((ss.take j).filter λt=>!decide (t=g)).map V.str) (by simp) (λ_ _ _ _ _ h=>h) (λj ys H' _ h=>by rw[h,y3];exact v9 (AJ _ _) (by rw[yp];omega)) ?_ ?_⟩
 ·rintro j y ys H2 hy e rfl Y N hY hN;obtain⟨y,ey,rfl⟩:=Cc hy;have et:ss.take (j+1)=ss.take j++[y]:=by rw[gc,ey];rfl
  exists yU ?_;exists dZ (λh=>?_) (λh=>?_)
  ·exists hY _ _ al.rfl' ?_;rw[et,vk,gw,if_pos (by simp[h]),xk];rfl
  ·exists hN _ al.rfl' ?_;rw[et,vk,gw,if_neg (by simp[h]),nO,oK]
 ·rintro ys H2 e2 ha rfl;rw[y3,xq (yg _)]at ha;symm;intro p3 H3 n3 q3 e3;have zl:=AJ (λt=>!decide (t=g)) ss;exists II (e3 _ _ ha) q3 (by simp only[y3,yn,ub];omega) λq4 H4 n4 h4 e4=>?_;rw[show((ss.filter λt=>!decide (t=g)).map V.str++[V.str w])=((ss.filter λt=>!decide (t=g))++[w]).map V.str by rw[xk];rfl]at h4;exists Uy h4 (by simp only[xi,yn,ub];omega) λl5 s5 H5 n5 p5 o5 q5 e5=>?_;exists iT q5 λl6 H6 n6 q6 e6=>?_;exact hq l6 s5 H6 ⟨p5,o5⟩ q6 ((((e2.tr e3).tr e4).tr e5).tr e6)
def j6o(a:Adr):Sp:=λus H Q _=>∃m,Ci a H Q us (.store m)
theorem j6p(T:Txt K mg a):FnOk P w K mg base (CXU P w) 5 a.f_z7 a.d_z7 ["self","before","wish"] (j6o a):=by
 refine T.F7.okU1 sc7 λvs H Q E h=>?_;obtain⟨m,r,bv,wv,b,w,rfl,⟨dw,ia⟩,wf,hb,bt,pG,hw,bI,hq⟩:=h;refine⟨rfl,λ_ _ _ _ hr=>⟨_,(ax (bw (ba LI (pv 2) (pv 1) (by with_unfolding_all rfl)) (ay (aK (fV (pv 0) T.dv T.dm (vC T) (hr.mono (by decide)) (T.F1.b4) .nil cT (ae (pv 1) (ae (pv 2) (ae (bX (ae (pv 1) aj)) aj)))))) bA)
  (ay (aK (fV (pv 0) T.dv T.dm (vC T) (hr.mono (by decide)) (T.F1.b4) .nil cT (ae (pv 1) (ae (pv 2) (ae (hW (["gone"]:List Str) (["before","wish"]:List Str) [1,2] rfl ⟨rfl,by decide +kernel,by decide +kernel,by rfl,⟨⟨rfl,by nofun,by nofun⟩,⟨rfl,by nofun,by nofun⟩,trivial⟩⟩ (Bc (pv 1)) (λ_ _ _ _=>⟨(bK (i:=0) (by show((["gone"]:List Str)++(["before","wish"]:List Str)).Nodup;decide +kernel) rfl (by nofun)),(show dC _ [] [] from trivial),(bq (jf0 T) hr T.F48 (T.F48.b3) (ae (pv 1) (ae (pv 0) (ae (pv 2) aj))))⟩)) aj))))))),?_⟩⟩
 obtain⟨z,rfl,hz⟩:=bI;obtain⟨ss,rfl,hl,k7⟩:=bt;obtain⟨bp,rfl,bN⟩:=hb;obtain rfl:wv=.str z:=hw;have m4:=wf.2;have m1:=wf.1;have bt:(Gm.store m).ok 40 (.t ss):=⟨ss,rfl,hl,k7⟩
 have ne:∀L:List Str,L.length=m->L≠[]:=λL h e=>by rw[e]at h;simp at h;omega
 exists Iz bN rfl (Cb _) ?_;rw[Ca];exists bg (λhw=>?_) (λhw=>?_)
 ·symm;intro lp H1 n1 q1 e1;have vD:=e1 _ _ ia;have rq:ag.at_ H1 (.t ss) (.ref bp):=⟨bp,rfl,e1 _ _ bN⟩
  exists⟨r,lp,_,_,.store m,.t ss,.s z,[.t ss],_,rfl,⟨dw,vD⟩,wf,rq,bt,rfl,⟨z,rfl,hz⟩,q1,⟨rq,trivial⟩,by simp,λs hs=>?_,.inr (.inr ⟨[ss],rfl,λL hL=>?_⟩),λl zs ps H2 n2 q2 p2 nd mm e2=>hq l zs ps H2 (e1.free n2) q2 p2 nd (uW mm λs=>?_) (e1.tr e2)⟩
  ·rw[y9.mp hs];exact bt
  ·rw[y9.mp hL];exact ne _ hl
  ·rw[y9];exact⟨λe=>⟨ss,e,.inl ⟨hw,rfl⟩⟩,λ⟨L,e,h⟩=>h.elim (λy=>by rw[e,y.2]) λy=>absurd hw y.1⟩
 ·exists⟨bp,rfl,⟨_,aZ.of bN⟩,λacc hn _ _ _ _=>Ex (aZ.of bN) (by rw[y3];omega) hn (λj ys H2=>∃Ls:List (List Str),aq H2 ys Ls/\Ls.length=j/\∀i,i<j->pA ss (ss.getD i ⟨#[]⟩) z (Ls.getD i [])) ⟨[],.nil,rfl,λi hi=>by omega⟩ (λ_ _ _ _ k h=>?_) (λj ys H' _ h=>?_) ?_ ?_⟩
  ·obtain⟨Ls,h1,h2,h3⟩:=h;exact⟨Ls,aq.keep k h1,h2,h3⟩
  ·obtain⟨Ls,h1,h2,h3⟩:=h;have:=h1.length;omega
  ·rintro j y ys H2 hy e ⟨Ls,h1,h2,h3⟩ Y N hY hN;obtain⟨y,ey,rfl⟩:=Cc hy;have gy:ss.getD j ⟨#[]⟩=y:=by rw[y8,ey];rfl
   exists⟨bp,ss,y,z,rfl,e _ _ bN,by omega,λl ms H3 hs q3 e3=>?_⟩;refine hY _ _ e3 ⟨Ls++[ms],aq.snoc e3 q3 h1,by simp[h2],λi hi=>?_⟩;by_cases z:i<j
   ·rw[y8 (l:=Ls++[ms]),gz (by omega),<- y8];exact h3 i z
   ·obtain rfl:i=j:=(by omega);rw[y8 (l:=Ls++[ms]),va (by omega),h2,zn,gy];exact hs
  ·rintro ys H2 e2 ha ⟨Ls,h1,h2,h3⟩;rw[y3]at h2 h3;have k6:=h1.length;have dE:∀L,L∈Ls↔JR ss z L:=λL=>by
    constructor
    ·intro hL;obtain⟨i,hi,e⟩:=Vq.mpr hL;have:=h3 i (by omega);rw[e]at this;exact .inr ⟨hw,_,Cd (by omega),this⟩
    ·rintro(⟨y,_⟩|⟨_,g,hg,hs⟩)
     ·exact absurd y hw
     ·obtain⟨k,hk,rfl⟩:=vd hg;have eW:=h3 k (by omega);rw[y8,y4 hk]at eW;exact Vq.mp ⟨k,by omega,eW.uniq hs⟩
   have okL:∀L∈Ls,(Gm.store m).ok 31 (.t L):=λL hL=>Gm.dst_ok (n:=30) (w:=.s z) ⟨ss,rfl,hl,k7⟩ pG ⟨z,rfl,hz⟩ ⟨L,rfl,(dE L).mp hL⟩;have ig:=e2 _ _ ia;have dU:ag.at_ H2 (.t ss) (.ref bp):=⟨bp,rfl,e2 _ _ bN⟩
   exists⟨r,acc,_,_,.store m,.t ss,.s z,Ls.map .t,ys,rfl,⟨dw,ig⟩,wf,dU,bt,rfl,⟨z,rfl,hz⟩,ha,P4 h1,by rw[y3];omega,λs hs=>?_,.inr (.inr ⟨Ls,rfl,λL hL=>?_⟩),λl zs ps H3 n3 q3 p3 nd mm e3=>hq l zs ps H3 (e2.free n3) q3 p3 nd (uW mm λs=>?_) (e2.tr e3)⟩
   ·obtain⟨L,hL,rfl⟩:=yk.mp hs;exact okL L hL
   ·obtain⟨L',e,l1,_⟩:=okL L hL;injection e with e;exact ne L (by rw[e];exact l1)
   ·rw[yk];exact⟨λ⟨L,hL,e⟩=>⟨L,e.symm,(dE L).mp hL⟩,λ⟨L,e,hL⟩=>⟨L,(dE L).mpr hL,e.symm⟩⟩
def Yl:Sp:=λus H Q _=>∃(p:Addr) (ss:List Str),us=[.ref p]/\H p=some (.tup (ss.map V.str))/\ss.length<=4/\∀l vs H',H l=none->H' l=some (.lst vs)->aq H' vs (cG ss)->al H H'->Q (.ref l) H'
theorem j7w(T:Txt K mg a):FnOk P w K mg base (CXU P w) 1 a.f22 a.d22 ["things"] (Yl):=by
 refine T.F22.okU1 B5 λvs H Q E h=>?_;unfold Yl at h;refine aO 5 h ?_;clear h;rintro p ss rfl hp h4 hq;refine⟨rfl,λ_ _ _ _ hr=>⟨_,(ax (bh (i:=1) B5.nd rfl (by nofun) (bX (ae (fN aj) aj)))
  (ax (ik u8 rfl (Bc (pv 0)) (bK (i:=2) B5.nd rfl (by nofun)) (ax (bh (i:=3) B5.nd rfl (by nofun) (bX aj))
  (ax (ik u8 rfl (oC (pv 1)) (bK (i:=4) B5.nd rfl (by nofun)) (ay (lW (j9 v6 PySem.F.slot_list_extend PySem.F.type_list_extend jfm (pv 3) (ae (hW (["at"]:List Str) (["order","thing"]:List Str) [4,2] rfl ⟨rfl,by decide +kernel,by decide +kernel,by rfl,⟨⟨rfl,by nofun,by nofun⟩,⟨rfl,by nofun,by nofun⟩,trivial⟩⟩ (fL rfl T.c9 (ae (ar aX (aV cU (by rfl) T.cr xt (ae (pv 4) aj)) ak) aj)) (λ_ _ _ _=>⟨(bK (i:=0) (by show((["at"]:List Str)++(["order","thing"]:List Str)).Nodup;decide +kernel) rfl (by nofun)),(show dC _ [] [] from trivial),(ar aX (ar aX (fO fR (pv 1) gK (fj (pv 0))) (fN (ae (pv 2) aj))) (fO fR (pv 1) (fj (pv 0)) gK))⟩)) aj)))))
  (ay (bh (i:=1) B5.nd rfl (by nofun) (pv 3))))))
  (ay (aK (pv 1))))),?_⟩⟩
 symm;intro t0 H1 n1 q1 e1;symm;intro l0 H2 n2 q2 e2;exists⟨p,rfl,⟨_,aZ.of ((e1.tr e2) _ _ hp)⟩,jlu (xs:=ss.map V.str) (λi σ H4=>∃(l:Addr) (vs:List V) (u1 u2 u3:Option V),σ=[some (.ref p),some (.ref l),u1,u2,u3]/\al H H4/\H l=none/\H4 l=some (.lst vs)/\aq H4 vs (cG (ss.take i))) ⟨l0,_,none,none,none,rfl,e1.tr e2,e1.free n2,q2,.cons (L:=[]) (e2 _ _ q1) .nil⟩ (λi σ H3 _ h=>by obtain⟨_,_,_,_,_,_,x,_⟩:=h;exact aZ.of (x _ _ hp)) ?_ ?_⟩
 ·rintro i x σ H5 hx hE;refine aO 9 hE ?_;clear hE;rintro l vs u1 u2 u3 rfl x5 nl q5 GU;obtain⟨y,ey,rfl⟩:=Cc hx;have hi:i<ss.length:=(xl.mp ey).1;have dE:∀L∈cG (ss.take i),L.length=i:=λL hL=>by rw[(JT hL).length_eq,yp];omega
  have lo:=Qc (ss:=ss.take i) (by rw[yp];omega);have lv:=GU.length;symm;intro lg H6 n6 q6 e6;exists⟨l,rfl,⟨_,SqL.of (e6 _ _ q5)⟩,HD (xs:=vs) (λj σ H7=>∃(ws:List V) (u:Option V),σ=[some (.ref p),some (.ref l),some (.str y),some (.ref lg),u]/\al H5 H7/\H7 lg=some (.lst ws)/\aq H7 ws (((cG (ss.take i)).take j).flatMap (re y))) ⟨[],u3,rfl,e6,q6,.nil⟩ (λj σ H7 _ h=>by obtain⟨_,_,_,x,_⟩:=h;exact SqL.of (x _ _ q5)) ?_ ?_⟩
  ·rintro j z σ H7 hz hE;refine aO 5 hE ?_;clear hE;rintro ws u rfl x7 q7 rz;have hj:j<(cG (ss.take i)).length:=by rw[<- lv];exact(xl.mp hz).1
   obtain⟨c,rfl,hc⟩:=GU.get j z hz;obtain⟨L,eL,hL⟩:∃L,(cG (ss.take i))[j]?=some L/\L.length=i:=⟨_,y4 hj,dE _ (ua hj)⟩
   rw[y8,eL,IQ]at hc;have Ym:=x7 _ _ hc;have lw:=rz.length;rw[Qb y (k:=i) λM hM=>dE M (gm hM),yp]at lw;have lw2:ws.length<=24*(i+1):=by rw[lw];exact y9r _ (by omega)
   exists hZ Ym ?_;rw[y3];exists⟨L.length+1,by simp,by omega,by omega,λacc hn _ _ _ _=>sR (by omega) hn (λk ys H8=>aq H8 ys ((vi k).map λm=>L.take m++y::L.drop m)) .nil (λ_ _ _ _ kk h=>aq.keep kk h) (λk ys H' _ h=>by have:=h.length;simp at this;omega) ?_ ?_⟩
   ·rintro k ys H8 hk e8 J8 Y N hY hN;have Yn:=e8 _ _ Ym;rw[show((0:Int)+(k:Nat))=(k:Nat) by omega];exists jN Yn λt9 H9 q9 e9=>?_;rw[JP (by omega)]at q9;symm;intro t10 mN GV ii iU;exists gO (iU _ _ q9) ii (by simp only[y3,yp,yn,ub];omega) λt11 AL J9 Ka=>?_;have QK:=(e9.tr (iU.tr Ka)) _ _ Yn;exists jN QK λt12 Kb Kc AM=>?_;rw[JQ (by omega)]at Kc;exists gO (AM _ _ J9) Kc (by simp only[y3,yp,ve,xi,yn,ub];omega) λt13 H13 QL GW=>?_;have Yo:=e9.tr (iU.tr (Ka.tr (AM.tr GW)));refine hY _ _ Yo ?_;rw[sY,xk];refine aq.snoc Yo ?_ J8;rw[QL];simp
   ·rintro ys H8 e8 ha J8;have ly:=J8.length;rw[y3,tG]at ly;exists jkl (e8 _ _ q7) ha (by omega) λH9 q9 b9=>?_;exists⟨_,_,rfl,al.but (x7.tr e8) b9 n6,q9,?_⟩;rw[gc,eL,List.flatMap_append];refine aq.butL (e8 _ _ q7) b9 (aq.app (rz.mono e8) ?_);show aq H8 ys ([L].flatMap (re y));rw[List.flatMap_singleton];exact J8
  ·rintro σ H7 hE;refine aO 5 hE ?_;clear hE;rintro ws u rfl x7 q7 rz;rw[xq (by omega)]at rz;exists⟨lg,ws,_,_,_,rfl,x5.tr x7,x5.free n6,q7,?_⟩;rw[gc,ey];show aq H7 ws (cG (ss.take i++[y]));rw[WW];exact rz
 ·rintro σ H5 hE;refine aO 9 hE ?_;clear hE;rintro l vs u1 u2 u3 rfl x5 nl q5 GU;rw[y3,ut]at GU;symm;exact hq l vs H5 nl q5 GU x5
def j6q(a:Adr):Sp:=λus H Q _=>∃ts,Ci a H Q us (.shelf ts)
theorem j6r(T:Txt K mg a):FnOk P w K mg base (CXU P w) 5 a.f_z5 a.d5 ["self","before","wish"] (j6q a):=by
 refine T.F5.okU1 sc5 λvs H Q E h=>?_;obtain⟨ts,r,bv,wv,b,w,rfl,⟨dw,fv,ia⟩,wf,hb,bt,_,hw,bI,hq⟩:=h;refine⟨rfl,λ_ _ _ _ hr=>⟨_,(ax (bw (ba HI (aV cU (by rfl) T.cr xt (ae (pv 1) aj)) ak (bd _)) (ay RN) bA)
  (ay (aK (fV (pv 0) T.mr T.t7 (vC T) (hr.mono (by decide)) (T.F1.b4) .nil cT (ae (pv 1) (ae (pv 2) (ae (bq (j7w T) hr T.F22 (T.F22.b1) (ae (pv 1) aj)) aj))))))),?_⟩⟩
 obtain⟨z,rfl,hz⟩:=bI;obtain⟨ss,rfl,pm⟩:=bt;obtain⟨bp,rfl,bN⟩:=hb;obtain rfl:wv=.str z:=hw;have l4:=wf.2.1;have l1:=wf.1;have ln:=pm.length_eq;have bt:(Gm.shelf ts).ok 40 (.t ss):=⟨ss,rfl,pm⟩
 have Yp:ss.length<=4:=by omega
 exists hZ bN ?_;rw[y3];exists bg (λc=>absurd c (by omega)) (λ_=>?_);exists⟨bp,ss,rfl,bN,Yp,λl vs H1 n1 q1 Yq e1=>?_⟩;have lv:=Yq.length;have lo:=Qc Yp;have vD:=e1 _ _ ia;have rq:ag.at_ H1 (.t ss) (.ref bp):=⟨bp,rfl,e1 _ _ bN⟩
 exists⟨r,l,_,_,.shelf ts,.t ss,.s z,(cG ss).map .t,vs,rfl,⟨dw,fv,vD⟩,wf,rq,bt,rfl,⟨z,rfl,hz⟩,q1,P4 Yq,by rw[y3];omega,λs hs=>?_,.inr (.inr ⟨cG ss,rfl,λL hL e=>?_⟩),λl zs ps H3 n3 q3 p3 nd mm e3=>hq l zs ps H3 (e1.free n3) q3 p3 nd (uW mm λs=>?_) (e1.tr e3)⟩
 ·obtain⟨L,hL,rfl⟩:=yk.mp hs;exact⟨L,rfl,(JT hL).trans pm⟩
 ·have:=(JT hL).length_eq;rw[e]at this;simp at this;omega
 ·rw[yk];exact⟨λ⟨L,hL,e⟩=>⟨L,e.symm,JT hL⟩,λ⟨L,e,hL⟩=>⟨L,Xb hL,e.symm⟩⟩
def Yr:Sp:=λvs H Q _=>∃(p:Addr) (ns:List Int) (k:Nat) (w:Int),vs=[.ref p,.int k,.int w]/\H p=some (.tup (ns.map V.int))/\k<ns.length/\ns.length<=60/\∀l ms H',eY ns k w ms->H' l=some (.tup (ms.map V.int))->al H H'->Q (.ref l) H'
theorem jpf(T:Txt K mg a):FnOk P w K mg base (CXU P w) 1 a.f53 a.d53 ["places","at","wish"] (Yr):=by
 refine T.F53.okU1 Pt λvs H Q E h=>?_;unfold Yr at h;refine aO 8 h ?_;clear h;rintro p ns k w rfl hp hk hz hq;refine⟨rfl,λ_ _ _ _ hr=>⟨_,(ay (aK (eS jd (by rfl) T.dh xw (ae (aV lC (by rfl) T.cw gg (ae (ar aX (ar aX (fO fR (pv 0) gK (fj (pv 1))) (fN (ae (pv 2) aj))) (fO fR (pv 0) (fj (ar aX (pv 1) ak)) gK)) aj)) aj)))),?_⟩⟩;exists jN hp λl1 H1 q1 e1=>?_;rw[PU (by omega)]at q1;symm;intro l2 H2 n2 q2 e2;exists gO (e2 _ _ q1) q2 (by simp;omega) λl3 H3 q3 e3=>?_;have x3:=(e1.tr e2).tr e3;exists jN (x3 _ _ hp) λl4 H4 q4 e4=>?_;rw[show(some ((k:Int)+1))=some ((k+1:Nat):Int)from by rw[GX];rfl,PR (by omega)]at q4;exists gO (e4 _ _ q3) q4 (by simp;omega) λl5 H5 q5 e5=>?_;have e:(ns.take k).map V.int++[V.int w]++(ns.drop (k+1)).map V.int=(ns.take k++[w]++ns.drop (k+1)).map V.int:=by simp
 rw[e]at q5;exists uA q5 (by simp;omega) λl6 ms H6 n6 pm pw q6 e6=>?_;exists iT q6 λl7 H7 n7 q7 e7=>?_;exact hq l7 ms H7 ⟨pm,pw⟩ q7 (x3.tr (e4.tr (e5.tr (e6.tr e7))))
def j7x(a:Adr):Sp:=λus H Q _=>∃m,Ci a H Q us (.line m)
theorem j7y(T:Txt K mg a):FnOk P w K mg base (CXU P w) 5 a.f16 a.d16 ["self","before","wish"] (j7x a):=by
 refine T.F16.okU1 Ps λvs H Q E h=>?_;obtain⟨m,r,bv,wv,b,w,rfl,⟨dw,ia⟩,wf,hb,bt,_,hw,bI,hq⟩:=h;refine⟨rfl,λ_ _ _ _ hr=>⟨_,(ax (bw (ba LI (pv 2) (pv 1) (by with_unfolding_all rfl)) (ay (aK (fV (pv 0) T.md T.eh (vC T) (hr.mono (by decide)) (T.F1.b4) .nil cT (ae (pv 1) (ae (pv 2) (ae (bX (ae (pv 1) aj)) aj)))))) bA)
  (ay (aK (fV (pv 0) T.md T.eh (vC T) (hr.mono (by decide)) (T.F1.b4) .nil cT (ae (pv 1) (ae (pv 2) (ae (hW (["at"]:List Str) (["before","wish"]:List Str) [1,2] rfl ⟨rfl,by decide +kernel,by decide +kernel,by rfl,⟨⟨rfl,by nofun,by nofun⟩,⟨rfl,by nofun,by nofun⟩,trivial⟩⟩ (fL rfl T.c9 (ae (aV cU (by rfl) T.cr xt (ae (pv 1) aj)) aj)) (λ_ _ _ _=>⟨(bK (i:=0) (by show((["at"]:List Str)++(["before","wish"]:List Str)).Nodup;decide +kernel) rfl (by nofun)),(show dC _ [] [] from trivial),(bq (jpf T) hr T.F53 (T.F53.b3) (ae (pv 1) (ae (pv 0) (ae (pv 2) aj))))⟩)) aj))))))),?_⟩⟩
 obtain⟨z,rfl⟩:=bI;obtain⟨ns,rfl,hl⟩:=bt;obtain⟨bp,rfl,bN⟩:=hb;obtain rfl:wv=.int z:=hw;have m3:=wf.2;have m1:=wf.1;have bt:(Gm.line m).ok 40 (.l ns):=⟨ns,rfl,hl⟩
 have ne:∀L:List Int,L.length=m->L≠[]:=λL h e=>by rw[e]at h;simp at h;omega
 exists Iz bN rfl (IA _) ?_;rw[IC];exists bg (λhw=>?_) (λhw=>?_)
 ·symm;intro lp H1 n1 q1 e1;have vD:=e1 _ _ ia;have rq:ag.at_ H1 (.l ns) (.ref bp):=⟨bp,rfl,e1 _ _ bN⟩
  exists⟨r,lp,_,_,.line m,.l ns,.i z,[.l ns],_,rfl,⟨dw,vD⟩,wf,rq,bt,rfl,⟨z,rfl⟩,q1,⟨rq,trivial⟩,by simp,λs hs=>?_,.inr (.inl ⟨[ns],rfl,λL hL=>?_⟩),λl zs ps H2 n2 q2 p2 nd mm e2=>hq l zs ps H2 (e1.free n2) q2 p2 nd (uW mm λs=>?_) (e1.tr e2)⟩
  ·rw[y9.mp hs];exact bt
  ·rw[y9.mp hL];exact ne _ hl
  ·rw[y9];exact⟨λe=>⟨ns,e,.inl ⟨hw,rfl⟩⟩,λ⟨L,e,h⟩=>h.elim (λy=>by rw[e,y.2]) λy=>absurd hw y.1⟩
 ·exists hZ bN ?_;rw[y3];exists⟨_,rfl,by omega,by omega,λacc hn _ _ _ _=>sR (by omega) hn (λj ys H2=>∃Ls:List (List Int),bc H2 ys Ls/\Ls.length=j/\∀i,i<j->eY ns i z (Ls.getD i [])) ⟨[],.nil,rfl,λi hi=>by omega⟩ (λ_ _ _ _ k h=>?_) (λj ys H' _ h=>?_) ?_ ?_⟩
  ·obtain⟨Ls,h1,h2,h3⟩:=h;exact⟨Ls,bc.keep k h1,h2,h3⟩
  ·obtain⟨Ls,h1,h2,h3⟩:=h;have:=h1.length;omega
  ·rintro j ys H2 hj e ⟨Ls,h1,h2,h3⟩ Y N hY hN;exists⟨bp,ns,j,z,by simp,e _ _ bN,by omega,by omega,λl ms H3 hs q3 e3=>?_⟩;refine hY _ _ e3 ⟨Ls++[ms],bc.snoc e3 q3 h1,by simp[h2],λi hi=>?_⟩;by_cases y:i<j
   ·rw[y8 (l:=Ls++[ms]),gz (by omega),<- y8];exact h3 i y
   ·obtain rfl:i=j:=(by omega);rw[y8 (l:=Ls++[ms]),va (by omega),h2,zn];exact hs
  ·rintro ys H2 e2 ha ⟨Ls,h1,h2,h3⟩;have k6:=h1.length;have dE:∀L,L∈Ls↔WH ns z L:=λL=>by
    constructor
    ·intro hL;obtain⟨i,hi,e⟩:=M9.mpr hL;have:=h3 i (by omega);rw[e]at this;exact .inr ⟨hw,i,by omega,this⟩
    ·rintro(⟨y,_⟩|⟨_,k,hk,hs⟩)
     ·exact absurd y hw
     ·have eW:=h3 k (by omega);exact M9.mp ⟨k,by omega,jV (eW.1.trans hs.1.symm) eW.2 hs.2⟩
   have GY:∀L∈Ls,L.length=m:=λL hL=>by
    rcases(dE L).mp hL with⟨y,_⟩|⟨_,k,hk,hs⟩
    ·exact absurd y hw
    ·rw[hs.len hk,hl]
   have ig:=e2 _ _ ia;have dU:ag.at_ H2 (.l ns) (.ref bp):=⟨bp,rfl,e2 _ _ bN⟩
   exists⟨r,acc,_,_,.line m,.l ns,.i z,Ls.map .l,ys,rfl,⟨dw,ig⟩,wf,dU,bt,rfl,⟨z,rfl⟩,ha,W4 h1,by rw[y3];omega,λs hs=>?_,.inr (.inl ⟨Ls,rfl,λL hL=>ne L (GY L hL)⟩),λl zs ps H3 n3 q3 p3 nd mm e3=>hq l zs ps H3 (e2.free n3) q3 p3 nd (uW mm λs=>?_) (e2.tr e3)⟩
   ·obtain⟨L,hL,rfl⟩:=yk.mp hs;exact⟨L,rfl,GY L hL⟩
   ·rw[yk];exact⟨λ⟨L,hL,e⟩=>⟨L,e.symm,(dE L).mp hL⟩,λ⟨L,e,hL⟩=>⟨L,(dE L).mpr hL,e.symm⟩⟩
def j7z(a:Adr):Sp:=λus H Q _=>∃W,Ci a H Q us (.hire W)
theorem j80(T:Txt K mg a):FnOk P w K mg base (CXU P w) 5 a.f14 a.d14 ["self","before","wish"] (j7z a):=by
 refine T.F14.okU1 Pu λvs H Q E h=>?_;obtain⟨W,r,bv,wv,b,w,rfl,⟨dw,ia⟩,wf,hb,bt,_,hw,bI,hq⟩:=h;refine⟨rfl,λ_ _ _ _ hr=>⟨_,(ay (aK (fV (pv 0) T.my T.tm (vC T) (hr.mono (by decide)) (T.F1.b4) .nil cT (ae (pv 1) (ae (pv 2) (ae (bX (ae ak (ae ak aj))) aj)))))),?_⟩⟩;symm;intro l1 H1 n1 q1 e1;exists⟨r,l1,_,_,.hire W,b,w,(fI 2).map ag.i,_,rfl,⟨dw,e1 _ _ ia⟩,wf,ag.mono e1 hb,bt,aw.mono e1 hw,bI,q1,Ce _,by decide,λs hs=>?_,.inl ⟨2,by decide,rfl⟩,λl zs ps H2 n2 q2 p2 nd mm e2=>hq l zs ps H2 (e1.free n2) q2 p2 nd (uW mm λs=>?_) (e1.tr e2)⟩
 ·rcases(show s=.i 0\/s=.i 1 by simpa[fI,sY] using hs)with z|z
  ·exact .inl z
  ·exact .inr z
 ·show s∈(fI 2).map ag.i↔s=.i 0\/s=.i 1;simp[fI,sY]
def j81(a:Adr):Sp:=λus H Q _=>∃R,Ci a H Q us (.bags R)
theorem j82(T:Txt K mg a):FnOk P w K mg base (CXU P w) 5 a.f12 a.d12 ["self","before","wish"] (j81 a):=by
 refine T.F12.okU1 Pw λvs H Q E h=>?_;obtain⟨R,r,bv,wv,b',w,rfl,⟨dw,ia⟩,wf,km,bt,_,hw,bI,hq⟩:=h;have jX:=T.mt;have o9:=T.dn;refine⟨rfl,λ_ _ _ _ hr=>⟨_,(ax (sQ (i:=3) (["load"]:List Str) (["wish","self"]:List Str) [2,0] Pw.nd rfl (k9 rfl) rfl ⟨rfl,by decide +kernel,by decide +kernel,by rfl,⟨⟨rfl,by nofun,by nofun⟩,⟨rfl,by nofun,by nofun⟩,trivial⟩⟩ (oC (Wm hr rfl (by rfl) T.cw (by rfl) T.n_set (ae (pv 1) aj))) (λ_ _ _ _=>⟨(bK (i:=0) (by show((["load"]:List Str)++(["wish","self"]:List Str)).Nodup;decide +kernel) rfl (by nofun)),(show dC _ [_] [_] from⟨(ba yY (ar aX (pv 0) (pv 1)) (Dg (pv 2) rfl) (bd _)),trivial⟩),(pv 0)⟩))
  (ax (sQ (i:=4) (["load"]:List Str) (["before","wish"]:List Str) [1,2] Pw.nd rfl (k9 rfl) rfl ⟨rfl,by decide +kernel,by decide +kernel,by rfl,⟨⟨rfl,by nofun,by nofun⟩,⟨rfl,by nofun,by nofun⟩,trivial⟩⟩ (oC (pv 3)) (λ_ _ _ _=>⟨(bK (i:=0) (by show((["load"]:List Str)++(["before","wish"]:List Str)).Nodup;decide +kernel) rfl (by nofun)),(show dC _ [] [] from trivial),(bq (Yc T) hr T.F49 (T.F49.b3) (ae (pv 1) (ae (IG QA QB QC jdj (pv 1) (ae (pv 0) aj)) (ae (pv 2) aj))))⟩))
  (ay (aK (fV (pv 0) T.mt T.tj (vC T) (hr.mono (by decide)) (T.F1.b4) .nil cT (ae (pv 1) (ae (pv 2) (ae (ar aX (pv 4) (bX (ae (bq (Ye T) hr T.F50 (T.F50.b2) (ae (pv 1) (ae (pv 2) aj))) aj))) aj)))))))),?_⟩⟩
 obtain⟨s,rfl,s1,s2⟩:=bI;obtain⟨os,rfl,hL,l4⟩:=bt;obtain⟨b,rfl,hb⟩:=km;obtain rfl:wv=.int s:=hw;exists uL os (.inr hb) (λn h=>h) (by omega) λlk ks H1 n1 q1 pwk mk e1=>?_;have vD:=e1 _ _ ia;have rq:=e1 _ _ hb;have lk:=Jv (pwk.imp λz e=>by omega) λx hx=>(mk x).mp hx;exists⟨_,rfl,⟨_,SqL.of q1⟩,λacc hn _ _ _ _=>Ew (SqL.of q1) (by rw[y3];omega) hn (λj ys _=>ys=((ks.take j).filter λk=>decide (k+s<=R)).map V.int) rfl (λ_ _ _ _ _ h=>h) (λj ys H' _ h=>by rw[h,y3];exact v9 (AJ _ _) (by rw[yp];omega)) ?_ ?_⟩
 ·rintro j y ys H2 hy e rfl Y N hY hN;obtain⟨y,ey,rfl⟩:=BM hy;have ig:=e _ _ vD;have et:ks.take (j+1)=ks.take j++[y]:=by rw[gc,ey];rfl
  exists bg (λc=>?_) (λc=>?_)
  ·exists hY _ _ al.rfl' ?_;rw[et,vk,gw,if_pos (decide_eq_true c),nO,xk];rfl
  ·exists hN _ al.rfl' ?_;rw[et,vk,gw,if_neg (λz=>c (of_decide_eq_true z)),nO,oK]
 rintro ys H2 e2 ha rfl;rw[y3,ut]at ha;have ig:=e2 _ _ vD;have dU:=e2 _ _ rq;have lf:=AJ (λk=>decide (k+s<=R)) ks;obtain⟨fs,efs,Yt⟩:∃fs,ks.filter (λk=>decide (k+s<=R))=fs/\∀k,k∈fs↔k∈os/\k+s<=R:=⟨_,rfl,λk=>by rw[kT,mk,decide_eq_true_iff]⟩
 rw[efs]at ha lf;exists⟨_,rfl,⟨_,SqL.of ha⟩,λrp j4 _ _ _ _=>Ew (SqL.of ha) (by rw[y3];omega) j4 (λj ys H3=>∃Ls:List (List Int),bc H3 ys Ls/\Ls.length=j/\(∀L∈Ls,eE R os s L 0)/\∀i,i<j->(Ls.getD i []).Perm (os.set (os.idxOf (fs.getD i 0)) (fs.getD i 0+s))/\(Ls.getD i []).Pairwise (·<=·)) ⟨[],.nil,rfl,(λL hL=>by cases hL),λi hi=>by omega⟩ (λ_ _ _ _ k h=>?_) (λj ys H' _ h=>?_) ?_ ?_⟩
 ·obtain⟨Ls,h1,h2⟩:=h;exact⟨Ls,bc.keep k h1,h2⟩
 ·obtain⟨Ls,h1,h2,_⟩:=h;have:=h1.length;omega
 ·rintro j y ys H3 hy e ⟨Ls,h1,h2,h3,h4⟩ Y N hY hN;obtain⟨y,ey,rfl⟩:=BM hy;have gy:fs.getD j 0=y:=by rw[y8,ey];rfl
  obtain⟨yo,yR⟩:=(Yt y).mp (vg ey);have ie:=e _ _ dU;have ix:=E4.mpr yo;have gi:os.getD (os.idxOf y) 0=y:=by rw[y8,y4 ix,E5 ix];rfl
  exists jga ie yo (by omega) ?_;exists⟨b,os,s,os.idxOf y,rfl,ie,ix,by omega,λl ms H4 pm pw q4 e4=>?_⟩;rw[gi]at pm;refine hY _ _ e4 ⟨Ls++[ms],bc.snoc e4 q4 h1,by simp[h2],λL hL=>?_,λi hi=>?_⟩
  ·rcases yw.mp hL with z|z
   ·exact h3 L z
   ·rw[y9.mp z];exact⟨pw,.inr ⟨rfl,_,ix,by rw[gi];exact yR,by rw[gi];exact pm⟩⟩
  ·by_cases z:i<j
   ·rw[y8 (l:=Ls++[ms]),gz (by omega),<- y8];exact h4 i z
   ·obtain rfl:i=j:=(by omega);rw[y8 (l:=Ls++[ms]),va (by omega),h2,zn,gy];exact⟨pm,pw⟩
 rintro ys H3 e3 rn ⟨Ls,h1,h2,h3,h4⟩;rw[y3]at h2 h4;have lQ:=e3 _ _ ig;have ie:=e3 _ _ dU;have ly:=h1.length;exists⟨b,os,s,rfl,ie,by omega,λqo go H4 po wo q4 e4=>?_⟩;have fK:=e4 _ _ lQ;symm;intro l5 H5 n5 q5 e5;exists II ((e4.tr e5) _ _ rn) q5 (by simp;omega) λl6 H6 n6 q6 e6=>?_;have QM:=e5.tr e6;symm;have L7:eE R os s go 1:=⟨wo,.inl ⟨rfl,po⟩⟩
 have gL:∀L∈Ls++[go],∃pr,eE R os s L pr:=λL rA=>by
  rcases yw.mp rA with z|z
  ·exact⟨0,h3 L z⟩
  ·rw[y9.mp z];exact⟨1,L7⟩
 have okL:∀L∈Ls++[go],(Gm.bags R).ok 31 (.l L):=λL rA=>by
  obtain⟨pr,hg⟩:=gL L rA;exact Gm.dst_ok (n:=30) (b:=.l os) (w:=.i s) ⟨os,rfl,hL,l4⟩ trivial ⟨s,rfl,s1,s2⟩ ⟨L,pr,rfl,hg⟩
 have x6:=e1.tr (e2.tr (e3.tr (e4.tr QM)));refine⟨r,l6,_,_,.bags R,.l os,.i s,(Ls++[go]).map .l,_,rfl,⟨dw,QM _ _ fK⟩,wf,⟨b,rfl,(e4.tr QM) _ _ ie⟩,⟨os,rfl,hL,by omega⟩,rfl,⟨s,rfl,s1,s2⟩,q6,W4 (bc.snoc e6 ((e5.tr e6) _ _ q4) (h1.mono (e4.tr e5))),by simp;omega,λs' fu=>?_,.inr (.inl ⟨Ls++[go],rfl,λL rA e=>?_⟩),λl7 y7 ps H7 n7 q7 p7 nd7 m7 e7=>hq l7 y7 ps H7 (x6.free n7) q7 p7 nd7 (uW m7 λs'=>?_) (x6.tr e7)⟩
 ·obtain⟨L,rA,rfl⟩:=yk.mp fu;exact Gm.ok_mono (okL L rA) (by omega)
 ·obtain⟨pr,hg⟩:=gL L rA;rcases hg.2 with⟨_,pm⟩|⟨_,k,hk,_,pm⟩
  ·have:=pm.length_eq;rw[e]at this;simp at this
  ·have:=pm.length_eq;rw[e]at this;simp at this;omega
 ·rw[yk];refine⟨λ⟨L,rA,e⟩=>(gL L rA).elim λpr hg=>⟨L,pr,e.symm,hg⟩,λ⟨L,pr,e,hg⟩=>⟨L,?_,e.symm⟩⟩;rcases hg.2 with⟨_,pm⟩|⟨_,k,hk,hR,pm⟩
  ·exact yf _ (y9.mpr (jV (pm.trans po.symm) hg.1 wo))
  ·have ko:os.getD k 0∈os:=WB hk;obtain⟨i,hi,ei⟩:=vd ((Yt _).mpr ⟨ko,hR⟩);have gi:fs.getD i 0=os.getD k 0:=by rw[y8,y4 hi];exact ei
   obtain⟨w1,w2⟩:=h4 i (by omega);rw[gi]at w1;have ix:=E4.mpr ko;have gk:os.getD (os.idxOf (os.getD k 0)) 0=os.getD k 0:=by rw[y8,y4 ix,E5 ix];rfl
   refine yy _ (M9.mp ⟨i,by omega,?_⟩);exact jV (w1.trans ((Wy ix hk gk).trans pm.symm)) w2 hg.1
def Yu(a:Adr):Sp:=λvs H Q _=>∃(w d:Addr) (xv:V) (g:Gm) (r:Row ag) (x:aw) (L:List ag),vs=[.ref w,.ref d,xv]/\h7 a H g w/\g.wf/\eI H g d r/\(r.map (·.1)).Nodup/\(∀e∈r,g.ok 30 e.1/\g.nd e.1)/\x.at_ H xv/\g.okW x/\L.length<=60/\(∀e∈r,∀s,g.dst e.1 x s->s∈L)/\
 ∀d' H',H d'=none->eI H' g d' (dJ (dB g x) r)->(∀e∈r,jz (g.to e.1 x))->al H H'->Q (.ref d') H'
theorem jf1(T:Txt K mg a):FnOk P w K mg base (CXU P w) 6 a.f47 a.d47 ["world","row","wish"] (Yu a):=by
 refine T.F47.okU1 B4 λvs H Q E h=>?_;unfold Yu at h;refine aO 12 h ?_;clear h;rintro w d xv g r x L rfl hw wf ⟨o,u,af,hd,QO,hR⟩ nd h;refine aO 5 h ?_;clear h;rintro Ct hx rB GZ hL hq;refine⟨rfl,λ_ _ _ _ hr=>⟨_,(ax (bh (i:=3) B4.nd rfl (by nofun) (lD jj4 jj5))
  (ax (ik u8 rfl (VO (tV (pv 1)) (tW (pv 1))) (bK (i:=4) B4.nd rfl (by nofun)) (ax (bh (i:=5) B4.nd rfl (by nofun) (aD aF (BR hr (pv 1) (pv 4) (λ_ _=>rfl)) ak (λ_ _=>rfl)))
  (ay (ik u8 rfl (oC (lD (fV (pv 0) T.mt T.mj (j82 T) (hr.mono (by decide)) (T.F12.b3) .nil cT (ae (pv 4) (ae (pv 2) aj))) (lD (fV (pv 0) T.my T.mq (j80 T) (hr.mono (by decide)) (T.F14.b3) .nil cT (ae (pv 4) (ae (pv 2) aj))) (lD (fV (pv 0) T.md T.mh (j7y T) (hr.mono (by decide)) (T.F16.b3) .nil cT (ae (pv 4) (ae (pv 2) aj))) (lD (fV (pv 0) T.mr T.m6 (j6r T) (hr.mono (by decide)) (T.F5.b3) .nil cT (ae (pv 4) (ae (pv 2) aj))) (lD (fV (pv 0) T.dv T.m9 (j6p T) (hr.mono (by decide)) (T.F7.b3) .nil cT (ae (pv 4) (ae (pv 2) aj))) (fV (pv 0) T.t9 T.mi (j7u T) (hr.mono (by decide)) (T.F20.b3) .nil cT (ae (pv 4) (ae (pv 2) aj))))))))) (CY rfl (oA (bK (i:=6) B4.nd rfl (by nofun)) (oA (bK (i:=7) B4.nd rfl (by nofun)) CW))) (ay (bw (PW.pt (A7 (ba (jo2 hr) (pv 6) (pv 3) (by with_unfolding_all rfl)) (CQ (ba HH (ar aX (pv 5) (pv 7)) (aD aF (BR hr (pv 3) (pv 6) (λ_ _=>rfl)) ak (λ_ _=>rfl)) (bd _))))) (ay (jjo hr (pv 3) (pv 6) (fN (ae (ar aX (pv 5) (pv 7)) (ae (pv 4) aj))) rfl)) bA))))))
  (ax (bw (ba HI (aV FJ (by rfl) T.cr xt (ae (pv 3) aj)) (RJ (v:=V.int 60) (by rfl) T.qd ⟨_,rfl⟩) (bd _)) (ay RN) bA)
  (ay (aK (Vy (pv 3))))))),?_⟩⟩
 have mk:∀s,g.ok 31 s->(fb s).tup=g.T/\s≠.t []:=λs h=>Gm.kd wf h;exists zO g.T λfd H1 u1 n1 q1 d1 e1=>?_;exists FH g.T (λh ⟨v,h1,h2⟩=>⟨v,h1,h _ _ h2⟩) ?_;exists⟨d,o,u,af,rfl,e1 _ _ hd,QO,FI QO (Pv:=λi σ H3=>∃(u1 u2 u3 u4:Option V) (uf:HO) (kf:List (KU×V)),σ=[some (.ref w),some (.ref d),some xv,some (.ref fd),u1,u2,u3,u4]/\al H H3/\H3 fd=some uf/\DU uf g.T kf/\fS H3 kf ((r.take i).foldl (Az (dB g x)) [])/\∀e∈r.take i,jz (g.to e.1 x)) ⟨none,none,none,none,_,[],rfl,e1,q1,d1,.nil,λe he=>(by cases he)⟩ (λi σ H3 _ h=>by obtain⟨_,_,_,_,_,_,_,x,_⟩:=h;exact x _ _ hd) ?_ ?_⟩
 ·rintro i kv sv σ H3 QP AN hE;refine aO 11 hE ?_;clear hE;rintro u1 u2 u3 u4 uf kf rfl x3 qf df rf hP;obtain⟨s,q,p,b,bv,er,rfl,hq0,hbv⟩:=hR.at i kv QP;have bL:=vg er;obtain⟨QQ,AO⟩:=Ct _ bL;have iL:g.ok 30 s:=QQ;have ks:=Gm.kd wf iL;have gs:=Cj nd bL;have hV:s.at_ H3 sv:=(pE ks.2).mp AN;obtain⟨q',p',b',pD,v1,v2,v3,v4⟩:∃q' p' b' pD,bY af (fb s)=some (.ref q')/\aC r s=some (p',b')/\H q'=some (.tup [.int p',pD])/\uX ag.at_ H b' pD:=by
   rcases hR.val uY s with⟨_,z⟩|z
   ·rw[gs]at z;cases z
   ·exact z
  rw[gs]at v2;cases v2;have et:r.take (i+1)=r.take i++[(s,p,b)]:=by rw[gc,er];rfl
  have QR:=Qn (dB g x) r (r.take i) [] [] (λe h=>gm h) ⟨DG,λs x h=>(by cases h),λe h=>(by cases h)⟩;generalize dQ:(r.take i).foldl (Az (dB g x)) []=acc at *;exists B0 (.inr ⟨o,x3 _ _ hd⟩) QO ks.1 AN v1 ?_;exists cP (x3 _ _ v3) rfl ?_;have jA:=h7.mono x3 hw;have Cv:=aw.mono x3 hx;exists via (P:=λK=>Xd H3 K g s x) (λK hK=>?_) ?_
  ·cases g with
   |hire W=>
    refine dI (oY ?_);obtain⟨dw,fK⟩:=jA;symm;exact⟨W,w,_,_,s,x,rfl,⟨dw,fK⟩,wf,hV,iL,AO,Cv,rB,hK⟩
   |line m=>
    refine dI (dI (oY ?_));obtain⟨dw,fK⟩:=jA;symm;exact⟨m,w,_,_,s,x,rfl,⟨dw,fK⟩,wf,hV,iL,AO,Cv,rB,hK⟩
   |shelf ts=>
    refine dI (dI (dI (oY ?_)));obtain⟨dw,fv,fK⟩:=jA;symm;exact⟨ts,w,_,_,s,x,rfl,⟨dw,fv,fK⟩,wf,hV,iL,AO,Cv,rB,hK⟩
   |wys m t=>
    refine dI (dI (dI (dI (dI ?_))));obtain⟨dw,fK⟩:=jA;symm;exact⟨m,t,w,_,_,s,x,rfl,⟨dw,fK⟩,wf,hV,iL,AO,Cv,rB,hK⟩
   |store m=>
    refine dI (dI (dI (dI (oY ?_))));obtain⟨dw,fK⟩:=jA;symm;exact⟨m,w,_,_,s,x,rfl,⟨dw,fK⟩,wf,hV,iL,AO,Cv,rB,hK⟩
   |bags R=>
    refine oY ?_;obtain⟨dw,fK⟩:=jA;symm;exact⟨R,w,_,_,s,x,rfl,⟨dw,fK⟩,wf,hV,iL,AO,Cv,rB,hK⟩
  intro l ys ps H4 n4 q4 r4 ris mm e4;have Cw:dB g x s=ps:=J5 ris mm;have l4:=r4.len;have Yv:=e4 _ _ qf;have QS:l≠fd:=(cD qf n4).symm;have Yw:=ag.mono e4 hV;exists⟨l,rfl,⟨_,SqL.of q4⟩,HD (xs:=ys) (λj σ H5=>∃(u3 u4:Option V) (uf:HO) (kf:List (KU×V)),σ=[some (.ref w),some (.ref d),some xv,some (.ref fd),some sv,some (.int p),u3,u4]/\bQ fd H4 H5/\H5 fd=some uf/\DU uf g.T kf/\fS H5 kf ((ps.take j).foldl (cW p s) acc)) ⟨_,_,uf,kf,rfl,λb o _ h=>h,Yv,df,GF (Co e4) rf⟩ (λj σ H5 _ h=>by obtain⟨_,_,_,_,_,b5,_⟩:=h;exact SqL.of (b5 _ _ QS q4)) ?_ ?_⟩
  ·rintro j y σ H5 hy hE;refine aO 8 hE ?_;clear hE;rintro u3 u4 uf kf rfl b5 q5 du r5;obtain⟨⟨m1,m2⟩,ey,cy,av,rfl,gy,ha⟩:=r4.get hy;have Ke:TK H4 H5:=Cp Yv df b5;have AI:=(mm m1 m2).mp (vg ey);have iM:g.ok 31 m1:=Gm.dst_ok iL AO rB AI.1;have gy5:=Ke _ _ gy;have Kf:m1.at_ H5 av:=ag.tk Ke ha;have em:ps.take (j+1)=ps.take j++[(m1,m2)]:=by rw[gc,ey];rfl
   have QT:=(Qm (mv:=dB g x) (e:=(s,p,b)) bL (ps.take j) (λm h=>by show m∈dB g x s;rw[Cw];exact gm h) QR).1;have lk:kf.length<1000000:=by have:=r5.length;have:((ps.take j).foldl (cW p s) acc).length<=L.length:=XO QT hL;omega
   exists zM (.inl q5) du (mk m1 iM).1 ((pE (mk m1 iM).2).mpr Kf) ?_;rcases r5.val uY m1 with⟨z1,z2⟩|⟨q2,p2,b2,bv2,z1,z2,z3,z4⟩
   ·rw[z1];have es:cW p s ((ps.take j).foldl (cW p s) acc) (m1,m2)=eG ((ps.take j).foldl (cW p s) acc) m1 (p+m2,some s):=jh2 (m:=(m1,m2)) z2;symm;intro tq H6 n6 q6 e6;exists VR (e6 _ _ q5) du (mk m1 iM).1 ((pE (mk m1 iM).2).mpr (ag.mono e6 Kf)) lk λH7 u7 q7 d7 b7=>?_;have AQ:=Cp (e6 _ _ q5) du b7;refine⟨_,_,u7,_,rfl,λb o nb hb=>b7 b o nb (e6 b o (b5 b o nb hb)),q7,d7,?_⟩;rw[em,Gr];show fS H7 _ (cW p s _ (m1,m2));rw[es];exact bn.put uY (GF ((Co e6).tr AQ) r5) (AQ _ _ q6) (ag.tk AQ (ag.mono e6 (ag.tk Ke Yw)))
   ·rw[z1];exists B0 (.inl q5) du (mk m1 iM).1 ((pE (mk m1 iM).2).mpr Kf) z1 ?_;exists cP z3 rfl ?_;exists bg (λcl=>?_) (λcl=>?_)
    ·have es:cW p s ((ps.take j).foldl (cW p s) acc) (m1,m2)=eG ((ps.take j).foldl (cW p s) acc) m1 (p+m2,some s):=jel (m:=(m1,m2)) z2 cl;symm;intro tq H6 n6 q6 e6;exists VR (e6 _ _ q5) du (mk m1 iM).1 ((pE (mk m1 iM).2).mpr (ag.mono e6 Kf)) lk λH7 u7 q7 d7 b7=>?_;have AQ:=Cp (e6 _ _ q5) du b7;refine⟨_,_,u7,_,rfl,λb o nb hb=>b7 b o nb (e6 b o (b5 b o nb hb)),q7,d7,?_⟩;rw[em,Gr];show fS H7 _ (cW p s _ (m1,m2));rw[es];exact bn.put uY (GF ((Co e6).tr AQ) r5) (AQ _ _ q6) (ag.tk AQ (ag.mono e6 (ag.tk Ke Yw)))
    ·symm;have es:cW p s ((ps.take j).foldl (cW p s) acc) (m1,m2)=(ps.take j).foldl (cW p s) acc:=jem (m:=(m1,m2)) z2 cl;refine⟨_,_,uf,kf,rfl,b5,q5,du,?_⟩;rw[em,Gr];show fS H5 _ (cW p s _ (m1,m2));rw[es];exact r5
  ·rintro σ H5 hE;refine aO 8 hE ?_;clear hE;rintro u3 u4 uf kf rfl b5 q5 du r5;rw[<- l4,ut]at r5;refine⟨_,_,_,_,uf,kf,rfl,al.but (x3.tr e4) b5 n1,q5,du,?_,λe he=>?_⟩
   ·rw[et,Gr,dQ];show fS H5 kf ((dB g x s).foldl (cW p s) acc);rw[Cw];exact r5
   ·rw[et]at he;rcases yw.mp he with he|he
    ·exact hP e he
    ·rw[y9.mp he];exact⟨ps,ris,mm⟩
 ·rintro σ H3 hE;refine aO 11 hE ?_;clear hE;rintro u1 u2 u3 u4 uf kf rfl x3 qf df rf hP;rw[show af.length=r.length from hR.length,ut]at rf hP;have QR:=rg (dB g x) r;have lk:=rf.length;have la:=XO QR hL;have la':(r.foldl (Az (dB g x)) []).length<=L.length:=la;exists zN qf df ?_;exists bg (λcl=>absurd cl (by omega)) (λ_=>?_);exists tX ?_;exists VS qf df λo' H4 q4 b4=>?_;exact hq fd H4 n1 ⟨o',uf,kf,q4,df,GF (Cp qf df b4) rf⟩ hP (al.but x3 b4 n1)
def Yx(a:Adr):Sp:=λvs H Q _=>∃(w wl:Addr) (sv:V) (g:Gm) (st:ag) (ws:List aw) (cC:List V),vs=[.ref w,sv,.ref wl]/\h7 a H g w/\st.at_ H sv/\H wl=some (.lst cC)/\ao (aw.at_ H) ws cC/\pF g st ws/\rb g st ws/\
 ∀l zs H',H l=none->H' l=some (.lst zs)->ao (iK H' g) (bM g st ws) zs->kM g st ws->al H H'->Q (.ref l) H'
theorem Yy(T:Txt K mg a):FnOk P w K mg base (CXU P w) 7 a.f11 a.d11 ["world","start","wishes"] (Yx a):=by
 refine T.F11.okU1 Pj λvs H Q E h=>?_;unfold Yx at h;refine aO 14 h ?_;clear h;rintro w wl sv g st ws cC rfl hw eP fP fT G0 dY hq;refine⟨rfl,λ_ _ _ _ hr=>⟨_,(ax (bh (i:=3) Pj.nd rfl (by nofun) (bX (ae (Vy (lD (jmg (Td (pv 1) (fN (ae ak (ae jE aj))) Tc) rfl rfl (List.cons_ne_nil _ _) (by decide)) (jkj hr (pv 1) (fN (ae ak (ae jE aj)))))) aj)))
  (ax (ik u8 rfl (oC (pv 2)) (bK (i:=4) Pj.nd rfl (by nofun)) (ay (lW (j9 v6 ue ug oQ (pv 3) (ae (bq (jf1 T) hr T.F47 (T.F47.b3) (ae (pv 0) (ae (aD aF (pv 3) (HE HG ak) (λ_ _=>rfl)) (ae (pv 4) aj)))) aj)))))
  (ay (aK (pv 3))))),?_⟩⟩
 have wf:=G0.1;have QU:=G0.2.1;have bI:=G0.2.2.1;have rC:=G0.2.2.2.1;have Yz:=Gm.kd wf QU;have fe:=dY.nd QU;have lw:=fT.len;exists tX ?_;refine jog g.T λfd H1 u1 n1 q1 d1 e1=>?_;symm;intro tq H2 n2 q2 e2;refine jkp (e2 _ _ q1) d1 Yz.1 ((pE Yz.2).mpr (ag.mono (e1.tr e2) eP)) λH3 u3 q3 d3 b3=>?_;refine VS q3 d3 λo H4 q4 b4=>?_;have nf:H fd=none:=n1;have x2:al H H2:=e1.tr e2;have x4:al H H4:=al.but (al.but x2 b3 nf) b4 nf;have q24:H4 tq=some (.tup [.int 0,.non]):=Cp q3 d3 b4 _ _ (Cp (e2 _ _ q1) d1 b3 _ _ q2);have r4:fS H4 [(fb st,.ref tq)] [(st,0,none)]:=.cons (key:=fb) (s:=st) q24 rfl .nil;symm;intro l H5 n5 q5 e5;have nl:H l=none:=x4.free n5;have f5:eI H5 g fd (nR st):=eI.ext e5 ⟨o,u3,_,q4,d3,r4⟩;exists⟨wl,rfl,⟨_,SqL.of ((x4.tr e5) _ _ fP)⟩,HD (xs:=cC) (λi σ H6=>∃(u:Option V) (zs:List V) (d:Addr) (rs:List (Row ag)) (r:Row ag),σ=[some (.ref w),some sv,some (.ref wl),some (.ref l),u]/\al H H6/\H6 l=some (.lst (zs++[V.ref d]))/\ao (iK H6 g) (rs++[r]) (zs++[V.ref d])/\eI H6 g d r/\bM g st (ws.take i)=rs++[r]/\kM g st (ws.take i)) ⟨none,[],fd,[],nR st,rfl,x4.tr e5,q5,(show ao (iK H5 g) [nR st] [V.ref fd] from⟨⟨fd,rfl,f5⟩,trivial⟩),f5,rfl,λj w e=>(by cases e)⟩ (λi σ H6 _ h=>by obtain⟨_,_,_,_,_,_,x,_⟩:=h;exact SqL.of (x _ _ fP)) ?_ ?_⟩
 ·rintro i xv σ H6 hy hE;refine aO 11 hE ?_;clear hE;rintro u zs d rs r rfl x6 q6 r6 f6 c6 Kg;obtain⟨x,ex,hx⟩:=fT.get hy;have hi:i<ws.length:=(xl.mp ex).1;have rB:=bI x (vg ex);have lt:(ws.take i).length=i:=by rw[yp];omega
  obtain⟨YA,nW⟩:=jev c6;rw[lt]at YA nW;have G1:=GP (g:=g) (st:=st) (ws:=ws.take i) i (by omega);have pH:=AH (g:=g) (st:=st) (ws:=ws.take i) i (by omega);rw[nW]at G1 pH;rw[List.take_take,ye6]at pH;have et:=Qw ex;obtain⟨L,XS,hL⟩:=Xq (ws:=ws.take (i+1)) (us:=ws.drop (i+1)) wf QU (by rw[vz];exact bI) (by rw[vz];exact dY);have lz:=r6.len;exists aA q6 (jpe zs _) ?_;exists⟨w,d,xv,g,r,x,L,rfl,h7.mono x6 hw,wf,f6,G1,λe he=>(pH e he).okL G0 fe (λy hy=>gm hy) (by omega),aw.mono x6 hx,rB,XS,λe he s hs=>hL s ?_,λd' H7 n7 f7 hp7 e7=>?_⟩
  ·rw[et];exact .snoc (pH e he) hs
  have QV:=e7 _ _ q6;have lzz:(zs++[V.ref d]).length<=501:=by rw[<- lz,xi,YA,uj];omega
  exists oS QV (by omega) λH8 q8 b8=>?_;have YB:=J4 QV b8;have fk:∀b o u,H7 b=some (.frz o u)->H8 b=some (.frz o u):=λb o u h=>b8 b _ (λz=>by rw[z,QV]at h;cases h) h;symm;have f8:=f7.mono fk YB;refine⟨_,zs++[.ref d],d',rs++[r],_,rfl,al.but (x6.tr e7) b8 nl,q8,ao.snoc ⟨d',rfl,f8⟩ (r6.imp λ⟨d0,h1,h2⟩=>⟨d0,h1,(h2.ext e7).mono fk YB⟩),f8,?_,?_⟩
  ·rw[et,Qv,c6,JY]
  ·rw[et];exact Kg.snoc (by rw[lt,nW];exact hp7)
 ·rintro σ H6 hE;refine aO 11 hE ?_;clear hE;rintro u zs d rs r rfl x6 q6 r6 f6 c6 Kg;rw[<- lw,ut]at c6 Kg;symm;exact hq l _ H6 nl q6 (by rw[c6];exact r6) Kg x6
abbrev rD(a:Adr)(H:Hp):Prop:=bJ H a.tb52 jor jos
def rE(H:Hp)(x:Addr):Prop:=∀o,H x=some o->mV o=false
theorem YC{H H':Hp}{x:Addr}(e:be H H')(n:H' x=none):rE H x:=λo ho=>by
 cases t:mV o with
 |false=>rfl
 |true=>rw[e x o ho t]at n;cases n
theorem be.butN{H1 H2:Hp}(a:be H H1)(b:bQ x H1 H2)(hn:rE H x):be H H2:=λy o h t=>b y o (λz=>by rw[z]at h;rw[hn o h]at t;cases t) (a y o h t)
theorem bJ.butL{P r:Addr}{pos:Pos}{qual:Str}{xs:List V}(hr:H r=some (.lst xs))(e:bQ r H H')(h:bJ H P pos qual):bJ H' P pos qual:=by
 rcases h with h|⟨c,h,oc,vs,t,k,k2⟩
 ·exact .inl (e _ _ (λz=>by rw[z,hr]at h;cases h) h)
 ·exact .inr ⟨c,e _ _ (λz=>by rw[z,hr]at h;cases h) h,oc,vs,t,e _ _ (λz=>by rw[z,hr]at k;cases k) k,k2⟩
def YD(a:Adr):Sp:=λvs H Q _=>∃(w wl:Addr) (sv:V) (g:Gm) (st:ag) (ws:List aw) (cC:List V),vs=[.ref w,sv,.ref wl]/\h7 a H g w/\st.at_ H sv/\H wl=some (.lst cC)/\ao (aw.at_ H) ws cC/\pF g st ws/\rb g st ws/\rD a H/\
 ∀tp yl H' c ys Ys,rE H yl->H' tp=some (.tup [.int c,.ref yl])->H' yl=some (.lst ys)->ao (ag.at_ H') Ys ys->eN g st ws c Ys->rD a H'->be H H'->bQ a.tb52 H H'->Q (.ref tp) H'
theorem QW(T:Txt K mg a):FnOk P w K mg base (CXU P w) 8 a.f52 a.d52 ["world","start","wishes"] (YD a):=by
 refine T.F52.okL1 T.ck52 uP λvs H Q E h=>?_;unfold YD at h;refine aO 12 h ?_;clear h;rintro w wl sv g st ws cC rfl hw eP fP fT h;refine aO 3 h ?_;clear h;rintro hL dY hT hq;refine⟨rfl,λ_ _ _ hr=>⟨_,(ax (bh (i:=3) uP.nd rfl (by nofun) (bq (Yy T) hr T.F11 (T.F11.b3) (ae (pv 0) (ae (pv 1) (ae (pv 2) aj)))))
  (ax (bh (i:=4) uP.nd rfl (by nofun) (aD aF (pv 3) (HE HG ak) (λ_ _=>rfl)))
  (ax (bh (i:=5) uP.nd rfl (by nofun) (jdx (k:=0) (c:=a.ck52) (P:=a.tb52) (x:="some") (fr:=["last"]) (js:=[4]) (κ:=Int) (KR:=Vg) (lt:=tQ) (λ_ kf=>jdi kf) (hr.mono (by decide)) (by rfl) T.om (ae (aV (Gh hr rfl) (by rfl) T.cw gg (ae (pv 4) aj)) aj) rfl T.o6 rfl ⟨rfl,rfl,rfl,by decide +kernel,rfl,by rfl,⟨⟨rfl,by nofun,by nofun⟩,trivial⟩⟩ (λ_ _ _ _=>rfl) (λ_ _ _ _ _=>(aD aF (BR (aI.lam (j:=0) (by decide) hr) (pv 1) (pv 0) (λ_ _=>rfl)) ak (λ_ _=>rfl)))))
  (ax (bh (i:=6) uP.nd rfl (by nofun) (aD aF (BR hr (pv 4) (pv 5) (λ_ _=>rfl)) ak (λ_ _=>rfl)))
  (ax (bh (i:=7) uP.nd rfl (by nofun) (bX aj))
  (ax (ik u8 rfl (zI (by rfl) T.ot (ae (fO lh (pv 3) (fj ak) gK) aj)) (bK (i:=8) uP.nd rfl (by nofun)) (ax (lW (j9 v6 ue ug oQ (pv 7) (ae (pv 5) aj)))
  (ay (bh (i:=5) uP.nd rfl (by nofun) (aD aF (BR hr (pv 8) (pv 5) (λ_ _=>rfl)) ak (λ_ _=>rfl))))))
  (ay (aK (fN (ae (pv 6) (ae (jdu rfl (by rfl) T.mx (by rfl) T.ot (ae (pv 7) aj)) aj))))))))))),?_⟩⟩
 exists⟨w,wl,sv,g,st,ws,cC,rfl,hw,eP,fP,fT,hL,dY,λl zs H1 nl ql rl hU e1=>?_⟩;have fe:=dY.nd hL.2.1;have rC:=hL.2.2.2.1;have lm:(ws.map (dB g)).length=ws.length:=y3 ..;have lr:=rh g st ws;have lz:=rl.len;have hT1:=bJ.ext e1 hT;have nd:=GP (g:=g) (st:=st) (ws:=ws) ws.length (yg _);have bO:=XR hU hL fe ws.length (yg _);have oR:=Qx hL dY (yg ws.length);have pH:=AH (g:=g) (st:=st) (ws:=ws) ws.length (yg _);have YE:∀j,j<=ws.length->∀e∈(bM g st ws).getD j [],g.ok 30 e.1:=λj hj e he=>((AH j hj e he).okL hL fe (λy hy=>gm hy) (by rw[yp];omega)).1;have G2:=YE ws.length (yg _);have ez:zs[ws.length]?=some (zs[ws.length]'(by omega)):=y4 _;obtain⟨r,er,d,ed,o,u,af,hd,du,Br⟩:=rl.get ez;have gr:(bM g st ws).getD ws.length []=r:=by rw[y8,er];rfl
 have G3:nV g st ws=r:=gr;rw[ed]at ez;have el:cO [] (aM [(st,(0:Int),(none:Option ag))] (ws.map (dB g)))=r:=(XU g st ws).trans gr;rw[gr]at nd bO oR pH G2;have hkl:=Br.length;have ne4:(∀s∈r.map (·.1),s≠.l []/\s≠.t [])\/r.map (·.1)=[.l []]:=by
  rcases Xo ws with e|⟨us,x,e⟩
  ·subst e;have er':r=nR st:=by rw[<- gr];rfl
   rw[er'];by_cases z:st=.l []
   ·exact .inr (by rw[z];rfl)
   ·refine .inl λs hs=>?_;obtain rfl:s=st:=y9.mp hs;exact⟨z,(Gm.kd hL.1 hL.2.1).2⟩
  ·rw[Xp]at e;refine .inl λs hs=>?_;obtain⟨e0,YF,rfl⟩:=yk.mp hs;refine⟨λz=>?_,(Gm.kd hL.1 (G2 e0 YF)).2⟩;have h1:=pH e0 YF;rw[ut,e]at h1;generalize hz:us++[x]=vs at h1;cases h1 with
   |nil=>simp at hz
   | @snoc vs w b s k1 k2=>
    obtain⟨a1,a2⟩:=Xn hz rfl;subst a1;injection a2 with a2;subst a2;have bt:=(k1.okL hL fe (λy hy=>by rw[e];exact yy _ hy) (by rw[e];simp)).1;exact AG hL.1 bt (hL.2.2.1 _ (by rw[e];simp)) k2 z
 exists aA ql (XT (by omega) (by rw[show zs.length-1=ws.length by omega];exact ez)) ?_;symm;unfold VI;exists jlb hd du (ks:=r.map (·.1)) (by rw[Br.keys,v8];rfl) nd (λs hs=>by obtain⟨e,he,rfl⟩:=yk.mp hs;exact Gm.ok_mono (G2 e he) (by omega)) ne4 (by rw[y3];omega) λls bo ss H2 n2 q2 r2 pm sr e2=>?_;obtain⟨ps,mM⟩:∃ps,ps=ss.map λs=>(s,((aC r s).getD (0,none)).1):=⟨_,rfl⟩
 have Kh:∀i s x,ss[i]?=some s->aC r s=some x->ps[i]?=some (s,x.1):=λi s x h1 h2=>by rw[mM,xh,h1,zC,h2];rfl
 have tld:Told r ps:=by
  refine⟨by rw[mM];exact vh.mpr sr,λs c=>?_⟩;rw[mM,yk];constructor
  ·rintro⟨s',fu,k⟩;injection k with k1 k2;subst k1;obtain⟨x,hx⟩:=Ck (pm.mem_iff.mp fu);rw[hx]at k2;have k3:x.1=c:=k2;exact⟨x.2,by rw[<- k3];exact AA hx⟩
  ·rintro⟨b,hb⟩;refine⟨s,pm.mem_iff.mpr (yk.mpr ⟨_,hb,rfl⟩),?_⟩;have:=Cj nd hb;dsimp only at this;rw[this];rfl
 have lss:ss.length=r.length:=by rw[pm.length_eq,y3]
 have lps:ps.length=ss.length:=by rw[mM,y3]
 have lvs:=r2.len;have l0:0<r.length:=ya4.mpr bO;refine⟨ls,bo,false,nU ps,rfl,q2,by omega,bJ.ext e2 hT1,λi x hx ac f c s' Hc H3 e3=>?_,λx H3 hx e3 b3 hT3=>?_⟩
 ·obtain⟨si,YG,hsi⟩:=r2.get hx;have hy:si∈r.map (·.1):=pm.mem_iff.mp (vg YG);obtain⟨x0,G4⟩:=Ck hy;have ks:=Gm.kd hL.1 (G2 _ (AA G4));rcases Br.val uY si with⟨_,z⟩|⟨q',p',b',pD,v1,v2,v3,v4⟩
  ·rw[G4]at z;cases z
  exists B0 (.inr ⟨o,e3 _ _ (e2 _ _ hd) rfl⟩) du ks.1 ((pE ks.2).mpr (ag.tk (pC e3) hsi)) v1 ?_;exists cP (e3 _ _ (e2 _ _ v3) rfl) rfl ?_;exists⟨?_,al.rfl'⟩;show V.int p'=V.int (nU ps i);rw[nU,y8,Kh i si _ YG v2];rfl
 ·obtain⟨bs,QX,hbs⟩:=r2.get hx;have bin:bs∈r.map (·.1):=pm.mem_iff.mp (vg QX);obtain⟨x0,G4⟩:=Ck bin;have ks:=Gm.kd hL.1 (G2 _ (AA G4));rcases Br.val uY bs with⟨_,z⟩|⟨q',p',b',pD,v1,v2,v3,v4⟩
  ·rw[G4]at z;cases z
  have ebu:J7 ps=(bs,p'):=by
   rw[J7,show ps.length-1=bo.length-1 by omega,y8,Kh _ _ _ QX v2];rfl
  have G5:∀e∈r,p'<=e.2.1:=λe he=>by
   have hm:e.1∈ss:=pm.mem_iff.mpr (yk.mpr ⟨e,he,rfl⟩);obtain⟨j,hj,ej⟩:=vd hm;have k1:=of_decide_eq_false (Nm (jnp (nU ps)) (zx (nU ps)) (bo.length-1) j (by omega));have k2:nU ps j=e.2.1:=by rw[nU,y8,Kh j e.1 e.2 (by rw[y4 hj,ej]) (Cj nd he)];rfl
   have k3:nU ps (gQ (tQ (nU ps)) (bo.length-1))=p':=by rw[nU,y8,Kh _ _ _ QX v2];rfl
   omega
  have rF:=(XA st (ws.map (dB g)).length (ws.map (dB g)) rfl bs (p',b') (by rw[el];exact v2)).1;have hB:eN g st ws p' (lO ((bM g st ws).drop 1).reverse bs).reverse:=by
   refine⟨rF,?_,?_,?_⟩<;>rw[G3]
   ·exact⟨_,AA v2,rfl⟩
   ·exact G5
   ·rw[tld.is,ebu];exact⟨rfl,rfl⟩
  have x3:be H H3:=(al.toT (e1.tr e2)).tr e3;have hd3:=e3 _ _ (e2 _ _ hd) rfl;have ql3:=e3 _ _ (e2 _ _ ql) rfl;have rl3:ao (iK H3 g) (bM g st ws) zs:=rl.imp λh=>(h.mono (λb o u z=>e2 _ _ z) (Co e2)).mono (λb o u z=>e3 _ _ z rfl) (pC e3);have G6:=ag.tk (pC e3) hbs;have v33:=e3 _ _ (e2 _ _ v3) rfl;exists B0 (.inr ⟨o,hd3⟩) du ks.1 ((pE ks.2).mpr G6) v1 ?_;exists cP v33 rfl ?_;symm;intro wy H4 n4 q4 e4;exists zJ ?_;exists sW (e4 _ _ ql3) λsl H5 n5 q5 e5=>?_;rw[jla zs (by omega)]at q5;have YH:(zs.drop 1).length=ws.length:=by rw[ve];omega
  have AR:=e5 _ _ q4;have nwy:rE H wy:=YC x3 n4;have nsw:sl≠wy:=(cD q4 n5).symm;have rl5:ao (iK H5 g) (bM g st ws) zs:=rl3.imp λh=>h.mono (λb o u z=>(e4.tr e5) _ _ z) (Co (e4.tr e5));have hs0:bs∈((aM (nR st) (ws.map (dB g))).getD (ws.map (dB g)).length []).map (·.1):=by rw[lm];show bs∈((bM g st ws).getD ws.length []).map (·.1);rw[gr];exact bin
  obtain⟨RR,QY⟩:∃RR,RR=((bM g st ws).drop 1).reverse:=⟨_,rfl⟩
  exists⟨sl,zs.drop 1,rfl,q5,jo3 (xs:=zs.drop 1) (λi σ H6=>∃(u:Option V) (sa:V) (us:List V),σ=[some (.ref w),some sv,some (.ref wl),some (.ref l),some (.ref d),some sa,some (.int p'),some (.ref wy),u]/\bQ wy H5 H6/\(iJ RR bs i).at_ H6 sa/\H6 wy=some (.lst us)/\ao (ag.at_ H6) ((vi i).map (iJ RR bs)) us) ⟨none,x,[],rfl,λb o _ h=>h,ag.mono (e4.tr e5) G6,AR,trivial⟩ (λi σ H6 _ h=>by obtain⟨_,_,_,_,b6,_⟩:=h;exact b6 _ _ nsw q5) ?_ ?_⟩
  ·rintro i y σ H6 hi hy hE;refine aO 7 hE ?_;clear hE;rintro u sa us rfl b6 s6 q6 r6;rw[YH]at hi hy;rw[M7,show 1+(ws.length-1-i)=ws.length-i by omega]at hy;obtain⟨rr,err,dr,rfl,or,ur,kr,YI,dur,hrr⟩:=rl5.get hy;have grr:(bM g st ws).getD (ws.length-i) []=rr:=by rw[y8,err];rfl
   obtain⟨p2,b2,g1,g2⟩:=jpc hs0 i (by omega);rw[lm]at g1;have Ki:aC ((bM g st ws).getD (ws.length-i) []) (iJ RR bs i)=some (p2,some b2):=by rw[QY];exact g1
   have g2':iJ RR bs (i+1)=b2:=by rw[QY];exact g2
   have okk:g.ok 30 (iJ RR bs i):=YE (ws.length-i) (by omega) _ (AA Ki);have kk:=Gm.kd hL.1 okk;rw[grr]at Ki;generalize eP:iJ RR bs i=si at *;rcases hrr.val uY si with⟨_,z⟩|⟨q2',p2',b2',G7,w1,w2,w3,w4⟩
   ·rw[Ki]at z;cases z
   rw[Ki]at w2;cases w2;have BE:b2.at_ H5 G7:=w4;have lu:=r6.len;rw[y3,tG]at lu;exists oS q6 (by omega) λH7 q7 b7=>?_;have nb:bQ wy H5 H7:=λb o n h=>b7 b o n (b6 b o n h);have QZ:=J4 q6 b7;have G8:=J4 AR nb;have Q0:=nb _ _ (A3 YI AR (by intro z;cases z)) YI;have w37:=G8 _ _ w3;exists B0 (.inr ⟨or,Q0⟩) dur kk.1 ((pE kk.2).mpr (ag.tk QZ s6)) w1 ?_;exists cP w37 rfl ?_;exists⟨some (.ref dr),G7,_,rfl,nb,by rw[g2'];exact ag.tk G8 BE,q7,?_⟩;rw[sY,xk];exact ao.snoc (by rw[eP];exact ag.tk QZ s6) (r6.imp λh=>ag.tk QZ h)
  ·rintro σ H6 hE;refine aO 7 hE ?_;clear hE;rintro u sa us rfl b6 s6 q6 r6;rw[YH]at r6;have lrr:((bM g st ws).drop 1).reverse.length=ws.length:=by rw[ya5,ve];omega
   rw[XC,lrr,<- QY]at hB;exists jgf q6 λyl H7 n7 q7 e7=>?_;symm;intro tp H8 n8 q8 e8;have x5:be H H5:=(x3.ext e4).ext e5;have x6:be H H6:=be.butN x5 b6 nwy;have T6:=bJ.butL AR b6 (bJ.ext (e4.tr e5) hT3);exact hq tp yl H8 p' _ _ (YC x6 n7) q8 (e8 _ _ q7) ((ao.rev r6).imp λh=>ag.mono (e7.tr e8) h) hB (bJ.ext (e7.tr e8) T6) (x6.ext (e7.tr e8)) (λb o n h=>(e7.tr e8) _ _ (bQ.new (p:=a.tb52) (H:=H) (λb o n h=>b3 b o n ((e1.tr e2) _ _ h)) n4 (e4.tr e5) b6 b o n h))
def YJ(a:Adr):Sp:=λvs H Q _=>∃x dx v,vs=[.ref x,v]/\H x=some (.ins a.dg dx [])/\∀H',H' x=some (.ins a.dg dx [("whole",v)])->bQ x H H'->Q .non H'
theorem YK(T:Txt K mg a):FnOk P w K mg base (CXU P w) 1 a.f30 a.d30 ["self","whole"] (YJ a):=by
 refine T.F30.okU1 Px λvs H Q E h=>?_;unfold YJ at h;refine aO 5 h ?_;clear h;rintro x dx v rfl hx hq;have rj:=T.my;have qb:=T.dq;refine⟨rfl,λ_ _ _ _ hr=>⟨_,(ay (wk (pv 0) (pv 1) rfl)),?_⟩⟩;exists xN hx T.my T.dq (xO rfl) λH' h1 h2=>?_;exact hq H' h1 h2
theorem jpg(h:i<=os.length):aQ (os.map V.int) none (some (i:Int))=(os.take i).map V.int:=by
 unfold aQ;rw[HT.sIx_none,HT.sIx_nat,y3,uu h,BP,BQ,B9]
theorem jph(h:i<=os.length):aQ (os.map V.int) (some (i:Int)) none=(os.drop i).map V.int:=by
 unfold aQ;rw[HT.sIx_nat,HT.sIx_none,y3,uu h,<- B8,xq (by rw[y3,ve];exact yg _)]
def YL:Sp:=λvs H Q _=>∃(b f:Addr) (os fs:List Int) (s R:Int) (v:V),vs=[.int R,.ref b,.int s,.ref f]/\H b=some (.tup (os.map V.int))/\H f=some (.tup (fs.map V.int))/\os.length<=50/\iY R os s fs v/\∀H',al H H'->Q v H'
theorem jf3(T:Txt K mg a):FnOk P w K mg base (CXU P w) 1 a.f45 a.d45 ["_law_room","_law_before","_law_wish","_law_after_here"] (YL):=by
 refine T.F45.okU1 Pz λvs H Q E h=>?_;unfold YL at h;refine aO 12 h ?_;clear h;rintro b f os fs s R v rfl hb hf hl hg hq;refine⟨rfl,λ_ _ _ _ hr=>⟨_,(ax (bw (ba (bW hr) (pv 3) (eS jd (by rfl) T.dh xw (ae (aV lC (by rfl) T.cw gg (ae (ar aX (pv 1) (fN (ae (pv 2) aj))) aj)) aj)) (bd _)) (ay (aK ak)) bA)
  (ax (ik u8 rfl (fL rfl T.c9 (ae (aV cU (by rfl) T.cr xt (ae (pv 1) aj)) aj)) (bK (i:=4) Pz.nd rfl (by nofun)) (ax (bh (i:=5) Pz.nd rfl (by nofun) (ar aX (aD aF (pv 1) (pv 4) (λ_ _=>rfl)) (pv 2)))
  (ay (bw (PW.pt (CS (ba yY (pv 5) (pv 0) (bd _)) (Hx (ba (bW hr) (pv 3) (eS jd (by rfl) T.dh xw (ae (aV lC (by rfl) T.cw gg (ae (ar aX (ar aX (fO fR (pv 1) gK (fj (pv 4))) (fO fR (pv 1) (fj (ar aX (pv 4) ak)) gK)) (fN (ae (pv 5) aj))) aj)) aj)) (bd _))))) (ay (aK ak)) bA))))
  (ay (aK jE)))),?_⟩⟩
 symm;intro p1 H1 n1 q1 e1;exists gO (e1 _ _ hb) q1 (by simp;omega) λp2 H2 q2 e2=>?_;rw[show os.map V.int++[V.int s]=(os++[s]).map V.int by simp]at q2;exists uA q2 (by simp;omega) λl3 bB H3 n3 kN hV q3 e3=>?_;exists iT q3 λl4 H4 n4 q4 e4=>?_;have x4:=((e1.tr e2).tr e3).tr e4;have hf4:=x4 _ _ hf;have hb4:=x4 _ _ hb;exists ID hf4 q4 ?_;by_cases c:fs=bB
 ·subst c;rw[decide_eq_true rfl];symm;rw[<- hg.one ⟨hV,.inl ⟨rfl,kN⟩⟩];exact hq H4 x4
 rw[decide_eq_false c];exists hZ hb4 ?_;rw[y3];exists⟨_,rfl,by omega,by omega,lX (λi σ H5=>∃(u1 u2:Option V),σ=[some (.int R),some (.ref b),some (.int s),some (.ref f),u1,u2]/\al H H5/\∀k,k<i->os.getD k 0+s<=R->fs.Pairwise (·<=·)->¬ fs.Perm (os.set k (os.getD k 0+s))) ⟨none,none,rfl,x4,λk hk=>by omega⟩ ?_ ?_⟩
 ·rintro kk σ H5 hi ⟨u1,u2,rfl,x5,i8⟩;have lG:kk<os.length:=by omega
  have AS:=x5 _ _ hb;rw[show((0:Int)+(kk:Nat))=(kk:Nat) by omega];have i1:=iW (ns:=os) (k:=(kk:Nat)) (by omega) (by omega);rw[yx]at i1;exists cP AS i1 ?_;exists bg (λcR=>?_) (λcR=>?_)
  ·exists jN AS λl6 H6 q6 e6=>?_;rw[jpg (by omega)]at q6;have hb6:=e6 _ _ AS;exists jN hb6 λl7 H7 q7 e7=>?_;rw[show(some ((kk:Int)+1))=some ((kk+1:Nat):Int)from by rw[GX];rfl,jph (by omega)]at q7;exists gO (e7 _ _ q6) q7 (by simp;omega) λl8 H8 q8 e8=>?_;symm;intro l9 H9 n9 q9 e9;exists gO (e9 _ _ q8) q9 (by simp;omega) λl10 mN ii iU=>?_;rw[show(os.take kk).map V.int++(os.drop (kk+1)).map V.int++[V.int (os.getD kk 0+s)]=(os.take kk++os.drop (kk+1)++[os.getD kk 0+s]).map V.int by simp]at ii;exists uA ii (by simp;omega) λJG ms AL n11 p11 YM J9 Ka=>?_;exists iT J9 λrG Kb n12 Kc AM=>?_;have Q1:=e6.tr (e7.tr (e8.tr (e9.tr (iU.tr (Ka.tr AM)))));have pm:=p11.trans (WT lG);exists ID ((x5.tr Q1) _ _ hf) Kc ?_;by_cases c2:fs=ms
   ·subst c2;rw[decide_eq_true rfl];symm;rw[<- hg.nought ⟨YM,.inr ⟨rfl,kk,lG,cR,pm⟩⟩];exact hq Kb (x5.tr Q1)
   ·rw[decide_eq_false c2];exists⟨_,_,rfl,x5.tr Q1,λk hk hR sf pf=>?_⟩;by_cases z:k=kk
    ·subst z;exact c2 (jV (pf.trans pm.symm) sf YM)
    ·exact i8 k (by omega) hR sf pf
  ·exists⟨_,_,rfl,x5,λk hk hR sf pf=>?_⟩;by_cases z:k=kk
   ·subst z;exact cR hR
   ·exact i8 k (by omega) hR sf pf
 ·rintro σ H5 ⟨u1,u2,rfl,x5,i8⟩;rw[yx]at i8;symm;rw[<- hg.no λpr z=>by
   rcases z.2 with⟨_,z2⟩|⟨_,k,hk,hR,z2⟩
   ·exact c (jV (z2.trans kN.symm) z.1 hV)
   ·exact i8 k hk hR z.1 z2]
  exact hq H5 x5
def YN:Sp:=λvs H Q _=>∃(p q:Addr) (ss qs:List Str) (w:Str),vs=[.ref p,.str w,.ref q]/\H p=some (.tup (ss.map V.str))/\H q=some (.tup (qs.map V.str))/\ss.length<=60/\qs.length<=60/\(∀x∈ss,x∈qs)/\w∈qs/\∀H',al H H'->Q (.int (kJ ss qs+(qs.idxOf w:Nat)+1)) H'
theorem Q2(h:i<ss.length):ss.take (i+1)=ss.take i++[ss.getD i ⟨#[]⟩]:=by rw[gc,y8,y4 h];rfl
theorem ff(h:i<ss.length):dP (ss.map V.str) (i:Nat)=some (.str (ss.getD i ⟨#[]⟩)):=by
 have:=Gp (ss:=ss) (k:=(i:Nat)) (by omega) (by omega)
 rwa [yx]at this
theorem j85(T:Txt K mg a):FnOk P w K mg base (CXU P w) 1 a.f26 a.d26 ["_law_before","_law_wish","_law_after_here"] (YN):=by
 refine T.F26.okU1 Gj λvs H Q E h=>?_;unfold YN at h;refine aO 12 h ?_;clear h;rintro p q ss qs w rfl hp bS hl k6 hs hw hq;refine⟨rfl,λ_ _ _ _ hr=>⟨_,(ax (bh (i:=3) Gj.nd rfl (by nofun) (ar aX ak (j9 v6 YO YQ NP (eS sK (by rfl) T.mx vj (ae (pv 2) aj)) (ae (pv 1) aj))))
  (ax (ik u8 rfl (fL rfl T.c9 (ae (aV cU (by rfl) T.cr xt (ae (pv 0) aj)) aj)) (bK (i:=4) Gj.nd rfl (by nofun)) (ay (ik u8 rfl (fL rfl T.c9 (ae (pv 4) aj)) (bK (i:=5) Gj.nd rfl (by nofun)) (ay (bw (ba HI (j9 v6 YO YQ NP (eS sK (by rfl) T.mx vj (ae (pv 2) aj)) (ae (aD aF (pv 0) (pv 5) (λ_ _=>rfl)) aj)) (j9 v6 YO YQ NP (eS sK (by rfl) T.mx vj (ae (pv 2) aj)) (ae (aD aF (pv 0) (pv 4) (λ_ _=>rfl)) aj)) (bd _)) (ay (bh (i:=3) Gj.nd rfl (by nofun) (ar aX (pv 3) ak))) bA)))))
  (ay (aK (pv 3))))),?_⟩⟩
 exists Ep bS λl1 H1 n1 q1 e1=>?_;exists NQ q1 hw (by omega) ?_;exists hZ (e1 _ _ hp) ?_;rw[y3];exists⟨_,rfl,by omega,by omega,lX (λk σ H3=>∃(mv:Int) (u v:Option V),σ=[some (.ref p),some (.str w),some (.ref q),some (.int mv),u,v]/\al H H3/\mv=1+(qs.idxOf w:Nat)+kJ (ss.take k) qs) ⟨_,none,none,rfl,e1,by rw[YR,WP,Int.add_zero]⟩ ?_ ?_⟩
 ·rintro k σ H3 hk hE;refine aO 5 hE ?_;clear hE;rintro mv u v rfl x3 Cw;have eW:k<ss.length:=by omega
  rw[show((0:Int)+(k:Nat))=(k:Nat) by omega];exists⟨_,rfl,by omega,by omega,lX (λj σ H4=>∃(mw:Int) (v:Option V),σ=[some (.ref p),some (.str w),some (.ref q),some (.int mw),some (.int (k:Nat)),v]/\al H H4/\mw=mv+(((ss.take j).filter λt=>decide (qs.idxOf (ss.getD k ⟨#[]⟩)<qs.idxOf t)).length:Nat)) ⟨_,_,rfl,x3,by simp⟩ ?_ ?_⟩
  ·rintro j σ H4 hj ⟨mw,v,rfl,x4,G9⟩;have Kj:j<ss.length:=by omega
   rw[show((0:Int)+(j:Nat))=(j:Nat) by omega];have YS:=x4 _ _ hp;exists Ep (x4 _ _ bS) λl5 H5 n5 q5 e5=>?_;exists cP (e5 _ _ YS) (ff Kj) ?_;exists NQ q5 (hs _ (Cd Kj)) (by omega) ?_;exists Ep ((x4.tr e5) _ _ bS) λl6 H6 n6 q6 e6=>?_;exists cP ((e5.tr e6) _ _ YS) (ff eW) ?_;exists NQ q6 (hs _ (Cd eW)) (by omega) ?_;have x6:=x4.tr (e5.tr e6);exists bg (λc=>?_) (λc=>?_)
   ·exists⟨_,_,rfl,x6,?_⟩;rw[Q2 Kj,vk,xi,gw,nO,if_pos (decide_eq_true (by omega)),uj,G9];omega
   ·exists⟨_,_,rfl,x6,?_⟩;rw[Q2 Kj,vk,xi,gw,nO,if_neg (λz=>c (by have:=of_decide_eq_true z;omega)),ub,G9];omega
  ·rintro σ H4 ⟨mw,v,rfl,x4,G9⟩;rw[yx]at G9;exists⟨_,_,_,rfl,x4,?_⟩;rw[Q2 eW,WQ,G9,Cw];omega
 ·rintro σ H3 hE;refine aO 5 hE ?_;clear hE;rintro mv u v rfl x3 Cw;rw[yx,ut]at Cw;symm;rw[show mv=kJ ss qs+(qs.idxOf w:Nat)+1 by omega];exact hq H3 x3
theorem AT(x y:Int):max x y-min x y=((x-y).natAbs:Int):=by omega
def YT:Sp:=λus H Q _=>∃(gl:Addr) (g:Gm) (st:ag) (ws:List aw) (b a:ag) (w:aw) (bv wv av x:V),us=[.ref gl,bv,wv,av]/\bE H gl g st ws/\g.wf/\b.at_ H bv/\w.at_ H wv/\a.at_ H av/\g.ok 40 b/\g.okW w/\g.ok 40 a/\g.pp b w a x/\∀H',al H H'->Q x H'
theorem j99(T:Txt K mg a):FnOk P w K mg base (CXU P w) 2 a.f38 a.d38 ["_law_game_here","_law_before","_law_wish","_law_after_here"] (YT):=by
 refine T.F38.okU1 Py λvs H Q E h=>?_;unfold YT at h;refine aO 12 h ?_;clear h;rintro gl g st ws b aa w bv wv av x rfl h;refine aO 9 h ?_;clear h;rintro⟨gv,sv,wl,cC,hg,fc,_⟩ gE hb hw ha bt bI dW fJ hq;refine⟨rfl,λ_ _ _ _ hr=>⟨_,(ax (bw (ba (bW hr) (aD aF (pv 0) ak (λ_ _=>rfl)) ak (bd _)) (ax (bw (ba (bW hr) (pv 1) ak (bd _)) (ay (aK (aD aF (bX (ae jE (ae ak aj))) (pv 3) (λ_ _=>rfl)))) bA)
  (ay (aK (aD aF (bX (ae (pv 2) (ae (aD aF (pv 0) ak (λ_ _=>rfl)) aj))) (pv 3) (λ_ _=>rfl))))) bA)
  (ax (bw (ba (bW hr) (aD aF (pv 0) ak (λ_ _=>rfl)) ak (bd _)) (ay (aK (bq (j85 T) hr T.F26 (T.F26.b3) (ae (pv 1) (ae (pv 2) (ae (pv 3) aj)))))) bA)
  (ax (bw (ba (bW hr) (aD aF (pv 0) ak (λ_ _=>rfl)) ak (bd _)) (ay (aK (ar aX (aD aF (pv 2) (pv 3) (λ_ _=>rfl)) (ar lB (aD aF (aD aF (pv 0) ak (λ_ _=>rfl)) ak (λ_ _=>rfl)) (eS sJ (by rfl) T.n_int XX (ae (rW Be (pv 1) (pv 3) (bd _)) aj)))))) bA)
  (ax (bw (ba (bW hr) (aD aF (pv 0) ak (λ_ _=>rfl)) ak (bd _)) (ay (aK (bq (jf3 T) hr T.F45 (T.F45.b4) (ae (aD aF (pv 0) ak (λ_ _=>rfl)) (ae (pv 1) (ae (pv 2) (ae (pv 3) aj))))))) bA)
  (ax (bw (ba DS (pv 2) (pv 3) (by with_unfolding_all rfl)) (ay (aK jE)) bA)
  (ax (bw (ba (bW hr) (aD aF (pv 0) ak (λ_ _=>rfl)) ak (bd _)) (ay (aK (aV cU (by rfl) T.cr xt (ae (hW (["_law_page"]:List Str) (["_law_before"]:List Str) [1] rfl ⟨rfl,by decide +kernel,by decide +kernel,by rfl,⟨⟨rfl,by nofun,by nofun⟩,trivial⟩⟩ (Bc (pv 3)) (λ_ _ _ _=>⟨(bK (i:=0) (by show((["_law_page"]:List Str)++(["_law_before"]:List Str)).Nodup;decide +kernel) rfl (by nofun)),(show dC _ [_] [_] from⟨(ba DS (pv 0) (pv 1) (by with_unfolding_all rfl)),trivial⟩),(pv 0)⟩)) aj)))) bA)
  (ay (aK (aV (wZ rfl) (by rfl) T.n_sum X6 (ae (hW (["_law_one","_law_other"]:List Str) ([]:List Str) [] rfl ⟨rfl,by decide +kernel,by decide +kernel,by rfl,trivial⟩ (Mm rfl T.n_zip (ae (pv 1) (ae (pv 3) aj))) (λ_ _ _ _=>⟨(CY rfl (oA (bK (i:=0) (by show((["_law_one","_law_other"]:List Str)++([]:List Str)).Nodup;decide +kernel) rfl (by nofun)) (oA (bK (i:=1) (by show((["_law_one","_law_other"]:List Str)++([]:List Str)).Nodup;decide +kernel) rfl (by nofun)) CW))),(show dC _ [] [] from trivial),(ar oG (aV (LD rfl) (by rfl) T.n_max YU (ae (pv 0) (ae (pv 1) aj))) (aV (Bv rfl) (by rfl) T.om Cy (ae (pv 0) (ae (pv 1) aj))))⟩)) aj)))))))))),?_⟩⟩
 cases g with
 |hire W=>
  have aJ:H gl=some (.lst [.int 0,gv,sv,.ref wl]):=hg;obtain rfl:gv=.int W:=fc;obtain⟨z,rfl⟩:=bI;obtain rfl:wv=.int z:=hw;exists aA aJ rfl ?_;rcases bt with rfl|rfl
  ·obtain rfl:bv=.int 0:=hb;exists aA aJ rfl ?_;symm;intro l1 H1 n1 q1 e1;symm;rcases dW with rfl|rfl
   ·obtain rfl:av=.int 0:=ha;refine aA q1 rfl ?_;obtain rfl:x=.int z:=fJ;exact hq H1 e1
   ·obtain rfl:av=.int 1:=ha;refine aA q1 rfl ?_;obtain rfl:x=.int W:=fJ;exact hq H1 e1
  ·obtain rfl:bv=.int 1:=hb;symm;intro l1 H1 n1 q1 e1;symm;rcases dW with rfl|rfl
   ·obtain rfl:av=.int 0:=ha;refine aA q1 rfl ?_;obtain rfl:x=.non:=fJ;exact hq H1 e1
   ·obtain rfl:av=.int 1:=ha;refine aA q1 rfl ?_;obtain rfl:x=.int 0:=fJ;exact hq H1 e1
 |line m=>
  have aJ:H gl=some (.lst [.int 1,gv,sv,.ref wl]):=hg;obtain⟨z,rfl⟩:=bI;obtain rfl:wv=.int z:=hw;obtain⟨bs,rfl,lb⟩:=bt;obtain⟨as,rfl,la⟩:=dW;obtain⟨bp,rfl,bN⟩:=hb;obtain⟨ap,rfl,gX⟩:=ha;have hm3:=gE.2;have fE:x=if z∈as then .int (qZ bs as)else .non:=fJ
  exists aA aJ rfl ?_;exists aA aJ rfl ?_;exists aA aJ rfl ?_;exists aA aJ rfl ?_;exists BJ gX rfl (IA _) ?_;rw[IC];exists dZ (λh=>?_) (λh=>?_)
  ·rw[if_neg h]at fE;subst fE;symm;exact hq H al.rfl'
  ·rw[if_pos h]at fE;subst fE;exists aA aJ rfl ?_;exists⟨bp,ap,bs.map V.int,as.map V.int,true,true,rfl,aZ.of bN,aZ.of gX,λacc hn _ _ _ _=>T4 (c:=true) (d:=true) (aZ.of bN) (aZ.of gX) (by simp[lb,la]) (by rw[y3];omega) hn
    (λi ys _=>ys=((WG (λa b:Int=>((a-b).natAbs:Int)) bs as).take i).map V.int) (by simp) (λ_ _ _ _ _ h=>h) (λi ys H' _ h=>by rw[h,y3,yp];omega) ?_ ?_⟩
   ·rintro i x z ys H2 H3 hx QF e e3 rfl Y N hY hN;obtain⟨x,ex,rfl⟩:=BM hx;obtain⟨z,ez,rfl⟩:=BM QF;exists hY _ _ e3 ?_;rw[gc,xk,y8y,ex,ez,AT];rfl
   ·rintro ys H2 e ha rfl;rw[xq (by rw[ya6,y3];omega)]at ha;symm;exact LX ha (hq H2 e)
 |shelf ts=>
  have aJ:H gl=some (.lst [.int 2,gv,sv,.ref wl]):=hg;obtain⟨z,rfl,hz⟩:=bI;obtain rfl:wv=.str z:=hw;obtain⟨bs,rfl,pb⟩:=bt;obtain⟨as,rfl,pa⟩:=dW;obtain⟨bp,rfl,bN⟩:=hb;obtain⟨ap,rfl,gX⟩:=ha;have l4:=gE.2.1;have lb:=pb.length_eq;have la:=pa.length_eq;obtain rfl:x=.int (kJ bs as+(as.idxOf z:Nat)+1):=fJ;exists aA aJ rfl ?_;exists aA aJ rfl ?_;symm;exact⟨bp,ap,bs,as,z,rfl,bN,gX,by omega,by omega,λx hx=>pa.mem_iff.mpr (pb.mem_iff.mp hx),pa.mem_iff.mpr hz,hq⟩
 |wys m t=>
  have aJ:H gl=some (.lst [.int 3,gv,sv,.ref wl]):=hg;obtain⟨tp,rfl,vE⟩:=fc;obtain⟨z,rfl,lz⟩:=bI;obtain⟨wp,rfl,QJ⟩:=hw;obtain⟨bz,rfl,_⟩:=bt;obtain⟨az,rfl,a0,a1⟩:=dW;obtain rfl:bv=.int bz:=hb;obtain rfl:av=.int az:=ha;have i1:=iW (ns:=z) a0 (by omega);have fE:x=.int (if az=bz then z.getD az.toNat 0 else z.getD az.toNat 0+t):=fJ;exists aA aJ rfl ?_;exists aA aJ rfl ?_;exists aA aJ rfl ?_;exists cP QJ i1 ?_;exists aA aJ rfl ?_;exists cP vE rfl ?_;symm;have e:z.getD az.toNat 0+t*(if (!decide (bz=az))=true then 1 else 0)=if az=bz then z.getD az.toNat 0 else z.getD az.toNat 0+t:=by
   by_cases c:bz=az
   ·rw[decide_eq_true c,if_pos c.symm];simp
   ·rw[decide_eq_false c,if_neg (show ¬ az=bz from λh=>c h.symm)];simp
  rw[e,<- fE];exact hq H al.rfl'
 |store m=>
  have aJ:H gl=some (.lst [.int 4,gv,sv,.ref wl]):=hg;obtain⟨z,rfl,hz⟩:=bI;obtain rfl:wv=.str z:=hw;obtain⟨bs,rfl,lb,nb⟩:=bt;obtain⟨as,rfl,la,na⟩:=dW;obtain⟨bp,rfl,bN⟩:=hb;obtain⟨ap,rfl,gX⟩:=ha;have hm4:=gE.2;have fE:x=if z∈as then .int ((as.filter λx=>!decide (x∈bs)).length:Nat)else .non:=fJ
  exists aA aJ rfl ?_;exists aA aJ rfl ?_;exists aA aJ rfl ?_;exists aA aJ rfl ?_;exists BJ gX rfl (Cb _) ?_;rw[Ca];exists dZ (λh=>?_) (λh=>?_)
  ·rw[if_neg h]at fE;subst fE;symm;exact hq H al.rfl'
  ·rw[if_pos h]at fE;subst fE;exists aA aJ rfl ?_;exists⟨ap,rfl,⟨_,aZ.of gX⟩,λacc hn _ _ _ _=>Ex (aZ.of gX) (by rw[y3];omega) hn (λj ys _=>ys=((as.take j).filter λt=>!decide (t∈bs)).map V.str) (by simp) (λ_ _ _ _ _ h=>h) (λj ys H' _ h=>by rw[h,y3];exact v9 (AJ _ _) (by rw[yp];omega)) ?_ ?_⟩
   ·rintro j y ys H2 hy e rfl Y N hY hN;obtain⟨y,ey,rfl⟩:=Cc hy;have et:as.take (j+1)=as.take j++[y]:=(by rw[gc,ey];rfl);exists BJ (e _ _ bN) rfl (Cb _) ?_;rw[Ca];exists dZ (λh=>?_) (λh=>?_)
    ·exists hY _ _ al.rfl' ?_;rw[et,vk,gw,if_pos (by simp[h]),xk];rfl
    ·exists hN _ al.rfl' ?_;rw[et,vk,gw,if_neg (by simp[h]),nO,oK]
   ·rintro ys H2 e2 ha rfl;rw[y3,xq (yg _)]at ha;exists jl ha ?_;rw[y3];exact hq H2 e2
 |bags R=>
  have aJ:H gl=some (.lst [.int 5,gv,sv,.ref wl]):=hg;obtain rfl:gv=.int R:=fc;obtain⟨z,rfl,z1,z2⟩:=bI;obtain rfl:wv=.int z:=hw;obtain⟨bs,rfl,hL,lb⟩:=bt;obtain⟨as,rfl,hLa,la⟩:=dW;obtain⟨bp,rfl,bN⟩:=hb;obtain⟨ap,rfl,gX⟩:=ha;exists aA aJ rfl ?_;exists aA aJ rfl ?_;exists aA aJ rfl ?_;exists aA aJ rfl ?_;exists aA aJ rfl ?_;symm;exact⟨bp,ap,bs,as,z,R,x,rfl,bN,gX,by omega,fJ,hq⟩
def Hd:Gm->ag->aw->Prop
 | .line _,.l b,.i w=>w∉b
 | .store _,.t b,.s w=>w∉b
 | .bags _,_,_=>True
 |_,_,_=>False
theorem jlc(nd:ss.Nodup)(h:k<ss.length):(ss.take k++ss.drop (k+1)).Perm (ss.filter λt=>!decide (t=ss.getD k ⟨#[]⟩)):=by
 have e:ss=ss.take k++ss.getD k ⟨#[]⟩ :: ss.drop (k+1):=by
  rw[y8,y4 h,IQ,<- Q3 h,vz]
 generalize ss.getD k ⟨#[]⟩=x at *;generalize ss.take k=A at *;generalize ss.drop (k+1)=B at *;subst e;obtain⟨n1,n2,n3⟩:=JX.mp nd;obtain⟨n4,n5⟩:=kX.mp n2;rw[vk,gw,if_neg (by simp),ya3.mpr λt ht=>?_,ya3.mpr λt ht=>?_]
 ·have:t≠x:=λz=>n4 (z ▸ ht);simp[this]
 ·have:t≠x:=λz=>n3 t ht x yu z;simp[this]
def YV:Sp:=λus H Q _=>∃(gl:Addr) (g:Gm) (st:ag) (ws:List aw) (b:ag) (w:aw) (bv wv:V) (n:Nat),us=[bv,wv,.ref gl]/\bE H gl g st ws/\g.wf/\b.at_ H bv/\w.at_ H wv/\g.ok n b/\g.nd b/\g.okW w/\n<=40/\Hd g b w/\∀l vs as H',H' l=some (.lst vs)->ao (ag.at_ H') as vs->as.length<=60->(∀s,s∈as↔g.dst b w s)->al H H'->Q (.ref l) H'
theorem j6s(T:Txt K mg a):FnOk P w K mg base (CXU P w) 1 a.f10 a.d10 ["_law_before","_law_wish","_law_game_here"] (YV):=by
 refine T.F10.okU1 JM λvs H Q E h=>?_;unfold YV at h;refine aO 12 h ?_;clear h;rintro gl g st ws b w bv wv n rfl ⟨gv,sv,wl,cC,hg,fc,_⟩ gE h;refine aO 7 h ?_;clear h;rintro hb hw bt pG bI Kk AU hq;refine⟨rfl,λ_ _ _ _ hr=>⟨_,(ax (bh (i:=3) JM.nd rfl (by nofun) (bX aj))
  (ax (ik u8 rfl (fL rfl T.c9 (ae (aV cU (by rfl) T.cr xt (ae (pv 0) aj)) aj)) (bK (i:=4) JM.nd rfl (by nofun)) (ax (bh (i:=5) JM.nd rfl (by nofun) (ar aX (fO fR (pv 0) gK (fj (pv 4))) (fO fR (pv 0) (fj (ar aX (pv 4) ak)) gK)))
  (ay (bw (ba Be (aD aF (pv 2) ak (λ_ _=>rfl)) ak (bd _)) (ay (lW (j9 v6 ue ug oQ (pv 3) (ae (eS jd (by rfl) T.dh xw (ae (aV lC (by rfl) T.cw gg (ae (ar aX (pv 5) (fN (ae (pv 1) aj))) aj)) aj)) aj)))) (ay (bw (ba yY (ar aX (aD aF (pv 0) (pv 4) (λ_ _=>rfl)) (pv 1)) (aD aF (pv 2) ak (λ_ _=>rfl)) (bd _)) (ay (lW (j9 v6 ue ug oQ (pv 3) (ae (eS jd (by rfl) T.dh xw (ae (aV lC (by rfl) T.cw gg (ae (ar aX (pv 5) (fN (ae (ar aX (aD aF (pv 0) (pv 4) (λ_ _=>rfl)) (pv 1)) aj))) aj)) aj)) aj)))) bA))))))
  (ax (bw (ba (bW hr) (aD aF (pv 2) ak (λ_ _=>rfl)) ak (bd _)) (ay (lW (j9 v6 ue ug oQ (pv 3) (ae (eS jd (by rfl) T.dh xw (ae (aV lC (by rfl) T.cw gg (ae (ar aX (pv 0) (fN (ae (pv 1) aj))) aj)) aj)) aj)))) bA)
  (ay (aK (pv 3)))))),?_⟩⟩
 cases g with
 |hire W=>exact(show False by cases b<;>cases w<;>exact AU).elim
 |shelf W=>exact(show False by cases b<;>cases w<;>exact AU).elim
 |wys W t=>exact(show False by cases b<;>cases w<;>exact AU).elim
 |line m=>
  have aJ:H gl=some (.lst [.int 1,gv,sv,.ref wl]):=hg;obtain⟨z,rfl⟩:=bI;obtain rfl:wv=.int z:=hw;obtain⟨bs,rfl,lb⟩:=bt;obtain⟨bp,rfl,bN⟩:=hb;obtain⟨m1,m3⟩:=gE;symm;intro l1 H1 n1 q1 e1;exists hZ (e1 _ _ bN) ?_;rw[y3];exists⟨_,rfl,by omega,by omega,lX (λi σ H2=>∃(u1 u2:Option V) (vs:List V) (as:List ag),σ=[some (.ref bp),some (.int z),some (.ref gl),some (.ref l1),u1,u2]/\al H H2/\H2 l1=some (.lst vs)/\ao (ag.at_ H2) as vs/\as.length=i/\∀s,s∈as↔∃k ms,k<i/\s=.l ms/\eY bs k z ms) ⟨none,none,[],[],rfl,e1,q1,trivial,rfl,λs=>⟨λh=>(by cases h),λ⟨k,_,hk,_⟩=>by omega⟩⟩ ?_ ?_⟩
  ·rintro kk σ H2 hi hE;refine aO 9 hE ?_;clear hE;rintro u1 u2 vs as rfl x2 q2 has la dW;have lG:kk<bs.length:=by omega
   have dU:=x2 _ _ bN;rw[show((0:Int)+(kk:Nat))=(kk:Nat) by omega];have i1:=iW (ns:=bs) (k:=(kk:Nat)) (by omega) (by omega);rw[yx]at i1;exists jN dU λl3 H3 q3 e3=>?_;rw[PU (by omega)]at q3;have ie:=e3 _ _ dU;exists jN ie λl4 H4 q4 e4=>?_;rw[show(some ((kk:Int)+1))=some ((kk+1:Nat):Int)from by rw[GX];rfl,PR (by omega)]at q4;exists gO (e4 _ _ q3) q4 (by simp;omega) λl5 H5 q5 e5=>?_;rw[<- xk]at q5;have gF:=e3.tr (e4.tr e5);have nX:=(x2.tr gF) _ _ aJ;have AS:=gF _ _ dU;exists aA nX rfl ?_;symm;intro l6 H6 n6 q6 e6;exists gO (zs:=[z].map V.int) (e6 _ _ q5) q6 (by simp;omega) λl7 H7 q7 e7=>?_;rw[<- xk]at q7;exists uA q7 (by simp;omega) λl8 ms H8 n8 p8 s8 q8 e8=>?_;exists iT q8 λl9 H9 n9 q9 e9=>?_;have x9:=gF.tr (e6.tr (e7.tr (e8.tr e9)));have g9:=x9 _ _ q2;have lv:=has.len;exists oS g9 (by omega) λmN ii kO=>?_;exists⟨_,_,_,as++[.l ms],rfl,al.but (x2.tr x9) kO n1,ii,(ao.snoc (f:=ag.at_ H9) (show ag.at_ H9 (.l ms) (.ref l9)from⟨l9,rfl,q9⟩) (has.imp λk=>ag.mono x9 k)).imp λk=>ag.but g9 kO k,by simp[la],λs=>?_⟩;have sn:eY bs kk z ms:=⟨p8.trans (GN _ _ _),s8⟩
   rw[yw,y9,dW];constructor
   ·rintro(⟨k,M,hk,q⟩|q)
    ·exact⟨k,M,by omega,q⟩
    ·exact⟨kk,ms,by omega,q,sn⟩
   ·rintro⟨k,M,hk,q,hs⟩;by_cases y:k<kk
    ·exact .inl ⟨k,M,y,q,hs⟩
    ·obtain rfl:k=kk:=(by omega);exact .inr (by rw[q,hs.same sn])
  ·rintro σ H2 hE;refine aO 9 hE ?_;clear hE;rintro u1 u2 vs as rfl x2 q2 has la dW;exists aA (x2 _ _ aJ) rfl ?_;exists hq l1 vs as H2 q2 has (by omega) (λs=>?_) x2;rw[dW];constructor
   ·rintro⟨k,M,hk,q,hs⟩;exact⟨M,q,.inr ⟨AU,k,by omega,hs⟩⟩
   ·rintro⟨M,q,⟨y,_⟩|⟨_,k,hk,hs⟩⟩
    ·exact absurd y AU
    ·exact⟨k,M,by omega,q,hs⟩
 |store m=>
  have aJ:H gl=some (.lst [.int 4,gv,sv,.ref wl]):=hg;obtain⟨z,rfl,hz⟩:=bI;obtain rfl:wv=.str z:=hw;obtain⟨bs,rfl,lb,nb⟩:=bt;obtain⟨bp,rfl,bN⟩:=hb;obtain⟨m1,m3⟩:=gE;symm;intro l1 H1 n1 q1 e1;exists hZ (e1 _ _ bN) ?_;rw[y3];exists⟨_,rfl,by omega,by omega,lX (λi σ H2=>∃(u1 u2:Option V) (vs:List V) (as:List ag),σ=[some (.ref bp),some (.str z),some (.ref gl),some (.ref l1),u1,u2]/\al H H2/\H2 l1=some (.lst vs)/\ao (ag.at_ H2) as vs/\as.length=i/\∀s,s∈as↔∃k ms,k<i/\s=.t ms/\pA bs (bs.getD k ⟨#[]⟩) z ms) ⟨none,none,[],[],rfl,e1,q1,trivial,rfl,λs=>⟨λh=>(by cases h),λ⟨k,_,hk,_⟩=>by omega⟩⟩ ?_ ?_⟩
  ·rintro kk σ H2 hi hE;refine aO 9 hE ?_;clear hE;rintro u1 u2 vs as rfl x2 q2 has la dW;have lG:kk<bs.length:=by omega
   have dU:=x2 _ _ bN;rw[show((0:Int)+(kk:Nat))=(kk:Nat) by omega];exists jN dU λl3 H3 q3 e3=>?_;rw[JP (by omega)]at q3;have ie:=e3 _ _ dU;exists jN ie λl4 H4 q4 e4=>?_;rw[show(some ((kk:Int)+1))=some ((kk+1:Nat):Int)from by rw[GX];rfl,JQ (by omega)]at q4;exists gO (e4 _ _ q3) q4 (by simp;omega) λl5 H5 q5 e5=>?_;rw[<- xk]at q5;have gF:=e3.tr (e4.tr e5);exists aA ((x2.tr gF) _ _ aJ) rfl ?_;symm;intro l6 H6 n6 q6 e6;exists gO (zs:=[z].map V.str) (e6 _ _ q5) q6 (by simp;omega) λl7 H7 q7 e7=>?_;rw[<- xk]at q7;exists jjm q7 (by simp;omega) λl8 ms H8 n8 p8 s8 q8 e8=>?_;exists iT q8 λl9 H9 n9 q9 e9=>?_;have x9:=gF.tr (e6.tr (e7.tr (e8.tr e9)));have g9:=x9 _ _ q2;have lv:=has.len;exists oS g9 (by omega) λmN ii kO=>?_;exists⟨_,_,_,as++[.t ms],rfl,al.but (x2.tr x9) kO n1,ii,(ao.snoc (f:=ag.at_ H9) (show ag.at_ H9 (.t ms) (.ref l9)from⟨l9,rfl,q9⟩) (has.imp λk=>ag.mono x9 k)).imp λk=>ag.but g9 kO k,by simp[la],λs=>?_⟩;have sn:pA bs (bs.getD kk ⟨#[]⟩) z ms:=⟨p8.trans ((jlc pG lG).append_right _),s8⟩
   rw[yw,y9,dW];constructor
   ·rintro(⟨k,M,hk,q⟩|q)
    ·exact⟨k,M,by omega,q⟩
    ·exact⟨kk,ms,by omega,q,sn⟩
   ·rintro⟨k,M,hk,q,hs⟩;by_cases y:k<kk
    ·exact .inl ⟨k,M,y,q,hs⟩
    ·obtain rfl:k=kk:=(by omega);exact .inr (by rw[q,hs.uniq sn])
  ·rintro σ H2 hE;refine aO 9 hE ?_;clear hE;rintro u1 u2 vs as rfl x2 q2 has la dW;exists aA (x2 _ _ aJ) rfl ?_;exists hq l1 vs as H2 q2 has (by omega) (λs=>?_) x2;rw[dW];constructor
   ·rintro⟨k,M,hk,q,hs⟩;exact⟨M,q,.inr ⟨AU,_,Cd (by omega),hs⟩⟩
   ·rintro⟨M,q,⟨y,_⟩|⟨_,g,hg,hs⟩⟩
    ·exact absurd y AU
    ·obtain⟨k,hk,rfl⟩:=vd hg;exact⟨k,M,by omega,q,by rw[y8,y4 hk];exact hs⟩
 |bags R=>
  have aJ:H gl=some (.lst [.int 5,gv,sv,.ref wl]):=hg;obtain rfl:gv=.int R:=fc;obtain⟨z,rfl,z1,z2⟩:=bI;obtain rfl:wv=.int z:=hw;obtain⟨bs,rfl,hL,lb⟩:=bt;obtain⟨bp,rfl,bN⟩:=hb;symm;intro l1 H1 n1 q1 e1;exists hZ (e1 _ _ bN) ?_;rw[y3];exists⟨_,rfl,by omega,by omega,lX (λi σ H2=>∃(u1 u2:Option V) (vs:List V) (as:List ag),σ=[some (.ref bp),some (.int z),some (.ref gl),some (.ref l1),u1,u2]/\al H H2/\H2 l1=some (.lst vs)/\ao (ag.at_ H2) as vs/\as.length<=i/\∀s,s∈as↔∃k ms,k<i/\s=.l ms/\bs.getD k 0+z<=R/\ms.Perm (bs.set k (bs.getD k 0+z))/\ms.Pairwise (·<=·)) ⟨none,none,[],[],rfl,e1,q1,trivial,yg _,λs=>⟨λh=>(by cases h),λ⟨k,_,hk,_⟩=>by omega⟩⟩ ?_ ?_⟩
  ·rintro kk σ H2 hi hE;refine aO 9 hE ?_;clear hE;rintro u1 u2 vs as rfl x2 q2 has la dW;have lG:kk<bs.length:=by omega
   have dU:=x2 _ _ bN;rw[show((0:Int)+(kk:Nat))=(kk:Nat) by omega];have i1:=iW (ns:=bs) (k:=(kk:Nat)) (by omega) (by omega);rw[yx]at i1;exists jN dU λl3 H3 q3 e3=>?_;rw[PU (by omega)]at q3;have ie:=e3 _ _ dU;exists jN ie λl4 H4 q4 e4=>?_;rw[show(some ((kk:Int)+1))=some ((kk+1:Nat):Int)from by rw[GX];rfl,PR (by omega)]at q4;exists gO (e4 _ _ q3) q4 (by simp;omega) λl5 H5 q5 e5=>?_;rw[<- xk]at q5;have gF:=e3.tr (e4.tr e5);have nX:=(x2.tr gF) _ _ aJ;have AS:=gF _ _ dU;exists aA nX rfl ?_;exists cP AS i1 ?_;exists aA nX rfl ?_;exists bg (λcR=>?_) (λcR=>?_)
   ·exists cP AS i1 ?_;symm;intro l6 H6 n6 q6 e6;exists gO (zs:=[bs.getD kk 0+z].map V.int) (e6 _ _ q5) q6 (by simp;omega) λl7 H7 q7 e7=>?_;rw[<- xk]at q7;exists uA q7 (by simp;omega) λl8 ms H8 n8 p8 s8 q8 e8=>?_;exists iT q8 λl9 H9 n9 q9 e9=>?_;have x9:=gF.tr (e6.tr (e7.tr (e8.tr e9)));have g9:=x9 _ _ q2;have lv:=has.len;exists oS g9 (by omega) λmN ii kO=>?_;exists⟨_,_,_,as++[.l ms],rfl,al.but (x2.tr x9) kO n1,ii,(ao.snoc (f:=ag.at_ H9) (show ag.at_ H9 (.l ms) (.ref l9)from⟨l9,rfl,q9⟩) (has.imp λk=>ag.mono x9 k)).imp λk=>ag.but g9 kO k,by simp;omega,λs=>?_⟩;have sn:=p8.trans (WT lG);rw[yw,y9,dW];constructor
    ·rintro(⟨k,M,hk,q⟩|q)
     ·exact⟨k,M,by omega,q⟩
     ·exact⟨kk,ms,by omega,q,cR,sn,s8⟩
    ·rintro hE;refine aO 6 hE ?_;clear hE;rintro k M hk q hR pM sM;by_cases y:k<kk
     ·exact .inl ⟨k,M,y,q,hR,pM,sM⟩
     ·obtain rfl:k=kk:=(by omega);exact .inr (by rw[q,jV (pM.trans sn.symm) sM s8])
   ·exists⟨_,_,vs,as,rfl,x2.tr gF,gF _ _ q2,has.imp λk=>ag.mono gF k,by omega,λs=>?_⟩;rw[dW];constructor
    ·rintro⟨k,M,hk,q⟩;exact⟨k,M,by omega,q⟩
    ·rintro hE;refine aO 5 hE ?_;clear hE;rintro k M hk q hR y;by_cases y':k<kk
     ·exact⟨k,M,y',q,hR,y⟩
     ·obtain rfl:k=kk:=(by omega);exact absurd hR cR
  ·rintro σ H2 hE;refine aO 9 hE ?_;clear hE;rintro u1 u2 vs as rfl x2 q2 has la dW;exists aA (x2 _ _ aJ) rfl ?_;symm;intro l3 H3 n3 q3 e3;exists gO (zs:=[z].map V.int) ((x2.tr e3) _ _ bN) q3 (by simp;omega) λl4 H4 q4 e4=>?_;rw[<- xk]at q4;exists uA q4 (by simp;omega) λl5 ms H5 n5 p5 s5 q5 e5=>?_;exists iT q5 λl6 H6 n6 q6 e6=>?_;have x6:=e3.tr (e4.tr (e5.tr e6));have g6:=x6 _ _ q2;have lv:=has.len;exists oS g6 (by omega) λH7 q7 b7=>?_;exists hq l1 _ (as++[.l ms]) H7 q7 ((ao.snoc (f:=ag.at_ H6) (show ag.at_ H6 (.l ms) (.ref l6)from⟨l6,rfl,q6⟩) (has.imp λk=>ag.mono x6 k)).imp λk=>ag.but g6 b7 k) (by simp;omega) (λs=>?_) (al.but (x2.tr x6) b7 n1);rw[yw,y9,dW];constructor
   ·rintro(⟨k,M,hk,q,hR,pM,sM⟩|q)
    ·exact⟨M,0,q,sM,.inr ⟨rfl,k,by omega,hR,pM⟩⟩
    ·exact⟨ms,1,q,s5,.inl ⟨rfl,p5⟩⟩
   ·rintro⟨M,pr,q,sM,⟨_,pM⟩|⟨_,k,hk,hR,pM⟩⟩
    ·exact .inr (by rw[q,jV (pM.trans p5.symm) sM s5])
    ·exact .inl ⟨k,M,by omega,q,hR,pM,sM⟩
def Cz:Nat->Nat
 |0=>1
 |n+1=>(n+1)*Cz n
def He(n:Nat):Sp:=λus H Q _=>∃(p:Addr) (ss:List Str),us=[.ref p]/\H p=some (.tup (ss.map V.str))/\ss.length<=n/\n<=4/\∀l vs (Ls:List (List Str)) H',H l=none->H' l=some (.lst vs)->aq H' vs Ls->(∀L,L∈Ls↔L.Perm ss)->Ls.length=Cz ss.length->al H H'->Q (.ref l) H'
theorem YW(h:k<ss.length):(ss.getD k ⟨#[]⟩ :: (ss.take k++ss.drop (k+1))).Perm ss:=by
 have e:ss=ss.take k++ss.getD k ⟨#[]⟩ :: ss.drop (k+1):=by
  rw[y8,y4 h,IQ,<- Q3 h,vz]
 refine Jh.symm.trans ?_;rw[<- e]
theorem YX:∀n,n<5->Cz n<=24:=by decide
theorem aq.snocN{H:Hp}{a:Addr}{L:List Str}(ha:H a=some (.tup (L.map V.str))){vs:List V}{Ls:List (List Str)}(r:aq H vs Ls):aq H (vs++[.ref a]) (Ls++[L]):=by
 induction r with
 |nil=>exact .cons ha .nil
 |cons x _ ih=>exact .cons x ih
def AV(ss:List Str)(i:Nat)(L:List Str):Prop:=∃(k:Nat) (M:List Str),k<i/\L=ss.getD k ⟨#[]⟩ :: M/\M.Perm (ss.take k++ss.drop (k+1))
theorem jld{ss L:List Str}(h0:0<ss.length):AV ss ss.length L↔L.Perm ss:=by
 constructor
 ·rintro⟨k,M,hk,rfl,pM⟩;exact(pM.cons _).trans (YW hk)
 ·intro p;cases L with
  |nil=>have:=p.length_eq;simp at this;omega
  |cons x M=>
   have hx:=E4.mpr (p.mem_iff.mp yu);have ex:ss.getD (ss.idxOf x) ⟨#[]⟩=x:=by rw[y8,y4 hx,E5 hx];rfl
   have:=p.trans (YW hx).symm;rw[ex]at this;exact⟨_,M,hx,by rw[ex],this.cons_inv⟩
theorem YY{n:Nat}{spA:Sp}(T:Txt K mg a)(hA:∀us H Q E,(∃m,n=m+1/\He m us H Q E)->spA us H Q E)(G:FnOk P w K mg base (CXU P w) k a.f23 a.d23 ["_law_things_here"] spA):
  FnOk P w K mg base (CXU P w) (k+1) a.f23 a.d23 ["_law_things_here"] (He n):=by
 refine T.F23.okU JN (λvs H Q E h=>?_) (λbj A outer s H vs Q E hr h=>?_)
 ·obtain⟨p,ss,rfl,_⟩:=h;rfl
 ·obtain⟨p,ss,rfl,hp,hl,h4,hq⟩:=h;refine⟨_,(ax (bw (ba (bW hr) (aV cU (by rfl) T.cr xt (ae (pv 0) aj)) ak (bd _)) (ay (aK (bX (ae (fN aj) aj)))) bA)
   (ax (bh (i:=1) JN.nd rfl (by nofun) (bX aj))
   (ax (ik u8 rfl (fL rfl T.c9 (ae (aV cU (by rfl) T.cr xt (ae (pv 0) aj)) aj)) (bK (i:=2) JN.nd rfl (by nofun)) (ay (ik u8 rfl (oC (Bi (G) hr (by rfl) T.F23.m T.F23.kp (T.F23.b1) .nil cT (ae (ar aX (fO fR (pv 0) gK (fj (pv 2))) (fO fR (pv 0) (fj (ar aX (pv 2) ak)) gK)) aj))) (bK (i:=3) JN.nd rfl (by nofun)) (ay (lW (j9 v6 ue ug oQ (pv 1) (ae (ar aX (fN (ae (aD aF (pv 0) (pv 2) (λ_ _=>rfl)) aj)) (pv 3)) aj)))))))
   (ay (aK (pv 1)))))),?_⟩
  exists hZ hp ?_;rw[y3];exists bg (λc=>?_) (λc=>?_)
  ·symm;intro t1 H1 n1 q1 e1;symm;intro l2 H2 n2 q2 e2;have es:ss=[]:=vw.mp (by omega);subst es;exact hq l2 _ [[]] H2 (e1.free n2) q2 (.cons (L:=[]) (e2 _ _ q1) .nil) (λL=>by rw[y9,ydv]) rfl (e1.tr e2)
  obtain⟨m,rfl⟩:∃m,n=m+1:=⟨n-1,by omega⟩
  obtain⟨d,ed⟩:∃d,ss.length=d+1:=⟨ss.length-1,by omega⟩
  have YZ:=YX d (by omega);symm;intro lf H1 n1 q1 e1;exists hZ (e1 _ _ hp) ?_;rw[y3];exists⟨_,rfl,by omega,by omega,lX (λi σ H2=>∃(u1 u2:Option V) (vs:List V) (Ls:List (List Str)),σ=[some (.ref p),some (.ref lf),u1,u2]/\al H H2/\H2 lf=some (.lst vs)/\aq H2 vs Ls/\(∀L,L∈Ls↔AV ss i L)/\Ls.length=i*Cz d) ⟨none,none,[],[],rfl,e1,q1,.nil,(λL=>⟨λh=>(by cases h),λ⟨k,_,hk,_⟩=>by omega⟩),by simp⟩ ?_ ?_⟩
  ·rintro i σ H2 hi hE;refine aO 9 hE ?_;clear hE;rintro u1 u2 vs Ls rfl x2 q2 Q4 kD Q5;have pd:i<ss.length:=by omega
   have ib:i*Cz d<=4*24:=Uk (by omega) YZ;rw[show((0:Int)+(i:Nat))=(i:Nat) by omega];have iz:=x2 _ _ hp;exists jN iz λl3 H3 q3 e3=>?_;rw[JP (by omega)]at q3;have kN:=e3 _ _ iz;exists jN kN λl4 H4 q4 e4=>?_;rw[show(some ((i:Int)+1))=some ((i+1:Nat):Int)from by rw[GX];rfl,JQ (by omega)]at q4;exists gO (e4 _ _ q3) q4 (by simp;omega) λl5 H5 q5 e5=>?_;rw[<- xk]at q5;have gF:=e3.tr (e4.tr e5);have lo:(ss.take i++ss.drop (i+1)).length=d:=by rw[xi,yp,ve];omega
   exists hA _ _ _ _ ⟨m,rfl,l5,_,rfl,q5,by omega,by omega,λl6 Kl vF H6 n6 q6 Y0 Q6 Y1 e6=>?_⟩;rw[lo]at Y1;have CB:=gF.tr e6;have Km:=CB _ _ q2;have QS:l6≠lf:=λz=>by rw[z,gF _ _ q2]at n6;cases n6
   have Y2:=Y0.length;exists⟨l6,rfl,⟨_,SqL.of q6⟩,HD (xs:=Kl) (λj σ H7=>∃(u2:Option V) (vs:List V) (Ls:List (List Str)),σ=[some (.ref p),some (.ref lf),some (.int (i:Nat)),u2]/\al H H7/\H7 l6=some (.lst Kl)/\aq H7 Kl vF/\H7 lf=some (.lst vs)/\aq H7 vs Ls/\(∀L,L∈Ls↔AV ss i L\/∃M∈vF.take j,L=ss.getD i ⟨#[]⟩ :: M)/\Ls.length=i*Cz d+j) ⟨u2,vs,Ls,rfl,x2.tr CB,q6,Y0,Km,Q4.mono CB,(λL=>by rw[kD];simp),by omega⟩ (λj σ H7 _ h=>by obtain⟨_,_,_,_,_,h,_⟩:=h;exact SqL.of h) ?_ ?_⟩
   ·rintro j z σ H7 hz hE;refine aO 10 hE ?_;clear hE;rintro u2 vs Ls rfl x7 q7 rz g7 Kn Q7 Q8;have hj:j<Kl.length:=(xl.mp hz).1;obtain⟨c,rfl,hc⟩:=rz.get j z hz;have hM:vF.getD j []∈vF:=(by rw[y8,y4 (by omega)];exact ua (by omega));have pL:=(Q6 _).mp hM;have e6':vF[j]?=some (vF.getD j []):=(by rw[y8,y4 (show j<vF.length by omega)];rfl);have lL:=pL.length_eq;have lv:=Kn.length;have i1:=Gp (ss:=ss) (k:=(i:Nat)) (by omega) (by omega);rw[yx]at i1;exists cP (x7 _ _ hp) i1 ?_;symm;intro l8 H8 n8 q8 e8;exists gO q8 (e8 _ _ hc) (by simp only[y3,yn,ub];omega) λl9 H9 q9 e9=>?_;have x9:=e8.tr e9;have g9:=x9 _ _ g7;exists oS g9 (by omega) λmN ii kO=>?_;exists⟨_,_,Ls++[ss.getD i ⟨#[]⟩ :: vF.getD j []],rfl,al.but (x7.tr x9) kO n1,kO _ _ QS (x9 _ _ q7),aq.butL g9 kO (rz.mono x9),ii,aq.butL g9 kO (aq.snocN q9 (Kn.mono x9)),λL=>?_,by simp[Q8];omega⟩;rw[yw,y9,Q7,gc,e6'];simp only[Option.toList,yw,y9];constructor
    ·rintro((q|⟨M,hM,q⟩)|q)
     ·exact .inl q
     ·exact .inr ⟨M,.inl hM,q⟩
     ·exact .inr ⟨_,.inr rfl,q⟩
    ·rintro(q|⟨M,hM|hM,q⟩)
     ·exact .inl (.inl q)
     ·exact .inl (.inr ⟨M,hM,q⟩)
     ·exact .inr (by rw[q,hM])
   ·rintro σ H7 hE;refine aO 10 hE ?_;clear hE;rintro u2 vs Ls rfl x7 q7 rz g7 Kn Q7 Q8;exists⟨_,_,vs,Ls,rfl,x7,g7,Kn,λL=>?_,by rw[Q8,Y2,Y1,HZ]⟩;rw[Q7,Y2,ut];constructor
    ·rintro(⟨k,M,hk,q⟩|⟨M,hM,q⟩)
     ·exact⟨k,M,by omega,q⟩
     ·exact⟨i,M,by omega,q,(Q6 M).mp hM⟩
    ·rintro⟨k,M,hk,q,pM⟩;by_cases z:k<i
     ·exact .inl ⟨k,M,z,q,pM⟩
     ·obtain rfl:k=i:=(by omega);exact .inr ⟨M,(Q6 M).mpr pM,q⟩
  ·rintro σ H2 hE;refine aO 9 hE ?_;clear hE;rintro u1 u2 vs Ls rfl x2 q2 Q4 kD Q5;rw[yx]at Q5;exists hq lf vs Ls H2 n1 q2 Q4 (λL=>?_) (by rw[Q5,ed];rfl) x2;rw[kD,yx];exact jld (by omega)
theorem Y3(T:Txt K mg a):∀n:Nat,FnOk P w K mg base (CXU P w) (n+1) a.f23 a.d23 ["_law_things_here"] (He n)
 |0=>YY (k:=0) (spA:=λ_ _ _ _=>False) T (λ_ _ _ _ ⟨m,e,_⟩=>by omega) FnOk.no
 |n+1=>YY (n:=n+1) (k:=n+1) (spA:=He n) T (λ_ _ _ _ ⟨m,e,h⟩=>by cases e;exact h) (Y3 T n)
theorem j86(T:Txt K mg a):FnOk P w K mg base (CXU P w) 5 a.f23 a.d23 ["_law_things_here"] (He 4):=Y3 T 4
def Y4:Sp:=λus H Q _=>∃(gl:Addr) (g:Gm) (st:ag) (ws:List aw) (b:ag) (w:aw) (bv wv:V) (n:Nat),us=[.ref gl,bv,wv]/\bE H gl g st ws/\g.wf/\b.at_ H bv/\w.at_ H wv/\g.ok n b/\g.nd b/\g.okW w/\n<=40/\∀l vs as H',H' l=some (.lst vs)->ao (ag.at_ H') as vs->as.length<=60->(∀s,s∈as↔∃c,g.to b w s c)->al H H'->Q (.ref l) H'
theorem j9a(T:Txt K mg a):FnOk P w K mg base (CXU P w) 6 a.f33 a.d33 ["_law_game_here","_law_before","_law_wish"] (Y4):=by
 refine T.F33.okU1 PB λvs H Q E h=>?_;unfold Y4 at h;refine aO 12 h ?_;clear h;rintro gl g st ws b w bv wv n rfl hG gE h;refine aO 6 h ?_;clear h;rintro hb hw bt pG bI Kk hq;refine⟨rfl,λ_ _ _ _ hr=>⟨_,(ax (bw (ba (bW hr) (aD aF (pv 0) ak (λ_ _=>rfl)) ak (bd _)) (ay (aK (aD aF (bX (ae (bX (ae ak (ae ak aj))) (ae (bX (ae ak aj)) aj))) (pv 1) (λ_ _=>rfl)))) bA)
  (ax (bw (ba (bW hr) (aD aF (pv 0) ak (λ_ _=>rfl)) ak (bd _)) (ay (aK (bq (j86 T) hr T.F23 (T.F23.b1) (ae (aD aF (pv 0) ak (λ_ _=>rfl)) aj)))) bA)
  (ax (bw (ba (bW hr) (aD aF (pv 0) ak (λ_ _=>rfl)) ak (bd _)) (ay (aK (UL rfl (by rfl) T.mx (by rfl) T.c9 (ae (aD aF (aD aF (pv 0) ak (λ_ _=>rfl)) ak (λ_ _=>rfl)) aj)))) bA)
  (ax (bw (PW.pt (CS (ba Be (aD aF (pv 0) ak (λ_ _=>rfl)) ak (bd _)) (Hx (ba LI (pv 2) (pv 1) (by with_unfolding_all rfl))))) (ay (aK (bX (ae (pv 1) aj)))) bA)
  (ay (aK (bq (j6s T) hr T.F10 (T.F10.b3) (ae (pv 1) (ae (pv 2) (ae (pv 0) aj)))))))))),?_⟩⟩
 have Gf:=hG;obtain⟨gv,sv,wl,cC,hg,fc,_⟩:=Gf;cases g with
 |hire W=>
  have aJ:H gl=some (.lst [.int 0,gv,sv,.ref wl]):=hg;exists aA aJ rfl ?_;symm;intro l1 H1 n1 q1 e1;symm;intro l2 H2 n2 q2 e2;symm;intro l3 H3 n3 q3 e3;obtain⟨z,rfl⟩:=bI;rcases bt with rfl|rfl
  ·obtain rfl:bv=.int 0:=hb;exists aA q3 rfl ?_;exists hq l1 _ [.i 0,.i 1] H3 (e3 _ _ (e2 _ _ q1)) ⟨rfl,rfl,trivial⟩ (by simp) (λs=>?_) (e1.tr (e2.tr e3));constructor
   ·intro hs;simp at hs;rcases hs with rfl|rfl
    ·exact⟨z,.inl rfl,rfl⟩
    ·exact⟨W,.inr rfl,rfl⟩
   ·rintro⟨c,rfl|rfl,_⟩<;>simp
  ·obtain rfl:bv=.int 1:=hb;exists aA q3 rfl ?_;exists hq l2 _ [.i 1] H3 (e3 _ _ q2) ⟨rfl,trivial⟩ (by simp) (λs=>?_) (e1.tr (e2.tr e3));rw[y9];constructor
   ·rintro rfl;exact⟨0,.inr rfl,rfl⟩
   ·rintro⟨c,rfl|rfl,h⟩
    ·exact absurd (show V.int c=.non from h) (λz=>nomatch z)
    ·rfl
 |shelf ts=>
  have aJ:H gl=some (.lst [.int 2,gv,sv,.ref wl]):=hg;obtain⟨tp,rfl,vE⟩:=fc;exists aA aJ rfl ?_;exists aA aJ rfl ?_;exists aA aJ rfl ?_;exists⟨tp,ts,rfl,vE,gE.2.1,yg _,λl vs Ls H' _ q rf pm ln e=>?_⟩;have YZ:=YX ts.length (by have:=gE.2.1;omega);refine hq l vs (Ls.map .t) H' q (P4 rf) (by rw[y3];omega) (λs=>?_) e;rw[lP bt bI λW z=>nomatch z];obtain⟨bs,rfl,pb⟩:=bt;rw[yk];exact⟨λ⟨L,hL,e⟩=>⟨L,e.symm,((pm L).mp hL).trans pb.symm⟩,λ⟨L,e,hL⟩=>⟨L,(pm L).mpr (hL.trans pb),e.symm⟩⟩
 |wys m t=>
  have aJ:H gl=some (.lst [.int 3,gv,sv,.ref wl]):=hg;obtain⟨tp,rfl,vE⟩:=fc;obtain⟨m1,m4⟩:=gE;exists aA aJ rfl ?_;exists aA aJ rfl ?_;exists aA aJ rfl ?_;exists aA aJ rfl ?_;exists cP vE rfl ?_;exists UM m rfl (by omega) λl H' _ q e=>?_;refine hq l _ ((fI m).map .i) H' q (Ce _) (by rw[y3,MK];omega) (λs=>?_) e;rw[lP bt bI λW z=>nomatch z];simp only[fI,v8,yk,u9,Xr];exact⟨λ⟨n,h1,h2⟩=>⟨_,h2.symm,by omega,by omega⟩,λ⟨z,h1,h2,h3⟩=>⟨z.toNat,by omega,by rw[h1];congr 1;omega⟩⟩
 |line m=>
  have aJ:H gl=some (.lst [.int 1,gv,sv,.ref wl]):=hg;have jB:=bt;have jC:=bI;have Hf:=hb;have Q9:=hw;obtain⟨z,rfl⟩:=bI;obtain rfl:wv=.int z:=hw;obtain⟨bs,rfl,lb⟩:=bt;obtain⟨bp,rfl,bN⟩:=hb;exists aA aJ rfl ?_;exists aA aJ rfl ?_;exists aA aJ rfl ?_;exists aA aJ rfl ?_;exists Iz bN rfl (IA _) ?_;rw[IC];exists bg (λc=>?_) (λc=>?_)
  ·symm;intro l1 H1 n1 q1 e1;refine hq l1 _ [.l bs] H1 q1 ⟨ag.mono e1 Hf,trivial⟩ (by simp) (λs=>?_) e1;rw[lP jB jC (λW z=>nomatch z),y9];exact⟨λe=>⟨bs,e,.inl ⟨c,rfl⟩⟩,λ⟨L,e,h⟩=>h.elim (λy=>by rw[e,y.2]) λy=>absurd c y.1⟩
  ·symm;exact⟨gl,_,st,ws,_,_,_,_,n,rfl,hG,gE,Hf,Q9,jB,pG,jC,Kk,c,λl vs as H' h1 h2 h3 h4 h5=>hq l vs as H' h1 h2 h3 (λs=>by rw[h4,lP jB jC λW z=>nomatch z]) h5⟩
 |store m=>
  have aJ:H gl=some (.lst [.int 4,gv,sv,.ref wl]):=hg;have jB:=bt;have jC:=bI;have Hf:=hb;have Q9:=hw;obtain⟨z,rfl,hz⟩:=bI;obtain rfl:wv=.str z:=hw;obtain⟨bs,rfl,lb,nb⟩:=bt;obtain⟨bp,rfl,bN⟩:=hb;exists aA aJ rfl ?_;exists aA aJ rfl ?_;exists aA aJ rfl ?_;exists aA aJ rfl ?_;exists Iz bN rfl (Cb _) ?_;rw[Ca];exists bg (λc=>?_) (λc=>?_)
  ·symm;intro l1 H1 n1 q1 e1;refine hq l1 _ [.t bs] H1 q1 ⟨ag.mono e1 Hf,trivial⟩ (by simp) (λs=>?_) e1;rw[lP jB jC (λW z=>nomatch z),y9];exact⟨λe=>⟨bs,e,.inl ⟨c,rfl⟩⟩,λ⟨L,e,h⟩=>h.elim (λy=>by rw[e,y.2]) λy=>absurd c y.1⟩
  ·symm;exact⟨gl,_,st,ws,_,_,_,_,n,rfl,hG,gE,Hf,Q9,jB,pG,jC,Kk,c,λl vs as H' h1 h2 h3 h4 h5=>hq l vs as H' h1 h2 h3 (λs=>by rw[h4,lP jB jC λW z=>nomatch z]) h5⟩
 |bags R=>
  have aJ:H gl=some (.lst [.int 5,gv,sv,.ref wl]):=hg;exists aA aJ rfl ?_;exists aA aJ rfl ?_;exists aA aJ rfl ?_;exists aA aJ rfl ?_;symm;exact⟨gl,_,st,ws,b,w,bv,wv,n,rfl,hG,gE,hb,hw,bt,pG,bI,Kk,trivial,λl vs as H' h1 h2 h3 h4 h5=>hq l vs as H' h1 h2 h3 (λs=>by rw[h4,lP bt bI λW z=>nomatch z]) h5⟩
theorem Y5{H:Hp}{s:ag}{v:V}(h:s.at_ H v):aR H (sD s) v:=by
 cases s with
 |i z=>exact h
 |l ns=>obtain⟨p,rfl,hp⟩:=h;exact aR.tupInts hp
 |t ss=>obtain⟨p,rfl,hp⟩:=h;exact WN hp
theorem Y6(s:ag):(sD s).fine=true:=by
 cases s with
 |i z=>rfl
 |l ns=>exact jcq ns
 |t ss=>exact Aq ss
theorem AW:∀{a b:ag},a≠.t []->b≠.t []->sD a=sD b->a=b
 | .i x,.i y,_,_,h=>by injection h with h;rw[h]
 | .l x,.l y,_,_,h=>by injection h with h;rw[Cq (f:=D.int) (λa b e=>by injection e) h]
 | .t x,.t y,_,_,h=>by injection h with h;rw[Cq (f:=D.str) (λa b e=>by injection e) h]
 | .i _,.l _,_,_,h=>by cases h
 | .i _,.t _,_,_,h=>by cases h
 | .l _,.i _,_,_,h=>by cases h
 | .t _,.i _,_,_,h=>by cases h
 | .l _,.t [],_,k,_=>absurd rfl k
 | .l [],.t (_::_),_,_,h=>by injection h with h;cases h
 | .l (_::_),.t (_::_),_,_,h=>by injection h with h;injection h with h;cases h
 | .t [],.l _,k,_,_=>absurd rfl k
 | .t (_::_),.l [],_,_,h=>by injection h with h;cases h
 | .t (_::_),.l (_::_),_,_,h=>by injection h with h;injection h with h;cases h
theorem jpj(s:ag):(sD s).depth<=5:=by
 have h1:=Qa [s];have h2:max (sD s).depth 0<=1:=h1;omega
def Y7:Sp:=λus H Q _=>∃(gl yl:Addr) (g:Gm) (st:ag) (ws:List aw) (c:Int) (Ys:List ag) (ys:List V),us=[.ref gl,.ref yl]/\bE H gl g st ws/\pF g st ws/\g.nd st/\H yl=some (.lst ys)/\ao (ag.at_ H) Ys ys/\cX st (ws.map (dB g)) Ys c/\∀H',al H H'->Q (.int c) H'
theorem j87(T:Txt K mg a):FnOk P w K mg base (CXU P w) 13 a.f27 a.d27 ["_law_game_here","_law_way"] (Y7):=by
 refine T.F27.okU1 uQ λvs H Q E h=>?_;unfold Y7 at h;refine aO 12 h ?_;clear h;rintro gl yl g st ws c Ys ys rfl hG hL fe h;refine aO 3 h ?_;clear h;rintro Y8 nP rF hq;refine⟨rfl,λ_ _ _ _ hr=>⟨_,(ax (bh (i:=2) uQ.nd rfl (by nofun) (aD aF (pv 0) ak (λ_ _=>rfl)))
  (ax (bh (i:=3) uQ.nd rfl (by nofun) ak)
  (ax (ik u8 rfl (fL rfl T.c9 (ae (aV cU (by rfl) T.cr xt (ae (pv 1) aj)) aj)) (bK (i:=4) uQ.nd rfl (by nofun)) (ax (bh (i:=5) uQ.nd rfl (by nofun) (bq (j9a T) hr T.F33 (T.F33.b3) (ae (pv 0) (ae (pv 2) (ae (aD aF (aD aF (pv 0) ak (λ_ _=>rfl)) (pv 4) (λ_ _=>rfl)) aj)))))
  (ax (sQ (i:=6) (["_law_j"]:List Str) (["_law_way","_law_k","_law_some"]:List Str) [1,4,5] uQ.nd rfl (k9 rfl) rfl ⟨rfl,by decide +kernel,by decide +kernel,by rfl,⟨⟨rfl,by nofun,by nofun⟩,⟨rfl,by nofun,by nofun⟩,⟨rfl,by nofun,by nofun⟩,trivial⟩⟩ (fL rfl T.c9 (ae (aV cU (by rfl) T.cr xt (ae (pv 5) aj)) aj)) (λ_ _ _ _=>⟨(bK (i:=0) (by show((["_law_j"]:List Str)++(["_law_way","_law_k","_law_some"]:List Str)).Nodup;decide +kernel) rfl (by nofun)),(show dC _ [_] [_] from⟨(mH (bq (Qz T) hr T.F44 (T.F44.b2) (ae (aD aF (pv 1) (pv 2) (λ_ _=>rfl)) (ae (aD aF (pv 3) (pv 0) (λ_ _=>rfl)) aj))) (λ_=>rfl)),trivial⟩),(pv 0)⟩))
  (ax (bw (ba (bW hr) (pv 6) (bX aj) (bd _)) (ay (aK (HE HG ak))) bA)
  (ax (bh (i:=3) uQ.nd rfl (by nofun) (ar aX (pv 3) (bq (j99 T) hr T.F38 (T.F38.b4) (ae (pv 0) (ae (pv 2) (ae (aD aF (aD aF (pv 0) ak (λ_ _=>rfl)) (pv 4) (λ_ _=>rfl)) (ae (aD aF (pv 5) (aD aF (pv 6) ak (λ_ _=>rfl)) (λ_ _=>rfl)) aj)))))))
  (ay (bh (i:=2) uQ.nd rfl (by nofun) (aD aF (pv 5) (aD aF (pv 6) ak (λ_ _=>rfl)) (λ_ _=>rfl)))))))))
  (ay (aK (pv 3)))))),?_⟩⟩
 obtain⟨gv,sv,wl,cC,hg,fc,AN,fP,fT⟩:=id hG;have lw:=fT.len;have ly:=nP.len;have lY:=XG rF;rw[y3]at lY;have rC:=hL.2.2.2.1;exists aA hg rfl ?_;exists jl Y8 ?_;exists⟨_,rfl,by omega,by omega,lX (λi σ H2=>∃(b:ag) (hv:V) (t q:Int) (u1 u2 u3:Option V),σ=[some (.ref gl),some (.ref yl),some hv,some (.int t),u1,u2,u3]/\al H H2/\b.at_ H2 hv/\Rc g st (ws.take i) b/\cX b ((ws.drop i).map (dB g)) (Ys.drop i) q/\t+q=c) ⟨st,sv,0,c,none,none,none,rfl,al.rfl',AN,.nil,rF,by omega⟩ ?_ ?_⟩
 ·rintro i σ H2 hi hE;refine aO 12 hE ?_;clear hE;rintro b hv t q u1 u2 u3 rfl x2 dU rc Cs etq;rw[show((0:Int)+(i:Nat))=(i:Nat) by omega];have pd:i<ws.length:=by omega
  obtain⟨wv,Ra⟩:∃wv,cC[i]?=some wv:=⟨cC[i]'(by omega),y4 (by omega)⟩
  obtain⟨yv,Y9⟩:∃yv,ys[i]?=some yv:=⟨ys[i]'(by omega),y4 (by omega)⟩
  obtain⟨ww,ew,hw⟩:=fT.get Ra;obtain⟨aa,ea,ha⟩:=nP.get Y9;obtain⟨_,ew'⟩:=xl.mp ew;obtain⟨_,ea'⟩:=xl.mp ea;rw[Q3 pd,ew',Q3 (show i<Ys.length by omega),ea',xu]at Cs;obtain⟨p,q2,hm,jA,eq⟩:∃p q2,(aa,p)∈dB g ww b/\cX aa ((ws.drop (i+1)).map (dB g)) (Ys.drop (i+1)) q2/\q=p+q2:=by
   cases Cs with
   |cons h1 h2=>exact⟨_,_,h1,h2,rfl⟩
  have AI:g.to b ww aa p:=Qu (P:=g.to b ww) hm;obtain⟨bt,pG⟩:=rc.okL hL fe (λy hy=>gm hy) (by rw[yp];omega);have AX:=hL.2.2.1 ww (vg ew);have Za:Rc g st (ws.take (i+1)) aa:=by rw[Qw ew];exact .snoc rc AI.1
  have Hg:=(Za.okL hL fe (λy hy=>gm hy) (by rw[yp];omega)).1;have kaa:=Gm.kd hL.1 Hg;exists aA (x2 _ _ hg) rfl ?_;exists aA (x2 _ _ fP) (vB (i:=i) (by omega) Ra) ?_;exists⟨gl,g,st,ws,b,ww,hv,wv,30,rfl,hG.mono x2,hL.1,dU,aw.mono x2 hw,bt,pG,AX,by omega,λl vs as H3 q3 h3 GZ mem e3=>?_⟩;have x3:=x2.tr e3;have lv:=h3.len;exists jl q3 ?_;exists⟨_,rfl,by omega,by omega,λacc hn _ _ _ _=>sR (by omega) hn (λj us H4=>∃js:List Nat,us=(js.map λj:Nat=>(j:Int)).map V.int/\js.length<=j/\(∀n∈js,as[n]?=some aa)/\∀n,n<j->as[n]?=some aa->n∈js) ⟨[],rfl,by simp,λn h=>(by cases h),λn h=>by omega⟩ (λ_ _ _ _ _ h=>h) (λj us H' _ ⟨js,h1,h2,_⟩=>by rw[h1];simpa using h2) ?_ ?_⟩
  ·rintro j us H4 hj e4 ⟨js,rfl,h2,h4,h5⟩ Y N hY hN;obtain⟨av,CC⟩:∃av,vs[j]?=some av:=⟨vs[j]'(by omega),y4 (by omega)⟩
   obtain⟨sj,CD,Ko⟩:=h3.get CC;obtain⟨cj,hcj⟩:=(mem sj).mp (vg CD);have ksj:=Gm.kd hL.1 (Gm.dst_ok bt pG AX hcj.1);exists aA ((x3.tr e4) _ _ Y8) (vB (i:=i) (by omega) Y9) ?_;exists aA (e4 _ _ q3) (vB (i:=j) (by omega) CC) ?_;exists⟨yv,av,sD aa,sD sj,rfl,Y5 (ag.mono (x3.tr e4) ha),Y5 (ag.mono e4 Ko),Y6 _,jpj _,λbb H5 Bt e5=>?_⟩;cases bb with
   |true=>
    have es:=AW kaa.2 ksj.2 (Bt.mp rfl);exists hY _ _ e5 ⟨js++[j],by simp,by simp;omega,λn hn=>?_,λn hn h=>?_⟩
    ·rcases yw.mp hn with hn|hn
     ·exact h4 n hn
     ·rw[y9.mp hn,CD,es]
    ·by_cases z:n<j
     ·exact yy _ (h5 n z h)
     ·exact yf _ (y9.mpr (by omega))
   |false=>
    exists hN _ e5 ⟨js,rfl,by omega,h4,λn hn h=>?_⟩;by_cases z:n<j
    ·exact h5 n z h
    ·obtain rfl:n=j:=(by omega);rw[CD]at h;cases h;exact absurd (Bt.mpr rfl) (by decide)
  ·rintro us H4 e4 Hh ⟨js,rfl,l1,h4,h5⟩;obtain⟨n0,hn0,en0⟩:=vd ((mem aa).mpr ⟨p,AI⟩);have m0:=h5 n0 (by omega) (by rw[y4 hn0,en0]);cases js with
   |nil=>cases m0
   |cons k0 js=>
    have ek:=h4 k0 yu;have hk0:=(xl.mp ek).1;obtain⟨av,CC⟩:∃av,vs[k0]?=some av:=⟨vs[k0]'(by omega),y4 (by omega)⟩
    obtain⟨sj,CD,Ko⟩:=h3.get CC;rw[ek]at CD;cases CD;symm;intro l5 H5 n5 q5 e5;have x5:=x3.tr (e4.tr e5);exists yP (ms:=[]) (e5 _ _ Hh) q5 ?_;rw[decide_eq_false (by simp)];exists aA (x5 _ _ hg) rfl ?_;exists aA (x5 _ _ fP) (vB (i:=i) (by omega) Ra) ?_;exists aA (e5 _ _ Hh) (vB (i:=0) rfl rfl) ?_;exists aA ((e4.tr e5) _ _ q3) (vB (i:=k0) rfl CC) ?_;exists⟨gl,g,st,ws,b,aa,ww,hv,wv,av,.int p,rfl,hG.mono x5,hL.1,ag.mono (e3.tr (e4.tr e5)) dU,aw.mono x5 hw,ag.mono (e4.tr e5) Ko,Gm.ok_mono bt (by omega),AX,Gm.ok_mono Hg (by omega),AI.2,λH6 e6=>?_⟩;exists aA ((e5.tr e6) _ _ Hh) (vB (i:=0) rfl rfl) ?_;exists aA ((e4.tr (e5.tr e6)) _ _ q3) (vB (i:=k0) rfl CC) ?_;symm;exact⟨aa,av,t+p,q2,_,_,_,rfl,x5.tr e6,ag.mono (e4.tr (e5.tr e6)) Ko,Za,jA,by omega⟩
 ·rintro σ H2 hE;refine aO 12 hE ?_;clear hE;rintro b hv t q u1 u2 u3 rfl x2 dU rc Cs etq;rw[yx,y8g (by omega),y8g (by omega)]at Cs;obtain rfl:q=0:=by cases Cs;rfl
  rw[show t=c by omega];symm;exact hq H2 x2
def Zb:Sp:=λvs H Q _=>∃(d:Addr) (g:Gm) (r:Row ag),vs=[.ref d]/\eI H g d r/\g.wf/\(r.map (·.1)).Nodup/\(∀e∈r,g.ok 30 e.1)/\r.length<=60/\
 ∀l zs ps H',H l=none->H' l=some (.lst zs)->eF H' ps zs->Told r ps->al H H'->Q (.ref l) H'
theorem j4x(T:Txt K mg a):FnOk P w K mg base (CXU P w) 1 a.f_z0 a.d_z0 ["row"] (Zb):=by
 refine T.F0.okU1 sc0 λvs H Q E h=>?_;unfold Zb at h;refine aO 9 h ?_;clear h;rintro d g r rfl ⟨o,u,af,hd,du,hR⟩ wf nd Ct GZ hq;refine⟨rfl,λ_ _ _ _ hr=>⟨_,(ay (aK (aV (Oc hr) (by rfl) T.cw gg (ae (hW (["state"]:List Str) (["row"]:List Str) [0] rfl ⟨rfl,by decide +kernel,by decide +kernel,by rfl,⟨⟨rfl,by nofun,by nofun⟩,trivial⟩⟩ (VO (tV (pv 0)) (tW (pv 0))) (λ_ _ _ _=>⟨(bK (i:=0) (by show((["state"]:List Str)++(["row"]:List Str)).Nodup;decide +kernel) rfl (by nofun)),(show dC _ [] [] from trivial),(fN (ae (pv 0) (ae (aD aF (BR hr (pv 1) (pv 0) (λ_ _=>rfl)) ak (λ_ _=>rfl)) aj)))⟩)) aj)))),?_⟩⟩;have lr:=hR.length;exists FH g.T (λh ⟨v,h1,h2⟩=>⟨v,h1,h _ _ h2⟩) ?_;exists⟨d,o,u,af,rfl,hd,du,λacc hn _ _ _ _=>zP du hd (by omega) hn (λj ys H2=>eF H2 (AE (r.take j)) ys) trivial (λ_ _ _ _ k h=>h.keep k) (λj ys H' _ h=>by have:=ao.len h;rw[AE,y3,yp]at this;omega) ?_ ?_⟩
 ·rintro j kv sv ys H2 QP AN e hp Y N hY hN;obtain⟨s,q,p,b,bv,er,rfl,hq0,hbv⟩:=hR.at j kv QP;have bL:=vg er;have ks:=Gm.kd wf (show g.ok 30 s from Ct _ bL);have gs:=Cj nd bL;obtain⟨q',p',b',pD,v1,v2,v3,v4⟩:∃q' p' b' pD,bY af (fb s)=some (.ref q')/\aC r s=some (p',b')/\H q'=some (.tup [.int p',pD])/\uX ag.at_ H b' pD:=by
   rcases hR.val uY s with⟨_,z⟩|z
   ·rw[gs]at z;cases z
   ·exact z
  rw[gs]at v2;cases v2;exists B0 (.inr ⟨o,e _ _ hd⟩) du ks.1 AN v1 ?_;exists cP (e _ _ v3) rfl ?_;symm;intro t H3 n3 q3 e3;refine hY _ _ e3 ?_;rw[gc,er];show eF H3 (AE (r.take j++[(s,p,b)])) _;rw[AE,xk];exact ao.snoc ⟨t,sv,rfl,q3,ag.mono e3 ((pE ks.2).mp AN)⟩ (hp.keep e3.kp)
 ·rintro ys H2 e2 ha hp;rw[lr,ut]at hp;have ly:=ao.len hp;rw[AE,y3]at ly;exists jpd (P:=g.ok 30) ha hp (by rw[AE,v8];exact nd) (λx hx=>?_) (g.one 30) (by omega) λl zs qs H3 n3 q3 p3 pm rs e3=>?_
  ·obtain⟨e,he,rfl⟩:=yk.mp hx;exact Ct e he
  ·refine hq l zs qs H3 (e2.free n3) q3 p3 ⟨rs,λs c=>?_⟩ (e2.tr e3);rw[pm.mem_iff,AE,yk];constructor
   ·rintro⟨e,he,k⟩;injection k with k1 k2;exact⟨e.2.2,by rw[<- k1,<- k2];exact he⟩
   ·rintro⟨b,hb⟩;exact⟨_,hb,rfl⟩
def Zc(a:Adr):Sp:=λvs H Q _=>∃(w wl:Addr) (sv:V) (g:Gm) (st:ag) (ws:List aw) (cC:List V),vs=[.ref w,sv,.ref wl]/\h7 a H g w/\st.at_ H sv/\H wl=some (.lst cC)/\ao (aw.at_ H) ws cC/\pF g st ws/\rb g st ws/\
 ∀l bo H',H l=none->H' l=some (.lst bo)->ao (GL H H') ((bM g st ws).map gW) bo->(∀j,j<=ws.length->Told ((bM g st ws).getD j []) (gW ((bM g st ws).getD j [])))->al H H'->Q (.ref l) H'
theorem jle(T:Txt K mg a):FnOk P w K mg base (CXU P w) 8 a.f51 a.d51 ["world","start","wishes"] (Zc a):=by
 refine T.F51.okU1 PC λvs H Q E h=>?_;unfold Zc at h;refine aO 14 h ?_;clear h;rintro w wl sv g st ws cC rfl hw eP fP fT CF dY hq;refine⟨rfl,λ_ _ _ _ hr=>⟨_,(ay (aK (hW (["row"]:List Str) ([]:List Str) [] rfl ⟨rfl,by decide +kernel,by decide +kernel,by rfl,trivial⟩ (oC (bq (Yy T) hr T.F11 (T.F11.b3) (ae (pv 0) (ae (pv 1) (ae (pv 2) aj))))) (λ_ _ _ _=>⟨(bK (i:=0) (by show((["row"]:List Str)++([]:List Str)).Nodup;decide +kernel) rfl (by nofun)),(show dC _ [] [] from trivial),(bq (j4x T) hr T.F0 (T.F0.b1) (ae (pv 0) aj))⟩)))),?_⟩⟩;have fe:=dY.nd CF.2.1;have rC:=CF.2.2.2.1;exists⟨w,wl,sv,g,st,ws,cC,rfl,hw,eP,fP,fT,CF,dY,λl zs H1 n1 q1 r1 _ e1=>?_⟩;have lr:=rh g st ws;have lz:=r1.len;refine⟨l,rfl,⟨_,SqL.of q1⟩,λacc hn _ _ _ _=>Ew (SqL.of q1) (by omega) hn (λj ys H2=>ao (GL H H2) (((bM g st ws).take j).map gW) ys/\∀i,i<j->Told ((bM g st ws).getD i []) (gW ((bM g st ws).getD i []))) ⟨trivial,λi hi=>by omega⟩ (λ_ _ _ _ k ⟨h1,h2⟩=>⟨h1.imp λh=>h.keep k,h2⟩) (λj ys H' _ ⟨h1,h2⟩=>by have:=h1.len;rw[y3,yp]at this;omega) ?_ ?_⟩
 ·rintro j y ys H2 hy e ⟨h1,h2⟩ Y N hY hN;obtain⟨r,er,d,rfl,hF⟩:=r1.get hy;have hj:j<(bM g st ws).length:=(xl.mp er).1;have gr:(bM g st ws).getD j []=r:=by rw[y8,er];rfl
  have G1:=GP (g:=g) (st:=st) (ws:=ws) j (by omega);have pH:=AH (g:=g) (st:=st) (ws:=ws) j (by omega);have GZ:=Qx CF dY (j:=j) (by omega);rw[gr]at G1 pH GZ;exists⟨d,g,r,rfl,hF.ext e,CF.1,G1,λe he=>((pH e he).okL CF fe (λy hy=>gm hy) (by rw[yp];omega)).1,GZ,λp xs ps H3 n3 q3 p3 tl e3=>?_⟩;have Hi:=tl.is;refine hY _ _ e3 ⟨?_,λi hi=>?_⟩
  ·rw[gc,er];show ao _ (((bM g st ws).take j++[r]).map gW) _;rw[xk];show ao _ (_++[gW r]) _;rw[Hi];exact ao.snoc ⟨p,xs,rfl,(e1.tr e).free n3,q3,p3⟩ (h1.imp λh=>h.keep e3.kp)
  ·by_cases z:i<j
   ·exact h2 i z
   ·obtain rfl:i=j:=(by omega);rw[gr,Hi];exact tl
 ·rintro ys H2 e2 ha ⟨h1,h2⟩;rw[<- lz,ut]at h1;exact hq acc ys H2 (e1.free hn) ha h1 (λj hj=>h2 j (by omega)) (e1.tr e2)
def Zd(a:Adr):Sp:=λvs H Q _=>∃x dx v,vs=[.ref x,v]/\H x=some (.ins a.de dx [])/\∀H',H' x=some (.ins a.de dx [("room",v)])->bQ x H H'->Q .non H'
theorem j9b(T:Txt K mg a):FnOk P w K mg base (CXU P w) 1 a.f29 a.d29 ["self","room"] (Zd a):=by
 refine T.F29.okU1 PF λvs H Q E h=>?_;unfold Zd at h;refine aO 5 h ?_;clear h;rintro x dx v rfl hx hq;have jX:=T.mt;have o9:=T.dn;refine⟨rfl,λ_ _ _ _ hr=>⟨_,(ay (wk (pv 0) (pv 1) rfl)),?_⟩⟩;exists xN hx T.mt T.dn (xO rfl) λH' h1 h2=>?_;exact hq H' h1 h2
def Ze(a:Adr):Sp:=λvs H Q _=>∃x dx v,vs=[.ref x,v]/\H x=some (.ins a.cf dx [])/\∀H',H' x=some (.ins a.cf dx [("many",v)])->bQ x H H'->Q .non H'
theorem j88(T:Txt K mg a):FnOk P w K mg base (CXU P w) 1 a.f19 a.d19 ["self","many"] (Ze a):=by
 refine T.F19.okU1 PH λvs H Q E h=>?_;unfold Ze at h;refine aO 5 h ?_;clear h;rintro x dx v rfl hx hq;have qe:=T.md;have nk:=T.cx;have oz:=T.dv;have nh:=T.ck;have on:=T.t9;have ni:=T.dc;refine⟨rfl,λ_ _ _ _ hr=>⟨_,(ay (wk (pv 0) (pv 1) rfl)),?_⟩⟩;exists xN hx T.dv T.ck (xO rfl) λH' h1 h2=>?_;exact hq H' h1 h2
def Zf(a:Adr):Sp:=λvs H Q _=>∃x dx v u,vs=[.ref x,v,u]/\H x=some (.ins a.cu dx [])/\∀H',H' x=some (.ins a.cu dx [("many",v),("toll",u)])->bQ x H H'->Q .non H'
theorem j9c(T:Txt K mg a):FnOk P w K mg base (CXU P w) 1 a.f32 a.d32 ["self","many","toll"] (Zf a):=by
 refine T.F32.okU1 PJ λvs H Q E h=>?_;unfold Zf at h;refine aO 6 h ?_;clear h;rintro x dx v u rfl hx hq;have qe:=T.md;have nk:=T.cx;have oz:=T.dv;have nh:=T.ck;have on:=T.t9;have ni:=T.dc;have qq:=T.t5;refine⟨rfl,λ_ _ _ _ hr=>⟨_,(ax (wk (pv 0) (pv 1) rfl)
  (ay (wk (pv 0) (pv 2) rfl))),?_⟩⟩
 exists xN hx T.t9 T.dc (xO rfl) λH1 h1 b1=>?_;exists xN h1 T.t9 T.t5 (xO rfl) λH2 h2 b2=>?_;exact hq H2 h2 (b1.tr b2)
def Zg(a:Adr):Sp:=λvs H Q _=>∃x dx v,vs=[.ref x,v]/\H x=some (.ins a.cg dx [])/\∀H',H' x=some (.ins a.cg dx [("things",v)])->bQ x H H'->Q .non H'
theorem j89(T:Txt K mg a):FnOk P w K mg base (CXU P w) 1 a.f18 a.d18 ["self","things"] (Zg a):=by
 refine T.F18.okU1 PK λvs H Q E h=>?_;unfold Zg at h;refine aO 5 h ?_;clear h;rintro x dx v rfl hx hq;have Hj:=T.mr;have lR:=T.dk;refine⟨rfl,λ_ _ _ _ hr=>⟨_,(ay (wk (pv 0) (pv 1) rfl)),?_⟩⟩;exists xN hx T.mr T.dk (xO rfl) λH' h1 h2=>?_;exact hq H' h1 h2
def Zh(a:Adr):Sp:=λvs H Q _=>∃x dx v,vs=[.ref x,v]/\H x=some (.ins a.dj dx [])/\∀H',H' x=some (.ins a.dj dx [("many",v)])->bQ x H H'->Q .non H'
theorem j9d(T:Txt K mg a):FnOk P w K mg base (CXU P w) 1 a.f31 a.d31 ["self","many"] (Zh a):=by
 refine T.F31.okU1 PL λvs H Q E h=>?_;unfold Zh at h;refine aO 5 h ?_;clear h;rintro x dx v rfl hx hq;have qe:=T.md;have nk:=T.cx;have oz:=T.dv;have nh:=T.ck;have on:=T.t9;have ni:=T.dc;refine⟨rfl,λ_ _ _ _ hr=>⟨_,(ay (wk (pv 0) (pv 1) rfl)),?_⟩⟩;exists xN hx T.md T.cx (xO rfl) λH' h1 h2=>?_;exact hq H' h1 h2
def Zi(a:Adr):Sp:=λus H Q _=>∃(gl:Addr) (g:Gm) (st:ag) (ws:List aw),us=[.ref gl]/\bE H gl g st ws/\∀r H',h7 a H' g r->al H H'->Q (.ref r) H'
theorem j9e(T:Txt K mg a):FnOk P w K mg base (CXU P w) 3 a.f41 a.d41 ["_law_game_here"] (Zi a):=by
 refine T.F41.okU1 PD λvs H Q E h=>?_;unfold Zi at h;refine aO 6 h ?_;clear h;rintro gl g st ws rfl ⟨gv,sv,wl,cC,hg,fc,_⟩ hq;refine⟨rfl,λ_ _ _ _ hr=>⟨_,(ax (bw (ba (bW hr) (aD aF (pv 0) ak (λ_ _=>rfl)) ak (bd _)) (ay (aK (wt T.o7 (YK T) (hr.mono (by decide)) (by rfl) T.m_Hire (T.F30.b2) .nil cT (ae (aD aF (pv 0) ak (λ_ _=>rfl)) aj)))) bA)
  (ax (bw (ba (bW hr) (aD aF (pv 0) ak (λ_ _=>rfl)) ak (bd _)) (ay (aK (wt T.oh (j9d T) (hr.mono (by decide)) (by rfl) T.m_Line (T.F31.b2) .nil cT (ae (aD aF (pv 0) ak (λ_ _=>rfl)) aj)))) bA)
  (ax (bw (ba (bW hr) (aD aF (pv 0) ak (λ_ _=>rfl)) ak (bd _)) (ay (aK (wt T.nv (j89 T) (hr.mono (by decide)) (by rfl) T.m_Shelf (T.F18.b2) .nil cT (ae (aD aF (pv 0) ak (λ_ _=>rfl)) aj)))) bA)
  (ax (bw (ba (bW hr) (aD aF (pv 0) ak (λ_ _=>rfl)) ak (bd _)) (ay (aK (wt T.oj (j9c T) (hr.mono (by decide)) (by rfl) T.m_Ways (T.F32.b3) .nil cT (ae (aD aF (aD aF (pv 0) ak (λ_ _=>rfl)) ak (λ_ _=>rfl)) (ae (aD aF (aD aF (pv 0) ak (λ_ _=>rfl)) ak (λ_ _=>rfl)) aj))))) bA)
  (ax (bw (ba (bW hr) (aD aF (pv 0) ak (λ_ _=>rfl)) ak (bd _)) (ay (aK (wt T.o0 (j88 T) (hr.mono (by decide)) (by rfl) T.m_Store (T.F19.b2) .nil cT (ae (aD aF (pv 0) ak (λ_ _=>rfl)) aj)))) bA)
  (ay (aK (wt T.og (j9b T) (hr.mono (by decide)) (by rfl) T.m_Bags (T.F29.b2) .nil cT (ae (aD aF (pv 0) ak (λ_ _=>rfl)) aj))))))))),?_⟩⟩
 cases g with
 |hire W=>
  have aJ:H gl=some (.lst [.int 0,gv,sv,.ref wl]):=hg;obtain rfl:gv=.int W:=fc;exists aA aJ rfl ?_;exists aA aJ rfl ?_;symm;intro r dr k1 k2 k3;refine⟨r,dr,_,rfl,bi,λH2 ig b2=>⟨rfl,?_⟩⟩;have x2:al H H2:=λb o h=>b2 b o (cD h k1) (by rw[bf (cD h k1),bf (cD h k2)];exact h);symm;exact hq r H2 ⟨dr,ig⟩ x2
 |line m=>
  have aJ:H gl=some (.lst [.int 1,gv,sv,.ref wl]):=hg;obtain rfl:gv=.int (m:Nat):=fc;exists aA aJ rfl ?_;exists aA aJ rfl ?_;exists aA aJ rfl ?_;symm;intro r dr k1 k2 k3;refine⟨r,dr,_,rfl,bi,λH2 ig b2=>⟨rfl,?_⟩⟩;have x2:al H H2:=λb o h=>b2 b o (cD h k1) (by rw[bf (cD h k1),bf (cD h k2)];exact h);symm;exact hq r H2 ⟨dr,ig⟩ x2
 |shelf ts=>
  have aJ:H gl=some (.lst [.int 2,gv,sv,.ref wl]):=hg;obtain⟨tp,rfl,_⟩:=fc;exists aA aJ rfl ?_;exists aA aJ rfl ?_;exists aA aJ rfl ?_;exists aA aJ rfl ?_;symm;intro r dr k1 k2 k3;refine⟨r,dr,_,rfl,bi,λH2 ig b2=>⟨rfl,?_⟩⟩;have x2:al H H2:=λb o h=>b2 b o (cD h k1) (by rw[bf (cD h k1),bf (cD h k2)];exact h);symm;exact hq r H2 ⟨dr,_,ig⟩ x2
 |wys m t=>
  have aJ:H gl=some (.lst [.int 3,gv,sv,.ref wl]):=hg;obtain⟨tp,rfl,vE⟩:=fc;exists aA aJ rfl ?_;exists aA aJ rfl ?_;exists aA aJ rfl ?_;exists aA aJ rfl ?_;exists aA aJ rfl ?_;exists cP vE rfl ?_;exists aA aJ rfl ?_;exists cP vE rfl ?_;symm;intro r dr k1 k2 k3;refine⟨r,dr,_,_,rfl,bi,λH2 ig b2=>⟨rfl,?_⟩⟩;have x2:al H H2:=λb o h=>b2 b o (cD h k1) (by rw[bf (cD h k1),bf (cD h k2)];exact h);symm;exact hq r H2 ⟨dr,ig⟩ x2
 |store m=>
  have aJ:H gl=some (.lst [.int 4,gv,sv,.ref wl]):=hg;obtain rfl:gv=.int (m:Nat):=fc;exists aA aJ rfl ?_;exists aA aJ rfl ?_;exists aA aJ rfl ?_;exists aA aJ rfl ?_;exists aA aJ rfl ?_;exists aA aJ rfl ?_;symm;intro r dr k1 k2 k3;refine⟨r,dr,_,rfl,bi,λH2 ig b2=>⟨rfl,?_⟩⟩;have x2:al H H2:=λb o h=>b2 b o (cD h k1) (by rw[bf (cD h k1),bf (cD h k2)];exact h);symm;exact hq r H2 ⟨dr,ig⟩ x2
 |bags R=>
  have aJ:H gl=some (.lst [.int 5,gv,sv,.ref wl]):=hg;obtain rfl:gv=.int R:=fc;exists aA aJ rfl ?_;exists aA aJ rfl ?_;exists aA aJ rfl ?_;exists aA aJ rfl ?_;exists aA aJ rfl ?_;exists aA aJ rfl ?_;symm;intro r dr k1 k2 k3;refine⟨r,dr,_,rfl,bi,λH2 ig b2=>⟨rfl,?_⟩⟩;have x2:al H H2:=λb o h=>b2 b o (cD h k1) (by rw[bf (cD h k1),bf (cD h k2)];exact h);symm;exact hq r H2 ⟨dr,ig⟩ x2
def Zj:Sp:=λvs H Q _=>∃c k,vs=[.int c,.int k]/\0<=k/\k<=1000000/\∀n,0<=n->n<2147483629->Q (.int n) H
theorem kP(T:Txt K mg a):FnOk P w K mg base (CXU P w) 1 a.f35 a.d35 ["_law_cell_here","_law_k"] (Zj):=by
 refine T.F35.okU1 Ww λvs H Q E h=>?_;unfold Zj at h;refine aO 5 h ?_;clear h;rintro c k rfl h0 h1 hq;refine⟨rfl,λ_ _ _ _ hr=>⟨_,(ax (bh (i:=2) Ww.nd rfl (by nofun) (ar bU (ar aX (ar aX (ar lB (ar bU (pv 0) ak) ak) (ar lB (ar lB ak (pv 1)) (pv 1))) ak) ak))
  (ay (aK (ar bU (ar lB (pv 2) (pv 2)) ak)))),?_⟩⟩
 symm;exact hq _ (by omega) (by omega)
def Zk(K:yd):Sp:=λvs H Q _=>∃(p:Addr) (ns:List Int) (k:Int),vs=[.ref p,.int k]/\SqL K H p (ns.map V.int)/\0<=k/\(∀z∈ns,ib z<=1048576)/\∀c,ib c<=1048576->Q (.int c) H
theorem Rb(T:Txt K mg a):FnOk P w K mg base (CXU P w) 1 a.f42 a.d42 ["_law_script","_law_k"] (Zk K):=by
 refine T.F42.okU1 PM λvs H Q E h=>?_;unfold Zk at h;refine aO 7 h ?_;clear h;rintro p ns k rfl hS hk hb hq;refine⟨rfl,λ_ _ _ _ hr=>⟨_,(ax (bw (ba HH (pv 1) (aV cU (by rfl) T.cr xt (ae (pv 0) aj)) (bd _)) (ay (aK (aD aF (pv 0) (pv 1) (λ_ _=>rfl)))) bA)
  (ay (aK ak))),?_⟩⟩
 exists Uw hS ?_;symm;rw[y3];refine bg (λh=>?_) (λh=>?_)
 ·symm;have hl:k.toNat<ns.length:=by omega
  refine Eo hS (v:=.int ns[k.toNat]) (Bx hk (by rw[xh,y4 hl];rfl)) ?_;exact hq _ (hb _ (ua hl))
 ·symm;exact hq 0 (by decide)
def Zl:Sp:=λvs H Q _=>∃c k,vs=[.int c,.int k]/\0<=k/\k<=1000000/\ib c<=1048577/\∀n,0<=n->n<=1000000000000000000->Q (.int n) H
theorem Rf(T:Txt K mg a):FnOk P w K mg base (CXU P w) 2 a.f46 a.d46 ["_law_cell_here","_law_k"] (Zl):=by
 refine T.F46.okU1 Wx λvs H Q E h=>?_;unfold Zl at h;refine aO 6 h ?_;clear h;rintro c k rfl h0 h1 hb hq;refine⟨rfl,λ_ _ _ _ hr=>⟨_,(ax (bh (i:=2) Wx.nd rfl (by nofun) (bq (kP T) hr T.F35 (T.F35.b2) (ae (pv 0) (ae (pv 1) aj))))
  (ax (bw (ba (bW hr) (ar bU (pv 2) ak) ak (bd _)) (ay (aK (ar bU (ar fG (pv 2) ak) ak))) bA)
  (ax (bw (ba (bW hr) (ar bU (pv 2) ak) ak (bd _)) (ay (aK (ar bU (ar fG (pv 2) ak) (ar pU ak ak)))) bA)
  (ay (aK (ar bU (ar lB (ar aX (pv 0) (pv 2)) (ar pU ak ak)) (ar aX (ar pU ak ak) ak))))))),?_⟩⟩
 exists⟨c,k,rfl,h0,h1,λn n0 n1=>?_⟩;exists bg (λh=>?_) (λh=>?_)
 ·symm;exact hq _ (by omega) (by omega)
 ·exists bg (λh=>?_) (λh=>?_)
  ·symm;exact hq _ (by omega) (by omega)
  ·exists Uu (LY hb n0 n1) ?_;symm;exact hq _ (by omega) (by omega)
def j9f:Sp:=λus H Q _=>∃h p cs,Cf us H h p cs/\uS H Q
theorem Rg{n:Int}(r1:1<=R):∃m:Int,dP [V.int (1+n/4%R),V.int (R/2),V.int (R/3+1),V.int (R-R/2)] (n%4)=some (.int m):=by
 have h0:n%4=0\/n%4=1\/n%4=2\/n%4=3:=by omega
 rcases h0 with e|e|e|e<;>rw[e]<;>exact⟨_,rfl⟩
theorem Rh(n:Int):∃k:Nat,dP [V.int 0,V.int 0,V.int 1,V.int 2] (n%4)=some (.int (k:Nat))/\k<=2:=by
 have h0:n%4=0\/n%4=1\/n%4=2\/n%4=3:=by omega
 rcases h0 with e|e|e|e<;>rw[e]
 ·exact⟨0,rfl,by omega⟩
 ·exact⟨0,rfl,by omega⟩
 ·exact⟨1,rfl,by omega⟩
 ·exact⟨2,rfl,by omega⟩
theorem jlf{ss:List Int}(h:i+j<=ss.length):aQ (ss.map V.int) (some (i:Int)) (some ((i:Int)+(j:Int)))=((ss.drop i).take j).map V.int:=by
 unfold aQ;rw[show((i:Int)+(j:Int))=((i+j:Nat):Int) by omega,HT.sIx_nat,HT.sIx_nat,y3,uu h,uu (show i<=ss.length by omega),show i+j-i=j by omega,B9,B8]
theorem j9g(T:Txt K mg a):FnOk P w K mg base (CXU P w) 3 a.f39 a.d39 ["_law_head","_law_cells"] (j9f):=by
 refine T.F39.okU1 Ao λvs H Q E h=>?_;obtain⟨h,p,cs,⟨rfl,h0,h1,hp,hl,hc⟩,hq⟩:=h;refine⟨rfl,λ_ _ _ _ hr=>⟨_,(ax (bh (i:=2) Ao.nd rfl (by nofun) (ar aX ak (ar bU (bq (Rf T) hr T.F46 (T.F46.b2) (ae (pv 0) (ae ak aj))) (ar pU ak ak))))
  (ax (bh (i:=3) Ao.nd rfl (by nofun) (bX aj))
  (ax (ik u8 rfl (fL rfl T.c9 (ae ak aj)) (bK (i:=4) Ao.nd rfl (by nofun)) (ax (bh (i:=5) Ao.nd rfl (by nofun) (bq (kP T) hr T.F35 (T.F35.b2) (ae (aD aF (ar aX (eS sK (by rfl) T.mx vj (ae (pv 1) aj)) (ar S7 (bX (ae ak aj)) ak)) (pv 4) (λ_ _=>rfl)) (ae (pv 4) aj))))
  (ax (bh (i:=6) Ao.nd rfl (by nofun) (aD aF (bX (ae (ar aX ak (ar bU (ar fG (pv 5) ak) (pv 2))) (ae (ar fG (pv 2) ak) (ae (ar aX (ar fG (pv 2) ak) ak) (ae (ar oG (pv 2) (ar fG (pv 2) ak)) aj))))) (ar bU (pv 5) ak) (λ_ _=>rfl)))
  (ay (lW (j9 v6 ue ug oQ (pv 3) (ae (aV (LD rfl) (by rfl) T.n_max YU (ae ak (ae (aV (Bv rfl) (by rfl) T.om Cy (ae (pv 2) (ae (pv 6) aj))) aj))) aj)))))))
  (ax (bh (i:=7) Ao.nd rfl (by nofun) (aD aF (bX (ae ak (ae ak (ae ak (ae ak aj))))) (ar bU (ar fG (pv 0) ak) ak) (λ_ _=>rfl)))
  (ay (aK (bX (ae ak (ae (pv 2) (ae (eS jd (by rfl) T.dh xw (ae (aV lC (by rfl) T.cw gg (ae (fO lh (pv 3) (fj ak) (fj (ar aX ak (pv 7)))) aj)) aj)) (ae (fO lh (pv 3) gK (fj (aV (Bv rfl) (by rfl) T.om Cy (ae (ar oG ak (pv 7)) (ae (aV cU (by rfl) T.cr xt (ae (pv 1) aj)) aj))))) aj))))))))))),?_⟩⟩
 exists⟨h,60,rfl,by decide,by decide,P6 h0 h1,λt t0 t1=>?_⟩;obtain⟨R,eR,r1⟩:∃R:Int,1+t%1000000000000000000=R/\1<=R:=⟨_,rfl,by omega⟩
 symm;rw[eR];intro l1 H1 n1 q1 e1;exists⟨_,rfl,by omega,by omega,lX (λi σ H2=>∃(u1 u2 u3 u4:Option V) (ns:List Int),σ=[some (.int h),some (.ref p),some (.int R),some (.ref l1),u1,u2,u3,u4]/\al H H2/\H2 l1=some (.lst (ns.map V.int))/\ns.length=i/\∀x∈ns,1<=x/\x<=R) ⟨none,none,none,none,[],rfl,e1,q1,rfl,λx hx=>by cases hx⟩ ?_ ?_⟩
 ·rintro i σ H2 hi hE;refine aO 9 hE ?_;clear hE;rintro u1 u2 u3 u4 ns rfl x2 q2 ln hn;rw[show((0:Int)+(i:Nat))=(i:Nat) by omega];have iz:=x2 _ _ hp;exists LW iz λl3 H3 n3 q3 e3=>?_;symm;intro l4 H4 n4 q4 e4;exists yV q4 (by decide) (by decide) λl5 H5 n5 q5 e5=>?_;exists II ((e4.tr e5) _ _ q3) q5 (by simp;omega) λl6 H6 n6 q6 e6=>?_;rw[show cs.map V.int++xm (Int.toNat 7) (V.int 0)=(cs++xm 7 0).map V.int by simp]at q6;have i1:=iW (ns:=cs++xm 7 0) (k:=(i:Nat)) (by omega) (by simp;omega);exists aA q6 i1 ?_;exists⟨_,_,rfl,by omega,by omega,λn n0 nb=>?_⟩;obtain⟨sz,hsz⟩:=Rg (n:=n) r1;symm;intro l7 H7 n7 q7 e7;exists aA q7 hsz ?_;have Zm:=e3.tr (e4.tr (e5.tr (e6.tr e7)));have q27:=Zm _ _ q2;exists oS q27 (by rw[y3];omega) λH8 q8 b8=>?_;exists⟨_,_,_,_,ns++[max 1 (min R sz)],rfl,al.but (x2.tr Zm) b8 n1,by rw[q8,xk];rfl,by simp[ln],λx hx=>?_⟩;rcases yw.mp hx with z|z
  ·exact hn x z
  ·rw[y9.mp z];omega
 ·rintro σ H2 hE;refine aO 9 hE ?_;clear hE;rintro u1 u2 u3 u4 ns rfl x2 q2 ln hn;have ln':ns.length=7:=by omega
  obtain⟨k,hk,k2⟩:=Rh (h/6);symm;intro l3 H3 n3 q3 e3;exists aA q3 hk ?_;have Kq:=e3 _ _ q2;exists sW Kq λl4 H4 n4 q4 e4=>?_;rw[show(some (5:Int))=some ((5:Nat):Int)from rfl,show(some ((5:Int)+(k:Int)))=some (((5:Nat):Int)+(k:Int))from rfl,jlf (by omega)]at q4;exists VN q4 (by rw[yp];omega) λl5 s5 H5 n5 p5 o5 q5 e5=>?_;exists iT q5 λl6 H6 n6 q6 e6=>?_;have Kr:=e4.tr (e5.tr e6);have Cr:=(x2.tr (e3.tr Kr)) _ _ hp;exists jl Cr ?_;rw[y3];exists sW (Kr _ _ Kq) λl7 H7 n7 q7 e7=>?_;obtain⟨c,ec,c5⟩:∃c:Nat,min (5-(k:Int)) (cs.length:Int)=c/\k+c<=5:=⟨(min (5-(k:Int)) (cs.length:Int)).toNat,by omega,by omega⟩
  rw[ec,WS (by omega)]at q7;symm;intro gl H8 n8 q8 e8;have x8:=e7.tr e8;have pm:∀x∈s5,1<=x/\x<=R:=λx hx=>hn x (BU (gm (p5.mem_iff.mp hx)));have l5':s5.length<=4:=by rw[p5.length_eq,yp];omega
  exact hq gl (.bags R) (.l s5) ((ns.take c).map .i) H8 ((x2.tr (e3.tr (Kr.tr e7))).free n8) ⟨_,_,l7,_,q8,rfl,⟨l6,rfl,x8 _ _ q6⟩,e8 _ _ q7,Gq _⟩ ⟨r1,⟨s5,rfl,⟨o5,pm⟩,l5'⟩,P7 λx hx=>⟨x,rfl,hn x (gm hx)⟩,by rw[y3,yp];omega⟩ (show s5.length+((ns.take c).map aw.i).length<=5 by rw[p5.length_eq,y3,yp,yp,ve];omega) (x2.tr (e3.tr (Kr.tr x8)))
theorem AY{c d:Nat}(h:a0<size)(e:Cg 0 size f a0 c 0=Cg 0 size f a0 d 0):c%26=d%26:=by
 have e1:jx 0 size f a0 c 0=jx 0 size f a0 d 0:=by simpa[Cg] using e
 unfold jx at e1;rw[if_neg (by decide),if_pos rfl,if_neg (by decide)]at e1;have:=(List.append_inj e1 rfl).2;injection this with this;omega
def Zn:Sp:=λvs H Q _=>∃(n m:Int),vs=[.int n,.int m]/\0<=n/\1<=m/\m<=8/\∀l (ss:List Str) H',H l=none->H' l=some (.lst (ss.map V.str))->(∀s∈ss,nN s=true)->(ss.length:Int)=m->ss.Nodup->al H H'->Q (.ref l) H'
theorem Zo(T:Txt K mg a):FnOk P w K mg base (CXU P w) 1 a.f36 a.d36 ["_law_number","_law_many"] (Zn):=by
 refine T.F36.okU1 uR λvs H Q E h=>?_;unfold Zn at h;refine aO 6 h ?_;clear h;rintro n m rfl n0 m1 m8 hq;refine⟨rfl,λ_ _ _ _ hr=>⟨_,(ax (bh (i:=2) uR.nd rfl (by nofun) (ar aX ak (ar bU (pv 0) ak)))
  (ax (bh (i:=3) uR.nd rfl (by nofun) (ar bU (ar fG (pv 0) ak) (pv 2)))
  (ax (bh (i:=4) uR.nd rfl (by nofun) vS)
  (ax (bh (i:=5) uR.nd rfl (by nofun) (aD aF (pv 4) (ar bU (ar fG (pv 0) ak) ak) (λ_ _=>rfl)))
  (ax (bh (i:=6) uR.nd rfl (by nofun) (bX aj))
  (ax (ik u8 rfl (fL rfl T.c9 (ae (pv 1) aj)) (bK (i:=7) uR.nd rfl (by nofun)) (ax (bh (i:=8) uR.nd rfl (by nofun) (aD aF (pv 4) (ar bU (ar aX (ar fG (pv 0) ak) (ar lB ak (pv 7))) ak) (λ_ _=>rfl)))
  (ay (lW (j9 v6 ue ug oQ (pv 6) (ae (ar aX (ar aX (ar lB (pv 5) (pv 3)) (pv 8)) (ar lB (pv 5) (ar oG (ar oG (pv 2) (pv 3)) ak))) aj))))))
  (ay (aK (pv 6))))))))),?_⟩⟩
 have f0:0<=n/64%26:=by omega
 have f1:n/64%26<26:=by omega
 obtain⟨size,es,s1,s8⟩:∃size:Nat,1+n%8=size/\1<=size/\size<=8:=⟨(1+n%8).toNat,by omega,by omega,by omega⟩
 obtain⟨f,ef⟩:∃f:Nat,97+(n/64%26).toNat=f:=⟨_,rfl⟩
 have sp:(0:Int)<size:=by omega
 have b0:=CG (n/8) (show(size:Int)≠0 by omega);have b1:=CH (n/8) sp;obtain⟨a0,ea,a1⟩:∃a0:Nat,n/8%(size:Int)=a0/\a0<size:=⟨(n/8%(size:Int)).toNat,by omega,by omega⟩
 have ok:Av 0 size f a0:=⟨s1,s8,by omega,by omega,a1⟩
 symm;rw[es,ea];refine Ux (by rw[W2];omega) (W3 f0 f1) ?_;rw[ef];symm;intro l H1 n1 q1 e1;exists⟨_,rfl,by omega,by omega,lX (λi σ H2=>(∃u1 u2,σ=[some (.int n),some (.int m),some (.int (size:Nat)),some (.int (a0:Nat)),some (.str (u5 "abcdefghijklmnopqrstuvwxyz")),some (.str ⟨#[f]⟩),some (.ref l),u1,u2])/\al H H2/\∃ss:List Str,H2 l=some (.lst (ss.map V.str))/\ss.length=i/\(∀s∈ss,nN s=true)/\ss.Nodup/\∀s∈ss,∃j:Nat,j<i/\s=Cg 0 size f a0 (n/1664+3*(j:Int)).toNat 0)
  ⟨⟨none,none,rfl⟩,e1,[],q1,rfl,(λs h=>by cases h),DG,λs h=>by cases h⟩ ?_ ?_⟩
 ·rintro i σ H2 hi hE;refine aO 7 hE ?_;clear hE;rintro⟨u1,u2,rfl⟩ x2 ss q2 ls ns nd nj;rw[show((0:Int)+(i:Nat))=(i:Nat) by omega];obtain⟨c0,ec⟩:∃c0:Nat,n/1664+3*(i:Int)=c0:=⟨(n/1664+3*(i:Int)).toNat,by omega⟩
  symm;rw[ec];refine Ux (by rw[W2];omega) (W3 (i:=(c0:Int)%26) (by omega) (by omega)) ?_;have esg:97+((c0:Int)%26).toNat=97+(c0+7*0)%26:=by omega
  rw[esg];have zX:=Uj ⟨#[f]⟩ a0;have k6:=Uj ⟨#[f]⟩ (size-a0-1);rw[JU,Nat.mul_one]at zX k6;exists Uv (by omega) (by omega) (by rw[JU];omega) ?_;rw[yx];exists Ut (by rw[zX,JU];omega) ?_;exists Uv (by omega) (by omega) (by rw[JU];omega) ?_;rw[show((size:Int)-(a0:Int)-1).toNat=size-a0-1 by omega];have hl3:(ft ⟨#[f]⟩ a0++(⟨#[97+(c0+7*0)%26]⟩:Str)).length=a0+1:=by
   show(ft ⟨#[f]⟩ a0++(⟨#[97+(c0+7*0)%26]⟩:Str)).cps.size=_;rw[<- yj,Qg,mul_one];simp
  exists Ut (by rw[hl3,k6];omega) ?_;have ewd:ft ⟨#[f]⟩ a0++(⟨#[97+(c0+7*0)%26]⟩:Str)++ft ⟨#[f]⟩ (size-a0-1)=Cg 0 size f a0 c0 0:=by
   apply WL;rw[Qg,Qg,mul_one,mul_one];show _=(jx 0 size f a0 c0 0).toArray.toList;unfold jx;skip;rw[if_neg (by decide),if_pos rfl];simp
  rw[ewd];exists oS q2 (by rw[y3];omega) λH4 q4 b4=>?_;exists⟨⟨_,_,rfl⟩,al.but x2 b4 n1,ss++[Cg 0 size f a0 c0 0],by rw[q4,xk];rfl,by simp[ls],λs hs=>?_,?_,λs hs=>?_⟩
  ·rcases yw.mp hs with h|h
   ·exact ns s h
   ·rw[y9.mp h];exact Gu ok (by omega)
  ·refine JX.mpr ⟨nd,by simp,λx hx y hy e=>?_⟩;obtain⟨j,hj,ej⟩:=nj x hx;rw[y9.mp hy,ej]at e;exact Ar (by omega) ec hj (by omega) (AY (show a0<size from a1) e)
  ·rcases yw.mp hs with h|h
   ·obtain⟨j,hj,ej⟩:=nj s h;exact⟨j,by omega,ej⟩
   ·exact⟨i,by omega,by rw[y9.mp h,ec,yx]⟩
 ·rintro σ H2 hE;refine aO 7 hE ?_;clear hE;rintro⟨u1,u2,rfl⟩ x2 ss q2 ls ns nd nj;symm;exact hq l ss H2 n1 q2 ns (by omega) nd x2
def j9h:Sp:=λus H Q _=>∃h p cs,Cf us H h p cs/\uS H Q
theorem jpk(h:i+j<=ss.length):aQ (ss.map V.str) (some (i:Int)) (some ((i:Int)+(j:Int)))=((ss.drop i).take j).map V.str:=by
 unfold aQ;rw[show((i:Int)+(j:Int))=((i+j:Nat):Int) by omega,HT.sIx_nat,HT.sIx_nat,y3,uu h,uu (show i<=ss.length by omega),show i+j-i=j by omega,B9,B8]
theorem j9i(T:Txt K mg a):FnOk P w K mg base (CXU P w) 2 a.f37 a.d37 ["_law_head","_law_cells"] (j9h):=by
 refine T.F37.okU1 JO λvs H Q E h=>?_;obtain⟨h,p,cs,⟨rfl,h0,h1,hp,hl,hc⟩,hq⟩:=h;refine⟨rfl,λ_ _ _ _ hr=>⟨_,(ax (bh (i:=2) JO.nd rfl (by nofun) (ar aX ak (ar bU (ar fG (pv 0) ak) ak)))
  (ax (bh (i:=3) JO.nd rfl (by nofun) (bq (Zo T) hr T.F36 (T.F36.b2) (ae (bq (kP T) hr T.F35 (T.F35.b2) (ae (pv 0) (ae ak aj))) (ae (ar aX (pv 2) ak) aj))))
  (ax (sQ (i:=4) (["_law_k"]:List Str) (["_law_names_here","_law_cells","_law_many"]:List Str) [3,1,2] JO.nd rfl (k9 rfl) rfl ⟨rfl,by decide +kernel,by decide +kernel,by rfl,⟨⟨rfl,by nofun,by nofun⟩,⟨rfl,by nofun,by nofun⟩,⟨rfl,by nofun,by nofun⟩,trivial⟩⟩ (fL rfl T.c9 (ae (aV cU (by rfl) T.cr xt (ae (pv 1) aj)) aj)) (λ_ _ _ _=>⟨(bK (i:=0) (by show((["_law_k"]:List Str)++(["_law_names_here","_law_cells","_law_many"]:List Str)).Nodup;decide +kernel) rfl (by nofun)),(show dC _ [] [] from trivial),(aD aF (pv 1) (ar bU (bq (kP T) hr T.F35 (T.F35.b2) (ae (aD aF (pv 2) (pv 0) (λ_ _=>rfl)) (ae (pv 0) aj))) (ar aX (pv 3) ak)) (λ_ _=>rfl))⟩))
  (ay (aK (bX (ae ak (ae (pv 2) (ae (eS jd (by rfl) T.dh xw (ae (aV lC (by rfl) T.cw gg (ae (fO lh (pv 3) (fj ak) (fj (ar aX ak (pv 2)))) aj)) aj)) (ae (pv 4) aj)))))))))),?_⟩⟩
 obtain⟨m,em,m1,m4⟩:∃m:Nat,1+h/6%4=m/\1<=m/\m<=4:=⟨(1+h/6%4).toNat,by omega,by omega,by omega⟩
 symm;rw[em];refine⟨_,_,rfl,by omega,by omega,λn n0 n1=>?_⟩;exists⟨_,_,rfl,n0,by omega,by omega,λpl ss H2 n2 q2 ns ls nd e2=>?_⟩;have ls':ss.length=m+3:=by omega
 have iz:=e2 _ _ hp;exists jl iz ?_;rw[y3];exists⟨_,rfl,by omega,by omega,λacc hn _ _ _ _=>sR (by omega) hn (λj ys _=>∃ws:List Str,ys=ws.map V.str/\ws.length=j/\∀w∈ws,w∈ss) ⟨[],rfl,rfl,λw hw=>by cases hw⟩ (λ_ _ _ _ _ h=>h) (λj ys H' _ h=>by obtain⟨ws,rfl,lw,_⟩:=h;rw[y3];omega) ?_ ?_⟩
 ·rintro j ys H9 hj e ⟨ws,rfl,lw,hw⟩ Y N hY hN;rw[show((0:Int)+(j:Nat))=(j:Nat) by omega];have i1:=iW (ns:=cs) (k:=(j:Nat)) (by omega) (by omega);exists aA (e _ _ iz) i1 ?_;exists⟨_,_,rfl,by omega,by omega,λn n0 n1=>?_⟩;have b0:=CG n (show(m:Int)+3≠0 by omega);have b1:=CH n (show(0:Int)<(m:Int)+3 by omega);exists aA (e _ _ q2) (Gp b0 (by omega)) ?_;refine hY _ _ al.rfl' ⟨ws++[_],by rw[xk];rfl,by simp[lw],λw px=>?_⟩;rcases yw.mp px with z|z
  ·exact hw w z
  ·rw[y9.mp z];exact Cd (by omega)
 ·rintro ys H9 e9 ha ⟨ws,rfl,lw,hw⟩;exists sW (e9 _ _ q2) λl3 H3 n3 q3 e3=>?_;rw[show(some (2:Int))=some ((2:Nat):Int)from rfl,show(some ((2:Int)+(m:Int)))=some (((2:Nat):Int)+(m:Int))from rfl,jpk (by omega)]at q3;exists Uy q3 (by rw[yp];omega) λl4 s4 H4 n4 p4 o4 q4 e4=>?_;exists iT q4 λl5 H5 n5 q5 e5=>?_;symm;intro gl mN GV ii iU;have lT:=e3.tr (e4.tr (e5.tr iU));have l4':s4.length=m:=by rw[p4.length_eq,yp,ve];omega
  exact hq gl (.store m) (.t s4) (ws.map .s) mN ((e2.tr (e9.tr (e3.tr (e4.tr e5)))).free GV) ⟨_,_,acc,_,ii,rfl,⟨l5,rfl,iU _ _ q5⟩,lT _ _ ha,P2 ws⟩ ⟨⟨m1,m4⟩,⟨_,rfl,l4',λx hx=>ns x (BU (gm (p4.mem_iff.mp hx)))⟩,WR λx hx=>⟨x,rfl,ns x (hw x hx)⟩,by rw[y3,lw];omega⟩ ⟨ss,by omega,nd,λx hx=>BU (gm (p4.mem_iff.mp hx)),o4,p4.nodup_iff.mpr (nd.sublist ((yb2 _ _).trans (List.drop_sublist _ _))),λw px=>by obtain⟨z,hz,rfl⟩:=yk.mp px;exact⟨z,rfl,hw z hz⟩⟩ (e2.tr (e9.tr lT))
def j6t:Sp:=λus H Q _=>∃h p cs,Cf us H h p cs/\uS H Q
theorem Ri{t:Int}(t0:0<=t)(n:Int):∃m:Int,dP [V.int 3,V.int 3,V.int (t+2),V.int (1000000000000000000+1)] (n%4)=some (.int m)/\1<=m:=by
 have h0:n%4=0\/n%4=1\/n%4=2\/n%4=3:=by omega
 rcases h0 with e|e|e|e<;>rw[e]
 ·exact⟨3,rfl,by omega⟩
 ·exact⟨3,rfl,by omega⟩
 ·exact⟨t+2,rfl,by omega⟩
 ·exact⟨1000000000000000000+1,rfl,by omega⟩
theorem j6u(T:Txt K mg a):FnOk P w K mg base (CXU P w) 3 a.f9 a.d9 ["_law_head","_law_cells"] (j6t):=by
 refine T.F9.okU1 Ap λvs H Q E h=>?_;obtain⟨h,p,cs,⟨rfl,h0,h1,hp,hl,hc⟩,hq⟩:=h;refine⟨rfl,λ_ _ _ _ hr=>⟨_,(ax (bh (i:=2) Ap.nd rfl (by nofun) (ar aX ak (ar bU (ar fG (pv 0) ak) ak)))
  (ax (bh (i:=3) Ap.nd rfl (by nofun) (bq (Rf T) hr T.F46 (T.F46.b2) (ae (pv 0) (ae ak aj))))
  (ax (bh (i:=4) Ap.nd rfl (by nofun) (bX aj))
  (ax (ik u8 rfl (fL rfl T.c9 (ae (aV cU (by rfl) T.cr xt (ae (pv 1) aj)) aj)) (bK (i:=5) Ap.nd rfl (by nofun)) (ax (bh (i:=6) Ap.nd rfl (by nofun) (bq (kP T) hr T.F35 (T.F35.b2) (ae (aD aF (pv 1) (pv 5) (λ_ _=>rfl)) (ae (pv 5) aj))))
  (ax (bh (i:=7) Ap.nd rfl (by nofun) (aD aF (bX (ae ak (ae ak (ae (ar aX (pv 3) ak) (ae (ar aX (ar pU ak ak) ak) aj))))) (ar bU (pv 6) ak) (λ_ _=>rfl)))
  (ay (lW (j9 v6 ue ug oQ (pv 4) (ae (eS jd (by rfl) T.dh xw (ae (hW (["_law_j"]:List Str) (["_law_cells","_law_k","_law_wide"]:List Str) [1,5,7] rfl ⟨rfl,by decide +kernel,by decide +kernel,by rfl,⟨⟨rfl,by nofun,by nofun⟩,⟨rfl,by nofun,by nofun⟩,⟨rfl,by nofun,by nofun⟩,trivial⟩⟩ (fL rfl T.c9 (ae (pv 2) aj)) (λ_ _ _ _=>⟨(bK (i:=0) (by show((["_law_j"]:List Str)++(["_law_cells","_law_k","_law_wide"]:List Str)).Nodup;decide +kernel) rfl (by nofun)),(show dC _ [] [] from trivial),(ar bU (bq (kP T) hr T.F35 (T.F35.b2) (ae (aD aF (pv 1) (pv 2) (λ_ _=>rfl)) (ae (ar aX (ar aX (pv 2) (ar lB ak (pv 0))) ak) aj))) (pv 3))⟩)) aj)) aj)))))))
  (ay (aK (bX (ae ak (ae (fN (ae (pv 2) (ae (pv 3) aj))) (ae (ar bU (ar fG (pv 0) ak) (pv 2)) (ae (pv 4) aj))))))))))),?_⟩⟩
 obtain⟨m,em,m1,m4⟩:∃m:Nat,1+h/6%4=m/\1<=m/\m<=4:=⟨(1+h/6%4).toNat,by omega,by omega,by omega⟩
 exists⟨h,40,rfl,by decide,by decide,P6 h0 h1,λtl t0 t1=>?_⟩;symm;rw[em];intro l1 H1 n1 q1 e1;exists jl (e1 _ _ hp) ?_;rw[y3];exists⟨_,rfl,by omega,by omega,lX (λi σ H2=>∃(u1 u2 u3:Option V) (cC:List V) (ws:List aw),σ=[some (.int h),some (.ref p),some (.int (m:Nat)),some (.int tl),some (.ref l1),u1,u2,u3]/\al H H2/\H2 l1=some (.lst cC)/\ao (aw.at_ H2) ws cC/\ws.length=i/\∀w∈ws,(Gm.wys m tl).okW w) ⟨none,none,none,[],[],rfl,e1,q1,trivial,rfl,λw hw=>by cases hw⟩ ?_ ?_⟩
 ·rintro i σ H2 hi hE;refine aO 10 hE ?_;clear hE;rintro u1 u2 u3 cC ws rfl x2 q2 fT lw bI;rw[show((0:Int)+(i:Nat))=(i:Nat) by omega];have i1:=iW (ns:=cs) (k:=(i:Nat)) (by omega) (by omega);have iz:=x2 _ _ hp;exists aA iz i1 ?_;exists⟨_,_,rfl,by omega,by omega,λn n0 nb=>?_⟩;obtain⟨wd,Rj,w1⟩:=Ri t0 n;symm;intro l3 H3 n3 q3 e3;exists aA q3 Rj ?_;have kN:=e3 _ _ iz;exists⟨_,rfl,by omega,by omega,λacc hn _ _ _ _=>EQ (λ_=>True) (by omega) hn (λj H5 Y hj e hY=>?_) λxs H4 lx _ e4 ha=>?_⟩
  ·exists aA (e _ _ kN) i1 ?_;exists⟨_,_,rfl,by omega,by omega,λk k0 k1=>?_⟩;symm;exact hY _ _ trivial al.rfl'
  exists iT ha λl5 H5 n5 q5 e5=>?_;have gF:=e3.tr (e4.tr e5);have Zp:=gF _ _ q2;have lv:=fT.len;exists oS Zp (by omega) λH6 q6 b6=>?_;exists⟨_,_,_,_,ws++[.l xs],rfl,al.but (x2.tr gF) b6 n1,q6,(ao.snoc (f:=aw.at_ H5) (show aw.at_ H5 (.l xs) (.ref l5)from⟨l5,rfl,q5⟩) (fT.imp λk=>aw.mono gF k)).imp λk=>aw.but Zp b6 k,by simp[lw],λw hw=>?_⟩;rcases yw.mp hw with z|z
  ·exact bI w z
  ·rw[y9.mp z];exact⟨xs,rfl,by omega⟩
 ·rintro σ H2 hE;refine aO 10 hE ?_;clear hE;rintro u1 u2 u3 cC ws rfl x2 q2 fT lw bI;have a0:=CG (h/24) (show(m:Int)≠0 by omega);have a1:=CH (h/24) (show(0:Int)<(m:Int) by omega);symm;intro l3 H3 n3 q3 e3;symm;intro gl H4 n4 q4 e4;have x4:=e3.tr e4;exact hq gl (.wys m tl) (.i _) ws H4 ((x2.tr e3).free n4) ⟨_,_,l1,_,q4,⟨l3,rfl,e4 _ _ q3⟩,rfl,x4 _ _ q2,fT.imp λk=>aw.mono x4 k⟩ ⟨⟨m1,m4⟩,⟨_,rfl,a0,a1⟩,bI,by omega⟩ trivial (x2.tr x4)
def j8b:Sp:=λus H Q _=>∃h p cs,Cf us H h p cs/\uS H Q
theorem Rk(n:Int):∃m:Nat,dP [V.int 1,V.int 2,V.int 3,V.int 3,V.int 3,V.int 3,V.int 2,V.int 4] (n%8)=some (.int (m:Nat))/\1<=m/\m<=4:=by
 have h0:n%8=0\/n%8=1\/n%8=2\/n%8=3\/n%8=4\/n%8=5\/n%8=6\/n%8=7:=by omega
 rcases h0 with e|e|e|e|e|e|e|e<;>rw[e]
 ·exact⟨1,rfl,by omega,by omega⟩
 ·exact⟨2,rfl,by omega,by omega⟩
 ·exact⟨3,rfl,by omega,by omega⟩
 ·exact⟨3,rfl,by omega,by omega⟩
 ·exact⟨3,rfl,by omega,by omega⟩
 ·exact⟨3,rfl,by omega,by omega⟩
 ·exact⟨2,rfl,by omega,by omega⟩
 ·exact⟨4,rfl,by omega,by omega⟩
theorem Rl{m:Nat}(m1:1<=m)(m3:m<=4):∃r:Int,dP [V.int 62,V.int 62,V.int 62,V.int 3] ((m:Int)-1)=some (.int r)/\0<=r:=by
 have h0:m=1\/m=2\/m=3\/m=4:=by omega
 rcases h0 with rfl|rfl|rfl|rfl
 ·exact⟨62,rfl,by omega⟩
 ·exact⟨62,rfl,by omega⟩
 ·exact⟨62,rfl,by omega⟩
 ·exact⟨3,rfl,by omega⟩
theorem j8c(T:Txt K mg a):FnOk P w K mg base (CXU P w) 2 a.f25 a.d25 ["_law_head","_law_cells"] (j8b):=by
 refine T.F25.okU1 B6 λvs H Q E h=>?_;obtain⟨h,p,cs,⟨rfl,h0,h1,hp,hl,hc⟩,hq⟩:=h;refine⟨rfl,λ_ _ _ _ hr=>⟨_,(ax (bh (i:=2) B6.nd rfl (by nofun) (aD aF (bX (ae ak (ae ak (ae ak (ae ak (ae ak (ae ak (ae ak (ae ak aj))))))))) (ar bU (ar fG (pv 0) ak) ak) (λ_ _=>rfl)))
  (ax (bh (i:=3) B6.nd rfl (by nofun) (bq (Zo T) hr T.F36 (T.F36.b2) (ae (bq (kP T) hr T.F35 (T.F35.b2) (ae (pv 0) (ae ak aj))) (ae (pv 2) aj))))
  (ax (bh (i:=4) B6.nd rfl (by nofun) (ar bU (ar fG (pv 0) ak) (pv 2)))
  (ax (bh (i:=5) B6.nd rfl (by nofun) (eS jd (by rfl) T.dh xw (ae (ar aX (fO lh (pv 3) (fj (pv 4)) gK) (fO lh (pv 3) gK (fj (pv 4)))) aj)))
  (ax (bh (i:=6) B6.nd rfl (by nofun) (aD aF (bX (ae ak (ae ak (ae ak (ae ak aj))))) (ar oG (pv 2) ak) (λ_ _=>rfl)))
  (ay (aK (bX (ae ak (ae (eS jd (by rfl) T.dh xw (ae (pv 3) aj)) (ae (pv 5) (ae (hW (["_law_k"]:List Str) (["_law_names_here","_law_cells","_law_many"]:List Str) [3,1,2] rfl ⟨rfl,by decide +kernel,by decide +kernel,by rfl,⟨⟨rfl,by nofun,by nofun⟩,⟨rfl,by nofun,by nofun⟩,⟨rfl,by nofun,by nofun⟩,trivial⟩⟩ (fL rfl T.c9 (ae (aV (Bv rfl) (by rfl) T.om Cy (ae (pv 6) (ae (aV cU (by rfl) T.cr xt (ae (pv 1) aj)) aj))) aj)) (λ_ _ _ _=>⟨(bK (i:=0) (by show((["_law_k"]:List Str)++(["_law_names_here","_law_cells","_law_many"]:List Str)).Nodup;decide +kernel) rfl (by nofun)),(show dC _ [] [] from trivial),(aD aF (pv 1) (ar bU (bq (kP T) hr T.F35 (T.F35.b2) (ae (aD aF (pv 2) (pv 0) (λ_ _=>rfl)) (ae (pv 0) aj))) (pv 3)) (λ_ _=>rfl))⟩)) aj)))))))))))),?_⟩⟩
 obtain⟨m,hm,m1,m4⟩:=Rk (h/6);obtain⟨rm,Rm,r0⟩:=Rl m1 m4;have a0:=CG (h/48) (show(m:Int)≠0 by omega);have a1:=CH (h/48) (show(0:Int)<(m:Int) by omega);obtain⟨tn,et,t1⟩:∃tn:Nat,h/48%(m:Int)=tn/\tn<m:=⟨(h/48%(m:Int)).toNat,by omega,by omega⟩
 symm;intro l1 H1 n1 q1 e1;exists aA q1 hm ?_;exists⟨_,_,rfl,by omega,by omega,λn n0 n1=>?_⟩;exists⟨_,_,rfl,n0,by omega,by omega,λpl ss H2 n2 q2 ns ls nd e2=>?_⟩;have ls':ss.length=m:=by omega
 symm;rw[et];refine sW q2 λl3 H3 n3 q3 e3=>?_;rw[JQ (by omega)]at q3;have Kq:=e3 _ _ q2;exists sW Kq λl4 H4 n4 q4 e4=>?_;rw[JP (by omega)]at q4;exists II (e4 _ _ q3) q4 (by simp;omega) λl5 H5 n5 q5 e5=>?_;rw[<- xk]at q5;exists iT q5 λl6 H6 n6 q6 e6=>?_;have CB:=e3.tr (e4.tr (e5.tr e6));have x6:=e1.tr (e2.tr CB);have Km:=CB _ _ q2;have Cr:=x6 _ _ hp;symm;intro l7 H7 n7 q7 e7;exists aA q7 Rm ?_;exists iT (e7 _ _ Km) λl8 H8 n8 q8 e8=>?_;have CI:=e7.tr e8;exists jl (CI _ _ Cr) ?_;rw[y3];exists⟨_,rfl,by omega,by omega,λacc hn _ _ _ _=>sR (by omega) hn (λj ys _=>∃ws:List Str,ys=ws.map V.str/\ws.length=j/\∀w∈ws,w∈ss) ⟨[],rfl,rfl,λw hw=>by cases hw⟩ (λ_ _ _ _ _ h=>h) (λj ys H' _ h=>by obtain⟨ws,rfl,lw,_⟩:=h;rw[y3];omega) ?_ ?_⟩
 ·rintro j ys H9 hj e ⟨ws,rfl,lw,hw⟩ Y N hY hN;rw[show((0:Int)+(j:Nat))=(j:Nat) by omega];have i1:=iW (ns:=cs) (k:=(j:Nat)) (by omega) (by omega);exists aA ((CI.tr e) _ _ Cr) i1 ?_;exists⟨_,_,rfl,by omega,by omega,λn n0 n1=>?_⟩;have b0:=CG n (show(m:Int)≠0 by omega);have b1:=CH n (show(0:Int)<(m:Int) by omega);exists aA ((CI.tr e) _ _ Km) (Gp b0 (by omega)) ?_;refine hY _ _ al.rfl' ⟨ws++[_],by rw[xk];rfl,by simp[lw],λw px=>?_⟩;rcases yw.mp px with z|z
  ·exact hw w z
  ·rw[y9.mp z];exact Cd (by omega)
 ·rintro ys H9 e9 ha ⟨ws,rfl,lw,hw⟩;symm;intro gl mN GV ii iU;have lT:=e9.tr iU;have pst:(ss.drop tn++ss.take tn).Perm ss:=Jd.trans (by rw[vz]);exact hq gl (.shelf ss) (.t _) (ws.map .s) mN ((x6.tr (CI.tr e9)).free GV) ⟨_,_,acc,_,ii,⟨l8,rfl,lT _ _ q8⟩,⟨l6,rfl,(CI.tr lT) _ _ q6⟩,iU _ _ ha,P2 ws⟩ ⟨⟨by omega,by omega,ns⟩,⟨_,rfl,pst⟩,WR λx hx=>⟨x,rfl,hw x hx⟩,by rw[y3,lw];omega⟩ trivial (x6.tr (CI.tr lT))
def j8d:Sp:=λus H Q _=>∃h p cs,Cf us H h p cs/\uS H Q
theorem Rn(n:Int):∃m:Int,dP [V.int 12,V.int 1000,V.int 1000000,V.int 1000000000000000000] (n%4)=some (.int m)/\1<=m/\m<=1000000000000000000:=by
 have h0:n%4=0\/n%4=1\/n%4=2\/n%4=3:=by omega
 rcases h0 with e|e|e|e<;>rw[e]
 ·exact⟨12,rfl,by omega,by omega⟩
 ·exact⟨1000,rfl,by omega,by omega⟩
 ·exact⟨1000000,rfl,by omega,by omega⟩
 ·exact⟨1000000000000000000,rfl,by omega,by omega⟩
theorem Ro{m:Nat}(m1:1<=m)(m3:m<=3):∃r:Int,dP [V.int 62,V.int 62,V.int 14] ((m:Int)-1)=some (.int r)/\12<=r:=by
 have h0:m=1\/m=2\/m=3:=by omega
 rcases h0 with rfl|rfl|rfl
 ·exact⟨62,rfl,by omega⟩
 ·exact⟨62,rfl,by omega⟩
 ·exact⟨14,rfl,by omega⟩
theorem j8e(T:Txt K mg a):FnOk P w K mg base (CXU P w) 2 a.f_z24 a.d24 ["_law_head","_law_cells"] (j8d):=by
 refine T.F24.okU1 Gn λvs H Q E h=>?_;obtain⟨h,p,cs,⟨rfl,h0,h1,hp,hl,hc⟩,hq⟩:=h;refine⟨rfl,λ_ _ _ _ hr=>⟨_,(ax (bh (i:=2) Gn.nd rfl (by nofun) (ar aX ak (ar bU (ar fG (pv 0) ak) ak)))
  (ax (bh (i:=3) Gn.nd rfl (by nofun) (aD aF (bX (ae ak (ae ak (ae (ar pU ak ak) (ae (ar pU ak ak) aj))))) (ar bU (ar fG (pv 0) ak) ak) (λ_ _=>rfl)))
  (ax (bh (i:=4) Gn.nd rfl (by nofun) (hW (["_law_j"]:List Str) (["_law_head","_law_wide"]:List Str) [0,3] rfl ⟨rfl,by decide +kernel,by decide +kernel,by rfl,⟨⟨rfl,by nofun,by nofun⟩,⟨rfl,by nofun,by nofun⟩,trivial⟩⟩ (fL rfl T.c9 (ae (ar aX (pv 2) ak) aj)) (λ_ _ _ _=>⟨(bK (i:=0) (by show((["_law_j"]:List Str)++(["_law_head","_law_wide"]:List Str)).Nodup;decide +kernel) rfl (by nofun)),(show dC _ [] [] from trivial),(ar oG (ar bU (ar lB (bq (kP T) hr T.F35 (T.F35.b2) (ae (pv 1) (ae (ar aX ak (pv 0)) aj))) (ar pU ak ak)) (ar aX (ar lB ak (pv 2)) ak)) (pv 2))⟩)))
  (ax (sQ (i:=5) (["_law_k"]:List Str) (["_law_places_here","_law_cells","_law_many"]:List Str) [4,1,2] Gn.nd rfl (k9 rfl) rfl ⟨rfl,by decide +kernel,by decide +kernel,by rfl,⟨⟨rfl,by nofun,by nofun⟩,⟨rfl,by nofun,by nofun⟩,⟨rfl,by nofun,by nofun⟩,trivial⟩⟩ (fL rfl T.c9 (ae (aV (Bv rfl) (by rfl) T.om Cy (ae (aD aF (bX (ae ak (ae ak (ae ak aj)))) (ar oG (pv 2) ak) (λ_ _=>rfl)) (ae (aV cU (by rfl) T.cr xt (ae (pv 1) aj)) aj))) aj)) (λ_ _ _ _=>⟨(bK (i:=0) (by show((["_law_k"]:List Str)++(["_law_places_here","_law_cells","_law_many"]:List Str)).Nodup;decide +kernel) rfl (by nofun)),(show dC _ [] [] from trivial),(aD aF (pv 1) (ar bU (bq (kP T) hr T.F35 (T.F35.b2) (ae (aD aF (pv 2) (pv 0) (λ_ _=>rfl)) (ae (pv 0) aj))) (ar aX (pv 3) ak)) (λ_ _=>rfl))⟩))
  (ay (aK (bX (ae ak (ae (pv 2) (ae (eS jd (by rfl) T.dh xw (ae (aV lC (by rfl) T.cw gg (ae (fO lh (pv 4) gK (fj (pv 2))) aj)) aj)) (ae (pv 5) aj))))))))))),?_⟩⟩
 obtain⟨m,em,m1,m3⟩:∃m:Nat,1+h/6%3=m/\1<=m/\m<=3:=⟨(1+h/6%3).toNat,by omega,by omega,by omega⟩
 obtain⟨wd,Rj,w1,w2⟩:=Rn (h/18);obtain⟨rm,Rm,r12⟩:=Ro m1 m3;symm;rw[em];intro l1 H1 n1 q1 e1;exists aA q1 Rj ?_;exists⟨_,rfl,by omega,by omega,λacc hn _ _ _ _=>EQ (λ_=>True) (by omega) hn (λi H3 Y hi e hY=>?_) λxs H2 lx _ e2 ha=>?_⟩
 ·exists⟨_,_,rfl,by omega,by omega,λn n0 n1=>?_⟩;symm;exact hY _ _ trivial al.rfl'
 have lx':xs.length=m+4:=by omega
 have iz:=(e1.tr e2) _ _ hp;symm;intro l3 H3 n3 q3 e3;exists aA q3 Rm ?_;exists jl (e3 _ _ iz) ?_;rw[y3];exists⟨_,rfl,by omega,by omega,λrp j4 _ _ _ _=>EQ (λz=>z∈xs) (by omega) j4 (λi H5 Y hi e hY=>?_) λys H4 ly nP e4 Hh=>?_⟩
 ·have i1:=iW (ns:=cs) (k:=(i:Nat)) (by omega) (by omega);exists aA ((e3.tr e) _ _ iz) i1 ?_;exists⟨_,_,rfl,by omega,by omega,λn n0 n1=>?_⟩;have a0:=CG n (show(m:Int)+4≠0 by omega);have a1:=CH n (show(0:Int)<(m:Int)+4 by omega);exists aA ((e3.tr e) _ _ ha) (iW a0 (by omega)) ?_;exact hY _ _ (WB (by omega)) al.rfl'
 have Rp:=(e3.tr e4) _ _ ha;exists sW Rp λl5 H5 n5 q5 e5=>?_;rw[WS (by omega)]at q5;exists VN q5 (by rw[yp];omega) λl6 ns H6 n6 p6 s6 q6 e6=>?_;exists iT q6 λl7 H7 n7 q7 e7=>?_;symm;intro gl H8 n8 q8 e8;have x8:=e5.tr (e6.tr (e7.tr e8));have x4:=e1.tr (e2.tr (e3.tr e4));have ln:ns.length=m:=by rw[p6.length_eq,yp];omega
 exact hq gl (.line m) (.l ns) (ys.map .i) H8 ((x4.tr (e5.tr (e6.tr e7))).free n8) ⟨_,_,rp,_,q8,rfl,⟨l7,rfl,e8 _ _ q7⟩,x8 _ _ Hh,Gq ys⟩ ⟨⟨m1,m3⟩,⟨ns,rfl,ln⟩,P7 λx _=>⟨x,rfl⟩,by rw[y3,ly];omega⟩ ⟨xs,by omega,λx hx=>gm (p6.mem_iff.mp hx),s6,λw hw=>by obtain⟨z,hz,rfl⟩:=yk.mp hw;exact⟨z,rfl,nP z hz⟩⟩ (x4.tr x8)
def j9j:Sp:=λus H Q _=>∃h p cs,Cf us H h p cs/\uS H Q
theorem j9k(T:Txt K mg a):FnOk P w K mg base (CXU P w) 3 a.f34 a.d34 ["_law_head","_law_cells"] (j9j):=by
 refine T.F34.okU1 PN λvs H Q E h=>?_;obtain⟨h,p,cs,⟨rfl,h0,h1,hp,hl,hc⟩,hq⟩:=h;refine⟨rfl,λ_ _ _ _ hr=>⟨_,(ax (bh (i:=2) PN.nd rfl (by nofun) (ar aX ak (ar bU (bq (Rf T) hr T.F46 (T.F46.b2) (ae (pv 0) (ae ak aj))) (ar pU ak ak))))
  (ax (bh (i:=3) PN.nd rfl (by nofun) (eS sJ (by rfl) T.n_int XX (ae (rW (bW hr) (ar bU (ar fG (pv 0) ak) ak) ak (bd _)) aj)))
  (ay (aK (bX (ae ak (ae (pv 2) (ae (pv 3) (ae (hW (["_law_k"]:List Str) (["_law_cells","_law_whole_here"]:List Str) [1,2] rfl ⟨rfl,by decide +kernel,by decide +kernel,by rfl,⟨⟨rfl,by nofun,by nofun⟩,⟨rfl,by nofun,by nofun⟩,trivial⟩⟩ (fL rfl T.c9 (ae (aV cU (by rfl) T.cr xt (ae (pv 1) aj)) aj)) (λ_ _ _ _=>⟨(bK (i:=0) (by show((["_law_k"]:List Str)++(["_law_cells","_law_whole_here"]:List Str)).Nodup;decide +kernel) rfl (by nofun)),(show dC _ [] [] from trivial),(ar bU (bq (kP T) hr T.F35 (T.F35.b2) (ae (aD aF (pv 1) (pv 0) (λ_ _=>rfl)) (ae (pv 0) aj))) (ar aX (ar fG (pv 2) ak) ak))⟩)) aj))))))))),?_⟩⟩
 exists⟨h,1,rfl,by decide,by decide,P6 h0 h1,λs s0 s1=>?_⟩;exists jl hp ?_;rw[y3];exists⟨_,rfl,by omega,by omega,λacc hn _ _ _ _=>EQ (λ_=>True) (by omega) hn (λi H3 Y hi e hY=>?_) λxs H2 lx _ e2 ha=>?_⟩
 ·have i1:=iW (ns:=cs) (k:=(i:Nat)) (by omega) (by omega);exists aA (e _ _ hp) i1 ?_;exists⟨_,_,rfl,by omega,by omega,λm m0 m1=>?_⟩;symm;exact hY _ _ trivial al.rfl'
 ·symm;intro gl H4 n4 q4 e4;exact hq gl (.hire _) (.i _) (xs.map .i) H4 (e2.free n4) ⟨_,_,acc,_,q4,rfl,rfl,e4 _ _ ha,Gq xs⟩ ⟨trivial,P5 _,P7 λx _=>⟨x,rfl⟩,by rw[y3,lx];omega⟩ trivial (e2.tr e4)
def Zq(K:yd):Sp:=λus H Q _=>∃(p:Addr) (ns:List Int) (mo:Nat),us=[.ref p,.int (mo:Nat)]/\mo<=12/\SqL K H p (ns.map V.int)/\ns.length<=63/\(∀z∈ns,ib z<=1048576)/\uS H Q
theorem jbt(T:Txt K mg a):FnOk P w K mg base (CXU P w) 4 a.f43 a.d43 ["_law_script","_law_most"] (Zq K):=by
 refine T.F43.okU1 Gk λvs H Q E h=>?_;unfold Zq at h;refine aO 8 h ?_;clear h;rintro p ns mo rfl Qb7 hS hl hb hq;refine⟨rfl,λ_ _ _ _ hr=>⟨_,(ax (bh (i:=2) Gk.nd rfl (by nofun) (bq (kP T) hr T.F35 (T.F35.b2) (ae (bq (Rb T) hr T.F42 (T.F42.b2) (ae (pv 0) (ae ak aj))) (ae ak aj))))
  (ax (bh (i:=3) Gk.nd rfl (by nofun) (ar bU (ar fG (pv 2) ak) (ar aX (pv 1) ak)))
  (ax (bw (ba (bW hr) (ar bU (ar fG (pv 2) ak) ak) ak (bd _)) (ay (bh (i:=3) Gk.nd rfl (by nofun) (aV (Bv rfl) (by rfl) T.om Cy (ae (aV (LD rfl) (by rfl) T.n_max YU (ae (ar oG (aV cU (by rfl) T.cr xt (ae (pv 0) aj)) ak) (ae ak aj))) (ae (pv 1) aj))))) bA)
  (ax (sQ (i:=4) (["_law_k"]:List Str) (["_law_script"]:List Str) [0] Gk.nd rfl (k9 rfl) rfl ⟨rfl,by decide +kernel,by decide +kernel,by rfl,⟨⟨rfl,by nofun,by nofun⟩,trivial⟩⟩ (fL rfl T.c9 (ae (pv 3) aj)) (λ_ _ _ _=>⟨(bK (i:=0) (by show((["_law_k"]:List Str)++(["_law_script"]:List Str)).Nodup;decide +kernel) rfl (by nofun)),(show dC _ [] [] from trivial),(bq (Rb T) hr T.F42 (T.F42.b2) (ae (pv 1) (ae (ar aX ak (pv 0)) aj)))⟩))
  (ax (bw (ba (bW hr) (ar bU (pv 2) ak) ak (bd _)) (ay (aK (bq (j9k T) hr T.F34 (T.F34.b2) (ae (pv 2) (ae (pv 4) aj))))) bA)
  (ax (bw (ba (bW hr) (ar bU (pv 2) ak) ak (bd _)) (ay (aK (bq (j8e T) hr T.F24 (T.F24.b2) (ae (pv 2) (ae (pv 4) aj))))) bA)
  (ax (bw (ba (bW hr) (ar bU (pv 2) ak) ak (bd _)) (ay (aK (bq (j8c T) hr T.F25 (T.F25.b2) (ae (pv 2) (ae (pv 4) aj))))) bA)
  (ax (bw (ba (bW hr) (ar bU (pv 2) ak) ak (bd _)) (ay (aK (bq (j6u T) hr T.F9 (T.F9.b2) (ae (pv 2) (ae (pv 4) aj))))) bA)
  (ax (bw (ba (bW hr) (ar bU (pv 2) ak) ak (bd _)) (ay (aK (bq (j9i T) hr T.F37 (T.F37.b2) (ae (pv 2) (ae (pv 4) aj))))) bA)
  (ay (aK (bq (j9g T) hr T.F39 (T.F39.b2) (ae (pv 2) (ae (pv 4) aj)))))))))))))),?_⟩⟩
 exists⟨p,ns,0,rfl,hS,by decide,hb,λc hc=>?_⟩;exists⟨_,_,rfl,by decide,by decide,λh h0 h1=>?_⟩;have z0:=CG (h/4000) (show(mo:Int)+1≠0 by omega);have z1:=CH (h/4000) (show(0:Int)<(mo:Int)+1 by omega)
 repeat ((fail_if_success (with_reducible refine P8 (t:=vU _ _ _) (λ_ _=>True) ?_ ?_));walk_at "vs")
 with_reducible refine P8 (λσ' H'=>H'=H/\∃k:Int,σ'=[some (.ref p),some (.int (mo:Nat)),some (.int h),some (.int k),none]/\0<=k/\k<=12) ?_ (λhK=>?_)
 rotate_left
 ·exists bg (λc2=>?_) (λc2=>?_)
  ·exists Uw hS ?_;rw[y3]
   repeat (first|exact hK _ _ ⟨rfl,_,rfl,by omega,by omega⟩|walk_at "vs")
  ·repeat (first|exact hK _ _ ⟨rfl,_,rfl,by omega,by omega⟩|walk_at "vs")
 rintro σ' H' ⟨rfl,k,rfl,k0,k12⟩;exists⟨_,rfl,by omega,by omega,λacc hn _ _ _ _=>EQ (λx=>ib x<=1048576) (by omega) hn (λi H3 Y hi e hY=>?_) λxs H1 lx hx e1 ha=>?_⟩
 ·symm;exact⟨p,ns,_,rfl,e.seqL hS,by omega,hb,λc hc=>hY _ _ hc al.rfl'⟩
 have rG:xs.length<=12:=by omega
 have gq:uS H1 Q:=λgl g st ws H' n v o f e=>hq gl g st ws H' (e1.free n) v o f (e1.tr e);exists bg (λc0=>?_) (λc0=>?_)
 ·symm;exact⟨h,acc,xs,⟨rfl,h0,h1,ha,rG,hx⟩,gq⟩
 exists bg (λc1=>?_) (λc1=>?_)
 ·symm;exact⟨h,acc,xs,⟨rfl,h0,h1,ha,rG,hx⟩,gq⟩
 exists bg (λc2=>?_) (λc2=>?_)
 ·symm;exact⟨h,acc,xs,⟨rfl,h0,h1,ha,rG,hx⟩,gq⟩
 exists bg (λc3=>?_) (λc3=>?_)
 ·symm;exact⟨h,acc,xs,⟨rfl,h0,h1,ha,rG,hx⟩,gq⟩
 exists bg (λc4=>?_) (λc4=>?_)
 ·symm;exact⟨h,acc,xs,⟨rfl,h0,h1,ha,rG,hx⟩,gq⟩
 symm;exact⟨h,acc,xs,⟨rfl,h0,h1,ha,rG,hx⟩,gq⟩
theorem ao.app{α:Type}{f:α->V->Prop}:∀{as bs:List α}{vs us:List V},ao f as vs->ao f bs us->ao f (as++bs) (vs++us)
 |[],_,[],_,_,h=>h
 |_::_,_,_::_,_,⟨h1,h2⟩,h=>⟨h1,ao.app h2 h⟩
 |[],_,_::_,_,h,_=>h.elim
 |_::_,_,[],_,h,_=>h.elim
theorem ao.many{α:Type}{f:α->V->Prop}{as:List α}{vs:List V}(h:ao f as vs):∀k:Nat,ao f (xm k as).flatten (xm k vs).flatten
 |0=>trivial
 |k+1=>by rw[uc,uc,wH,wH];exact ao.app h (ao.many h k)
theorem ao.take{α:Type}{f:α->V->Prop}:∀{as:List α}{vs:List V} (n:Nat),ao f as vs->ao f (as.take n) (vs.take n)
 |_,_,0,_=>by rw[YR,YR];trivial
 |[],[],n+1,_=>trivial
 |_::_,_::_,n+1,⟨h1,h⟩=>⟨h1,ao.take n h⟩
 |[],_::_,_,h=>h.elim
 |_::_,[],_,h=>h.elim
theorem jpl{xs:List V}{n:Nat}:aQ xs none (some (n:Int))=xs.take (min n xs.length):=by
 unfold aQ;rw[HT.sIx_none,HT.sIx_nat,BP,BQ]
theorem Gm.pv_extT{H H':Hp}(e:be H H'){g:Gm}{v:V}(h:g.pv H v):g.pv H' v:=by
 cases g with
 |shelf ts=>obtain⟨p,h1,h2⟩:=h;exact⟨p,h1,e _ _ h2 rfl⟩
 |wys m t=>obtain⟨p,h1,h2⟩:=h;exact⟨p,h1,e _ _ h2 rfl⟩
 |_=>exact h
theorem aw.tk{H H':Hp}(e:TK H H'){s:aw}{v:V}(h:s.at_ H v):s.at_ H' v:=by
 cases s with
 |i z=>exact h
 |s z=>exact h
 |l ns=>obtain⟨p,h1,h2⟩:=h;exact⟨p,h1,e _ _ h2⟩
theorem h7.extT{a:Adr}{H H':Hp}(e:be H H'){g:Gm}{r:Addr}(h:h7 a H g r):h7 a H' g r:=by
 cases g with
 |shelf ts=>obtain⟨d,v,h⟩:=h;exact⟨d,v,e _ _ h rfl⟩
 |hire W=>obtain⟨d,h⟩:=h;exact⟨d,e _ _ h rfl⟩
 |line W=>obtain⟨d,h⟩:=h;exact⟨d,e _ _ h rfl⟩
 |wys W t=>obtain⟨d,h⟩:=h;exact⟨d,e _ _ h rfl⟩
 |store W=>obtain⟨d,h⟩:=h;exact⟨d,e _ _ h rfl⟩
 |bags W=>obtain⟨d,h⟩:=h;exact⟨d,e _ _ h rfl⟩
theorem bE.extT(e:be H H'){gl:Addr}{g:Gm}{st:ag}{ws:List aw}(h:bE H gl g st ws):bE H' gl g st ws:=by
 obtain⟨gv,sv,wl,cC,h1,h2,h3,h4,h5⟩:=h;exact⟨gv,sv,wl,cC,e _ _ h1 rfl,Gm.pv_extT e h2,ag.tk (pC e) h3,e _ _ h4 rfl,h5.imp λk=>aw.tk (pC e) k⟩
theorem Zr{b:ag}(hb:b=.i 0\/b=.i 1):dB (.hire 3) (.i 2) b=if b=.i 1 then[(.i 1,0)] else[(.i 0,2),(.i 1,3)]:=by
 rcases hb with rfl|rfl
 ·rw[if_neg (λz=>by injection z with z;omega)];refine J5 (BV.mpr ⟨λb hb=>by rw[y9.mp hb];show(0:Int)<1;decide,J6 _ _⟩) λs c=>?_;simp only[xc,yby,or_false,Rq];constructor
  ·rintro(⟨rfl,rfl⟩|⟨rfl,rfl⟩)
   ·exact⟨.inl rfl,rfl⟩
   ·exact⟨.inr rfl,rfl⟩
  ·rintro⟨rfl|rfl,h⟩
   ·have h':V.int c=.int 2:=h;injection h' with h';exact .inl ⟨rfl,h'⟩
   ·have h':V.int c=.int 3:=h;injection h' with h';exact .inr ⟨rfl,h'⟩
 ·rw[if_pos rfl];refine J5 (J6 _ _) λs c=>?_;simp only[y9,Rq];constructor
  ·rintro⟨rfl,rfl⟩;exact⟨.inr rfl,rfl⟩
  ·rintro⟨rfl|rfl,h⟩
   ·exact absurd (show V.int c=.non from h) (λz=>nomatch z)
   ·have h':V.int c=.int 0:=h;injection h' with h';exact⟨rfl,h'⟩
theorem Hk{c:Int}{Ys:List ag}(h:eN (.hire 3) (.i 0) [.i 2,.i 2,.i 2] c Ys):c=3/\Ys=[.i 1,.i 1,.i 1]:=by
 have z1:=Zr (b:=.i 0) (.inl rfl);have z2:=Zr (b:=.i 1) (.inr rfl);rw[if_neg (λz=>by injection z with z;omega)]at z1;rw[if_pos rfl]at z2;have m:=h.min [.i 1,.i 1,.i 1] (3+(0+(0+0))) (.cons (by rw[z1];simp) (.cons (by rw[z2];simp) (.cons (by rw[z2];simp) .nil)));have w:=h.way;have o:∀{b t:ag}{p:Int},(b=.i 0\/b=.i 1)->(t,p)∈dB (.hire 3) (.i 2) b->(b=.i 1/\t=.i 1/\p=0)\/(b=.i 0/\t=.i 0/\p=2)\/(b=.i 0/\t=.i 1/\p=3):=λ{b t p} hb hm=>by
  rcases hb with rfl|rfl
  ·rw[z1]at hm;simp only[xc,yby,or_false,Rq]at hm;rcases hm with⟨rfl,rfl⟩|⟨rfl,rfl⟩
   ·exact .inr (.inl ⟨rfl,rfl,rfl⟩)
   ·exact .inr (.inr ⟨rfl,rfl,rfl⟩)
  ·rw[z2]at hm;simp only[y9,Rq]at hm;exact .inl ⟨rfl,hm.1,hm.2⟩
 cases w with
 |cons h1 w=>
  cases w with
  |cons h2 w=>
   cases w with
   |cons h3 w=>
    cases w;rcases o (.inl rfl) h1 with⟨z,_,_⟩|⟨_,rfl,rfl⟩|⟨_,rfl,rfl⟩
    ·injection z with z;omega
    ·rcases o (.inl rfl) h2 with⟨z,_,_⟩|⟨_,rfl,rfl⟩|⟨_,rfl,rfl⟩
     ·injection z with z;omega
     ·rcases o (.inl rfl) h3 with⟨z,_,_⟩|⟨_,rfl,rfl⟩|⟨_,rfl,rfl⟩
      ·injection z with z;omega
      ·omega
      ·omega
     ·rcases o (.inr rfl) h3 with⟨_,rfl,rfl⟩|⟨z,_,_⟩|⟨z,_,_⟩
      ·omega
      ·injection z with z;omega
      ·injection z with z;omega
    ·rcases o (.inr rfl) h2 with⟨_,rfl,rfl⟩|⟨z,_,_⟩|⟨z,_,_⟩
     ·rcases o (.inr rfl) h3 with⟨_,rfl,rfl⟩|⟨z,_,_⟩|⟨z,_,_⟩
      ·exact⟨rfl,rfl⟩
      ·injection z with z;omega
      ·injection z with z;omega
     ·injection z with z;omega
     ·injection z with z;omega
def bD(c:Int)(Ys:List ag):D:=.tup [.int c,.lst (Ys.map sD)]
theorem Kt{t yl:Addr}{Ys:List ag}(h1:H t=some (.tup [.int c,.ref yl]))(h2:H yl=some (.lst ys))(h3:ao (ag.at_ H) Ys ys):aR H (bD c Ys) (.ref t):=aR.tupI h1 (.cons .intI (.cons (aR.lstI h2 (WU h3)) .nil))
theorem Zt:∀Ys:List ag,D.fineL (Ys.map sD)=true
 |[]=>rfl
 |s::Ys=>by
  show((sD s).fine&&D.fineL (Ys.map sD))=true;rw[Y6,Zt Ys];rfl
theorem Zu(c:Int)(Ys:List ag):(bD c Ys).fine=true:=by
 show(true&&(D.fineL (Ys.map sD)&&true))=true;rw[Zt];rfl
theorem Zv(c:Int)(Ys:List ag):Im (bD c Ys).depth 5=true:=Nat.ble_eq_true_of_le (by
 have:=Qa Ys;show max 0 (max (D.depthL (Ys.map sD)+1) 0)+1<=5;omega)
theorem Zw{H:Hp}:∀{ns:List Int}{vs:List V},ao (aw.at_ H) (ns.map aw.i) vs->vs=ns.map V.int
 |[],[],_=>rfl
 |n::_,_::_,⟨h1,h⟩=>by rw[Zw h,show _=V.int n from h1];rfl
 |[],_::_,h=>h.elim
 |_::_,[],h=>h.elim
def sp_law(K:yd)(a:Adr):Sp:=λvs H Q _=>∃(p:Addr) (ns:List Int),vs=[.ref p]/\SqL K H p (ns.map V.int)/\ns.length<=63/\(∀z∈ns,ib z<=1048576)/\H a.tb52=some (.tbl #[])/\∀H',Q (.bl true) H'
theorem ok_law(T:Txt K mg a):FnOk P w K mg base (CXU P w) 14 a.f54 a.d54 ["_law_script"] (sp_law K a):=by
 refine T.F54.okU1 uO λvs H Q E h=>?_;unfold sp_law at h;refine aO 7 h ?_;clear h;rintro p cs rfl hS hl hb hTB hq;refine⟨rfl,λ_ _ _ _ hr=>⟨_,(ax (bh (i:=1) uO.nd rfl (by nofun) (bq (jbt T) hr T.F43 (T.F43.b2) (ae (pv 0) (ae ak aj))))
  (ax (bh (i:=2) uO.nd rfl (by nofun) (bq (kP T) hr T.F35 (T.F35.b2) (ae (bq (Rb T) hr T.F42 (T.F42.b2) (ae (pv 0) (ae ak aj))) (ae ak aj))))
  (ax (bw (PW.pt (CS (ba (bW hr) (ar bU (pv 2) ak) ak (bd _)) (CS (ba (bW hr) (aD aF (pv 1) ak (λ_ _=>rfl)) ak (bd _)) (Hx (ba (yS hr) (aD aF (pv 1) ak (λ_ _=>rfl)) (bX aj) (bd _)))))) (ay (vY (fO lh (ar S7 (aD aF (pv 1) ak (λ_ _=>rfl)) ak) gK (fj (ar aX ak (ar bU (ar fG (pv 2) ak) ak)))) (vX (pv 1) ak jj0))) bA)
  (ax (bh (i:=3) uO.nd rfl (by nofun) (bq (j9e T) hr T.F41 (T.F41.b1) (ae (pv 1) aj)))
  (ax (bh (i:=4) uO.nd rfl (by nofun) (eS sK (by rfl) T.mx vj (ae (aD aF (pv 1) ak (λ_ _=>rfl)) aj)))
  (ax (bh (i:=5) uO.nd rfl (by nofun) (bq (QW T) hr T.F52 (T.F52.b3) (ae (pv 3) (ae (aD aF (pv 1) ak (λ_ _=>rfl)) (ae (pv 4) aj)))))
  (ax (bw (PW.pt (A7 (A8 (mH (aV lc (by rfl) T.c7 gp (ae (pv 5) (ae (kW (v:=V.ty "tuple") (by rfl) T.dh xw rfl) aj))) (λ_=>rfl))) (A7 (ba (yS hr) (aV cU (by rfl) T.cr xt (ae (pv 5) aj)) ak (bd _)) (CQ (A8 (mH (aV lc (by rfl) T.c7 gp (ae (aD aF (pv 5) ak (λ_ _=>rfl)) (ae (kW (v:=V.ty "list") (by rfl) T.mx vj rfl) aj))) (λ_=>rfl))))))) (ay (aK vR)) bA)
  (ax (bw (PW.pt (A7 (A8 (mH (bq (XW T) hr T.F40 (T.F40.b1) (ae (aD aF (pv 5) ak (λ_ _=>rfl)) aj)) (λ_=>rfl))) (CQ (ba (yS hr) (aV cU (by rfl) T.cr xt (ae (aD aF (pv 5) ak (λ_ _=>rfl)) aj)) (aV cU (by rfl) T.cr xt (ae (aD aF (pv 1) ak (λ_ _=>rfl)) aj)) (bd _))))) (ay (aK vR)) bA)
  (ax (bh (i:=6) uO.nd rfl (by nofun) (aD aF (bq (jle T) hr T.F51 (T.F51.b3) (ae (pv 3) (ae (aD aF (pv 1) ak (λ_ _=>rfl)) (ae (pv 4) aj)))) (HE HG ak) (λ_ _=>rfl)))
  (ax (bw (PW.pt (A7 (ba (yS hr) (bq (j87 T) hr T.F27 (T.F27.b2) (ae (pv 1) (ae (aD aF (pv 5) ak (λ_ _=>rfl)) aj))) (aD aF (pv 5) ak (λ_ _=>rfl)) (bd _)) (CQ (ba (yS hr) (pv 4) (aD aF (pv 1) ak (λ_ _=>rfl)) (bd _))))) (ay (aK vR)) bA)
  (ax (bw (ba (yS hr) (aD aF (pv 5) ak (λ_ _=>rfl)) (aV (EO rfl) (by rfl) T.om Cy (ae (hW (["_law_state","_law_paid"]:List Str) ([]:List Str) [] rfl ⟨rfl,by decide +kernel,by decide +kernel,by rfl,trivial⟩ (oC (pv 6)) (λ_ _ _ _=>⟨(CY rfl (oA (bK (i:=0) (by show((["_law_state","_law_paid"]:List Str)++([]:List Str)).Nodup;decide +kernel) rfl (by nofun)) (oA (bK (i:=1) (by show((["_law_state","_law_paid"]:List Str)++([]:List Str)).Nodup;decide +kernel) rfl (by nofun)) CW))),(show dC _ [] [] from trivial),(pv 1)⟩)) aj)) (bd _)) (ay (aK vR)) bA)
  (ax (bh (i:=7) uO.nd rfl (by nofun) (fN (ae (aD aF (pv 5) ak (λ_ _=>rfl)) (ae (eS sK (by rfl) T.mx vj (ae (aD aF (pv 5) ak (λ_ _=>rfl)) aj)) aj))))
  (ax (lW (wE v6 PySem.F.slot_list_clear PySem.F.type_list_clear jj1 (aD aF (pv 5) ak (λ_ _=>rfl))))
  (ax (bw (A8 (mH (bq (Qz T) hr T.F44 (T.F44.b2) (ae (bq (QW T) hr T.F52 (T.F52.b3) (ae (wt T.o7 (YK T) (hr.mono (by decide)) (by rfl) T.m_Hire (T.F30.b2) .nil cT (ae ak aj)) (ae ak (ae (bX (ae ak (ae ak (ae ak aj)))) aj)))) (ae (fN (ae ak (ae (bX (ae ak (ae ak (ae ak aj)))) aj))) aj))) (λ_=>rfl))) (ay (aK vR)) bA)
  (ay (aK (bq (Qz T) hr T.F44 (T.F44.b2) (ae (bq (QW T) hr T.F52 (T.F52.b3) (ae (pv 3) (ae (aD aF (pv 1) ak (λ_ _=>rfl)) (ae (pv 4) aj)))) (ae (pv 7) aj))))))))))))))))))),?_⟩⟩
 exists⟨p,cs,9,rfl,by omega,hS,hl,hb,λgl g st ws H1 n1 hG hO hF e1=>?_⟩;exists⟨p,cs,0,rfl,e1.seqL hS,by decide,hb,λc hc=>?_⟩;exists⟨_,_,rfl,by decide,by decide,λm m0 m1=>?_⟩;walk_at "vs";with_reducible refine P8 (λσ' H2=>∃ws:List aw,σ'=[some (.ref p),some (.ref gl),some (.int m),none,none,none,none,none]/\al H H2/\bE H2 gl g st ws/\pF g st ws/\rb g st ws) ?_ (λhK=>?_)
 rotate_left
 ·obtain⟨gv,sv,wl,cC,hg,fc,eP,fP,fT⟩:=id hG;exists bg (λc4=>?_) (λc4=>?_)
  rotate_left
  ·repeat (first|exact hK _ _ ⟨ws,rfl,e1,hG,hO.long,hF⟩|walk_at "vs")
  exists aA hg rfl ?_;exists bg (λc5=>?_) (λc5=>?_)
  rotate_left
  ·repeat (first|exact hK _ _ ⟨ws,rfl,e1,hG,hO.long,hF⟩|walk_at "vs")
  obtain⟨W,rfl⟩:∃W,g=.hire W:=by
   cases g with
   |hire W=>exact⟨W,rfl⟩
   |_=>simp[Gm.no]at c5
  obtain⟨xs,rfl⟩:∃xs:List Int,ws=xs.map aw.i:=GO λw hw=>hO.2.2.1 w hw;obtain rfl:=Zw fT;have rG:=hO.2.2.2;rw[y3]at rG;exists aA hg rfl ?_;symm;intro l3 H3 n3 q3 e3;exists jn6 (e3 _ _ fP) q3 ?_;exists dZ (λcn=>?_) (λcn=>?_)
  rotate_left
  ·repeat (first|exact hK _ _ ⟨_,rfl,e1.tr e3,hG.mono e3,hO.long,hF⟩|walk_at "vs")
  obtain⟨n,en,Qb8⟩:∃n:Nat,490+m/4%11=(n:Nat)/\n<=500:=⟨(490+m/4%11).toNat,by omega,by omega⟩
  exists aA (e3 _ _ hg) rfl ?_;exists⟨wl,500,xs.map V.int,rfl,rfl,e3 _ _ fP,by decide,by decide,by rw[xx,y3];show xs.length*500<=_;omega,λl4 n4=>?_⟩;have e4:=dG (o:=.lst (xm (500:Int).toNat (xs.map V.int)).flatten) n4;exists sW bi λl5 H5 n5 q5 e5=>?_;rw[en,jpl]at q5;have x5:al H1 H5:=e3.tr (e4.tr e5);have nX:=x5 _ _ hg;have nlg:l5≠gl:=λz=>by rw[z]at n5;rw[(e3.tr e4) _ _ hg]at n5;cases n5
  exists yJ nX (j:=3) rfl λH6 q6 b6=>?_;have x6:al H H6:=al.but (e1.tr x5) b6 n1;have q56:=b6 _ _ nlg q5;have hG6:bE H6 gl (.hire W) st _:=⟨gv,sv,l5,_,q6,fc,ag.but nX b6 (ag.mono x5 eP),q56,ao.take _ (ao.many (Gq xs) _)⟩
  have hL6:pF (.hire W) st ((xm (500:Int).toNat (xs.map aw.i)).flatten.take (min n (xm (500:Int).toNat (xs.map V.int)).flatten.length)):=by
   refine⟨trivial,hO.2.1,λw hw=>?_,by rw[yp];omega,.inr λR z=>nomatch z⟩;obtain⟨ys,h1,h2⟩:=List.mem_flatten.mp (gm hw);rw[Qf h1]at h2;exact hO.2.2.1 w h2
  repeat (first|exact hK _ _ ⟨_,rfl,x6,hG6,hL6,trivial⟩|walk_at "vs")
 rintro σ H2 hE;refine aO 5 hE ?_;clear hE;rintro ws rfl x2 Zx hL hF;have fe:=hF.nd hL.2.1;have rC:=hL.2.2.2.1;have T2:rD a H2:=.inl (x2 _ _ hTB);exists⟨gl,g,st,ws,rfl,Zx,λr H3 lQ e3=>?_⟩;have Zy:=bE.mono e3 Zx;obtain⟨gv,sv,wl,cC,hg,fc,eP,fP,fT⟩:=id Zy;have lw:=fT.len;exists aA hg rfl ?_;exists LW fP λl4 H4 n4 q4 e4=>?_;exists aA (e4 _ _ hg) rfl ?_;exists⟨r,l4,sv,g,st,ws,cC,rfl,h7.mono e4 lQ,ag.mono e4 eP,q4,fT.imp λk=>aw.mono e4 k,hL,hF,bJ.ext (e3.tr e4) T2,λtp yl H5 c ys Ys ny qt qy hy hB T5 x5 _=>?_⟩;have lY:=XG hB.way;rw[y3]at lY;have ly:=hy.len;have kt:cM H5 (.ref tp) .tup:=.t qt;have ky:cM H5 (.ref yl) .lst:=.l qy;have y5:be H3 H5:=(al.toT e4).tr x5;have nX:=y5 _ _ hg rfl;have Hl:=y5 _ _ fP rfl;have AR:=x5 _ _ q4 rfl;have hr5:=h7.extT y5 lQ;have Rr:=ag.tk (pC y5) eP;have AZ:ao (aw.at_ H5) ws cC:=fT.imp λk=>aw.tk (pC y5) k;have hG5:=bE.extT y5 Zy;exists LV kt ?_;exists hZ qt ?_;exists cP qt rfl ?_;exists xW ky ?_;exists cP qt rfl ?_;exists⟨.int c,_,rfl,rfl,?_⟩;exists cP qt rfl ?_;exists jl qy ?_;exists aA nX rfl ?_;exists jl Hl ?_;exists dZ (λz=>absurd z (by omega)) (λ_=>?_);exists aA nX rfl ?_;exists⟨r,l4,sv,g,st,ws,cC,rfl,hr5,Rr,AR,AZ,hL,hF,λfl Rs H6 n6 q6 r6 tol e6=>?_⟩;have lfv:=r6.len;rw[y3,rh]at lfv;obtain⟨zv,Zz⟩:∃zv,Rs[ws.length]?=some zv:=⟨Rs[ws.length]'(by omega),y4 (by omega)⟩
 obtain⟨ps,Hi,zl,zs,rfl,nz,qz,pz⟩:=r6.get Zz;have tl:Told (nV g st ws) ps:=by
  have:=tol ws.length (yg _);rw[xh,y4 (show ws.length<(bM g st ws).length by rw[rh];omega),zC]at Hi;have e:(bM g st ws).getD ws.length []=(bM g st ws)[ws.length]'(by rw[rh];omega):=by rw[y8,y4 (by rw[rh];omega)];rfl
  rw[nV];rw[e]at this ⊢;rw[<- vm Hi];exact this
 have lps:ps.length<=60:=by
  have:=Qx hL hF (yg ws.length);have h2:=Gv (m:=(nV g st ws).map (·.1)) (vh.mpr (tl.1.imp λ{a b} z e=>by have e':a.1=b.1:=e;rw[e']at z;exact JV z z)) λs hs=>by
   obtain⟨e,he,rfl⟩:=yk.mp hs;obtain⟨b,hb⟩:=(tl.2 e.1 e.2).mp he;exact yk.mpr ⟨_,hb,rfl⟩
  rw[y3,y3]at h2;have:(nV g st ws).length<=60:=this;omega
 have lzs:=pz.len;exists aA q6 (XT (by omega) (by rw[show Rs.length-1=ws.length by omega];exact Zz)) ?_;exists cP (e6 _ _ qt) rfl ?_;exists⟨gl,yl,g,st,ws,c,Ys,ys,rfl,bE.mono e6 hG5,hL,fe,e6 _ _ qy,hy.imp λk=>ag.mono e6 k,hB.way,λH7 e7=>?_⟩;have x7:=e6.tr e7;have ow:=uT hL.1 hL.2.2.1;have dw:=WV ws;exists cP (x7 _ _ qt) rfl ?_;exists dZ (λz=>absurd rfl z) (λ_=>?_);exists aA (x7 _ _ nX) rfl ?_;exists sZ (aR.lstI (x7 _ _ AR) (P9 (AZ.imp λk=>aw.mono x7 k))) (aR.lstI (x7 _ _ Hl) (P9 (AZ.imp λk=>aw.mono x7 k))) ow ow (by show D.depthL (ws.map wD)+1<=20;omega) ?_;rw[As (d:=.lst (ws.map wD)) ow];exists cP (x7 _ _ qt) rfl ?_;exists⟨zl,rfl,⟨_,SqL.of (e7 _ _ qz)⟩,λacc hn _ _ _ _=>jdz (SqL.of (e7 _ _ qz)) (by omega) hn (λj us _=>us=((ps.take j).map Prod.snd).map V.int) rfl (λ_ _ _ _ _ h=>h) (λj us H' _ h=>by rw[h,y3,y3,yp];omega) ?_ ?_⟩
 ·rintro j y us H8 hy8 e8 rfl;obtain⟨⟨s8,c8⟩,es8,cc,sv8,rfl,q8,h8⟩:=pz.get hy8;refine⟨cc,sv8,_,rfl,(e7.tr e8) _ _ q8,λY N hY hN=>?_⟩;exists hY _ _ al.rfl' ?_;rw[gc,es8,xk,xk];rfl
 rintro us H8 e8 ZA rfl;rw[<- lzs,ut]at ZA;have x8:=x7.tr e8;exists⟨acc,_,rfl,SqL.of ZA,?_,λmm hmm=>?_⟩
 ·obtain⟨e,he,_⟩:=hB.has;intro z;have:(e.1,e.2.1)∈ps:=(tl.2 _ _).mpr ⟨e.2.2,he⟩;rw[B2.mp z]at this;cases this
 obtain rfl:mm=c:=hmm.uniq ⟨by
  obtain⟨e,he,k⟩:=hB.has;rw[<- k];exact yk.mpr ⟨(e.1,e.2.1),(tl.2 _ _).mpr ⟨e.2.2,he⟩,rfl⟩,λx hx=>by
  obtain⟨e,he,rfl⟩:=yk.mp hx;obtain⟨b,hb⟩:=(tl.2 e.1 e.2).mp he;exact hB.low _ hb⟩
 exists dZ (λz=>absurd rfl z) (λ_=>?_);exists cP (x8 _ _ qt) rfl ?_;exists cP (x8 _ _ qt) rfl ?_;exists LW (x8 _ _ qy) λl9 H9 n9 q9 e9=>?_;symm;intro t10 mN GV ii iU;have lT:=x8.tr (e9.tr iU);have A0:=lT _ _ qy;exists cP (lT _ _ qt) rfl ?_;exists jmt A0 λAL J9 Ku=>?_;have Hm:=J4 A0 Ku;have T10:=bJ.ext lT T5;have T11:rD a AL:=bJ.butL A0 Ku T10;have n9y:l9≠yl:=λz=>by rw[z,x8 _ _ qy]at n9;cases n9
 have Rt:=Ku _ _ n9y (iU _ _ q9);have Ho:=Hm _ _ ii;have y11:be H4 AL:=be.butN (x5.ext lT) Ku ny;have Ru:ao (ag.at_ AL) Ys ys:=hy.imp λk=>ag.tk Hm (ag.mono lT k);symm;intro r8 ZB k1 k2 k3;refine⟨r8,ZB,_,rfl,bi,λKb Rv b12=>⟨rfl,?_⟩⟩;have AM:al AL Kb:=λb o h=>b12 b o (cD h k1) (by rw[bf (cD h k1),bf (cD h k2)];exact h);symm;intro l13 H13 n13 QL GW;exists⟨r8,l13,.int 0,.hire 3,.i 0,[.i 2,.i 2,.i 2],_,rfl,⟨ZB,GW _ _ Rv⟩,rfl,QL,⟨rfl,rfl,rfl,trivial⟩,⟨trivial,.inl rfl,(λw hw=>⟨2,by simpa using hw⟩),by decide,.inl (by decide)⟩,trivial,bJ.ext (AM.tr GW) T11,λtq yq H14 cq ysq Ysq nyq qtq qyq QE hBq T14 x14 _=>?_⟩;obtain⟨rfl,rfl⟩:=Hk hBq;symm;intro l15 H15 n15 q15 e15;symm;intro l16 H16 n16 q16 ZC;have Hq:=e15.tr ZC;exists X1 (d:=bD 3 [.i 1,.i 1,.i 1]) (Kt (Hq _ _ qtq) (Hq _ _ qyq) (QE.imp λk=>ag.mono Hq k)) (Kt q16 (ZC _ _ q15) (show ao (ag.at_ H16) [ag.i 1,.i 1,.i 1] [.int 1,.int 1,.int 1] from⟨rfl,rfl,rfl,trivial⟩)) (Zu _ _) (Zv _ _) λRx ZD=>?_;have ZE:be AL Rx:=((al.toT (AM.tr GW)).tr x14).ext (Hq.tr ZD);have ZF:be H4 Rx:=y11.tr ZE;have Kv:be H3 Rx:=(al.toT e4).tr ZF;exists aA (Kv _ _ hg rfl) rfl ?_;exists⟨r,l4,sv,g,st,ws,cC,rfl,h7.extT Kv lQ,ag.tk (pC Kv) eP,ZF _ _ q4 rfl,fT.imp λk=>aw.tk (pC Kv) k,hL,hF,bJ.ext (Hq.tr ZD) T14,λtz yz H18 cz ysz Ysz _ qtz qyz hyz hBz _ x18 _=>?_⟩;obtain⟨rfl,rfl⟩:=hBz.uniq hB;have Ry:=ZE.tr x18;symm;exact X1 (d:=bD cz Ysz) (Kt qtz qyz hyz) (Kt (Ry _ _ Ho rfl) (Ry _ _ Rt rfl) (Ru.imp λk=>ag.tk (pC Ry) k)) (Zu _ _) (Zv _ _) λH19 _=>hq H19
end
end Q
theorem PySem.Challenge.cw_lateknow_k63_best_way_holds : PySem.Challenge.rw_lateknow_k63_best_way.Holds :=
 PySem.Challenge.cw_lateknow_k63_best_way_pre (λK a=>Q.sp_law K a) (λK a H p ns hl hb hT hS=>⟨p,ns,rfl,hS,hl,hb,hT,λ_=>rfl⟩) (λw K mg a base T=>Q.ok_law T)
