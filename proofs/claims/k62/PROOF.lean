import PyProof.Rows.All
import Wide.All
import OpenK.AllK
import Wide.FinOn
import Lean
import PyProof.EqAt
import PyProof.EqKinds
import PyProof.TupleCall
import PyProof.ExcClass3
import PyProof.InstStoreFacts
import PyProof.RulesAs
import PyProof.NsDelKeeps
import PyProof.ExcArgsOwn
import PyProof.ExcAttrAll.ValueError
import PyProof.ExcBaseAll.ValueError
import PySem.Challenge.RW_lateknow_k62_table
set_option Elab.async false
set_option linter.all false
set_option maxRecDepth 100000
set_option maxHeartbeats 4000000
set_option Elab.async false
set_option linter.all false
set_option maxRecDepth 100000
set_option compiler.extract_closed false
open Array renaming getElem?_eq_getElem→yf,length_toList→yh,getElem?_toList→xl,getD_eq_getD_getElem?→xr,getElem?_eq_some_iff→y1f,all_eq_true_iff_forall_mem→y1r,getElem?_eq_none→y2d,getElem?_setIfInBounds→y5e,toArray_toList→y8e,forIn_toList→y98,toList_inj→yam,replicate→yay,toList→yct,ext'→ye3,getD→ye4
open Bool renaming false_ne_true→xb,false_eq_true→vi,and_eq_true→uu,eq_iff_iff→y1s,and_eq_true_iff→y2w,not_true→y3r,noConfusion→y79,not_eq_true→y7a,not_false→y8o,and_true→ycj,false_or→yck,true_and→ycl,true_or→ycu
open Classical renaming byContradiction→y0m,propDecidable→y6t
open False renaming elim→y1h
open ForInStep renaming yield→y12
open Function renaming comp→y9b
open Iff renaming rfl→yb1
open Int renaming toNat_natCast→yq,emod_lt_of_pos→y0s,emod_nonneg→y1w,natCast_add→y2h,le_refl→y8x,ofNat_lt→yaf
open Int.ofNat renaming inj→y3t
open List renaming length_map→y3,getElem?_eq_getElem→y4,mem_singleton→yb,getD_eq_getElem?_getD→yd,size_toArray→yj,mem_map→yk,length_cons→yl,mem_cons_of_mem→ym,length_take→yn,getElem?_append_right→yp,mem_cons_self→yu,getElem?_append_left→yv,getElem?_eq_some_iff→yw,mem_append_right→yz,mem_append→x0,length_append→xa,getElem?_map→xc,mem_cons→xf,take_of_length_le→xg,map_append→xh,take_add_one→xj,replicate→xk,map_cons→xm,map_map→xx,filter_cons→xz,mem_append_left→gr,take_append_drop→gu,filter_append→gz,mem_of_getElem?→v6,pairwise_map→v7,range→v8,getElem_of_mem→vc,mem_of_mem_take→vd,length_drop→vj,take_length→vk,length_nil→vm,length_eq_zero_iff→vo,mem_range→vq,getElem_mem→u0,map_inj_right→ua,length_singleton→ub,replicate_succ→ue,mem_filter→ug,nodup_cons→uh,cons_lt_cons_iff→ul,filter_nil→um,length_filter_le→uo,mem_nil_iff→y01,getElem?_eq_none→y04,idxOf_lt_length_iff→y05,length_erase_of_mem→y06,append_nil→y0a,not_lt→y0b,mem_of_mem_drop→y0i,length_range→y0k,not_lt_nil→y0q,pairwise_cons→y0u,append_assoc→y0x,find?_cons→y14,getElem?_range→y15,map_eq_nil_iff→y17,range_succ→y19,length_pos_of_mem→y1d,concat_eq_append→y1k,eq_nil_or_concat→y1l,getElem_idxOf→y1m,perm_append_comm→y1n,flatten_cons→y1x,forIn_cons→y1y,ext_getElem?→y2p,map_drop→y2q,map_take→y2r,nodup_append→y2s,mem_erase_of_ne→y2x,drop_zero→y31,lt_irrefl→y32,nodup_nil→y33,pairwise_iff_getElem→y34,le_antisymm→y3b,mem_flatMap→y3c,perm_middle→y3d,filterMap_cons→y3f,map_congr_left→y3g,eq_of_mem_replicate→y3j,getElem?_take_of_lt→y3k,map_nil→y3l,any_cons→y3u,foldl_cons→y3v,length_set→y3w,mem_filterMap→y3x,nil_append→y3y,not_of_lt_findIdx→y4a,lookup→y4g,getElem?_toArray→y4p,all_eq_true→y52,any_eq_true→y53,append_inj'→y54,nil_lt_cons→y55,take_append_of_le_length→y56,length_eraseIdx_of_lt→y5w,perm_ext_iff_of_nodup→y5x,drop_eq_getElem_cons→y69,flatMap_cons→y6g,getElem?_cons_succ→y6v,lt_trans→y6w,pairwise_mergeSort→y6x,pairwise_singleton→y6y,sum_cons→y6z,cons_append→y7c,lookup_cons→y7d,getElem?_set_self→y7i,pairwise_lt_range→y7j,count_cons_of_ne→y7u,getElem?_zipWith→y7v,length_replicate→y7w,of_mem_zip→y7x,count_cons_self→y8i,getElem?_set_ne→y8j,pairwise_append→y8k,forIn_nil→y8q,filter_eq_self→y8z,length→y90,length_zipWith→y91,lt_of_le_of_lt→y92,mergeSort_perm→y93,range'→y94,filterMap_map→y9c,getElem?_drop→y9d,zip_cons_cons→y9e,Nodup→y9u,foldl→y9v,getElem_take→y9w,take_sublist→y9x,zipWith→yag,ext_getElem→yao,zipIdx_cons→yap,sum_append→yb2,zipIdx_nil→yb3,all_cons→ycm,perm_nil→yco,any_map→ycx
open List.Pairwise renaming nil→y4f,filter→y5c,of_map→y8h,imp_of_mem→ybw,of_cons→ycw,imp→ye5
open List.Perm renaming refl→ux,swap→y30,eq_of_pairwise→y3i,append_left→y4o,cons→ybh
open List.Sublist renaming refl→ye6
open List.cons renaming inj→ycn
open Nat renaming le_refl→yg,ne_of_lt→xt,lt_of_lt_of_le→ge,le_trans→gj,zero_le→gm,min_eq_left→u5,lt_succ_of_lt→uj,sub_self→uq,le_succ→y0l,le_of_lt→y0r,lt_succ_self→y1i,ne_of_gt→y27,le_of_ble_eq_true→y2i,lt_irrefl→y2t,sub_zero→y4q,mod_lt→y5l,succ_mul→y5z,succ_pos→y60,add_lt_add_iff_right→y6h,lt_trichotomy→y6i,add_comm→y7y,ble_eq_true_of_le→y7z,mul_le_mul_right→y8l,mul_le_mul→y8r,le_of_lt_succ→y9y,le_of_not_lt→yaq,ble→yb4,add_zero→ycy,le_of_eq→ycz,min_self→yd0,mul_comm→yd1,pow_succ→yd2,not_lt→ye7
open Ne renaming symm→y57
open Option renaming map_eq_some_iff→y1e,map_some→y2j,getD_some→y3e,isSome_iff_exists→y3m,isSome_map→ya1,getD_none→yar,map→ye8
open Option.some renaming inj→gf
open Or renaming inl→y7e,inr→ydz
open Prod renaming fst→ye1
open Prod.mk renaming injEq→ycq
open PyProof.Rows renaming boot_tuple→xq,boot_sorted→xu,boot_isinstance→gg,boot_list→va,callWith_type1→ur,boot_min→y07,slot_tuple_getitem→y1z,IntsAre→y2f,entry_list_sort→y2m,args_list_sort→y38,slot_list_sort→y3a,slot_tuple_getitem→y47,boot_bool→y4b,boot_int→y4r,boot_max→y4s,boot_sum→y4t,callWith_builtin1→y4u,args_sorted1→y4x,entry_sorted→y4y,plain_sorted→y4z,kind_sorted→y5r,AllBare→y68,sortedHeap_old→y6d,listUpdate_at→y75,sortedHeap_at→y76,subscriptTail_builtinR→y7n,boot_str→y82,list_sort_tree→y8t,entry_tuple_getitem→y95,args_tuple_getitem→y9n,tupleItemsOf_→y9p,listItems_at→yal,get?_update_seq→yb9,seqEpoch_at→yba,slicePart_none→ybv,Subscript_→ycc,intBits_le→ycd,size_push'→yce,boot_abs→yd3,lt_int→ydi,lt_str→ydj,StrsAre→ydu
open PyProof.Rows.F renaming plain_set_update_loop→uy,entry_set_update_loop→y36
open PyProof.Rows.KeyOrd renaming kle_refl→y13,kle_of_klt→y4e,kle_trans→y51,kle_antisymm→y8y
open PySem renaming wpAny_bind→y0,wpAny_pure→y8,Shared→ye,Program→yy,FuncData→xi,boot_len→xn,sizeLine_eq→xo,wpAny_call_entry→xw,wpAny_callSpecial?_slot→gp,Around→gw,wpAny_newObj_type→v9,wpAny_holding→vg,SetTable→vp,wpAny_setField_rec→vx,wpAny_setState_of→u9,wpAny_seqItems→y00,Spec→y08,codeAny_builtin→y0d,wpAny_Call_Name_kw→y0e,wpAny_field→y0f,wpAny_of_eq→y0g,IsTupleKey→y0t,wpAny_typeNameOfWhole_keyiter→y0v,wpAny_mono→y10,mem_of_lookup→y1b,wpAny_setEntries_of→y1c,wpAny_newList→y1o,wpAny_fieldsOf→y1q,wpAny_pyIter_slot→y24,wpAny_typeNameOf_keyiter→y26,wpAny_typeOf→y28,wpAny_attempt→y29,wpAny_isInstance→y2c,wpAny_loadPart'→y2n,plainId_quiet→y2u,isSubtype_type→y39,codeAny_mono→y3p,DictEntry→y3s,tupleKind_room_in1→y48,wpAny_passesOwn→y49,call_meets→y4h,wpAny_dictEntries→y4i,wpAny_rule→y4j,wpAny_storeSet_of→y4k,wpAny_truthy_bool→y4l,wpAny_runValue→y4n,wpAny_isOneOf_keyiter→y50,wpAny_forIn_list→y59,IsPair→y5b,wpAny_updateSeq_pair→y5d,wpAny_specialOf→y5s,wpAny_updateSeq→y5t,NameKind→y5y,wpAny_eqBool_tuple→y66,wpAny_pyIter_tuple→y67,isSubtype_stop→y6c,wpAny_setField→y6e,wpAny_comprehension_free→y6p,wpAny_pyIter_list→y6q,BindsTo→y6r,GenState→y6u,Builtin→y71,strKind→y74,wpAny_handled→y77,wpAny_onRaise→y78,noFill_tuple_add→y7g,wpAny_askSetting→y7h,wpAny_Call_method_late→y7o,Keyword→y7t,builtinLookup_eq_fast→y85,wpAny_dictEpoch→y86,wpAny_eqIsQuiet_tuple→y87,wpAny_execs_nil→y88,wpAny_isSame_ref_self→y89,call→y8a,intKind_is→y8d,codeAny_extend_loopS→y8n,IsPart→y8p,wpAny_newTuple→y8u,wpAny_letGo→y96,wpAny_throw→y97,Fin→y9f,seq_tuple_add→y9o,wpAny_standAt→y9q,slot_list_getitem→ya7,wpAny_assign_Name→ya8,wpAny_load→ya9,wpAny_sequenceKey→yaa,wpAny_setEpoch_of→yab,Within→yai,call_meetsIn→yaj,concat_meets→yak,wpAny_Dict_empty→yau,wpAny_execs_cons→yav,wpAny_pyIter_zip→yaw,Result→yb6,codeAny_of_tree→yb8,size_of_entries→ybb,typeLookup_type→ybc,entryFor_alias→ybu,PlainAttrs→ybx,typeIs_int→ycf,typeIs_str→ycg,wpAny_Name→ych,wpAny_call→yci,ItemsOf→yde,DefRec→ydx,Params→ye0
open PySem.Around renaming under_plainId→y0h,under→yac
open PySem.Builtin renaming sorted→y2a
open PySem.Builtin.Dict renaming showsAll→y7p,dictSlotNone→ybe,pendingCount→ybf
open PySem.Builtin.Dict_items renaming ownsTuple→y5f
open PySem.Builtin.Frozenset renaming updateFrom→y5g,sizeOf→y6f,newClass→ybd
open PySem.Builtin.Int renaming intBits→y11,intTooBig→y7q
open PySem.Builtin.List renaming listExtendWith→uk,listSameRef→y1t,listTooLong→y1u,listLengthHint→y5m
open PySem.Builtin.Range renaming rangeSize→y6s
open PySem.Builtin.Slice renaming slicePlaces→y1p,sliceAdjust→y2y,sliceApplied→y5u,slicePartIndex→yax,sliceFields→ybg
open PySem.Builtin.SmallTypes renaming nextOf→ve,ownedTupleIsFree→y02,ownedTupleHandOut→y2z
open PySem.Builtin.Str renaming tooLong→ydb
open PySem.Builtin.Tuple renaming tupleExact→y1v,tupleItemsOf→y2v,tupleCompareSizes→y9r
open PySem.Calls renaming call_function_entry→ui,callWith_builtin→y2e,spliced_cons→y2g,spliced_nil→y2o,evalArgs_plain→y5a,Name_function_global→y5v
open PySem.Challenge renaming rw_lateknow_k62_table→vy,pw_lateknow_k62_table→y8m
open PySem.Code renaming quiet_builtin→y99,builtin→yad,isFrame→yae,isGuard→ycv,frames→ydc
open PySem.EqMixed renaming eq_bool_str→ybi,eq_str_bool→ybj,ne_bool_str→ybk,ne_str_bool→ybl,eq_int_str→ybz,eq_str_int→yc0,ne_int_str→yc1,ne_str_int→yc2
open PySem.EqNone renaming eq_bool_none→ybm,eq_none_bool→ybn,eq_none_none→ybo,ne_bool_none→ybp,ne_none_bool→ybq,ne_none_none→ybr,eq_int_none→yc3,eq_none_int→yc4,eq_none_str→yc5,eq_str_none→yc6,ne_int_none→yc7,ne_none_int→yc8,ne_none_str→yc9,ne_str_none→yca
open PySem.F renaming plainAttrs_list→gn,slot_dict_keyiterator_next→vv,slot_list_append→u6,type_list_append→u8,called_set→y0c,slot_tuple_iterator_next→y1g,plainAttrs_tuple→y20,slot_tuple_index→y21,type_tuple_index→y22,slot_set_iter→y2k,args_dict_keyiterator_next_1→y37,entry_dict_keyiterator_next→y3h,args_tuple_add_2→y3o,slot_dict_keyiterator_iter→y3q,entry_tuple_add→y41,slot_list_index→y42,type_list_index→y43,slot_tuple_add→y4c,plain_list_iadd→y4d,slot_dict_get→y4v,slot_dict_len→y4w,args_tuple_iterator_next_1→y5h,entry_tuple_iterator_next→y5n,slot_zip_next→y5o,args_dict_get_3→y72,args_set_iter_1→y73,entry_dict_get→y7k,slot_dict_iter→y7l,entry_proto_collect→y7r,plain_proto_collect→y7s,plain_set_new→y83,args_tuple_index_2→y8f,entry_tuple_index→y8v,plain_extend_loop→y8w,slot_tuple_index→y9a,args_zip_next_1→y9s,entry_list_iadd→y9t,entry_zip_next→yan,slot_int_rmul→yaz
open PySem.Heap renaming get?_push_of_some→yc,get?_push_size→yi,lt_size→yt,size_push→vf,get?_update_self→vw,SameBut→uv,get?_update_other→uw,size_update→y7b,get?_none_of_le→y8g,ExtBut→yb0
open PySem.Heap.DictOf renaming new→yeb
open PySem.Heap.IsSliceOf renaming new→ydy
open PySem.Heap.SameBut renaming update→y03
open PySem.IsRange renaming new→ydd
open PySem.ItemsOf renaming nil→ydf
open PySem.Moved renaming trans→ydg
open PySem.NameKind renaming free→y70
open PySem.Obj renaming mapSeq→vn,data_mapFields→y3z,isFreed_of_fields→y80,cls_mapFields→y9z,putSet→ya0,mapFields→ycp
open PySem.Paired renaming length→y40,snoc→ydh
open PySem.PassesOwn renaming never→vh
open PySem.PyData renaming canLay0→y35,depth→y3n,eqvAll→y5i,canLayAll0→y6j,depthAll→y81,strOk→yah,eqv→yby
open PySem.SeqAt renaming EqAt→y8b
open PySem.SeqAt.EqAt renaming str_str→y45,int_int→y9h,int_str→y9i,str_int→y9j,bool_bool→yd8,bool_none→yd9,none_bool→yda,bool_int→ydl,bool_str→ydm,int_bool→ydn,int_none→ydo,none_int→ydp,none_str→ydq,str_bool→ydr,str_none→yds,same→yec
open PySem.SetTable renaming insertAt→yr,below→yx,runEnd→v5,bits→vt,turns→y0p,leap→y46,Probe→y4m,fill→y5k,has→y64,sizeAbove→y65,layClean→y6m,grown→y8s,fits→y9k,tooFull→yat,put→yd4
open PySem.SetTable.below renaming go→ya5
open PySem.SetTable.layClean renaming free→y0j
open PySem.SetTable.probe renaming go→y6n
open PySem.Shared renaming TypeIs→y9l,heap→ydt
open PySem.Str renaming ofString→uc
open PySem.Value renaming ref→xy,none→ud,type→y1j,int→y2b,bool→y6o,str→y9m,float→yb7,isStrOf_shape→ybs,isInt_shape→ycr,isStrOf→ycs,isStrOf→ydk,bytes→ydv,isInt→ydw,isInt→ye9
open PySem.W renaming Frag→y9,findIn→gc,mg_none_of→vb,fnOf→ut,kia_one→uz,emptyDict→y09,kitOne→y0n,mg_of→y0o,keepIn→y0w,specialIn→y0y,instObj→y1a,takesIn→y44,plainGet→y58,mroIn→y5j,OpenLaw→y5p,plainGet_of→y5q,callWith_K→y61,isFn→y62,nsIn→y63,codeIn→y6a,lookIn→y6b,hasDictIn→y6k,methodObj→y6l,cellsFrom_some→y7m,takerIn→y84,WalkO→y9g,kitx_dict→ya2,kitx_list→ya3,plainOver→ya4,handedIn→yas,makesIn→yb5
open PySem.W.Looks renaming here→ye2
open PySem.W.WData renaming layableAll→ycb,weight→yd7
open PySem.Within renaming cons→yea
open PySem.pickOrder renaming go→yd6
open Std.Legacy renaming Range→y7f
open Std.Legacy.Range renaming forIn_eq_forIn_range'→y8c,size→yd5
open String renaming splitOnAux→ya6,splitOn→ybt
open Sum renaming inl→y23,inr→y2l
open True renaming intro→y0z
local macro_rules | `(tactic| omega) => do
 let f s:=((s:String).splitOn ",").toArray.map λ n=>Lean.mkIdent n.toName
 let a:=f "Nat.zero_le,Nat.le_refl,Nat.le_of_lt,Nat.le_succ,Nat.lt_succ_self,Nat.le_trans,Nat.lt_of_le_of_lt,Nat.lt_of_lt_of_le,Eq.symm,Eq.trans,Nat.le_of_eq,Nat.lt_of_lt_of_eq,Nat.lt_of_eq_of_lt,Nat.ne_of_lt,Nat.ne_of_gt,Int.le_of_lt,Int.le_refl"
 `(tactic|first|(with_reducible first|assumption $[|(apply $a<;>first|assumption|decide|exact Eq.symm (by assumption))]*)|decide|lia|omega +splitDisjunctions)
local macro_rules | `(tactic| walk_at "s") => `(tactic| exact ⟨rfl,rfl,rfl,by decide +kernel,rfl,by decide +kernel,by decide +kernel⟩)
namespace L2
open PySem PySem.Spec PyProof.Rows
abbrev Key:=Sum Int Str
def jjm:Key->Value->Bool
 | .inl k,v=>ydw k v
 | .inr x,v=>ycs x v
def keyH(w:World):Key->Int
 | .inl k=>hashInt k
 | .inr x=>hashStr w x
theorem j0v:∀{k:Key}{v:Value},jjm k v=true->(∃i t,k=y23 i/\v=y2b i t)\/(∃x t,k=y2l x/\v=y9m x t)
 | .inl i,v,h=>by
  obtain⟨t,e⟩:=Value.isInt_shape (k:=i) (v:=v) h;exact .inl ⟨i,t,rfl,e⟩
 | .inr x,v,h=>by
  obtain⟨t,e⟩:=Value.isStrOf_shape (x:=x) (v:=v) h;exact .inr ⟨x,t,rfl,e⟩
theorem jdr(i:Int)(t:Tok):jjm (.inl i) (.int i t)=true:=by simp[jjm,ydw]
theorem jds(x:Str)(t:Tok):jjm (.inr x) (.str x t)=true:=by simp[jjm,ycs]
theorem key_ll(a b:Int):decide ((y23 a:Key)=y23 b)=(a==b):=by
 by_cases e:a=b
 ·subst e;simp
 ·have h:¬ (y23 a:Key)=y23 b:=λq=>e (Sum.inl.inj q);rw[decide_eq_false h];exact(beq_eq_false_iff_ne.mpr e).symm
theorem key_rr(a b:Str):decide ((y2l a:Key)=y2l b)=decide (a=b):=by
 by_cases e:a=b
 ·subst e;simp
 ·have h:¬ (y2l a:Key)=y2l b:=λq=>e (Sum.inr.inj q);rw[decide_eq_false h,decide_eq_false e]
theorem key_lr(a:Int)(b:Str):decide ((y23 a:Key)=y2l b)=false:=decide_eq_false (λq=>nomatch q)
theorem key_rl(a:Str)(b:Int):decide ((y2l a:Key)=y23 b)=false:=decide_eq_false (λq=>nomatch q)
def j0h(prog:yy)(w:World):PySem.KeyKind prog w Key where
 is:=jjm
 hash:=keyH w
 inj:=λv a b ha hb=>by
  rcases j0v ha with⟨i,t,rfl,rfl⟩|⟨x,t,rfl,rfl⟩
  ·rcases j0v hb with⟨j,u,rfl,e⟩|⟨y,u,rfl,e⟩
   ·injection e with e1 _;rw[e1]
   ·exact nomatch e
  ·rcases j0v hb with⟨j,u,rfl,e⟩|⟨y,u,rfl,e⟩
   ·exact nomatch e
   ·injection e with e1 _;rw[e1]
 byValue:=λk v h=>by
  rcases j0v h with⟨i,t,rfl,rfl⟩|⟨x,t,rfl,rfl⟩<;>rfl
 pyHash:=λhv h=>by
  rcases j0v hv with⟨i,t,rfl,rfl⟩|⟨x,t,rfl,rfl⟩
  ·exact wpAny_pyHash_int h
  ·exact wpAny_pyHash_str h
 eqBool:=λhu hv h=>by
  rcases j0v hu with⟨i,t,rfl,rfl⟩|⟨x,t,rfl,rfl⟩
  ·rcases j0v hv with⟨j,u,rfl,rfl⟩|⟨y,u,rfl,rfl⟩
   ·rw[key_ll]at h;exact wpAny_eqBool_int h
   ·rw[key_lr]at h;exact y9i i t y u _ _ _ _ h
  ·rcases j0v hv with⟨j,u,rfl,rfl⟩|⟨y,u,rfl,rfl⟩
   ·rw[key_rl]at h;exact y9j x t j u _ _ _ _ h
   ·rw[key_rr]at h;exact wpAny_eqBool_str h
 «strs»:=λk x t v h=>by
  rcases j0v h with⟨i,u,rfl,e⟩|⟨y,u,rfl,e⟩
  ·exact nomatch e
  ·injection e with e1 _;subst e1;cases v<;>rfl
theorem j1y(prog:yy)(w:World)(i:Int)(t:Tok):(j0h prog w).is (.inl i) (.int i t)=true:=jdr i t
theorem j1z(prog:yy)(w:World)(x:Str)(t:Tok):(j0h prog w).is (.inr x) (.str x t)=true:=jds x t
inductive V where
 |non|bl (b:Bool)|int (i:Int)|str (x:Str)|byt (b:Array UInt8)|flt (b:UInt64)|ref (a:Addr)|ty (n:String)
 deriving DecidableEq
def RelV:V->Value->Prop
 | .non,u=>u=ud
 | .bl b,u=>u=y6o b
 | .int i,u=>∃t,u=y2b i t
 | .str x,u=>∃t,u=y9m x t
 | .byt b,u=>∃t,u=ydv b t
 | .flt b,u=>∃t,u=yb7 b t
 | .ref a,u=>u=xy a
 | .ty n,u=>u=y1j n
abbrev Vals:List V->List Value->Prop:=Paired RelV
theorem Vals.length{xs:List V}{us:List Value}(r:Vals xs us):xs.length=us.length:=y40 r
theorem Vals.get:∀{xs:List V}{us:List Value}{i:Nat}{x:V},Vals xs us->xs[i]?=some x->∃u,us[i]?=some u/\RelV x u
 |_,_,_,_,.nil,e=>by simp at e
 |_,_,0,_,.cons r _,e=>by simp at e;subst e;exact⟨_,rfl,r⟩
 |_,_,i+1,x,.cons _ t,e=>by
  obtain⟨u,h1,h2⟩:=Vals.get (i:=i) (x:=x) t (by simpa using e);exact⟨u,by simpa using h1,h2⟩
theorem Vals.append:∀{xs ys:List V}{us ws:List Value},Vals xs us->Vals ys ws->Vals (xs++ys) (us++ws)
 |_,_,_,_,.nil,s=>s
 |_,_,_,_,.cons r t,s=>.cons r (Vals.append t s)
theorem Vals.take:∀{xs:List V}{us:List Value} (n:Nat),Vals xs us->Vals (xs.take n) (us.take n)
 |_,_,0,_=>.nil
 |_,_,_+1,.nil=>.nil
 |_,_,n+1,.cons r t=>.cons r (Vals.take n t)
theorem Vals.drop:∀{xs:List V}{us:List Value} (n:Nat),Vals xs us->Vals (xs.drop n) (us.drop n)
 |_,_,0,r=>r
 |_,_,_+1,.nil=>.nil
 |_,_,n+1,.cons _ t=>Vals.drop n t
def RelO:Option V->Option Value->Prop
 |some v,some u=>RelV v u
 |none,none=>True
 |_,_=>False
def KV{κ:Type}:List (κ×V)->List (κ×Value)->Prop:=Paired λ(p:κ×V) (q:κ×Value)=>p.1=q.1/\RelV p.2 q.2
def kV:Key->V
 | .inl i=>.int i
 | .inr x=>.str x
def TupN(h:Heap)(a:Addr)(xs:Array Value):Prop:=IsTup h a xs/\∃o,h.get? a=some o/\o.dict=none
theorem TupN.new(h:Heap)(xs:Array Value):TupN (h.push {cls:=.type "tuple",data:=.seq xs}) h.objs.size xs:=⟨IsTup.new _ _,_,yi _ rfl,rfl⟩
inductive HO where
  |lst (xs:List V)
  |tup (xs:List V)
  |dK (kvs:List (Key×V))|dT (kvs:List (List Key×V))
  |set (S:Int->Bool) (n:Nat)
  |ins (C dx:Addr) (fs:List (Str×V))
  |own (x:Addr)
  |xd (fs:List (Str×V))
  |met (f x:Addr)
  |rng (lo hi:Int)
  |frz (o:Obj) (u:HO)
  |tbl (ps:Array Value)
  |ext (φ:Heap->Prop)
abbrev Hp:=Addr->Option HO
def upd(H:Hp)(a:Addr)(o:HO):Hp:=λb=>if b=a then some o else H b
variable{H:Hp}{a:Addr}{o:HO}
theorem j07:upd H a o a=some o:=by unfold upd;rw[if_pos rfl]
variable{b:Addr}
theorem j0i(h:b≠a):upd H a o b=H b:=by unfold upd;rw[if_neg h]
theorem jfs{u:HO}:upd (upd H a o) a u=upd H a u:=by
 funext b;unfold upd;split<;>rfl
theorem jjv{u:HO}(h:H a=some o)(h':H b=some u)(d:o≠u):a≠b:=by
 intro e;subst e;rw[h]at h';exact d (gf h')
theorem j08(h:H a=some o)(h':H b=none):a≠b:=by
 intro e;subst e;rw[h]at h';cases h'
section
variable(P:yy)(w:World)
def ObjOk(H:Hp)(h:Heap)(a:Addr):HO->Prop
 | .lst xs=>xs.length<=sizeLine/\∃(its:List Value) (n:Nat),Vals xs its/\h.get? a=some {cls:=.type "list",data:=.seq its.toArray n}
 | .tup xs=>xs.length<=sizeLine/\∃its:List Value,Vals xs its/\TupN h a its.toArray
 | .dK kvs=>kvs.length<=sizeLine/\(a==sysModules)=false/\∃vs,KV kvs vs/\h.DictOf (j0h P w) a vs
 | .dT kvs=>kvs.length<=sizeLine/\(a==sysModules)=false/\∃xs:List (List Key×Addr×Value),
   Paired (λ(p:List Key×V) (q:List Key×Addr×Value)=>p.1=q.1/\H q.2.1=some (.tup (p.1.map kV))/\RelV p.2 q.2.2) kvs xs/\
   ∃o es ep,h.get? a=some o/\o.ExactDict/\o.data=.dict es ep/\es.toList=xs.map (entryOfKey (tupleKind (j0h P w)))/\(xs.map (·.1)).Nodup
 | .set S n=>h.SetOf (intKind P w) a S n
 | .ins C dx fs=>H dx=some (.own a)/\fs.length<=1000/\dx≠a/\h.get? a=some (y1a C dx)/\
   ∃mA,h.Ns1 dx mA/\(∀f,RelO (fs.lookup f) (mA f))/\yai mA (fs.map (·.1))
 | .own _=>∃o,h.get? a=some o
 | .xd fs=>∃mA,h.Ns1 a mA/\∀f,RelO (fs.lookup f) (mA f)
 | .rng lo hi=>∃t u v,h.get? a=some {cls:=.type "range",data:=.fields #[.int lo t,.int hi u,.int 1 v]}
 | .frz o u=>h.get? a=some o/\ObjOk H h a u
 | .tbl ps=>h.get? a=some {cls:=.none,data:=.fields ps}
 | .met f x=>h.get? a=some (y6l (.ref f) (.ref x))
 | .ext φ=>φ h/\(∃o,h.get? a=some o)/\∀h1 h2:Heap,φ h1->(∀o,h1.get? a=some o->h2.get? a=some o)->φ h2
def HOk(H:Hp)(h:Heap):Prop:=∀a o,H a=some o->ObjOk P w H h a o
end
section
variable{P:yy}{w:World}{H H':Hp}{h h':Heap}{a:Addr}{o:HO}
theorem ObjOk.lt(x:ObjOk P w H h a o):a<h.objs.size:=by
 cases o with
 |lst xs=>obtain⟨_,_,_,_,e⟩:=x;exact yt e
 |tup xs=>obtain⟨_,_,_,p⟩:=x;exact p.1.lt
 |dK kvs=>obtain⟨_,_,_,_,o,_,_,e,_⟩:=x;exact yt e
 |dT kvs=>obtain⟨_,_,_,_,o,_,_,e,_⟩:=x;exact yt e
 |set S n=>obtain⟨o,_,_,_,e,_⟩:=x;exact yt e
 |ins C dx fs=>obtain⟨_,_,_,e,_⟩:=x;exact yt e
 |own y=>obtain⟨_,e⟩:=x;exact yt e
 |xd fs=>obtain⟨_,⟨_,_,_,e,_⟩,_⟩:=x;exact yt e
 |rng lo hi=>obtain⟨_,_,_,e⟩:=x;exact yt e
 |frz ob u=>obtain⟨e,_⟩:=x;exact yt e
 |tbl ps=>exact yt (show h.get? a=some _ from x)
 |met f y=>exact yt (show h.get? a=some _ from x)
 |ext φ=>obtain⟨_,⟨_,e⟩,_⟩:=x;exact yt e
theorem Paired.mapP{α β:Type}{F G:α->β->Prop}:∀{l₁:List α}{l₂:List β},Paired F l₁ l₂->(∀a b,F a b->G a b)->Paired G l₁ l₂
 |_,_,.nil,_=>.nil
 |_,_,.cons r t,f=>.cons (f _ _ r) (Paired.mapP t f)
theorem ObjOk.stay(x:ObjOk P w H h a o)(k:∀b u,(b=a\/H b=some (.own a))->h.get? b=some u->h'.get? b=some u)
  (ho:∀b,H b=some (.own a)->H' b=some (.own a)) (ht:∀b xs,H b=some (.tup xs)->H' b=some (.tup xs)):ObjOk P w H' h' a o:=by
 induction o with
 |lst xs=>obtain⟨z,its,n,r,e⟩:=x;exact⟨z,its,n,r,k _ _ (.inl rfl) e⟩
 |tup xs=>obtain⟨z,its,r,⟨ob,e,c⟩,od,f,d⟩:=x;exact⟨z,its,r,⟨ob,k _ _ (.inl rfl) e,c⟩,od,k _ _ (.inl rfl) f,d⟩
 |dK kvs=>obtain⟨z,y,vs,r,ob,es,ep,e,c⟩:=x;exact⟨z,y,vs,r,ob,es,ep,k _ _ (.inl rfl) e,c⟩
 |dT kvs=>
  obtain⟨z,y,xs,r,ob,es,ep,e,c⟩:=x;exact⟨z,y,xs,Paired.mapP r λp q z=>⟨z.1,ht _ _ z.2.1,z.2.2⟩,ob,es,ep,k _ _ (.inl rfl) e,c⟩
 |set S n=>obtain⟨ob,es,ep,t,e,c⟩:=x;exact⟨ob,es,ep,t,k _ _ (.inl rfl) e,c⟩
 |ins C dx fs=>
  obtain⟨d,z,ne,e,mA,⟨od,es,ep,e2,c⟩,r⟩:=x;exact⟨ho _ d,z,ne,k _ _ (.inl rfl) e,mA,⟨od,es,ep,k _ _ (.inr d) e2,c⟩,r⟩
 |own y=>obtain⟨ob,e⟩:=x;exact⟨ob,k _ _ (.inl rfl) e⟩
 |xd fs=>obtain⟨mA,⟨od,es,ep,e,c⟩,r⟩:=x;exact⟨mA,⟨od,es,ep,k _ _ (.inl rfl) e,c⟩,r⟩
 |rng lo hi=>obtain⟨t,u,v,e⟩:=x;exact⟨t,u,v,k _ _ (.inl rfl) e⟩
 |frz ob u ih=>obtain⟨e,q⟩:=x;exact⟨k _ _ (.inl rfl) e,ih q⟩
 |tbl ps=>
  have e:h.get? a=some {cls:=.none,data:=.fields ps}:=x;show h'.get? a=some {cls:=.none,data:=.fields ps};exact k a _ (.inl rfl) e
 |met f y=>
  have e:h.get? a=some (y6l (.ref f) (.ref y)):=x;show h'.get? a=some (y6l (.ref f) (.ref y));exact k a _ (.inl rfl) e
 |ext φ=>obtain⟨p,⟨o,e⟩,st⟩:=x;exact⟨st _ _ p λo q=>k _ _ (.inl rfl) q,⟨o,k _ _ (.inl rfl) e⟩,st⟩
theorem HOk.lt(x:HOk P w H h)(e:H a=some o):a<h.objs.size:=(x a o e).lt
theorem HOk.fresh(x:HOk P w H h)(e:h.objs.size<=a):H a=none:=by
 cases q:H a with
 |none=>rfl
 |some u=>exact absurd (ge (x.lt q) e) (y2t _)
theorem HOk.kept(x:HOk P w H h)(k:∀b u,h.get? b=some u->h'.get? b=some u):HOk P w H h':=λa o e=>
 (x a o e).stay (λb u _ q=>k b u q) (λ_ q=>q) λ_ _ q=>q
theorem HOk.laid(x:HOk P w H h)(k:∀b u,h.get? b=some u->h'.get? b=some u)(hp:h.objs.size<=a)(new:ObjOk P w (upd H a o) h' a o):HOk P w (upd H a o) h':=λb u e=>by
 have hn:=x.fresh hp;by_cases hb:b=a
 ·subst hb;rw[j07]at e;cases e;exact new
 ·rw[j0i hb]at e;exact(x b u e).stay (λc v _ q=>k c v q) (λc q=>by rw[j0i (j08 q hn)];exact q) λc xs q=>by rw[j0i (j08 q hn)];exact q
end
def Rd(H:Hp)(a:Addr)(u:HO):Prop:=H a=some u\/∃o,H a=some (.frz o u)
variable{P:yy}{w:World}{h:Heap}
theorem Rd.ok{u:HO}(r:Rd H a u)(x:HOk P w H h):ObjOk P w H h a u:=by
 rcases r with r|⟨o,r⟩
 ·exact x a u r
 ·obtain⟨_,q⟩:=x a _ r;exact q
def Mut:Option HO->Prop
 |some (.lst _)=>True
 |some (.dK _)=>True
 |some (.dT _)=>True
 |some (.set _ _)=>True
 |some (.ins _ _ _)=>True
 |some (.ext _)=>True
 |_=>False
section
variable{P:yy}{w:World}{H:Hp}{h h':Heap}{x e:Addr}{o':HO}
theorem HOk.write(ok:HOk P w H h)(mu:Mut (H x))(he:e=x\/H e=some (.own x))(k:∀b u,b≠e->h.get? b=some u->h'.get? b=some u)(heo:∃u,h'.get? e=some u)
  (new:ObjOk P w (upd H x o') h' x o'):HOk P w (upd H x o') h':=λb u q=>by
 have nown:∀c y,H c=some (.own y)->c≠x:=λc y r z=>by subst z;rw[r]at mu;exact mu
 have ntup:∀c xs,H c=some (.tup xs)->c≠x:=λc xs r z=>by subst z;rw[r]at mu;exact mu
 by_cases hb:b=x
 ·subst hb;rw[j07]at q;cases q;exact new
 ·rw[j0i hb]at q;by_cases hbe:b=e
  ·have q':H b=some (.own x):=by
    rcases he with z|z
    ·exact absurd (hbe.trans z) hb
    ·rw[hbe];exact z
   rw[q]at q';cases q';obtain⟨v,hv⟩:=heo;exact⟨v,by rw[hbe];exact hv⟩
  ·refine(ok b u q).stay (λc v hc r=>k c v ?_ r) (λc r=>by rw[j0i (nown c b r)];exact r) λc xs r=>by rw[j0i (ntup c xs r)];exact r
   rcases hc with rfl|hc
   ·exact hbe
   ·rintro rfl;rcases he with z|z
    ·exact nown c b hc z
    ·rw[hc]at z;cases z;exact hb rfl
end
structure Un(fs ex:List Addr)(H H':Hp)(h h':Heap):Prop where
 keep:∀b o,h.get? b=some o->H b=none->b∉fs->b∉ex->h'.get? b=some o
 slot:∀b o,h.get? b=some o->H b=none->b∈fs->b∉ex->∃sl,h'.get? b=some {o with slots:=sl}
 free:∀b o,h.get? b=some o->H b=none->b∉ex->H' b=none
 there:∀b o,h.get? b=some o->b∉ex->∃o',h'.get? b=some o'
 tups:∀b xs,H b=some (.tup xs)->H' b=some (.tup xs)
 frzs:∀b o u,H b=some (.frz o u)->H' b=some (.frz o u)
 tbls:∀b ps,H b=some (.tbl ps)->∃more,H' b=some (.tbl (ps++more))
section
variable{fs fs' ex ex':List Addr}{H H1 H2:Hp}{h h1 h2 h':Heap}{a x e:Addr}{o:HO}
theorem Un.any(u:Un fs ex H H1 h h1){ob:Obj}(q:h.get? b=some ob)(n:H b=none)(hx:b∉ex):∃sl,h1.get? b=some {ob with slots:=sl}:=by
 by_cases hb:b∈fs
 ·exact u.slot b ob q n hb hx
 ·exact⟨ob.slots,u.keep b ob q n hb hx⟩
theorem Un.kept(k:∀b u,h.get? b=some u->h'.get? b=some u):Un fs ex H H h h':=
 ⟨λb ob q _ _ _=>k b ob q,λb ob q _ _ _=>⟨ob.slots,k b ob q⟩,λ_ _ _ n _=>n,λb ob q _=>⟨ob,k b ob q⟩,λ_ _ q=>q,λ_ _ _ q=>q,λ_ ps q=>⟨#[],by rw[q];simp⟩⟩
theorem Un.refl:Un fs ex H H h h:=Un.kept λ_ _ q=>q
theorem Un.laid(k:∀b u,h.get? b=some u->h'.get? b=some u)(hp:h.objs.size<=a)(hn:H a=none):Un fs ex H (upd H a o) h h' where
 keep:=λb u q _ _ _=>k b u q
 slot:=λb u q _ _ _=>⟨u.slots,k b u q⟩
 free:=λb u q n _=>by rw[j0i (xt (ge (yt q) hp))];exact n
 there:=λb u q _=>⟨u,k b u q⟩
 tups:=λb xs q=>by rw[j0i (j08 q hn)];exact q
 frzs:=λb u xs q=>by rw[j0i (j08 q hn)];exact q
 tbls:=λb ps q=>⟨#[],by rw[j0i (j08 q hn),q];simp⟩
theorem Un.write(mu:Mut (H x))(he:e=x\/H e=some (.own x))(k:∀b u,b≠e->h.get? b=some u->h'.get? b=some u)(heo:∃u,h'.get? e=some u):Un fs ex H (upd H x o) h h':=by
 have hx:∀b,H b=none->b≠x:=λb n z=>by subst z;rw[n]at mu;exact mu
 have hb:∀b,H b=none->b≠e:=λb n z=>by
  subst z;rcases he with r|r
  ·exact hx b n r
  ·rw[n]at r;cases r
 have hm:∀b u,H b=some u->¬ Mut (some u)->b≠x:=λb u q nm z=>by subst z;rw[q]at mu;exact nm mu
 refine⟨λb u q n _ _=>k b u (hb b n) q,λb u q n _ _=>⟨u.slots,k b u (hb b n) q⟩,λb u q n _=>by rw[j0i (hx b n)];exact n,λb u q _=>?_,
  λb xs q=>by rw[j0i (hm b _ q λz=>z)];exact q,λb u xs q=>by rw[j0i (hm b _ q λz=>z)];exact q,λb ps q=>⟨#[],by rw[j0i (hm b _ q λz=>z),q];simp⟩⟩
 by_cases hbe:b=e
 ·subst hbe;exact heo
 ·exact⟨u,k b u hbe q⟩
end
def trk(h:Heap)(H:Hp):List Addr:=(v8 h.objs.size).filter λa=>(H a).isSome
def hidT(h:Heap)(H:Hp):Heap:=PySem.W.hideAll h (trk h H)
theorem jdt(h:Heap)(H:Hp):(hidT h H).objs.size=h.objs.size:=PySem.W.hideAll_size _ _
theorem jh4{o:Obj}(e:h.get? b=some o)(n:H b=none):(hidT h H).get? b=some o:=
 PySem.W.hideAll_get _ e λhm=>by
  have q:(H b).isSome=true:=(ug.mp hm).2;rw[n]at q;simp at q
theorem jjw{h:Heap}{H:Hp}{b:Addr}{o:Obj}(e:(hidT h H).get? b=some o):h.get? b=some o/\H b=none:=by
 have e':h.get? b=some o:=PySem.W.of_hideAll (trk h H) e;refine⟨e',?_⟩;cases q:H b with
 |none=>rfl
 |some x=>
  have hm:b∈trk h H:=ug.mpr ⟨vq.mpr (yt e'),by simp[q]⟩;have z:(hidT h H).get? b=none:=PySem.W.hideAll_none (trk h H) hm;rw[z]at e;cases e
def jjx(g h:Heap)(L:Addr):List (Addr×Obj):=(v8 h.objs.size).filterMap λa=>if a=L\/(g.get? a).isSome=true then none else(h.get? a).map λo=>(a,o)
def rest(g h:Heap)(L d:Addr):List (Addr×Obj):=(jjx g h L).filter λp=>decide (p.1≠d)
structure Mod(K:y9)(mg:Str->Option Value)(base:Heap):Prop where
 kin:K.In base
 glob:base.Ns mainGlobals mg
 blt:∃mb,base.Ns builtinsNs mb/\∀x:Str,x≠"__name__"->mb x=bootBuiltins x
 nolimit:base.NoLimit
 bmain:∃bm ob,mg "__builtins__"=some (.ref bm)/\bm≠builtinsNs/\base.get? bm=some ob/\ob.cls=.type "module"/\ob.dict=some builtinsNs/\ob.data=.plain
structure Cx where
 prog:yy
 w:World
 K:y9
 mg:Str->Option Value
 base:Heap
 A:gw
 N:List Str
 s₀:ye
 H₀:Hp
 env:Env
 outer:List Env
 stack:List Env
 ex:List Addr
 fn:Str->Bool
 calm:Bool
 pn:List (Addr×Obj)
 xe:Value->ye->Prop
def frs(l:List Env):List Addr:=l.filterMap (·.frame)
abbrev Cx.fs(X:Cx):List Addr:=frs X.outer
def Vis(sc:Scope)(x:Str):Prop:=sc.names.lookup x=some .local\/sc.names.lookup x=some .cell\/sc.names.lookup x=some .free
def Loc(sc:Scope)(x:Str):Prop:=sc.names.lookup x=some .local\/sc.names.lookup x=some .cell
def Look(env:Env)(h:Heap)(m:Str->Option Value)(x:Str)(u:Value):Prop:=
 (env.kindOf x=some .local/\m x=some u)\/((env.kindOf x=some .cell\/env.kindOf x=some .free)/\∃c,env.cells.lookup x=some c/\h.IsCell c (some u))
structure Cx.Ok(X:Cx):Prop where
 mod:Mod X.K X.mg X.base
 kind:X.env.scope.kind=.function
 glob:X.env.globals=mainGlobals
 blt:X.env.builtins=builtinsNs
 above:X.s₀.heap.objs.size<=X.env.locals
 inj:∀x y c,X.env.cells.lookup x=some c->X.env.cells.lookup y=some c->x=y
 has:∀x,(X.env.kindOf x=some .cell\/X.env.kindOf x=some .free)->∃c,X.env.cells.lookup x=some c
 cab:∀x c,X.fn x=true->X.env.cells.lookup x=some c->X.s₀.heap.objs.size<=c
 hd:X.calm=true->X.A.handled=none
 frames:X.A.frames=some X.stack
 stk:X.stack=X.outer\/(X.stack=X.env::X.outer/\X.env.frame=some X.env.locals)
 exf:∀b∈X.ex,b≠X.env.locals/\∀x c,X.env.cells.lookup x=some c->c≠b
 bs:∀b o,X.base.get? b=some o->X.s₀.heap.get? b=some o/\X.H₀ b=none
 bsz:X.base.objs.size<=X.s₀.heap.objs.size
 noex:∀b o,X.base.get? b=some o->b∉X.ex
 exfs:∀b∈X.ex,b∉X.fs
 funs:X.s₀.heap.FunFrames X.base X.outer
 frf:∀b∈X.fs,X.H₀ b=none
structure Inv(X:Cx)(pins:List (Addr×Obj))(σ:List (Option V))(H:Hp)(s:ye):Prop where
 ok:X.Ok
 os:s.os=X.s₀.os
 bare:y68 s.gens
 base:Un X.fs X.ex X.H₀ H X.s₀.heap s.heap
 loc:∃m,s.heap.Ns X.env.locals m/\∀(i:Nat) (x:Str) (v:V),X.N[i]?=some x->σ[i]?=some (some v)->Vis X.env.scope x->∃u,RelV v u/\Look X.env s.heap m x u
 cell:∀x c,X.env.cells.lookup x=some c->∃v,s.heap.IsCell c v
 free:H X.env.locals=none
 freeC:∀x c,X.env.cells.lookup x=some c->H c=none
 pin:∀p∈X.pn++pins,s.heap.get? p.1=some p.2/\H p.1=none/\p.1≠X.env.locals/\p.1∉X.fs/\∀v,p.2.data≠.cell v
 hok:HOk X.prog X.w H s.heap
 len:σ.length=X.N.length
variable{u:Value}{i:Nat}{x:Str}{v:V}
section
variable{X:Cx}{pins:List (Addr×Obj)}{σ:List (Option V)}{H H':Hp}{s:ye}{h':Heap}
theorem Cx.Ok.nofr(ok:X.Ok){o:Obj}(e:X.base.get? b=some o):b∉X.fs:=λhb=>by
 have:=(ok.funs.mem hb).1;rw[e]at this;cases this
theorem Inv.bs(I:Inv X pins σ H s):∀b o,X.base.get? b=some o->s.heap.get? b=some o/\H b=none:=λb o e=>
 ⟨I.base.keep b o (I.ok.bs b o e).1 (I.ok.bs b o e).2 (I.ok.nofr e) (I.ok.noex b o e),I.base.free b o (I.ok.bs b o e).1 (I.ok.bs b o e).2 (I.ok.noex b o e)⟩
theorem Inv.bk(I:Inv X pins σ H s):∀b o,X.base.get? b=some o->s.heap.get? b=some o:=λb o e=>(I.bs b o e).1
theorem Inv.mod(I:Inv X pins σ H s):Mod X.K X.mg X.base:=I.ok.mod
theorem Inv.kIn(I:Inv X pins σ H s):X.K.In s.heap:=I.ok.mod.kin.keeps I.bk
theorem Inv.lt(I:Inv X pins σ H s):X.env.locals<s.heap.objs.size:=let ⟨_,hn,_⟩:=I.loc;hn.lt
theorem Inv.sz(I:Inv X pins σ H s):X.s₀.heap.objs.size<=s.heap.objs.size:=gj I.ok.above (y0r I.lt)
theorem Inv.nofs(I:Inv X pins σ H s)(h:s.heap.objs.size<=a):a∉X.fs:=λhb=>by
 obtain⟨_,o,ho,_⟩:=I.ok.funs.mem hb;exact absurd (ge (yt ho) (gj I.sz h)) (y2t _)
theorem Inv.cne(I:Inv X pins σ H s):∀x c,X.env.cells.lookup x=some c->c≠X.env.locals:=λx c e z=>by
 obtain⟨v,o,ho,hd⟩:=I.cell x c e;obtain⟨m,⟨o',es,ep,ho',hd',_⟩,_⟩:=I.loc;rw[z,ho']at ho;cases ho;rw[hd']at hd;cases hd
theorem Inv.funs(I:Inv X pins σ H s):s.heap.FunFrames X.base X.outer:=by
 have all:∀(l:List Env),(∀b∈frs l,b∈X.fs)->X.s₀.heap.FunFrames X.base l->s.heap.FunFrames X.base l:=by
  intro l
  induction l with
  |nil=>intro _ _;trivial
  |cons env r ih=>
   intro hs hl;obtain⟨hk,⟨L,o,hf,hn,ho,hd⟩,hr⟩:=hl;have hL:L∈X.fs:=hs L (by unfold frs;rw[y3f,hf];exact yu);obtain⟨sl,e⟩:=I.base.slot L o ho (I.ok.frf L hL) hL λz=>I.ok.exfs L z hL;exact⟨hk,⟨L,_,hf,hn,e,hd⟩,ih (λb hb=>hs b (by unfold frs;rw[y3f,hf];exact ym _ hb)) hr⟩
 exact all X.outer (λ_ hb=>hb) I.ok.funs
theorem Inv.stack(I:Inv X pins σ H s):s.heap.FunFrames X.base X.stack:=by
 rcases I.ok.stk with e|⟨e,hf⟩
 ·rw[e];exact I.funs
 ·rw[e];obtain⟨m,hn,_⟩:=I.loc;refine .cons (by rw[I.ok.kind];decide) hf hn ?_ I.funs;exact y8g (gj I.ok.bsz I.ok.above)
theorem Inv.stkSub(I:Inv X pins σ H s):∀b∈frs X.stack,b∈X.env.locals::X.fs:=λb hb=>by
 rcases I.ok.stk with e|⟨e,hf⟩
 ·rw[e]at hb;exact ym _ hb
 ·rw[e]at hb;unfold frs at hb;rw[y3f,hf]at hb;exact hb
theorem Inv.stkFree(I:Inv X pins σ H s):∀b∈frs X.stack,H b=none:=λb hb=>by
 rcases xf.mp (I.stkSub b hb)with e|hb
 ·rw[e];exact I.free
 ·obtain⟨_,o,ho,_⟩:=I.ok.funs.mem hb;exact I.base.free b o ho (I.ok.frf b hb) λz=>I.ok.exfs b z hb
theorem Inv.step{g':Array y6u}{t':Nat}{d':Drawn}{ch:List Addr}(I:Inv X pins σ H s)
  (hch:∀b∈ch,(b∈X.ex\/X.s₀.heap.objs.size<=b)/\b≠X.env.locals/\(∀x c,X.env.cells.lookup x=some c->c≠b)/\∀p∈X.pn++pins,p.1≠b)
  (keep:∀b o,b≠X.env.locals->b∉X.fs->b∉ch->s.heap.get? b=some o->H b=none->h'.get? b=some o)
  (slot:∀b o,b≠X.env.locals->b∈X.fs->b∉ch->s.heap.get? b=some o->H b=none->∃sl,h'.get? b=some {o with slots:=sl}) (free:∀b o,b∉ch->s.heap.get? b=some o->H b=none->H' b=none)
  (there:∀b o,b∉ch->s.heap.get? b=some o->∃o',h'.get? b=some o')
  (tups:∀b xs,H b=some (.tup xs)->H' b=some (.tup xs)) (frzs:∀b o u,H b=some (.frz o u)->H' b=some (.frz o u)) (tbls:∀b ps,H b=some (.tbl ps)->∃more,H' b=some (.tbl (ps++more)))
  (ns:∀m,s.heap.Ns X.env.locals m->h'.Ns X.env.locals m) (hok:HOk X.prog X.w H' h') (hg:y68 g'):
  Inv X pins σ H' {s with heap:=h',gens:=g',drawn:=d',toks:=t'}:=by
 have neL:∀b o,X.s₀.heap.get? b=some o->b≠X.env.locals:=λb o e=>xt (ge (yt e) I.ok.above);have neC:∀b o,X.s₀.heap.get? b=some o->b∉X.ex->b∉ch:=λb o e hx hb=>by
  rcases(hch b hb).1 with z|z
  ·exact hx z
  ·exact absurd (ge (yt e) z) (y2t _)
 have cellK:∀x c,X.env.cells.lookup x=some c->∀v,s.heap.IsCell c v->h'.IsCell c v:=λx c e v ⟨o,ho,hd⟩=>by
  have nch:c∉ch:=λz=>(hch c z).2.2.1 x c e rfl;by_cases hc:c∈X.fs
  ·obtain⟨sl,q⟩:=slot c o (I.cne x c e) hc nch ho (I.freeC x c e);exact⟨_,q,hd⟩
  ·exact⟨o,keep c o (I.cne x c e) hc nch ho (I.freeC x c e),hd⟩
 refine⟨I.ok,I.os,hg,⟨λb o e n hb hx=>?_,λb o e n hb hx=>?_,λb o e n hx=>?_,λb o e hx=>?_,λb xs e=>tups b xs (I.base.tups b xs e),λb o xs e=>frzs b o xs (I.base.frzs b o xs e),λb ps e=>?_⟩,?_,λx c e=>?_,?_,λx c e=>?_,λp hp=>?_,hok,I.len⟩
 ·exact keep b o (neL b o e) hb (neC b o e hx) (I.base.keep b o e n hb hx) (I.base.free b o e n hx)
 ·obtain⟨sl,e1⟩:=I.base.slot b o e n hb hx;obtain⟨sl',e2⟩:=slot b _ (neL b o e) hb (neC b o e hx) e1 (I.base.free b o e n hx);exact⟨sl',e2⟩
 ·obtain⟨o',e1⟩:=I.base.there b o e hx;exact free b o' (neC b o e hx) e1 (I.base.free b o e n hx)
 ·obtain⟨o',e1⟩:=I.base.there b o e hx;exact there b o' (neC b o e hx) e1
 ·obtain⟨m1,e1⟩:=I.base.tbls b ps e;obtain⟨m2,e2⟩:=tbls b _ e1;exact⟨m1++m2,by rw[e2,Array.append_assoc]⟩
 ·obtain⟨m,hn,hl⟩:=I.loc;refine⟨m,ns m hn,λi x v e1 e2 e3=>?_⟩;obtain⟨u,r,l⟩:=hl i x v e1 e2 e3;refine⟨u,r,?_⟩;rcases l with l|⟨k,c,e,z⟩
  ·exact .inl l
  ·exact .inr ⟨k,c,e,cellK x c e _ z⟩
 ·obtain⟨v,z⟩:=I.cell x c e;exact⟨v,cellK x c e v z⟩
 ·obtain⟨m,⟨o,_,_,ho,_⟩,_⟩:=I.loc;exact free _ o (λz=>(hch _ z).2.1 rfl) ho I.free
 ·obtain⟨v,o,ho,hd⟩:=I.cell x c e;exact free c o (λz=>(hch c z).2.2.1 x c e rfl) ho (I.freeC x c e)
 ·obtain⟨e,n,ne,nf,d⟩:=I.pin p hp;have nch:p.1∉ch:=λz=>(hch p.1 z).2.2.2 p hp rfl;exact⟨keep p.1 p.2 ne nf nch e n,free p.1 p.2 nch e n,ne,nf,d⟩
theorem Inv.un{t':Nat}(I:Inv X pins σ H s)(u:Un X.fs [] H H' s.heap h')(hok:HOk X.prog X.w H' h'):Inv X pins σ H' {s with heap:=h',toks:=t'}:=by
 obtain⟨m,⟨o,es,ep,ho,r⟩,_⟩:=id I.loc;obtain⟨sl,hL⟩:=u.any ho I.free (by simp);exact I.step (g':=s.gens) (d':=s.drawn) (ch:=[]) (λ_ z=>nomatch z) (λb o _ hb _ e n=>u.keep b o e n hb (by simp)) (λb o _ hb _ e n=>u.slot b o e n hb (by simp)) (λb o _ e n=>u.free b o e n (by simp)) (λb o _ e=>u.there b o e (by simp)) u.tups u.frzs u.tbls (λm' hm=>by
  obtain⟨o',es',ep',ho',r'⟩:=hm;rw[ho]at ho';cases ho';exact⟨_,es',ep',hL,r'⟩) hok I.bare
theorem Inv.call{g':Array y6u}{t':Nat}{d':Drawn}{ch:List Addr}(I:Inv X pins σ H s)(u:Un (frs X.stack) ch H H' s.heap h')(hok:HOk X.prog X.w H' h')(hg:y68 g')
  (hch:∀b∈ch,(b∈X.ex\/X.s₀.heap.objs.size<=b)/\b≠X.env.locals/\(∀x c,X.env.cells.lookup x=some c->c≠b)/\∀p∈X.pn++pins,p.1≠b):
  Inv X pins σ H' {s with heap:=h',gens:=g',drawn:=d',toks:=t'}:=by
 obtain⟨m,⟨o,es,ep,ho,r⟩,_⟩:=id I.loc;obtain⟨sl,hL⟩:=u.any ho I.free λz=>(hch _ z).2.1 rfl;exact I.step (ch:=ch) hch (λb o hL hb hc e n=>u.keep b o e n (λz=>(xf.mp (I.stkSub b z)).elim hL hb) hc) (λb o _ _ hc e n=>u.any e n hc) (λb o hc e n=>u.free b o e n hc) (λb o hc e=>u.there b o e hc) u.tups u.frzs u.tbls (λm' hm=>by
  obtain⟨o',es',ep',ho',r'⟩:=hm;rw[ho]at ho';cases ho';exact⟨_,es',ep',hL,r'⟩) hok hg
theorem Inv.turned{t':Nat}{it:Addr}(I:Inv X pins σ H s)(k:∀b o,b≠it->s.heap.get? b=some o->h'.get? b=some o)(hn:H it=none)(hL:it≠X.env.locals)
  (h1:it∈X.ex\/X.s₀.heap.objs.size<=it) (h2:∀x c,X.env.cells.lookup x=some c->c≠it) (h3:∀p∈X.pn++pins,p.1≠it):Inv X pins σ H {s with heap:=h',toks:=t'}:=by
 have nit:∀b u,H b=some u->b≠it:=λb u e z=>by rw[z,hn]at e;cases e
 refine I.step (g':=s.gens) (d':=s.drawn) (ch:=[it]) (λb hb=>?_) (λb o _ _ hc e _=>k b o (λz=>hc (by simp[z])) e) (λb o _ _ hc e _=>⟨o.slots,k b o (λz=>hc (by simp[z])) e⟩) (λ_ _ _ _ n=>n)
  (λb o hc e=>⟨o,k b o (λz=>hc (by simp[z])) e⟩) (λ_ _ e=>e) (λ_ _ _ e=>e) (λb ps e=>⟨#[],by rw[e];simp⟩) (λm hm=>?_) (λb u e=>?_) I.bare
 ·have e:b=it:=by simpa using hb
  subst e;exact⟨h1,hL,h2,h3⟩
 ·obtain⟨o,es,ep,ho,r⟩:=hm;exact⟨o,es,ep,k _ o (y57 hL) ho,r⟩
 ·refine(I.hok b u e).stay (λc v hc q=>k c v ?_ q) (λ_ q=>q) λ_ _ q=>q;rcases hc with z|z
  ·rw[z];exact nit b u e
  ·exact nit c _ z
theorem Inv.tok(I:Inv X pins σ H s)(t:Nat):Inv X pins σ H {s with toks:=t}:=I.un (h':=s.heap) (t':=t) Un.refl I.hok
theorem Inv.kept{t':Nat}(I:Inv X pins σ H s)(k:∀b u,s.heap.get? b=some u->h'.get? b=some u):Inv X pins σ H {s with heap:=h',toks:=t'}:=I.un (Un.kept k) (I.hok.kept k)
theorem Inv.laid{a:Addr}{o:HO}{t':Nat}(I:Inv X pins σ H s)(k:∀b u,s.heap.get? b=some u->h'.get? b=some u)(hp:s.heap.objs.size<=a)(new:ObjOk X.prog X.w (upd H a o) h' a o):
  Inv X pins σ (upd H a o) {s with heap:=h',toks:=t'}:=I.un (Un.laid k hp (I.hok.fresh hp)) (I.hok.laid k hp new)
theorem Inv.write{x e:Addr}{o:HO}{t':Nat}(I:Inv X pins σ H s)(mu:Mut (H x))(he:e=x\/H e=some (.own x))(k:∀b u,b≠e->s.heap.get? b=some u->h'.get? b=some u)(heo:∃u,h'.get? e=some u)
  (new:ObjOk X.prog X.w (upd H x o) h' x o):Inv X pins σ (upd H x o) {s with heap:=h',toks:=t'}:=I.un (Un.write mu he k heo) (I.hok.write mu he k heo new)
theorem Inv.pins_of{pins':List (Addr×Obj)}(I:Inv X pins σ H s)(h:∀p∈pins',s.heap.get? p.1=some p.2/\H p.1=none/\p.1≠X.env.locals/\p.1∉X.fs/\∀v,p.2.data≠.cell v):Inv X pins' σ H s:=
 ⟨I.ok,I.os,I.bare,I.base,I.loc,I.cell,I.free,I.freeC,λp hp=>(x0.mp hp).elim (λz=>I.pin p (gr _ z)) (h p),I.hok,I.len⟩
theorem jar{N:List Str}(hN:N.Nodup){j:Nat}(a:N[i]?=some x)(b:N[j]?=some x):i=j:=by
 obtain⟨h1,e1⟩:=yw.mp a;obtain⟨h2,e2⟩:=yw.mp b;exact(List.getElem_inj hN).mp (e1.trans e2.symm)
theorem jdu{M:Model}{A:gw}{E:Value->ye->Prop}{Q:Unit->ye->Prop}(I:Inv X pins σ H s)(hN:X.N.Nodup)(hi:X.N[i]?=some x)(hx:Loc X.env.scope x)(r:RelV v u)
  (h:∀s',Inv X pins (σ.set i (some v)) H s'->(∃a,uv a s.heap s'.heap/\(a=X.env.locals\/X.env.cells.lookup x=some a))->Q () s') (hf:X.fn x=true\/X.env.scope.names.lookup x=some .local:=by first|exact .inl rfl|exact .inr rfl|assumption):wpAny M A (storeName X.env x u) Q E s:=by
 obtain⟨m,hn,hl⟩:=id I.loc;have hcls:(X.env.scope.kind == .class||(X.env.scope.kind == .module&&X.env.locals !=X.env.globals))=false:=by rw[I.ok.kind];rfl
 have hiσ:i<σ.length:=by rw[I.len];exact(yw.mp hi).1
 have cne:=I.cne;have tracked:∀{a:Addr}{h':Heap},(∃o,s.heap.get? a=some o/\H a=none)->uv a s.heap h'->HOk X.prog X.w H h':=λ{a h'} ha hs b ob e=>by
  obtain⟨_,_,hfree⟩:=ha;refine(I.hok b ob e).stay (λc w' hc q=>(hs.2 c ?_).trans q) (λ_ q=>q) λ_ _ q=>q;rintro rfl;rcases hc with rfl|hc
  ·rw[hfree]at e;cases e
  ·rw[hfree]at hc;cases hc
 rcases hx with hk|hk
 ·refine wpAny_storeName_local hk hn (λh' hn' hs=>?_) hcls;obtain⟨oL,_,_,hoL,_⟩:=id hn;refine h _ ⟨I.ok,I.os,I.bare,⟨λb o e n hb hx=>?_,λb o e n hb hx=>?_,I.base.free,λb o e hx=>?_,I.base.tups,I.base.frzs,I.base.tbls⟩,⟨_,hn',λj y v' e1 e2 e3=>?_⟩,λy c e=>?_,I.free,I.freeC,λp hp=>?_,tracked ⟨oL,hoL,I.free⟩ hs,by simpa using I.len⟩ ⟨_,hs,.inl rfl⟩
  ·exact(hs.2 b (xt (ge (yt e) I.ok.above))).trans (I.base.keep b o e n hb hx)
  ·obtain⟨sl,e1⟩:=I.base.slot b o e n hb hx;exact⟨sl,(hs.2 b (xt (ge (yt e) I.ok.above))).trans e1⟩
  ·obtain⟨o',e1⟩:=I.base.there b o e hx;exact⟨o',(hs.2 b (xt (ge (yt e) I.ok.above))).trans e1⟩
  ·by_cases hj:j=i
   ·subst hj;rw[hi]at e1;cases e1;rw[y7i hiσ]at e2;cases e2;exact⟨u,r,.inl ⟨hk,by simp⟩⟩
   ·rw[y8j (y57 hj)]at e2;obtain⟨u',r',q⟩:=hl j y v' e1 e2 e3;refine⟨u',r',?_⟩;rcases q with⟨k,e⟩|⟨k,c,e,z⟩
    ·refine .inl ⟨k,?_⟩;have:y≠x:=λe=>hj (jar hN e1 (e ▸ hi));simp[this,e]
    ·exact .inr ⟨k,c,e,z.sameBut hs (cne y c e)⟩
  ·obtain⟨w',z⟩:=I.cell y c e;exact⟨w',z.sameBut hs (cne y c e)⟩
  ·obtain⟨e,n,ne,nf,d⟩:=I.pin p hp;exact⟨(hs.2 p.1 ne).trans e,n,ne,nf,d⟩
 ·have hfn:X.fn x=true:=by
   rcases hf with z|z
   ·exact z
   ·rw[z]at hk;cases hk
  obtain⟨c,hc⟩:=I.ok.has x (.inl hk);obtain⟨w',z⟩:=I.cell x c hc;refine wpAny_storeName_cell I.ok.kind hk hc z (λh' hc' hs=>?_);obtain⟨oc,hoc,hocd⟩:=id z;refine h {s with heap:=h'} ⟨I.ok,I.os,I.bare,⟨λb o e n hb hx=>?_,λb o e n hb hx=>?_,I.base.free,λb o e hx=>?_,I.base.tups,I.base.frzs,I.base.tbls⟩,⟨m,hn.sameBut hs (y57 (cne x c hc)),λj y v' e1 e2 e3=>?_⟩,λy c' e=>?_,I.free,I.freeC,λp hp=>?_,tracked ⟨oc,hoc,I.freeC x c hc⟩ hs,by simpa using I.len⟩ ⟨c,hs,.inr hc⟩
  ·exact(hs.2 b (xt (ge (yt e) (I.ok.cab x c hfn hc)))).trans (I.base.keep b o e n hb hx)
  ·obtain⟨sl,e1⟩:=I.base.slot b o e n hb hx;exact⟨sl,(hs.2 b (xt (ge (yt e) (I.ok.cab x c hfn hc)))).trans e1⟩
  ·obtain⟨o',e1⟩:=I.base.there b o e hx;exact⟨o',(hs.2 b (xt (ge (yt e) (I.ok.cab x c hfn hc)))).trans e1⟩
  ·by_cases hj:j=i
   ·subst hj;rw[hi]at e1;cases e1;rw[y7i hiσ]at e2;cases e2;exact⟨u,r,.inr ⟨.inl hk,c,hc,hc'⟩⟩
   ·rw[y8j (y57 hj)]at e2;obtain⟨u',r',q⟩:=hl j y v' e1 e2 e3;refine⟨u',r',?_⟩;rcases q with q|⟨k,c',e,z'⟩
    ·exact .inl q
    ·refine .inr ⟨k,c',e,z'.sameBut hs ?_⟩;rintro rfl;exact hj (jar hN e1 (I.ok.inj _ _ _ e hc ▸ hi))
  ·by_cases hcc:c'=c
   ·subst hcc;exact⟨_,hc'⟩
   ·obtain⟨w2,z2⟩:=I.cell y c' e;exact⟨w2,z2.sameBut hs hcc⟩
  ·obtain⟨e,n,ne,nf,d⟩:=I.pin p hp;refine⟨(hs.2 p.1 ?_).trans e,n,ne,nf,d⟩;intro q;rw[q,hoc]at e;have q':oc=p.2:=gf e;exact d w' (by rw[<- q'];exact hocd)
theorem j7i{M:Model}{A:gw}{E:Value->ye->Prop}{Q:Unit->ye->Prop}(I:Inv X pins σ H s)(hN:X.N.Nodup)(hi:X.N[i]?=some x)(hx:Loc X.env.scope x)(r:RelV v u)
  (h:∀s',Inv X pins (σ.set i (some v)) H s'->Q () s') (hf:X.fn x=true\/X.env.scope.names.lookup x=some .local:=by first|exact .inl rfl|exact .inr rfl|assumption):wpAny M A (storeName X.env x u) Q E s:=
 jdu I hN hi hx r (λs' I' _=>h s' I') hf
theorem Inv.call'{s':ye}{ch:List Addr}(I:Inv X pins σ H s)(ho:s'.os=s.os)(u:Un (frs X.stack) ch H H' s.heap s'.heap)(hok:HOk X.prog X.w H' s'.heap)(hg:y68 s'.gens)
  (hch:∀b∈ch,(b∈X.ex\/X.s₀.heap.objs.size<=b)/\b≠X.env.locals/\(∀x c,X.env.cells.lookup x=some c->c≠b)/\∀p∈X.pn++pins,p.1≠b):Inv X pins σ H' s':=by
 obtain⟨h',g',d',t',o'⟩:=s';have e:o'=s.os:=ho;subst e;exact I.call (g':=g') (t':=t') (d':=d') u hok hg hch
end
abbrev XK:=Value->Option Addr->Hp->Prop
abbrev St:=List (Option V)
abbrev VK:=V->Hp->Prop
abbrev TE:=St->Hp->VK->Prop
abbrev TT:=St->Hp->(Bool->Hp->Prop)->Prop
abbrev TA:=St->Hp->(List V->Hp->Prop)->Prop
structure Ends where
 nx:St->Hp->Prop
 rt:VK
 bk:St->Hp->Prop:=λ_ _=>False
 ct:St->Hp->Prop:=λ_ _=>False
abbrev TS:=Ends->St->Hp->Prop
def EP(X:Cx)(pins:List (Addr×Obj))(σ:St)(Q:VK)(u:Value)(s':ye):Prop:=∃v H',Inv X pins σ H' s'/\RelV v u/\Q v H'
def TP(X:Cx)(pins:List (Addr×Obj))(σ:St)(Q:Bool->Hp->Prop)(b:Bool)(s':ye):Prop:=∃H',Inv X pins σ H' s'/\Q b H'
def AP(X:Cx)(pins:List (Addr×Obj))(σ:St)(Q:List V->Hp->Prop)(us:List Value)(s':ye):Prop:=∃vs H',Inv X pins σ H' s'/\Vals vs us/\Q vs H'
def SP(X:Cx)(pins:List (Addr×Obj))(D:Ends)(f:Flow)(s':ye):Prop:=
 match f with
 | .next=>∃σ' H',Inv X pins σ' H' s'/\D.nx σ' H'
 | .brk=>∃σ' H',Inv X pins σ' H' s'/\D.bk σ' H'
 | .cont=>∃σ' H',Inv X pins σ' H' s'/\D.ct σ' H'
 | .ret u=>∃v σ' H',Inv X pins σ' H' s'/\RelV v u/\D.rt v H'
def PE(X:Cx)(e:Expr)(t:TE):Prop:=
 ∀(pins:List (Addr×Obj)) (s:ye) (σ:St) (H:Hp) (Q:VK),Inv X pins σ H s->t σ H Q->wpAny (model X.prog X.w) X.A (eval e X.env) (EP X pins σ Q) X.xe s
def PT(X:Cx)(e:Expr)(t:TT):Prop:=
 ∀(pins:List (Addr×Obj)) (s:ye) (σ:St) (H:Hp) (Q:Bool->Hp->Prop),Inv X pins σ H s->t σ H Q->wpAny (model X.prog X.w) X.A (isTrue e X.env (eval e X.env)) (TP X pins σ Q) X.xe s
def PW(X:Cx)(e:Expr)(t:TT):Prop:=
 ∀(whole:Sem Value) (pins:List (Addr×Obj)) (s:ye) (σ:St) (H:Hp) (Q:Bool->Hp->Prop),Inv X pins σ H s->t σ H Q->wpAny (model X.prog X.w) X.A (isTrue e X.env whole) (TP X pins σ Q) X.xe s
variable{X:Cx}{e:Expr}
theorem PW.pt{t:TT}(h:PW X e t):PT X e t:=h _
def PA(X:Cx)(es:List Expr)(t:TA):Prop:=
 ∀(pos:Pos) (pins:List (Addr×Obj)) (s:ye) (σ:St) (H:Hp) (Q:List V->Hp->Prop),Inv X pins σ H s->t σ H Q->wpAny (model X.prog X.w) X.A (spliced (backTo pos (starEach es X.env))) (AP X pins σ Q) X.xe s
def PS(X:Cx)(st:Stmt)(t:TS):Prop:=
 ∀(pins:List (Addr×Obj)) (s:ye) (σ:St) (H:Hp) (D:Ends),Inv X pins σ H s->t D σ H->wpAny (model X.prog X.w) X.A (exec st X.env) (SP X pins D) X.xe s
def PSs(X:Cx)(st:List Stmt)(t:TS):Prop:=
 ∀(pins:List (Addr×Obj)) (s:ye) (σ:St) (H:Hp) (D:Ends),Inv X pins σ H s->t D σ H->wpAny (model X.prog X.w) X.A (execs st X.env) (SP X pins D) X.xe s
variable{A:gw}{s:ye}
theorem thn{α:Type}{t:Sem α}{Q Q':α->ye->Prop}{M:Model}{E:Value->ye->Prop}(h:wpAny M A t Q E s)(hQ:∀a s,Q a s->Q' a s):wpAny M A t Q' E s:=y10 h hQ λ_ _ x=>x
variable{pos:Pos}{pins:List (Addr×Obj)}{σ:St}
section
variable{X:Cx}
def tVar(i:Nat):TE:=λσ H Q=>∃v,σ[i]?=some (some v)/\Q v H
def tC(v:V):TE:=λ_ H Q=>Q v H
theorem pe_var(hN:X.N[i]?=some x)(hv:Vis X.env.scope x)(hd:(x==("__debug__":Str))=false:=by decide)(hcd:(x==("__classdict__":Str))=false:=by decide):PE X (.Name x pos) (tVar i):=by
 intro pins s σ H Q I h;obtain⟨v,e,h⟩:=h;obtain⟨m,hn,hl⟩:=I.loc;obtain⟨u,r,l⟩:=hl i x v hN e hv;have fin:EP X pins σ Q u s:=⟨v,H,I,r,h⟩
 rcases l with⟨hk,hm⟩|⟨hk,c,hc,hcell⟩
 ·exact ych (wpAny_loadName_local I.ok.kind hk hn hm fin) hd
 ·rcases hk with hk|hk
  ·exact ych (wpAny_loadName_cell I.ok.kind hk hc hcell fin) hd
  ·exact ych (wpAny_loadName_free I.ok.kind hk hc hcell fin hcd) hd
theorem j02{i j pos}:PE X (.Constant (.int i) j pos) (tC (.int i)):=λ_ _ _ H _ I h=>wpAny_Constant_int ⟨.int i,H,I.tok _,⟨_,rfl⟩,h⟩
theorem jft{b j pos}:PE X (.Constant (.bool b) j pos) (tC (.bl b)):=λ_ _ _ H _ I h=>Constant_bool ⟨.bl b,H,I,rfl,h⟩
theorem j2h{j pos}:PE X (.Constant .none j pos) (tC .non):=λ_ _ _ H _ I h=>Constant_none ⟨.non,H,I,rfl,h⟩
theorem pe_str{x j pos}:PE X (.Constant (.str x) j pos) (tC (.str x)):=λ_ _ _ H _ I h=>Calls.Constant_str ⟨.str x,H,I.tok _,⟨_,rfl⟩,h⟩
def Gl(X:Cx)(x:Str):Prop:=X.env.kindOf x=some .globalImplicit
theorem jas{E:Value->ye->Prop}{pos:Pos}{Q:Value->ye->Prop}(I:Inv X pins σ H s)(hg:Gl X x)(hm:X.mg x=some u)(h:Q u s)
  (hd:(x==("__debug__":Str))=false:=by decide):wpAny (model X.prog X.w) X.A (eval (.Name x pos) X.env) Q E s:=
 y5v I.ok.kind hg (Calls.loadGlobal_global (by rw[I.ok.glob];exact I.mod.glob.keeps I.bk) hm h) hd
theorem j52{E:Value->ye->Prop}{pos:Pos}{Q:Value->ye->Prop}(I:Inv X pins σ H s)(hg:Gl X x)(hm:X.mg x=none)(hv:bootBuiltins x=some u)(h:Q u s)
  (hn:x≠"__name__":=by decide) (hd:(x==("__debug__":Str))=false:=by decide):wpAny (model X.prog X.w) X.A (eval (.Name x pos) X.env) Q E s:=by
 obtain⟨mb,h1,h2⟩:=I.mod.blt;exact y5v I.ok.kind hg (Calls.loadGlobal_builtin (by rw[I.ok.glob];exact I.mod.glob.keeps I.bk) hm (by rw[I.ok.blt];exact h1.keeps I.bk) ((h2 x hn).trans hv) h) hd
theorem jfu(hg:Gl X x)(hm:X.mg x=some u)(r:RelV v u)(hd:(x==("__debug__":Str))=false:=by decide):PE X (.Name x pos) (tC v):=
 λ_ _ _ H _ I h=>jas I hg hm ⟨v,H,I,r,h⟩ hd
theorem j1u(hg:Gl X x)(hm:X.mg x=none)(hv:bootBuiltins x=some u)(r:RelV v u)(hn:x≠"__name__":=by decide)(hd:(x==("__debug__":Str))=false:=by decide):PE X (.Name x pos) (tC v):=
 λ_ _ _ H _ I h=>j52 I hg hm hv ⟨v,H,I,r,h⟩ hn hd
variable{a b:Expr}{ta tb:TE}{pos:Pos}
variable{tA tB':TT}{rest:List Expr}
def tAnd(t u:TT):TT:=λσ H Q=>t σ H λc H1=>if c=true then u σ H1 Q else Q false H1
def tOr(t u:TT):TT:=λσ H Q=>t σ H λc H1=>if c=true then Q true H1 else u σ H1 Q
def tNot(t:TT):TT:=λσ H Q=>t σ H λc H1=>Q (!c) H1
theorem jat(ha:PT X a tA):PW X (.BoolOp .And [a] pos) tA:=by
 intro wh pins s σ H Q I h;refine isTrue_and (thn (ha pins s σ H Q I h) λc s1 e=>?_);cases c with
 |true=>exact isTrue_and_nil e
 |false=>exact e
theorem jdv(ha:PT X a tA):PW X (.BoolOp .Or [a] pos) tA:=by
 intro wh pins s σ H Q I h;refine isTrue_or (thn (ha pins s σ H Q I h) λc s1 e=>?_);cases c with
 |false=>exact isTrue_or_nil e
 |true=>exact e
theorem jh5(ha:PT X a tA)(hb:PW X (.BoolOp .And (b::rest) pos) tB'):PW X (.BoolOp .And (a::b::rest) pos) (tAnd tA tB'):=by
 intro wh pins s σ H Q I h;refine isTrue_and (thn (ha pins s σ H _ I h) λc s1 ⟨H1,I1,q1⟩=>?_);cases c with
 |true=>exact hb wh pins s1 σ H1 Q I1 q1
 |false=>exact⟨H1,I1,q1⟩
theorem jnl(ha:PT X a tA)(hb:PW X (.BoolOp .Or (b::rest) pos) tB'):PW X (.BoolOp .Or (a::b::rest) pos) (tOr tA tB'):=by
 intro wh pins s σ H Q I h;refine isTrue_or (thn (ha pins s σ H _ I h) λc s1 ⟨H1,I1,q1⟩=>?_);cases c with
 |true=>exact⟨H1,I1,q1⟩
 |false=>exact hb wh pins s1 σ H1 Q I1 q1
theorem j7j(ha:PT X a tA):PT X (.UnaryOp .Not a pos) (tNot tA):=by
 intro pins s σ H Q I h;exact isTrue_not (ha pins s σ H (λc H1=>Q (!c) H1) I h)
def tAndV(ta tb:TE):TE:=λσ H Q=>ta σ H λx H1=>∃c,x=.bl c/\if c=true then tb σ H1 Q else Q (.bl false) H1
def tNotV(ta:TE):TE:=λσ H Q=>ta σ H λx H1=>∃c,x=.bl c/\Q (.bl (!c)) H1
theorem ja2{op}{t:TE}(h:PE X a t):PE X (.BoolOp op [a] pos) t:=λpins s σ H Q I hw=>BoolOp_one (h pins s σ H Q I hw)
theorem j62(ha:PE X a ta)(hb:PE X (.BoolOp .And (b::rest) pos) tb):PE X (.BoolOp .And (a::b::rest) pos) (tAndV ta tb):=by
 intro pins s σ H Q I h;refine BoolOp_and (thn (ha pins s σ H _ I h) λv s1 ⟨x,H1,I1,r1,q1⟩=>?_);obtain⟨c,rfl,q1⟩:=q1;cases r1;refine y4l ?_;cases c with
 |true=>exact hb pins s1 σ H1 Q I1 q1
 |false=>exact⟨.bl false,H1,I1,rfl,q1⟩
theorem pe_not(ha:PE X a ta):PE X (.UnaryOp .Not a pos) (tNotV ta):=by
 intro pins s σ H Q I h;refine UnaryOp_ (thn (ha pins s σ H _ I h) λv s1 ⟨x,H1,I1,r1,q1⟩=>?_);obtain⟨c,rfl,q1⟩:=q1;cases r1;exact not_of (y4l ⟨.bl (!c),H1,I1,rfl,q1⟩)
def tIf(t:TT)(ta tb:TE):TE:=λσ H Q=>t σ H λc H1=>if c=true then ta σ H1 Q else tb σ H1 Q
theorem j3m{c:Expr}(hc:PT X c tA)(ha:PE X a ta)(hb:PE X b tb):PE X (.IfExp c a b pos) (tIf tA ta tb):=by
 intro pins s σ H Q I h;refine wpAny_IfExp (thn (hc pins s σ H _ I h) λd s1 ⟨H1,I1,q1⟩=>?_);cases d with
 |true=>exact ha pins s1 σ H1 Q I1 q1
 |false=>exact hb pins s1 σ H1 Q I1 q1
end
def SqL(K:y9)(H:Hp)(a:Addr)(xs:List V):Prop:=
 Rd H a (.lst xs)\/
  ∃(o:Obj) (its:Array Value) (n:Nat),K.lookup a=some o/\o.cls=.type "list"/\o.dict=none/\o.data=.seq its n/\its.size<=sizeLine/\Vals xs its.toList
def SqT(K:y9)(H:Hp)(a:Addr)(xs:List V):Prop:=
 Rd H a (.tup xs)\/
  ∃(o:Obj) (its:Array Value) (n:Nat),K.lookup a=some o/\o.cls=.type "tuple"/\o.data=.seq its n/\its.size<=sizeLine/\Vals xs its.toList
def absV:Value->Option V
 | .none=>some .non
 | .bool b=>some (.bl b)
 | .int i _=>some (.int i)
 | .str x _=>some (.str x)
 | .bytes b _=>some (.byt b)
 | .float b _=>some (.flt b)
 | .ref a=>some (.ref a)
 | .type n=>some (.ty n)
 |_=>none
theorem RelV.abs{x:V}{u:Value}(r:RelV x u):absV u=some x:=by
 cases x with
 |non=>cases r;rfl
 |bl _=>cases r;rfl
 |int _=>obtain⟨t,rfl⟩:=r;rfl
 |str _=>obtain⟨t,rfl⟩:=r;rfl
 |byt _=>obtain⟨t,rfl⟩:=r;rfl
 |flt _=>obtain⟨t,rfl⟩:=r;rfl
 |ref _=>cases r;rfl
 |ty _=>cases r;rfl
theorem RelV.inj{x y:V}(r:RelV x u)(q:RelV y u):x=y:=gf (r.abs.symm.trans q.abs)
theorem Vals.inj:∀{xs ys:List V}{us:List Value},Vals xs us->Vals ys us->xs=ys
 |_,_,_,.nil,.nil=>rfl
 |_,_,_,.cons r t,.cons r' t'=>by rw[r.inj r',Vals.inj t t']
variable{K:y9}
section
variable{X:Cx}{pins:List (Addr×Obj)}{σ:St}{H:Hp}{s:ye}{a:Addr}{xs ys:List V}
theorem SqL.of(h:H a=some (.lst xs)):SqL K H a xs:=.inl (.inl h)
theorem SqT.of(h:H a=some (.tup xs)):SqT K H a xs:=.inl (.inl h)
theorem Inv.list(I:Inv X pins σ H s)(h:SqL X.K H a xs):∃its:List Value,Vals xs its/\PlainL s.heap a its.toArray/\xs.length<=sizeLine:=by
 rcases h with h|⟨o,its,n,hk,hc,hd,hs,hz,r⟩
 ·obtain⟨z,its,n,r,e⟩:=h.ok I.hok;exact⟨its,r,⟨_,n,e,rfl,rfl,rfl⟩,z⟩
 ·refine⟨its.toList,r,⟨o,n,I.kIn a o hk,hc,hd,by simpa using hs⟩,?_⟩;have e:=r.length;simp only[yh]at e;omega
theorem Inv.tuple(I:Inv X pins σ H s)(h:SqT X.K H a xs):∃its:List Value,Vals xs its/\IsTup s.heap a its.toArray/\xs.length<=sizeLine:=by
 rcases h with h|⟨o,its,n,hk,hc,hs,hz,r⟩
 ·obtain⟨z,its,r,p⟩:=h.ok I.hok;exact⟨its,r,p.1,z⟩
 ·refine⟨its.toList,r,⟨o,I.kIn a o hk,hc,n,by simpa using hs⟩,?_⟩;have e:=r.length;simp only[yh]at e;omega
theorem Inv.list_inj(I:Inv X pins σ H s)(h:SqL X.K H a xs)(h':SqL X.K H a ys):xs=ys:=by
 obtain⟨its,r,⟨o,n,e,_,_,d⟩,_⟩:=I.list h;obtain⟨its',r',⟨o',n',e',_,_,d'⟩,_⟩:=I.list h';rw[e]at e';cases e';rw[d]at d';injection d' with d1 _;have:its=its':=by simpa using congrArg yct d1
 subst this;exact r.inj r'
theorem Inv.tuple_inj(I:Inv X pins σ H s)(h:SqT X.K H a xs)(h':SqT X.K H a ys):xs=ys:=by
 obtain⟨its,r,⟨o,e,_,n,d⟩,_⟩:=I.tuple h;obtain⟨its',r',⟨o',e',_,n',d'⟩,_⟩:=I.tuple h';rw[e]at e';cases e';rw[d]at d';injection d' with d1 _;have:its=its':=by simpa using congrArg yct d1
 subst this;exact r.inj r'
end
abbrev Cx.wish(X:Cx)(E:Value->ye->Prop):Cx:={X with xe:=E}
abbrev Cx.nox(X:Cx):Cx:=X.wish λ_ _=>False
theorem Cx.Ok.wish{X:Cx}(ok:X.Ok)(E:Value->ye->Prop):(X.wish E).Ok:=
 ⟨ok.mod,ok.kind,ok.glob,ok.blt,ok.above,ok.inj,ok.has,ok.cab,ok.hd,ok.frames,ok.stk,ok.exf,ok.bs,ok.bsz,ok.noex,ok.exfs,ok.funs,ok.frf⟩
theorem Cx.Ok.unwish{E:Value->ye->Prop}(ok:(X.wish E).Ok):X.Ok:=
 ⟨ok.mod,ok.kind,ok.glob,ok.blt,ok.above,ok.inj,ok.has,ok.cab,ok.hd,ok.frames,ok.stk,ok.exf,ok.bs,ok.bsz,ok.noex,ok.exfs,ok.funs,ok.frf⟩
section
variable{X:Cx}{pins:List (Addr×Obj)}{σ:St}{H:Hp}{s:ye}{E:Value->ye->Prop}
theorem Inv.wish(I:Inv X pins σ H s)(E:Value->ye->Prop):Inv (X.wish E) pins σ H s:=⟨I.ok.wish E,I.os,I.bare,I.base,I.loc,I.cell,I.free,I.freeC,I.pin,I.hok,I.len⟩
theorem Inv.unwish(I:Inv (X.wish E) pins σ H s):Inv X pins σ H s:=⟨I.ok.unwish,I.os,I.bare,I.base,I.loc,I.cell,I.free,I.freeC,I.pin,I.hok,I.len⟩
theorem SP.unwish{D:Ends}{f:Flow}{s':ye}(h:SP (X.wish E) pins D f s'):SP X pins D f s':=by
 cases f with
 |next=>obtain⟨σ',H',I,q⟩:=h;exact⟨σ',H',I.unwish,q⟩
 |brk=>obtain⟨σ',H',I,q⟩:=h;exact⟨σ',H',I.unwish,q⟩
 |cont=>obtain⟨σ',H',I,q⟩:=h;exact⟨σ',H',I.unwish,q⟩
 |ret u=>obtain⟨v,σ',H',I,r,q⟩:=h;exact⟨v,σ',H',I.unwish,r,q⟩
theorem PSs.nox{st:List Stmt}{t:TS}(h:PSs X.nox st t):PSs X st t:=λpins s σ H D I hw=>
 y10 (h pins s σ H D (I.wish _) hw) (λ_ _ q=>q.unwish) λ_ _ z=>y1h z
end
section
variable{X:Cx}{st:Stmt}{rest:List Stmt}{t u:TS}{e:Expr}{te:TE}{pos:Pos}
def tNext:TS:=λD σ H=>D.nx σ H
def tSeq(t u:TS):TS:=λD σ H=>t {D with nx:=u D} σ H
theorem j0c:PSs X [] tNext:=λ_ _ σ H _ I h=>y88 ⟨σ,H,I,h⟩
theorem j03(h1:PS X st t)(h2:PSs X rest u):PSs X (st::rest) (tSeq t u):=by
 intro pins s σ H D I h;refine yav (thn (h1 pins s σ H {D with nx:=u D} I h) λf s1 q=>?_);cases f with
 |next=>
  obtain⟨σ',H',I',q⟩:=q;exact h2 pins s1 σ' H' D I' q
 |ret v=>exact q
 |brk=>exact q
 |cont=>exact q
theorem j04(h1:PS X st t):PSs X [st] t:=by
 intro pins s σ H D I h;refine yav (thn (h1 pins s σ H D I h) λf s1 q=>?_);cases f with
 |next=>exact y88 q
 |ret v=>exact q
 |brk=>exact q
 |cont=>exact q
theorem Inv.quiet(I:Inv X pins σ H s):interactive X.env=false:=by simp[interactive,I.ok.kind]
def tDrop(te:TE):TS:=λD σ H=>te σ H λ_ H1=>D.nx σ H1
theorem j25(he:PE X e te)(hs:swapsWith e none pos.line X.env=pure false:=by rfl):PS X (.Expr e pos) (tDrop te):=by
 intro pins s σ H D I h;exact wpAny_Expr_any (thn (he pins s σ H _ I h) λv s1 ⟨x,H1,I1,r1,q1⟩=>⟨σ,H1,I1,q1⟩) I.quiet hs
def tRet(te:TE):TS:=λD σ H=>te σ H D.rt
theorem j09(he:PE X e te):PS X (.Return (some e) pos) (tRet te):=by
 intro pins s σ H D I h;exact wpAny_Return_some (thn (he pins s σ H _ I h) λv s1 ⟨x,H1,I1,r1,q1⟩=>⟨x,σ,H1,I1,r1,q1⟩)
def tIfS(c:TT)(t u:TS):TS:=λD σ H=>c σ H λb H1=>if b=true then t D σ H1 else u D σ H1
theorem j17{c:Expr}{a b:List Stmt}{tc:TT}(hc:PT X c tc)(ha:PSs X a t)(hb:PSs X b u):PS X (.If c a b pos) (tIfS tc t u):=by
 intro pins s σ H D I h;refine wpAny_If (thn (hc pins s σ H _ I h) λd s1 ⟨H1,I1,q1⟩=>?_);cases d with
 |true=>exact ha pins s1 σ H1 D I1 q1
 |false=>exact hb pins s1 σ H1 D I1 q1
def tNever:TS:=λ_ _ _=>False
theorem jau:PS X st tNever:=λ_ _ _ _ _ _ h=>h.elim
end
abbrev TG:=V->St->Hp->(St->Hp->Prop)->Prop
abbrev TGs:=List V->St->Hp->(St->Hp->Prop)->Prop
def PG(X:Cx)(target:Expr)(t:TG):Prop:=
 ∀(pins:List (Addr×Obj)) (s:ye) (σ:St) (H:Hp) (v:V) (u:Value) (Q:St->Hp->Prop),Inv X pins σ H s->RelV v u->t v σ H Q->
  wpAny (model X.prog X.w) X.A (assign target X.env u) (λ_ s'=>∃σ' H',Inv X pins σ' H' s'/\Q σ' H') X.xe s
def PGs(X:Cx)(ts:List Expr)(t:TGs):Prop:=
 ∀(pins:List (Addr×Obj)) (s:ye) (σ:St) (H:Hp) (vs:List V) (us:List Value) (Q:St->Hp->Prop),Inv X pins σ H s->Vals vs us->t vs σ H Q->
  wpAny (model X.prog X.w) X.A (assignInOrder ((assignEach ts X.env).map (·.2)) us) (λ_ s'=>∃σ' H',Inv X pins σ' H' s'/\Q σ' H') X.xe s
section
variable{X:Cx}{pos:Pos}
def j8k(i:Nat):TG:=λv σ H Q=>Q (σ.set i (some v)) H
theorem j0d(hN:X.N.Nodup)(hi:X.N[i]?=some x)(hx:Loc X.env.scope x)(hf:X.fn x=true\/X.env.scope.names.lookup x=some .local:=by first|exact .inl rfl|exact .inr rfl|assumption):PG X (.Name x pos) (j8k i):=by
 intro pins s σ H v u Q I r h;exact ya8 (j7i I hN hi hx r (λs' I'=>⟨_,H,I',h⟩) hf)
def gNil:TGs:=λvs σ H Q=>vs=[]/\Q σ H
def jnm(t:TG)(u:TGs):TGs:=λvs σ H Q=>∃v r,vs=v::r/\t v σ H λσ' H'=>u r σ' H' Q
theorem j63:PGs X [] gNil:=by
 intro pins s σ H vs us Q I r h;obtain⟨e,h⟩:=h;subst e;cases r;exact assignInOrder_nil ⟨σ,H,I,h⟩
theorem j1m{e:Expr}{es:List Expr}{t:TG}{u:TGs}(h1:PG X e t)(h2:PGs X es u)
  (hs:(assignEach (e::es) X.env).map (·.2)=assign e X.env::(assignEach es X.env).map (·.2):=by rfl):PGs X (e::es) (jnm t u):=by
 intro pins s σ H vs us Q I r h;obtain⟨v,vr,e1,h⟩:=h;subst e1;cases r with
 |cons r rr=>
  rw[hs];refine assignInOrder_cons (thn (h1 pins s σ H _ _ _ I r h) λ_ s1 ⟨σ1,H1,I1,q1⟩=>?_);exact h2 pins s1 σ1 H1 _ _ Q I1 rr q1
def gTup(K:y9)(n:Nat)(t:TGs):TG:=λv σ H Q=>∃a xs,v=.ref a/\SqT K H a xs/\xs.length=n/\t xs σ H Q
theorem jav{es:List Expr}{k:Nat}{t:TGs}{n:Nat}(hc:X.calm=true)(h:PGs X es t)
  (hn:(assignEach es X.env).length=n:=by rfl) (hst:(assignEach es X.env).findIdx? (·.1)=none:=by rfl):PG X (.Tuple es k pos) (gTup X.K n t):=by
 intro pins s σ H v u Q I r hw;obtain⟨a,xs,e1,hq,hl,hw⟩:=hw;subst e1;cases r;obtain⟨its,rv,ht,hz⟩:=I.tuple hq;refine assign_Tuple_tuple (I.ok.hd hc) ht (by simp[hn,<- hl,rv.length]) hst λh' hx=>?_;have I1:Inv X pins σ H {s with heap:=h'}:=I.kept (t':=s.toks) λb o e=>hx b o (xt (yt e)) e;exact h pins _ σ H xs _ Q I1 (by simpa using rv) hw
def tAsg(te:TE)(g:TG):TS:=λD σ H=>te σ H λx H1=>g x σ H1 D.nx
theorem j0j{te:TE}{pos':Pos}(hN:X.N.Nodup)(hi:X.N[i]?=some x)(hx:Loc X.env.scope x)(he:PE X e te)(hs:swapsWith e (some (.Name x pos')) pos.line X.env=pure false:=by rfl)(hf:X.fn x=true\/X.env.scope.names.lookup x=some .local:=by first|exact .inl rfl|exact .inr rfl|assumption):
  PS X (.Assign [.Name x pos'] e pos) (tAsg te (j8k i)):=by
 intro pins s σ H D I h;refine wpAny_Assign_Name (thn (he pins s σ H _ I h) λv s1 ⟨y,H1,I1,r1,q1⟩=>?_) hs;exact j7i I1 hN hi hx r1 (λs2 I2=>⟨_,H1,I2,q1⟩) hf
end
structure It where
 go:Nat->Hp->Prop
 yld:Nat->Hp->V->Hp->Prop
 stop:Nat->Hp->Prop
def FpOk(X:Cx)(pins:List (Addr×Obj))(H:Hp)(b:Addr):Prop:=
 H b=none/\b≠X.env.locals/\b∉X.fs/\(b∈X.ex\/X.s₀.heap.objs.size<=b)/\(∀x c,X.env.cells.lookup x=some c->c≠b)/\∀p∈X.pn++pins,p.1≠b
theorem Inv.fpOk{H':Hp}(I:Inv X pins σ H s)(hb:s.heap.objs.size<=b)(hn:H' b=none):FpOk X pins H' b:=by
 refine⟨hn,y27 (ge I.lt hb),I.nofs hb,.inr (gj I.sz hb),λx c e z=>?_,λp hp z=>?_⟩
 ·obtain⟨v,q⟩:=I.cell x c e;exact absurd (ge q.lt (by rw[z];exact hb)) (y2t _)
 ·exact absurd (ge (yt (I.pin p hp).1) (by rw[z];exact hb)) (y2t _)
structure Turn(P:yy)(w:World)(K:y9)(tg:Expr)(J:It)(fp:List Addr)(it:Addr)(tn:Nat->Heap->Prop):Prop where
 mem:it∈fp
 obj:∀i h,tn i h->∀b∈fp,∃o,h.get? b=some o/\∀v,o.data≠.cell v
 keep:∀i h h',tn i h->(∀b∈fp,∀o,h.get? b=some o->h'.get? b=some o)->tn i h'
 item:∀(X:Cx),X.prog=P->X.w=w->X.K=K->X.calm=true->∀(i:Nat) (pins:List (Addr×Obj)) (s:ye) (σ:St) (H:Hp) (E:Value->ye->Prop),Inv X pins σ H s->(∀b∈fp,FpOk X pins H b)->tn i s.heap->J.go i H->
  wpAny (model P w) X.A (pyNext (.ref it)) (λr s1=>∃u,r=some u/\
   wpAny (model P w) X.A (letOwnedTupleGo tg (.ref it) u) (λ_ s2=>∃x H',Inv X pins σ H' s2/\RelV x u/\J.yld i H x H'/\tn (i+1) s2.heap/\∀b∈fp,H' b=none) E s1) E s
 done:∀(X:Cx),X.prog=P->X.w=w->X.K=K->X.calm=true->∀(i:Nat) (pins:List (Addr×Obj)) (s:ye) (σ:St) (H:Hp) (E:Value->ye->Prop),Inv X pins σ H s->(∀b∈fp,FpOk X pins H b)->tn i s.heap->J.stop i H->
  wpAny (model P w) X.A (pyNext (.ref it)) (λr s1=>r=none/\Inv X pins σ H s1) E s
 self:∀(A:gw) (i:Nat) (s:ye) (Q:Value->ye->Prop) (E:Value->ye->Prop),tn i s.heap->Q (.ref it) s->wpAny (model P w) A (pyIter (.ref it)) Q E s
abbrev TI:=St->Hp->(It->Hp->Prop)->Prop
def PIE(X:Cx)(pins:List (Addr×Obj))(σ:St)(tg:Expr)(R:It->Hp->Prop)(itv:Value)(s2:ye):Prop:=
 ∃(it:Addr) (fp:List Addr) (tn:Nat->Heap->Prop) (J:It) (H':Hp),itv=.ref it/\Inv X pins σ H' s2/\Turn X.prog X.w X.K tg J fp it tn/\tn 0 s2.heap/\(∀b∈fp,FpOk X pins H' b)/\R J H'
def PI(X:Cx)(tg iter:Expr)(wi:TI):Prop:=
 ∀(pins:List (Addr×Obj)) (s:ye) (σ:St) (H:Hp) (R:It->Hp->Prop),Inv X pins σ H s->wi σ H R->
  wpAny (model X.prog X.w) X.A (eval iter X.env) (λv s1=>wpAny (model X.prog X.w) X.A (pyIter v) (PIE X pins σ tg R) X.xe s1) X.xe s
theorem jjy{M:Model}{A:gw}{E:Value->ye->Prop}{s:ye}{tg:Expr}{it:Addr}{u:Value}{o:Obj}{n:String}{vs:Array Value}{Q:Unit->ye->Prop}(ho:s.heap.get? it=some o)(hc:o.cls=.type n)(hd:o.data=.fields vs)
  (hn:["enumerate","zip","dict_itemiterator","dict_reverseitemiterator","odict_iterator","itertools.zip_longest","itertools.pairwise"].contains n=false) (hQ:Q () s):wpAny M A (letOwnedTupleGo tg (.ref it) u) Q E s:=by
 unfold letOwnedTupleGo;cases tg<;>first
  |exact y8 hQ
  | (cases u<;>first
    |exact y8 hQ
    | (refine y0 (ya9 ho ?_)
       rw[hc,hd];show wpAny M A (if (["enumerate","zip","dict_itemiterator","dict_reverseitemiterator","odict_iterator","itertools.zip_longest","itertools.pairwise"].contains n&&vs[0]?==some (rawInt _))=true then _ else _) Q E s;rw[if_neg (by intro h;rw[hn,Bool.false_and]at h;cases h)];exact y8 hQ))
def Itl(K:y9)(a:Addr):It:=
 ⟨λi H=>∃xs x,SqL K H a xs/\xs[i]?=some x,λi H x H'=>H'=H/\∀xs,SqL K H a xs->xs[i]?=some x,λi H=>∃xs,SqL K H a xs/\xs.length<=i⟩
def Itt(K:y9)(a:Addr):It:=
 ⟨λi H=>∃xs x,SqT K H a xs/\xs[i]?=some x,λi H x H'=>H'=H/\∀xs,SqT K H a xs->xs[i]?=some x,λi H=>∃xs,SqT K H a xs/\xs.length<=i⟩
def Itr(lo:Int)(n:Nat):It:=⟨λi _=>i<n,λi H x H'=>H'=H/\x=.int (lo+i),λi _=>n<=i⟩
variable{tg:Expr}
theorem jdw(a it:Addr):Turn P w K tg (Itl K a) [it] it (λi h=>h.IsListIter it a i) where
 mem:=by simp
 obj:=λi h st b hb=>by
  have e:b=it:=by simpa using hb
  subst e;obtain⟨o,e,c,d⟩:=st;exact⟨o,e,λv z=>by rw[d]at z;cases z⟩
 keep:=λi h h' st k=>st.at λo e=>k it (by simp) o e
 item:=by
  intro X hP hw hK hc i pins s σ H E I hf st hg;subst hP hw hK;obtain⟨xs,x,hq,hx⟩:=hg;obtain⟨its,rv,p,hz⟩:=I.list hq;obtain⟨u,hu,ru⟩:=rv.get hx;obtain⟨f0,f1,f2,f3,f4,f5⟩:=hf it (by simp);refine wpAny_pyNext_list_item st p.isList (x:=u) (by simpa using hu) λh' st' sb=>?_;have I1:Inv X pins σ H {s with heap:=h'}:=I.turned (t':=s.toks) (λb o hb e=>(sb.2 b hb).trans e) f0 f1 f3 f4 f5;obtain⟨o,e,c,d⟩:=id st';exact⟨u,rfl,jjy (s:={s with heap:=h'}) e c d (by decide) ⟨x,H,I1,ru,⟨rfl,λys hy=>by rw[I.list_inj hy hq];exact hx⟩,st',λb hb=>(hf b hb).1⟩⟩
 done:=by
  intro X hP hw hK hc i pins s σ H E I hf st hg;subst hP hw hK;obtain⟨xs,hq,hx⟩:=hg;obtain⟨its,rv,p,hz⟩:=I.list hq;obtain⟨f0,f1,f2,f3,f4,f5⟩:=hf it (by simp);have hl:=rv.length;exact wpAny_pyNext_list_end (I.ok.hd hc) st p.isList (by simp;omega) λh' eb=>⟨rfl,I.turned (t':=s.toks) (λb o hb e=>eb b o hb e) f0 f1 f3 f4 f5⟩
 self:=λ_ _ _ _ _ st h=>wpAny_pyIter_listiter st h
theorem jaw(a it:Addr):Turn P w K tg (Itt K a) [it] it (λi h=>h.IsTupleIter it a i) where
 mem:=by simp
 obj:=λi h st b hb=>by
  have e:b=it:=by simpa using hb
  subst e;obtain⟨o,e,c,d⟩:=st;exact⟨o,e,λv z=>by rw[d]at z;cases z⟩
 keep:=λi h h' st k=>st.at λo e=>k it (by simp) o e
 item:=by
  intro X hP hw hK hc i pins s σ H E I hf st hg;subst hP hw hK;obtain⟨xs,x,hq,hx⟩:=hg;obtain⟨its,rv,p,hz⟩:=I.tuple hq;obtain⟨u,hu,ru⟩:=rv.get hx;obtain⟨f0,f1,f2,f3,f4,f5⟩:=hf it (by simp);refine wpAny_pyNext_tuple_item st (show s.heap.IsTuple a its.toArray from p) (x:=u) (by simpa using hu) λh' st' sb=>?_;have I1:Inv X pins σ H {s with heap:=h'}:=I.turned (t':=s.toks) (λb o hb e=>(sb.2 b hb).trans e) f0 f1 f3 f4 f5;obtain⟨o,e,c,d⟩:=id st';exact⟨u,rfl,jjy (s:={s with heap:=h'}) e c d (by decide) ⟨x,H,I1,ru,⟨rfl,λys hy=>by rw[I.tuple_inj hy hq];exact hx⟩,st',λb hb=>(hf b hb).1⟩⟩
 done:=by
  intro X hP hw hK hc i pins s σ H E I hf st hg;subst hP hw hK;obtain⟨xs,hq,hx⟩:=hg;obtain⟨its,rv,p,hz⟩:=I.tuple hq;obtain⟨f0,f1,f2,f3,f4,f5⟩:=hf it (by simp);have hl:=rv.length;exact wpAny_pyNext_tuple_end (I.ok.hd hc) st (show s.heap.IsTuple a its.toArray from p) (by simp;omega) λh' eb=>⟨rfl,I.turned (t':=s.toks) (λb o hb e=>eb b o hb e) f0 f1 f3 f4 f5⟩
 self:=λ_ _ _ _ _ st h=>wpAny_pyIter_tupleiter st h
theorem jax(it:Addr)(lo:Int)(n:Nat):Turn P w K tg (Itr lo n) [it] it (λi h=>IsRangeIter h it (lo+(i:Nat)*1) ((n:Int)-(i:Nat)) 1) where
 mem:=by simp
 obj:=λi h st b hb=>by
  have e:b=it:=by simpa using hb
  subst e;exact⟨_,st,λv z=>by
   have z':Data.fields _=Data.cell v:=z;cases z'⟩
 keep:=λi h h' st k=>k it (by simp) _ st
 item:=by
  intro X hP hw hK hc i pins s σ H E I hf st hg;subst hP hw hK;obtain⟨f0,f1,f2,f3,f4,f5⟩:=hf it (by simp);have W:=Walks.range (prog:=X.prog) (w:=X.w) (I.ok.hd hc) it lo 1 n;refine W.item i s _ _ hg st λv h' tk hv st' kk=>?_;obtain⟨t,rfl⟩:=hv;have I1:Inv X pins σ H {s with heap:=h',toks:=tk}:=I.turned (λb o hb e=>kk b o (by simpa using hb) e) f0 f1 f3 f4 f5;refine⟨_,rfl,jjy (s:={s with heap:=h',toks:=tk}) (n:="range_iterator") st' rfl rfl (by decide) ⟨.int (lo+i),H,I1,⟨t,?_⟩,⟨rfl,rfl⟩,st',λb hb=>(hf b hb).1⟩⟩;rw[Int.mul_one]
 done:=by
  intro X hP hw hK hc i pins s σ H E I hf st hg;subst hP hw hK;obtain⟨f0,f1,f2,f3,f4,f5⟩:=hf it (by simp);exact wpAny_pyNext_range_end (I.ok.hd hc) st (by have:n<=i:=hg;omega) λh' eb=>⟨rfl,I.turned (t':=s.toks) (λb o hb e=>eb b o hb e) f0 f1 f3 f4 f5⟩
 self:=λ_ _ _ _ _ st h=>wpAny_pyIter_rangeiter st h
section
variable{X:Cx}{tg:Expr}
def iList(K:y9)(tl:TE):TI:=λσ H R=>tl σ H λx H1=>∃a,x=.ref a/\(∃xs,SqL K H1 a xs)/\R (Itl K a) H1
def iTup(K:y9)(tl:TE):TI:=λσ H R=>tl σ H λx H1=>∃a,x=.ref a/\(∃xs,SqT K H1 a xs)/\R (Itt K a) H1
theorem j1o{l:Expr}{tl:TE}(hl:PE X l tl):PI X tg l (iList X.K tl):=by
 intro pins s σ H R I h;refine thn (hl pins s σ H _ I h) λv s1 ⟨x,H1,I1,r1,q1⟩=>?_;obtain⟨a,e,⟨xs,hq⟩,q⟩:=q1;subst e;cases r1;obtain⟨its,rv,p,hz⟩:=I1.list hq;refine y6q p.isList ?_;refine⟨s1.heap.objs.size,[s1.heap.objs.size],_,_,H1,rfl,I1.kept (t':=s1.toks) λb o e=>yc _ e,jdw a _,⟨_,yi _ rfl,rfl,rfl⟩,λb hb=>?_,q⟩;have e:b=s1.heap.objs.size:=by simpa using hb
 subst e;exact I1.fpOk (yg _) (I1.hok.fresh (yg _))
theorem ja3{l:Expr}{tl:TE}(hl:PE X l tl):PI X tg l (iTup X.K tl):=by
 intro pins s σ H R I h;refine thn (hl pins s σ H _ I h) λv s1 ⟨x,H1,I1,r1,q1⟩=>?_;obtain⟨a,e,⟨xs,hq⟩,q⟩:=q1;subst e;cases r1;obtain⟨its,rv,p,hz⟩:=I1.tuple hq;refine y67 (show s1.heap.IsTuple a its.toArray from p) ?_;refine⟨s1.heap.objs.size,[s1.heap.objs.size],_,_,H1,rfl,I1.kept (t':=s1.toks) λb o e=>yc _ e,jaw a _,⟨_,yi _ rfl,rfl,rfl⟩,λb hb=>?_,q⟩;have e:b=s1.heap.objs.size:=by simpa using hb
 subst e;exact I1.fpOk (yg _) (I1.hok.fresh (yg _))
theorem jh6{R:It->Hp->Prop}{E:Value->ye->Prop}{lo hi:Int}{t u v:Tok}{tk:Nat}(I:Inv X pins σ H s)(h1:-(2 ^ 62)<=lo)(h2:lo<2 ^ 62)(h3:-(2 ^ 62)<=hi)(h4:hi<2 ^ 62)
  (q:R (Itr lo (hi-lo).toNat) H):wpAny (model X.prog X.w) X.A (pyIter (.ref s.heap.objs.size)) (PIE X pins σ tg R) E {s with heap:=s.heap.push {cls:=.type "range",data:=.fields #[.int lo t,.int hi u,.int 1 v]},toks:=tk}:=by
 refine wpAny_pyIter_range (ydd ..) (small_one h1 h2 h3 h4) ?_;have I1:Inv X pins σ H {s with heap:=s.heap.push {cls:=.type "range",data:=.fields #[.int lo t,.int hi u,.int 1 v]},toks:=tk}:=I.kept λb o e=>yc _ e;refine⟨(s.heap.push {cls:=.type "range",data:=.fields #[.int lo t,.int hi u,.int 1 v]}).objs.size,[(s.heap.push {cls:=.type "range",data:=.fields #[.int lo t,.int hi u,.int 1 v]}).objs.size],_,_,H,rfl,
  I1.kept (t':=tk) λb o e=>yc _ e,jax _ lo (hi-lo).toNat,?_,λb hb=>?_,q⟩
 ·have e1:lo+((0:Nat):Int)*1=lo:=by simp
  have e2:(((hi-lo).toNat:Nat):Int)-((0:Nat):Int)=y6s lo hi 1:=by rw[rangeSize_one];split<;>omega
  show IsRangeIter _ _ (lo+((0:Nat):Int)*1) ((((hi-lo).toNat:Nat):Int)-((0:Nat):Int)) 1;rw[e1,e2];exact yi _ rfl
 ·have e:b=(s.heap.push {cls:=.type "range",data:=.fields #[.int lo t,.int hi u,.int 1 v]}).objs.size:=by simpa using hb
  subst e;exact I1.fpOk (yg _) (I1.hok.fresh (yg _))
def iRng1(ta:TA):TI:=λσ H R=>ta σ H λvs H1=>∃j:Int,vs=[.int j]/\-(2 ^ 62)<=j/\j<2 ^ 62/\R (Itr 0 j.toNat) H1
theorem j0k{a:Expr}{ta:TA}{p pos:Pos}(hg:Gl X "range")(hm:X.mg "range"=none)(ha:PA X [a] ta)(hs:starEach [a] X.env=[(false,eval a X.env)]:=by rfl):PI X tg (.Call (.Name "range" p) [a] [] pos) (iRng1 ta):=by
 intro pins s σ H R I h;refine Call_ (j52 I hg hm boot_range (ur (thn (ha pos pins s σ H _ I h) λus s1 ⟨vs,H1,I1,r1,q1⟩=>?_) hs rfl));obtain⟨j,e,q1,q2,q⟩:=q1;subst e;cases r1 with
 |cons r rr=>
  cases rr;obtain⟨t,rfl⟩:=r;exact call_range_1 (jh6 I1 (by omega) (by omega) q1 q2 (by simpa using q))
def tFor(wi:TI)(g:TG)(tb:TS):TS:=λD σ H=>wi σ H λJ H1=>∃W:Nat->Nat->St->Hp->Prop,(∃m,W 0 m σ H1)/\∀i m σ H,W i m σ H->
 (J.stop i H/\D.nx σ H)\/(J.go i H/\∃N:St->Hp->Prop,(∀σ' H',N σ' H'->∃m',m'<m/\W (i+1) m' σ' H')/\∀x H',J.yld i H x H'->g x σ H' λσ2 H2=>tb {D with nx:=N,ct:=N,bk:=D.nx} σ2 H2)
def jay(fp:List Addr)(h:Heap):List (Addr×Obj):=fp.filterMap λb=>(h.get? b).map λo=>(b,o)
theorem j2i{fp:List Addr}{o:Obj}(hb:b∈fp)(e:h.get? b=some o):(b,o)∈jay fp h:=y3x.mpr ⟨b,hb,by rw[e];rfl⟩
theorem jdx{fp:List Addr}{h:Heap}{p:Addr×Obj}(hp:p∈jay fp h):p.1∈fp/\h.get? p.1=some p.2:=by
 obtain⟨b,hb,e⟩:=y3x.mp hp;cases q:h.get? b with
 |none=>rw[q]at e;cases e
 |some o=>
  rw[q]at e;have e':(b,o)=p:=gf e;subst e';exact⟨hb,q⟩
theorem Inv.pinned{fp:List Addr}(I:Inv X pins σ H s)(hf:∀b∈fp,FpOk X pins H b)(ho:∀b∈fp,∃o,s.heap.get? b=some o/\∀v,o.data≠.cell v):Inv X (pins++jay fp s.heap) σ H s:=
 I.pins_of λp hp=>(x0.mp hp).elim (λz=>I.pin p (yz _ z)) λz=>by
  obtain⟨hb,e⟩:=jdx z;obtain⟨f0,f1,f2,_⟩:=hf p.1 hb;obtain⟨o,e',d⟩:=ho p.1 hb;rw[e]at e';cases e';exact⟨e,f0,f1,f2,d⟩
theorem Inv.unpinned{pl:List (Addr×Obj)}(I:Inv X (pins++pl) σ H s):Inv X pins σ H s:=I.pins_of λp hp=>I.pin p (yz _ (gr _ hp))
theorem j1t{iter:Expr}{body:List Stmt}{wi:TI}{g:TG}{tb:TS}{pos:Pos}(hp:PassesOwn (model X.prog X.w) X.A X.env X.xe)(hc:X.calm=true)(hi:PI X tg iter wi)(hg:PG X tg g)(hb:PSs X body tb)
  (hs:∀x,foldedSetIterable iter X.env x=pure x:=by intro _;rfl):PS X (.For tg iter body [] pos) (tFor wi g tb):=by
 intro pins s σ H D I h;refine wpAny_For (thn (hi pins s σ H _ I h) λv s1 h1=>thn h1 λitv s2 h2=>?_) hs;obtain⟨it,fp,tn,J,H2,e,I2,T,st2,f2,W,⟨m0,w0⟩,turn⟩:=h2;subst e;have stat:∀{H':Hp},(∀b∈fp,H' b=none)->∀b∈fp,FpOk X pins H' b:=λhn b hb=>⟨hn b hb,(f2 b hb).2⟩
 refine codeAny_forLoop_any (λn s'=>∃i σ' H',Inv X pins σ' H' s'/\tn i s'.heap/\(∀b∈fp,H' b=none)/\W i n σ' H') ?_ m0 ⟨0,σ,H2,I2,st2,λb hb=>(f2 b hb).1,w0⟩;rintro n s3 ⟨i,σ3,H3,I3,st3,fr3,w3⟩;rcases turn i n σ3 H3 w3 with⟨stop,qn⟩|⟨go,N,hN,step⟩
 ·refine y49 hp (thn (T.done X rfl rfl rfl hc i pins s3 σ3 H3 X.xe I3 (stat fr3) st3 stop) λr s4 ⟨hr,I4⟩=>?_);subst hr;exact y88 ⟨σ3,H3,I4,qn⟩
 ·refine y49 hp (thn (T.item X rfl rfl rfl hc i pins s3 σ3 H3 X.xe I3 (stat fr3) st3 go) λr s4 ⟨u,hr,h4⟩=>?_);subst hr;refine y49 hp (thn h4 λ_ s5 ⟨x,H5,I5,r5,y5,st5,fr5⟩=>?_);have I5':=I5.pinned (stat fr5) (T.obj _ _ st5);refine y49 hp (thn (hg _ s5 σ3 H5 x u _ I5' r5 (step x H5 y5)) λ_ s6 ⟨σ6,H6,I6,q6⟩=>?_);refine y49 hp (thn (hb _ s6 σ6 H6 _ I6 q6) λf s7 q7=>?_);have again:∀{σ7:St}{H7:Hp},Inv X (pins++jay fp s5.heap) σ7 H7 s7->N σ7 H7->∃m,m<n/\∃i σ' H',Inv X pins σ' H' s7/\tn i s7.heap/\(∀b∈fp,H' b=none)/\W i m σ' H':=λ{σ7 H7} I7 n7=>by
   obtain⟨m',hm,w7⟩:=hN σ7 H7 n7;refine⟨m',hm,i+1,σ7,H7,I7.unpinned,T.keep _ _ _ st5 λb hb o e=>(I7.pin (b,o) (yz _ (yz _ (j2i hb e)))).1,λb hb=>?_,w7⟩;obtain⟨o,e,d⟩:=T.obj _ _ st5 b hb;exact(I7.pin (b,o) (yz _ (yz _ (j2i hb e)))).2.1
  cases f with
  |next=>obtain⟨σ7,H7,I7,n7⟩:=q7;exact again I7 n7
  |cont=>obtain⟨σ7,H7,I7,n7⟩:=q7;exact again I7 n7
  |brk=>obtain⟨σ7,H7,I7,q7⟩:=q7;exact⟨σ7,H7,I7.unpinned,q7⟩
  |ret v=>obtain⟨x7,σ7,H7,I7,r7,q7⟩:=q7;exact⟨x7,σ7,H7,I7.unpinned,r7,q7⟩
end
variable{xs:List V}
theorem j2t{g:TG}{tb:TS}{D:Ends}(Pv:Nat->St->Hp->Prop)(h0:Pv 0 σ H)(hl:∀i σ H,i<=xs.length->Pv i σ H->SqL K H a xs)
  (hs:∀i x σ H,xs[i]?=some x->Pv i σ H->g x σ H λσ2 H2=>tb {D with nx:=Pv (i+1),ct:=Pv (i+1),bk:=D.nx} σ2 H2) (hd:∀σ H,Pv xs.length σ H->D.nx σ H):
  ∃W:Nat->Nat->St->Hp->Prop,(∃m,W 0 m σ H)/\∀i m σ H,W i m σ H->
   ((Itl K a).stop i H/\D.nx σ H)\/((Itl K a).go i H/\∃N:St->Hp->Prop,(∀σ' H',N σ' H'->∃m',m'<m/\W (i+1) m' σ' H')/\∀x H',(Itl K a).yld i H x H'->g x σ H' λσ2 H2=>tb {D with nx:=N,ct:=N,bk:=D.nx} σ2 H2):=by
 refine⟨λi m σ H=>m=xs.length-i/\i<=xs.length/\Pv i σ H,⟨xs.length,by simp,gm _,h0⟩,?_⟩;rintro i m σ H ⟨rfl,hi,p⟩;have q:=hl i σ H hi p;by_cases hlt:i<xs.length
 ·refine .inr ⟨⟨xs,xs[i],q,by simp[hlt]⟩,Pv (i+1),λσ' H' p'=>⟨xs.length-(i+1),by omega,rfl,hlt,p'⟩,λx H' y=>?_⟩;obtain⟨e,y⟩:=y;subst e;exact hs i x σ _ (y xs q) p
 ·have e:i=xs.length:=by omega
  subst e;exact .inl ⟨⟨xs,q,yg _⟩,hd σ H p⟩
theorem jjz{g:TG}{tb:TS}{D:Ends}(Pv:Nat->St->Hp->Prop)(h0:Pv 0 σ H)(hl:∀i σ H,i<=xs.length->Pv i σ H->SqT K H a xs)
  (hs:∀i x σ H,xs[i]?=some x->Pv i σ H->g x σ H λσ2 H2=>tb {D with nx:=Pv (i+1),ct:=Pv (i+1),bk:=D.nx} σ2 H2) (hd:∀σ H,Pv xs.length σ H->D.nx σ H):
  ∃W:Nat->Nat->St->Hp->Prop,(∃m,W 0 m σ H)/\∀i m σ H,W i m σ H->
   ((Itt K a).stop i H/\D.nx σ H)\/((Itt K a).go i H/\∃N:St->Hp->Prop,(∀σ' H',N σ' H'->∃m',m'<m/\W (i+1) m' σ' H')/\∀x H',(Itt K a).yld i H x H'->g x σ H' λσ2 H2=>tb {D with nx:=N,ct:=N,bk:=D.nx} σ2 H2):=by
 refine⟨λi m σ H=>m=xs.length-i/\i<=xs.length/\Pv i σ H,⟨xs.length,by simp,gm _,h0⟩,?_⟩;rintro i m σ H ⟨rfl,hi,p⟩;have q:=hl i σ H hi p;by_cases hlt:i<xs.length
 ·refine .inr ⟨⟨xs,xs[i],q,by simp[hlt]⟩,Pv (i+1),λσ' H' p'=>⟨xs.length-(i+1),by omega,rfl,hlt,p'⟩,λx H' y=>?_⟩;obtain⟨e,y⟩:=y;subst e;exact hs i x σ _ (y xs q) p
 ·have e:i=xs.length:=by omega
  subst e;exact .inl ⟨⟨xs,q,yg _⟩,hd σ H p⟩
theorem j12{lo:Int}{n:Nat}{g:TG}{tb:TS}{D:Ends}(Pv:Nat->St->Hp->Prop)(h0:Pv 0 σ H)
  (hs:∀i σ H,i<n->Pv i σ H->g (.int (lo+i)) σ H λσ2 H2=>tb {D with nx:=Pv (i+1),ct:=Pv (i+1),bk:=D.nx} σ2 H2) (hd:∀σ H,Pv n σ H->D.nx σ H):
  ∃W:Nat->Nat->St->Hp->Prop,(∃m,W 0 m σ H)/\∀i m σ H,W i m σ H->
   ((Itr lo n).stop i H/\D.nx σ H)\/((Itr lo n).go i H/\∃N:St->Hp->Prop,(∀σ' H',N σ' H'->∃m',m'<m/\W (i+1) m' σ' H')/\∀x H',(Itr lo n).yld i H x H'->g x σ H' λσ2 H2=>tb {D with nx:=N,ct:=N,bk:=D.nx} σ2 H2):=by
 refine⟨λi m σ H=>m=n-i/\i<=n/\Pv i σ H,⟨n,by simp,gm _,h0⟩,?_⟩;rintro i m σ H ⟨rfl,hi,p⟩;by_cases hlt:i<n
 ·refine .inr ⟨hlt,Pv (i+1),λσ' H' p'=>⟨n-(i+1),by omega,rfl,hlt,p'⟩,λx H' y=>?_⟩;obtain⟨e,y⟩:=y;subst e y;exact hs i σ _ hlt p
 ·have e:i=n:=by omega
  subst e;exact .inl ⟨yg _,hd σ H p⟩
abbrev R2:=V->V->Hp->VK->Prop
def OpR(X:Cx)(f:Value->Value->Sem Value)(r:R2):Prop:=
 ∀(pins:List (Addr×Obj)) (s:ye) (σ:St) (H:Hp) (x y:V) (v u:Value) (Q:VK),Inv X pins σ H s->RelV x v->RelV y u->r x y H Q->
  wpAny (model X.prog X.w) X.A (f v u) (EP X pins σ Q) X.xe s
def UnR(X:Cx)(f:Value->Sem Value)(r:V->Hp->VK->Prop):Prop:=
 ∀(pins:List (Addr×Obj)) (s:ye) (σ:St) (H:Hp) (x:V) (v:Value) (Q:VK),Inv X pins σ H s->RelV x v->r x H Q->
  wpAny (model X.prog X.w) X.A (f v) (EP X pins σ Q) X.xe s
def CallR(X:Cx)(f:Value)(r:List V->Hp->VK->Prop):Prop:=
 ∀(pins:List (Addr×Obj)) (s:ye) (σ:St) (H:Hp) (xs:List V) (us:List Value) (Q:VK),Inv X pins σ H s->Vals xs us->r xs H Q->
  wpAny (model X.prog X.w) X.A (call f us) (EP X pins σ Q) X.xe s
def TruR(X:Cx)(r:V->Hp->(Bool->Hp->Prop)->Prop):Prop:=
 ∀(pins:List (Addr×Obj)) (s:ye) (σ:St) (H:Hp) (x:V) (v:Value) (Q:Bool->Hp->Prop),Inv X pins σ H s->RelV x v->r x H Q->
  wpAny (model X.prog X.w) X.A (truthy v) (TP X pins σ Q) X.xe s
def tOp(r:R2)(ta tb:TE):TE:=λσ H Q=>ta σ H λx H1=>tb σ H1 λy H2=>r x y H2 Q
def tUn(r:V->Hp->VK->Prop)(ta:TE):TE:=λσ H Q=>ta σ H λx H1=>r x H1 Q
def rI(C:Int->Int->Prop)(g:Int->Int->V):R2:=λx y H Q=>∃i j,x=.int i/\y=.int j/\C i j/\Q (g i j) H
def rI0(g:Int->Int->V):R2:=λx y H Q=>∃i j,x=.int i/\y=.int j/\Q (g i j) H
def rU(g:Int->V):V->Hp->VK->Prop:=λx H Q=>∃i,x=.int i/\Q (g i) H
variable{r:R2}
section
variable{X:Cx}{a b c:Expr}{ta tb tc:TE}{pos:Pos}
theorem binT(ha:PE X a ta)(hb:PE X b tb){R:V->V->Hp->Prop}(I:Inv X pins σ H s)
  (h:ta σ H λx H1=>tb σ H1 λy H2=>R x y H2) {Q:Value->ye->Prop}{f:Value->Value->Sem Value}
  (hf:∀v u s2 x y H2,Inv X pins σ H2 s2->RelV x v->RelV y u->R x y H2->wpAny (model X.prog X.w) X.A (f v u) Q X.xe s2):
  wpAny (model X.prog X.w) X.A (eval a X.env) (λv s₁=>wpAny (model X.prog X.w) X.A (eval b X.env) (λu s₂=>wpAny (model X.prog X.w) X.A (f v u) Q X.xe s₂) X.xe s₁) X.xe s:=by
 refine thn (ha pins s σ H _ I h) λv s1 ⟨x,H1,I1,r1,q1⟩=>?_;refine thn (hb pins s1 σ H1 _ I1 q1) λu s2 ⟨y,H2,I2,r2,q2⟩=>?_;exact hf v u s2 x y H2 I2 r1 r2 q2
theorem j0b{op:Operator}(ho:OpR X (binaryOp op) r)(ha:PE X a ta)(hb:PE X b tb):PE X (.BinOp a op b pos) (tOp r ta tb):=by
 intro pins s σ H Q I h;exact wpAny_BinOp (binT ha hb I h λv u s2 x y H2 I2 rx ry q=>ho pins s2 σ H2 x y v u Q I2 rx ry q)
theorem pe_un{op:UnaryOp}{r:V->Hp->VK->Prop}(ho:UnR X (unaryOp op) r)(ha:PE X a ta):PE X (.UnaryOp op a pos) (tUn r ta):=by
 intro pins s σ H Q I h;exact UnaryOp_ (thn (ha pins s σ H _ I h) λv s1 ⟨x,H1,I1,r1,q1⟩=>ho pins s1 σ H1 x v Q I1 r1 q1)
theorem opI{f:Value->Value->Sem Value}{C:Int->Int->Prop}{g:Int->Int->Int}
  (rule:∀(i j:Int) (t u:Tok) (s:ye) (Q:Value->ye->Prop) (E:Value->ye->Prop),C i j->Q (.int (g i j) s.toks) {s with toks:=s.toks+1}->wpAny (model X.prog X.w) X.A (f (.int i t) (.int j u)) Q E s):
  OpR X f (rI C λi j=>.int (g i j)):=by
 intro pins s σ H x y v u Q I rx ry h;obtain⟨i,j,rfl,rfl,hc,q⟩:=h;obtain⟨t,rfl⟩:=rx;obtain⟨t',rfl⟩:=ry;exact rule i j t t' s _ _ hc ⟨.int (g i j),H,I.tok _,⟨_,rfl⟩,q⟩
theorem opI0{f:Value->Value->Sem Value}{g:Int->Int->Int}
  (rule:∀(i j:Int) (t u:Tok) (s:ye) (Q:Value->ye->Prop) (E:Value->ye->Prop),Q (.int (g i j) s.toks) {s with toks:=s.toks+1}->wpAny (model X.prog X.w) X.A (f (.int i t) (.int j u)) Q E s):
  OpR X f (rI0 λi j=>.int (g i j)):=by
 intro pins s σ H x y v u Q I rx ry h;obtain⟨i,j,rfl,rfl,q⟩:=h;obtain⟨t,rfl⟩:=rx;obtain⟨t',rfl⟩:=ry;exact rule i j t t' s _ _ ⟨.int (g i j),H,I.tok _,⟨_,rfl⟩,q⟩
theorem opB0{f:Value->Value->Sem Value}{g:Int->Int->Bool}
  (rule:∀(i j:Int) (t u:Tok) (s:ye) (Q:Value->ye->Prop) (E:Value->ye->Prop),Q (.bool (g i j)) s->wpAny (model X.prog X.w) X.A (f (.int i t) (.int j u)) Q E s):
  OpR X f (rI0 λi j=>.bl (g i j)):=by
 intro pins s σ H x y v u Q I rx ry h;obtain⟨i,j,rfl,rfl,q⟩:=h;obtain⟨t,rfl⟩:=rx;obtain⟨t',rfl⟩:=ry;exact rule i j t t' s _ _ ⟨.bl (g i j),H,I,rfl,q⟩
def CPow(i j:Int):Prop:=0<=j/\j<=1000000/\i.natAbs<2 ^ 64
theorem op_add:OpR X (binaryOp .Add) (rI0 λi j=>.int (i+j)):=opI0 λ_ _ _ _ _ _ _ q=>add_int q
theorem j4g:OpR X (binaryOp .Sub) (rI0 λi j=>.int (i-j)):=opI0 λ_ _ _ _ _ _ _ q=>sub_int q
theorem j0q:OpR X (binaryOp .Mod) (rI (λ_ j=>0<j) λi j=>.int (i%j)):=opI λi j _ _ _ _ _ hc q=>by
 have h1:(0:Int)<j:=hc;exact mod_int' (by omega) (by rw[Int.fmod_eq_emod_of_nonneg i (by omega)];exact q)
theorem j53:OpR X (binaryOp .Pow) (rI CPow λi j=>.int (i ^ j.toNat)):=opI λ_ _ _ _ _ _ _ hc q=>pow_int_small hc.1 hc.2.1 hc.2.2 q
theorem unI{f:Value->Sem Value}{g:Int->Int}
  (rule:∀(i:Int) (t:Tok) (s:ye) (Q:Value->ye->Prop) (E:Value->ye->Prop),Q (.int (g i) s.toks) {s with toks:=s.toks+1}->wpAny (model X.prog X.w) X.A (f (.int i t)) Q E s):
  UnR X f (rU λi=>.int (g i)):=by
 intro pins s σ H x v Q I rx h;obtain⟨i,rfl,q⟩:=h;obtain⟨t,rfl⟩:=rx;exact rule i t s _ _ ⟨.int (g i),H,I.tok _,⟨_,rfl⟩,q⟩
theorem jk0:UnR X (unaryOp .USub) (rU λi=>.int (-i)):=unI λ_ _ _ _ _ q=>neg_int q
end
def scal:V->V->Bool
 | .non,.non=>true | .non,.int _=>true | .int _,.non=>true | .non,.bl _=>true | .bl _,.non=>true | .non,.str _=>true | .str _,.non=>true
 | .int _,.int _=>true | .bl _,.bl _=>true | .str _,.str _=>true | .byt _,.byt _=>true
 | .int _,.str _=>true | .str _,.int _=>true | .bl _,.str _=>true | .str _,.bl _=>true
 |_,_=>false
def rEq:R2:=λx y H Q=>scal x y=true/\Q (.bl (decide (x=y))) H
def rNe:R2:=λx y H Q=>scal x y=true/\Q (.bl (!decide (x=y))) H
theorem jfv{i j:Int}:decide (V.int i=V.int j)=(i==j):=by
 rw[y1s];simp
theorem jk1{i j:Bool}:decide (V.bl i=V.bl j)=(i==j):=by
 rw[y1s];simp
theorem jfw{i j:Str}:decide (V.str i=V.str j)=(i==j):=by
 rw[y1s];simp
theorem jfx{i j:Array UInt8}:decide (V.byt i=V.byt j)=(i.toList==j.toList):=by
 rw[y1s];cases i;cases j;simp
variable{op:CmpOp}
section
variable{X:Cx}{a b c:Expr}{ta tb tc:TE}{pos:Pos}
theorem j0y{Q:VK}{k k':Bool}(I:Inv X pins σ H s)(q:Q (.bl k) H)(e:k=k'):EP X pins σ Q (.bool k') s:=by
 subst e;exact⟨.bl k,H,I,rfl,q⟩
theorem op_eq:OpR X (compareOp .Eq) rEq:=by
 intro pins s σ H x y v u Q I rx ry h;obtain⟨hs,q⟩:=h;cases x with
 |non=>
  cases rx;cases y with
  |non=>cases ry;exact ybo (j0y I q (by simp))
  |bl j=>cases ry;exact ybn (j0y I q (by simp))
  |int j=>obtain⟨t',rfl⟩:=ry;exact yc4 (j0y I q (by simp))
  |str j=>obtain⟨t',rfl⟩:=ry;exact yc5 (j0y I q (by simp))
  |_=>exact absurd (show false=true from hs) xb
 |bl i=>
  cases rx;cases y with
  |non=>cases ry;exact ybm (j0y I q (by simp))
  |bl j=>cases ry;exact eq_bool (j0y I q jk1)
  |str j=>obtain⟨t',rfl⟩:=ry;exact ybi (j0y I q (by simp))
  |_=>exact absurd (show false=true from hs) xb
 |int i=>
  obtain⟨t,rfl⟩:=rx;cases y with
  |non=>cases ry;exact yc3 (j0y I q (by simp))
  |int j=>obtain⟨t',rfl⟩:=ry;exact eq_int (j0y I q jfv)
  |str j=>obtain⟨t',rfl⟩:=ry;exact ybz (j0y I q (by simp))
  |_=>exact absurd (show false=true from hs) xb
 |str i=>
  obtain⟨t,rfl⟩:=rx;cases y with
  |non=>cases ry;exact yc6 (j0y I q (by simp))
  |bl j=>cases ry;exact ybj (j0y I q (by simp))
  |int j=>obtain⟨t',rfl⟩:=ry;exact yc0 (j0y I q (by simp))
  |str j=>obtain⟨t',rfl⟩:=ry;exact eq_str (j0y I q jfw)
  |_=>exact absurd (show false=true from hs) xb
 |byt i=>
  obtain⟨t,rfl⟩:=rx;cases y with
  |byt j=>obtain⟨t',rfl⟩:=ry;exact PySem.W.eq_bytes (j0y I q jfx)
  |_=>exact absurd (show false=true from hs) xb
 |_=>cases y<;>exact absurd (show false=true from hs) xb
theorem jh7:OpR X (compareOp .NotEq) rNe:=by
 intro pins s σ H x y v u Q I rx ry h;obtain⟨hs,q⟩:=h;cases x with
 |non=>
  cases rx;cases y with
  |non=>cases ry;exact ybr (j0y I q (by simp))
  |bl j=>cases ry;exact ybq (j0y I q (by simp))
  |int j=>obtain⟨t',rfl⟩:=ry;exact yc8 (j0y I q (by simp))
  |str j=>obtain⟨t',rfl⟩:=ry;exact yc9 (j0y I q (by simp))
  |_=>exact absurd (show false=true from hs) xb
 |bl i=>
  cases rx;cases y with
  |non=>cases ry;exact ybp (j0y I q (by simp))
  |bl j=>cases ry;exact ne_bool (j0y I q (congrArg not jk1))
  |str j=>obtain⟨t',rfl⟩:=ry;exact ybk (j0y I q (by simp))
  |_=>exact absurd (show false=true from hs) xb
 |int i=>
  obtain⟨t,rfl⟩:=rx;cases y with
  |non=>cases ry;exact yc7 (j0y I q (by simp))
  |int j=>obtain⟨t',rfl⟩:=ry;exact ne_int (j0y I q (congrArg not jfv))
  |str j=>obtain⟨t',rfl⟩:=ry;exact yc1 (j0y I q (by simp))
  |_=>exact absurd (show false=true from hs) xb
 |str i=>
  obtain⟨t,rfl⟩:=rx;cases y with
  |non=>cases ry;exact yca (j0y I q (by simp))
  |bl j=>cases ry;exact ybl (j0y I q (by simp))
  |int j=>obtain⟨t',rfl⟩:=ry;exact yc2 (j0y I q (by simp))
  |str j=>obtain⟨t',rfl⟩:=ry;exact ne_str (j0y I q (congrArg not jfw))
  |_=>exact absurd (show false=true from hs) xb
 |byt i=>
  obtain⟨t,rfl⟩:=rx;cases y with
  |byt j=>obtain⟨t',rfl⟩:=ry;exact PySem.W.ne_bytes (j0y I q (congrArg not jfx))
  |_=>exact absurd (show false=true from hs) xb
 |_=>cases y<;>exact absurd (show false=true from hs) xb
theorem jnn:OpR X (compareOp .Lt) (rI0 λi j=>.bl (decide (i<j))):=opB0 λ_ _ _ _ _ _ _ q=>lt_int q
theorem op_le:OpR X (compareOp .LtE) (rI0 λi j=>.bl (decide (i<=j))):=opB0 λ_ _ _ _ _ _ _ q=>le_int q
theorem jno:OpR X (compareOp .Gt) (rI0 λi j=>.bl (decide (j<i))):=opB0 λ_ _ _ _ _ _ _ q=>gt_int q
theorem op_isN:OpR X (compareOp .Is) (λx y H Q=>y=.non/\Q (.bl (decide (x=.non))) H):=by
 intro pins s σ H x y v u Q I rx ry h;obtain⟨rfl,q⟩:=h;cases ry;refine is_none_gen (j0y I q ?_);cases x<;>first
  |(cases rx;rfl)
  |(obtain⟨t,rfl⟩:=rx;rfl)
theorem jk2:OpR X (compareOp .IsNot) (λx y H Q=>y=.non/\Q (.bl (!decide (x=.non))) H):=by
 intro pins s σ H x y v u Q I rx ry h;obtain⟨rfl,q⟩:=h;cases ry;refine isnot_none_gen (j0y I q ?_);cases x<;>first
  |(cases rx;rfl)
  |(obtain⟨t,rfl⟩:=rx;rfl)
theorem OpR.or{f:Value->Value->Sem Value}{r':R2}(h:OpR X f r)(h':OpR X f r'):OpR X f (λx y H Q=>r x y H Q\/r' x y H Q):=by
 intro pins s σ H x y v u Q I rx ry q;rcases q with q|q
 ·exact h pins s σ H x y v u Q I rx ry q
 ·exact h' pins s σ H x y v u Q I rx ry q
theorem j0f(b:Expr)(h:op≠.In:=by decide)(h2:op≠.NotIn:=by decide):behindInMarks op b=false:=by
 have e1:(op==CmpOp.In)=false:=by cases op<;>first|rfl|exact absurd rfl h
 have e2:(op==CmpOp.NotIn)=false:=by cases op<;>first|rfl|exact absurd rfl h2
 cases b<;>simp[behindInMarks,e1,e2]
theorem j33(ho:OpR X (compareOp op) r)(ha:PE X a ta)(hb:PE X b tb)(hm:behindInMarks op b=false):PE X (.Compare a [op] [b] pos) (tOp r ta tb):=by
 intro pins s σ H Q I h;exact wpAny_Compare1 (binT ha hb I h λv u s2 x y H2 I2 rx ry q=>ho pins s2 σ H2 x y v u Q I2 rx ry q) hm
def tTest(t:TE):TT:=λσ H Q=>t σ H λx H'=>∃k,x=.bl k/\Q k H'
theorem j0a(ho:OpR X (compareOp op) r)(ha:PE X a ta)(hb:PE X b tb)(hm:behindInMarks op b=false):PT X (.Compare a [op] [b] pos) (tTest (tOp r ta tb)):=by
 intro pins s σ H Q I h;refine wpAny_isTrue_Compare1 (thn (ha pins s σ H _ I h) λv s1 ⟨x,H1,I1,r1,q1⟩=>thn (hb pins s1 σ H1 _ I1 q1) λu s2 ⟨y,H2,I2,r2,q2⟩=>
  thn (ho pins s2 σ H2 x y v u _ I2 r1 r2 q2) λc s3 ⟨z,H3,I3,r3,k,e,q3⟩=>?_) hm
 subst e;cases r3;exact y4l ⟨H3,I3,q3⟩
def TruV(K:y9)(x:V)(H:Hp)(k:Bool):Prop:=
 match x with
 | .non=>k=false
 | .bl b=>k=b
 | .int i=>k=(i !=0)
 | .str y=>y.length<=sizeLine/\k=((y.length:Int) !=0)
 | .byt y=>y.size<=sizeLine/\k=((y.size:Int) !=0)
 | .ref p=>(∃xs,SqL K H p xs/\k=!xs.isEmpty)\/(∃xs,SqT K H p xs/\k=!xs.isEmpty)\/∃kvs,H p=some (.dK kvs)/\k=!kvs.isEmpty
 |_=>False
theorem jaz{κ:Type}{kvs:List (κ×V)}{vs:List (κ×Value)}(r:KV kvs vs):(!vs.isEmpty)=!kvs.isEmpty:=by
 cases r<;>rfl
theorem j64{its:List Value}(r:Vals xs its):(!its.toArray.isEmpty)=!xs.isEmpty:=by
 cases r<;>simp
theorem ja4:(sizeLine:Nat)<2 ^ 63:=by rw[xo];decide
theorem tru_ok:TruR X (λx H Q=>∃k,TruV X.K x H k/\Q k H):=by
 intro pins s σ H x v Q I rx h;obtain⟨k,e,q⟩:=h;have hl:=ja4;have hs:sizeLine=16777216:=xo;cases x with
 |non=>
  cases rx;have e':k=false:=e;subst e';exact truthy_none ⟨H,I,q⟩
 |bl b=>
  cases rx;have e':k=b:=e;subst e';exact y4l ⟨H,I,q⟩
 |int i=>
  obtain⟨t,rfl⟩:=rx;have e':k=(i !=0):=e;subst e';exact PySem.P.truthy_int ⟨H,I,q⟩
 |str y=>
  obtain⟨t,rfl⟩:=rx;obtain⟨hy,e'⟩:y.length<=sizeLine/\k=((y.length:Int) !=0):=e;subst e';exact PySem.P.truthy_str (by omega) ⟨H,I.tok _,q⟩
 |byt y=>
  obtain⟨t,rfl⟩:=rx;obtain⟨hy,e'⟩:y.size<=sizeLine/\k=((y.size:Int) !=0):=e;subst e';exact PySem.W.truthy_bytes (by omega) ⟨H,I.tok _,q⟩
 |ref p=>
  cases rx;have e':(∃xs,SqL X.K H p xs/\k=!xs.isEmpty)\/(∃xs,SqT X.K H p xs/\k=!xs.isEmpty)\/∃kvs,H p=some (.dK kvs)/\k=!kvs.isEmpty:=e;rcases e' with⟨xs,hx,e'⟩|⟨xs,hx,e'⟩|⟨kvs,hx,e'⟩
  ·subst e';obtain⟨its,r,pl,hz⟩:=I.list hx;have hlen:=r.length;exact wpAny_truthy_list pl.isList (by simp only[yj];omega) ⟨H,I.tok _,by rw[j64 r];exact q⟩
  ·subst e';obtain⟨its,r,pl,hz⟩:=I.tuple hx;have hlen:=r.length;exact truthy_tuple pl (by simp only[yj];omega) ⟨H,I.tok _,by rw[j64 r];exact q⟩
  ·subst e';obtain⟨hz,hS,vs,r,m⟩:kvs.length<=sizeLine/\(p==sysModules)=false/\∃vs,KV kvs vs/\s.heap.DictOf (j0h X.prog X.w) p vs:=I.hok p _ hx;have hlen:kvs.length=vs.length:=y40 r;exact wpAny_truthy_dict hS m (by omega) ⟨H,I.tok _,by rw[jaz r];exact q⟩
 |_=>exact(show False from e).elim
theorem jh8(ha:PE X a ta)(he:∀whole,isTrue a X.env whole=(do let v <- whole;standAt a.pos;holding [v] (truthy v))):
  PT X a (λσ H Q=>ta σ H λx H'=>∃k,TruV X.K x H' k/\Q k H'):=by
 intro pins s σ H Q I h;exact isTrue_plain (thn (ha pins s σ H _ I h) λv s1 ⟨x,H1,I1,r1,q1⟩=>tru_ok pins s1 σ H1 x v Q I1 r1 q1) (he _)
theorem jb0:OpR X (binaryOp .Add) (λx y H Q=>∃i j,x=.str i/\y=.str j/\i.length+j.length<=sizeLine/\Q (.str (i++j)) H):=by
 intro pins s σ H x y v u Q I rx ry h;obtain⟨i,j,rfl,rfl,hz,q⟩:=h;obtain⟨t,rfl⟩:=rx;obtain⟨t',rfl⟩:=ry;exact add_str (λt' tk=>⟨.str (i++j),H,I.tok _,⟨_,rfl⟩,q⟩) hz
theorem j65{x:V}{us:List Value}(r:Vals [x] us):∃u,us=[u]/\RelV x u:=by
 cases r with
 |cons r1 r2=>cases r2;exact⟨_,rfl,r1⟩
theorem jk3{x y:V}{us:List Value}(r:Vals [x,y] us):∃u w',us=[u,w']/\RelV x u/\RelV y w':=by
 cases r with
 |cons r1 r2=>
  cases r2 with
  |cons r3 r4=>cases r4;exact⟨_,_,rfl,r1,r3⟩
theorem jh9:CallR X (.builtin "abs") (λxs H Q=>∃i,xs=[.int i]/\Q (.int (if i<0 then -i else i)) H):=by
 intro pins s σ H xs us Q I r h;obtain⟨i,rfl,q⟩:=h;obtain⟨u,rfl,t,rfl⟩:=j65 r;exact call_abs_int λu tk=>⟨.int (if i<0 then -i else i),H,I.tok _,⟨_,rfl⟩,q⟩
theorem jdy(hc:X.calm=true):CallR X (.builtin "max") (λxs H Q=>∃i j,xs=[.int i,.int j]/\Q (.int (if j > i then j else i)) H):=by
 intro pins s σ H xs us Q I r h;obtain⟨i,j,rfl,q⟩:=h;obtain⟨u,w',rfl,⟨t,rfl⟩,⟨t',rfl⟩⟩:=jk3 r;refine max_two_ints (I.ok.hd hc) λh' tk k=>⟨_,H,I.kept k,?_,q⟩
 by_cases hj:j > i
 ·rw[if_pos hj,if_pos hj];exact⟨_,rfl⟩
 ·rw[if_neg hj,if_neg hj];exact⟨_,rfl⟩
theorem jdz(hc:X.calm=true):CallR X (.builtin "min") (λxs H Q=>∃i j,xs=[.int i,.int j]/\Q (.int (if j<i then j else i)) H):=by
 intro pins s σ H xs us Q I r h;obtain⟨i,j,rfl,q⟩:=h;obtain⟨u,w',rfl,⟨t,rfl⟩,⟨t',rfl⟩⟩:=jk3 r;refine min_two_ints (I.ok.hd hc) λh' tk k=>⟨_,H,I.kept k,?_,q⟩
 by_cases hj:j<i
 ·rw[if_pos hj,if_pos hj];exact⟨_,rfl⟩
 ·rw[if_neg hj,if_neg hj];exact⟨_,rfl⟩
theorem je0:CallR X (.type "int") (λxs H Q=>(∃i,xs=[.int i]/\Q (.int i) H)\/∃k,xs=[.bl k]/\Q (.int (if k then 1 else 0)) H):=by
 intro pins s σ H xs us Q I r h;rcases h with⟨i,rfl,q⟩|⟨k,rfl,q⟩
 ·obtain⟨u,rfl,t,rfl⟩:=j65 r;exact call_int_int ⟨.int i,H,I,⟨_,rfl⟩,q⟩
 ·obtain⟨u,rfl,r1⟩:=j65 r;cases r1;exact call_int_bool ⟨.int (if k then 1 else 0),H,I.tok _,⟨_,rfl⟩,q⟩
def LenV(K:y9)(x:V)(H:Hp)(n:Nat):Prop:=
 match x with
 | .str y=>y.length<=sizeLine/\n=y.length
 | .byt y=>y.size<=sizeLine/\n=y.size
 | .ref p=>(∃xs,SqL K H p xs/\n=xs.length)\/∃xs,SqT K H p xs/\n=xs.length
 |_=>False
theorem jha:CallR X (.builtin "len") (λxs H Q=>∃x n,xs=[x]/\LenV X.K x H n/\Q (.int n) H):=by
 intro pins s σ H xs us Q I r h;obtain⟨x,n,rfl,e,q⟩:=h;obtain⟨u,rfl,rx⟩:=j65 r;have hl:=ja4;have hs:sizeLine=16777216:=xo;cases x with
 |str y=>
  obtain⟨t,rfl⟩:=rx;obtain⟨hy,e'⟩:y.length<=sizeLine/\n=y.length:=e;subst e';exact len_str (by omega) ⟨.int _,H,I.tok _,⟨_,rfl⟩,q⟩
 |byt y=>
  obtain⟨t,rfl⟩:=rx;obtain⟨hy,e'⟩:y.size<=sizeLine/\n=y.size:=e;subst e';exact PySem.W.len_bytes (by omega) ⟨.int _,H,I.tok _,⟨_,rfl⟩,q⟩
 |ref p=>
  cases rx;have e':(∃xs,SqL X.K H p xs/\n=xs.length)\/∃xs,SqT X.K H p xs/\n=xs.length:=e;rcases e' with⟨xs,hx,e'⟩|⟨xs,hx,e'⟩
  ·subst e';obtain⟨its,r',pl,hz⟩:=I.list hx;have hlen:=r'.length;exact Calls.call_len_list pl.isList (by simp only[yj];omega) ⟨.int xs.length,H,I.tok _,⟨_,by simp only[yj];rw[hlen]⟩,q⟩
  ·subst e';obtain⟨its,r',pl,hz⟩:=I.tuple hx;have hlen:=r'.length;exact len_tuple pl (by simp only[yj];omega) ⟨.int xs.length,H,I.tok _,⟨_,by simp only[yj];rw[hlen]⟩,q⟩
 |_=>exact(show False from e).elim
end
structure ObjM(h:Heap)(x dx C:Addr)(mA:Str->Option Value):Prop where
 obj:h.get? x=some (y1a C dx)
 ns:h.Ns1 dx mA
 ne:dx≠x
theorem je1{dx:Addr}{mA:Str->Option Value}(n:h.Ns1 dx mA):∃od,h.get? dx=some od/\∀name,y6b name od=some (mA name):=by
 obtain⟨o,es,ep,ho,hd,hk,_,hm⟩:=n;refine⟨o,ho,λname=>?_⟩;have e:=hm name;unfold nsFind findBy at e;rw[<- Array.find?_toList]at e;unfold y6b;rw[hd];dsimp only;split
 ·rename_i y q;rw[q]at e;exact congrArg some e
 ·rename_i q;rw[q]at e;have a:es.toList.any (·.refKey)=false:=by
   rw[List.any_eq_false];intro y hy;obtain⟨z,t,hkey⟩:=hk y (Array.mem_toList_iff.mp hy);simp[DictEntry.refKey,hkey]
  have a':¬ es.toList.any (·.refKey)=true:=by rw[a];exact xb
  rw[if_neg a'];exact congrArg some e
theorem ObjM.look{x dx C:Addr}{mA:Str->Option Value}(I:ObjM h x dx C mA):∃od,PySem.W.InstAt h x (y1a C dx) C (some od)/\∀name,y6b name od=some (mA name):=
 let ⟨od,ho,hl⟩:=je1 I.ns
 ⟨od,⟨I.obj,rfl,rfl,ho⟩,hl⟩
section
variable{prog:yy}{w:World}{A:gw}{E:Value->ye->Prop}{s:ye}{K:y9}{x dx C f:Addr}{mA:Str->Option Value}{name:Str}{v:Value}
theorem jk4{expr:Bool}{Q:Value->ye->Prop}(X:K.In s.heap)(I:ObjM s.heap x dx C mA)(hg:y58 K C name=true)(hh:y6k K C=true)
  (ha:gc K (.ref C) name=some none) (hv:mA name=some v) (hv':yas v=true) (h:Q v {s with toks:=s.toks+1}):
  wpAny (model prog w) A (getAttr (.ref x) name expr) Q E s:=by
 obtain⟨od,J,hl⟩:=I.look;exact PySem.W.get_value X J (y5q hg).1 (PySem.W.findObj_own hh ha rfl (by rw[hl,hv])) hv' h
theorem jhb{pl:Sem Bool}{Q:Value×List Value->ye->Prop}(X:K.In s.heap)(I:ObjM s.heap x dx C mA)(hg:y58 K C name=true)
  (hf:gc K (.ref C) name=some (some (.ref f))) (ht:y62 K (.ref f)=true) (hv:mA name=none) (h:Q (.ref f,[.ref x]) s):
  wpAny (model prog w) A (getMethod (.ref x) name pl) Q E s:=by
 obtain⟨od,J,hl⟩:=I.look;exact PySem.W.method_fn X J (y5q hg).1 (y5q hg).2 hf (beq_iff_eq.mp ht) (by show(y6b name od).map (·.isSome)=some false;rw[hl,hv];rfl) h
theorem jk5{ns:List Str}{Q:Unit->ye->Prop}(X:K.In s.heap)(I:ObjM s.heap x dx C mA)
  (hs:gc K (.ref C) "__setattr__"=some (some (.builtin "object.__setattr__"))) (hp:ya4 K C=true) (ht:y84 K C name=some none) (hh:y6k K C=true)
  (hw:yai mA ns) (hsz:ns.length<=sizeLine)
  (h:∀h',ObjM h' x dx C (λy=>if y=name then some v else mA y)->uv dx s.heap h'->Q () {s with heap:=h',toks:=s.toks+2}):
  wpAny (model prog w) A (setAttr (.ref x) name v) Q E s:=by
 obtain⟨od,J,hl⟩:=I.look;refine PySem.W.set_plain X J hs (PySem.W.osa_open (s:={s with toks:=s.toks+1}) (r:=none) X J hp ht λb=>?_);obtain⟨cd,hc,hd'⟩:=PySem.W.any_some hh;have hx:s.heap.get? x=some ⟨.ref C,some dx,.plain,#[]⟩:=I.obj;refine y0 (y8 (y0 (y0 (wpAny_loadPart hx (y0 (ye2 (s:={s with toks:=s.toks+1}) (PySem.W.looks_clsIn X hc) ?_))))));rw[hd'];refine y8 (a:=some dx) (y0 (y8 (y0 ?_)));refine wpAny_nsSet1 (s:={s with toks:=s.toks+1}) I.ns λh' hn2 hs2=>?_;obtain⟨oD,esD,epD,hoD,hdD,hcD⟩:=hn2.count (yea name v hw);refine y0 (wpAny_lookBehind hoD (by rw[hdD];exact pastItsLine_dict (gj hcD (by rw[yl];omega))) ?_);exact y8 (h _ ⟨(hs2.2 _ (y57 I.ne)).trans I.obj,hn2,I.ne⟩ hs2)
theorem jhc{R:yb6->ye->Prop}{vs:List Value}{kw:List (Str×Value)}(X:K.In s.heap)(hm:yb5 K C=true)
  (hi:gc K (.ref C) "__init__"=some (some (.ref f))) (hf:PySem.W.typeIn K (.ref f)=some (.type "function"))
  (h:codeAny (model prog w) (A.under (.builtin "type.__call__" ⟨.ref C::vs,kw⟩)) (.call (.ref f) ⟨.ref (s.heap.objs.size+1)::vs,kw⟩) (PySem.W.InitBack (s.heap.objs.size+1) R)
   {s with heap:=(s.heap.push y09).push (y1a C s.heap.objs.size)}):
  codeAny (model prog w) A (.call (.ref C) ⟨vs,kw⟩) R s:=by
 obtain⟨hh,g,d,t,os⟩:=s;exact PySem.W.make_core (PySem.W.makes_of X hm) (PySem.W.looks_findIn X hi) (λself=>PySem.W.bind_fn X self hf) (.inl rfl) h
end
def putF(f:Str)(v:V):List (Str×V)->List (Str×V)
 |[]=>[(f,v)]
 |(g,x)::r=>if g=f then(g,v)::r else(g,x)::putF f v r
theorem j4m(f g:Str)(v:V):∀fs:List (Str×V),(putF f v fs).lookup g=if g=f then some v else fs.lookup g
 |[]=>by
  show y4g g [(f,v)]=_;by_cases h:g=f
  ·have hb:(g==f)=true:=beq_iff_eq.mpr h;simp only[y4g,hb,if_pos h]
  ·have hb:(g==f)=false:=beq_eq_false_iff_ne.mpr h;simp only[y4g,hb,if_neg h]
 |(k,x)::r=>by
  have ih:=j4m f g v r;rw[show putF f v ((k,x)::r)=(if k=f then(k,v)::r else(k,x)::putF f v r)from rfl];by_cases hk:k=f
  ·rw[if_pos hk];by_cases h:g=k
   ·have hb:(g==k)=true:=beq_iff_eq.mpr h;simp only[y4g,hb,if_pos (h.trans hk)]
   ·have hb:(g==k)=false:=beq_eq_false_iff_ne.mpr h;simp only[y4g,hb,if_neg (λe:g=f=>h (e.trans hk.symm))]
  ·rw[if_neg hk];by_cases h:g=k
   ·have hb:(g==k)=true:=beq_iff_eq.mpr h;simp only[y4g,hb,if_neg (λe:g=f=>hk (h.symm.trans e))]
   ·have hb:(g==k)=false:=beq_eq_false_iff_ne.mpr h;simp only[y4g,hb];exact ih
theorem j54(f:Str)(v:V):∀fs:List (Str×V),f∈(putF f v fs).map (·.1)/\∀g,g∈fs.map (·.1)->g∈(putF f v fs).map (·.1)
 |[]=>⟨by simp[putF],λg h=>by simp at h⟩
 |(k,x)::r=>by
  obtain⟨i1,i2⟩:=j54 f v r;rw[show putF f v ((k,x)::r)=(if k=f then(k,v)::r else(k,x)::putF f v r)from rfl];by_cases hk:k=f
  ·rw[if_pos hk];subst hk;exact⟨by simp,λg h=>by simpa using h⟩
  ·rw[if_neg hk];refine⟨?_,λg h=>?_⟩
   ·rw[xm];exact ym _ i1
   ·rw[xm]at h ⊢;rcases xf.mp h with e|e
    ·exact xf.mpr (.inl e)
    ·exact ym _ (i2 g e)
theorem j4n(f:Str)(v:V):∀fs:List (Str×V),(putF f v fs).length<=fs.length+1
 |[]=>by simp[putF]
 |(k,x)::r=>by
  have ih:=j4n f v r;rw[show putF f v ((k,x)::r)=(if k=f then(k,v)::r else(k,x)::putF f v r)from rfl];by_cases hk:k=f
  ·rw[if_pos hk,yl,yl];omega
  ·rw[if_neg hk,yl,yl];omega
theorem RelO.some_of{v:V}{o:Option Value}(r:RelO (some v) o):∃u,o=some u/\RelV v u:=by
 cases o with
 |none=>exact(show False from r).elim
 |some u=>exact⟨u,rfl,r⟩
theorem RelO.none_of{o:Option Value}(r:RelO none o):o=none:=by
 cases o with
 |none=>rfl
 |some u=>exact(show False from r).elim
theorem je2{v:V}{u:Value}(r:RelV v u):yas u=true:=by
 cases v with
 |non=>cases(show u=ud from r);rfl
 |bl b=>cases(show u=y6o b from r);rfl
 |int i=>obtain⟨t,e⟩:=(show ∃t,u=y2b i t from r);cases e;rfl
 |str x=>obtain⟨t,e⟩:=(show ∃t,u=y9m x t from r);cases e;rfl
 |byt b=>obtain⟨t,e⟩:=(show ∃t,u=ydv b t from r);cases e;rfl
 |flt b=>obtain⟨t,e⟩:=(show ∃t,u=yb7 b t from r);cases e;rfl
 |ref a=>cases(show u=xy a from r);rfl
 |ty n=>cases(show u=y1j n from r);rfl
section
variable{P:yy}{w:World}{H H':Hp}{h h':Heap}{a C dx:Addr}{fs fs':List (Str×V)}
theorem j8l(hok:HOk P w H h)(e:H a=some (.ins C dx fs)):∃mA,ObjM h a dx C mA/\(∀f,RelO (fs.lookup f) (mA f))/\yai mA (fs.map (·.1))/\fs.length<=1000/\H dx=some (.own a):=by
 obtain⟨d,z,ne,ob,mA,n,r,q⟩:=(show ObjOk P w H h a (.ins C dx fs)from hok a _ e)
 exact⟨mA,⟨ob,n,ne⟩,r,q,z,d⟩
end
structure Cls(K:y9)(C:Addr):Prop where
 pg:y58 K C Str.empty=true
 hd:y6k K C=true
 po:ya4 K C=true
 sa:gc K (.ref C) "__setattr__"=some (some (.builtin "object.__setattr__"))
theorem Cls.get{C:Addr}(c:Cls K C)(f:Str):y58 K C f=true:=c.pg
def NoAttr(K:y9)(C:Addr)(f:Str):Prop:=gc K (.ref C) f=some none
theorem NoAttr.taker{C:Addr}{f:Str}(n:NoAttr K C f):y84 K C f=some none:=by
 unfold y84;rw[show gc K (.ref C) f=some none from n];rfl
structure Con(K:y9)(C:Addr)(f:Str)(v:V)(u:Value):Prop where
 at_:gc K (.ref C) f=some (some u)
 rel:RelV v u
 get:y0y K u "__get__"=some none
 cp:PySem.W.copiedNames.contains f=false
structure Meth(K:y9)(C:Addr)(m:Str)(f:Addr):Prop where
 at_:gc K (.ref C) m=some (some (.ref f))
 fn:y62 K (.ref f)=true
 kp:y0w K (.ref f)=true
section
variable{X:Cx}{pins:List (Addr×Obj)}{σ:St}{H:Hp}{s:ye}{a C dx:Addr}{fs:List (Str×V)}{f:Str}{v:V}{A:gw}{E:Value->ye->Prop}
theorem jb1{b:Bool}{Q:Value->ye->Prop}(I:Inv X pins σ H s)(e:H a=some (.ins C dx fs))(c:Cls X.K C)(n:NoAttr X.K C f)(l:fs.lookup f=some v)
  (h:∀u s',Inv X pins σ H s'->RelV v u->Q u s'):wpAny (model X.prog X.w) A (getAttr (.ref a) f b) Q E s:=by
 obtain⟨mA,O,r,_,_,_⟩:=j8l I.hok e;obtain⟨u,hu,ru⟩:=RelO.some_of (v:=v) (o:=mA f) (by rw[<- l];exact r f);exact jk4 I.kIn O (c.get f) c.hd n hu (je2 ru) (h u _ (I.tok _) ru)
theorem jb2{m:Str}{g:Addr}{pl:Sem Bool}{Q:Value×List Value->ye->Prop}(I:Inv X pins σ H s)(e:H a=some (.ins C dx fs))(c:Cls X.K C)(k:Meth X.K C m g)(l:fs.lookup m=none)
  (h:Q (.ref g,[.ref a]) s):wpAny (model X.prog X.w) A (getMethod (.ref a) m pl) Q E s:=by
 obtain⟨mA,O,r,_,_,_⟩:=j8l I.hok e;have hn:mA m=none:=RelO.none_of (by rw[<- l];exact r m);exact jhb I.kIn O (c.get m) k.at_ k.fn hn h
theorem jb3{y:V}{Q:Unit->ye->Prop}(I:Inv X pins σ H s)(e:H a=some (.ins C dx fs))(c:Cls X.K C)(n:NoAttr X.K C f)(hl:fs.length<1000)(ry:RelV y u)
  (h:∀s',Inv X pins σ (upd H a (.ins C dx (putF f y fs))) s'->Q () s'):wpAny (model X.prog X.w) A (setAttr (.ref a) f u) Q E s:=by
 obtain⟨mA,O,r,wi,_,ho⟩:=j8l I.hok e;have hz:(fs.map (·.1)).length<=sizeLine:=by rw[y3,xo];omega
 refine jk5 I.kIn O c.sa c.po n.taker c.hd wi hz λh' O' sb=>h _ ?_;have hd:∃o,h'.get? dx=some o:=let ⟨o,_,_,e',_⟩:=O'.ns;⟨o,e'⟩;refine I.write (x:=a) (e:=dx) (by rw[e];exact y0z) (.inr ho) (λb q hb z=>(sb.2 b hb).trans z) hd ?_;refine⟨by rw[j0i O.ne];exact ho,?_,O.ne,O'.obj,_,O'.ns,λg=>?_,λg hg=>?_⟩
 ·have:=j4n f y fs;omega
 ·show RelO ((putF f y fs).lookup g) (if g=f then some u else mA g);rw[j4m];by_cases q:g=f
  ·rw[if_pos q,if_pos q];exact ry
  ·rw[if_neg q,if_neg q];exact r g
 ·by_cases q:g=f
  ·rw[q];exact(j54 f y fs).1
  ·refine(j54 f y fs).2 g (wi g λz=>hg ?_);show(if g=f then some u else mA g)=none;rw[if_neg q];exact z
theorem Inv.made(I:Inv X pins σ H s):Inv X pins σ (upd (upd H s.heap.objs.size (.own (s.heap.objs.size+1))) (s.heap.objs.size+1) (.ins C s.heap.objs.size []))
  {s with heap:=(s.heap.push y09).push (y1a C s.heap.objs.size)}:=by
 have e1:(s.heap.push y09).get? s.heap.objs.size=some y09:=yi s.heap rfl;have e2:((s.heap.push y09).push (y1a C s.heap.objs.size)).get? (s.heap.objs.size+1)=some (y1a C s.heap.objs.size):=by
  have:=yi (s.heap.push y09) (o:=y1a C s.heap.objs.size) rfl
  rwa [vf]at this
 have e3:(s.heap.push y09).Ns s.heap.objs.size (λ_=>none):=⟨y09,#[],_,e1,rfl,(λe he=>absurd he (by simp)),λ_=>rfl⟩
 have I1:=I.laid (a:=s.heap.objs.size) (o:=.own (s.heap.objs.size+1)) (h':=s.heap.push y09) (t':=s.toks) (λb u q=>yc _ q) (yg _) ⟨_,e1⟩;refine I1.laid (a:=s.heap.objs.size+1) (o:=.ins C s.heap.objs.size []) (t':=s.toks) (λb u q=>yc _ q) (ycz (vf _ _)) ?_;have ne:s.heap.objs.size≠s.heap.objs.size+1:=xt (y1i _);refine⟨by rw[j0i ne,j07],gm _,ne,e2,λ_=>none,(Heap.Ns1.of_empty e3).at λo q=>yc _ q,λ_=>y0z,λy hy=>absurd rfl hy⟩
theorem jk6{prog:yy}{w:World}{env:Env}{f:Str}{pos:Pos}{s:ye}{Q:Value->ye->Prop}(hb:attributeBase e f env (eval e env)=eval e env)
  (h:wpAny (model prog w) A (eval e env) (λo s₁=>wpAny (model prog w) A (getAttr o f true) Q E s₁) E s):wpAny (model prog w) A (eval (.Attribute e f pos) env) Q E s:=
 Attribute_any_ h (by rw[arm_eval_Attribute,hb])
end
def tFld(K:y9)(ta:TE)(f:Str):TE:=λσ H Q=>ta σ H λx H1=>∃a C dx fs v,x=.ref a/\H1 a=some (.ins C dx fs)/\Cls K C/\NoAttr K C f/\fs.lookup f=some v/\Q v H1
def sFld(K:y9)(ta tv:TE)(f:Str):TS:=λD σ H=>tv σ H λy H1=>ta σ H1 λx H2=>∃a C dx fs,x=.ref a/\H2 a=some (.ins C dx fs)/\Cls K C/\NoAttr K C f/\fs.length<1000/\
 D.nx σ (upd H2 a (.ins C dx (putF f y fs)))
section
variable{X:Cx}{o e value:Expr}{f:Str}{pos pos' tpos:Pos}{ta tv:TE}
theorem jb4(he:PE X e ta)(hb:attributeBase e f X.env (eval e X.env)=eval e X.env):PE X (.Attribute e f pos) (tFld X.K ta f):=by
 intro pins s σ H Q I h;refine jk6 hb (thn (he pins s σ H _ I h) λu s1 ⟨x,H1,I1,rx,a,C,dx,fs,v,ex,ea,c,n,l,q⟩=>?_);subst ex;obtain rfl:u=xy a:=rx;exact jb1 I1 ea c n l λu' s2 I2 ru=>⟨v,H1,I2,ru,q⟩
theorem j7k(ha:PE X o ta)(hv:PE X value tv)(hs:swapsWith value (some (.Attribute o f pos')) pos.line X.env=pure false):PS X (.Assign [.Attribute o f pos'] value pos) (sFld X.K ta tv f):=by
 intro pins s σ H D I h;refine plainObj_wpAny_Assign_Attribute (thn (hv pins s σ H _ I h) λu s1 ⟨y,H1,I1,ry,q⟩=>thn (ha pins s1 σ H1 _ I1 q) λov s2 ⟨x,H2,I2,rx,a,C,dx,fs,ex,ea,c,n,l,q2⟩=>?_) hs;subst ex;obtain rfl:ov=xy a:=rx;exact jb3 I2 ea c n l ry λs3 I3=>⟨σ,_,I3,q2⟩
end
section
variable{X:Cx}{pins:List (Addr×Obj)}{σ:St}{H:Hp}{s:ye}{A:gw}{E:Value->ye->Prop}{Q:Value->ye->Prop}{c:Value}{b:Bool}
inductive TyOf(K:y9)(H:Hp):V->Value->Prop where
 |non:TyOf K H .non (.type "NoneType")
 |bl (x:Bool):TyOf K H (.bl x) (.type "bool")
 |int (i:Int):TyOf K H (.int i) (.type "int")
 |str (x:Str):TyOf K H (.str x) (.type "str")
 |flt (x:UInt64):TyOf K H (.flt x) (.type "float")
 |lst {a:Addr}{xs:List V} (e:H a=some (.lst xs)):TyOf K H (.ref a) (.type "list")
 |frz {a:Addr}{o:Obj}{xs:List V} (e:H a=some (.frz o (.lst xs))):TyOf K H (.ref a) (.type "list")
 |tup {a:Addr}{xs:List V} (e:H a=some (.tup xs)):TyOf K H (.ref a) (.type "tuple")
 |dK {a:Addr}{kvs:List (Key×V)} (e:H a=some (.dK kvs)):TyOf K H (.ref a) (.type "dict")
 |dT {a:Addr}{kvs:List (List Key×V)} (e:H a=some (.dT kvs)):TyOf K H (.ref a) (.type "dict")
 | ins {a C dx:Addr}{fs:List (Str×V)} (e:H a=some (.ins C dx fs)) (cl:Cls K C) (ha:gc K (.ref C) "__class__"=some (some (.builtin "object.__class__")))
   (hn:y0y K (.builtin "object.__class__") "__get__"=some (some (.builtin "getset_descriptor.__get__"))) (htk:y44 K (.builtin "object.__class__")=some true)
   (hm:y5j K C (.type "object")=some true):TyOf K H (.ref a) (.ref C)
theorem j8m{x:V}{u t:Value}(I:Inv X pins σ H s)(rx:RelV x u)(ty:TyOf X.K H x t)(e:y0n X.K t c=some b)(h:∀tk,Q (.bool b) {s with toks:=tk}):
  wpAny (model X.prog X.w) A (call (.builtin "isinstance") [u,c]) Q E s:=by
 cases ty with
 |non=>cases(show u=ud from rx);exact uz PySem.W.kitx_none I.kIn y0z e (λz=>nomatch z) h
 |bl y=>cases(show u=y6o y from rx);exact uz PySem.W.kitx_bool I.kIn y0z e (λz=>nomatch z) h
 |int i=>obtain⟨t,q⟩:=(show ∃t,u=y2b i t from rx);cases q;exact uz PySem.W.kitx_int I.kIn y0z e (λz=>nomatch z) h
 |str y=>obtain⟨t,q⟩:=(show ∃t,u=y9m y t from rx);cases q;exact uz PySem.W.kitx_str I.kIn y0z e (λz=>nomatch z) h
 |flt y=>obtain⟨t,q⟩:=(show ∃t,u=yb7 y t from rx);cases q;exact uz PySem.W.kitx_float I.kIn y0z e (λz=>nomatch z) h
 | @lst a xs ea=>
  cases(show u=xy a from rx);obtain⟨_,_,n,_,h1⟩:=(show ObjOk X.prog X.w H s.heap a (.lst xs)from I.hok a _ ea)
  exact uz ya3 I.kIn ⟨_,h1,rfl⟩ e (λz=>nomatch z) h
 | @frz a ob xs ea=>
  cases(show u=xy a from rx);obtain⟨_,_,_,n,_,h1⟩:=(show ObjOk X.prog X.w H s.heap a (.frz ob (.lst xs))from I.hok a _ ea)
  exact uz ya3 I.kIn ⟨_,h1,rfl⟩ e (λz=>nomatch z) h
 | @tup a xs ea=>
  cases(show u=xy a from rx);obtain⟨_,_,_,p⟩:=(show ObjOk X.prog X.w H s.heap a (.tup xs)from I.hok a _ ea)
  obtain⟨o,h1,h2,_⟩:=p.1;exact uz PySem.W.kitx_tuple I.kIn ⟨o,h1,h2⟩ e (λz=>nomatch z) h
 | @dK a kvs ea=>
  cases(show u=xy a from rx);obtain⟨_,_,vs,_,p⟩:=(show ObjOk X.prog X.w H s.heap a (.dK kvs)from I.hok a _ ea)
  obtain⟨o,es,ep,h1,h2,_⟩:=p;exact uz ya2 I.kIn ⟨o,h1,h2.1⟩ e (λz=>nomatch z) h
 | @dT a kvs ea=>
  cases(show u=xy a from rx);obtain⟨_,_,xs,_,o,es,ep,h1,h2,_⟩:=(show ObjOk X.prog X.w H s.heap a (.dT kvs)from I.hok a _ ea)
  exact uz ya2 I.kIn ⟨o,h1,h2.1⟩ e (λz=>nomatch z) h
 | @ins a C dx fs ea cl ha hn htk hm=>
  cases(show u=xy a from rx);obtain⟨mA,O,_⟩:=j8l I.hok ea;obtain⟨od,J,_⟩:=O.look;exact uz (PySem.W.kitx_own (cl.get _) cl.hd ha hn htk hm) I.kIn J e (λz=>nomatch z) h
end
structure Room(k:Nat)(A:gw):Prop where
 hd:A.handled=none
 dp:A.depth+3*k+5<recursionLimit
 un:A.units+16*k+200<cLine
 gd:A.guards=some []
theorem Room.mono{j k:Nat}(r:Room k A)(h:j<=k):Room j A:=⟨r.hd,by have:=r.dp;omega,by have:=r.un;omega,r.gd⟩
theorem Room.deeper{k:Nat}{A:gw}(r:Room (k+1) A)(env:Env):Room k (A.deeper env):=
 ⟨r.hd,by have:=r.dp;show A.depth+1+3*k+5<_;omega,by have:=r.un;show A.units+3+16*k+200<_;omega,r.gd⟩
variable{us:List Value}
theorem jb5{C:Addr}{kw:List (Str×Value)}:(A.under (.builtin "type.__call__" ⟨.ref C::us,kw⟩)).depth=A.depth+1:=by
 first|rfl|simp[yac,Code.weight,Code.isCreation,ycv,Code.isCaller,ydc,yae,guardIds]
theorem jb6{C:Addr}{kw:List (Str×Value)}:(A.under (.builtin "type.__call__" ⟨.ref C::us,kw⟩)).units=A.units+1:=by
 first|rfl|simp[yac,Code.cUnits,ydc,yae]
theorem ja5{C:Addr}{kw:List (Str×Value)}:(A.under (.builtin "type.__call__" ⟨.ref C::us,kw⟩)).guards=A.guards:=by
 have hg:(yad "type.__call__" ⟨.ref C::us,kw⟩).guards=[]:=by first|rfl|simp[Code.guards,ycv,guardIds]
 show pushGuards (yad "type.__call__" ⟨.ref C::us,kw⟩).guards A.guards=A.guards;rw[hg];cases A.guards<;>rfl
theorem Room.make{k:Nat}(r:Room (k+1) A)(C:Addr)(us:List Value)(kw:List (Str×Value)):Room k (A.under (.builtin "type.__call__" ⟨.ref C::us,kw⟩)):=
 ⟨r.hd,by have:=r.dp;rw[jb5];omega,by have:=r.un;rw[jb6];omega,by rw[ja5];exact r.gd⟩
theorem Room.depth{k:Nat}{A:gw}(r:Room k A):A.depth<recursionLimit:=by have:=r.dp;omega
theorem Room.units{k:Nat}{A:gw}(r:Room k A):A.units+64<cLine:=by have:=r.un;omega
def tNil:TA:=λ_ H Q=>Q [] H
def tCons(ta:TE)(tr:TA):TA:=λσ H Q=>ta σ H λx H1=>tr σ H1 λxs H2=>Q (x::xs) H2
section
variable{X:Cx}{e:Expr}{es:List Expr}{te:TE}{t:TA}{pos:Pos}
theorem j01:PA X [] tNil:=λ_ _ _ _ H Q I h=>y2o ⟨[],H,I,.nil,h⟩
theorem j00(ha:PE X e te)(hr:PA X es t)(hs:starEach (e::es) X.env=(false,eval e X.env)::starEach es X.env:=by rfl):PA X (e::es) (tCons te t):=by
 intro pos pins s σ H Q I h;rw[hs];show wpAny _ _ (spliced ((false,eval e X.env)::backTo pos (starEach es X.env))) _ _ s;refine y2g (thn (ha pins s σ H _ I h) λu s1 ⟨x,H1,I1,r1,q1⟩=>?_);exact thn (hr pos pins s1 σ H1 _ I1 q1) λus s2 ⟨xs,H2,I2,r2,q2⟩=>⟨x::xs,H2,I2,.cons r1 r2,q2⟩
def tTup(t:TA):TE:=λσ H Q=>t σ H λxs H1=>xs.length<=sizeLine/\∀p,H1 p=none->Q (.ref p) (upd H1 p (.tup xs))
def tLst(t:TA):TE:=λσ H Q=>t σ H λxs H1=>xs.length<=sizeLine/\∀p,H1 p=none->Q (.ref p) (upd H1 p (.lst xs))
theorem j1f{x1}(h:PA X es t):PE X (.Tuple es x1 pos) (tTup t):=by
 intro pins s σ H Q I hq;refine wpAny_Tuple_spliced (thn (h pos pins s σ H _ I hq) λus s1 ⟨xs,H1,I1,r,z,q⟩=>⟨by rw[<- r.length];exact z,?_⟩);have hf:H1 s1.heap.objs.size=none:=I1.hok.fresh (yg _);refine⟨.ref s1.heap.objs.size,upd H1 s1.heap.objs.size (.tup xs),I1.laid (t':=s1.toks) (λb u e=>yc _ e) (yg _) ?_,rfl,q _ hf⟩;exact⟨z,us,r,TupN.new _ _⟩
theorem j0r(h:PA X es t):PE X (.List es pos) (tLst t):=by
 intro pins s σ H Q I hq;refine wpAny_List_spliced (thn (h pos pins s σ H _ I hq) λus s1 ⟨xs,H1,I1,r,z,q⟩=>⟨by rw[<- r.length];exact z,?_⟩);have hf:H1 s1.heap.objs.size=none:=I1.hok.fresh (yg _);refine⟨.ref s1.heap.objs.size,upd H1 s1.heap.objs.size (.lst xs),I1.laid (t':=s1.toks) (λb u e=>yc _ e) (yg _) ?_,rfl,q _ hf⟩;exact⟨z,us,0,r,yi _ rfl⟩
end
abbrev Sp:=List V->Hp->VK->XK->Prop
abbrev CXT:=List Env->Hp->ye->XK->Value->ye->Prop
structure Env0(P:yy)(w:World)(K:y9)(mg:Str->Option Value)(base:Heap)(A:gw)(outer:List Env)(s:ye)(H:Hp):Prop where
 frames:A.frames=some outer
 mod:Mod K mg base
 bs:∀b o,base.get? b=some o->s.heap.get? b=some o/\H b=none
 bsz:base.objs.size<=s.heap.objs.size
 funs:s.heap.FunFrames base outer
 frf:∀b∈frs outer,H b=none
 hok:HOk P w H s.heap
 bare:y68 s.gens
def CE(outer:List Env)(P:yy)(w:World)(H:Hp)(s:ye)(Q:VK)(u:Value)(s':ye):Prop:=
 ∃v H',s'.os=s.os/\y68 s'.gens/\Un (frs outer) [] H H' s.heap s'.heap/\HOk P w H' s'.heap/\RelV v u/\Q v H'
def CR(CX:CXT)(outer:List Env)(P:yy)(w:World)(H:Hp)(s:ye)(Q:VK)(E:XK)(r:yb6)(s':ye):Prop:=
 match r with
 | .ok (.ret u)=>CE outer P w H s Q u s'
 | .ok _=>False
 | .error e=>CX outer H s E e s'
structure FnOk(P:yy)(w:World)(K:y9)(mg:Str->Option Value)(base:Heap)(CX:CXT)(k:Nat)(f:Addr)(fd:xi)(ps:List Str)(sp:Sp):Prop where
 len:∀vs H Q E,sp vs H Q E->vs.length=ps.length
 run:∀(A:gw) (outer:List Env) (s:ye) (H:Hp) (args:Args) (us:List Value) (vs:List V) (Q:VK) (E:XK),Room k A->Env0 P w K mg base A outer s H->y6r s fd args (ps.zip us)->Vals vs us->sp vs H Q E->
  codeAny (model P w) A (.call (.ref f) args) (CR CX outer P w H s Q E) s
theorem Env0.make{mg:Str->Option Value}{base:Heap}{outer:List Env}(e:Env0 P w K mg base A outer s H)(C:Addr)(us:List Value)(kw:List (Str×Value)):
  Env0 P w K mg base (A.under (.builtin "type.__call__" ⟨.ref C::us,kw⟩)) outer s H:=⟨by first|exact e.frames|(simpa[yac,Code.envs,yae,pushEnvs] using e.frames),e.mod,e.bs,e.bsz,e.funs,e.frf,e.hok,e.bare⟩
section
variable{X:Cx}{pins:List (Addr×Obj)}{σ:St}{H:Hp}{s s':ye}
theorem Inv.env0(I:Inv X pins σ H s):Env0 X.prog X.w X.K X.mg X.base X.A X.stack s H:=
 ⟨I.ok.frames,I.ok.mod,I.bs,gj I.ok.bsz I.sz,I.stack,I.stkFree,I.hok,I.bare⟩
theorem Inv.after{Q:VK}(I:Inv X pins σ H s)(h:CE X.stack X.prog X.w H s Q u s'):EP X pins σ Q u s':=by
 obtain⟨v,H',os,bare,un,hok,r,q⟩:=h;obtain⟨hh,g,d,t,os'⟩:=s';obtain rfl:os'=s.os:=os;exact⟨v,H',I.call (h':=hh) (g':=g) (d':=d) (t':=t) (ch:=[]) un hok bare (λb z=>absurd z (by simp)),r,q⟩
end
def jo7(sp:Sp)(dvs:List V)(E:XK)(t:TA):TE:=λσ H Q=>t σ H λvs H1=>sp (vs++dvs) H1 Q E
def tMeth(C:Addr)(m:Str)(sp:Sp)(dvs:List V)(E:XK)(ta:TE)(t:TA):TE:=λσ H Q=>ta σ H λx H1=>∃a dx fs,x=.ref a/\H1 a=some (.ins C dx fs)/\fs.lookup m=none/\
 t σ H1 λvs H2=>sp (x::(vs++dvs)) H2 Q E
def tMake(C:Addr)(sp:Sp)(dvs:List V)(E:XK)(t:TA):TE:=λσ H Q=>t σ H λvs H1=>∀x dx,H1 x=none->H1 dx=none->dx≠x->
 sp (.ref x::(vs++dvs)) (upd (upd H1 dx (.own x)) x (.ins C dx [])) (λv H2=>v=.non/\Q (.ref x) H2) E
def Binds(K:y9)(fd:xi)(ps:List Str)(ds:List Value):Prop:=
 ∀(s:ye) (us:List Value),K.In s.heap->(us++ds).length=ps.length->y6r s fd ⟨us,[]⟩ (ps.zip (us++ds))
theorem Binds.all{fd:xi}{ps:List Str}(h:∀us:List Value,us.length=ps.length->bindArgs fd ⟨us,[]⟩=pure (ps.zip us)):Binds K fd ps []:=λs us _ hl=>by
 rw[y0a]at hl ⊢;exact .of_eq (h us hl)
def j7l(CX:CXT)(X:Cx)(E:XK):Prop:=∀(pins:List (Addr×Obj)) (σ:St) (H:Hp) (s:ye) (e:Value) (s':ye),Inv X pins σ H s->CX X.stack H s E e s'->X.xe e s'
section
variable{X:Cx}{CX:CXT}{k:Nat}{f C:Addr}{fd:xi}{ps:List Str}{sp:Sp}{dvs:List V}{ds:List Value}{E:XK}{x m:Str}{p pos apos:Pos}{e o:Expr}{es:List Expr}{ta:TE}{t:TA}
theorem jk7{pins:List (Addr×Obj)}{σ:St}{H:Hp}{s:ye}{Q:VK}{us:List Value}{vs:List V}(F:FnOk X.prog X.w X.K X.mg X.base CX k f fd ps sp)(hr:Room k X.A)(hb:Binds X.K fd ps ds)(hd:Vals dvs ds)(hx:j7l CX X E)
  (I:Inv X pins σ H s) (r:Vals vs us) (h:sp (vs++dvs) H Q E):wpAny (model X.prog X.w) X.A (call (.ref f) us) (EP X pins σ Q) X.xe s:=by
 have r2:Vals (vs++dvs) (us++ds):=r.append hd;have hl:(us++ds).length=ps.length:=by rw[<- r2.length];exact F.len _ _ _ _ h
 refine yci (y3p (F.run X.A X.stack s H ⟨us,[]⟩ (us++ds) (vs++dvs) Q E hr I.env0 (hb s us I.kIn hl) r2 h) λr s' hq=>?_);cases r with
 |error e=>exact hx pins σ H s e s' I hq
 |ok fl=>
  cases fl with
  |ret u=>exact I.after hq
  |next=>exact y1h hq
  |brk=>exact y1h hq
  |cont=>exact y1h hq
theorem j4o(F:FnOk X.prog X.w X.K X.mg X.base CX k f fd ps sp)(hr:Room k X.A)(hg:Gl X x)(hm:X.mg x=some (.ref f))(hk:y0w X.K (.ref f)=true)(hb:Binds X.K fd ps ds)(hd:Vals dvs ds)(hx:j7l CX X E)
  (ha:PA X (e::es) t) (hdb:(x==("__debug__":Str))=false:=by decide) (he:starEach (e::es) X.env=(false,eval e X.env)::starEach es X.env:=by rfl) (hpl:(backTo pos (starEach es X.env)).any (·.1)=false:=by rfl):
  PE X (.Call (.Name x p) (e::es) [] pos) (jo7 sp dvs E t):=by
 intro pins s σ H Q I h;refine y0e (jas I hg hm ?_ hdb);refine y61 (h₀:=X.base) I.ok.mod.kin hk (thn (ha pos pins s σ H _ I h) λus s1 ⟨vs,H1,I1,r,q⟩=>⟨I1.kIn,?_⟩) he hpl;exact jk7 F hr hb hd hx I1 r q
theorem j10{pl:Sem Bool}(he:PE X o ta)(c:Cls X.K C)(hm:Meth X.K C m f)(F:FnOk X.prog X.w X.K X.mg X.base CX k f fd ps sp)(hr:Room k X.A)(hb:Binds X.K fd ps ds)(hd:Vals dvs ds)(hx:j7l CX X E)(ha:PA X (e::es) t)
  (hst:starEach (e::es) X.env=(false,eval e X.env)::starEach es X.env:=by rfl) (hpl:(backTo pos (starEach es X.env)).any (·.1)=false:=by rfl)
  (ht:eval (.Call (.Attribute o m apos) (e::es) [] pos) X.env=(do
   let ov <- eval o X.env
   standAt apos.atName
   let (f,first) <- holding [ov] (getMethod ov m pl)
   callWith pos f first (backTo pos (starEach (e::es) X.env)) (backToKw pos (keywordEach [] X.env))):=by rfl):
  PE X (.Call (.Attribute o m apos) (e::es) [] pos) (tMeth C m sp dvs E ta t):=by
 intro pins s σ H Q I h;refine PySem.W.methodCall_KW (pl:=pl) (thn (he pins s σ H _ I h) λu s1 ⟨x,H1,I1,rx,a,dx,fs,ex,ea,l,q⟩=>?_) ht;subst ex;obtain rfl:u=xy a:=rx;refine jb2 I1 ea c hm l ?_;refine y61 (first:=[.ref a]) (h₀:=X.base) I.ok.mod.kin hm.kp (thn (ha pos pins s1 σ H1 _ I1 q) λus s2 ⟨vs,H2,I2,r,q2⟩=>⟨I2.kIn,?_⟩) hst hpl;exact jk7 (us:=.ref a::us) (vs:=.ref a::vs) F hr hb hd hx I2 (.cons rfl r) q2
structure Mk(K:y9)(C f:Addr):Prop where
 makes:yb5 K C=true
 init:gc K (.ref C) "__init__"=some (some (.ref f))
 fn:y62 K (.ref f)=true
 kp:y0w K (.ref C)=true
theorem jhd{pins:List (Addr×Obj)}{σ:St}{H:Hp}{s:ye}{Q:VK}{us:List Value}{vs:List V}(M:Mk X.K C f)(F:FnOk X.prog X.w X.K X.mg X.base CX k f fd ps sp)(hr:Room (k+1) X.A)(hb:Binds X.K fd ps ds)(hd:Vals dvs ds)
  (hx:j7l CX X E) (I:Inv X pins σ H s) (r:Vals vs us)
  (h:∀x dx,H x=none->H dx=none->dx≠x->sp (.ref x::(vs++dvs)) (upd (upd H dx (.own x)) x (.ins C dx [])) (λv H2=>v=.non/\Q (.ref x) H2) E):
  wpAny (model X.prog X.w) X.A (call (.ref C) us) (EP X pins σ Q) X.xe s:=by
 have hq:=h (s.heap.objs.size+1) s.heap.objs.size (I.hok.fresh (y0l _)) (I.hok.fresh (yg _)) (xt (y1i _));have I2:=Inv.made (C:=C) I;have r2:Vals (V.ref (s.heap.objs.size+1)::(vs++dvs)) (xy (s.heap.objs.size+1)::(us++ds)):=.cons rfl (r.append hd);have hl:(xy (s.heap.objs.size+1)::us++ds).length=ps.length:=by
  have e:=r2.length;rw[F.len _ _ _ _ hq]at e;exact e.symm
 refine yci (jhc (f:=f) I.kIn M.makes M.init (beq_iff_eq.mp M.fn) (y3p (F.run _ X.stack _ _ ⟨xy (s.heap.objs.size+1)::us,[]⟩ (xy (s.heap.objs.size+1)::(us++ds)) _ _ E (hr.make C us [])
  (I2.env0.make C us []) (hb _ (xy (s.heap.objs.size+1)::us) I2.kIn hl) r2 hq) λr s' hq'=>?_))
 cases r with
 |error e=>exact hx pins σ _ _ e s' I2 hq'
 |ok fl=>
  cases fl with
  |ret u=>
   obtain⟨v,H',I3,rv,ev,q3⟩:=I2.after hq';subst ev;exact⟨rv,⟨V.ref (s.heap.objs.size+1),H',I3,rfl,q3⟩⟩
  |next=>exact y1h hq'
  |brk=>exact y1h hq'
  |cont=>exact y1h hq'
theorem j3n(M:Mk X.K C f)(F:FnOk X.prog X.w X.K X.mg X.base CX k f fd ps sp)(hr:Room (k+1) X.A)(hg:Gl X x)(hm:X.mg x=some (.ref C))(hb:Binds X.K fd ps ds)(hd:Vals dvs ds)(hx:j7l CX X E)
  (ha:PA X (e::es) t) (hdb:(x==("__debug__":Str))=false:=by decide) (he:starEach (e::es) X.env=(false,eval e X.env)::starEach es X.env:=by rfl) (hpl:(backTo pos (starEach es X.env)).any (·.1)=false:=by rfl):
  PE X (.Call (.Name x p) (e::es) [] pos) (tMake C sp dvs E t):=by
 intro pins s σ H Q I h;refine y0e (jas I hg hm ?_ hdb);refine y61 (h₀:=X.base) I.ok.mod.kin M.kp (thn (ha pos pins s σ H _ I h) λus s1 ⟨vs,H1,I1,r,q⟩=>⟨I1.kIn,?_⟩) he hpl;exact jhd M F hr hb hd hx I1 r q
end
section
variable{X:Cx}{CX:CXT}{k:Nat}{f C:Addr}{fd:xi}{ps ks:List Str}{sp:Sp}{E:XK}{x m:Str}{p pos apos kpos:Pos}{e o:Expr}{es:List Expr}{kws:List y7t}{te ta:TE}{t tk:TA}{nm:Option Str}
structure KBinds(K:y9)(fd:xi)(ps ks:List Str)(g:List Value->List Value->List Value)(gV:List V->List V->List V):Prop where
 to:∀(s:ye) (us ws:List Value),K.In s.heap->(g us ws).length=ps.length->y6r s fd ⟨us,ks.zip ws⟩ (ps.zip (g us ws))
 rel:∀{vs:List V}{us:List Value}{zs:List V}{ws:List Value},Vals vs us->Vals zs ws->Vals (gV vs zs) (g us ws)
variable{g:List Value->List Value->List Value}{gV:List V->List V->List V}
end
structure FnScope(N P:List Str)(sc:Scope):Prop where
 kind:sc.kind=.function
 co:sc.isCoroutine=false
 gen:sc.isGenerator=false
 nd:N.Nodup
 pre:N.take P.length=P
 par:∀x∈P,sc.names.lookup x=some .local\/sc.names.lookup x=some .cell
 nofree:∀y∈sc.names,y.2≠.free
theorem j8n{kindOf:Str->Option y5y}{x:Str}:∀{binds:List (Str×Value)}{m:Str->Option Value},(∀v,(x,v)∉binds)->bindL kindOf binds m x=m x
 |[],_,_=>rfl
 |(n,v)::r,m,h=>by
  unfold bindL;rw[j8n λw hw=>h w (ym _ hw)];split
  ·have:x≠n:=by rintro rfl;exact h v yu
   simp[this]
  ·rfl
theorem j8o{kindOf:Str->Option y5y}{x:Str}:∀{binds:List (Str×Value)}{m:Str->Option Value},(∀v,(x,v)∉binds)->bindC kindOf binds m x=m x
 |[],_,_=>rfl
 |(n,v)::r,m,h=>by
  unfold bindC;rw[j8o λw hw=>h w (ym _ hw)];split
  ·rfl
  ·have:x≠n:=by rintro rfl;exact h v yu
   simp[this]
theorem j8p{kindOf:Str->Option y5y}{x:Str}{v:Value}:∀{P:List Str}{vs:List Value}{i:Nat}{m:Str->Option Value},P.Nodup->P[i]?=some x->vs[i]?=some v->kindOf x=some .local->
  bindL kindOf (P.zip vs) m x=some v
 |[],_,_,_,_,h,_,_=>by simp at h
 |_::_,[],_,_,_,_,h,_=>by simp at h
 |p::P,w::vs,0,m,nd,h1,h2,hk=>by
  simp at h1 h2;subst h1;subst h2;show bindL kindOf ((p,w)::P.zip vs) m p=_;unfold bindL;rw[j8n λv hv=>(uh.mp nd).1 (y7x hv).1,if_pos hk];simp
 |p::P,w::vs,i+1,m,nd,h1,h2,hk=>by
  show bindL kindOf ((p,w)::P.zip vs) m x=_;unfold bindL;exact j8p (i:=i) (uh.mp nd).2 (by simpa using h1) (by simpa using h2) hk
theorem j8q{kindOf:Str->Option y5y}{x:Str}{v:Value}:∀{P:List Str}{vs:List Value}{i:Nat}{m:Str->Option Value},P.Nodup->P[i]?=some x->vs[i]?=some v->kindOf x≠some .local->
  bindC kindOf (P.zip vs) m x=some v
 |[],_,_,_,_,h,_,_=>by simp at h
 |_::_,[],_,_,_,_,h,_=>by simp at h
 |p::P,w::vs,0,m,nd,h1,h2,hk=>by
  simp at h1 h2;subst h1;subst h2;show bindC kindOf ((p,w)::P.zip vs) m p=_;unfold bindC;rw[j8o λv hv=>(uh.mp nd).1 (y7x hv).1,if_neg hk];simp
 |p::P,w::vs,i+1,m,nd,h1,h2,hk=>by
  show bindC kindOf ((p,w)::P.zip vs) m x=_;unfold bindC;exact j8q (i:=i) (uh.mp nd).2 (by simpa using h1) (by simpa using h2) hk
def start(N:List Str)(vs:List V):St:=vs.map some++xk (N.length-vs.length) none
def cxOf(CX:CXT)(P:yy)(w:World)(K:y9)(mg:Str->Option Value)(base:Heap)(N:List Str)(qual:Str)(scope:Scope)(f:Addr)(cd:Value)(A:gw)(outer:List Env)(s:ye)(H:Hp)(E:XK):Cx where
 prog:=P
 w:=w
 K:=K
 mg:=mg
 base:=base
 A:=A.deeper (envOfC qual scope s.heap.objs.size f cd)
 N:=N
 s₀:=s
 H₀:=H
 env:=envOfC qual scope s.heap.objs.size f cd
 outer:=outer
 stack:=envOfC qual scope s.heap.objs.size f cd::outer
 ex:=[]
 calm:=true
 fn:=λ_=>true
 pn:=[]
 xe:=λe s'=>wpAny (model P w) (A.deeper (envOfC qual scope s.heap.objs.size f cd)) (leaving (envOfC qual scope s.heap.objs.size f cd) e) (λ_ s''=>CX outer H s E e s'') (λe' s''=>CX outer H s E e' s'') s'
theorem jb7{sc:Scope}{n:Nat}(h:sc.names.lookup x=some .cell):∃c,(cellsFrom n sc.names []).lookup x=some c:=by
 have q:=y7m sc.names n [] (.inl h);exact y3m.mp q
theorem je3{CX:CXT}{P:yy}{w:World}{K:y9}{mg:Str->Option Value}{base:Heap}{N ps:List Str}{qual:Str}{scope:Scope}{f:Addr}{cd:Value}{A:gw}{outer:List Env}{s s1:ye}{H:Hp}{E:XK}{us:List Value}{vs:List V}
  (S:FnScope N ps scope) (hd:A.handled=none) (e0:Env0 P w K mg base A outer s H) (hl:vs.length=ps.length) (r:Vals vs us)
  (x:InCallC s s.heap.objs.size (bindL (envOfC qual scope s.heap.objs.size f cd).kindOf (ps.zip us) λ_=>none) (cellsFrom (s.heap.objs.size+1) scope.names []) (bindC (envOfC qual scope s.heap.objs.size f cd).kindOf (ps.zip us) λ_=>none) s1):
  Inv (cxOf CX P w K mg base N qual scope f cd A outer s H E) [] (start N vs) H s1:=by
 have hpl:ps.length<=N.length:=by have:=congrArg y90 S.pre;rw[yn]at this;omega
 obtain⟨h1,tk,rfl,hk⟩:=x.done;have noA:∀b:Addr,b∉(cxOf CX P w K mg base N qual scope f cd A outer s H E).ex:=λb z=>absurd (show b∈([]:List Addr)from z) (by simp);refine⟨⟨e0.mod,S.kind,rfl,rfl,yg _,λy z c h1 h2=>?_,λy hy=>?_,λy c _ h=>?_,λ_=>hd,Around.frames_deeper e0.frames,.inr ⟨rfl,rfl⟩,λb z=>absurd z (noA b),e0.bs,e0.bsz,λb _ _=>noA b,λb z=>absurd z (noA b),e0.funs,e0.frf⟩,
  rfl,e0.bare,Un.kept hk,⟨_,x.toInCall.ns,λi y v h1 h2 h3=>?_⟩,λy c h=>⟨_,x.cell y c h⟩,e0.hok.fresh (yg _),λy c h=>?_,λp hp=>absurd (show p∈([]:List (Addr×Obj))from hp) (by simp),e0.hok.kept hk,?_⟩
 ·exact name_of_addr x.apart (y1b h1) (y1b h2)
 ·have hy:scope.names.lookup y=some .cell\/scope.names.lookup y=some .free:=hy;rcases hy with hy|hy
  ·exact jb7 hy
  ·exact absurd rfl (S.nofree _ (y1b hy))
 ·exact y0r (x.above y c (y1b h))
 ·have hi:i<vs.length:=by
   unfold start at h2;by_cases hi:i<vs.length
   ·exact hi
   ·rw[yp (by simpa using hi)]at h2;rw[List.getElem?_replicate]at h2;split at h2<;>cases h2
  have ha:vs[i]?=some v:=by
   unfold start at h2;rw[yv (by simpa using hi),xc]at h2;cases e:vs[i]? with
   |none=>rw[e]at h2;cases h2
   |some a=>rw[e]at h2;cases h2;rfl
  obtain⟨u,hu,rv⟩:=r.get ha;have hp:ps[i]?=some y:=by
   rw[<- S.pre,y3k (by omega)];exact h1
  have ndP:ps.Nodup:=by rw[<- S.pre];exact S.nd.sublist (y9x _ _)
  refine⟨u,rv,?_⟩;rcases S.par y (v6 hp)with k|k
  ·exact .inl ⟨k,j8p ndP hp hu k⟩
  ·obtain⟨c,e⟩:=jb7 (n:=s.heap.objs.size+1) k;refine .inr ⟨.inl k,c,e,?_⟩;have q:=x.cell y c e;rw[j8q ndP hp hu (by show scope.names.lookup y≠_;rw[k];decide)]at q;exact q
 ·exact e0.hok.fresh (y0r (x.above y c (y1b h)))
 ·unfold start;show _=N.length;rw[xa,y3,y7w];omega
theorem fn_of{CX:CXT}{P:yy}{w:World}{K:y9}{mg:Str->Option Value}{base:Heap}{k:Nat}{f:Addr}{name qual:Str}{params:Arguments}{body:List Stmt}{scope:Scope}{dV kV doc pm cdv ct oc:Value}{an od:Option Addr}
  {osl:Array (Option Value)}{N ps:List Str}{sp:Sp} (lk:K.lookup f=some ⟨oc,od,.func (ut name qual params body scope dV kV doc pm an cdv ct),osl⟩) (hcd:y6a K cdv qual=true) (S:FnScope N ps scope)
  (len:∀vs H Q E,sp vs H Q E->vs.length=ps.length)
  (hbody:∀(A:gw) (outer:List Env) (s:ye) (H:Hp) (vs:List V) (Q:VK) (E:XK),Room k (A.deeper (envOfC qual scope s.heap.objs.size f cdv))->sp vs H Q E->
   ∃t,PSs (cxOf CX P w K mg base N qual scope f cdv A outer s H E) body t/\t {nx:=λ_ H'=>Q .non H',rt:=Q} (start N vs) H):
  FnOk P w K mg base CX (k+1) f (ut name qual params body scope dV kV doc pm an cdv ct) ps sp:=by
 refine⟨len,λA outer s H args us vs Q E hr e0 hb r hsp=>?_⟩;have hl:=len _ _ _ _ hsp;have KX:K.In s.heap:=e0.mod.kin.keeps λb o e=>(e0.bs b o e).1;have lim:s.heap.NoLimit:=e0.mod.nolimit.keeps λb o e=>(e0.bs b o e).1;have hkind:∀y∈ps.zip us,scope.names.lookup y.1=some .local\/(scope.names.lookup y.1=some .cell/\((cellsFrom (s.heap.objs.size+1) scope.names []).lookup y.1).isSome=true):=λ⟨n,v⟩ hy=>by
  rcases S.par n (y7x hy).1 with q|q
  ·exact .inl q
  ·exact .inr ⟨q,y7m _ _ _ (.inl q)⟩
 refine codeAny_call_function hr.depth (KX _ _ lk) rfl S.co S.gen rfl (PySem.W.codeRec_of KX hcd) (hb _ _ _ _ ?_);refine wpAny_newFunctionEnv_cells S.kind hkind λenv he s1 x=>?_;subst he;refine⟨lim.keeps x.toInCall.keep,codeAny_func ?_⟩;obtain⟨t,ht,hq⟩:=hbody A outer s H vs Q E (hr.deeper _) hsp;have I:Inv (cxOf CX P w K mg base N qual scope f cdv A outer s H E) [] (start N vs) H s1:=je3 S hr.hd e0 hl r x;refine y10 (ht [] s1 (start N vs) H _ I hq) (λfl s' hs=>?_) λe s' hs=>hs;have fin:∀{σ':St}{H':Hp}{v:V}{u:Value},Inv (cxOf CX P w K mg base N qual scope f cdv A outer s H E) [] σ' H' s'->RelV v u->Q v H'->CE outer P w H s Q u s':=
  λ{σ' H' v u} J rv q=>⟨v,H',J.os,J.bare,J.base,J.hok,rv,q⟩
 cases fl with
 |ret u=>
  obtain⟨v,σ',H',J,rv,q⟩:=hs;exact fin J rv q
 |next=>
  obtain⟨σ',H',J,q⟩:=hs;exact fin (v:=V.non) (u:=ud) J rfl q
 |brk=>
  obtain⟨_,_,_,q⟩:=hs;exact y1h q
 |cont=>
  obtain⟨_,_,_,q⟩:=hs;exact y1h q
section
variable{X:Cx}{x:Str}{p pos:Pos}{e:Expr}{es:List Expr}{t:TA}{id T:String}{r:List V->Hp->VK->Prop}
def tCB(r:List V->Hp->VK->Prop)(t:TA):TE:=λσ H Q=>t σ H λvs H1=>r vs H1 Q
theorem j06(hc:CallR X (.builtin id) r)(hg:Gl X x)(hm:X.mg x=none)(hv:bootBuiltins x=some (.builtin id))(ha:PA X (e::es) t)(hn:x≠"__name__":=by decide)(hdb:(x==("__debug__":Str))=false:=by decide)
  (he:starEach (e::es) X.env=(false,eval e X.env)::starEach es X.env:=by rfl) (hpl:(backTo pos (starEach es X.env)).any (·.1)=false:=by rfl):PE X (.Call (.Name x p) (e::es) [] pos) (tCB r t):=by
 intro pins s σ H Q I h;refine y0e (j52 I hg hm hv ?_ hn hdb);exact y4u (thn (ha pos pins s σ H _ I h) λus s1 ⟨vs,H1,I1,r1,q1⟩=>hc pins s1 σ H1 vs us Q I1 r1 q1) he hpl
theorem j0e(hc:CallR X (.type T) r)(hg:Gl X x)(hm:X.mg x=none)(hv:bootBuiltins x=some (.type T))(ha:PA X (e::es) t)(hn:x≠"__name__":=by decide)(hdb:(x==("__debug__":Str))=false:=by decide)
  (he:starEach (e::es) X.env=(false,eval e X.env)::starEach es X.env:=by rfl) (hpl:(backTo pos (starEach es X.env)).any (·.1)=false:=by rfl):PE X (.Call (.Name x p) (e::es) [] pos) (tCB r t):=by
 intro pins s σ H Q I h;refine y0e (j52 I hg hm hv ?_ hn hdb);exact ur (thn (ha pos pins s σ H _ I h) λus s1 ⟨vs,H1,I1,r1,q1⟩=>hc pins s1 σ H1 vs us Q I1 r1 q1) he hpl
end
end L2
namespace HT
open PySem PyProof.Rows
section
open PySem.SeqAt
open PySem.AutoSeq1 (wpAny_loadPart')
open PySem.MeetsSeq PySem.MeetsSeq2 PySem.MeetsSeq3
end
section
variable{prog:yy}{w:World}{A:gw}{E:Value->ye->Prop}{s:ye}
theorem cat_tup{t b:Addr}{vs ws:List Value}{Q:Value->ye->Prop}(ht:IsTup s.heap t vs.toArray)(hb:IsTup s.heap b ws.toArray)(hv:vs≠[])
  (h1:ws=[]->Q (.ref t) s) (h2:ws≠[]->Q (.ref s.heap.objs.size) {s with heap:=s.heap.push {cls:=.type "tuple",data:=.seq (vs++ws).toArray} })
  (hsz:vs.length+ws.length<=sizeLine):wpAny (model prog w) A (binaryOp .Add (.ref t) (.ref b)) Q E s:=by
 obtain⟨⟨cls,dd,data,sl⟩,ho,hc,n,hd⟩:=id ht;obtain⟨⟨cls2,dd2,data2,sl2⟩,ho2,hc2,n2,hd2⟩:=id hb;simp only at hc hd hc2 hd2;subst hc hd hc2 hd2;have e:vs.toArray++ws.toArray=(vs++ws).toArray:=by simp
 by_cases hw:ws=[]
 ·exact yak ⟨_,ho,rfl⟩ ⟨_,ho2,rfl⟩ y7g y9o y4c y41 (y3o _ _)
   (tuple_addW1 t b vs.toArray ws.toArray n n2 dd dd2 sl sl2 (by simpa using hv) (by simp[hw])) ⟨ho,ho2,h1 hw⟩
 ·refine yak ⟨_,ho,rfl⟩ ⟨_,ho2,rfl⟩ y7g y9o y4c y41 (y3o _ _)
   (tuple_addW2 t b vs.toArray ws.toArray n n2 dd dd2 sl sl2 (by simpa using hv) (by simpa using hw) (by rw[yj,yj];exact hsz)) ⟨ho,ho2,?_⟩
  rw[e];exact h2 hw
def sIx(n d:Nat):Option Int->Nat
 |none=>d
 |some v=>if v<0 then(v+(n:Int)).toNat else min v.toNat n
theorem sIx_none(n d:Nat):sIx n d none=d:=rfl
theorem sIx_nat(n d k:Nat):sIx n d (some (k:Int))=min k n:=by
 show(if (k:Int)<0 then((k:Int)+(n:Int)).toNat else min (k:Int).toNat n)=min k n;rw[if_neg (by omega),yq]
theorem sIx_le(n d:Nat)(hd:d<=n)(o:Option Int):sIx n d o<=n:=by
 cases o with
 |none=>exact hd
 |some v=>
  show(if v<0 then(v+(n:Int)).toNat else min v.toNat n)<=n;by_cases hv:v<0
  ·rw[if_pos hv];omega
  ·rw[if_neg hv];exact Nat.min_le_right _ _
theorem jfy(v:Int)(n d:Nat):(if v<0 then max (v+(n:Int)) 0 else min v (n:Int))=((sIx n d (some v):Nat):Int):=by
 show(if v<0 then max (v+(n:Int)) 0 else min v (n:Int))=(((if v<0 then(v+(n:Int)).toNat else min v.toNat n):Nat):Int)
 by_cases hv:v<0
 ·simp only[if_pos hv];omega
 ·simp only[if_neg hv];omega
theorem jb8(lo hi:Option Int)(n:Nat):y2y lo hi 1 (n:Int)=(((sIx n 0 lo:Nat):Int),((sIx n n hi:Nat):Int)):=by
 have h1:¬ ((1:Int)<0):=by omega
 unfold y2y;simp only[h1,if_false];refine Prod.ext ?_ ?_
 ·cases lo with
  |none=>rfl
  |some v=>exact jfy v n 0
 ·cases hi with
  |none=>rfl
  |some v=>exact jfy v n n
theorem jb9(i j:Nat):y1p (i:Int) (j:Int) 1=j-i:=by
 unfold y1p;have h1:(1:Int) > 0:=by omega
 simp only[h1,if_true,Int.ediv_one];split<;>omega
theorem j66{v:Value}{o:Option Int}{Q:Option Int->ye->Prop}(p:y8p v o)(h:Q o s):wpAny (model prog w) A (yax v) Q E s:=by
 cases p with
 |none=>exact ybv h
 |int i t=>exact slicePart_int h
theorem sliceApplied_gen{sl:Addr}{vl vu:Value}{lo hi:Option Int}{n:Nat}{Q:Int×Int×Nat->ye->Prop}(hs:s.heap.IsSliceOf sl vl vu .none)(pl:y8p vl lo)(pu:y8p vu hi)
  (h:Q (((sIx n 0 lo:Nat):Int),1,sIx n n hi-sIx n 0 lo) s):wpAny (model prog w) A (y5u (.ref sl) (pure (n:Int))) Q E s:=by
 obtain⟨os,hos,hcs,hds⟩:=id hs;unfold y5u ybg;refine y0 (y0 (y0f hos hds (x:=vl) rfl (y0 (y0f hos hds (x:=vu) rfl (y0 (y0f hos hds (x:=.none) rfl (y8 ?_)))))));refine y0 (ybv ?_);show wpAny _ _ (if ((1:Int)==0)=true then _ else _) _ _ s;rw[if_neg (by decide)];refine y0 (j66 pl (y0 (j66 pu (y0 (y8 ?_)))));show wpAny _ _ (match y2y lo hi 1 (n:Int)with|(lo,hi)=>pure (lo,(1:Int),y1p lo hi 1)) _ _ s;rw[jb8 lo hi n];show wpAny _ _ (pure (((sIx n 0 lo:Nat):Int),(1:Int),y1p ((sIx n 0 lo:Nat):Int) ((sIx n n hi:Nat):Int) 1)) _ _ s;rw[jb9];exact y8 h
theorem jhe(xs:Array Value)(i k:Nat):((v8 k).filterMap λ(m:Nat)=>xs[((i:Int)+(m:Int)*1).toNat]?).toArray=((xs.toList.drop i).take k).toArray:=by
 have e:(λ(m:Nat)=>xs[((i:Int)+(m:Int)*1).toNat]?)=λm=>xs[i+m]?:=by
  funext m
  have:((i:Int)+(m:Int)*1).toNat=i+m:=by omega
  rw[this]
 rw[e];have:=pick_run xs i k;rw[y9c]at this;have e2:((λx=>xs[x]?) ∘ λx=>i+x)=λm=>xs[i+m]?:=rfl;rw[e2]at this;rw[this]
theorem getItem_tuple_cut{t sl:Addr}{items:Array Value}{vl vu:Value}{lo hi:Option Int}{Q:Value->ye->Prop}(ht:IsTup s.heap t items)(hs:s.heap.IsSliceOf sl vl vu .none)(pl:y8p vl lo)(pu:y8p vu hi)
  (hw:¬ (sIx items.size 0 lo=0/\sIx items.size items.size hi=items.size))
  (h:Q (.ref s.heap.objs.size) {s with heap:=s.heap.push {cls:=.type "tuple",data:=.seq ((items.toList.drop (sIx items.size 0 lo)).take (sIx items.size items.size hi-sIx items.size 0 lo)).toArray} })
  (hsz:items.size<=sizeLine):wpAny (model prog w) A (getItem (.ref t) (.ref sl)) Q E s:=by
 have htake:sizeOk (.seq ((items.toList.drop (sIx items.size 0 lo)).take (sIx items.size items.size hi-sIx items.size 0 lo)).toArray):=by
  show((items.toList.drop (sIx items.size 0 lo)).take (sIx items.size items.size hi-sIx items.size 0 lo)).toArray.size<=sizeLine;rw[yj,yn,vj,yh];omega
 have hj:sIx items.size items.size hi<=items.size:=sIx_le _ _ (yg _) hi;obtain⟨os,hos,hcs,hds⟩:=id hs;have hTs:s.TypeIs (.ref sl) "slice":=⟨os,hos,hcs⟩
 unfold getItem
 try with_reducible refine vg ?_
 first|refine y0 (y8 ?_)|skip
 refine y0 (yaa ht.typeIs (by decide) ?_);refine y0 (gp (name:=uc "__getitem__") ht.typeIs y1z
  (xw y1z ht.typeIs y95 ?_ (y9n _ _)))
 show wpAny _ _ (y2v (.ref t) >>= _) _ _ s;refine y0 (y9p ht ?_);refine y0 (y28 hTs ?_);rw[if_pos (by decide)];refine y0 (sliceApplied_gen hs pl pu ?_);have hno:¬ ((((sIx items.size 0 lo:Nat):Int)==0&&(1:Int)==1&&(sIx items.size items.size hi-sIx items.size 0 lo)==items.size)=true):=by
  intro q;rw[uu,uu]at q;have q1:((sIx items.size 0 lo:Nat):Int)=0:=eq_of_beq q.1.1;have q2:sIx items.size items.size hi-sIx items.size 0 lo=items.size:=eq_of_beq q.2;exact hw ⟨by omega,by omega⟩
 show wpAny _ _ (if (((sIx items.size 0 lo:Nat):Int)==0&&(1:Int)==1&&(sIx items.size items.size hi-sIx items.size 0 lo)==items.size)=true then _ else _) _ _ s;rw[if_neg hno,jhe]
 first
  |exact y0 (m:=y1v _) (v9 (y8 ⟨_,rfl,y8 h⟩) htake)
  |exact y0 (m:=y1v _) (v9 (y0 (y8 (y8 ⟨_,rfl,y8 h⟩))) htake)
  |exact y0 (y0 (m:=y1v _) (v9 (y8 (y8 ⟨_,rfl,y8 h⟩)) htake))
  |exact y0 (y0 (m:=y1v _) (v9 (y8 ⟨_,rfl,y8 h⟩) htake))
end
end HT
namespace L2
open PySem PySem.Spec PyProof.Rows
abbrev TO:=St->Hp->(Option Int->Hp->Prop)->Prop
def PO(X:Cx)(e:Option Expr)(t:TO):Prop:=
 ∀(pins:List (Addr×Obj)) (s:ye) (σ:St) (H:Hp) (Q:Option Int->Hp->Prop),Inv X pins σ H s->t σ H Q->
  wpAny (model X.prog X.w) X.A (evalPart e X.env) (λu s'=>∃o H',Inv X pins σ H' s'/\y8p u o/\Q o H') X.xe s
def jfz:TO:=λ_ H Q=>Q none H
def tPart(t:TE):TO:=λσ H Q=>t σ H λx H1=>∃i,x=.int i/\Q (some i) H1
theorem j1v{ns:List Int}:∀{us:List Value},Vals (ns.map V.int) us->y2f us ns:=by
 induction ns with
 |nil=>intro us r;rw[y3l]at r;cases r;exact .nil
 |cons n ns ih=>
  intro us r;rw[xm]at r;cases r with
  |cons r1 r2=>
   obtain⟨t,e⟩:=r1;subst e;exact .cons n t (ih r2)
section
variable{X:Cx}{e:Expr}{te:TE}{lo hi:Option Expr}{tl th:TO}{pos p2:Pos}
theorem j18:PO X none jfz:=by
 intro pins s σ H Q I h;rw[evalPart_none];exact y8 ⟨none,H,I,.none,h⟩
theorem j0z(h:PE X e te):PO X (some e) (tPart te):=by
 intro pins s σ H Q I hw;rw[evalPart_some];refine thn (h pins s σ H _ I hw) λu s1 ⟨x,H1,I1,r1,q1⟩=>?_;obtain⟨i,rfl,q⟩:=q1;obtain⟨t,rfl⟩:=r1;exact⟨some i,H1,I1,.int i t,q⟩
def SlR(X:Cx)(r:V->Option Int->Option Int->Hp->VK->Prop):Prop:=
 ∀(pins:List (Addr×Obj)) (s:ye) (σ:St) (H:Hp) (x:V) (v vl vu:Value) (lo hi:Option Int) (sl:Addr) (Q:VK),Inv X pins σ H s->RelV x v->s.heap.IsSliceOf sl vl vu .none->y8p vl lo->y8p vu hi->r x lo hi H Q->
  ∃T id,typeLookup (.type T) "__getitem__"=pure (some (.builtin id))/\s.TypeIs v T/\wpAny (model X.prog X.w) X.A (getItem v (.ref sl)) (EP X pins σ Q) X.xe s
theorem SlR.or{r r':V->Option Int->Option Int->Hp->VK->Prop}(h:SlR X r)(h':SlR X r'):SlR X (λx lo hi H Q=>r x lo hi H Q\/r' x lo hi H Q):=by
 intro pins s σ H x v vl vu lo hi sl Q I rx hs pl pu q;rcases q with q|q
 ·exact h pins s σ H x v vl vu lo hi sl Q I rx hs pl pu q
 ·exact h' pins s σ H x v vl vu lo hi sl Q I rx hs pl pu q
def tSl(r:V->Option Int->Option Int->Hp->VK->Prop)(te:TE)(tl th:TO):TE:=λσ H Q=>te σ H λx H1=>tl σ H1 λl H2=>th σ H2 λu H3=>r x l u H3 Q
theorem j0s{r:V->Option Int->Option Int->Hp->VK->Prop}(hr:SlR X r)(he:PE X e te)(hl:PO X lo tl)(hu:PO X hi th):PE X (.Subscript e (.Slice lo hi none p2) pos) (tSl r te tl th):=by
 intro pins s σ H Q I h;refine ycc (thn (he pins s σ H _ I h) λv s1 ⟨x,H1,I1,r1,q1⟩=>?_);refine wpAny_Slice (thn (hl pins s1 σ H1 _ I1 q1) λvl s2 ⟨l,H2,I2,pl,q2⟩=>thn (hu pins s2 σ H2 _ I2 q2) λvu s3 ⟨u,H3,I3,pu,q3⟩=>?_);rw[evalPart_none];refine y8 ?_;have I4:Inv X pins σ H3 {s3 with heap:=s3.heap.push {cls:=.type "slice",data:=.fields #[vl,vu,.none]} }:=I3.kept (t':=s3.toks) λb ob q=>yc _ q;obtain⟨T,id,hT,ht,hg⟩:=hr pins {s3 with heap:=s3.heap.push {cls:=.type "slice",data:=.fields #[vl,vu,.none]} } σ H3 x v vl vu l u s3.heap.objs.size Q I4 r1 (ydy ..) pl pu q3;show wpAny (model X.prog X.w) X.A (subscriptTail e (.Slice lo hi none p2) v (.ref s3.heap.objs.size)) (EP X pins σ Q) X.xe {s3 with heap:=s3.heap.push {cls:=.type "slice",data:=.fields #[vl,vu,.none]} };exact tail_any (ops:=[.ref s3.heap.objs.size,v]) ht hT hg (by with_unfolding_all rfl)
def cutV(xs:List V)(lo hi:Option Int):List V:=(xs.drop (HT.sIx xs.length 0 lo)).take (HT.sIx xs.length xs.length hi-HT.sIx xs.length 0 lo)
theorem j4p(xs:List V)(lo hi:Option Int):(cutV xs lo hi).length<=xs.length:=by
 unfold cutV;rw[yn,vj];omega
def rSlT(K:y9):V->Option Int->Option Int->Hp->VK->Prop:=λx lo hi H Q=>∃a xs,x=.ref a/\SqT K H a xs/\
 ¬ (HT.sIx xs.length 0 lo=0/\HT.sIx xs.length xs.length hi=xs.length)/\∀p,H p=none->Q (.ref p) (upd H p (.tup (cutV xs lo hi)))
theorem sl_tup:SlR X (rSlT X.K):=by
 intro pins s σ H x v vl vu lo hi sl Q I rx hs pl pu h;obtain⟨a,xs,rfl,hx,hw,q⟩:=h;cases rx;obtain⟨its,r,ht,hz⟩:=I.tuple hx;have hlen:its.toArray.size=xs.length:=by rw[yj];exact r.length.symm
 refine⟨"tuple",_,y1z.lookup,ht.typeIs,?_⟩;refine HT.getItem_tuple_cut ht hs pl pu (by rw[hlen];exact hw) ?_ (by rw[hlen];exact hz);rw[hlen];refine⟨.ref s.heap.objs.size,_,I.laid (t':=s.toks) (o:=.tup (cutV xs lo hi)) (λb ob q=>yc _ q) (yg _) ?_,rfl,q _ (I.hok.fresh (yg _))⟩;exact⟨gj (j4p xs lo hi) hz,_,(r.drop (HT.sIx xs.length 0 lo)).take (HT.sIx xs.length xs.length hi-HT.sIx xs.length 0 lo),TupN.new _ _⟩
end
def ixN(n:Nat)(i:Int):Option Nat:=if 0<=i then(if i<n then some i.toNat else none)else if -(n:Int)<=i then some (i+n).toNat else none
def atI{α:Type}(xs:List α)(i:Int):Option α:=(ixN xs.length i).bind λj=>xs[j]?
theorem jk8{n:Nat}{i:Int}{j:Nat}(h:ixN n i=some j):seqIndex? i n=some j/\j<n/\-(n:Int)<=i/\i<n:=by
 unfold ixN at h;by_cases h0:0<=i
 ·rw[if_pos h0]at h;by_cases h1:i<n
  ·rw[if_pos h1]at h;have e:i.toNat=j:=gf h;exact⟨by rw[seqIndex_of h0 h1,e],by omega,by omega,h1⟩
  ·rw[if_neg h1]at h;cases h
 ·rw[if_neg h0]at h;by_cases h1:-(n:Int)<=i
  ·rw[if_pos h1]at h;have e:(i+n).toNat=j:=gf h;exact⟨by rw[seqIndex_neg (by omega) h1,e],by omega,h1,by omega⟩
  ·rw[if_neg h1]at h;cases h
theorem jba{α:Type}{xs:List α}{i:Int}{v:α}(h:atI xs i=some v):∃j,seqIndex? i xs.length=some j/\xs[j]?=some v/\j<xs.length/\-(xs.length:Int)<=i/\i<xs.length:=by
 unfold atI at h;cases e:ixN xs.length i with
 |none=>rw[e]at h;cases h
 |some j=>
  rw[e]at h;obtain⟨h1,h2,h3,h4⟩:=jk8 e;exact⟨j,h1,h,h2,h3,h4⟩
theorem atI_nat{α:Type}{xs:List α}{j:Nat}{v:α}(h:xs[j]?=some v):atI xs (j:Int)=some v:=by
 have hj:j<xs.length:=(yw.mp h).1;have e:ixN xs.length (j:Int)=some j:=by
  unfold ixN;rw[if_pos (by omega),if_pos (by omega)];simp
 unfold atI;rw[e];exact h
def jk9(b:Expr):Prop:=∀o i,subscripted b false o i=operate [o,i] (getItem o i)
def IxR(X:Cx)(r:R2):Prop:=
 ∀(value slice:Expr) (pins:List (Addr×Obj)) (s:ye) (σ:St) (H:Hp) (x y:V) (v u:Value) (Q:VK),Inv X pins σ H s->RelV x v->RelV y u->r x y H Q->
  subscripted slice false v u=operate [v,u] (getItem v u)->wpAny (model X.prog X.w) X.A (subscriptTail value slice v u) (EP X pins σ Q) X.xe s
def MtR(X:Cx)(id:String)(r:V->List V->Hp->VK->Prop):Prop:=
 ∀(pins:List (Addr×Obj)) (s:ye) (σ:St) (H:Hp) (x:V) (xs:List V) (v:Value) (us:List Value) (Q:VK),Inv X pins σ H s->RelV x v->Vals xs us->r x xs H Q->
  wpAny (model X.prog X.w) X.A (call (.builtin id) (v::us)) (EP X pins σ Q) X.xe s
section
variable{X:Cx}{a b:Expr}{ta tb:TE}{pos:Pos}
theorem IxR.or{r r':R2}(h:IxR X r)(h':IxR X r'):IxR X (λx y H Q=>r x y H Q\/r' x y H Q):=by
 intro value slice pins s σ H x y v u Q I rx ry q hs;rcases q with q|q
 ·exact h value slice pins s σ H x y v u Q I rx ry q hs
 ·exact h' value slice pins s σ H x y v u Q I rx ry q hs
theorem j0n{r:R2}(hr:IxR X r)(ha:PE X a ta)(hb:PE X b tb)(hs:jk9 b):PE X (.Subscript a b pos) (tOp r ta tb):=by
 intro pins s σ H Q I h;exact ycc (binT ha hb I h λv u s2 x y H2 I2 rx ry q=>hr a b pins s2 σ H2 x y v u Q I2 rx ry q (hs _ _))
def rIxL(K:y9):R2:=λx y H Q=>∃p xs i v,x=.ref p/\y=.int i/\SqL K H p xs/\atI xs i=some v/\Q v H
def rIxT(K:y9):R2:=λx y H Q=>∃p xs i v,x=.ref p/\y=.int i/\SqT K H p xs/\atI xs i=some v/\Q v H
def rIxS:R2:=λx y H Q=>∃z i c,x=.str z/\y=.int i/\z.length<=sizeLine/\atI z.cps.toList i=some c/\Q (.str ⟨#[c]⟩) H
theorem jka:IxR X (rIxL X.K):=by
 intro value slice pins s σ H x y v u Q I rx ry h hs;obtain⟨p,xs,i,z,rfl,rfl,hq,he,q⟩:=h;cases rx;obtain⟨t,rfl⟩:=ry;obtain⟨its,r,pl,hz⟩:=I.list hq;obtain⟨j,h1,h2,h3,h4,h5⟩:=jba he;obtain⟨w,ew,rw'⟩:=r.get h2;have hl:=r.length;have hn:=ja4;have fin:EP X pins σ Q w s:=⟨z,H,I,rw',q⟩
 by_cases h0:0<=i
 ·have hj:i.toNat=j:=by
   rw[seqIndex_of h0 h5]at h1;exact gf h1
  exact item_listR pl.isList h0 (by omega) (by rw[hj];simpa using ew) fin hs
 ·have hj:(i+(its.toArray.size:Int)).toNat=j:=by
   rw[seqIndex_neg (by omega) h4]at h1;rw[yj,<- hl];exact gf h1
  exact y7n (x:=w) pl.isList.typeIs ya7.lookup
   (wpAny_getItem_list_neg (Q:=λr s'=>r=w/\EP X pins σ Q r s') pl.isList (by omega) (by rw[yj]<;>omega) (by omega) (by rw[hj];simpa using ew) ⟨rfl,fin⟩) hs
theorem ix_tup:IxR X (rIxT X.K):=by
 intro value slice pins s σ H x y v u Q I rx ry h hs;obtain⟨p,xs,i,z,rfl,rfl,hq,he,q⟩:=h;cases rx;obtain⟨t,rfl⟩:=ry;obtain⟨its,r,pl,hz⟩:=I.tuple hq;obtain⟨j,h1,h2,h3,h4,h5⟩:=jba he;obtain⟨w,ew,rw'⟩:=r.get h2;have hl:=r.length;have hn:=ja4;have fin:EP X pins σ Q w s:=⟨z,H,I,rw',q⟩
 exact y7n (x:=w) pl.typeIs y47.lookup
  (getItem_tuple (j:=j) (Q:=λr s'=>r=w/\EP X pins σ Q r s') pl (by omega) (by omega) (by rw[yj,<- hl];exact h1) (by simpa using ew) ⟨rfl,fin⟩) hs
theorem ix_str:IxR X rIxS:=by
 intro value slice pins s σ H x y v u Q I rx ry h hs;obtain⟨z,i,c,rfl,rfl,hz,he,q⟩:=h;obtain⟨t,rfl⟩:=rx;obtain⟨t',rfl⟩:=ry;obtain⟨j,h1,h2,h3,h4,h5⟩:=jba he;have hl:z.cps.toList.length=z.length:=by simp[Str.length]
 rw[hl]at h1 h4 h5;have hn:=ja4;exact tail_any (ycg s z t) slot_str_getitem.lookup (getItem_str (c:=c) (by
  have e1:decide (i < -(2 ^ 63:Int))=false:=decide_eq_false (by omega);have e2:decide (i>=2 ^ 63)=false:=decide_eq_false (by omega);rw[e1,e2,Bool.or_false]) (by rw[h1];simpa using h2) ⟨.str ⟨#[c]⟩,H,I.tok _,⟨_,rfl⟩,q⟩) hs
def rIx(K:y9):R2:=λx y H Q=>rIxL K x y H Q\/rIxT K x y H Q\/rIxS x y H Q
theorem ix_seq:IxR X (rIx X.K):=jka.or (ix_tup.or ix_str)
theorem j7m(lo hi:Option Int)(n:Nat):(sliceBounds lo hi none n).1=((HT.sIx n 0 lo:Nat):Int)/\(sliceBounds lo hi none n).2.1=((HT.sIx n n hi:Nat):Int)/\(sliceBounds lo hi none n).2.2=1:=by
 refine⟨?_,?_,rfl⟩
 ·cases lo with
  |none=>simp[sliceBounds,HT.sIx]
  |some i=>
   simp only[sliceBounds,HT.sIx,yar,show(1:Int) > 0 by decide,if_true];by_cases h:i<0
   ·simp only[h,if_true]<;>omega
   ·simp only[h,if_false]<;>omega
 ·cases hi with
  |none=>simp[sliceBounds,HT.sIx]
  |some i=>
   simp only[sliceBounds,HT.sIx,yar,show(1:Int) > 0 by decide,if_true];by_cases h:i<0
   ·simp only[h,if_true]<;>omega
   ·simp only[h,if_false]<;>omega
theorem j67(its:List Value)(lo hi:Option Int):slicePick its.toArray lo hi none=((its.drop (HT.sIx its.length 0 lo)).take (HT.sIx its.length its.length hi-HT.sIx its.length 0 lo)).toArray:=by
 obtain⟨h1,h2,h3⟩:=j7m lo hi its.toArray.size;unfold slicePick;rw[h1,h2,h3];simp only[sliceRange_one,pick_run,yj]<;>rfl
def rSlL(K:y9):V->Option Int->Option Int->Hp->VK->Prop:=λx lo hi H Q=>∃a xs,x=.ref a/\SqL K H a xs/\∀p,H p=none->Q (.ref p) (upd H p (.lst (cutV xs lo hi)))
theorem jnk:SlR X (rSlL X.K):=by
 intro pins s σ H x v vl vu lo hi sl Q I rx hs pl pu h;obtain⟨a,xs,rfl,hx,q⟩:=h;cases rx;obtain⟨its,r,ht,hz⟩:=I.list hx;have hlen:=r.length;refine⟨"list",_,ya7.lookup,ht.isList.typeIs,?_⟩;refine wpAny_getItem_list_slice ht.isList hs pl pu .none (by simp) ?_ (by rw[yj]<;>omega);rw[j67,<- hlen];refine⟨.ref s.heap.objs.size,_,I.laid (t':=s.toks) (o:=.lst (cutV xs lo hi)) (λb ob q=>yc _ q) (yg _) ?_,rfl,q _ (I.hok.fresh (yg _))⟩;exact⟨gj (j4p xs lo hi) hz,_,0,(r.drop (HT.sIx xs.length 0 lo)).take (HT.sIx xs.length xs.length hi-HT.sIx xs.length 0 lo),yi _ rfl⟩
def j8r:V->Bool
 | .non=>true
 | .bl _=>true
 | .int _=>true
 | .str _=>true
 |_=>false
def eqV:V->V->Bool
 | .non,.non=>true
 | .bl a,.bl b=>a==b
 | .bl a,.int b=>(if a then 1 else 0)==b
 | .int a,.bl b=>a==(if b then 1 else 0)
 | .int a,.int b=>a==b
 | .str a,.str b=>a==b
 |_,_=>false
theorem eqAt_V{A:gw}{s:ye}{y x:V}{u v:Value}(ry:RelV y u)(rx:RelV x v)(fy:j8r y=true)(fx:j8r x=true):y8b A s u v (eqV y x):=by
 cases y with
 |non=>
  cases ry;cases x with
  |non=>cases rx;exact yec _
  |bl b=>cases rx;exact yda b
  |int b=>obtain⟨t,rfl⟩:=rx;exact ydp b t
  |str b=>obtain⟨t,rfl⟩:=rx;exact ydq b t
  |_=>exact absurd (show false=true from fx) xb
 |bl a=>
  cases ry;cases x with
  |non=>cases rx;exact yd9 a
  |bl b=>cases rx;exact yd8 a b
  |int b=>obtain⟨t,rfl⟩:=rx;exact ydl a b t
  |str b=>obtain⟨t,rfl⟩:=rx;exact ydm a b t
  |_=>exact absurd (show false=true from fx) xb
 |int a=>
  obtain⟨t',rfl⟩:=ry;cases x with
  |non=>cases rx;exact ydo a t'
  |bl b=>cases rx;exact ydn a t' b
  |int b=>obtain⟨t,rfl⟩:=rx;exact y9h a t' b t
  |str b=>obtain⟨t,rfl⟩:=rx;exact y9i a t' b t
  |_=>exact absurd (show false=true from fx) xb
 |str a=>
  obtain⟨t',rfl⟩:=ry;cases x with
  |non=>cases rx;exact yds a t'
  |bl b=>cases rx;exact ydr a t' b
  |int b=>obtain⟨t,rfl⟩:=rx;exact y9j a t' b t
  |str b=>obtain⟨t,rfl⟩:=rx;exact y45 a t' b t
  |_=>exact absurd (show false=true from fx) xb
 |_=>exact absurd (show false=true from fy) xb
def eqU(x:V)(u:Value):Bool:=match u with
 | .none=>eqV .non x
 | .bool b=>eqV (.bl b) x
 | .int i _=>eqV (.int i) x
 | .str z _=>eqV (.str z) x
 |_=>false
theorem jkc{x y:V}{u:Value}(r:RelV y u)(f:j8r y=true):eqU x u=eqV y x:=by
 cases y with
 |non=>cases r;rfl
 |bl b=>cases r;rfl
 |int i=>obtain⟨t,rfl⟩:=r;rfl
 |str z=>obtain⟨t,rfl⟩:=r;rfl
 |_=>exact absurd (show false=true from f) xb
theorem j68{x:V}:∀{xs:List V}{us:List Value},Vals xs us->xs.all j8r=true->us.any (eqU x)=xs.any λy=>eqV y x
 |_,_,.nil,_=>rfl
 |y::xs,u::us,.cons r t,f=>by
  rw[ycm,uu]at f;rw[y3u,y3u,jkc r f.1,j68 t f.2]
theorem j3o{A:gw}{s:ye}{x:V}{v:Value}(rx:RelV x v)(fx:j8r x=true):∀{xs:List V}{us:List Value},Vals xs us->xs.all j8r=true->∀u∈us,y8b A s u v (eqU x u)
 |_,_,.nil,_=>λu hu=>by cases hu
 |y::xs,u::us,.cons r t,f=>λu' hu=>by
  rw[ycm,uu]at f;rcases xf.mp hu with rfl|hu
  ·rw[jkc r f.1];exact eqAt_V r rx f.1 fx
  ·exact j3o rx fx t f.2 u' hu
def inV(x:V)(xs:List V):Bool:=xs.any λy=>eqV y x
def rIn(K:y9)(neg:Bool):R2:=λx y H Q=>∃p xs,y=.ref p/\(SqL K H p xs\/SqT K H p xs)/\j8r x=true/\xs.all j8r=true/\Q (.bl (if neg then !inV x xs else inV x xs)) H
theorem je4:OpR X (compareOp .In) (rIn X.K false):=by
 intro pins s σ H x y v u Q I rx ry h;obtain⟨p,xs,rfl,hq,fx,fs,q⟩:=h;cases ry;rcases hq with hq|hq
 ·obtain⟨its,r,pl,hz⟩:=I.list hq;refine SeqAt.in_listAt (eqU x) pl.isList (λw hw=>j3o rx fx r fs w (by simpa using hw)) ⟨.bl _,H,I,rfl,?_⟩;rw[show its.toArray.any (eqU x)=its.any (eqU x) by simp,j68 r fs];exact q
 ·obtain⟨its,r,pl,hz⟩:=I.tuple hq;refine SeqAt.in_tupleAt (eqU x) pl (λw hw=>j3o rx fx r fs w (by simpa using hw)) ⟨.bl _,H,I,rfl,?_⟩;rw[show its.toArray.any (eqU x)=its.any (eqU x) by simp,j68 r fs];exact q
theorem j7n:OpR X (compareOp .NotIn) (rIn X.K true):=by
 intro pins s σ H x y v u Q I rx ry h;obtain⟨p,xs,rfl,hq,fx,fs,q⟩:=h;cases ry;rcases hq with hq|hq
 ·obtain⟨its,r,pl,hz⟩:=I.list hq;refine SeqAt.notIn_listAt (eqU x) pl.isList (λw hw=>j3o rx fx r fs w (by simpa using hw)) ⟨.bl _,H,I,rfl,?_⟩;rw[show its.toArray.any (eqU x)=its.any (eqU x) by simp,j68 r fs];exact q
 ·obtain⟨its,r,pl,hz⟩:=I.tuple hq;refine SeqAt.notIn_tupleAt (eqU x) pl (λw hw=>j3o rx fx r fs w (by simpa using hw)) ⟨.bl _,H,I,rfl,?_⟩;rw[show its.toArray.any (eqU x)=its.any (eqU x) by simp,j68 r fs];exact q
theorem j7o:CallR X (.builtin "len") (λxs H Q=>∃z,xs=[.str z]/\z.length<=sizeLine/\Q (.int z.length) H):=by
 intro pins s σ H xs us Q I r h;obtain⟨z,rfl,hz,q⟩:=h;obtain⟨u,rfl,t,rfl⟩:=j65 r;have hn:=ja4;exact len_str (by omega) ⟨.int z.length,H,I.tok _,⟨_,rfl⟩,q⟩
theorem CallR.or{f:Value}{r r':List V->Hp->VK->Prop}(h:CallR X f r)(h':CallR X f r'):CallR X f (λxs H Q=>r xs H Q\/r' xs H Q):=by
 intro pins s σ H xs us Q I rs q;rcases q with q|q
 ·exact h pins s σ H xs us Q I rs q
 ·exact h' pins s σ H xs us Q I rs q
theorem j7p:CallR X (.type "list") (λxs H Q=>∃p ys,xs=[.ref p]/\(SqL X.K H p ys\/SqT X.K H p ys)/\∀l,H l=none->Q (.ref l) (upd H l (.lst ys))):=by
 intro pins s σ H xs us Q I r h;obtain⟨p,ys,rfl,hq,q⟩:=h;obtain⟨u,rfl,rx⟩:=j65 r;cases rx;have fin:∀(its:List Value),Vals ys its->ys.length<=sizeLine->∀(h':Heap) (c':Nat),(∀b o',s.heap.get? b=some o'->h'.get? b=some o')->
   h'.get? s.heap.objs.size=some {cls:=.type "list",dict:=none,data:=.seq its.toArray c',slots:=#[]}->EP X pins σ Q (.ref s.heap.objs.size) {s with heap:=h'}:=λits r' hz h' c' kp e=>
  ⟨.ref s.heap.objs.size,_,I.laid (t':=s.toks) kp (yg _) (show ObjOk X.prog X.w _ h' _ (.lst ys)from⟨hz,its,c',r',e⟩),rfl,q _ (I.hok.fresh (yg _))⟩
 rcases hq with hq|hq
 ·obtain⟨its,r',pl,hz⟩:=I.list hq;have hlen:=r'.length;obtain⟨o,ho,hc,n,hd⟩:=pl.isList;exact call_list_seq p (.inl rfl) ho hc hd (λh' c' kp e=>fin its r' hz h' c' kp e) (by simp only[yj]<;>omega)
 ·obtain⟨its,r',pl,hz⟩:=I.tuple hq;have hlen:=r'.length;obtain⟨o,ho,hc,n,hd⟩:=pl;exact call_list_seq p (.inr rfl) ho hc hd (λh' c' kp e=>fin its r' hz h' c' kp e) (by simp only[yj]<;>omega)
theorem j69:CallR X (.type "tuple") (λxs H Q=>∃p ys,xs=[.ref p]/\((SqL X.K H p ys/\∀l,H l=none->Q (.ref l) (upd H l (.tup ys)))\/(SqT X.K H p ys/\Q (.ref p) H))):=by
 intro pins s σ H xs us Q I r h;obtain⟨p,ys,rfl,h⟩:=h;obtain⟨u,rfl,rx⟩:=j65 r;cases rx;rcases h with⟨hq,q⟩|⟨hq,q⟩
 ·obtain⟨its,r',pl,hz⟩:=I.list hq;have hlen:=r'.length;refine call_tuple_list pl.isList (λh' kp=>?_) (by simp only[yj]<;>omega);have I1:Inv X pins σ H {s with heap:=h'}:=I.kept (t':=s.toks) kp;have I2:Inv X pins σ (upd H h'.objs.size (.tup ys)) {s with heap:=h'.push {cls:=.type "tuple",data:=.seq its.toArray} }:=
   I1.laid (t':=s.toks) (λb o e=>yc _ e) (yg _) (show ObjOk X.prog X.w _ _ _ (.tup ys)from⟨hz,its,r',TupN.new _ _⟩)
  exact⟨.ref h'.objs.size,_,I2,rfl,q _ (I1.hok.fresh (yg _))⟩
 ·obtain⟨its,r',pl,hz⟩:=I.tuple hq;exact call_tuple_same pl ⟨.ref p,H,I,rfl,q⟩
def tyV(K:y9)(T:String)(x:V)(H:Hp):Prop:=match x with
 | .str _=>T="str"
 | .int _=>T="int"
 | .ref p=>(T="list"/\∃xs,SqL K H p xs)\/(T="tuple"/\∃o,K.lookup p=some o/\o.cls=.type "tuple"/\o.dict=none)\/
   (T="dict"/\((∃kvs,H p=some (.dK kvs))\/∃kvs,H p=some (.dT kvs)))\/(T="set"/\∃S n,H p=some (.set S n))
 |_=>False
theorem jkd{pins:List (Addr×Obj)}{σ:St}{H:Hp}{s:ye}{T:String}{x:V}{v:Value}(I:Inv X pins σ H s)(r:RelV x v)(ty:tyV X.K T x H):
  s.TypeIs v T/\∀a,v=.ref a->∃ob,s.heap.get? a=some ob/\ob.dict=none:=by
 cases x with
 |str z=>
  obtain⟨t,rfl⟩:=r;cases(show T="str" from ty);exact⟨ycg s z t,λ_ e=>nomatch e⟩
 |int i=>
  obtain⟨t,rfl⟩:=r;cases(show T="int" from ty);exact⟨ycf s i t,λ_ e=>nomatch e⟩
 |ref p=>
  cases r;rcases ty with⟨rfl,xs,hq⟩|⟨rfl,o,hk,hc,hd⟩|⟨rfl,hk⟩|⟨rfl,S,n,hk⟩
  ·obtain⟨its,_,pl,_⟩:=I.list hq;refine⟨pl.isList.typeIs,λa e=>?_⟩;cases e;obtain⟨o,n,e,c,hd,_⟩:=pl;exact⟨o,e,hd⟩
  ·refine⟨⟨o,I.kIn p o hk,hc⟩,λa e=>?_⟩;cases e;exact⟨o,I.kIn _ o hk,hd⟩
  ·have z:∃o,s.heap.get? p=some o/\o.ExactDict:=by
    rcases hk with⟨kvs,hk⟩|⟨kvs,hk⟩
    ·obtain⟨_,_,_,_,o,_,_,e,ex,_⟩:=I.hok p _ hk;exact⟨o,e,ex⟩
    ·obtain⟨_,_,_,_,o,_,_,e,ex,_⟩:=I.hok p _ hk;exact⟨o,e,ex⟩
   obtain⟨o,e,ex⟩:=z;refine⟨⟨o,e,ex.1⟩,λa e2=>?_⟩;cases e2;exact⟨o,e,ex.2.1⟩
  ·obtain⟨o,_,_,_,e,ex,_⟩:=I.hok p _ hk;refine⟨⟨o,e,ex.1⟩,λa e2=>?_⟩;cases e2;exact⟨o,e,ex.2.1⟩
 |_=>exact y1h ty
def tBM0(K:y9)(T:String)(r:V->List V->Hp->VK->Prop)(to:TE):TE:=λσ H Q=>to σ H λx H1=>tyV K T x H1/\r x [] H1 Q
def tBM(K:y9)(T:String)(r:V->List V->Hp->VK->Prop)(to:TE)(t:TA):TE:=λσ H Q=>to σ H λx H1=>tyV K T x H1/\t σ H1 λxs H2=>r x xs H2 Q
variable{o e:Expr}{es:List Expr}{to:TE}{t:TA}{name:Str}{apos cpos:Pos}{T id:String}{r:V->List V->Hp->VK->Prop}
theorem pe_bm0(pa:ybx T)(slot:Slot T name id)(hty:typeOf (.builtin id)=pure (.type "method_descriptor"))(hm:MtR X id r)(ho:PE X o to)
  (hbase:attributeBase o name X.env (eval o X.env)=eval o X.env:=by rfl) (hline:(apos.endLine==cpos.line)=true:=by rfl):PE X (.Call (.Attribute o name apos) [] [] cpos) (tBM0 X.K T r to):=by
 intro pins s σ H Q I h;refine wpAny_Call_method0_late hbase hline (thn (ho pins s σ H _ I h) λv s1 ⟨x,H1,I1,r1,ty,q1⟩=>?_);obtain⟨h1,h2⟩:=jkd I1 r1 ty;exact⟨T,id,pa,slot,hty,h1,h2,y2e rfl (PySem.evalArgs_none (hm pins s1 σ H1 x [] v [] Q I1 r1 .nil q1))⟩
theorem jao(pa:ybx T)(slot:Slot T name id)(hty:typeOf (.builtin id)=pure (.type "method_descriptor"))(hm:MtR X id r)(ho:PE X o to)(ha:PA X (e::es) t)
  (hbase:attributeBase o name X.env (eval o X.env)=eval o X.env:=by rfl)
  (hfew:((backTo cpos (starEach (e::es) X.env)).all (λx=>!x.1)&&(backToKw cpos (keywordEach [] X.env)).all (λx=>x.1.isSome)
   && decide ((e::es).length+([]:List y7t).length+(if ([]:List y7t).isEmpty then 0 else 1)<30))=true:=by rfl)
  (hline:(apos.endLine==cpos.line)=true:=by rfl) (hs:starEach (e::es) X.env=(false,eval e X.env)::starEach es X.env:=by rfl) (hplain:(backTo cpos (starEach es X.env)).any (·.1)=false:=by rfl):
  PE X (.Call (.Attribute o name apos) (e::es) [] cpos) (tBM X.K T r to t):=by
 intro pins s σ H Q I h;refine y7o hbase hfew hline rfl (thn (ho pins s σ H _ I h) λv s1 ⟨x,H1,I1,r1,ty,q1⟩=>?_);obtain⟨h1,h2⟩:=jkd I1 r1 ty;refine⟨T,id,pa,slot,hty,h1,h2,?_⟩;have hA:=ha cpos pins s1 σ H1 _ I1 q1;rw[hs]at hA ⊢;refine y2e (by show(false||(backTo cpos (starEach es X.env)).any (·.1))=false;rw[hplain]<;>rfl) (y5a ?_);exact thn hA λus s2 ⟨vs,H2,I2,r2,q2⟩=>hm pins s2 σ H2 x vs v us Q I2 r1 r2 q2
end
def MtM(X:Cx)(id:String)(r:V->List V->Hp->VK->Prop):Prop:=
 ∀(pins:List (Addr×Obj)) (s:ye) (σ:St) (H:Hp) (x:V) (xs:List V) (v:Value) (us:List Value) (Q:VK),Inv X pins σ H s->RelV x v->Vals xs us->r x xs H Q->
  wpAny (model X.prog X.w) X.A (call (.builtin id) (v::us)) (EP X pins σ Q) X.xe s
theorem Vals.one:∀{x:V}{us:List Value},Vals [x] us->∃u,us=[u]/\RelV x u
 |_,_,.cons r .nil=>⟨_,rfl,r⟩
theorem Vals.zero:∀{us:List Value},Vals [] us->us=[]
 |_,.nil=>rfl
theorem Vals.rep{xs:List V}{us:List Value}(h:Vals xs us):∀k:Nat,Vals (xk k xs).flatten (xk k us).flatten
 |0=>.nil
 |k+1=>by
  rw[ue,ue,y1x,y1x];exact Vals.append h (Vals.rep h k)
theorem j8s(its:List Value):∀(k:Nat) (acc:List Value),
  y9v (λx1 x2=>x1++x2) acc.toArray (xk k its.toArray)=(acc++(xk k its).flatten).toArray
 |0,acc=>by simp
 |k+1,acc=>by
  have e:acc.toArray++its.toArray=(acc++its).toArray:=by simp
  have e2:(acc++its)++(xk k its).flatten=acc++(xk (k+1) its).flatten:=by
   rw[ue,y1x,y0x]
  rw[<- e2,<- j8s its k (acc++its),<- e,ue,y3v]
section
variable{X:Cx}{pins:List (Addr×Obj)}{σ:St}{H:Hp}{s:ye}{l b:Addr}{xs ys zs:List V}
theorem Inv.lset{its its':List Value}{n:Nat}{f:Array Value->Array Value}{t':Nat}(I:Inv X pins σ H s)(hH:H l=some (.lst xs))
  (e:s.heap.get? l=some {cls:=.type "list",data:=.seq its.toArray n}) (hf:f its.toArray=its'.toArray) (hv:Vals ys its') (hz:ys.length<=sizeLine):
  Inv X pins σ (upd H l (.lst ys)) {s with heap:=s.heap.update l (vn f),toks:=t'}:=by
 have q:=PySem.IsL.update e f;rw[hf]at q;refine I.write (x:=l) (e:=l) (by rw[hH];exact trivial) (.inl rfl) (λb' u hb hu=>(uw s.heap (vn f) (y57 hb)).trans hu) ⟨_,q⟩ ?_;exact⟨hz,its',_,hv,q⟩
theorem Inv.lnew{its:List Value}{t':Nat}(I:Inv X pins σ H s)(hv:Vals ys its)(hz:ys.length<=sizeLine):
  Inv X pins σ (upd H s.heap.objs.size (.lst ys)) {s with heap:=s.heap.push {cls:=.type "list",data:=.seq its.toArray},toks:=t'}:=
 I.laid (λ_ _ q=>yc _ q) (yg _) ⟨hz,its,0,hv,yi _ rfl⟩
theorem Inv.fresh(I:Inv X pins σ H s):H s.heap.objs.size=none:=I.hok.fresh (yg _)
theorem Inv.lstM(I:Inv X pins σ H s)(hH:H l=some (.lst xs)):xs.length<=sizeLine/\∃(its:List Value) (n:Nat),Vals xs its/\xs.length=its.length/\s.heap.get? l=some {cls:=.type "list",data:=.seq its.toArray n}:=by
 obtain⟨z,its,n,r,e⟩:=I.hok l _ hH;exact⟨z,its,n,r,r.length,e⟩
theorem jbb{n:Nat}(h:n<=sizeLine):y1u n=false:=by
 unfold y1u;exact decide_eq_false (by omega)
end
section
variable{X:Cx}
def jg0:V->List V->Hp->VK->Prop:=λx vs H Q=>∃l xs y,x=.ref l/\vs=[y]/\H l=some (.lst xs)/\xs.length<sizeLine/\Q .non (upd H l (.lst (xs++[y])))
theorem j1e:MtM X "list.append" jg0:=by
 intro pins s σ H x vs v us Q I rx rv h;obtain⟨l,xs,y,rfl,rfl,hH,hz,q⟩:=h;cases rx;obtain⟨u,rfl,ru⟩:=rv.one;obtain⟨z,its,n,r,hl,e⟩:=I.lstM hH;refine y4h F.slot_list_append ⟨_,e,rfl⟩ F.entry_list_append (F.args_list_append_2 _ _) (PySem.list_append l its.toArray n u (by rw[yj];omega)) ⟨e,?_⟩;refine⟨.non,_,I.lset (its':=its++[u]) hH e (by simp) (r.append (.cons ru .nil)) ?_,rfl,q⟩;rw[xa,ub];omega
def jg1:V->List V->Hp->VK->Prop:=λx vs H Q=>∃l b xs zs,x=.ref l/\vs=[.ref b]/\H l=some (.lst xs)/\H b=some (.lst zs)/\xs.length+zs.length<=sizeLine/\Q .non (upd H l (.lst (xs++zs)))
theorem je5:MtM X "list.extend" jg1:=by
 intro pins s σ H x vs v us Q I rx rv h;obtain⟨l,b,xs,zs,rfl,rfl,hH,hB,hz,q⟩:=h;cases rx;obtain⟨u,rfl,ru⟩:=rv.one;cases ru;obtain⟨z,its,n,r,hl,e⟩:=I.lstM hH;obtain⟨z2,its2,n2,r2,hl2,e2⟩:=I.lstM hB;have hsz:its.toArray.size+its2.toArray.size<=sizeLine:=by rw[yj,yj];omega
 have hlong:¬ (!its.toArray.isEmpty&&y1u (its.toArray.size+its2.toArray.size))=true:=by
  rw[jbb hsz,Bool.and_false];exact xb
 refine y4h F.slot_list_extend ⟨_,e,rfl⟩ F.entry_list_extend (F.args_list_extend_2 _ _)
  (AutoSeq1.list_extend_list_list_0 l its.toArray n b its2.toArray n2 hlong (by rw[yj];omega) (by omega)) ⟨e,e2,?_⟩
 refine⟨.non,_,I.lset (its':=its++its2) hH e (by simp) (r.append r2) ?_,rfl,q⟩;rw[xa];omega
def jke:V->List V->Hp->VK->Prop:=λx vs H Q=>∃l xs,x=.ref l/\vs=[]/\H l=some (.lst xs)/\Q .non (upd H l (.lst []))
theorem jhf:MtM X "list.clear" jke:=by
 intro pins s σ H x vs v us Q I rx rv h;obtain⟨l,xs,rfl,rfl,hH,q⟩:=h;cases rx;have hus:=rv.zero;subst hus;obtain⟨z,its,n,r,hl,e⟩:=I.lstM hH;refine y4h F.slot_list_clear ⟨_,e,rfl⟩ F.entry_list_clear (F.args_list_clear_1 _) (AutoSeq1.list_clear_list_0 l its.toArray n (by rw[yj];omega)) ⟨e,?_⟩;exact⟨.non,_,I.lset (its':=[]) (ys:=[]) hH e rfl .nil (gm _),rfl,q⟩
def rCat:R2:=λx y H Q=>∃l b xs zs,x=.ref l/\y=.ref b/\H l=some (.lst xs)/\H b=some (.lst zs)/\xs.length+zs.length<=sizeLine/\∀p,H p=none->Q (.ref p) (upd H p (.lst (xs++zs)))
theorem op_cat:OpR X (binaryOp .Add) rCat:=by
 intro pins s σ H x y v u Q I rx ry h;obtain⟨l,b,xs,zs,rfl,rfl,hH,hB,hz,q⟩:=h;cases rx;cases ry;obtain⟨z,its,n,r,hl,e⟩:=I.lstM hH;obtain⟨z2,its2,n2,r2,hl2,e2⟩:=I.lstM hB;refine PySem.P.add_list e e2 ?_ (by rw[yj,yj];omega);have ea:its.toArray++its2.toArray=(its++its2).toArray:=by simp
 rw[ea];exact⟨.ref _,_,I.lnew (t':=s.toks) (r.append r2) (by rw[xa];omega),rfl,q _ I.fresh⟩
def rRep:R2:=λx y H Q=>∃l k xs,x=.ref l/\y=.int k/\H l=some (.lst xs)/\-(2 ^ 63)<=k/\k<2 ^ 63/\xs.length*k.toNat<=sizeLine/\
 ∀p,H p=none->Q (.ref p) (upd H p (.lst (xk k.toNat xs).flatten))
theorem jg2{α:Type}(xs:List α)(k:Nat):(xk k xs).flatten.length=k*xs.length:=by
 induction k with
 |zero=>simp
 |succ k ih=>rw[ue,y1x,xa,ih,y5z,y7y]
theorem op_rep:OpR X (binaryOp .Mult) rRep:=by
 intro pins s σ H x y v u Q I rx ry h;obtain⟨l,k,xs,rfl,rfl,hH,h1,h2,hz,q⟩:=h;cases rx;obtain⟨t,rfl⟩:=ry;obtain⟨z,its,n,r,hl,e⟩:=I.lstM hH;have hlen:its.toArray.size*k.toNat<=sizeLine:=by rw[yj,<- hl];exact hz
 have hcap:¬ its.toArray.size*k.toNat > (2 ^ 63-1)/8:=by
  have:(sizeLine:Nat)<=(2 ^ 63-1)/8:=by decide
  omega
 have hfit:¬ (!Builtin.List.listFitsIndex k)=true:=by
  rw[fitsIndex_both h1 h2];exact xb
 have hlong:¬ y1u (its.toArray.size*k.toNat)=true:=by
  rw[jbb hlen];exact xb
 have hnew:y9v (λx1 x2=>x1++x2) #[] (xk (if its.toArray.isEmpty=true then 0 else k.toNat) its.toArray)=(xk k.toNat its).flatten.toArray:=by
  have f0:∀m:Nat,y9v (λx1 x2=>x1++x2) #[] (xk m its.toArray)=(xk m its).flatten.toArray:=λm=>by
   have:=j8s its m [];rw[y3y]at this;exact this
  rw[f0];cases its with
  |nil=>simp
  |cons a r'=>rw[if_neg (by simp)]
 refine wpAny_binaryOp_repeat_ref (T:="list") (U:="int") (by decide) ⟨_,e,rfl⟩ (λs'=>ycf s' k t) noFill_list_mul F.fills_int_mul yaz repeat_list F.slot_int_index.lookup
  (y4h yaz (ycf s k t) F.entry_int_rmul (F.args_int_rmul_2 _ _) (int___rmul___int_list k t l its.toArray n)
   ⟨e,rfl,⟨_,e,rfl⟩,y4h F.slot_list_mul ⟨_,e,rfl⟩ F.entry_list_mul (F.args_list_mul_2 _ _) (AutoListH.list___mul___list_int_3 l its.toArray n k t hfit hcap hlong) ⟨e,?_⟩⟩)
 rw[hnew];exact⟨.ref _,_,I.lnew (t':=s.toks) (r.rep k.toNat) (by rw[jg2,yd1];exact hz),rfl,q _ I.fresh⟩
end
variable{y:V}
section
variable{κ:Type}[DecidableEq κ]
def valV(kvs:List (κ×V))(k:κ):Option V:=(kvs.find? λkv=>decide (kv.1=k)).map (·.2)
def putK(kvs:List (κ×V))(k:κ)(v:V):List (κ×V):=
 if (kvs.any λkv=>decide (kv.1=k))=true then kvs.map (λkv=>if kv.1=k then(kv.1,v)else kv)else kvs++[(k,v)]
theorem j2b{p:κ×V}{r:List (κ×V)}{k:κ}(e:p.1=k):valV (p::r) k=some p.2:=by simp[valV,y14,e]
theorem j2c{p:κ×V}{r:List (κ×V)}{k:κ}(e:¬ p.1=k):valV (p::r) k=valV r k:=by simp[valV,y14,e]
theorem j55(k:κ):∀kvs:List (κ×V),(kvs.any λkv=>decide (kv.1=k))=(valV kvs k).isSome
 |[]=>rfl
 |p::r=>by
  rw[y3u];by_cases e:p.1=k
  ·simp only[j2b e,decide_eq_true e,ycu,Option.isSome_some]
  ·rw[j2c e,decide_eq_false e,yck];exact j55 k r
theorem j2u(kvs:List (κ×V))(k:κ)(v:V):(putK kvs k v).length<=kvs.length+1:=by
 unfold putK;split
 ·rw[y3];omega
 ·rw[xa,yl,vm];omega
theorem RelO.isSome_eq{o:Option V}{u:Option Value}(r:RelO o u):o.isSome=u.isSome:=by
 cases o with
 |none=>cases u with
  |none=>rfl
  |some _=>exact(show False from r).elim
 |some _=>cases u with
  |none=>exact(show False from r).elim
  |some _=>rfl
theorem RelO.getD{o:Option V}{u:Option Value}{d:V}{d':Value}(r:RelO o u)(rd:RelV d d'):RelV (o.getD d) (u.getD d'):=by
 cases o with
 |none=>cases u with
  |none=>exact rd
  |some _=>exact(show False from r).elim
 |some _=>cases u with
  |none=>exact(show False from r).elim
  |some _=>exact r
theorem KV.val{kvs:List (κ×V)}{vs:List (κ×Value)}(r:KV kvs vs)(k:κ):RelO (valV kvs k) (valueAt vs k):=by
 unfold KV at r
 induction r with
 |nil=>exact y0z
 | @cons p q ps qs h t ih=>
  obtain⟨h1,h2⟩:=h;by_cases e:p.1=k
  ·have e':q.1=k:=h1.symm.trans e;have b:valueAt (q::qs) k=some q.2:=by simp[valueAt,y14,e']
   rw[j2b e,b];exact h2
  ·have e':¬ q.1=k:=λz=>e (h1.trans z);have b:valueAt (q::qs) k=valueAt qs k:=by simp[valueAt,y14,e']
   rw[j2c e,b];exact ih
theorem KV.any{kvs:List (κ×V)}{vs:List (κ×Value)}(r:KV kvs vs)(k:κ):(kvs.any λkv=>decide (kv.1=k))=vs.any λkv=>decide (kv.1=k):=by
 unfold KV at r
 induction r with
 |nil=>rfl
 |cons h t ih=>rw[y3u,y3u,ih,h.1]
theorem KV.repl{kvs:List (κ×V)}{vs:List (κ×Value)}(r:KV kvs vs)(k:κ){y:V}{u:Value}(ry:RelV y u):
  KV (kvs.map λkv=>if kv.1=k then(kv.1,y)else kv) (vs.map λkv=>if kv.1=k then(kv.1,u)else kv):=by
 unfold KV at r ⊢
 induction r with
 |nil=>exact .nil
 | @cons p q ps qs h t ih=>
  rw[xm,xm];refine .cons ?_ ih;obtain⟨h1,h2⟩:=h;by_cases e:p.1=k
  ·rw[if_pos e,if_pos (h1.symm.trans e)];exact⟨h1,ry⟩
  ·rw[if_neg e,if_neg (λz=>e (h1.trans z))];exact⟨h1,h2⟩
theorem KV.put{kvs:List (κ×V)}{vs:List (κ×Value)}(r:KV kvs vs)(k:κ){u:Value}(ry:RelV y u):KV (putK kvs k y) (stored vs k u):=by
 unfold putK stored;rw[r.any k];by_cases e:(vs.any λkv=>decide (kv.1=k))=true
 ·rw[if_pos e,if_pos e];exact r.repl k ry
 ·rw[if_neg e,if_neg e];exact ydh r ⟨rfl,ry⟩
theorem KV.keys{kvs:List (κ×V)}{vs:List (κ×Value)}(r:KV kvs vs):kvs.map (·.1)=vs.map (·.1):=by
 unfold KV at r
 induction r with
 |nil=>rfl
 |cons h t ih=>rw[xm,xm,ih,h.1]
theorem KV.length{kvs:List (κ×V)}{vs:List (κ×Value)}(r:KV kvs vs):kvs.length=vs.length:=y40 r
end
theorem jju{P:yy}{w:World}{k:Key}{u:Value}(r:RelV (kV k) u):(j0h P w).is k u=true:=by
 cases k with
 |inl i=>obtain⟨t,e⟩:=(show ∃t,u=y2b i t from r);subst e;exact j1y P w i t
 |inr x=>obtain⟨t,e⟩:=(show ∃t,u=y9m x t from r);subst e;exact j1z P w x t
theorem j56{P:yy}{w:World}:∀{ks:List Key}{us:List Value},Vals (ks.map kV) us->ItemsAre (j0h P w) ks us
 |[],_,r=>by rw[y3l]at r;cases r;exact .nil
 |k::ks,_,r=>by
  rw[xm]at r;cases r with
  |cons h t=>exact .cons (jju h) (j56 t)
abbrev KT(H:Hp):List (List Key×V)->List (List Key×Addr×Value)->Prop:=Paired λp q=>p.1=q.1/\H q.2.1=some (.tup (p.1.map kV))/\RelV p.2 q.2.2
theorem KT.val{H:Hp}{kvs:List (List Key×V)}{xs:List (List Key×Addr×Value)}(r:KT H kvs xs)(k:List Key):RelO (valV kvs k) ((atKey xs k).map (·.2)):=by
 induction r with
 |nil=>exact y0z
 | @cons p q ps qs h t ih=>
  obtain⟨h1,_,h2⟩:=h;by_cases e:p.1=k
  ·have e':q.1=k:=h1.symm.trans e;have b:atKey (q::qs) k=some q.2:=by simp[atKey,y14,e']
   rw[j2b e,b];exact h2
  ·have e':¬ q.1=k:=λz=>e (h1.trans z);have b:atKey (q::qs) k=atKey qs k:=by simp[atKey,y14,e']
   rw[j2c e,b];exact ih
theorem KT.repl{H:Hp}{kvs:List (List Key×V)}{xs:List (List Key×Addr×Value)}(r:KT H kvs xs)(k:List Key){y:V}{u:Value}(ry:RelV y u):
  KT H (kvs.map λkv=>if kv.1=k then(kv.1,y)else kv) (xs.map (putAt k u)):=by
 induction r with
 |nil=>exact .nil
 | @cons p q ps qs h t ih=>
  rw[xm,xm];refine .cons ?_ ih;obtain⟨h1,h2,h3⟩:=h;unfold putAt;by_cases e:p.1=k
  ·rw[if_pos e,if_pos (h1.symm.trans e)];exact⟨h1,h2,ry⟩
  ·rw[if_neg e,if_neg (λz=>e (h1.trans z))];exact⟨h1,h2,h3⟩
variable{H:Hp}{kvs:List (List Key×V)}
theorem KT.put{xs:List (List Key×Addr×Value)}(r:KT H kvs xs)(k:List Key){b:Addr}{u:Value}(hb:H b=some (.tup (k.map kV)))(ry:RelV y u):
  KT H (putK kvs k y) (storedH xs k b u):=by
 have e:(kvs.any λkv=>decide (kv.1=k))=(atKey xs k).isSome:=by
  rw[j55,(r.val k).isSome_eq,ya1]
 unfold putK storedH;rw[e];by_cases q:(atKey xs k).isSome=true
 ·rw[if_pos q,if_pos q];exact r.repl k ry
 ·rw[if_neg q,if_neg q];exact ydh r ⟨rfl,hb,ry⟩
theorem KT.keeps{H':Hp}{xs:List (List Key×Addr×Value)}(r:KT H kvs xs)(ht:∀b ys,H b=some (.tup ys)->H' b=some (.tup ys)):KT H' kvs xs:=
 Paired.mapP r λ_ _ z=>⟨z.1,ht _ _ z.2.1,z.2.2⟩
section
variable{P:yy}{w:World}{H:Hp}{h:Heap}{a:Addr}
theorem rd_of{u:HO}(ok:HOk P w H h)(e:Rd H a u):ObjOk P w H h a u:=e.ok ok
theorem jhg{kvs:List (Key×V)}(ok:HOk P w H h)(e:Rd H a (.dK kvs)):kvs.length<=sizeLine/\(a==sysModules)=false/\∃vs,KV kvs vs/\h.DictOf (j0h P w) a vs:=
 show ObjOk P w H h a (.dK kvs)from rd_of ok e
theorem dk_of{kvs:List (Key×V)}(ok:HOk P w H h)(e:H a=some (.dK kvs)):kvs.length<=sizeLine/\(a==sysModules)=false/\∃vs,KV kvs vs/\h.DictOf (j0h P w) a vs:=jhg ok (.inl e)
theorem ja6{ks:List Key}(ok:HOk P w H h)(e:H a=some (.tup (ks.map kV))):(tupleKind (j0h P w)).is h ks a:=by
 obtain⟨_,its,r,⟨o,h1,h2,n,h3⟩,_⟩:=(show ObjOk P w H h a (.tup (ks.map kV))from ok a _ e)
 exact⟨o,its.toArray,n,h1,h2,h3,by simpa using j56 r⟩
theorem jjo{kvs:List (List Key×V)}(ok:HOk P w H h)(e:Rd H a (.dT kvs)):kvs.length<=sizeLine/\(a==sysModules)=false/\
  ∃xs,KT H kvs xs/\h.DictOfH (tupleKind (j0h P w)) a xs:=by
 obtain⟨z,y,xs,r,o,es,ep,h1,h2,h3,h4,h5⟩:=(show ObjOk P w H h a (.dT kvs)from rd_of ok e)
 refine⟨z,y,xs,r,o,es,ep,h1,h2,h3,h4,λx hx=>?_,h5⟩;have all:∀{l:List (List Key×V)}{m:List (List Key×Addr×Value)},KT H l m->∀x∈m,(tupleKind (j0h P w)).is h x.1 x.2.1:=by
  intro l m q
  induction q with
  |nil=>intro x hx;exact nomatch hx
  | @cons p q ps qs hq t ih=>
   intro x hx;rcases xf.mp hx with e|hx
   ·subst e;exact ja6 ok (by rw[<- hq.1];exact hq.2.1)
   ·exact ih x hx
 exact all r x hx
theorem joh(ok:HOk P w H h)(e:H a=some (.dT kvs)):kvs.length<=sizeLine/\(a==sysModules)=false/\
  ∃xs,KT H kvs xs/\h.DictOfH (tupleKind (j0h P w)) a xs:=jjo ok (.inl e)
end
def DGet(H:Hp)(a:Addr)(y:V)(r:Option V):Prop:=
 (∃kvs k,Rd H a (.dK kvs)/\y=kV k/\r=valV kvs k)\/∃kvs k b,Rd H a (.dT kvs)/\y=.ref b/\H b=some (.tup (k.map kV))/\r=valV kvs k
def DPut(H:Hp)(a:Addr)(y v:V)(H':Hp):Prop:=
 (∃kvs k,H a=some (.dK kvs)/\y=kV k/\kvs.length<sizeLine/\H'=upd H a (.dK (putK kvs k v)))\/
 ∃kvs k b,H a=some (.dT kvs)/\y=.ref b/\H b=some (.tup (k.map kV))/\kvs.length<sizeLine/\H'=upd H a (.dT (putK kvs k v))
theorem DPut.k{H:Hp}{a:Addr}{kvs:List (Key×V)}{k:Key}{v:V}(e:H a=some (.dK kvs))(hl:kvs.length<sizeLine):DPut H a (kV k) v (upd H a (.dK (putK kvs k v))):=.inl ⟨kvs,k,e,rfl,hl,rfl⟩
variable{a:Addr}
theorem DPut.t{b:Addr}{k:List Key}{v:V}(e:H a=some (.dT kvs))(eb:H b=some (.tup (k.map kV)))(hl:kvs.length<sizeLine):
  DPut H a (.ref b) v (upd H a (.dT (putK kvs k v))):=.inr ⟨kvs,k,b,e,rfl,eb,hl,rfl⟩
variable{Q:Value->ye->Prop}{P:yy}{w:World}
section
variable{X:Cx}{pins:List (Addr×Obj)}{σ:St}{H:Hp}{s:ye}{a:Addr}{y v:V}{u r:Value}{o:Option V}{A:gw}{E:Value->ye->Prop}
theorem Inv.big(I:Inv X pins σ H s):sysModules<s.heap.objs.size:=by
 have h:mainGlobals<s.heap.objs.size:=(I.mod.glob.keeps I.bk).lt;exact Nat.lt_trans (by decide) h
theorem je6(hu:A.units+1<cLine)(I:Inv X pins σ H s)(g:DGet H a y (some v))(ry:RelV y u)(h:∀w' s',Inv X pins σ H s'->RelV v w'->Q w' s'):
  wpAny (model X.prog X.w) A (getItem (.ref a) u) Q E s:=by
 rcases g with⟨kvs,k,e,ey,l⟩|⟨kvs,k,b,e,ey,eb,l⟩
 ·subst ey;obtain⟨z,hd,vs,rel,dd⟩:=jhg I.hok e;obtain⟨w',hw,rw'⟩:=RelO.some_of (v:=v) (o:=valueAt vs k) (by rw[l];exact rel.val k);exact wpAny_getItem_of (jju ry) dd.mapOf hw (h w' _ (I.tok _) rw')
 ·subst ey;cases(show u=xy b from ry);obtain⟨z,hd,xs,rel,dd⟩:=jjo I.hok e;obtain⟨w',hw,rw'⟩:=RelO.some_of (v:=v) (o:=(atKey xs k).map (·.2)) (by rw[l];exact rel.val k);obtain⟨p,hp,hp2⟩:=y1e.mp hw;refine wpAny_getItem_heap (y48 hu) (ja6 I.hok eb) dd hp ?_;rw[hp2];exact h w' _ (I.tok _) rw'
theorem jkf(hu:A.units+1<cLine)(I:Inv X pins σ H s)(g:DGet H a y o)(ry:RelV y u)(h:∀s',Inv X pins σ H s'->Q (.bool (!o.isSome)) s'):
  wpAny (model X.prog X.w) A (compareOp .NotIn u (.ref a)) Q E s:=by
 rcases g with⟨kvs,k,e,ey,l⟩|⟨kvs,k,b,e,ey,eb,l⟩
 ·subst ey;obtain⟨z,hd,vs,rel,dd⟩:=jhg I.hok e;refine wpAny_notIn_of (jju ry) hd dd.mapOf ?_;rw[<- (rel.val k).isSome_eq,<- l];exact h _ (I.tok _)
 ·subst ey;cases(show u=xy b from ry);obtain⟨z,hd,xs,rel,dd⟩:=jjo I.hok e;refine wpAny_notIn_heap (y48 hu) (ja6 I.hok eb) hd dd ?_;have q:=(rel.val k).isSome_eq;rw[ya1]at q;rw[<- q,<- l];exact h _ (I.tok _)
theorem j8t{h':Heap}{t':Nat}{ob:HO}(I:Inv X pins σ H s)(mu:Mut (H a))(hs:uv a s.heap h')(he:∃q,h'.get? a=some q)(new:ObjOk X.prog X.w (upd H a ob) h' a ob):
  Inv X pins σ (upd H a ob) {s with heap:=h',toks:=t'}:=
 I.write (x:=a) (e:=a) mu (.inl rfl) (λb q hb z=>(hs.2 b hb).trans z) he new
theorem jkg{H':Hp}{h':Heap}{kvs:List (Key×V)}{vs:List (Key×Value)}(z:kvs.length<=sizeLine)(hd:(a==sysModules)=false)(rel:KV kvs vs)(dd:h'.DictOf (j0h P w) a vs):
  ObjOk P w H' h' a (.dK kvs):=⟨z,hd,vs,rel,dd⟩
theorem je7{H':Hp}{Q:Unit->ye->Prop}(hu:A.units+1<cLine)(I:Inv X pins σ H s)(g:DPut H a y v H')(ry:RelV y u)(rv:RelV v r)(h:∀s',Inv X pins σ H' s'->Q () s'):
  wpAny (model X.prog X.w) A (setItem (.ref a) u r) Q E s:=by
 rcases g with⟨kvs,k,e,ey,l,eH⟩|⟨kvs,k,b,e,ey,eb,l,eH⟩
 ·subst ey eH;obtain⟨z,hd,vs,rel,dd⟩:=dk_of I.hok e;have hz:vs.length<=sizeLine:=by rw[<- rel.length];exact z
  have hl:(putK kvs k v).length<=sizeLine:=by have:=j2u kvs k v;omega
  refine wpAny_setItem_pairs (hsz:=hz) (jju ry) dd λh' dd' hs=>h _ ?_;have he:∃q,h'.get? a=some q:=let ⟨q,_,_,hq,_⟩:=dd';⟨q,hq⟩;exact j8t I (by rw[e];exact y0z) hs he (jkg hl hd (rel.put k rv) dd')
 ·subst ey eH;cases(show u=xy b from ry);obtain⟨z,hd,xs,rel,dd⟩:=joh I.hok e;have hz:xs.length<=sizeLine:=by rw[<- y40 rel];exact z
  have hl:(putK kvs k v).length<=sizeLine:=by have:=j2u kvs k v;omega
  refine wpAny_setItem_heap (hsz:=hz) (y48 hu) (ja6 I.hok eb) dd λh' dd' hs=>h _ ?_;obtain⟨q,es,ep,hq,h2,h3,h4,_,h5⟩:=dd';refine j8t I (by rw[e];exact y0z) hs ⟨q,hq⟩ ⟨hl,hd,_,(rel.put k eb rv).keeps λc ys ec=>?_,q,es,ep,hq,h2,h3,h4,h5⟩;rw[j0i (jjv ec e (λz=>nomatch z))];exact ec
end
section
variable{X:Cx}{pins:List (Addr×Obj)}{σ:St}{H:Hp}{s:ye}{a:Addr}{kvs:List (Key×V)}{k:Key}{u:Value}{A:gw}{E:Value->ye->Prop}
theorem d_len(I:Inv X pins σ H s)(e:Rd H a (.dK kvs))(h:∀t s',Inv X pins σ H s'->Q (.int kvs.length t) s'):wpAny (model X.prog X.w) A (call (.builtin "len") [.ref a]) Q E s:=by
 obtain⟨z,hd,vs,rel,dd⟩:=jhg I.hok e;refine call_len_dict hd dd (by rw[<- rel.length];rw[xo]at z;omega) ?_;rw[<- rel.length];exact h _ _ (I.tok _)
end
def NoSl(i:Expr):Prop:=∀ov iv,subscripted i false ov iv=operate [ov,iv] (getItem ov iv)
theorem jkh{prog:yy}{w:World}{A:gw}{E:Value->ye->Prop}{s:ye}{env:Env}{value slice:Expr}{pos:Pos}{T id:String}{Q:Value->ye->Prop}
  (hl:typeLookup (.type T) "__getitem__"=pure (some (.builtin id))) (hs:NoSl slice)
  (h:wpAny (model prog w) A (eval value env) (λo s₁=>wpAny (model prog w) A (eval slice env) (λi s₂=>s₂.TypeIs o T/\wpAny (model prog w) A (getItem o i) Q E s₂) E s₁) E s):
  wpAny (model prog w) A (eval (.Subscript value slice pos) env) Q E s:=by
 refine ycc (y10 h (λo s₁ h₁=>y10 h₁ (λi s₂ h₂=>?_) λ_ _ x=>x) λ_ _ x=>x);obtain⟨hT,h₂⟩:=h₂;unfold subscriptTail;refine y0 ?_;rw[getitemInPython_of_ne hT.not_modules];refine y0 (y5s hT hl ?_);have fin:wpAny (model prog w) A (subscripted slice false o i) (λr s₃=>wpAny (model prog w) A (letTemporaryGo value o r >>= λ_=>pure r) Q E s₃) E s₂:=by
  rw[hs o i];exact wpAny_operating (y10 h₂ (λr s₃ h₃=>y0 (wpAny_letTemporaryGo (y8 h₃))) λ_ _ x=>x)
 first
  |exact y8 (y0 fin)
  |exact y0 (y8 (y0 fin))
  |exact y0 fin
variable{X:Cx}
theorem ja7{pins:List (Addr×Obj)}{σ:St}{s:ye}{o:Option V}(I:Inv X pins σ H s)(g:DGet H a y o):s.TypeIs (.ref a) "dict":=by
 rcases g with⟨kvs,k,e,_,_⟩|⟨kvs,k,b,e,_,_,_⟩
 ·obtain⟨_,_,vs,_,dd⟩:=jhg I.hok e;exact dd.typeIs
 ·obtain⟨_,_,xs,_,dd⟩:=jjo I.hok e;exact dd.typeIs
def joi(td ty:TE):TE:=λσ H Q=>td σ H λx H1=>ty σ H1 λy H2=>∃a v,x=.ref a/\DGet H2 a y (some v)/\Q v H2
def joj(td ty tv:TE):TS:=λD σ H=>tv σ H λv H1=>td σ H1 λx H2=>ty σ H2 λy H3=>∃a H4,x=.ref a/\DPut H3 a y v H4/\D.nx σ H4
section
variable{X:Cx}{o i e value:Expr}{pos pos' tpos:Pos}{td ty tv:TE}
theorem jki(hu:X.A.units+1<cLine)(ho:PE X o td)(hi:PE X i ty)(hs:NoSl i):PE X (.Subscript o i pos) (joi td ty):=by
 intro pins s σ H Q I h;refine jkh PySem.F.slot_dict_getitem.lookup hs (thn (ho pins s σ H _ I h) λu s1 ⟨x,H1,I1,rx,q1⟩=>thn (hi pins s1 σ H1 _ I1 q1) λiv s2 ⟨y,H2,I2,ry,a,v,ex,g,q2⟩=>?_);subst ex;obtain rfl:u=xy a:=rx;exact⟨ja7 I2 g,je6 hu I2 g ry λw' s3 I3 rw'=>⟨v,H2,I3,rw',q2⟩⟩
theorem jkj(hu:X.A.units+1<cLine)(ho:PE X o td)(hi:PE X i ty)(hv:PE X value tv)(hs:swapsWith value (some (.Subscript o i pos')) pos.line X.env=pure false):
  PS X (.Assign [.Subscript o i pos'] value pos) (joj td ty tv):=by
 intro pins s σ H D I h;refine wpAny_Assign_Subscript (thn (hv pins s σ H _ I h) λr s1 ⟨v,H1,I1,rv,q1⟩=>thn (ho pins s1 σ H1 _ I1 q1) λu s2 ⟨x,H2,I2,rx,q2⟩=>thn (hi pins s2 σ H2 _ I2 q2) λiv s3 ⟨y,H3,I3,ry,a,H4,ex,g,q3⟩=>?_) hs;subst ex;obtain rfl:u=xy a:=rx;exact je7 hu I3 g ry rv λs4 I4=>⟨σ,H4,I4,q3⟩
end
theorem jbc(h:Heap)(hb:sysModules<h.objs.size):ObjOk P w H (h.push {cls:=.type "dict",data:=.dict #[]}) h.objs.size (.dK []):=
 ⟨gm _,beq_eq_false_iff_ne.mpr (y57 (xt hb)),[],.nil,yeb h⟩
theorem jbd(h:Heap)(hb:sysModules<h.objs.size):ObjOk P w H (h.push {cls:=.type "dict",data:=.dict #[]}) h.objs.size (.dT []):=
 ⟨gm _,beq_eq_false_iff_ne.mpr (y57 (xt hb)),[],.nil,_,#[],0,yi _ rfl,⟨rfl,rfl,rfl⟩,rfl,rfl,y33⟩
def jhh:TE:=λ_ H Q=>∀p,H p=none->Q (.ref p) (upd H p (.dK []))
def jhi:TE:=λ_ H Q=>∀p,H p=none->Q (.ref p) (upd H p (.dT []))
section
variable{X:Cx}{pos:Pos}
theorem jbe:PE X (.Dict [] [] pos) jhh:=λpins s σ H Q I h=>
 yau ⟨.ref s.heap.objs.size,_,I.laid (a:=s.heap.objs.size) (o:=.dK []) (t':=s.toks) (λ_ _ q=>yc _ q) (yg _) (jbc s.heap I.big),rfl,h _ (I.hok.fresh (yg _))⟩
theorem jbf:PE X (.Dict [] [] pos) jhi:=λpins s σ H Q I h=>
 yau ⟨.ref s.heap.objs.size,_,I.laid (a:=s.heap.objs.size) (o:=.dT []) (t':=s.toks) (λ_ _ q=>yc _ q) (yg _) (jbd s.heap I.big),rfl,h _ (I.hok.fresh (yg _))⟩
end
def je8:List (TE×TE)->St->Hp->(List (V×V)->Hp->Prop)->Prop
 |[],_,H,Q=>Q [] H
 |(tk,tv)::r,σ,H,Q=>tk σ H λx H1=>tv σ H1 λy H2=>je8 r σ H2 λps H3=>Q ((x,y)::ps) H3
abbrev VV:List (V×V)->List (Value×Value)->Prop:=Paired λp q=>RelV p.1 q.1/\RelV p.2 q.2
def PPs(X:Cx)(pos:Pos)(keys:List (Option Expr))(values:List Expr)(trs:List (TE×TE)):Prop:=
 ∀(pins:List (Addr×Obj)) (s:ye) (σ:St) (H:Hp) (Q:List (V×V)->Hp->Prop),Inv X pins σ H s->je8 trs σ H Q->
  wpAny (model X.prog X.w) X.A (evalPairs (pairTrees keys values X.env pos)) (λvs s'=>∃ps H',Inv X pins σ H' s'/\VV ps vs/\Q ps H') X.xe s
variable{pos:Pos}
theorem jg3:PPs X pos [] [] []:=λpins s σ H Q I h=>pairTrees_nil_walk ⟨[],H,I,.nil,h⟩
theorem jbg{k v:Expr}{ks:List (Option Expr)}{vs:List Expr}{tk tv:TE}{trs:List (TE×TE)}(hk:PE X k tk)(hv:PE X v tv)(hr:PPs X pos ks vs trs):
  PPs X pos (some k::ks) (v::vs) ((tk,tv)::trs):=λpins s σ H Q I h=>
 pairTrees_cons_walk (thn (hk pins s σ H _ I h) λu s1 ⟨x,H1,I1,rx,q1⟩=>thn (hv pins s1 σ H1 _ I1 q1) λw2 s2 ⟨y,H2,I2,ry,q2⟩=>
  thn (hr pins s2 σ H2 _ I2 q2) λws s3 ⟨ps,H3,I3,rel,q3⟩=>⟨(x,y)::ps,H3,I3,.cons ⟨rx,ry⟩ rel,q3⟩)
def ja8(kvs more:List (Key×V)):List (Key×V):=more.foldl (λacc kv=>putK acc kv.1 kv.2) kvs
theorem KV.merge:∀{more:List (Key×V)}{rs:List (Key×Value)}{kvs:List (Key×V)}{vs:List (Key×Value)},KV more rs->KV kvs vs->KV (ja8 kvs more) (merged vs rs):=by
 intro more rs kvs vs r;unfold KV at r
 induction r generalizing kvs vs with
 |nil=>intro q;exact q
 | @cons p q ps qs h t ih=>
  intro r0;have e:KV (putK kvs p.1 p.2) (stored vs q.1 q.2):=by
   have:=r0.put p.1 h.2;rw[<- h.1];exact this
  exact ih e
theorem j34:∀(more kvs:List (Key×V)),(ja8 kvs more).length<=kvs.length+more.length
 |[],kvs=>by show kvs.length<=kvs.length+0;omega
 |p::r,kvs=>by
  have h1:=j34 r (putK kvs p.1 p.2);have h2:=j2u kvs p.1 p.2;show(ja8 (putK kvs p.1 p.2) r).length<=_;rw[yl];omega
theorem j6a{P:yy}{w:World}:∀{kvs:List (Key×V)}{ws:List (Value×Value)},VV (kvs.map λkv=>(kV kv.1,kv.2)) ws->∃rs,Carries (j0h P w) ws rs/\KV kvs rs
 |[],_,r=>by rw[y3l]at r;cases r;exact⟨[],y0z,.nil⟩
 |p::kvs,_,r=>by
  rw[xm]at r;cases r with
  | @cons a b as bs h t=>
   obtain⟨rs,c,q⟩:=j6a (P:=P) (w:=w) t;obtain⟨b1,b2⟩:=b;exact⟨(p.1,b2)::rs,⟨jju h.1,rfl,c⟩,.cons ⟨rfl,h.2⟩ q⟩
def jok(trs:List (TE×TE)):TE:=λσ H Q=>∀p,H p=none->je8 trs σ (upd H p (.dK [])) λps H2=>H2 p=some (.dK [])/\∃kvs:List (Key×V),ps=kvs.map (λkv=>(kV kv.1,kv.2))/\kvs.length<=15/\Q (.ref p) (upd H2 p (.dK (ja8 [] kvs)))
theorem jkk{keys:List (Option Expr)}{values:List Expr}{trs:List (TE×TE)}(h:PPs X pos keys values trs)(hall:keys.all (·.isSome)=true)(hl:keys.length=values.length)(h0:keys≠[])
  (h15:keys.length<=15):PE X (.Dict keys values pos) (jok trs):=by
 intro pins s σ H Q I q;have hn:=I.hok.fresh (yg s.heap.objs.size);have I1:=I.laid (a:=s.heap.objs.size) (o:=.dK []) (h':=s.heap.push {cls:=.type "dict",data:=.dict #[]}) (t':=s.toks) (λ_ _ q=>yc _ q) (yg _) (jbc s.heap I.big);refine wpAny_Dict_walk (knd:=j0h X.prog X.w) hall hl h0 h15 (thn (h pins _ σ _ _ I1 (q _ hn)) λws s2 ⟨ps,H2,I2,rel,e,kvs,ep,lk,q2⟩=>?_);subst ep;obtain⟨rs,c,rk⟩:=j6a (P:=X.prog) (w:=X.w) rel;obtain⟨z,hd,vs0,r0,dd⟩:=dk_of I2.hok e;cases r0;refine⟨rs,c,dd,λh' dd' hs=>⟨.ref s.heap.objs.size,_,?_,rfl,q2⟩⟩;have hz:(ja8 [] kvs).length<=sizeLine:=by
  have h1:=j34 kvs [];rw[vm]at h1;rw[xo];omega
 have he:∃q,h'.get? s.heap.objs.size=some q:=let ⟨q,_,_,hq,_⟩:=dd';⟨q,hq⟩;exact j8t I2 (by rw[e];exact y0z) hs he (jkg hz hd (rk.merge .nil) dd')
structure M1(X:Cx)(o:Expr)(m:Str)(apos:Pos)(e:Expr)(cpos:Pos):Prop where
 base:attributeBase o m X.env (eval o X.env)=eval o X.env
 few:((backTo cpos (starEach [e] X.env)).all (λx=>!x.1)&&(backToKw cpos (keywordEach [] X.env)).all (λx=>x.1.isSome)
  && decide (([e]:List Expr).length+([]:List y7t).length+(if ([]:List y7t).isEmpty then 0 else 1)<30))=true
 line:(apos.endLine==cpos.line)=true
 trees:backTo cpos (starEach [e] X.env)=[(false,eval e X.env)]
structure M2(X:Cx)(o:Expr)(m:Str)(apos:Pos)(e f:Expr)(cpos:Pos):Prop where
 base:attributeBase o m X.env (eval o X.env)=eval o X.env
 few:((backTo cpos (starEach [e,f] X.env)).all (λx=>!x.1)&&(backToKw cpos (keywordEach [] X.env)).all (λx=>x.1.isSome)
  && decide (([e,f]:List Expr).length+([]:List y7t).length+(if ([]:List y7t).isEmpty then 0 else 1)<30))=true
 line:(apos.endLine==cpos.line)=true
 trees:backTo cpos (starEach [e,f] X.env)=[(false,eval e X.env),(false,eval f X.env)]
def IsD(H:Hp)(a:Addr):Prop:=(∃kvs,Rd H a (.dK kvs))\/∃kvs,Rd H a (.dT kvs)
theorem isD_at{pins:List (Addr×Obj)}{σ:St}{s:ye}(I:Inv X pins σ H s)(d:IsD H a):
  s.TypeIs (.ref a) "dict"/\(∀b,xy a=.ref b->∃ob,s.heap.get? b=some ob/\ob.dict=none)/\(a==sysModules)=false:=by
 rcases d with⟨kvs,e⟩|⟨kvs,e⟩
 ·obtain⟨_,hd,vs,_,dd⟩:=jhg I.hok e;refine⟨dd.typeIs,λb q=>?_,hd⟩;cases q;obtain⟨ob,_,_,h1,h2,_⟩:=dd;exact⟨ob,h1,h2.2.1⟩
 ·obtain⟨_,hd,xs,_,dd⟩:=jjo I.hok e;refine⟨dd.typeIs,λb q=>?_,hd⟩;cases q;obtain⟨ob,_,_,h1,h2,_⟩:=dd;exact⟨ob,h1,h2.2.1⟩
section
variable{X:Cx}{pins:List (Addr×Obj)}{σ:St}{H:Hp}{s:ye}{a:Addr}{y d:V}{u r:Value}{o:Option V}{A:gw}{E:Value->ye->Prop}
theorem d_get2(hu:A.units+1<cLine)(I:Inv X pins σ H s)(g:DGet H a y o)(ry:RelV y u)(rd:RelV d r)(h:∀w' s',Inv X pins σ H s'->RelV (o.getD d) w'->Q w' s'):
  wpAny (model X.prog X.w) A (call (.builtin "dict.get") [.ref a,u,r]) Q E s:=by
 rcases g with⟨kvs,k,e,ey,l⟩|⟨kvs,k,b,e,ey,eb,l⟩
 ·subst ey;obtain⟨z,hd,vs,rel,dd⟩:=jhg I.hok e;refine yaj y4v dd.typeIs y7k (y72 _ _ _) (meets_dict_get_default (j0h X.prog X.w) a (jju ry) hd r) ⟨_,dd.mapOf,h _ _ (I.tok _) ?_⟩;rw[l];exact(rel.val k).getD rd
 ·subst ey;cases(show u=xy b from ry);obtain⟨z,hd,xs,rel,dd⟩:=jjo I.hok e;refine yaj y4v dd.typeIs y7k (y72 _ _ _) (meetsH_dict_get_default (tupleKind (j0h X.prog X.w)) a b hd r) ⟨y48 hu,k,xs,ja6 I.hok eb,dd,h _ _ (I.tok _) ?_⟩;rw[l];exact(rel.val k).getD rd
end
def jhj(td ty tx:TE):TE:=λσ H Q=>td σ H λx H1=>∃a,x=.ref a/\IsD H1 a/\ty σ H1 λy H2=>tx σ H2 λz H3=>∃o,DGet H3 a y o/\Q (o.getD z) H3
section
variable{X:Cx}{o e f:Expr}{apos cpos:Pos}{td ty tx:TE}
theorem jhk(hu:X.A.units+1<cLine)(ho:PE X o td)(he:PE X e ty)(hf:PE X f tx)(m:M2 X o "get" apos e f cpos):PE X (.Call (.Attribute o "get" apos) [e,f] [] cpos) (jhj td ty tx):=by
 intro pins s σ H Q I h;refine wpAny_Call_method m.base m.few m.line PySem.F.plainAttrs_dict y4v PySem.F.type_dict_get (thn (ho pins s σ H _ I h) λu s1 ⟨x,H1,I1,rx,a,ex,d,q1⟩=>?_);subst ex;obtain rfl:u=xy a:=rx;obtain⟨t1,t2,_⟩:=isD_at I1 d;refine⟨t1,t2,?_⟩;rw[m.trees];refine y2e rfl (y5a (y2g (thn (he pins s1 σ H1 _ I1 q1) λiv s2 ⟨y,H2,I2,ry,q2⟩=>
  y2g (thn (hf pins s2 σ H2 _ I2 q2) λfv s3 ⟨z,H3,I3,rz,ov,g,q3⟩=>y2o ?_))))
 exact d_get2 hu I3 g ry rz λw' s4 I4 rw'=>⟨_,H3,I4,rw',q3⟩
end
end L2
namespace Att
open PySem PySem.W PySem.Calls PyProof.Rows
theorem j4h{P:ye0}{h:Heap}:∀(ns:List Int) (vs:List Value),WellAll P h vs (ns.map WData.int)->y2f vs ns:=by
 intro ns
 induction ns with
 |nil=>
  intro vs w;rw[y3l]at w;cases w;exact .nil
 |cons n ns ih=>
  intro vs w;rw[xm]at w;cases w with
  |cons a b=>
   cases a;exact .cons _ _ (ih _ b)
theorem script_of{l:OpenLaw}{n:Nat}(hn:l.most=some n){P:ye0}{h:Heap}{args:List WData}{vals:List Value}
  (hpre:l.row.toRowW.claim.pre args=true) (hwl:WellAll P h vals args):
  ∃a vs ns,vals=[xy a]/\args=[WData.list (ns.map WData.int)]/\h.get? a=some {cls:=.type "list",data:=.seq vs.toArray}/\y2f vs ns/\ns.length<=n:=by
 have hsh:WShape.hasAll [] args [.list .int]=true:=(pre_splitW hpre).1;have hc:l.pre.holds [] {args:=args}=true:=(pre_splitW hpre).2;obtain⟨d,r,rfl,h1,h2⟩:=hasAllW_cons hsh;obtain rfl:=hasAllW_nil h2;obtain⟨xs,rfl,h3⟩:=hasW_list h1;obtain⟨ns,rfl⟩:=items_int h3;have hlen:ns.length<=n:=by
  unfold OpenLaw.pre at hc;have h4:(WTm.not (.lt (.lit (.int (n:Int))) (.len (.arg 0)))).holds [] {args:=[.list (ns.map .int)]}=true:=by
   have h4:=(holds_andW hc).1;rw[hn]at h4;exact h4
  have h5:=condW_of h4 (w_not (w_lt w_lit (w_len_list (w_arg rfl))));rw[y3]at h5;refine yaq λq=>?_;have q':(n:Int)<((ns.length:Nat):Int):=by omega
  first
   |(rw[decide_eq_true q']at h5;exact absurd h5 (by decide))
   |(simp at h5;omega)
 cases hwl with
 |cons w1 w2=>
  cases w2;cases w1 with
  |list ho hall=>exact⟨_,_,ns,rfl,rfl,ho,j4h ns _ hall,hlen⟩
theorem post_true(l:OpenLaw)(args:List WData):l.row.toRowW.claim.post args (.bool true) args=true:=
 postW_of (r:=l.row.toRowW) (X:=(true==true))
  (show WShape.has [] (.bool true) .bool=true by first|rfl|decide|simp[WShape.has,WShape.arms,WShape.armsAll])
  (show(WTm.eq .res (.lit (.bool true))).value [] {args:=args,res:=some (.bool true),after:=args}=some (.bool (true==true))from w_eq_bool (w_res rfl) w_lit) rfl
theorem attach_call{l:OpenLaw}{n:Nat}{q:yy}{loose:List Str}{XP:(Str->Option Value)->Heap->Prop}{YP:World->Heap->Prop}{d:ydx}
  (hn:l.most=some n) (hdf:d.params.defaults=[])
  (call:∀(w:World) (s₀ s₁:ye) (mg mb:Str->Option Value) (fa:Addr) (o:Obj) (pm cd doc:Value) (a:Addr) (vs:List Value) (ns:List Int),
   Ground q loose [] XP w s₀ mg mb s₁.heap->YP w s₁.heap->
   s₁.heap.get? fa=some o->o.data=.func (docDef d.name d.params d.body d.scope pm cd doc)->s₁.heap.CodeRec cd d.name->mg d.name=some (.ref fa)->
   s₁.heap.get? a=some {cls:=.type "list",data:=.seq vs.toArray}->y2f vs ns->ns.length<=n->s₁.gens=#[]->
   codeAny (model l.prog w) callerA (.call (.ref fa) ⟨[.ref a],[]⟩) (λr s'=>r=.ok (.ret (.bool true))/\OldK s₁.heap s'.heap/\s'.os=s₁.os/\y68 s'.gens) s₁):
  WalkO q loose XP YP l.row.toRowW d [] (λf vs=>y8a f vs):=by
 intro w s₀ s₁ mg mb G Y fa o pm cd doc dV kV ho hd hcd hD hmg hg args vals as hpre hlay hrd hwl hlo;obtain rfl:dV=.none:=Dflts.none hD hdf;obtain rfl:kV=.none:=Dflts.noKw hD;obtain⟨a,vs,ns,rfl,rfl,hobj,hints,hlen⟩:=script_of hn hpre hwl;refine enter_call (y3p (call w s₀ s₁ mg mb fa o pm cd doc a vs ns G Y ho (fd_plain hd) hcd hmg hobj hints hlen hg) λr s' hq=>?_);obtain⟨rfl,h2,h3,h4⟩:=hq;exact⟨.inl ⟨.bool true,.bool true,[],rfl,λ_=>rfl,.bool true,post_true l _,λ_=>⟨y4f,λ_ hm=>(nomatch hm)⟩⟩,h2,h3,h4⟩
end Att
namespace L2
open PySem PySem.Spec PyProof.Rows
theorem j2j:∀{vs:List Value}{ns:List Int},y2f vs ns->Vals (ns.map V.int) vs
 |_,_,.nil=>.nil
 |_,_,.cons n t h=>.cons ⟨t,rfl⟩ (j2j h)
def Only(H:Hp):Prop:=∀b,H b=none\/∃o xs,H b=some (.frz o (.lst xs))
theorem jbh{P:yy}{w:World}{K:y9}{mg mb:Str->Option Value}{CX:CXT}{k:Nat}{fa a:Addr}{fd:xi}{x:Str}{sp:Sp}{s₁:ye}{vs:List Value}{ns:List Int}
  (KX:K.In s₁.heap) (hns:s₁.heap.Ns mainGlobals mg) (hb:s₁.heap.Ns builtinsNs mb) (hbb:∀x:Str,x≠"__name__"->mb x=bootBuiltins x) (hlim:s₁.heap.NoLimit) (hbm:∃bm ob,mg "__builtins__"=some (.ref bm)/\bm≠builtinsNs/\s₁.heap.get? bm=some ob/\ob.cls=.type "module"/\ob.dict=some builtinsNs/\ob.data=.plain) (hg:s₁.gens=#[])
  (ha:s₁.heap.get? a=some {cls:=.type "list",data:=.seq vs.toArray}) (hi:y2f vs ns) (hl:ns.length<=sizeLine) (hr:Room k callerA)
  (F:∀base:Heap,K.In base->base.Ns mainGlobals mg->FnOk P w K mg base CX k fa fd [x] sp) (hbind:∀(s:ye) (u:Value),y6r s fd ⟨[u],[]⟩ [(x,u)])
  (hsp:∀H:Hp,Only H->SqL K H a (ns.map V.int)->sp [.ref a] H (λv _=>v=.bl true) λ_ _ _=>False)
  (hCX:∀H e s',CX [] H s₁ (λ_ _ _=>False) e s'->False):
  codeAny (model P w) callerA (.call (.ref fa) ⟨[.ref a],[]⟩) (λr s'=>r=.ok (.ret (.bool true))/\OldK s₁.heap s'.heap/\s'.os=s₁.os/\y68 s'.gens) s₁:=by
 have rv:=j2j hi;have lenV:=hi.length;have core:∀H:Hp,Only H->SqL K H a (ns.map V.int)->HOk P w H s₁.heap->(∀b,H b≠none->b=a)->(H a≠none->K.lookup a=none)->
   codeAny (model P w) callerA (.call (.ref fa) ⟨[.ref a],[]⟩) (λr s'=>r=.ok (.ret (.bool true))/\OldK s₁.heap s'.heap/\s'.os=s₁.os/\y68 s'.gens) s₁:=by
  intro H hO hS hok hA hK;have base_of:∀{b:Addr}{o:Obj},s₁.heap.get? b=some o->H b=none->(hidT s₁.heap H).get? b=some o:=λe n=>jh4 e n;have noA:∀{b:Addr}{o:Obj}{es:Array y3s}{ep:Nat},s₁.heap.get? b=some o->o.data=.dict es ep->H b=none:=λ{b o es ep} e d=>by
   cases q:H b with
   |none=>rfl
   |some u=>
    have e':b=a:=hA b (by rw[q];simp);subst e';rw[ha]at e;cases e;have d':Data.seq vs.toArray _=Data.dict es ep:=d;cases d'
  have nsK:∀{b:Addr}{m:Str->Option Value},s₁.heap.Ns b m->(hidT s₁.heap H).Ns b m:=λ{b m} ⟨o,es,ep,e,d,r⟩=>⟨o,es,ep,base_of e (noA e d),d,r⟩
  have hKb:K.In (hidT s₁.heap H):=λb o e=>base_of (KX b o e) (by
   cases q:H b with
   |none=>rfl
   |some u=>
    have e':b=a:=hA b (by rw[q];simp);subst e';rw[hK (by rw[q];simp)]at e;cases e)
  have hM:Mod K mg (hidT s₁.heap H):=⟨hKb,nsK hns,⟨mb,nsK hb,hbb⟩,let ⟨mc,h1,h2⟩:=hlim;⟨mc,nsK h1,h2⟩,by
   obtain⟨bm,ob,b1,b2,b3,b4,b5⟩:=hbm;refine⟨bm,ob,b1,b2,base_of b3 ?_,b4,b5⟩;cases q:H bm with
   |none=>rfl
   |some u=>
    have e':bm=a:=hA bm (by rw[q];simp);subst e';rw[ha]at b3;cases b3;injection b4 with b4;exact absurd b4 (by decide)⟩
  have e0:Env0 P w K mg (hidT s₁.heap H) callerA [] s₁ H:=⟨rfl,hM,λb o e=>jjw e,ycz (jdt _ _),trivial,λb hb=>absurd (show b∈([]:List Addr)from hb) (by simp),hok,.of_eq hg⟩
  refine y3p ((F _ hKb (nsK hns)).run callerA [] s₁ H ⟨[.ref a],[]⟩ [.ref a] [.ref a] _ _ hr e0 (hbind s₁ (.ref a)) (.cons rfl .nil) (hsp H hO hS)) λr s' h=>?_;cases r with
  |error e=>exact(hCX H e s' h).elim
  |ok fl=>
   cases fl with
   |next=>exact y1h h
   |brk=>exact y1h h
   |cont=>exact y1h h
   |ret u=>
    obtain⟨v,H',os,bare,un,hok',r',q⟩:=h;have q':v=.bl true:=q;subst q';obtain rfl:u=y6o true:=r';refine⟨rfl,OldK.of_keep λb o e=>?_,os,bare⟩;cases q:H b with
    |none=>exact un.keep b o e q (by intro z;exact absurd (show b∈([]:List Addr)from z) (by simp)) (by simp)
    |some u=>
     rcases hO b with z|⟨ob,xs,z⟩
     ·rw[q]at z;cases z
     ·have z2:=un.frzs b ob _ z;obtain⟨e1,_⟩:=hok b _ z;obtain⟨e2,_⟩:=hok' b _ z2;rw[e]at e1;cases e1;exact e2
 cases hk:K.lookup a with
 |some o=>
  have e:=KX a o hk;rw[ha]at e;cases e;refine core (λ_=>none) (λ_=>.inl rfl) (.inr ⟨_,vs.toArray,_,hk,rfl,rfl,rfl,by rw[yj,lenV];exact hl,by simpa using rv⟩) (λb u z=>by have z':(none:Option HO)=some u:=z;cases z') (λb z=>absurd rfl z) λz=>absurd rfl z
 |none=>
  refine core (λb=>if b=a then some (.frz {cls:=.type "list",data:=.seq vs.toArray} (.lst (ns.map V.int)))else none) (λb=>?_) (.inl (.inr ⟨{cls:=.type "list",data:=.seq vs.toArray},if_pos rfl⟩)) (λb u z=>?_) (λb z=>?_) λ_=>hk
  ·by_cases hb:b=a
   ·exact .inr ⟨_,_,if_pos hb⟩
   ·exact .inl (if_neg hb)
  ·by_cases hb:b=a
   ·have z':=(if_pos hb).symm.trans z;cases z';subst hb;exact⟨ha,by rw[y3];exact hl,vs,_,rv,ha⟩
   ·have z':=(if_neg hb).symm.trans z;cases z'
  ·by_cases hb:b=a
   ·exact hb
   ·exact absurd (if_neg hb) z
variable{K:y9}
abbrev KOf{h:Heap}(_:K.In h):y9:=K
theorem walk_of{l:y5p}{n k:Nat}{q:yy}{loose:List Str}{XP:(Str->Option Value)->Heap->Prop}{YP:World->Heap->Prop}{d:ydx}{K:ye0->y9}{CX:World->CXT}{sp:World->Sp}{x:Str}
  (hn:l.most=some n) (hn2:n<=sizeLine) (hdf:d.params.defaults=[]) (hr:Room k callerA)
  (hY:∀(w:World) (h:Heap),YP w h->(K w.params).In h)
  (F:∀(w:World) (mg:Str->Option Value) (fa:Addr) (h:Heap),(K w.params).In h->h.Ns mainGlobals mg->mg d.name=some (.ref fa)->
   ∃fd:xi,(∀(s:ye) (u:Value),y6r s fd ⟨[u],[]⟩ [(x,u)])/\
    ∀base:Heap,(K w.params).In base->base.Ns mainGlobals mg->FnOk l.prog w (K w.params) mg base (CX w) k fa fd [x] (sp w))
  (hsp:∀(w:World) (H:Hp) (a:Addr) (ns:List Int),ns.length<=n->Only H->SqL (K w.params) H a (ns.map V.int)->sp w [.ref a] H (λv _=>v=.bl true) λ_ _ _=>False)
  (hCX:∀(w:World) (H:Hp) (s:ye) (e:Value) (s':ye),CX w [] H s (λ_ _ _=>False) e s'->False):
  y9g q loose XP YP l.row.toRowW d [] (λf vs=>y8a f vs):=by
 refine Att.attach_call hn hdf λw s₀ s₁ mg mb fa o pm cd doc a vs ns G Y ho hd hcd hmg hobj hints hlen hg=>?_;have KX:=hY w _ Y;obtain⟨fd,hb,hF⟩:=F w mg fa _ KX G.T.g hmg;exact jbh KX G.T.g G.T.b G.T.builtins G.T.nolimit G.T.bmain hg hobj hints (gj hlen hn2) hr hF hb (λH hO hS=>hsp w H a ns hlen hO hS) λH e s'=>hCX w H s₁ e s'
def j13(s:Stmt)(j:Nat):Stmt:=match s with
 | .ClassDef _ _ _ body _ _ _ _ _ _ _=>body.getD j (.Pass ⟨0,0,0,0⟩)
 |_=>.Pass ⟨0,0,0,0⟩
def j1k(s:Stmt):Arguments:=match s with
 | .FunctionDef _ a _ _ _ _ _ _ _ _=>a
 |_=>{posonlyargs:=[],args:=[],vararg:=none,kwonlyargs:=[],kw_defaults:=[],kwarg:=none,defaults:=[]}
def j1d(s:Stmt):List Stmt:=match s with
 | .FunctionDef _ _ b _ _ _ _ _ _ _=>b
 |_=>[]
def j05(s:Stmt):Scope:=match s with
 | .FunctionDef _ _ _ _ _ _ sc _ _ _=>sc
 |_=>{kind:=.function,names:=[],isGenerator:=false,isCoroutine:=false}
abbrev E0:XK:=λ_ _ _=>False
structure Fun(K:y9)(x qual:Str)(st:Stmt)(f:Addr)(fd:xi):Prop where
 ex:∃(oc:Value) (od:Option Addr) (kV doc pm:Value) (an:Option Addr) (cdv ct:Value) (osl:Array (Option Value)),
  fd=ut x qual (j1k st) (j1d st) (j05 st) .none kV doc pm an cdv ct/\K.lookup f=some ⟨oc,od,.func fd,osl⟩/\y6a K cdv qual=true
 kp:y0w K (.ref f)=true
variable{x qual:Str}{st:Stmt}{f:Addr}{fd:xi}
section
variable{P:yy}{w:World}{K:y9}{mg:Str->Option Value}{base:Heap}
theorem Fun.binds{ps:List Str}(F:Fun K x qual st f fd)
  (h:∀(kV doc pm:Value) (an:Option Addr) (cdv ct:Value) (us:List Value),us.length=ps.length->bindArgs (ut x qual (j1k st) (j1d st) (j05 st) .none kV doc pm an cdv ct) ⟨us,[]⟩=pure (ps.zip us)):Binds K fd ps []:=by
 obtain⟨oc,od,kV,doc,pm,an,cdv,ct,osl,rfl,lk,hcd⟩:=F.ex;exact .all (h kV doc pm an cdv ct)
theorem fun_mk{oc:Value}{od an:Option Addr}{osl:Array (Option Value)}{kV doc pm cdv ct:Value}(l:K.lookup f=some ⟨oc,od,.func (ut x qual (j1k st) (j1d st) (j05 st) .none kV doc pm an cdv ct),osl⟩)
  (c:y6a K cdv qual=true) (k:y0w K (.ref f)=true):Fun K x qual st f (ut x qual (j1k st) (j1d st) (j05 st) .none kV doc pm an cdv ct):=⟨⟨oc,od,kV,doc,pm,an,cdv,ct,osl,rfl,l,c⟩,k⟩
end
section
variable{X:Cx}
theorem pv(i:Nat){pos:Pos}(hN:X.N[i]?=some x:=by rfl)(hv:Vis X.env.scope x:=by first|exact y7e rfl|exact ydz (y7e rfl)|exact ydz (ydz rfl))(hd:(x==("__debug__":Str))=false:=by decide)
  (hcd:(x==("__classdict__":Str))=false:=by decide):PE X (.Name x pos) (tVar i):=pe_var hN hv hd hcd
theorem je9:CallR X (.builtin "len") (λxs H Q=>∃a kvs,xs=[V.ref a]/\H a=some (.dK kvs)/\Q (.int kvs.length) H):=by
 intro pins s σ H xs us Q I r h;obtain⟨a,kvs,rfl,ha,q⟩:=h;obtain⟨u,rfl,ru⟩:=j65 r;cases ru;exact d_len I (.inl ha) λt s' I'=>⟨.int kvs.length,H,I',⟨t,rfl⟩,q⟩
end
theorem iteF{A B:Prop}(h:B):if false=true then A else B:=by
 rw[if_neg xb];exact h
theorem iteT{A B:Prop}(h:A):if true=true then A else B:=by
 rw[if_pos rfl];exact h
structure Pass(fs:List Addr)(n:Nat)(H:Hp)(h h':Heap):Prop where
 keep:∀b o,h.get? b=some o->b∉fs->(b<n\/H b≠none\/∀vs,o.data≠.fields vs)->h'.get? b=some o
 slot:∀b o,h.get? b=some o->b∈fs->∃sl,h'.get? b=some {o with slots:=sl}
 there:∀b o,h.get? b=some o->∃o',h'.get? b=some o'
def Head(n:Nat)(H:Hp)(h:Heap)(a:Addr)(vs:Array Value)(fl:Value):Prop:=
 (vs[1]?=some .none/\fl=.none)\/∃T oT ts,vs[1]?=some (.ref T)/\n<=T/\H T=none/\T≠a/\h.get? T=some oT/\oT.data=.fields ts/\ts[3]?=some fl
structure Err(n:Nat)(H:Hp)(h:Heap)(a:Addr)(C:Value)(dx:Option Addr)(fl:Value):Prop where
 new:n<=a
 un:H a=none
 obj:∃oe vs,h.get? a=some oe/\oe.cls=C/\oe.dict=dx/\oe.data=.fields vs/\1<vs.size/\Head n H h a vs fl
section
variable{X:Cx}{pins:List (Addr×Obj)}{σ:St}{H:Hp}{s:ye}{h':Heap}
open Classical in
end
def CXE(P:yy)(w:World):CXT:=λouter H s E e s'=>
 ∃a C dx H',e=.ref a/\s'.os=s.os/\y68 s'.gens/\Un (frs outer) [] H H' s.heap s'.heap/\HOk P w H' s'.heap/\Err s.heap.objs.size H' s'.heap a C dx .none/\E C dx H'
variable{P:yy}{w:World}
theorem passE0{X:Cx}:j7l (CXE P w) X E0:=λ_ _ _ _ _ _ _ h=>by
 obtain⟨_,_,_,_,_,_,_,_,_,_,q⟩:=h;exact q.elim
section
variable{X:Cx}{E:XK}
structure Own(X:Cx):Prop where
 stk:X.stack=X.env::X.outer
 frm:X.env.frame=some X.env.locals
 pn:X.pn=[]
end
open PySem.Builtin PySem.Builtin.ObjectAttr
structure ErrC(K:y9)(C:Addr)(bm:List Value):Prop where
 at_:∃nm q N bs hdct sn sub ab col dd k0 k1 k2 k3 k5 newId,K.lookup C=some (excClassObj nm q C N bs bm hdct sn sub ab col dd k0 k1 k2 k3 k5 newId)
 base:bm.contains (.type "BaseException")=true
structure ErrM(K:y9)(C f:Addr)(bm bmB:List Value)(B newId initId:String):Prop where
 at_:∃nm q N bs hdct sn sub ab col dd k0 k1 k2 k3 k5,K.lookup C=some (excClassObj nm q C N bs bm hdct sn sub ab col dd k0 k1 k2 k3 k5 newId)
 facts:ExcBaseFacts B newId initId bmB
 hasB:bm.contains (.type B)=true
 noA:bm.contains (.type "AttributeError")=false
 noN:bm.contains (.type "NameError")=false
 base:bm.contains (.type "BaseException")=true
 init:gc K (.ref C) "__init__"=some (some (.ref f))
 fn:y62 K (.ref f)=true
 kp:y0w K (.ref C)=true
structure ErrS(K:y9)(C:Addr)(f:Str)(bm:List Value):Prop where
 at_:∃nm q N bs sn sub ab col dd k0 k1 k2 k3 k5 newId,K.lookup C=some (excClassObj nm q C N bs bm true sn sub ab col dd k0 k1 k2 k3 k5 newId)
 passes:∀x:Addr,refuseLoop (.ref x) "__setattr__" bm=pure ()
 obj:bm.contains (.type "object")=true
 set:gc K (.ref C) "__setattr__"=some (some (.builtin "object.__setattr__"))
 none:gc K (.ref C) f=some none
def Ext(H H':Hp):Prop:=∀b o,H b=some o->H' b=some o
variable{H:Hp}
theorem Ext.rfl':Ext H H:=λ_ _ h=>h
variable{H1 H2:Hp}
theorem Ext.tr(a:Ext H H1)(b:Ext H1 H2):Ext H H2:=λc o h=>b c o (a c o h)
variable{p:Addr}{o:HO}
theorem j0p(n:H p=none):Ext H (upd H p o):=λb u h=>by
 rw[j0i (j08 h n)];exact h
theorem Ext.free{H H':Hp}(e:Ext H H'){l:Addr}(h:H' l=none):H l=none:=by
 cases q:H l with
 |none=>rfl
 |some o=>rw[e l o q]at h;cases h
variable{H':Hp}{a:Addr}
theorem Ext.rd{u:HO}(e:Ext H H')(h:Rd H a u):Rd H' a u:=by
 rcases h with h|⟨o,h⟩
 ·exact .inl (e _ _ h)
 ·exact .inr ⟨o,e _ _ h⟩
variable{xs:List V}
theorem Ext.seqL(e:Ext H H')(h:SqL K H a xs):SqL K H' a xs:=h.elim (λh=>.inl (e.rd h)) .inr
theorem Ext.seqT(e:Ext H H')(h:SqT K H a xs):SqT K H' a xs:=h.elim (λh=>.inl (e.rd h)) .inr
theorem up(e:Ext H H')(h:H p=some o):H' p=some o:=e _ _ h
def But(x:Addr)(H H':Hp):Prop:=∀b o,b≠x->H b=some o->H' b=some o
theorem But.tr{x:Addr}(a:But x H H1)(b:But x H1 H2):But x H H2:=λc o n h=>b c o n (a c o n h)
theorem Ext.but{x:Addr}(a:Ext H H1)(b:But x H1 H2)(n:H x=none):Ext H H2:=λc o h=>b c o (j08 h n) (a c o h)
theorem j26:But p H (upd H p o):=λb u n h=>by rw[j0i n];exact h
inductive Kd where|non|bl|int|str|tup|lst|dct
 deriving DecidableEq
def Kd.ty:Kd->String
 | .non=>"NoneType" | .bl=>"bool" | .int=>"int" | .str=>"str" | .tup=>"tuple" | .lst=>"list" | .dct=>"dict"
def HasK(H:Hp):V->Kd->Prop
 | .non,k=>k=.non
 | .bl _,k=>k=.bl
 | .int _,k=>k=.int
 | .str _,k=>k=.str
 | .ref a,k=>(∃xs,H a=some (.tup xs)/\k=.tup)\/(∃xs,H a=some (.lst xs)/\k=.lst)\/(∃kvs,H a=some (.dK kvs)/\k=.dct)
 |_,_=>False
theorem HasK.t(h:H a=some (.tup xs)):HasK H (.ref a) .tup:=.inl ⟨xs,h,rfl⟩
theorem HasK.l(h:H a=some (.lst xs)):HasK H (.ref a) .lst:=.inr (.inl ⟨xs,h,rfl⟩)
theorem HasK.d{kvs:List (Key×V)}(h:H a=some (.dK kvs)):HasK H (.ref a) .dct:=.inr (.inr ⟨kvs,h,rfl⟩)
theorem HasK.tyOf{K:y9}{H:Hp}{x:V}{k:Kd}(h:HasK H x k):TyOf K H x (.type k.ty):=by
 cases x with
 |non=>cases(show k=.non from h);exact .non
 |bl b=>cases(show k=.bl from h);exact .bl b
 |int b=>cases(show k=.int from h);exact .int b
 |str b=>cases(show k=.str from h);exact .str b
 |ref a=>
  rcases h with⟨xs,h,rfl⟩|⟨xs,h,rfl⟩|⟨xs,h,rfl⟩
  ·exact .tup h
  ·exact .lst h
  ·exact .dK h
 |_=>exact(show False from h).elim
inductive D where
 |non|bl (b:Bool)|int (i:Int)|str (x:Str)|tup (l:List D)|lst (l:List D)|dct
def D.kd:D->Kd
 | .non=>.non | .bl _=>.bl | .int _=>.int | .str _=>.str | .tup _=>.tup | .lst _=>.lst | .dct=>.dct
mutual
def Rep(H:Hp):D->V->Prop
 | .non,v=>v=.non
 | .bl b,v=>v=.bl b
 | .int i,v=>v=.int i
 | .str x,v=>v=.str x
 | .tup l,v=>∃p xs,v=.ref p/\H p=some (.tup xs)/\RepL H l xs
 | .lst l,v=>∃p xs,v=.ref p/\H p=some (.lst xs)/\RepL H l xs
 | .dct,v=>∃p kvs,v=.ref p/\H p=some (.dK kvs)
def RepL(H:Hp):List D->List V->Prop
 |[],xs=>xs=[]
 |d::r,xs=>∃x t,xs=x::t/\Rep H d x/\RepL H r t
end
def jkl:HO->Bool
 | .tup _=>true | .lst _=>true | .dK _=>true|_=>false
def Kp(H H':Hp):Prop:=∀b o,H b=some o->jkl o=true->H' b=some o
theorem Ext.kp(e:Ext H H'):Kp H H':=λb o h _=>e b o h
mutual
theorem Rep.keep'{H H':Hp}(e:Kp H H'):∀(d:D) {v:V},Rep H d v->Rep H' d v
 | .non,_,h=>by unfold Rep at h ⊢;exact h
 | .bl _,_,h=>by unfold Rep at h ⊢;exact h
 | .int _,_,h=>by unfold Rep at h ⊢;exact h
 | .str _,_,h=>by unfold Rep at h ⊢;exact h
 | .tup l,_,h=>by unfold Rep at h ⊢;obtain⟨p,xs,h1,h2,h3⟩:=h;exact⟨p,xs,h1,e _ _ h2 rfl,RepL.keep' e l h3⟩
 | .lst l,_,h=>by unfold Rep at h ⊢;obtain⟨p,xs,h1,h2,h3⟩:=h;exact⟨p,xs,h1,e _ _ h2 rfl,RepL.keep' e l h3⟩
 | .dct,_,h=>by unfold Rep at h ⊢;obtain⟨p,xs,h1,h2⟩:=h;exact⟨p,xs,h1,e _ _ h2 rfl⟩
theorem RepL.keep'{H H':Hp}(e:Kp H H'):∀(l:List D) {xs:List V},RepL H l xs->RepL H' l xs
 |[],_,h=>by unfold RepL at h ⊢;exact h
 |d::r,_,h=>by unfold RepL at h ⊢;obtain⟨x,t,h1,h2,h3⟩:=h;exact⟨x,t,h1,Rep.keep' e d h2,RepL.keep' e r h3⟩
end
variable{d:D}
theorem Rep.keep{v:V}(h:Rep H d v)(e:Kp H H'):Rep H' d v:=Rep.keep' e d h
theorem RepL.keep{d:List D}{v:List V}(h:RepL H d v)(e:Kp H H'):RepL H' d v:=RepL.keep' e d h
theorem Rep.mono{v:V}(h:Rep H d v)(e:Ext H H'):Rep H' d v:=h.keep e.kp
theorem RepL.mono{d:List D}{v:List V}(h:RepL H d v)(e:Ext H H'):RepL H' d v:=h.keep e.kp
theorem RepL.length{H:Hp}:∀{l:List D}{xs:List V},RepL H l xs->l.length=xs.length
 |[],_,h=>by unfold RepL at h;rw[h];rfl
 |d::r,_,h=>by unfold RepL at h;obtain⟨x,t,rfl,_,h3⟩:=h;rw[yl,yl,RepL.length h3]
theorem RepL.get{H:Hp}:∀{l:List D}{xs:List V}{i:Nat}{x:V},RepL H l xs->xs[i]?=some x->∃d,l[i]?=some d/\Rep H d x
 |[],_,i,x,h,e=>by unfold RepL at h;subst h;simp at e
 |d::r,_,0,x,h,e=>by unfold RepL at h;obtain⟨y,t,rfl,h2,_⟩:=h;simp at e;subst e;exact⟨d,rfl,h2⟩
 |d::r,_,i+1,x,h,e=>by unfold RepL at h;obtain⟨y,t,rfl,_,h3⟩:=h;obtain⟨z,z1,z2⟩:=RepL.get (i:=i) h3 (by simpa using e);exact⟨z,by simpa using z1,z2⟩
theorem RepL.nil:RepL H [] []:=by unfold RepL;rfl
variable{l:List D}
theorem RepL.cons{x:V}(h:Rep H d x)(t:RepL H l xs):RepL H (d::l) (x::xs):=by unfold RepL;exact⟨x,xs,rfl,h,t⟩
theorem Rep.intI{i:Int}:Rep H (.int i) (.int i):=by unfold Rep;rfl
theorem Rep.strI{b:Str}:Rep H (.str b) (.str b):=by unfold Rep;rfl
theorem Rep.tupI(h:H p=some (.tup xs))(r:RepL H l xs):Rep H (.tup l) (.ref p):=by unfold Rep;exact⟨p,xs,rfl,h,r⟩
theorem Rep.lstI(h:H p=some (.lst xs))(r:RepL H l xs):Rep H (.lst l) (.ref p):=by unfold Rep;exact⟨p,xs,rfl,h,r⟩
theorem RepL.ints{H:Hp}:∀ns:List Int,RepL H (ns.map D.int) (ns.map V.int)
 |[]=>.nil
 |_::r=>.cons .intI (RepL.ints r)
theorem Rep.kd{H:Hp}{d:D}{v:V}(h:Rep H d v):HasK H v d.kd:=by
 cases d with
 |tup l=>unfold Rep at h;obtain⟨p,xs,rfl,h,_⟩:=h;exact .t h
 |lst l=>unfold Rep at h;obtain⟨p,xs,rfl,h,_⟩:=h;exact .l h
 |dct=>unfold Rep at h;obtain⟨p,xs,rfl,h⟩:=h;exact .d h
 |_=>unfold Rep at h;subst h;exact rfl
mutual
def D.fine:D->Bool
 | .tup l=>D.fineL l
 | .lst l=>D.fineL l
 | .dct=>false
 |_=>true
def D.fineL:List D->Bool
 |[]=>true
 |d::r=>d.fine&&D.fineL r
def D.depth:D->Nat
 | .tup l=>D.depthL l+1
 | .lst l=>D.depthL l+1
 |_=>0
def D.depthL:List D->Nat
 |[]=>0
 |d::r=>max d.depth (D.depthL r)
end
theorem jbi:∀{l:List D}{i:Nat}{d:D},D.fineL l=true->l[i]?=some d->d.fine=true
 |[],_,_,_,e=>by simp at e
 |x::r,0,d,h,e=>by simp at e;subst e;unfold D.fineL at h;exact(y2w.mp h).1
 |x::r,i+1,d,h,e=>by unfold D.fineL at h;exact jbi (y2w.mp h).2 (by simpa using e)
theorem j8u:∀{l:List D}{n i:Nat}{d:D},D.depthL l<=n->l[i]?=some d->d.depth<=n
 |[],_,_,_,_,e=>by simp at e
 |x::r,n,0,d,h,e=>by simp at e;subst e;unfold D.depthL at h;omega
 |x::r,n,i+1,d,h,e=>by unfold D.depthL at h;exact j8u (l:=r) (by omega) (by simpa using e)
theorem jbj(ns:List Int):D.fineL (ns.map D.int)=true:=by
 induction ns with
 |nil=>rfl
 |cons n r ih=>show(D.fine (.int n)&&D.fineL (r.map D.int))=true;rw[ih];rfl
theorem j2v(ns:List Int):D.depthL (ns.map D.int)=0:=by
 induction ns with
 |nil=>rfl
 |cons n r ih=>show max (D.depth (.int n)) (D.depthL (r.map D.int))=0;rw[ih];rfl
abbrev CXU(P:yy)(w:World):CXT:=CXE P w
theorem j24{X:Cx}:j7l (CXU P w) X E0:=passE0
theorem noneU:∀(w:World) (H:Hp) (s:ye) (e:Value) (s':ye),CXU P w [] H s (λ_ _ _=>False) e s'->False:=λ_ _ _ _ _ h=>by
 obtain⟨_,_,_,_,_,_,_,_,_,_,q⟩:=h;exact q
theorem FnOk.no{mg:Str->Option Value}{base:Heap}{CX:CXT}{k:Nat}{ps:List Str}:FnOk P w K mg base CX k f fd ps (λ_ _ _ _=>False):=
 ⟨λ_ _ _ _ h=>h.elim,λ_ _ _ _ _ _ _ _ _ _ _ _ _ h=>h.elim⟩
section
variable{P:yy}{w:World}{K:y9}{mg:Str->Option Value}{base:Heap}
theorem Fun.okU{N ps:List Str}{k:Nat}{sp:Sp}(F:Fun K x qual st f fd)(S:FnScope N ps (j05 st))(len:∀vs H Q E,sp vs H Q E->vs.length=ps.length)
  (hbody:∀(cdv:Value) (A:gw) (outer:List Env) (s:ye) (H:Hp) (vs:List V) (Q:VK) (E:XK),Room k (A.deeper (envOfC qual (j05 st) s.heap.objs.size f cdv))->sp vs H Q E->
   ∃t,PSs (cxOf (CXU P w) P w K mg base N qual (j05 st) f cdv A outer s H E).nox (j1d st) t/\t {nx:=λ_ H'=>Q .non H',rt:=Q} (start N vs) H):FnOk P w K mg base (CXU P w) (k+1) f fd ps sp:=by
 obtain⟨oc,od,kV,doc,pm,an,cdv,ct,osl,rfl,lk,hcd⟩:=F.ex;refine fn_of lk hcd S len λA outer s H vs Q E hr hsp=>?_;obtain⟨t,h,q⟩:=hbody cdv A outer s H vs Q E hr hsp;exact⟨t,h.nox,q⟩
end
abbrev ib:Int->Nat:=y11
theorem ja9{ns:List Int}(h:ycb [.list (ns.map .int)]=true):∀z∈ns,ib z<=1048576:=λz hz=>by
 have h1:=PySem.W.layableW_arg h _ (yb.mpr rfl);have h2:=PySem.W.layableW_item h1 (.int z) (yk.mpr ⟨z,hz,rfl⟩);have h3:=(PySem.W.layableW_iff.mp h2).2.2;simpa[yd7,ib,y11] using h3
end L2
namespace L2
open PySem PySem.W PySem.Calls PyProof.Rows
theorem j7q{l:OpenLaw}{n:Nat}{q:yy}{loose:List Str}{XP:(Str->Option Value)->Heap->Prop}{YP:World->Heap->Prop}{d:ydx}
  (hn:l.most=some n) (hdf:d.params.defaults=[])
  (call:∀(w:World) (s₀ s₁:ye) (mg mb:Str->Option Value) (fa:Addr) (o:Obj) (pm cd doc:Value) (a:Addr) (vs:List Value) (ns:List Int),
   Ground q loose [] XP w s₀ mg mb s₁.heap->YP w s₁.heap->
   s₁.heap.get? fa=some o->o.data=.func (docDef d.name d.params d.body d.scope pm cd doc)->s₁.heap.CodeRec cd d.name->mg d.name=some (.ref fa)->
   s₁.heap.get? a=some {cls:=.type "list",data:=.seq vs.toArray}->y2f vs ns->ns.length<=n->(∀z∈ns,ib z<=1048576)->s₁.gens=#[]->
   codeAny (model l.prog w) callerA (.call (.ref fa) ⟨[.ref a],[]⟩) (λr s'=>r=.ok (.ret (.bool true))/\OldK s₁.heap s'.heap/\s'.os=s₁.os/\y68 s'.gens) s₁):
  WalkO q loose XP YP l.row.toRowW d [] (λf vs=>y8a f vs):=by
 intro w s₀ s₁ mg mb G Y fa o pm cd doc dV kV ho hd hcd hD hmg hg args vals as hpre hlay hrd hwl hlo;obtain rfl:dV=.none:=Dflts.none hD hdf;obtain rfl:kV=.none:=Dflts.noKw hD;obtain⟨a,vs,ns,rfl,rfl,hobj,hints,hlen⟩:=Att.script_of hn hpre hwl;refine enter_call (y3p (call w s₀ s₁ mg mb fa o pm cd doc a vs ns G Y ho (fd_plain hd) hcd hmg hobj hints hlen (ja9 hlay) hg) λr s' hq=>?_);obtain⟨rfl,h2,h3,h4⟩:=hq;exact⟨.inl ⟨.bool true,.bool true,[],rfl,λ_=>rfl,.bool true,Att.post_true l _,λ_=>⟨y4f,λ_ hm=>(nomatch hm)⟩⟩,h2,h3,h4⟩
theorem walk_ofB{l:y5p}{n k:Nat}{q:yy}{loose:List Str}{XP:(Str->Option Value)->Heap->Prop}{YP:World->Heap->Prop}{d:ydx}{K:ye0->y9}{CX:World->CXT}{sp:World->Sp}{x:Str}
  (hn:l.most=some n) (hn2:n<=sizeLine) (hdf:d.params.defaults=[]) (hr:Room k callerA)
  (hY:∀(w:World) (h:Heap),YP w h->(K w.params).In h)
  (F:∀(w:World) (mg:Str->Option Value) (fa:Addr) (h:Heap),(K w.params).In h->h.Ns mainGlobals mg->mg d.name=some (.ref fa)->
   ∃fd:xi,(∀(s:ye) (u:Value),y6r s fd ⟨[u],[]⟩ [(x,u)])/\
    ∀base:Heap,(K w.params).In base->base.Ns mainGlobals mg->FnOk l.prog w (K w.params) mg base (CX w) k fa fd [x] (sp w))
  (hsp:∀(w:World) (H:Hp) (a:Addr) (ns:List Int),ns.length<=n->(∀z∈ns,ib z<=1048576)->Only H->SqL (K w.params) H a (ns.map V.int)->sp w [.ref a] H (λv _=>v=.bl true) λ_ _ _=>False)
  (hCX:∀(w:World) (H:Hp) (s:ye) (e:Value) (s':ye),CX w [] H s (λ_ _ _=>False) e s'->False):
  y9g q loose XP YP l.row.toRowW d [] (λf vs=>y8a f vs):=by
 refine j7q hn hdf λw s₀ s₁ mg mb fa o pm cd doc a vs ns G Y ho hd hcd hmg hobj hints hlen hbit hg=>?_;have KX:=hY w _ Y;obtain⟨fd,hb,hF⟩:=F w mg fa _ KX G.T.g hmg;exact jbh KX G.T.g G.T.b G.T.builtins G.T.nolimit G.T.bmain hg hobj hints (gj hlen hn2) hr hF hb (λH hO hS=>hsp w H a ns hlen hbit hO hS) λH e s'=>hCX w H s₁ e s'
variable{i j:Int}{K:y9}{ta:TE}
section
variable{X:Cx}
def CMulB(i j:Int):Prop:=(-18446744073709551616<i/\i<18446744073709551616)\/(-18446744073709551616<j/\j<18446744073709551616)\/IntMulOk i j
theorem CMulB.ok(h:CMulB i j):IntMulOk i j:=by
 rcases h with⟨h1,h2⟩|⟨h1,h2⟩|h
 ·exact .of_left (intBits_le_64 (by omega) (by omega))
 ·exact .of_right (intBits_le_64 (by omega) (by omega))
 ·exact h
theorem jkm:OpR X (binaryOp .Mult) (rI CMulB λi j=>.int (i*j)):=opI λ_ _ _ _ _ _ _ hc q=>mul_int q hc.ok
def CDivB(i j:Int):Prop:=0<j/\j<1000000000000000000000000000000000000000000000000000000000000
theorem CDivB.no(h:CDivB i j):Builtin.divisionGoesByPylong i j=false:=by
 refine PyProof.noPylong_of_log2 ?_;have h1:=h.1;have h2:=h.2;have h0:j.natAbs≠0:=by omega
 refine(Nat.log2_lt h0).mpr ?_;have e:(1000000000000000000000000000000000000000000000000000000000000:Nat)<2 ^ 9000:=by decide +kernel
 omega
theorem j0o:OpR X (binaryOp .FloorDiv) (rI CDivB λi j=>.int (i/j)):=opI λi j _ _ _ _ _ hc q=>by
 have h1:=hc.1;exact floordiv_int (by omega) (by rw[Int.fdiv_eq_ediv_of_nonneg i (by omega)];exact q) (.inl hc.no)
def jjp(K:y9):List V->Hp->VK->Prop:=λxs H Q=>∃x t b,((∃n,xs=[x,.ty n]/\y0n K t (.type n)=some b)\/∃C,xs=[x,.ref C]/\y0n K t (.ref C)=some b)/\TyOf K H x t/\Q (.bl b) H
theorem jbk:CallR X (.builtin "isinstance") (jjp X.K):=by
 intro pins s σ H xs us Q I r h;obtain⟨x,t,b,hx,ty,q⟩:=h;rcases hx with⟨n,rfl,e⟩|⟨n,rfl,e⟩
 ·obtain⟨u,w',rfl,ru,rw'⟩:=jk3 r;obtain rfl:w'=y1j n:=rw';exact j8m I ru ty e λtk=>⟨.bl b,H,I.tok _,rfl,q⟩
 ·obtain⟨u,w',rfl,ru,rw'⟩:=jk3 r;obtain rfl:w'=xy n:=rw';exact j8m I ru ty e λtk=>⟨.bl b,H,I.tok _,rfl,q⟩
theorem jkn(k:Kd):y0n K (.type k.ty) (.type "int")=some (k == .int||k == .bl):=by cases k<;>rfl
theorem jhl(k:Kd):y0n K (.type k.ty) (.type "bool")=some (k == .bl):=by cases k<;>rfl
theorem jko(k:Kd):y0n K (.type k.ty) (.type "str")=some (k == .str):=by cases k<;>rfl
theorem jea(k:Kd):y0n K (.type k.ty) (.type "tuple")=some (k == .tup):=by cases k<;>rfl
theorem jhm(k:Kd):y0n K (.type k.ty) (.type "list")=some (k == .lst):=by cases k<;>rfl
def rSum(K:y9):List V->Hp->VK->Prop:=λxs H Q=>∃(p:Addr) (ns:List Int),xs=[.ref p]/\SqL K H p (ns.map V.int)/\Q (.int ns.sum) H
theorem cSum(hc:X.calm=true):CallR X (.builtin "sum") (rSum X.K):=by
 intro pins s σ H xs us Q I r h;obtain⟨p,ns,rfl,hq,q⟩:=h;obtain⟨u,rfl,rx⟩:=j65 r;cases rx;obtain⟨its,r',pl,hz⟩:=I.list hq;have hi:y2f its ns:=j1v r';have hall:AllInts its.toArray:=hi.allInts;obtain⟨ys,e⟩:=hall.items;refine sum_intListG (I.ok.hd hc) (xs:=ys) (by rw[<- e];exact pl.isList) λh' tk t' hk=>⟨.int ns.sum,H,I.kept hk,⟨t',?_⟩,q⟩
 have e2:numsOf its=ns:=hi.numsOf;have e3:=nums_intItems (xs:=ys);rw[<- e]at e3;rw[preSum_eq,xg (by simp),<- e3];exact congrArg (λz=>y2b z t') (congrArg List.sum e2)
def rMax2:List V->Hp->VK->Prop:=λxs H Q=>∃i j,xs=[.int i,.int j]/\Q (.int (max i j)) H
theorem joo(hc:X.calm=true):CallR X (.builtin "max") rMax2:=by
 intro pins s σ H xs us Q I r h;obtain⟨i,j,rfl,q⟩:=h;refine jdy hc pins s σ H _ us Q I r ⟨i,j,rfl,?_⟩;have e:(if j > i then j else i)=max i j:=by split<;>omega
 rw[e];exact q
def rMin2:List V->Hp->VK->Prop:=λxs H Q=>∃i j,xs=[.int i,.int j]/\Q (.int (min i j)) H
theorem jhn(hc:X.calm=true):CallR X (.builtin "min") rMin2:=by
 intro pins s σ H xs us Q I r h;obtain⟨i,j,rfl,q⟩:=h;refine jdz hc pins s σ H _ us Q I r ⟨i,j,rfl,?_⟩;have e:(if j<i then j else i)=min i j:=by split<;>omega
 rw[e];exact q
def rAbs:List V->Hp->VK->Prop:=λxs H Q=>∃i:Int,xs=[.int i]/\Q (.int (i.natAbs:Int)) H
theorem cAbs:CallR X (.builtin "abs") rAbs:=by
 intro pins s σ H xs us Q I r h;obtain⟨i,rfl,q⟩:=h;refine jh9 pins s σ H _ us Q I r ⟨i,rfl,?_⟩;have e:(if i<0 then -i else i)=(i.natAbs:Int):=by split<;>omega
 rw[e];exact q
def rInt1:List V->Hp->VK->Prop:=λxs H Q=>(∃i,xs=[.int i]/\Q (.int i) H)\/∃k,xs=[.bl k]/\Q (.int (if k then 1 else 0)) H
theorem cInt1:CallR X (.type "int") rInt1:=je0
def rLen(K:y9):List V->Hp->VK->Prop:=λxs H Q=>∃x n,xs=[x]/\LenV K x H n/\Q (.int n) H
theorem cLen:CallR X (.builtin "len") (rLen X.K):=jha
def jop(K:y9):List V->Hp->VK->Prop:=λxs H Q=>∃p ys,xs=[.ref p]/\(SqL K H p ys\/SqT K H p ys)/\∀l,H l=none->Q (.ref l) (upd H l (.lst ys))
theorem jg4:CallR X (.type "list") (jop X.K):=j7p
def jkp(K:y9):List V->Hp->VK->Prop:=λxs H Q=>∃p ys,xs=[.ref p]/\((SqL K H p ys/\∀l,H l=none->Q (.ref l) (upd H l (.tup ys)))\/(SqT K H p ys/\Q (.ref p) H))
theorem j2d:CallR X (.type "tuple") (jkp X.K):=j69
def rInU(K:y9)(neg:Bool):R2:=rIn K neg
theorem oIn:OpR X (compareOp .In) (rInU X.K false):=je4
theorem jbl:OpR X (compareOp .NotIn) (rInU X.K true):=j7n
def rIsNo:R2:=λx y H Q=>y=.non/\Q (.bl (decide (x=.non))) H
def jkq:R2:=λx y H Q=>y=.non/\Q (.bl (!decide (x=.non))) H
theorem oIsN:OpR X (compareOp .Is) rIsNo:=op_isN
theorem oNotN:OpR X (compareOp .IsNot) jkq:=jk2
theorem oIx:IxR X (rIx X.K):=ix_seq
def rSlU(K:y9):V->Option Int->Option Int->Hp->VK->Prop:=λx lo hi H Q=>rSlT K x lo hi H Q\/rSlL K x lo hi H Q
theorem oSl:SlR X (rSlU X.K):=sl_tup.or jnk
def tTru(K:y9)(ta:TE):TT:=λσ H Q=>ta σ H λx H'=>∃k,TruV K x H' k/\Q k H'
theorem ptT{a:Expr}(ha:PE X a ta)(he:∀whole,isTrue a X.env whole=(do let v <- whole;standAt a.pos;holding [v] (truthy v))):PT X a (tTru X.K ta):=jh8 ha he
structure CMeth(K:y9)(C:Addr)(m:Str)(f:Addr):Prop where
 ga:y0y K (.ref C) "__getattribute__"=some (some (.builtin "type.__getattribute__"))
 rd:PySem.W.readsIn K C (.type "type")=true
 at_:PySem.W.findCls K (.ref C) (.type "type") m=some (.val (.ref f))
 kp:y0w K (.ref f)=true
end
section
variable{X:Cx}{pins:List (Addr×Obj)}{σ:St}{H:Hp}{s:ye}{h':Heap}
theorem Inv.turnLaid{t':Nat}{ch:List Addr}{a:Addr}{o:HO}(I:Inv X pins σ H s)(k:∀b u,b∉ch->s.heap.get? b=some u->h'.get? b=some u)(hf:∀b∈ch,FpOk X pins H b)
  (hp:s.heap.objs.size<=a) (new:ObjOk X.prog X.w (upd H a o) h' a o):Inv X pins σ (upd H a o) {s with heap:=h',toks:=t'}:=by
 have hn:H a=none:=I.hok.fresh hp;have nit:∀b u,H b=some u->b∉ch:=λb u e z=>by rw[(hf b z).1]at e;cases e
 have old:∀b u,H b=some u->upd H a o b=some u:=λb u e=>by rw[j0i (j08 e hn)];exact e
 refine I.step (g':=s.gens) (d':=s.drawn) (ch:=ch) (λb hb=>?_) (λb u _ _ hc e _=>k b u hc e) (λb u _ _ hc e _=>⟨u.slots,k b u hc e⟩) (λb u _ e n=>?_)
  (λb u hc e=>⟨u,k b u hc e⟩) (λb xs e=>old _ _ e) (λb _ _ e=>old _ _ e) (λb ps e=>⟨#[],by rw[old _ _ e];simp⟩) (λm hm=>?_) (λb u e=>?_) I.bare
 ·obtain⟨_,f1,_,f3,f4,f5⟩:=hf b hb;exact⟨f3,f1,f4,f5⟩
 ·rw[j0i (λz=>by subst z;exact absurd (yt e) (ye7.mpr hp))];exact n
 ·obtain⟨ol,es,ep,ho,r⟩:=hm;exact⟨ol,es,ep,k _ ol (λz=>(hf _ z).2.1 rfl) ho,r⟩
 ·by_cases hb:b=a
  ·subst hb;rw[j07]at e;cases e;exact new
  ·rw[j0i hb]at e;refine(I.hok b u e).stay (λc v hc q=>k c v ?_ q) (λc q=>old _ _ q) λc xs q=>old _ _ q;rcases hc with z|z
   ·rw[z];exact nit b u e
   ·exact nit c _ z
theorem Inv.turns{t':Nat}{ch:List Addr}(I:Inv X pins σ H s)(k:∀b u,b∉ch->s.heap.get? b=some u->h'.get? b=some u)(hf:∀b∈ch,FpOk X pins H b):Inv X pins σ H {s with heap:=h',toks:=t'}:=by
 have nit:∀b u,H b=some u->b∉ch:=λb u e z=>by rw[(hf b z).1]at e;cases e
 refine I.step (g':=s.gens) (d':=s.drawn) (ch:=ch) (λb hb=>?_) (λb u _ _ hc e _=>k b u hc e) (λb u _ _ hc e _=>⟨u.slots,k b u hc e⟩) (λb u _ e n=>n)
  (λb u hc e=>⟨u,k b u hc e⟩) (λb xs e=>e) (λb _ _ e=>e) (λb ps e=>⟨#[],by rw[e];simp⟩) (λm hm=>?_) (λb u e=>?_) I.bare
 ·obtain⟨_,f1,_,f3,f4,f5⟩:=hf b hb;exact⟨f3,f1,f4,f5⟩
 ·obtain⟨ol,es,ep,ho,r⟩:=hm;exact⟨ol,es,ep,k _ ol (λz=>(hf _ z).2.1 rfl) ho,r⟩
 ·refine(I.hok b u e).stay (λc v hc q=>k c v ?_ q) (λc q=>q) λc xs q=>q;rcases hc with z|z
  ·rw[z];exact nit b u e
  ·exact nit c _ z
end
variable{a p dx:Addr}{v y x:V}{tb te to:TE}{R:Bool->Hp->Prop}{t:TA}{b:Bool}{xs dvs:List V}{sp:Sp}{E:XK}{fs:List (Str×V)}{f:Str}{n:Nat}{r:V->List V->Hp->VK->Prop}{ns:List Int}
section
variable{K:y9}{σ:St}{H:Hp}{Q:VK}{D:Ends}
theorem r_var{i:Nat}(h:σ[i]?=some (some v))(q:Q v H):tVar i σ H Q:=⟨v,h,q⟩
theorem r_c(q:Q v H):tC v σ H Q:=q
theorem r_op{r:R2}(q:ta σ H λx H1=>tb σ H1 λy H2=>r x y H2 Q):tOp r ta tb σ H Q:=q
theorem r_seq{t u:TS}(q:t {D with nx:=u D} σ H):tSeq t u D σ H:=q
theorem r_asg{g:TG}(q:te σ H λx H1=>g x σ H1 D.nx):tAsg te g D σ H:=q
theorem jkr{i:Nat}{R:St->Hp->Prop}(q:R (σ.set i (some v)) H):j8k i v σ H R:=q
theorem r_if{c:TT}{t u:TS}(q:c σ H λb H1=>if b=true then t D σ H1 else u D σ H1):tIfS c t u D σ H:=q
theorem r_test{t:TE}(q:t σ H λx H'=>∃k,x=.bl k/\R k H'):tTest t σ H R:=q
theorem r_bl{R:Bool->Prop}(q:R b):∃k,V.bl b=.bl k/\R k:=⟨b,rfl,q⟩
theorem r_I0{g:Int->Int->V}(q:Q (g i j) H):rI0 g (.int i) (.int j) H Q:=⟨i,j,rfl,rfl,q⟩
theorem r_I{C:Int->Int->Prop}{g:Int->Int->V}(c:C i j)(q:Q (g i j) H):rI C g (.int i) (.int j) H Q:=⟨i,j,rfl,rfl,c,q⟩
theorem jho{j n:Nat}{v:Int}(hi:i.natAbs<18446744073709551616)(hj:j<=1000)(e:i ^ j=v)(q:Q (.int v) H):rI CPow (λi j=>.int (i ^ j.toNat)) (.int i) (.int (j:Int)) H Q:=
 ⟨i,j,rfl,rfl,⟨by omega,by omega,ge hi (by decide)⟩,by show Q (.int (i ^ (j:Int).toNat)) H;rw[yq,e];exact q⟩
theorem jks(q:Q (.int 1000000000000000000) H):rI CPow (λi j=>.int (i ^ j.toNat)) (.int 10) (.int 18) H Q:=jho (n:=0) (j:=18) (by decide) (by decide) (by decide) q
theorem r_pow6(q:Q (.int 1000000) H):rI CPow (λi j=>.int (i ^ j.toNat)) (.int 10) (.int 6) H Q:=jho (n:=0) (j:=6) (by decide) (by decide) (by decide) q
theorem r_powM(q:Q (.int 948273388530662767682822077) H):rI CPow (λi j=>.int (i ^ j.toNat)) (.int 982451653) (.int 3) H Q:=jho (n:=0) (j:=3) (by decide) (by decide) (by decide) q
theorem r_eqI(q:Q (.bl (decide (i=j))) H):rEq (.int i) (.int j) H Q:=⟨rfl,by
 rw[show decide (V.int i=V.int j)=decide (i=j)from decide_eq_decide.mpr ⟨λz=>by cases z;rfl,λz=>by rw[z]⟩];exact q⟩
theorem r_neI(q:Q (.bl (!decide (i=j))) H):rNe (.int i) (.int j) H Q:=⟨rfl,by
 rw[show decide (V.int i=V.int j)=decide (i=j)from decide_eq_decide.mpr ⟨λz=>by cases z;rfl,λz=>by rw[z]⟩];exact q⟩
theorem r_eqB{i j:Bool}(q:Q (.bl (decide (i=j))) H):rEq (.bl i) (.bl j) H Q:=⟨rfl,by
 rw[show decide (V.bl i=V.bl j)=decide (i=j)from decide_eq_decide.mpr ⟨λz=>by cases z;rfl,λz=>by rw[z]⟩];exact q⟩
theorem r_eqS{i j:Str}(q:Q (.bl (decide (i=j))) H):rEq (.str i) (.str j) H Q:=⟨rfl,by
 rw[show decide (V.str i=V.str j)=decide (i=j)from decide_eq_decide.mpr ⟨λz=>by cases z;rfl,λz=>by rw[z]⟩];exact q⟩
theorem r_ret(q:te σ H D.rt):tRet te D σ H:=q
theorem r_next(q:D.nx σ H):tNext D σ H:=q
theorem r_drop(q:te σ H λ_ H1=>D.nx σ H1):tDrop te D σ H:=q
theorem r_not{t:TT}(q:t σ H λc H1=>R (!c) H1):tNot t σ H R:=q
theorem jkt(q:te σ H λx H'=>∃k,TruV K x H' k/\R k H'):tTru K te σ H R:=q
theorem r_blT{R:Bool->Prop}(q:R b):∃k,TruV K (.bl b) H k/\R k:=⟨b,rfl,q⟩
theorem jku{R:Bool->Prop}(h:SqL K H p xs)(q:R (!xs.isEmpty)):∃k,TruV K (.ref p) H k/\R k:=⟨_,.inl ⟨xs,h,rfl⟩,q⟩
theorem r_and{t u:TT}(q:t σ H λc H1=>if c=true then u σ H1 R else R false H1):tAnd t u σ H R:=q
theorem r_or{t u:TT}(q:t σ H λc H1=>if c=true then R true H1 else u σ H1 R):tOr t u σ H R:=q
theorem r_andV(q:ta σ H λx H1=>∃c,x=.bl c/\if c=true then tb σ H1 Q else Q (.bl false) H1):tAndV ta tb σ H Q:=q
theorem r_notV(q:ta σ H λx H1=>∃c,x=.bl c/\Q (.bl (!c)) H1):tNotV ta σ H Q:=q
theorem r_ifE{t:TT}(q:t σ H λc H1=>if c=true then ta σ H1 Q else tb σ H1 Q):tIf t ta tb σ H Q:=q
theorem r_un{r:V->Hp->VK->Prop}(q:ta σ H λx H1=>r x H1 Q):tUn r ta σ H Q:=q
theorem r_rU{g:Int->V}(q:Q (g i) H):rU g (.int i) H Q:=⟨i,rfl,q⟩
theorem r_call(q:t σ H λvs H1=>sp (vs++dvs) H1 Q E):jo7 sp dvs E t σ H Q:=q
theorem r_cb{r:List V->Hp->VK->Prop}(q:t σ H λvs H1=>r vs H1 Q):tCB r t σ H Q:=q
theorem r_cons{tr:TA}{R:List V->Hp->Prop}(q:ta σ H λx H1=>tr σ H1 λxs H2=>R (x::xs) H2):tCons ta tr σ H R:=q
theorem r_nil{R:List V->Hp->Prop}(q:R [] H):tNil σ H R:=q
theorem r_meth{C:Addr}{m:Str}(q:ta σ H λx H1=>∃a dx fs,x=.ref a/\H1 a=some (.ins C dx fs)/\fs.lookup m=none/\t σ H1 λvs H2=>sp (x::(vs++dvs)) H2 Q E):tMeth C m sp dvs E ta t σ H Q:=q
theorem r_self{C:Addr}{m:Str}(h:H a=some (.ins C dx fs))(l:fs.lookup m=none)(q:t σ H λvs H2=>sp (.ref a::(vs++dvs)) H2 Q E):
  ∃b dx fs,V.ref a=.ref b/\H b=some (.ins C dx fs)/\fs.lookup m=none/\t σ H λvs H2=>sp (.ref a::(vs++dvs)) H2 Q E:=⟨a,dx,fs,rfl,h,l,q⟩
theorem r_make{C:Addr}{sp:Sp}{dvs:List V}{E:XK} (q:t σ H λvs H1=>∀x dx,H1 x=none->H1 dx=none->dx≠x->
 sp (.ref x::(vs++dvs)) (upd (upd H1 dx (.own x)) x (.ins C dx [])) (λv H2=>v=.non/\Q (.ref x) H2) E):tMake C sp dvs E t σ H Q:=q
def rFld(K:y9)(f:Str):V->Hp->VK->Prop:=λx H Q=>∃a C dx fs v,x=.ref a/\H a=some (.ins C dx fs)/\Cls K C/\NoAttr K C f/\fs.lookup f=some v/\Q v H
theorem r_fldK(q:ta σ H λx H1=>rFld K f x H1 Q):tFld K ta f σ H Q:=q
theorem r_fat{C:Addr}(h:H a=some (.ins C dx fs))(c:Cls K C)(n:NoAttr K C f)(l:fs.lookup f=some v)(q:Q v H):rFld K f (.ref a) H Q:=⟨a,C,dx,fs,v,rfl,h,c,n,l,q⟩
def rSat(K:y9)(f:Str)(y:V):V->Hp->(Hp->Prop)->Prop:=λx H Q=>∃a C dx fs,x=.ref a/\H a=some (.ins C dx fs)/\Cls K C/\NoAttr K C f/\fs.length<1000/\Q (upd H a (.ins C dx (putF f y fs)))
theorem r_sfld{tv:TE}(q:tv σ H λy H1=>ta σ H1 λx H2=>rSat K f y x H2 λH3=>D.nx σ H3):sFld K ta tv f D σ H:=q
theorem jhp{C:Addr}{R:Hp->Prop}(h:H a=some (.ins C dx fs))(c:Cls K C)(n:NoAttr K C f)(l:fs.length<1000)(q:∀H',H' a=some (.ins C dx (putF f y fs))->But a H H'->R H'):rSat K f y (.ref a) H R:=
 ⟨a,C,dx,fs,rfl,h,c,n,l,q _ j07 j26⟩
theorem j7r(h:yb4 (n+1) 1000=true):n<1000:=y2i h
def rNewT(xs:List V)(H:Hp)(Q:VK):Prop:=xs.length<=sizeLine/\∀p,H p=none->Q (.ref p) (upd H p (.tup xs))
def rNewL(xs:List V)(H:Hp)(Q:VK):Prop:=xs.length<=sizeLine/\∀p,H p=none->Q (.ref p) (upd H p (.lst xs))
theorem r_tup(q:t σ H λxs H1=>rNewT xs H1 Q):tTup t σ H Q:=q
theorem r_lst(q:t σ H λxs H1=>rNewL xs H1 Q):tLst t σ H Q:=q
theorem r_newT(c:yb4 xs.length 1000=true)(q:∀p H',H p=none->H' p=some (.tup xs)->Ext H H'->Q (.ref p) H'):rNewT xs H Q:=
 ⟨gj (y2i c) (by rw[xo];decide),λp n=>q p _ n j07 (j0p n)⟩
theorem r_newL(c:yb4 xs.length 1000=true)(q:∀p H',H p=none->H' p=some (.lst xs)->Ext H H'->Q (.ref p) H'):rNewL xs H Q:=
 ⟨gj (y2i c) (by rw[xo];decide),λp n=>q p _ n j07 (j0p n)⟩
theorem jkv(q:∀p H',H p=none->H' p=some (.dK [])->Ext H H'->Q (.ref p) H'):jhh σ H Q:=λp n=>q p _ n j07 (j0p n)
theorem r_for{wi:TI}{g:TG}{tb:TS} (q:wi σ H λJ H1=>∃W:Nat->Nat->St->Hp->Prop,(∃m,W 0 m σ H1)/\∀i m σ H,W i m σ H->
 (J.stop i H/\D.nx σ H)\/(J.go i H/\∃N:St->Hp->Prop,(∀σ' H',N σ' H'->∃m',m'<m/\W (i+1) m' σ' H')/\∀x H',J.yld i H x H'->g x σ H' λσ2 H2=>tb {D with nx:=N,ct:=N,bk:=D.nx} σ2 H2)):tFor wi g tb D σ H:=q
theorem r_rng1{ta:TA}{R:It->Hp->Prop}(q:ta σ H λvs H1=>∃j:Int,vs=[.int j]/\-(2 ^ 62)<=j/\j<2 ^ 62/\R (Itr 0 j.toNat) H1):iRng1 ta σ H R:=q
theorem jkw{tl:TE}{R:It->Hp->Prop}(q:tl σ H λx H1=>∃a,x=.ref a/\(∃xs,SqL K H1 a xs)/\R (Itl K a) H1):iList K tl σ H R:=q
theorem r_itup{tl:TE}{R:It->Hp->Prop}(q:tl σ H λx H1=>∃a,x=.ref a/\(∃xs,SqT K H1 a xs)/\R (Itt K a) H1):iTup K tl σ H R:=q
theorem r_bm{T:String}(q:to σ H λx H1=>tyV K T x H1/\t σ H1 λvs H2=>r x vs H2 Q):tBM K T r to t σ H Q:=q
theorem r_bm0{T:String}(q:to σ H λx H1=>tyV K T x H1/\r x [] H1 Q):tBM0 K T r to σ H Q:=q
theorem r_tyl{R:Prop}(h:H p=some (.lst xs))(q:R):tyV K "list" (.ref p) H/\R:=⟨.inl ⟨rfl,xs,SqL.of h⟩,q⟩
theorem j1q(h:H p=some (.lst xs))(l:xs.length<1000000)(q:∀H',H' p=some (.lst (xs++[y]))->But p H H'->Q .non H'):jg0 (.ref p) [y] H Q:=
 ⟨p,xs,y,rfl,rfl,h,ge l (by rw[xo];decide),q _ j07 j26⟩
theorem jkx(h:H p=some (.lst xs))(q:∀H',H' p=some (.lst [])->But p H H'->Q .non H'):jke (.ref p) [] H Q:=⟨p,xs,rfl,rfl,h,q _ j07 j26⟩
theorem r_gnil{R:St->Hp->Prop}(q:R σ H):gNil [] σ H R:=⟨rfl,q⟩
theorem jky{t:TG}{u:TGs}{r:List V}{R:St->Hp->Prop}(q:t v σ H λσ' H'=>u r σ' H' R):jnm t u (v::r) σ H R:=⟨v,r,rfl,q⟩
theorem jkz{t:TGs}{R:St->Hp->Prop}(h:H a=some (.tup xs))(l:xs.length=n)(q:t xs σ H R):gTup K n t (.ref a) σ H R:=⟨a,xs,rfl,SqT.of h,l,q⟩
theorem r_max(q:Q (.int (max i j)) H):rMax2 [.int i,.int j] H Q:=⟨i,j,rfl,q⟩
theorem r_min(q:Q (.int (min i j)) H):rMin2 [.int i,.int j] H Q:=⟨i,j,rfl,q⟩
theorem r_abs(q:Q (.int (i.natAbs:Int)) H):rAbs [.int i] H Q:=⟨i,rfl,q⟩
theorem r_intB{i:Bool}(q:Q (.int (if i then 1 else 0)) H):rInt1 [.bl i] H Q:=.inr ⟨i,rfl,q⟩
theorem r_isN(q:Q (.bl (decide (x=.non))) H):rIsNo x .non H Q:=⟨rfl,q⟩
theorem r_notN(q:Q (.bl (!decide (x=.non))) H):jkq x .non H Q:=⟨rfl,q⟩
theorem r_isI{k:Kd}(h:HasK H x k)(q:Q (.bl (k == .int||k == .bl)) H):jjp K [x,.ty "int"] H Q:=⟨x,_,_,.inl ⟨_,rfl,jkn k⟩,h.tyOf,q⟩
theorem jjq{k:Kd}(h:HasK H x k)(q:Q (.bl (k == .bl)) H):jjp K [x,.ty "bool"] H Q:=⟨x,_,_,.inl ⟨_,rfl,jhl k⟩,h.tyOf,q⟩
theorem jpb{k:Kd}(h:HasK H x k)(q:Q (.bl (k == .str)) H):jjp K [x,.ty "str"] H Q:=⟨x,_,_,.inl ⟨_,rfl,jko k⟩,h.tyOf,q⟩
theorem r_isT{k:Kd}(h:HasK H x k)(q:Q (.bl (k == .tup)) H):jjp K [x,.ty "tuple"] H Q:=⟨x,_,_,.inl ⟨_,rfl,jea k⟩,h.tyOf,q⟩
theorem jhq{k:Kd}(h:HasK H x k)(q:Q (.bl (k == .lst)) H):jjp K [x,.ty "list"] H Q:=⟨x,_,_,.inl ⟨_,rfl,jhm k⟩,h.tyOf,q⟩
theorem r_lenS(h:SqL K H p xs)(q:Q (.int xs.length) H):rLen K [.ref p] H Q:=⟨_,_,rfl,.inl ⟨xs,h,rfl⟩,q⟩
theorem r_lenL(h:H p=some (.lst xs))(q:Q (.int xs.length) H):rLen K [.ref p] H Q:=⟨_,_,rfl,.inl ⟨xs,SqL.of h,rfl⟩,q⟩
theorem r_lenT(h:H p=some (.tup xs))(q:Q (.int xs.length) H):rLen K [.ref p] H Q:=⟨_,_,rfl,.inr ⟨xs,SqT.of h,rfl⟩,q⟩
theorem r_ixS(h:SqL K H p xs)(e:atI xs i=some v)(q:Q v H):rIx K (.ref p) (.int i) H Q:=.inl ⟨p,xs,i,v,rfl,rfl,h,e,q⟩
theorem j0g(h:H p=some (.lst xs))(e:atI xs i=some v)(q:Q v H):rIx K (.ref p) (.int i) H Q:=.inl ⟨p,xs,i,v,rfl,rfl,SqL.of h,e,q⟩
theorem j4e(h:H p=some (.tup xs))(e:atI xs i=some v)(q:Q v H):rIx K (.ref p) (.int i) H Q:=.inr (.inl ⟨p,xs,i,v,rfl,rfl,SqT.of h,e,q⟩)
theorem j4q{α:Type}{xs:List α}{v:α}(h0:0<=i)(h:xs[i.toNat]?=some v):atI xs i=some v:=by
 have:=atI_nat h
 rwa [Int.toNat_of_nonneg h0]at this
theorem j6b(h:H p=some (.tup xs))(q:∀l H',H l=none->H' l=some (.lst xs)->Ext H H'->Q (.ref l) H'):jop K [.ref p] H Q:=⟨p,xs,rfl,.inr (SqT.of h),λl n=>q l _ n j07 (j0p n)⟩
theorem jbm(h:H p=some (.lst xs))(q:∀l H',H l=none->H' l=some (.lst xs)->Ext H H'->Q (.ref l) H'):jop K [.ref p] H Q:=⟨p,xs,rfl,.inl (SqL.of h),λl n=>q l _ n j07 (j0p n)⟩
theorem j0w(h:H p=some (.lst xs))(q:∀l H',H l=none->H' l=some (.tup xs)->Ext H H'->Q (.ref l) H'):jkp K [.ref p] H Q:=⟨p,xs,rfl,.inl ⟨SqL.of h,λl n=>q l _ n j07 (j0p n)⟩⟩
theorem jpf(h:H p=some (.lst (ns.map V.int)))(q:Q (.int ns.sum) H):rSum K [.ref p] H Q:=⟨p,ns,rfl,SqL.of h,q⟩
end
variable{A B:Prop}
theorem iteD{c:Prop}[Decidable c](h1:c->A)(h2:¬ c->B):if decide c=true then A else B:=by
 by_cases h:c
 ·rw[decide_eq_true h];exact iteT (h1 h)
 ·rw[decide_eq_false h];exact iteF (h2 h)
theorem iteN{c:Prop}[Decidable c](h1:¬ c->A)(h2:c->B):if (!decide c)=true then A else B:=by
 by_cases h:c
 ·rw[decide_eq_true h];exact iteF (h2 h)
 ·rw[decide_eq_false h];exact iteT (h1 h)
theorem mulM{c n:Int}(hb:ib c<=1048577)(n0:0<=n)(n1:n<2147483629):CMulB (c+n) 948273388530662767682822077:=by
 refine .inr (.inr ?_);have h1:ib n<=31:=ycd (by omega);have h2:ib (c+n)<=1048578:=by
  exact gj (PySem.intBits_add_le hb h1) (by decide)
 have h3:ib 948273388530662767682822077<=100:=ycd (by decide);unfold IntMulOk;have h:y7q (y11 (c+n)+y11 948273388530662767682822077)=false:=by
  unfold y7q bitsLine;have h4:y11 (c+n)<=1048578:=h2;have h5:y11 948273388530662767682822077<=100:=h3;exact decide_eq_false (by omega)
 rw[h];simp
abbrev NoX:Value->ye->Prop:=λ_ _=>False
def jaa:List TT->TT
 |[]=>λ_ H Q=>Q true H
 |t::r=>λσ H Q=>t σ H λb H1=>if b=true then jaa r σ H1 Q else Q false H1
def PTs(X:Cx):List Expr->List TT->Prop
 |[],[]=>True
 |e::es,t::ts=>PT X e t/\PTs X es ts
 |_,_=>False
def j2w(env:Env)(ifs:List Expr)(b:Bool):Sem Bool:=forIn ifs b λc r=>if r=true then do let ok <- isTrue c env (eval c env);pure (y12 ok)else pure (y12 r)
theorem j8v{M:Model}{A:gw}{E:Value->ye->Prop}{s:ye}{env:Env}{Q:Bool->ye->Prop}(h:Q false s):∀ifs:List Expr,wpAny M A (j2w env ifs false) Q E s
 |[]=>y8 h
 |c::r=>by
  unfold j2w;rw[y1y];simp only[vi,if_false];exact y0 (y8 (j8v h r))
theorem jbn{X:Cx}{pins:List (Addr×Obj)}{σ:St}{Q:Bool->Hp->Prop}:∀(ifs:List Expr) (ts:List TT) (s:ye) (H:Hp),PTs X ifs ts->Inv X pins σ H s->jaa ts σ H Q->wpAny (model X.prog X.w) X.A (j2w X.env ifs true) (TP X pins σ Q) X.xe s
 |[],[],s,H,_,I,h=>y8 ⟨H,I,h⟩
 |[],_::_,_,_,p,_,_=>p.elim
 |_::_,[],_,_,p,_,_=>p.elim
 |c::r,t::ts,s,H,p,I,h=>by
  unfold j2w;rw[y1y];simp only[if_true];refine y0 (y0 (thn (p.1 pins s σ H _ I h) λb s1 ⟨H1,I1,q1⟩=>y8 ?_));cases b with
  |true=>exact jbn r ts s1 H1 p.2 I1 (by simpa using q1)
  |false=>exact j8v ⟨H1,I1,by simpa using q1⟩ r
section
variable{prog:yy}{w:World}{A:gw}{R:yb6->ye->Prop}
theorem jeb{elt tg iter:Expr}{ifs:List Expr}{scope:Scope}{pos:Pos}{it acc:Value}{env:Env}(J:Nat->ye->Prop)
  (turn:∀n s,J n s->wpAny (model prog w) A (pyNext it) (λr s1=>match r with
   |none=>R (.ok .next) s1
   |some v=>wpAny (model prog w) A (letOwnedTupleGo tg it v) (λ_ s2=>wpAny (model prog w) A (assign tg env v) (λ_ s3=>wpAny (model prog w) A (j2w env ifs true) (λok s4=>
     if ok=true then wpAny (model prog w) A (eval elt env) (λx s5=>wpAny (model prog w) A (call (.builtin "list.append") [acc,x]) (λ_ s6=>∃m,m<n/\J m s6) NoX s5) NoX s4
     else ∃m,m<n/\J m s4) NoX s3) NoX s2) NoX s1) NoX s) (n:Nat) {s:ye} (h:J n s):
  codeAny (model prog w) A (.compLoop (.ListComp elt [⟨tg,iter,ifs,0⟩] scope pos) 0 it acc env) R s:=by
 refine codeAny_loop rfl J (λn s hJ=>?_) n h;show wpAny _ A ((compTurn (.ListComp elt [⟨tg,iter,ifs,0⟩] scope pos) 0 it acc env).onRaise _) _ _ s;refine wpAny_noted ?_;have nx:∀{E:Value->ye->Prop} (e:Value) (s:ye),NoX e s->E e s:=λ_ _ f=>f.elim;rw[compTurn_list];refine y0 (y9q (y0 (y10 (turn n s hJ) (λr s1 q1=>?_) nx)));cases r with
 |none=>exact y8 q1
 |some v=>
  refine y0 (y10 q1 (λ_ s2 q2=>?_) nx);refine y0 (y10 q2 (λ_ s3 q3=>?_) nx);refine y0 (y10 (show wpAny _ _ (j2w env ifs true) _ _ _ from q3) (λok s4 q4=>?_) nx);cases ok with
  |false=>exact y8 ⟨rfl,q4⟩
  |true=>
   refine y0 (y0 (y10 q4 (λx s5 q5=>?_) nx));exact y0 (y10 q5 (λ_ s6 q6=>y8 (y8 ⟨rfl,q6⟩)) nx)
end
def j3g(cells:List (Str×Addr)):List (Str×y5y)->List (Str×Addr)->Option (List (Str×Addr))
 |[],cs=>some cs
 |(n,k)::r,cs=>if (k == .free)=true then(match cells.lookup n with|some a=>j3g cells r ((n,a)::cs)|none=>none)else j3g cells r cs
theorem j7s{env:Env}:∀(names:List (Str×y5y)) (cs cl:List (Str×Addr)),j3g env.cells names cs=some cl->
  (forIn names cs λx r=>match x with|(name,kind)=>if (kind == .free)=true then do let a <- cellOf env name;pure (y12 ((name,a)::r))else pure (y12 r):Sem (List (Str×Addr)))=pure cl
 |[],cs,cl,h=>by
  cases h;rfl
 |(n,k)::r,cs,cl,h=>by
  rw[y1y];unfold j3g at h;by_cases hk:(k==y70)=true
  ·rw[if_pos hk]at h;dsimp only;rw[if_pos hk];unfold cellOf;cases e:env.cells.lookup n with
   |none=>rw[e]at h;cases h
   |some a=>
    rw[e]at h;exact j7s r _ cl h
  ·rw[if_neg hk]at h;dsimp only;rw[if_neg hk];exact j7s r cs cl h
theorem j35{scope:Scope}{env:Env}{cl:List (Str×Addr)}(h:j3g env.cells scope.names []=some cl):closureFor scope env=pure cl:=by
 have e:closureFor scope env=((forIn scope.names ([]:List (Str×Addr)) λx r=>match x with|(name,kind)=>if (kind == .free)=true then do let a <- cellOf env name;pure (y12 ((name,a)::r))else pure (y12 r):Sem (List (Str×Addr))) >>= λcs=>pure cs):=by
  first|rfl|(unfold closureFor;rfl)
 rw[e,j7s _ _ _ h];rfl
theorem j57{cells:List (Str×Addr)}:∀(names:List (Str×y5y)) (cs cl:List (Str×Addr)),j3g cells names cs=some cl->(∀x c,cs.lookup x=some c->cells.lookup x=some c)->∀x c,cl.lookup x=some c->cells.lookup x=some c
 |[],cs,cl,h,p=>by cases h;exact p
 |(n,k)::r,cs,cl,h,p=>by
  unfold j3g at h;split at h
  ·split at h
   ·rename_i a e;refine j57 r _ cl h λx c q=>?_;rw[y7d]at q;by_cases hx:(x==n)=true
    ·rw[hx]at q;have:x=n:=(by simpa using hx);subst this;cases q;exact e
    ·have hx':(x==n)=false:=(by simpa using hx);rw[hx']at q;exact p x c q
   ·cases h
  ·exact j57 r cs cl h p
theorem j58{cells:List (Str×Addr)}:∀(names:List (Str×y5y)) (cs cl:List (Str×Addr)),j3g cells names cs=some cl->∀x,((∃c,cs.lookup x=some c)\/(x,y70)∈names)->∃c,cl.lookup x=some c
 |[],cs,cl,h,x,p=>by
  cases h;rcases p with p|p
  ·exact p
  ·simp at p
 |(n,k)::r,cs,cl,h,x,p=>by
  unfold j3g at h;split at h
  ·split at h
   ·rename_i a e;refine j58 r _ cl h x ?_;by_cases hx:x=n
    ·exact .inl ⟨a,by rw[y7d,hx];simp⟩
    ·have hx':(x==n)=false:=(by simpa using hx);rcases p with⟨c,p⟩|p
     ·exact .inl ⟨c,by rw[y7d,hx'];exact p⟩
     ·rcases xf.mp p with q|q
      ·cases q;exact absurd rfl hx
      ·exact .inr q
   ·cases h
  ·rename_i hk;refine j58 r _ cl h x ?_;rcases p with p|p
   ·exact .inl p
   ·rcases xf.mp p with q|q
    ·cases q;exact absurd rfl hk
    ·exact .inr q
theorem j4r{scope:Scope}{env:Env}(hc:∀y∈scope.names,y.2≠.cell){x:Str}(h:(relabel scope env).names.lookup x=some .cell\/(relabel scope env).names.lookup x=some .free):(x,y70)∈scope.names:=by
 have key:∀k,(k=.cell\/k=.free)->(relabel scope env).names.lookup x=some k->(x,y70)∈scope.names:=λk hk e=>by
  have m:=y1b e;obtain⟨⟨n,k'⟩,hm,e2⟩:=yk.mp m;dsimp only at e2;split at e2
  ·rename_i q;cases e2;have:k'=.free:=by
    have:=(y2w.mp (y2w.mp q).1).1;simpa using this
   subst this;exact hm
  ·cases e2;rcases hk with rfl|rfl
   ·exact absurd rfl (hc _ hm)
   ·exact hm
 exact h.elim (key _ (.inl rfl)) (key _ (.inr rfl))
def j1r(X:Cx)(pins:List (Addr×Obj))(N:List Str)(scope:Scope)(cl:List (Str×Addr))(fp:List Addr)(s:ye)(H:Hp):Cx where
 prog:=X.prog
 w:=X.w
 K:=X.K
 mg:=X.mg
 base:=X.base
 A:=X.A
 N:=N
 s₀:=s
 H₀:=H
 env:=compEnvC scope cl s.heap.objs.size X.env
 outer:=X.stack
 stack:=X.stack
 ex:=fp
 fn:=λ_=>false
 calm:=X.calm
 pn:=X.pn++pins
 xe:=NoX
def Frees(X:Cx)(sc:Scope):List Str->List Nat->Prop
 |[],[]=>True
 |y::ys,j::js=>(X.N[j]?=some y/\(X.env.kindOf y=some .cell\/X.env.kindOf y=some .free)/\(sc.names.lookup y=some .cell\/sc.names.lookup y=some .free))/\Frees X sc ys js
 |_,_=>False
theorem Frees.get{X:Cx}{sc:Scope}:∀{ys:List Str}{js:List Nat}{i:Nat}{y:Str},Frees X sc ys js->ys[i]?=some y->∃j,js[i]?=some j/\X.N[j]?=some y/\(X.env.kindOf y=some .cell\/X.env.kindOf y=some .free)/\(sc.names.lookup y=some .cell\/sc.names.lookup y=some .free)
 |[],_,_,_,_,e=>by simp at e
 |_::_,[],_,_,h,_=>h.elim
 |y::ys,j::js,0,z,h,e=>by
  simp at e;subst e;exact⟨j,rfl,h.1⟩
 |y::ys,j::js,i+1,z,h,e=>Frees.get (ys:=ys) (js:=js) (i:=i) h.2 (by simpa using e)
theorem Frees.len{X:Cx}{sc:Scope}:∀{ys:List Str}{js:List Nat},Frees X sc ys js->ys.length=js.length
 |[],[],_=>rfl
 |[],_::_,h=>h.elim
 |_::_,[],h=>h.elim
 |_::ys,_::js,h=>by rw[yl,yl,Frees.len h.2]
def jhr(σ:St)(j:Nat):Option V:=match σ[j]? with|some o=>o|none=>none
def cSt(own:List Str)(js:List Nat)(σ:St):St:=own.map (λ_=>none)++js.map (jhr σ)
section
variable{X:Cx}{pins:List (Addr×Obj)}{σ:St}{H:Hp}{s:ye}
theorem jbo{own fr:List Str}{js:List Nat}{scope:Scope}{cl:List (Str×Addr)}{fp:List Addr}{h':Heap}{tk:Nat}(I:Inv X pins σ H s)(hkind:scope.kind=.function)(hc:∀y∈scope.names,y.2≠.cell)
  (hcl:j3g X.env.cells scope.names []=some cl) (hF:Frees X (relabel scope X.env) fr js) (hfp:∀b∈fp,FpOk X pins H b) (hlt:∀b∈fp,b<s.heap.objs.size)
  (hn:h'.Ns s.heap.objs.size (λ_=>none)) (hk:∀b o,s.heap.get? b=some o->h'.get? b=some o):
  Inv (j1r X pins (own++fr) scope cl fp s H) [] (cSt own js σ) H {s with heap:=h',toks:=tk}:=by
 have sub:=j57 _ _ _ hcl (λ_ _ q=>by simp at q);have clt:∀x c,X.env.cells.lookup x=some c->c<s.heap.objs.size:=λx c e=>by obtain⟨v,q⟩:=I.cell x c e;exact q.lt
 refine⟨⟨I.ok.mod,hkind,I.ok.glob,I.ok.blt,yg _,λx y c e1 e2=>I.ok.inj x y c (sub _ _ e1) (sub _ _ e2),λx hx=>?_,(λx c q=>y79 (show false=true from q)),I.ok.hd,I.ok.frames,.inl rfl,λb hb=>⟨xt (hlt b hb),λx c e=>(hfp b hb).2.2.2.2.1 x c (sub x c e)⟩,
  I.bs,gj I.ok.bsz I.sz,λb o e hb=>?_,λb hb hq=>?_,I.stack,I.stkFree⟩,rfl,I.bare,Un.kept hk,⟨_,hn,λi x v e1 e2 e3=>?_⟩,λx c e=>?_,I.hok.fresh (yg _),λx c e=>I.freeC x c (sub x c e),λp hp=>?_,I.hok.kept hk,?_⟩
 ·exact j58 _ _ _ hcl x (.inr (j4r hc hx))
 ·rcases(hfp b hb).2.2.2.1 with q|q
  ·exact I.ok.noex b o e q
  ·exact absurd (yt (I.ok.bs b o e).1) (ye7.mpr q)
 ·have:=I.stkSub b hq;rcases xf.mp this with z|z
  ·exact(hfp b hb).2.1 z
  ·exact(hfp b hb).2.2.1 z
 ·have hi:own.length<=i:=by
   refine yaq λq=>?_;unfold cSt at e2;rw[yv (by simpa using q),xc]at e2;cases z:own[i]? with
   |none=>rw[z]at e2;cases e2
   |some y=>rw[z]at e2;cases e2
  have e1':fr[i-own.length]?=some x:=by
   have:(own++fr)[i]?=some x:=e1
   rwa [yp hi]at this
  obtain⟨j,hj,nj,kj,lj⟩:=hF.get e1';have e2':jhr σ j=some v:=by
   unfold cSt at e2;rw[yp (by simpa using hi),y3,xc,hj]at e2;exact gf e2
  have e4:σ[j]?=some (some v):=by
   unfold jhr at e2';split at e2'
   ·rename_i o q;rw[q,e2']
   ·cases e2'
  obtain⟨m,hm,hl⟩:=I.loc;obtain⟨u,ru,lk⟩:=hl j x v nj e4 (kj.elim (λq=>.inr (.inl q)) λq=>.inr (.inr q));refine⟨u,ru,.inr ⟨lj,?_⟩⟩;rcases lk with⟨q,_⟩|⟨_,c,ec,ic⟩
  ·rcases kj with k|k<;>(rw[q]at k;cases k)
  ·obtain⟨c',ec'⟩:=j58 _ _ _ hcl x (.inr (j4r hc lj));have:=sub _ _ ec';rw[ec]at this;cases this;exact⟨c,ec',ic.keeps hk⟩
 ·obtain⟨v,q⟩:=I.cell x c (sub x c e);exact⟨v,q.keeps hk⟩
 ·have hp':p∈X.pn++pins:=by
   rcases x0.mp hp with q|q
   ·exact q
   ·simp at q
  obtain⟨q1,q2,q3,q4,q5⟩:=I.pin p hp';refine⟨hk _ _ q1,q2,xt (yt q1),λz=>?_,q5⟩;rcases xf.mp (I.stkSub _ z)with y|y
  ·exact q3 y
  ·exact q4 y
 ·show(cSt own js σ).length=(own++fr).length;unfold cSt;rw[xa,xa,y3,y3,hF.len]
theorem jec{N:List Str}{scope:Scope}{cl:List (Str×Addr)}{fp:List Addr}{σ':St}{H':Hp}{s':ye}{ps:List (Addr×Obj)}(I:Inv X pins σ H s)(hfp:∀b∈fp,FpOk X pins H b)
  (J:Inv (j1r X pins N scope cl fp s H) ps σ' H' s'):Inv X pins σ H' s':=by
 refine I.call' (ch:=fp) J.os J.base J.hok J.bare λb hb=>?_;obtain⟨_,f1,_,f3,f4,f5⟩:=hfp b hb;exact⟨f3,f1,f4,f5⟩
end
def accO(a:Addr)(ys:List V):HO:=.ext λh=>ys.length<=sizeLine/\∃(its:List Value) (n:Nat),Vals ys its/\h.get? a=some {cls:=.type "list",data:=.seq its.toArray n}
variable{H:Hp}{h:Heap}{ys:List V}
theorem jl0{P:yy}{w:World}(o:ObjOk P w H h a (.lst ys)):ObjOk P w H h a (accO a ys):=by
 obtain⟨z,its,n,r,e⟩:=o;exact⟨⟨z,its,n,r,e⟩,⟨_,e⟩,λh1 h2 ⟨z,its,n,r,e⟩ k=>⟨z,its,n,r,k _ e⟩⟩
theorem jl1{P:yy}{w:World}(o:ObjOk P w H h a (accO a ys)):ObjOk P w H h a (.lst ys):=by
 obtain⟨⟨z,its,n,r,e⟩,_⟩:=o;exact⟨z,its,n,r,e⟩
def jl2:HO->Bool
 | .lst _=>true | .ext _=>true|_=>false
variable{X:Cx}{pins:List (Addr×Obj)}{σ:St}{s:ye}
theorem Inv.retrack{o o':HO}(I:Inv X pins σ H s)(h:H a=some o)(hp:jl2 o=true)(new:∀H',ObjOk X.prog X.w H' s.heap a o'):Inv X pins σ (upd H a o') s:=by
 have ne:∀{b:Addr}{u:HO},H b=some u->jl2 u=false->b≠a:=λhb hu z=>by subst z;rw[h]at hb;cases hb;rw[hp]at hu;cases hu
 have I':=I.un (h':=s.heap) (t':=s.toks) (H':=upd H a o') ⟨λ_ _ e _ _ _=>e,λb u e _ _ _=>⟨u.slots,e⟩,λb u _ n _=>by rw[j0i (λz=>by subst z;rw[h]at n;cases n)];exact n,λb u e _=>⟨u,e⟩,
  λb xs e=>by rw[j0i (ne e rfl)];exact e,λb ob u e=>by rw[j0i (ne e rfl)];exact e,λb ps e=>⟨#[],by rw[j0i (ne e rfl),e];simp⟩⟩ (λb u e=>by
   by_cases hb:b=a
   ·subst hb;rw[j07]at e;cases e;exact new _
   ·rw[j0i hb]at e;exact(I.hok b u e).stay (λ_ _ _ q=>q) (λc q=>by rw[j0i (ne q rfl)];exact q) λc xs q=>by rw[j0i (ne q rfl)];exact q)
 exact I'
theorem jl3{o o':HO}(h:H a=some o)(hd:jkl o=false):Kp H (upd H a o'):=λb u e d=>by
 rw[j0i (λz=>by subst z;rw[h]at e;cases e;rw[hd]at d;cases d)];exact e
def j8w(J:It)(g:TG)(ts:List TT)(te:TE)(acc:Addr)(σ0:St)(H0:Hp)(Q:Hp->Prop):Prop:=
 ∃W:Nat->Nat->St->List V->Hp->Prop,(∃m,W 0 m σ0 [] (upd H0 acc (accO acc [])))/\∀i m σ ys H,W i m σ ys H->H acc=some (accO acc ys)->
  (J.stop i H/\Q (upd H acc (.lst ys)))\/(J.go i H/\∀x H',J.yld i H x H'->g x σ H' λσ2 H2=>jaa ts σ2 H2 λb H3=>
   if b=true then te σ2 H3 λy H4=>H4 acc=some (accO acc ys)/\ys.length<sizeLine/\∃m',m'<m/\W (i+1) m' σ2 (ys++[y]) (upd H4 acc (accO acc (ys++[y])))
   else H3 acc=some (accO acc ys)/\∃m',m'<m/\W (i+1) m' σ2 ys H3)
abbrev CA(α:Type):=List (Addr×Obj)->List Addr->ye->Hp->α
def jpg(wi:TI)(own:List Str)(js:List Nat)(g:CA TG)(ts:CA (List TT))(te:CA TE):TE:=λσ H Q=>wi σ H λJ H1=>∀acc,H1 acc=none->∀pins fp s Hc,j8w J (g pins fp s Hc) (ts pins fp s Hc) (te pins fp s Hc) acc (cSt own js σ) H1 λH'=>Q (.ref acc) H'
structure CompOk(X:Cx)(scope:Scope)(cl:List (Str×Addr))(own fr:List Str)(js:List Nat):Prop where
 kind:scope.kind=.function
 nc:∀y∈scope.names,y.2≠.cell
 nl:∀y∈scope.names,y.2=.local->scope.names.lookup y.1=some .local
 clos:j3g X.env.cells scope.names []=some cl
 frees:Frees X (relabel scope X.env) fr js
section
variable{X:Cx}{pins:List (Addr×Obj)}{σ:St}{H:Hp}{s:ye}
theorem j8x{elt tg iter:Expr}{ifs:List Expr}{scope:Scope}{pos:Pos}{cl:List (Str×Addr)}{own fr:List Str}{js:List Nat}{g:CA TG}{ts:CA (List TT)}{te:CA TE}{R:Hp->Addr->Prop}{RR:Value->Addr->yb6->ye->Prop}{it:Addr}{fp:List Addr}{tn:Nat->Heap->Prop}{J:It}{E:Value->ye->Prop}
  (O:CompOk X scope cl own fr js) (hcalm:X.calm=true)
  (hb:∀pins fp s Hc,PG (j1r X pins (own++fr) scope cl fp s Hc) tg (g pins fp s Hc)/\PTs (j1r X pins (own++fr) scope cl fp s Hc) ifs (ts pins fp s Hc)/\PE (j1r X pins (own++fr) scope cl fp s Hc) elt (te pins fp s Hc))
  (I:Inv X pins σ H s) (T:Turn X.prog X.w X.K tg J fp it tn) (t0:tn 0 s.heap) (hf:∀b∈fp,FpOk X pins H b)
  (h:∀acc,H acc=none->∀pins fp s Hc,j8w J (g pins fp s Hc) (ts pins fp s Hc) (te pins fp s Hc) acc (cSt own js σ) H λH'=>R H' acc)
  (fin:∀acc C H' s' m,Inv X pins σ H' s'->R H' acc->s'.heap.Ns C m->FpOk X pins H' C->RR (.ref acc) C (.ok .next) s'):
  wpAny (model X.prog X.w) X.A (newList []) (λacc s3=>wpAny (model X.prog X.w) X.A (newFunctionEnv scope X.env.globals cl [] X.env.qual none .none (some X.env)) (λcenv s4=>
   codeAny (model X.prog X.w) X.A (.compStart (.ListComp elt [⟨tg,iter,ifs,0⟩] scope pos) 0 (.ref it) acc {cenv with scope:=relabel scope X.env}) (RR acc cenv.locals) s4) E s3) E s:=by
 have n0:H s.heap.objs.size=none:=I.hok.fresh (yg _);have flt:∀b∈fp,b<s.heap.objs.size:=λb hb=>by obtain⟨o,e,_⟩:=T.obj 0 _ t0 b hb;exact yt e
 refine y1o ?_;have I3:Inv X pins σ (upd H s.heap.objs.size (accO s.heap.objs.size [])) {s with heap:=s.heap.push {cls:=.type "list",data:=.seq ([]:List Value).toArray} }:=
  I.laid (t':=s.toks) (λb o e=>yc _ e) (yg _) (jl0 (show ObjOk X.prog X.w _ _ _ (.lst [])from⟨gm _,[],0,.nil,yi _ rfl⟩))
 have hf3:∀b∈fp,FpOk X pins (upd H s.heap.objs.size (accO s.heap.objs.size [])) b:=λb hb=>⟨by rw[j0i (xt (flt b hb))];exact(hf b hb).1,(hf b hb).2⟩
 have t3:tn 0 (s.heap.push {cls:=.type "list",data:=.seq ([]:List Value).toArray}):=T.keep _ _ _ t0 λb _ o e=>yc _ e;specialize h s.heap.objs.size n0;generalize hs3:({s with heap:=s.heap.push {cls:=.type "list",data:=.seq ([]:List Value).toArray} }:ye)=s3 at I3 ⊢;have t3':tn 0 s3.heap:=by rw[<- hs3];exact t3
 have lt3:∀b∈fp,b<s3.heap.objs.size:=λb hb=>by rw[<- hs3];exact ge (flt b hb) (by rw[vf];exact y0l _)
 generalize hH3:upd H s.heap.objs.size (accO s.heap.objs.size [])=H3 at I3 hf3;generalize hacc:s.heap.objs.size=acc at *;refine wpAny_newFunctionEnv O.nc (by intro x hx;simp at hx) (λh1 hns hsb=>?_) O.kind;have hk:∀b o,s3.heap.get? b=some o->h1.get? b=some o:=λb o e=>(hsb.2 b (xt (yt e))).trans (yc _ e);have Ic:Inv (j1r X pins (own++fr) scope cl fp s3 H3) [] (cSt own js σ) H3 {s3 with heap:=h1,toks:=s3.toks+0}:=jbo I3 O.kind O.nc O.clos O.frees hf3 lt3 hns hk;obtain⟨W,⟨m0,w0⟩,turn⟩:=h pins fp s3 H3;obtain⟨hg,ht,he⟩:=hb pins fp s3 H3;have stat:∀{H':Hp}{ps:List (Addr×Obj)},ps=[]->(∀b∈fp,H' b=none)->∀b∈fp,FpOk (j1r X pins (own++fr) scope cl fp s3 H3) ps H' b:=λ{H' ps} hps hn b hb=>by
  obtain⟨f0,f1,f2,f3,f4,f5⟩:=hf3 b hb;refine⟨hn b hb,xt (lt3 b hb),λz=>?_,.inl hb,λx c e=>f4 x c (j57 _ _ _ O.clos (λ_ _ q=>by simp at q) x c e),λp hp=>?_⟩
  ·rcases xf.mp (I3.stkSub b z)with q|q
   ·exact f1 q
   ·exact f2 q
  ·subst hps;rcases x0.mp hp with q|q
   ·exact f5 p q
   ·simp at q
 have loop:∀{sx:ye},Inv (j1r X pins (own++fr) scope cl fp s3 H3) [] (cSt own js σ) H3 sx->tn 0 sx.heap->
   codeAny (model X.prog X.w) X.A (.compLoop (.ListComp elt [⟨tg,iter,ifs,0⟩] scope pos) 0 (.ref it) (.ref acc) (compEnvC scope cl s3.heap.objs.size X.env)) (RR (.ref acc) s3.heap.objs.size) sx:=λ{sx} Jx tx=>by
  refine jeb (λn s'=>∃i σc ys H',Inv (j1r X pins (own++fr) scope cl fp s3 H3) [] σc H' s'/\tn i s'.heap/\(∀b∈fp,H' b=none)/\H' acc=some (accO acc ys)/\W i n σc ys H') ?_ m0 ⟨0,_,[],H3,Jx,tx,λb hb=>(hf3 b hb).1,by rw[<- hH3];exact j07,by rw[<- hH3];exact w0⟩;rintro n s4 ⟨i,σ4,ys,H4,I4,t4,fr4,a4,w4⟩;rcases turn i n σ4 ys H4 w4 a4 with⟨stop,qn⟩|⟨go,step⟩
  ·refine thn (T.done (j1r X pins (own++fr) scope cl fp s3 H3) rfl rfl rfl hcalm i [] s4 σ4 H4 NoX I4 (stat rfl fr4) t4 stop) λr s5 ⟨hr,I5⟩=>?_;subst hr;obtain⟨m,hm,_⟩:=id I5.loc;have IX:=jec I3 hf3 I5;have IL:=IX.retrack (o':=.lst ys) a4 rfl λH'=>jl1 (H:=H') (by obtain⟨p1,p2,p3⟩:=IX.hok acc _ a4;exact⟨p1,p2,p3⟩);refine fin acc s3.heap.objs.size _ s5 m IL qn hm (I3.fpOk (yg _) ?_);have c4:H4 s3.heap.objs.size=none:=I5.free;rw[j0i (λz=>by rw[z,a4]at c4;cases c4)];exact c4
  ·refine thn (T.item (j1r X pins (own++fr) scope cl fp s3 H3) rfl rfl rfl hcalm i [] s4 σ4 H4 NoX I4 (stat rfl fr4) t4 go) λr s5 ⟨u,hr,q5⟩=>?_;subst hr;refine thn q5 λ_ s6 ⟨x,H6,I6,r6,y6,t6,fr6⟩=>?_;have I6':=I6.pinned (stat rfl fr6) (T.obj _ _ t6);refine thn (hg _ s6 σ4 H6 x u _ I6' r6 (step x H6 y6)) λ_ s7 ⟨σ7,H7,I7,q7⟩=>?_;refine thn (jbn ifs _ s7 H7 ht I7 q7) λok s8 ⟨H8,I8,q8⟩=>?_;have again:∀{σ9:St}{H9:Hp}{s9:ye}{zs:List V}{m:Nat},Inv (j1r X pins (own++fr) scope cl fp s3 H3) ([]++jay fp s6.heap) σ9 H9 s9->H9 acc=some (accO acc zs)->m<n->W (i+1) m σ9 zs H9->
     ∃m,m<n/\∃i σc ys H',Inv (j1r X pins (own++fr) scope cl fp s3 H3) [] σc H' s9/\tn i s9.heap/\(∀b∈fp,H' b=none)/\H' acc=some (accO acc ys)/\W i m σc ys H':=λ{σ9 H9 s9 zs m} I9 a9 hm w9=>by
    refine⟨m,hm,i+1,σ9,zs,H9,I9.unpinned,T.keep _ _ _ t6 λb hb o e=>(I9.pin (b,o) (yz _ (yz _ (j2i hb e)))).1,λb hb=>?_,a9,w9⟩;obtain⟨o,e,d⟩:=T.obj _ _ t6 b hb;exact(I9.pin (b,o) (yz _ (yz _ (j2i hb e)))).2.1
   cases ok with
   |false=>
    obtain⟨a8,m',hm,w8⟩:=(show H8 acc=some (accO acc ys)/\∃m',m'<n/\W (i+1) m' σ7 ys H8 by simpa using q8)
    exact again I8 a8 hm w8
   |true=>
    have q8':te pins fp s3 H3 σ7 H8 λy H4=>H4 acc=some (accO acc ys)/\ys.length<sizeLine/\∃m',m'<n/\W (i+1) m' σ7 (ys++[y]) (upd H4 acc (accO acc (ys++[y]))):=(by simpa using q8);refine thn (he _ s8 σ7 H8 _ I8 q8') λv s9 ⟨y,H9,I9,r9,a9,hl,m',hm,w9⟩=>?_;have IL:=I9.retrack (o':=.lst ys) a9 rfl λH'=>jl1 (H:=H') (by obtain⟨p1,p2,p3⟩:=I9.hok acc _ a9;exact⟨p1,p2,p3⟩);refine thn (j1e _ s9 σ7 _ (.ref acc) [y] (.ref acc) [v] (λ_ H'=>H'=upd H9 acc (.lst (ys++[y]))) IL rfl (.cons r9 .nil) ⟨acc,ys,y,rfl,rfl,j07,hl,by rw[jfs]⟩) λ_ s10 ⟨_,H10,I10,_,e10⟩=>?_;subst e10;have I11:=I10.retrack (o':=accO acc (ys++[y])) j07 rfl λH'=>jl0 (H:=H') (by obtain⟨p1,p2,p3⟩:=I10.hok acc _ j07;exact⟨p1,p2,p3⟩);rw[jfs]at I11;exact again I11 j07 hm w9
 exact codeAny_compStart_list (loop Ic (T.keep _ _ _ t3' λb _ o e=>hk b o e)) (T.self _ 0 _ _ _ (T.keep _ _ _ t3' λb _ o e=>hk b o e) (loop Ic (T.keep _ _ _ t3' λb _ o e=>hk b o e)))
theorem j15{elt tg iter:Expr}{ifs:List Expr}{scope:Scope}{pos:Pos}{cl:List (Str×Addr)}(own fr:List Str)(js:List Nat){wi:TI}{g:CA TG}{ts:CA (List TT)}{te:CA TE}
  (hcalm:X.calm=true) (O:CompOk X scope cl own fr js) (hi:PI X tg iter wi)
  (hb:∀pins fp s Hc,PG (j1r X pins (own++fr) scope cl fp s Hc) tg (g pins fp s Hc)/\PTs (j1r X pins (own++fr) scope cl fp s Hc) ifs (ts pins fp s Hc)/\PE (j1r X pins (own++fr) scope cl fp s Hc) elt (te pins fp s Hc))
  (hs:∀x,foldedSetIterable iter X.env x=pure x:=by intro _;rfl):
  PE X (.ListComp elt [⟨tg,iter,ifs,0⟩] scope pos) (jpg wi own js g ts te):=by
 intro pins s σ H Q I h;rw[eval_ListComp];refine y6p (use:=none) rfl hs (j35 O.clos) O.kind O.nl (thn (hi pins s σ H _ I h) λxv s1 q1=>thn q1 λitv s2 q2=>?_);obtain⟨it,fp,tn,J,H2,rfl,I2,T,t2,f2,q⟩:=q2;refine j8x (RR:=λacc C=>compPost (model X.prog X.w) X.A X.xe none (EP X pins σ Q) acc C) O hcalm hb I2 T t2 f2 q λacc C H' s' m I' r' hm hC=>⟨m,hm,λh' sb=>?_⟩
 obtain⟨f0,f1,f2,f3,f4,f5⟩:=hC;exact⟨.ref acc,H',I'.turned (t':=s'.toks) (λb o hb e=>(sb.2 b hb).trans e) f0 f1 f3 f4 f5,rfl,r'⟩
theorem j19{i:Nat}{x:Str}{elt tg iter:Expr}{ifs:List Expr}{scope:Scope}{pos pos' spos:Pos}{cl:List (Str×Addr)}(own fr:List Str)(js:List Nat){wi:TI}{g:CA TG}{ts:CA (List TT)}{te:CA TE}
  (hN:X.N.Nodup) (hix:X.N[i]?=some x) (hx:Loc X.env.scope x) (hcalm:X.calm=true) (O:CompOk X scope cl own fr js) (hi:PI X tg iter wi)
  (hb:∀pins fp s Hc,PG (j1r X pins (own++fr) scope cl fp s Hc) tg (g pins fp s Hc)/\PTs (j1r X pins (own++fr) scope cl fp s Hc) ifs (ts pins fp s Hc)/\PE (j1r X pins (own++fr) scope cl fp s Hc) elt (te pins fp s Hc))
  (hsw:swapsWith (.ListComp elt [⟨tg,iter,ifs,0⟩] scope pos) (some (.Name x pos')) spos.line X.env=pure true:=by rfl)
  (hs:∀x,foldedSetIterable iter X.env x=pure x:=by intro _;rfl) (hf:X.fn x=true\/X.env.scope.names.lookup x=some .local:=by first|exact .inl rfl|exact .inr rfl|assumption):
  PS X (.Assign [.Name x pos'] (.ListComp elt [⟨tg,iter,ifs,0⟩] scope pos) spos) (tAsg (jpg wi own js g ts te) (j8k i)):=by
 intro pins s σ H D I h;rw[exec_Assign_Name_used _ _ _ _ hsw];refine y0 (y9q (y0 ?_));show wpAny _ _ (comprehension (.ListComp elt [⟨tg,iter,ifs,0⟩] scope pos) scope X.env (firstIterPos [⟨tg,iter,ifs,0⟩] pos) (newList []) false (eval iter X.env) (some (assign (.Name x pos') X.env)) >>= _) _ _ _;refine y0 ?_;have h':wi σ H λJ H1=>∀acc,H1 acc=none->∀pins fp s Hc,j8w J (g pins fp s Hc) (ts pins fp s Hc) (te pins fp s Hc) acc (cSt own js σ) H1 λH'=>D.nx (σ.set i (some (.ref acc))) H':=h;refine y6p (use:=some (assign (.Name x pos') X.env)) rfl hs (j35 O.clos) O.kind O.nl (thn (hi pins s σ H _ I h') λxv s1 q1=>thn q1 λitv s2 q2=>?_);obtain⟨it,fp,tn,J,H2,rfl,I2,T,t2,f2,q⟩:=q2;refine j8x (RR:=λacc C=>compPost (model X.prog X.w) X.A X.xe (some (assign (.Name x pos') X.env)) _ acc C) O hcalm hb I2 T t2 f2 q λacc C H' s' m I' r' hm hC=>?_;obtain⟨f0,f1,f2,f3,f4,f5⟩:=hC;obtain⟨oc,es,ep,ho,hd,hr⟩:=id hm;have IP:Inv X (pins++[(C,oc)]) σ H' s':=I'.pins_of λp hp=>by
  rcases x0.mp hp with q|q
  ·exact I'.pin p (yz _ q)
  ·obtain rfl:p=(C,oc):=by simpa using q
   exact⟨ho,f0,f1,f2,λv z=>by rw[hd]at z;cases z⟩
 refine ya8 (j7i IP hN hix hx (v:=.ref acc) (u:=.ref acc) rfl (λs'' I''=>?_) hf);have hC'':=(I''.pin (C,oc) (yz _ (yz _ (by simp)))).1;refine⟨m,⟨oc,es,ep,hC'',hd,hr⟩,λh' sb=>?_⟩;exact y8 (y8 ⟨_,H',(I''.unpinned).turned (t':=s''.toks) (λb o hb e=>(sb.2 b hb).trans e) f0 f1 f3 f4 f5,r'⟩)
end
variable{Q:VK}
section
variable{K:y9}{ts:List TT}{te:TE}{acc:Addr}{fr:St}{H1:Hp}{R:Hp->Prop}{xs ys:List V}
theorem r_comp{wi:TI}{own:List Str}{js:List Nat}{g:CA TG}{ts:CA (List TT)}{te:CA TE}(q:wi σ H λJ H1=>∀acc,H1 acc=none->∀pins fp s Hc,j8w J (g pins fp s Hc) (ts pins fp s Hc) (te pins fp s Hc) acc (cSt own js σ) H1 λH'=>Q (.ref acc) H'):jpg wi own js g ts te σ H Q:=q
def j6c(ts:List TT)(te:TE)(Pv:List V->Hp->Prop)(ys:List V)(H:Hp)(σ2:St)(H2:Hp):Prop:=
 ∀(Y:V->Hp->Prop) (N:Hp->Prop),(∀y H',Ext H H'->Pv (ys++[y]) H'->Y y H')->(∀H',Ext H H'->Pv ys H'->N H')->jaa ts σ2 H2 λb H3=>if b=true then te σ2 H3 Y else N H3
theorem j2x{J:It}{g:TG}{σ0:St}(n:Nat)(hz:n<=1000000)(hn:H1 acc=none)(Sv:St->Prop)(Pv:Nat->List V->Hp->Prop)(s0:Sv σ0)(h0:Pv 0 [] H1)(kp:∀i ys H H',Kp H H'->Pv i ys H->Pv i ys H')
  (hgo:∀i H,i<n->Ext H1 H->J.go i H) (hst:∀H,Ext H1 H->J.stop n H) (len:∀i ys H,i<=n->Pv i ys H->ys.length<=i)
  (turn:∀i σ ys H x H' (G:St->Hp->Prop),i<n->Ext H1 H->Sv σ->Pv i ys H->J.yld i H x H'->(∀σ2 H2,Sv σ2->j6c ts te (Pv (i+1)) ys H σ2 H2->G σ2 H2)->g x σ H' G)
  (fin:∀ys H,Ext H1 H->H acc=some (.lst ys)->Pv n ys H->R H):j8w J g ts te acc σ0 H1 R:=by
 have e0:Ext H1 (upd H1 acc (accO acc [])):=j0p hn;refine⟨λi m σ ys H=>m=n-i/\i<=n/\Ext H1 H/\Sv σ/\Pv i ys H,⟨n,by omega,gm _,e0,s0,kp _ _ _ _ e0.kp h0⟩,?_⟩;rintro i m σ ys H ⟨rfl,hi,e,sv,pv⟩ ha;by_cases hlt:i<n
 ·refine .inr ⟨hgo i H hlt e,λx H' y=>turn i σ ys H x H' _ hlt e sv pv y λσ2 H2 s2 q2=>?_⟩;refine q2 _ _ (λy H4 e4 p4=>?_) λH3 e3 p3=>?_
  ·have a4:H4 acc=some (accO acc ys):=e4 _ _ ha;have z:ys.length<sizeLine:=by have:=len _ _ _ hi pv;rw[xo];omega
   refine⟨a4,z,n-(i+1),by omega,rfl,hlt,λb o hb=>?_,s2,kp _ _ _ _ (jl3 a4 rfl) p4⟩;rw[j0i (j08 hb hn)];exact e4 _ _ (e _ _ hb)
  ·exact⟨e3 _ _ ha,n-(i+1),by omega,rfl,hlt,e.tr e3,s2,p3⟩
 ·have hn':i=n:=by omega
  subst hn';refine .inl ⟨hst H e,fin ys _ (λb o hb=>?_) j07 (kp _ _ _ _ (jl3 ha rfl) pv)⟩;rw[j0i (j08 hb hn)];exact e _ _ hb
theorem j1s{u:Option V}(hx:SqL K H1 a xs)(hz:xs.length<=1000000)(hn:H1 acc=none)(Pv:Nat->List V->Hp->Prop)(h0:Pv 0 [] H1)(kp:∀i ys H H',Kp H H'->Pv i ys H->Pv i ys H')(len:∀i ys H,i<=xs.length->Pv i ys H->ys.length<=i)
  (turn:∀i x ys H,xs[i]?=some x->Ext H1 H->Pv i ys H->j6c ts te (Pv (i+1)) ys H (some x::fr) H)
  (fin:∀ys H,Ext H1 H->H acc=some (.lst ys)->Pv xs.length ys H->R H):j8w (Itl K a) (j8k 0) ts te acc (u::fr) H1 R:=by
 refine j2x xs.length hz hn (λσ=>∃u,σ=u::fr) Pv ⟨u,rfl⟩ h0 kp (λi H hi e=>⟨xs,xs[i],e.seqL hx,y4 hi⟩) (λH e=>⟨xs,e.seqL hx,yg _⟩) len ?_ fin;rintro i σ ys H x H' G hi e ⟨u,rfl⟩ pv ⟨rfl,y⟩ hG;have:=y xs (e.seqL hx);exact hG _ _ ⟨some x,rfl⟩ (turn i x ys _ this e pv)
theorem j3p{u:Option V}(hx:SqT K H1 a xs)(hz:xs.length<=1000000)(hn:H1 acc=none)(Pv:Nat->List V->Hp->Prop)(h0:Pv 0 [] H1)(kp:∀i ys H H',Kp H H'->Pv i ys H->Pv i ys H')(len:∀i ys H,i<=xs.length->Pv i ys H->ys.length<=i)
  (turn:∀i x ys H,xs[i]?=some x->Ext H1 H->Pv i ys H->j6c ts te (Pv (i+1)) ys H (some x::fr) H)
  (fin:∀ys H,Ext H1 H->H acc=some (.lst ys)->Pv xs.length ys H->R H):j8w (Itt K a) (j8k 0) ts te acc (u::fr) H1 R:=by
 refine j2x xs.length hz hn (λσ=>∃u,σ=u::fr) Pv ⟨u,rfl⟩ h0 kp (λi H hi e=>⟨xs,xs[i],e.seqT hx,y4 hi⟩) (λH e=>⟨xs,e.seqT hx,yg _⟩) len ?_ fin;rintro i σ ys H x H' G hi e ⟨u,rfl⟩ pv ⟨rfl,y⟩ hG;have:=y xs (e.seqT hx);exact hG _ _ ⟨some x,rfl⟩ (turn i x ys _ this e pv)
theorem j1g{lo:Int}{u:Option V}(hz:n<=1000000)(hn:H1 acc=none)(Pv:Nat->List V->Hp->Prop)(h0:Pv 0 [] H1)(kp:∀i ys H H',Kp H H'->Pv i ys H->Pv i ys H')(len:∀i ys H,i<=n->Pv i ys H->ys.length<=i)
  (turn:∀i ys H,i<n->Ext H1 H->Pv i ys H->j6c ts te (Pv (i+1)) ys H (some (.int (lo+i))::fr) H)
  (fin:∀ys H,Ext H1 H->H acc=some (.lst ys)->Pv n ys H->R H):j8w (Itr lo n) (j8k 0) ts te acc (u::fr) H1 R:=by
 refine j2x n hz hn (λσ=>∃u,σ=u::fr) Pv ⟨u,rfl⟩ h0 kp (λi H hi e=>hi) (λH e=>yg _) len ?_ fin;rintro i σ ys H x H' G hi e ⟨u,rfl⟩ pv ⟨rfl,rfl⟩ hG;exact hG _ _ ⟨_,rfl⟩ (turn i ys _ hi e pv)
end
def ItA(b:Bool)(h:Heap)(it l:Addr)(k:Nat):Prop:=match b with|false=>h.IsListIter it l k|true=>h.IsTupleIter it l k
def SqA(b:Bool)(h:Heap)(l:Addr)(xs:Array Value):Prop:=match b with|false=>h.IsList l xs|true=>h.IsTuple l xs
variable{k:Nat}{it l:Addr}
theorem ItA.ex(x:ItA b h it l k):∃o,h.get? it=some o/\∀v,o.data≠.cell v:=by
 cases b<;>(obtain⟨o,e,_,d⟩:=x;exact⟨o,e,λv z=>by rw[d]at z;cases z⟩)
theorem ItA.at{h':Heap}(x:ItA b h it l k)(f:∀o,h.get? it=some o->h'.get? it=some o):ItA b h' it l k:=by
 cases b<;>(obtain⟨o,e,r⟩:=x;exact⟨o,f o e,r⟩)
theorem SqA.at{h':Heap}{xs:Array Value}(x:SqA b h l xs)(f:∀o,h.get? l=some o->h'.get? l=some o):SqA b h' l xs:=by
 cases b<;>(obtain⟨o,e,r⟩:=x;exact⟨o,f o e,r⟩)
theorem SqA.lt{xs:Array Value}(x:SqA b h l xs):l<h.objs.size:=by
 cases b<;>(obtain⟨o,e,_⟩:=x;exact yt e)
theorem ItA.lt(x:ItA b h it l k):it<h.objs.size:=by
 obtain⟨o,e,_⟩:=x.ex;exact yt e
variable{l1 l2:Addr}{c d:Bool}
section
variable{prog:yy}{w:World}{A:gw}{E:Value->ye->Prop}{s:ye}
theorem jbp{xs:Array Value}{x:Value}{Q:Value->ye->Prop}(i0:s.heap.IsTupleIter it l k)(l0:s.heap.IsTuple l xs)(hx:xs[k]?=some x)
  (q:∀h',h'.IsTupleIter it l (k+1)->uv it s.heap h'->Q x {s with heap:=h'}):wpAny (model prog w) A (ve (.ref it)) Q E s:=by
 obtain⟨oi,ei,ci,di⟩:=id i0;obtain⟨ol,el,_,nl,dl⟩:=l0;unfold ve;refine y0 (gp (name:=uc "__next__") i0.typeIs y1g (xw y1g i0.typeIs y5n ?_ (y5h _)));show wpAny _ _ (field (.ref it) 0 >>= _) _ _ _;refine y0 (y0f ei di (x:=.ref l) rfl ?_);show wpAny _ _ (if (xy l==ud)=true then _ else _) _ _ _;rw[if_neg (show ¬ ((xy l==ud)=true)from λz=>xb z)];show wpAny _ _ (field (.ref it) 1 >>= _) _ _ _;refine y0 (y0f ei di (x:=.int k 0) rfl ?_);show wpAny _ _ (seqItems? (.ref l) >>= _) _ _ _;refine y0 (y00 el dl ?_);simp only[yq,hx];refine y0 (y6e ei di (by simp) (y8 ⟨x,rfl,y8 (q _ ⟨_,vw _ ei (y80 (y3z di _)),(y9z ..).trans ci,?_⟩ (y03 ..))⟩));rw[y3z di];simp[rawInt]
theorem jed{xs:Array Value}{Q:Value->ye->Prop}(hh:A.handled=none)(i0:s.heap.IsTupleIter it l k)(l0:s.heap.IsTuple l xs)(hx:xs[k]?=none)
  (q:∀h' e,yb0 it s.heap h'->(∃o,h'.get? e=some o/\o.cls=.type "StopIteration")->E (.ref e) {s with heap:=h'}):wpAny (model prog w) A (ve (.ref it)) Q E s:=by
 obtain⟨oi,ei,ci,di⟩:=id i0;obtain⟨ol,el,_,nl,dl⟩:=l0;unfold ve;refine y0 (gp (name:=uc "__next__") i0.typeIs y1g (xw y1g i0.typeIs y5n ?_ (y5h _)));show wpAny _ _ (field (.ref it) 0 >>= _) _ _ _;refine y0 (y0f ei di (x:=.ref l) rfl ?_);show wpAny _ _ (if (xy l==ud)=true then _ else _) _ _ _;rw[if_neg (show ¬ ((xy l==ud)=true)from λz=>xb z)];show wpAny _ _ (field (.ref it) 1 >>= _) _ _ _;refine y0 (y0f ei di (x:=.int k 0) rfl ?_);show wpAny _ _ (seqItems? (.ref l) >>= _) _ _ _;refine y0 (y00 el dl ?_);simp only[yq,hx];refine y0 (y4j (y0 (y6e ei di (by simp) ?_)));show wpAny _ _ (newExc (.type "StopIteration") [] >>= _) _ _ _;refine y0 ?_;simp only[newExc,newTuple];refine y0 (v9 ?_ (by size_fits));refine y0 (m:=firstArgMember _ _) (y0g (a:=ud) (by first|rfl|(simp only[firstArgMember];rfl)) ?_);refine v9 ?_ (by size_fits);simp only[raiseNew];refine y0 (y77 ?_)
 first|rw[show A.in1.handled=none from hh]|rw[hh]
 refine y0 (y8 (y97 ?_));exact q _ _ (((y03 ..).extBut.push _).push _) ⟨_,yi _ rfl,rfl⟩
theorem j3q{xs:Array Value}{x:Value}{Q:Value->ye->Prop}(i0:ItA b s.heap it l k)(l0:SqA b s.heap l xs)(hx:xs[k]?=some x)
  (q:∀h',ItA b h' it l (k+1)->uv it s.heap h'->Q x {s with heap:=h'}):wpAny (model prog w) A (ve (.ref it)) Q E s:=by
 cases b
 ·exact wpAny_nextOf_list_item i0 l0 hx q
 ·exact jbp i0 l0 hx q
theorem j8y{xs:Array Value}{Q:Value->ye->Prop}(hh:A.handled=none)(i0:ItA b s.heap it l k)(l0:SqA b s.heap l xs)(hx:xs[k]?=none)
  (q:∀h' e,yb0 it s.heap h'->(∃o,h'.get? e=some o/\o.cls=.type "StopIteration")->E (.ref e) {s with heap:=h'}):wpAny (model prog w) A (ve (.ref it)) Q E s:=by
 cases b
 ·exact wpAny_nextOf_list_end hh i0 l0 hx q
 ·exact jed hh i0 l0 hx q
theorem jee{c d:Bool}{z TI TO i1 i2:Addr}{k:Nat}{xs ys:Array Value}{x y p q:Value}{Q:Option Value->ye->Prop}(D:ZipApart z TI TO i1 i2 l1 l2)
  (hz:IsZip s.heap z TI TO .none) (hI:y5b s.heap TI (.ref i1) (.ref i2)) (hO:y5b s.heap TO p q) (a1:ItA c s.heap i1 l1 k) (a2:ItA d s.heap i2 l2 k) (b1:SqA c s.heap l1 xs) (b2:SqA d s.heap l2 ys) (hx:xs[k]?=some x) (hy:ys[k]?=some y)
  (hQ:∀h',IsZip h' z TI TO (rawInt s.heap.objs.size)->y5b h' TO x y->ItA c h' i1 l1 (k+1)->ItA d h' i2 l2 (k+1)->y5b h' s.heap.objs.size x y->
   (∀e o,e≠z->e≠TO->e≠i1->e≠i2->s.heap.get? e=some o->h'.get? e=some o)->Q (some (.ref s.heap.objs.size)) {s with heap:=h'}):wpAny (model prog w) A (pyNext (.ref z)) Q E s:=by
 have tz:s.TypeIs (.ref z) "zip":=⟨_,hz,rfl⟩
 unfold pyNext;refine y0 (y29 (gp (name:=uc "__next__") tz y5o (xw y5o tz yan ?_ (y9s _))));show wpAny _ _ (field (.ref z) 2 >>= _) _ _ _;refine y0 (y0f hz rfl (x:=.bool false) rfl ?_);show wpAny _ _ (field (.ref z) 3 >>= _) _ _ _;refine y0 (y0f hz rfl (x:=.ref TI) rfl (y0 (y00 hI rfl ?_)));show wpAny _ _ (y02 (.ref z) >>= _) _ _ _;refine y0 ?_;unfold y02;refine y0 (y0f hz rfl (x:=.none) rfl (y8 ?_));simp only[if_true];refine y0 (y4j (y0 (y0f hz rfl (x:=.ref TO) rfl (y0 (vx hz (by simp) λg1 z1 s1=>?_)))));replace z1:IsZip g1 z TI TO .ellipsis:=z1;refine y0 ?_;simp only[yap,yb3,y1y,y8q];refine y0 (y0 (y78 ?_));show wpAny _ _ (ve (.ref i1) >>= _) _ _ _;refine y0 (j3q (a1.at λo e=>s1.extBut _ o D.i1z e) (b1.at λo e=>s1.extBut _ o D.l1z e) hx λg2 j1 s2=>y8 ?_);have o2:y5b g2 TO p q:=s2.extBut _ _ D.TOi1 (s1.extBut _ _ D.TOz hO);refine y0 (y00 o2 rfl (y0 (y5d o2 λg3 o3 s3=>y0 (y96 (y8 ?_)))));replace o3:y5b g3 TO x q:=o3;refine y0 (y0 (y78 ?_));show wpAny _ _ (ve (.ref i2) >>= _) _ _ _;refine y0 (j3q (a2.at λo e=>s3.extBut _ o D.TOi2.symm (s2.extBut _ o D.i12.symm (s1.extBut _ o D.i2z e))) (b2.at λo e=>s3.extBut _ o D.l2TO (s2.extBut _ o D.l2i1 (s1.extBut _ o D.l2z e))) hy λg4 j2 s4=>y8 ?_);have o4:y5b g4 TO x q:=s4.extBut _ _ D.TOi2 o3;refine y0 (y00 o4 rfl (y0 (y5d o4 λg5 o5 s5=>y0 (y96 (y8 (y8 ?_))))));replace o5:y5b g5 TO x y:=o5;refine y0 (y00 o5 rfl (y0 (y8u ?_)));have n5:g5.objs.size=s.heap.objs.size:=by rw[s5.1,s4.1,s3.1,s2.1,s1.1]
 have z5:IsZip g5 z TI TO .ellipsis:=s5.extBut _ _ D.TOz.symm (s4.extBut _ _ D.i2z.symm (s3.extBut _ _ D.TOz.symm (s2.extBut _ _ D.i1z.symm z1)));have k5:∀e o,e≠z->e≠TO->e≠i1->e≠i2->s.heap.get? e=some o->g5.get? e=some o:=λe o q1 q2 q3 q4 h=>s5.extBut _ _ q2 (s4.extBut _ _ q4 (s3.extBut _ _ q2 (s2.extBut _ _ q3 (s1.extBut _ _ q1 h))));have j5:ItA c g5 i1 l1 (k+1):=j1.at λo e=>s5.extBut _ o D.TOi1.symm (s4.extBut _ o D.i12 (s3.extBut _ o D.TOi1.symm e));have m5:ItA d g5 i2 l2 (k+1):=j2.at λo e=>s5.extBut _ o D.TOi2.symm e;have lz:z<g5.objs.size:=yt z5;show wpAny _ _ (y2z (.ref z) (.ref g5.objs.size) >>= _) _ _ _;refine y0 ?_;unfold y2z;have z6:IsZip (g5.push {cls:=.type "tuple",data:=.seq #[x,y]}) z TI TO .ellipsis:=yc _ z5;refine y0 (vx z6 (by simp) λg7 z7 s7=>?_);replace z7:IsZip g7 z TI TO (rawInt g5.objs.size):=z7;refine vx z7 (by simp) λg8 z8 s8=>?_;replace z8:IsZip g8 z TI TO (rawInt g5.objs.size):=z8;have k8:∀e o,e≠z->g5.get? e=some o->g8.get? e=some o:=λe o q1 h=>s8.extBut _ _ q1 (s7.extBut _ _ q1 (yc _ h));have t8:y5b g8 g5.objs.size x y:=s8.extBut _ _ (y27 lz) (s7.extBut _ _ (y27 lz) (yi _ rfl));refine y8 ⟨_,rfl,y8 ?_⟩;rw[n5]at z8 t8;show Q (some (.ref g5.objs.size)) _;rw[n5];exact hQ g8 z8 (k8 _ _ D.TOz o5) (j5.at λo e=>k8 _ o D.i1z e) (m5.at λo e=>k8 _ o D.i2z e) t8 λe o q1 q2 q3 q4 h=>k8 e o q1 (k5 e o q1 q2 q3 q4 h)
theorem jhs{c d:Bool}{z TI TO i1 i2 l1 l2:Addr}{k:Nat}{xs ys:Array Value}{p q:Value}{Q:Option Value->ye->Prop}(hh:A.handled=none)(D:ZipApart z TI TO i1 i2 l1 l2)
  (hz:IsZip s.heap z TI TO .none) (hI:y5b s.heap TI (.ref i1) (.ref i2)) (hO:y5b s.heap TO p q) (a1:ItA c s.heap i1 l1 k) (a2:ItA d s.heap i2 l2 k) (b1:SqA c s.heap l1 xs) (b2:SqA d s.heap l2 ys) (hend:xs[k]?=none\/ys[k]?=none)
  (hQ:∀h',(∀e o,e≠z->e≠TO->e≠i1->e≠i2->s.heap.get? e=some o->h'.get? e=some o)->Q none {s with heap:=h'}):wpAny (model prog w) A (pyNext (.ref z)) Q E s:=by
 have tz:s.TypeIs (.ref z) "zip":=⟨_,hz,rfl⟩
 have stopped:∀{h':Heap}{e:Addr},(∃o,h'.get? e=some o/\o.cls=.type "StopIteration")->(∀e o,e≠z->e≠TO->e≠i1->e≠i2->s.heap.get? e=some o->h'.get? e=some o)->
   wpAny (model prog w) A (do if <- isInstance (.ref e) (.type "StopIteration")then pure (none:Option Value)else throw (.ref e)) Q E {s with heap:=h'}:=λ{h' e} ⟨o,ho,hc⟩ hk=>
  y0 (y2c (T:="StopIteration") (b:=true) ⟨o,ho,hc⟩ y6c (y8 (hQ _ hk)))
 unfold pyNext;refine y0 (y29 (gp (name:=uc "__next__") tz y5o (xw y5o tz yan ?_ (y9s _))));show wpAny _ _ (field (.ref z) 2 >>= _) _ _ _;refine y0 (y0f hz rfl (x:=.bool false) rfl ?_);show wpAny _ _ (field (.ref z) 3 >>= _) _ _ _;refine y0 (y0f hz rfl (x:=.ref TI) rfl (y0 (y00 hI rfl ?_)));show wpAny _ _ (y02 (.ref z) >>= _) _ _ _;refine y0 ?_;unfold y02;refine y0 (y0f hz rfl (x:=.none) rfl (y8 ?_));simp only[if_true];refine y0 (y4j (y0 (y0f hz rfl (x:=.ref TO) rfl (y0 (vx hz (by simp) λg1 z1 s1=>?_)))));replace z1:IsZip g1 z TI TO .ellipsis:=z1;refine y0 ?_;simp only[yap,yb3,y1y,y8q];refine y0 (y0 (y78 ?_));show wpAny _ _ (ve (.ref i1) >>= _) _ _ _;cases hx:xs[k]? with
 |none=>
  refine y0 (j8y hh (a1.at λo e=>s1.extBut _ o D.i1z e) (b1.at λo e=>s1.extBut _ o D.l1z e) hx λg2 e s2 ⟨oe,he,ce⟩=>?_);have z2:IsZip g2 z TI TO .ellipsis:=s2 _ _ D.i1z.symm z1;have ez:e≠z:=λy=>by subst y;rw[z2]at he;cases he;simp at ce
  exact vx z2 (by simp) λg3 _ s3=>stopped ⟨oe,s3.extBut _ _ ez he,ce⟩ λe o q1 _ q3 _ h=>s3.extBut _ _ q1 (s2 _ _ q3 (s1.extBut _ _ q1 h))
 |some x=>
  have hy:ys[k]?=none:=hend.resolve_left (by rw[hx];simp);refine y0 (j3q (a1.at λo e=>s1.extBut _ o D.i1z e) (b1.at λo e=>s1.extBut _ o D.l1z e) hx λg2 j1 s2=>y8 ?_);have o2:y5b g2 TO p q:=s2.extBut _ _ D.TOi1 (s1.extBut _ _ D.TOz hO);refine y0 (y00 o2 rfl (y0 (y5d o2 λg3 o3 s3=>y0 (y96 (y8 ?_)))));refine y0 (y0 (y78 ?_));show wpAny _ _ (ve (.ref i2) >>= _) _ _ _;refine y0 (j8y hh (a2.at λo e=>s3.extBut _ o D.TOi2.symm (s2.extBut _ o D.i12.symm (s1.extBut _ o D.i2z e))) (b2.at λo e=>s3.extBut _ o D.l2TO (s2.extBut _ o D.l2i1 (s1.extBut _ o D.l2z e))) hy λg4 e s4 ⟨oe,he,ce⟩=>?_);have z4:IsZip g4 z TI TO .ellipsis:=s4 _ _ D.i2z.symm (s3.extBut _ _ D.TOz.symm (s2.extBut _ _ D.i1z.symm z1));have ez:e≠z:=λy=>by subst y;rw[z4]at he;cases he;simp at ce
  exact vx z4 (by simp) λg5 _ s5=>stopped ⟨oe,s5.extBut _ _ ez he,ce⟩ λe o q1 q2 q3 q4 h=>s5.extBut _ _ q1 (s4 _ _ q4 (s3.extBut _ _ q2 (s2.extBut _ _ q3 (s1.extBut _ _ q1 h))))
def itO(b:Bool)(l:Addr):Obj:={cls:=.type (if b then "tuple_iterator" else "list_iterator"),data:=.fields #[.ref l,.int 0 0]}
theorem iterA{xs:Array Value}{Q:Value->ye->Prop}(h:SqA b s.heap l xs)(q:Q (.ref s.heap.objs.size) {s with heap:=s.heap.push (itO b l)}):wpAny (model prog w) A (pyIter (.ref l)) Q E s:=by
 cases b
 ·exact y6q h q
 ·exact y67 h q
theorem jl4(e:h.get? it=some (itO b l)):ItA b h it l 0:=by
 cases b<;>exact⟨_,e,rfl,rfl⟩
abbrev zh1(c:Bool)(h:Heap)(l1:Addr):Heap:=h.push (itO c l1)
abbrev zh2(c d:Bool)(h:Heap)(l1 l2:Addr):Heap:=(zh1 c h l1).push (itO d l2)
abbrev zh3(c d:Bool)(h:Heap)(l1 l2:Addr):Heap:=(zh2 c d h l1 l2).push {cls:=.type "tuple",data:=.seq #[.ref h.objs.size,.ref (zh1 c h l1).objs.size]}
abbrev zh4(c d:Bool)(h:Heap)(l1 l2:Addr):Heap:=(zh3 c d h l1 l2).push {cls:=.type "tuple",data:=.seq #[.none,.none]}
abbrev zh5(c d:Bool)(h:Heap)(l1 l2:Addr):Heap:=(zh4 c d h l1 l2).push {cls:=.type "zip",data:=.fields #[.none,.bool false,.bool false,.ref (zh2 c d h l1 l2).objs.size,.ref (zh3 c d h l1 l2).objs.size]}
theorem jht(c d:Bool)(l1 l2:Addr)(xs ys:Array Value):Meets (Builtin.«zip.__new__» ⟨[.type "zip",.ref l1,.ref l2],[]⟩) (λ_ R s=>SqA c s.heap l1 xs/\SqA d s.heap l2 ys/\R (.ok (.ret (.ref (zh4 c d s.heap l1 l2).objs.size))) {s with heap:=zh5 c d s.heap l1 l2}):=
 .of_wp λprog w A R s h=>by
  obtain⟨hp,g,dd,tk,os⟩:=s;obtain⟨m1,m2,h⟩:=h;have hsub:=PySem.sub_zip;have M1:SqA c (ydt ⟨hp,g,dd,tk,os⟩) l1 xs:=m1;have M2:SqA d (ydt ⟨hp.push (itO c l1),g,dd,tk,os⟩) l2 ys:=m2.at λo e=>yc _ e
  wp_walk using iterA M1,iterA M2
  exact⟨_,rfl,h⟩
theorem jef{xs ys:Array Value}{Q:Value->ye->Prop}(m1:SqA c s.heap l1 xs)(m2:SqA d s.heap l2 ys)
  (h:∀h',IsZip h' (s.heap.objs.size+4) (s.heap.objs.size+2) (s.heap.objs.size+3) .none->y5b h' (s.heap.objs.size+2) (.ref s.heap.objs.size) (.ref (s.heap.objs.size+1))->
   y5b h' (s.heap.objs.size+3) .none .none->ItA c h' s.heap.objs.size l1 0->ItA d h' (s.heap.objs.size+1) l2 0->(∀e o,s.heap.get? e=some o->h'.get? e=some o)->Q (.ref (s.heap.objs.size+4)) {s with heap:=h'}):
  wpAny (model prog w) A (call (.type "zip") [.ref l1,.ref l2]) Q E s:=by
 refine callType_new F.called_zip (by decide) (F.typeCall_zip_2 _ _) (F.newCall_zip_2 _ _) (λobj=>F.args_object_init_3 obj _ _) F.entry_zip_new (jht c d l1 l2 xs ys) ⟨m1,m2,?_⟩;have n1:(zh1 c s.heap l1).objs.size=s.heap.objs.size+1:=vf ..;have n2:(zh2 c d s.heap l1 l2).objs.size=s.heap.objs.size+2:=by rw[vf,n1]
 have n3:(zh3 c d s.heap l1 l2).objs.size=s.heap.objs.size+3:=by rw[vf,n2]
 have n4:(zh4 c d s.heap l1 l2).objs.size=s.heap.objs.size+4:=by rw[vf,n3]
 have up1:∀{h:Heap}{o u:Obj}{e:Addr},h.get? e=some u->(h.push o).get? e=some u:=λq=>yc _ q;have g5:(zh5 c d s.heap l1 l2).get? (zh4 c d s.heap l1 l2).objs.size=some _:=yi _ rfl;have g4:(zh5 c d s.heap l1 l2).get? (zh3 c d s.heap l1 l2).objs.size=some _:=up1 (yi _ rfl);have g3:(zh5 c d s.heap l1 l2).get? (zh2 c d s.heap l1 l2).objs.size=some _:=up1 (up1 (yi _ rfl));have g2:(zh5 c d s.heap l1 l2).get? (zh1 c s.heap l1).objs.size=some (itO d l2):=up1 (up1 (up1 (yi _ (by cases d<;>rfl))));have g1:(zh5 c d s.heap l1 l2).get? s.heap.objs.size=some (itO c l1):=up1 (up1 (up1 (up1 (yi _ (by cases c<;>rfl)))));show _/\_;rw[n2,n3,n4]at g5;rw[n1,n2]at g3;rw[n3]at g4;rw[n1]at g2;rw[n4];exact⟨⟨_,g5,rfl⟩,h _ g5 g3 g4 (jl4 g1) (jl4 g2) λe o q=>up1 (up1 (up1 (up1 (up1 q))))⟩
end
def SqE(K:y9)(H:Hp)(a:Addr)(xs:List V):Bool->Prop
 |false=>SqL K H a xs
 |true=>SqT K H a xs
theorem SqE.mono{H':Hp}(e:Ext H H')(h:SqE K H a xs b):SqE K H' a xs b:=by
 cases b
 ·exact e.seqL h
 ·exact e.seqT h
theorem Inv.sqe(I:Inv X pins σ H s)(h:SqE X.K H a xs b):∃its:List Value,Vals xs its/\SqA b s.heap a its.toArray/\xs.length<=sizeLine:=by
 cases b
 ·obtain⟨its,r,p,z⟩:=I.list h;exact⟨its,r,p.isList,z⟩
 ·obtain⟨its,r,p,z⟩:=I.tuple h;exact⟨its,r,p,z⟩
theorem Inv.sqe_inj(I:Inv X pins σ H s)(h:SqE X.K H a xs b)(h':SqE X.K H a ys b):xs=ys:=by
 cases b
 ·exact I.list_inj h h'
 ·exact I.tuple_inj h h'
def Itz2(K:y9)(c d:Bool)(p q:Addr):It:=
 ⟨λi H=>∃xs ys,SqE K H p xs c/\SqE K H q ys d/\i<xs.length/\i<ys.length,
   λi H x H'=>∃r u v,H r=none/\x=.ref r/\H'=upd H r (.tup [u,v])/\∀xs ys,SqE K H p xs c->SqE K H q ys d->xs[i]?=some u/\ys[i]?=some v,
   λi H=>∃xs ys,SqE K H p xs c/\SqE K H q ys d/\(xs.length<=i\/ys.length<=i)⟩
def zst(c d:Bool)(z TI TO i1 i2 l1 l2:Addr)(i:Nat)(h:Heap):Prop:=IsZip h z TI TO .none/\y5b h TI (.ref i1) (.ref i2)/\(∃a b,y5b h TO a b)/\ItA c h i1 l1 i/\ItA d h i2 l2 i
theorem jeg{P:yy}{w:World}{K:y9}{es:List Expr}{kx:Nat}{tp:Pos}{cc dd:Bool}{z TI TO i1 i2:Addr}(D:ZipApart z TI TO i1 i2 l1 l2):
  Turn P w K (.Tuple es kx tp) (Itz2 K cc dd l1 l2) [z,TI,TO,i1,i2] z (zst cc dd z TI TO i1 i2 l1 l2) where
 mem:=by simp
 obj:=λi h st b hb=>by
  obtain⟨hz,hTI,⟨a,c,hTO⟩,s1,s2⟩:=st;simp only[xf,y01,or_false]at hb;rcases hb with rfl|rfl|rfl|rfl|rfl
  ·exact⟨_,hz,λv q=>by cases q⟩
  ·exact⟨_,hTI,λv q=>by cases q⟩
  ·exact⟨_,hTO,λv q=>by cases q⟩
  ·exact s1.ex
  ·exact s2.ex
 keep:=λi h h' st k=>by
  obtain⟨hz,hTI,⟨a,c,hTO⟩,s1,s2⟩:=st;exact⟨k z (by simp) _ hz,k TI (by simp) _ hTI,⟨a,c,k TO (by simp) _ hTO⟩,s1.at λo e=>k i1 (by simp) o e,s2.at λo e=>k i2 (by simp) o e⟩
 item:=by
  intro X hP hw hK hc i pins s σ H E I hf st hg;subst hP hw hK;obtain⟨xs,ys,hx,hy,lx,ly⟩:=hg;obtain⟨hz,hTI,⟨a,c,hTO⟩,s1,s2⟩:=id st;obtain⟨us,ru,pu,zu⟩:=I.sqe hx;obtain⟨ws,rw',pw,zw⟩:=I.sqe hy;obtain⟨u,eu,r1⟩:=ru.get (y4 lx);obtain⟨v,ev,r2⟩:=rw'.get (y4 ly);refine jee D hz hTI hTO s1 s2 pu pw (x:=u) (y:=v) (by simpa using eu) (by simpa using ev) λh1 z1 t1 j1 j2 np kk=>⟨_,rfl,?_⟩
  refine wpAny_letOwnedTupleGo_zip z1 λh2 z2 sb=>?_;have nT:s.heap.objs.size≠z:=y27 (yt hz);have kk2:∀b o,b∉[z,TI,TO,i1,i2]->s.heap.get? b=some o->h2.get? b=some o:=λb o hb e=>by
   simp only[xf,y01,or_false,not_or]at hb;exact sb.extBut b o hb.1 (kk b o hb.1 hb.2.2.1 hb.2.2.2.1 hb.2.2.2.2 e)
  have np2:y5b h2 s.heap.objs.size u v:=sb.extBut _ _ nT np;have I2:=I.turnLaid (t':=s.toks) (a:=s.heap.objs.size) (o:=.tup [xs[i],ys[i]]) kk2 hf (yg _) (show ObjOk X.prog X.w _ h2 _ (.tup [xs[i],ys[i]])from⟨by show 2<=sizeLine;rw[xo];decide,[u,v],.cons r1 (.cons r2 .nil),⟨⟨_,np2,rfl,0,rfl⟩,_,np2,rfl⟩⟩);refine⟨.ref s.heap.objs.size,_,I2,rfl,⟨_,_,_,I.hok.fresh (yg _),rfl,rfl,λxs' ys' e1 e2=>?_⟩,?_,λb hb=>?_⟩
  ·rw[I.sqe_inj e1 hx,I.sqe_inj e2 hy];exact⟨y4 lx,y4 ly⟩
  ·exact⟨z2,sb.extBut _ _ D.TIz (kk TI _ D.TIz D.TITO D.TIi1 D.TIi2 hTI),⟨_,_,sb.extBut _ _ D.TOz t1⟩,j1.at λo e=>sb.extBut _ o D.i1z e,j2.at λo e=>sb.extBut _ o D.i2z e⟩
  ·rw[j0i (λq=>?_)]
   ·exact(hf b hb).1
   ·have lt:b<s.heap.objs.size:=by
     simp only[xf,y01,or_false]at hb;rcases hb with rfl|rfl|rfl|rfl|rfl
     ·exact yt hz
     ·exact yt hTI
     ·exact yt hTO
     ·exact s1.lt
     ·exact s2.lt
    exact absurd lt (by rw[q];exact y2t _)
 done:=by
  intro X hP hw hK hc i pins s σ H E I hf st hg;subst hP hw hK;obtain⟨xs,ys,hx,hy,hl⟩:=hg;obtain⟨hz,hTI,⟨a,c,hTO⟩,s1,s2⟩:=st;obtain⟨us,ru,pu,zu⟩:=I.sqe hx;obtain⟨ws,rw',pw,zw⟩:=I.sqe hy;have l1:=ru.length;have l2:=rw'.length;refine jhs (I.ok.hd hc) D hz hTI hTO s1 s2 pu pw ?_ λh1 kk=>⟨rfl,I.turns (t':=s.toks) (ch:=[z,TI,TO,i1,i2]) (λb o hb e=>?_) hf⟩
  ·rcases hl with q|q
   ·exact .inl (by simp;omega)
   ·exact .inr (by simp;omega)
  ·simp only[xf,y01,or_false,not_or]at hb;exact kk b o hb.1 hb.2.2.1 hb.2.2.2.1 hb.2.2.2.2 e
 self:=λ_ _ _ _ _ st h=>yaw st.1 h
section
variable{X:Cx}
def iZip2(K:y9)(ta:TA):TI:=λσ H R=>ta σ H λvs H1=>∃p q xs ys c d,vs=[.ref p,.ref q]/\SqE K H1 p xs c/\SqE K H1 q ys d/\R (Itz2 K c d p q) H1
theorem jbq{es:List Expr}{kx:Nat}{tp:Pos}{a b:Expr}{ta:TA}{p pos:Pos}(hg:Gl X "zip")(hm:X.mg "zip"=none)(ha:PA X [a,b] ta)(hs:starEach [a,b] X.env=[(false,eval a X.env),(false,eval b X.env)]:=by rfl)(hs2:starEach [b] X.env=[(false,eval b X.env)]:=by rfl):
  PI X (.Tuple es kx tp) (.Call (.Name "zip" p) [a,b] [] pos) (iZip2 X.K ta):=by
 intro pins s σ H R I h;refine Call_ (j52 I hg hm boot_zip (ur (thn (ha pos pins s σ H _ I h) λus s1 ⟨vs,H1,I1,r1,q1⟩=>?_) (by rw[hs,hs2]) (by rw[hs2];rfl)));obtain⟨p1,p2,xs,ys,c,d,e,hx,hy,q⟩:=q1;subst e;obtain⟨u,v,rfl,ru,rv⟩:=jk3 r1;cases ru;cases rv;obtain⟨i1,ri1,pl1,z1⟩:=I1.sqe hx;obtain⟨i2,ri2,pl2,z2⟩:=I1.sqe hy;refine jef pl1 pl2 λh' hz hTI hTO j1 j2 hk=>?_;have I2:Inv X pins σ H1 {s1 with heap:=h'}:=I1.kept (t':=s1.toks) hk;refine yaw (s:={s1 with heap:=h'}) hz ⟨_,[s1.heap.objs.size+4,s1.heap.objs.size+2,s1.heap.objs.size+3,s1.heap.objs.size,s1.heap.objs.size+1],_,_,H1,rfl,I2,jeg (zipApart_new pl1.lt pl2.lt),⟨hz,hTI,⟨_,_,hTO⟩,j1,j2⟩,λb hb=>?_,q⟩;have hb':s1.heap.objs.size<=b:=by
  simp only[xf,y01,or_false]at hb;rcases hb with rfl|rfl|rfl|rfl|rfl<;>omega
 exact I1.fpOk hb' (I1.hok.fresh hb')
end
variable{q:Addr}
theorem jhu{g:TG}{tb:TS}{D:Ends}(Pv:Nat->St->Hp->Prop)(hl:xs.length=ys.length)(h0:Pv 0 σ H)(hq:∀i σ H,i<=xs.length->Pv i σ H->SqE K H p xs c/\SqE K H q ys d)
  (hs:∀i x y σ H r,xs[i]?=some x->ys[i]?=some y->Pv i σ H->H r=none->g (.ref r) σ (upd H r (.tup [x,y])) λσ2 H2=>tb {D with nx:=Pv (i+1),ct:=Pv (i+1),bk:=D.nx} σ2 H2) (hd:∀σ H,Pv xs.length σ H->D.nx σ H):
  ∃W:Nat->Nat->St->Hp->Prop,(∃m,W 0 m σ H)/\∀i m σ H,W i m σ H->
   ((Itz2 K c d p q).stop i H/\D.nx σ H)\/((Itz2 K c d p q).go i H/\∃N:St->Hp->Prop,(∀σ' H',N σ' H'->∃m',m'<m/\W (i+1) m' σ' H')/\∀x H',(Itz2 K c d p q).yld i H x H'->g x σ H' λσ2 H2=>tb {D with nx:=N,ct:=N,bk:=D.nx} σ2 H2):=by
 refine⟨λi m σ H=>m=xs.length-i/\i<=xs.length/\Pv i σ H,⟨xs.length,by simp,gm _,h0⟩,?_⟩;rintro i m σ H ⟨rfl,hi,pv⟩;obtain⟨q1,q2⟩:=hq i σ H hi pv;by_cases hlt:i<xs.length
 ·refine .inr ⟨⟨xs,ys,q1,q2,hlt,by omega⟩,Pv (i+1),λσ' H' p'=>⟨xs.length-(i+1),by omega,rfl,hlt,p'⟩,λx H' y=>?_⟩;obtain⟨r,u,v,n,rfl,rfl,y⟩:=y;obtain⟨e1,e2⟩:=y xs ys q1 q2;exact hs i u v σ _ r e1 e2 pv n
 ·have e:i=xs.length:=by omega
  subst e;exact .inl ⟨⟨xs,ys,q1,q2,.inl (yg _)⟩,hd σ H pv⟩
variable{zs:List V}
theorem j8z{ts:List TT}{te:TE}{acc:Addr}{fr:St}{H1:Hp}{R:Hp->Prop}{u v:Option V}(hx:SqE K H1 p xs c)(hy:SqE K H1 q zs d)(hl:xs.length=zs.length)(hz:xs.length<=1000000)(hn:H1 acc=none)(Pv:Nat->List V->Hp->Prop)(h0:Pv 0 [] H1)(kp:∀i ys H H',Kp H H'->Pv i ys H->Pv i ys H')(len:∀i ys H,i<=xs.length->Pv i ys H->ys.length<=i)
  (turn:∀i x z ys H H',xs[i]?=some x->zs[i]?=some z->Ext H1 H->Ext H H'->Pv i ys H->j6c ts te (Pv (i+1)) ys H (some x::some z::fr) H')
  (fin:∀ys H,Ext H1 H->H acc=some (.lst ys)->Pv xs.length ys H->R H):j8w (Itz2 K c d p q) (gTup K 2 (jnm (j8k 0) (jnm (j8k 1) gNil))) ts te acc (u::v::fr) H1 R:=by
 refine j2x xs.length hz hn (λσ=>∃u v,σ=u::v::fr) Pv ⟨u,v,rfl⟩ h0 kp (λi H hi e=>⟨xs,zs,hx.mono e,hy.mono e,hi,by omega⟩) (λH e=>⟨xs,zs,hx.mono e,hy.mono e,.inl (yg _)⟩) len ?_ fin;rintro i σ ys H x H' G hi e ⟨u,v,rfl⟩ pv ⟨r,y1,y2,nr,rfl,rfl,y⟩ hG;obtain⟨e1,e2⟩:=y xs zs (hx.mono e) (hy.mono e);exact⟨r,[y1,y2],rfl,SqT.of j07,rfl,y1,[y2],rfl,y2,[],rfl,rfl,hG _ _ ⟨_,_,rfl⟩ (turn i y1 y2 ys _ _ e1 e2 e (j0p nr) pv)⟩
section
variable{prog:yy}{w:World}{A:gw}{E:Value->ye->Prop}{s:ye}
theorem jbr{b:Bool}{l:Addr}{vs:List Value}{Q:List Value->ye->Prop}(hl:SqA b s.heap l vs.toArray)(hz:vs.length<=sizeLine)
  (h:Q vs {s with heap:=(s.heap.push (seqObj "list" #[] 0)).update s.heap.objs.size (vn (·++vs.toArray))}):wpAny (model prog w) A (collect (.ref l)) Q E s:=by
 cases b with
 |false=>exact collect_list hl h hz
 |true=>
  obtain⟨ob,eb,cb,nb,db⟩:=id hl;unfold collect;refine y0 (y4n (y0d entry_proto_collect' ?_));show wpAny _ _ (do again (.builtin "list.__iadd__" ⟨[<- newList [],.ref l],[]⟩)) _ _ _;refine y0 (y1o (y8 ⟨y99 _ (by decide +kernel),y0d entry_list_iadd' ?_⟩));show wpAny _ _ (uk (.ref s.heap.objs.size) (.ref l) (.ref s.heap.objs.size)) _ _ {s with heap:=s.heap.push (seqObj "list" #[] 0)};unfold uk;have eb':(s.heap.push (seqObj "list" #[] 0)).get? l=some ob:=yc _ eb;refine y0 (y28 (T:="tuple") ⟨ob,eb',cb⟩ ?_);rw[if_pos (by rw[show(y1j "tuple" == y1j "tuple")=true from rfl];simp)];refine y0 (yal eb' db (y0 (yal (xs:=#[]) (n:=0) (yi _ rfl) rfl ?_)));rw[if_neg (by simp)];refine y0 (y75 (xs:=#[]) (n:=0) (yi _ rfl) rfl (y8 ?_) (gm _) (by show(#[]++vs.toArray).size<=sizeLine+1;simp only[Array.size_append,yj,vm];omega));show wpAny (model prog w) A (do let o <- load s.heap.objs.size;match o.data with | .seq xs _=>pure xs.toList|_=>unsupported "internal:collect") Q E {s with heap:=(s.heap.push (seqObj "list" #[] 0)).update s.heap.objs.size (vn (·++vs.toArray))};refine y0 (ya9 (yb9 (yi _ rfl) _) ?_);show wpAny _ _ (pure ((#[]:Array Value)++vs.toArray).toList) Q E _;rw[show((#[]:Array Value)++vs.toArray).toList=vs by simp];exact y8 h
theorem jl5{vs:List Value}{Q:Value->ye->Prop}(hl:SqA b s.heap l vs.toArray)(hz:vs.length<=sizeLine)(hI:y2f vs ns)(h64:vs.length<64)
  (h:∀(out:Array Value) (ns':List Int),y2f out.toList ns'->ns'.Perm ns->ns'.Pairwise (·<=·)->Q (.ref (s.heap.objs.size+1)) {s with heap:=sortedAll s.heap vs out}):wpAny (model prog w) A (call (.builtin "sorted") [.ref l]) Q E s:=by
 refine ui y5r y4z y4y (y4x _) ?_;unfold y2a;refine y0 (m:=checkCount "sorted" 1 1 _) (y8 (y0 (jbr hl hz (y0 (y1o ?_)))));have n1:((s.heap.push (seqObj "list" #[] 0)).update s.heap.objs.size (vn (·++vs.toArray))).objs.size=s.heap.objs.size+1:=by rw[y7b,yce]
 have o1:(((s.heap.push (seqObj "list" #[] 0)).update s.heap.objs.size (vn (·++vs.toArray))).push (seqObj "list" vs.toArray 0)).get? (s.heap.objs.size+1)=some (seqObj "list" vs.toArray 0):=by rw[<- n1];exact yi _ rfl
 show wpAny _ _ _ _ _ {s with heap:=((s.heap.push (seqObj "list" #[] 0)).update s.heap.objs.size (vn (·++vs.toArray))).push (seqObj "list" vs.toArray 0)};rw[n1];exact y0 (vg (xw y3a ⟨_,o1,rfl⟩ y2m (y8t o1 hI h64 λout ns' a1 a2 a3=>⟨_,rfl,y8 ⟨_,rfl,h out ns' a1 a2 a3⟩⟩) (y38 _)))
end
section
variable{X:Cx}
def j90(K:y9):List V->Hp->VK->Prop:=λxs H Q=>∃(p:Addr) (ns:List Int) (c:Bool),xs=[.ref p]/\SqE K H p (ns.map V.int) c/\ns.length<64/\∀l (ns':List Int),H l=none->ns'.Perm ns->ns'.Pairwise (·<=·)->Q (.ref l) (upd H l (.lst (ns'.map V.int)))
theorem jl6:CallR X (.builtin "sorted") (j90 X.K):=by
 intro pins s σ H xs us Q I r h;obtain⟨p,ns,c,rfl,hq,h64,q⟩:=h;obtain⟨u,rfl,rx⟩:=j65 r;cases rx;obtain⟨its,r',pl,hz⟩:=I.sqe hq;have hi:y2f its ns:=j1v r';have hlen:=r'.length;rw[y3]at hlen hz;refine jl5 pl (by omega) hi (by omega) λout ns' a1 a2 a3=>?_;obtain⟨e,he⟩:=sortedAll_at s.heap its out;refine⟨.ref (s.heap.objs.size+1),_,I.laid (t':=s.toks) (λb o q=>sortedAll_old q) (y0l _) (show ObjOk X.prog X.w _ _ _ (.lst (ns'.map V.int))from⟨by rw[y3,a2.length_eq];exact hz,out.toList,e,j2j a1,by simpa using he⟩),rfl,q _ ns' (I.hok.fresh (y0l _)) a2 a3⟩
end
mutual
def D.py:D->PyData
 | .non=>.none | .bl b=>.bool b | .int i=>.int i | .str x=>.str x | .tup l=>.tuple (D.pyL l) | .lst l=>.list (D.pyL l) | .dct=>.dict []
def D.pyL:List D->List PyData
 |[]=>[]
 |d::r=>d.py::D.pyL r
def D.eqOk:D->Bool
 | .str x=>yah x
 | .tup l=>D.eqOkL l
 | .lst l=>D.eqOkL l
 | .dct=>false
 |_=>true
def D.eqOkL:List D->Bool
 |[]=>true
 |d::r=>d.eqOk&&D.eqOkL r
end
mutual
theorem D.canLay:∀d:D,d.eqOk=true->d.py.canLay0=true
 | .non,_=>by simp[D.py,y35]
 | .bl _,_=>by simp[D.py,y35]
 | .int _,_=>by simp[D.py,y35]
 | .str x,h=>by simp only[D.eqOk]at h;simpa[D.py,y35] using h
 | .tup l,h=>by simp only[D.eqOk]at h;simpa[D.py,y35] using D.canLayL l h
 | .lst l,h=>by simp only[D.eqOk]at h;simpa[D.py,y35] using D.canLayL l h
 | .dct,h=>by simp[D.eqOk]at h
theorem D.canLayL:∀l:List D,D.eqOkL l=true->y6j (D.pyL l)=true
 |[],_=>by simp[D.pyL,y6j]
 |d::r,h=>by
  simp only[D.eqOkL,uu]at h;simp[D.pyL,y6j,D.canLay d h.1,D.canLayL r h.2]
theorem D.pyDepth:∀d:D,d.py.depth<=d.depth+1
 | .non=>by simp[D.py,y3n]
 | .bl _=>by simp[D.py,y3n]
 | .int _=>by simp[D.py,y3n]
 | .str _=>by simp[D.py,y3n]
 | .tup l=>by have:=D.pyDepthL l;simp only[D.py,y3n,D.depth];omega
 | .lst l=>by have:=D.pyDepthL l;simp only[D.py,y3n,D.depth];omega
 | .dct=>by simp[D.py,y3n,PyData.depthKv,D.depth]
theorem D.pyDepthL:∀l:List D,y81 (D.pyL l)<=D.depthL l+1
 |[]=>by simp[D.pyL,y81]
 |d::r=>by have a:=D.pyDepth d;have b:=D.pyDepthL r;simp only[D.pyL,y81,D.depthL];omega
end
section
variable{X:Cx}{pins:List (Addr×Obj)}{σ:St}{H:Hp}{s:ye}
mutual
theorem j3r(I:Inv X pins σ H s):∀(d:D) {v:V}{u:Value},Rep H d v->RelV v u->d.eqOk=true->∃as,Reads s.heap u d.py as
 | .non,v,u,h,r,_=>by unfold Rep at h;subst h;cases(show u=ud from r);exact⟨_,.none⟩
 | .bl b,v,u,h,r,_=>by unfold Rep at h;subst h;cases(show u=y6o b from r);exact⟨_,.bool b⟩
 | .int i,v,u,h,r,_=>by unfold Rep at h;subst h;obtain⟨t,rfl⟩:=r;exact⟨_,.int i t⟩
 | .str x,v,u,h,r,_=>by unfold Rep at h;subst h;obtain⟨t,rfl⟩:=r;exact⟨_,.str x t⟩
 | .tup l,v,u,h,r,ok=>by
  unfold Rep at h;obtain⟨p,xs,rfl,hp,hl⟩:=h;cases(show u=xy p from r);obtain⟨its,rv,ht,hz⟩:=I.tuple (SqT.of (K:=X.K) hp);obtain⟨as,ra⟩:=readsL_of I l hl rv (by simpa[D.eqOk] using ok);obtain⟨o,e,c,n,dt⟩:=ht;exact⟨as,.tuple e c dt (by simpa using ra)⟩
 | .lst l,v,u,h,r,ok=>by
  unfold Rep at h;obtain⟨p,xs,rfl,hp,hl⟩:=h;cases(show u=xy p from r);obtain⟨its,rv,ht,hz⟩:=I.list (SqL.of (K:=X.K) hp);obtain⟨as,ra⟩:=readsL_of I l hl rv (by simpa[D.eqOk] using ok);obtain⟨o,e,c,n,dt⟩:=ht.isList;exact⟨_,.list e c dt (by simpa using ra)⟩
 | .dct,v,u,h,r,ok=>by simp[D.eqOk]at ok
theorem readsL_of(I:Inv X pins σ H s):∀(l:List D) {vs:List V}{us:List Value},RepL H l vs->Vals vs us->D.eqOkL l=true->∃as,ReadsAll s.heap us (D.pyL l) as
 |[],vs,us,h,r,_=>by unfold RepL at h;subst h;cases r;exact⟨_,.nil⟩
 |d::l,vs,us,h,r,ok=>by
  unfold RepL at h;obtain⟨x,t,rfl,hd,hl⟩:=h;simp only[D.eqOkL,uu]at ok;cases r with
  |cons r1 r2=>
   obtain⟨as,a1⟩:=j3r I d hd r1 ok.1;obtain⟨bs,b1⟩:=readsL_of I l hl r2 ok.2;exact⟨_,.cons a1 b1⟩
end
def eqD(a b:D):Bool:=yby a.py b.py
def rEqD(neg:Bool):R2:=λx y H Q=>∃a b,Rep H a x/\Rep H b y/\a.eqOk=true/\b.eqOk=true/\a.depth<=20/\Q (.bl (if neg then !eqD a b else eqD a b)) H
def rEqU:R2:=λx y H Q=>rEq x y H Q\/rEqD false x y H Q
def rNeU:R2:=λx y H Q=>rNe x y H Q\/rEqD true x y H Q
theorem op_eqD(hr:Room k X.A):OpR X (compareOp .Eq) (rEqD false):=by
 intro pins s σ H x y v u Q I rx ry h;obtain⟨a,b,ha,hb,oa,ob,hd,q⟩:=h;obtain⟨as,r1⟩:=j3r I a ha rx oa;obtain⟨bs,r2⟩:=j3r I b hb ry ob;have h1:=D.pyDepth a;exact SeqAt.compareEq_reads r1 r2 (D.canLay a oa) (D.canLay b ob) (by have:=hr.units;omega) ⟨.bl (eqD a b),H,I,rfl,q⟩
theorem oEq(hr:Room k X.A):OpR X (compareOp .Eq) rEqU:=op_eq.or (op_eqD hr)
end
section
variable{X:Cx}
def jl7(K:y9):R2:=λx y H Q=>∃a b xs ys,x=.ref a/\y=.ref b/\SqT K H a xs/\SqT K H b ys/\xs.length+ys.length<=1000000/\
 (xs=[]->Q (.ref b) H)/\(xs≠[]->ys=[]->Q (.ref a) H)/\(xs≠[]->ys≠[]->∀p,H p=none->Q (.ref p) (upd H p (.tup (xs++ys))))
theorem jhv:OpR X (binaryOp .Add) (jl7 X.K):=by
 intro pins s σ H x y v u Q I rx ry h;obtain⟨a,b,xs,ys,rfl,rfl,ha,hb,hl,q0,q1,q2⟩:=h;cases rx;cases ry;obtain⟨is1,r1,t1,z1⟩:=I.tuple ha;obtain⟨is2,r2,t2,z2⟩:=I.tuple hb;have l1:=r1.length;have l2:=r2.length;have hz:is1.length+is2.length<=sizeLine:=by rw[xo];omega
 by_cases e:is1=[]
 ·subst e;have ex:xs=[]:=vo.mp (by simpa using l1);obtain⟨⟨cls,dd,data,sl⟩,ho,hc,n,hd⟩:=id t1;obtain⟨⟨cls2,dd2,data2,sl2⟩,ho2,hc2,n2,hd2⟩:=id t2;simp only at hc hd hc2 hd2;subst hc hd hc2 hd2;exact yak ⟨_,ho,rfl⟩ ⟨_,ho2,rfl⟩ y7g y9o y4c y41 (y3o _ _)
   (tuple_addW0 a b _ is2.toArray n n2 dd dd2 sl sl2 (by simp)) ⟨ho,ho2,⟨.ref b,H,I,rfl,q0 ex⟩⟩
 ·have ex:xs≠[]:=λz=>e (vo.mp (by rw[<- l1,z];rfl));refine HT.cat_tup t1 t2 e (λw=>⟨.ref a,H,I,rfl,q1 ex (vo.mp (by rw[l2,w];rfl))⟩) (λw=>?_) hz;have ey:ys≠[]:=λz=>w (vo.mp (by rw[<- l2,z];rfl));refine⟨.ref s.heap.objs.size,_,I.laid (t':=s.toks) (λb o e=>yc _ e) (yg _) (show ObjOk X.prog X.w _ _ _ (.tup (xs++ys))from⟨by rw[xa];omega,is1++is2,r1.append r2,TupN.new _ _⟩),rfl,q2 ex ey _ (I.hok.fresh (yg _))⟩
def jl8(K:y9):R2:=λx y H Q=>(rI0 (λi j=>.int (i+j)) x y H Q\/rCat x y H Q)\/jl7 K x y H Q
theorem oAddV:OpR X (binaryOp .Add) (jl8 X.K):=(op_add.or op_cat).or jhv
end
variable{lo hi:Option Int}
section
variable{K:y9}{σ:St}{H:Hp}{Q:VK}{D:Ends}
theorem jl9(q:Q (.int (i+j)) H):jl8 K (.int i) (.int j) H Q:=.inl (.inl ⟨i,j,rfl,rfl,q⟩)
theorem r_catL{b:Addr}(h1:H l=some (.lst xs))(h2:H b=some (.lst zs))(hl:xs.length+zs.length<=1000000)(q:∀p H',H p=none->H' p=some (.lst (xs++zs))->Ext H H'->Q (.ref p) H'):jl8 K (.ref l) (.ref b) H Q:=
 .inl (.inr ⟨l,b,xs,zs,rfl,rfl,h1,h2,gj hl (by rw[xo];decide),λp n=>q p _ n j07 (j0p n)⟩)
theorem r_catT{b:Addr}(h1:H l=some (.tup xs))(h2:H b=some (.tup zs))(hl:xs.length+zs.length<=1000000)(q:∀p H',H' p=some (.tup (xs++zs))->Ext H H'->Q (.ref p) H'):jl8 K (.ref l) (.ref b) H Q:=
 .inr ⟨l,b,xs,zs,rfl,rfl,SqT.of h1,SqT.of h2,hl,λe=>q b H (by rw[e];exact h2) Ext.rfl',λ_ e=>q l H (by rw[e,y0a];exact h1) Ext.rfl',λ_ _ p n=>q p _ j07 (j0p n)⟩
theorem r_sl{r:V->Option Int->Option Int->Hp->VK->Prop}{tl th:TO}(q:te σ H λx H1=>tl σ H1 λl H2=>th σ H2 λu H3=>r x l u H3 Q):tSl r te tl th σ H Q:=q
theorem jhw{R:Option Int->Hp->Prop}(q:R none H):jfz σ H R:=q
def rPart(x:V)(R:Option Int->Hp->Prop)(H:Hp):Prop:=∃i,x=.int i/\R (some i) H
theorem r_part{R:Option Int->Hp->Prop}(q:te σ H λx H1=>rPart x R H1):tPart te σ H R:=q
theorem jla{R:Option Int->Hp->Prop}(q:R (some i) H):rPart (.int i) R H:=⟨i,rfl,q⟩
theorem jjr(h:H p=some (.lst xs))(q:∀l H',H l=none->H' l=some (.lst (cutV xs lo hi))->Ext H H'->Q (.ref l) H'):rSlU K (.ref p) lo hi H Q:=.inr ⟨p,xs,rfl,SqL.of h,λl n=>q l _ n j07 (j0p n)⟩
theorem jnp(h:H p=some (.tup xs))(nw:¬ (HT.sIx xs.length 0 lo=0/\HT.sIx xs.length xs.length hi=xs.length))(q:∀l H',H l=none->H' l=some (.tup (cutV xs lo hi))->Ext H H'->Q (.ref l) H'):rSlU K (.ref p) lo hi H Q:=.inl ⟨p,xs,rfl,SqT.of h,nw,λl n=>q l _ n j07 (j0p n)⟩
theorem r_zip2{ta:TA}{R:It->Hp->Prop}(q:ta σ H λvs H1=>∃p q xs ys c d,vs=[.ref p,.ref q]/\SqE K H1 p xs c/\SqE K H1 q ys d/\R (Itz2 K c d p q) H1):iZip2 K ta σ H R:=q
theorem jeh(h:H p=some (.lst (ns.map V.int)))(hl:ns.length<64)(q:∀l (ns':List Int) H',H l=none->ns'.Perm ns->ns'.Pairwise (·<=·)->H' l=some (.lst (ns'.map V.int))->Ext H H'->Q (.ref l) H'):j90 K [.ref p] H Q:=
 ⟨p,ns,false,rfl,SqL.of h,hl,λl ns' n a b=>q l ns' _ n a b j07 (j0p n)⟩
theorem jei(h:H p=some (.tup (ns.map V.int)))(hl:ns.length<64)(q:∀l (ns':List Int) H',H l=none->ns'.Perm ns->ns'.Pairwise (·<=·)->H' l=some (.lst (ns'.map V.int))->Ext H H'->Q (.ref l) H'):j90 K [.ref p] H Q:=
 ⟨p,ns,true,rfl,SqT.of h,hl,λl ns' n a b=>q l ns' _ n a b j07 (j0p n)⟩
theorem r_eqUI(q:Q (.bl (decide (i=j))) H):rEqU (.int i) (.int j) H Q:=.inl (r_eqI q)
theorem r_eqUB{i j:Bool}(q:Q (.bl (decide (i=j))) H):rEqU (.bl i) (.bl j) H Q:=.inl (r_eqB q)
theorem r_eqUS{i j:Str}(q:Q (.bl (decide (i=j))) H):rEqU (.str i) (.str j) H Q:=.inl (r_eqS q)
theorem r_eqD{a b:L2.D}(ha:Rep H a x)(hb:Rep H b y)(oa:a.eqOk=true)(ob:b.eqOk=true)(hd:a.depth<=20)(q:Q (.bl (eqD a b)) H):rEqU x y H Q:=.inr ⟨a,b,ha,hb,oa,ob,hd,q⟩
theorem jnq(h:H p=some (.tup xs))(fx:j8r x=true)(fl:xs.all j8r=true)(q:Q (.bl (inV x xs)) H):rInU K false x (.ref p) H Q:=⟨p,xs,rfl,.inr (SqT.of h),fx,fl,q⟩
theorem j2y(h:H p=some (.tup xs))(fx:j8r x=true)(fl:xs.all j8r=true)(q:Q (.bl (!inV x xs)) H):rInU K true x (.ref p) H Q:=⟨p,xs,rfl,.inr (SqT.of h),fx,fl,q⟩
theorem j7t{Y:V->Hp->Prop}{N:Hp->Prop}(q:te σ H Y):jaa [] σ H λb H3=>if b=true then te σ H3 Y else N H3:=by
 show(if true=true then te σ H Y else N H);rw[if_pos rfl];exact q
theorem jhx{t:TT}(q:t σ H λb H1=>if b=true then R true H1 else R false H1):jaa [t] σ H R:=q
end
theorem j3i(ns:List Int):(ns.map V.int).all j8r=true:=by
 rw[y52];intro x hx;obtain⟨i,_,rfl⟩:=yk.mp hx;rfl
theorem j59(i:Int)(ns:List Int):inV (.int i) (ns.map V.int)=decide (i∈ns):=by
 unfold inV;rw[ycx,y1s,y53,decide_eq_true_iff];constructor
 ·rintro⟨x,hx,e⟩;have:x=i:=by simpa[eqV] using e
  exact this ▸ hx
 ·intro h;exact⟨i,h,by simp[eqV]⟩
theorem jbs:∀ns ms:List Int,y5i (D.pyL (ns.map D.int)) (D.pyL (ms.map D.int))=decide (ns=ms)
 |[],[]=>by simp[D.pyL,y5i]
 |[],_::_=>by simp[D.pyL,y5i]
 |_::_,[]=>by simp[D.pyL,y5i]
 |a::r,b::t=>by
  simp only[xm,D.pyL,y5i,D.py,yby,jbs r t];rw[y1s];simp
theorem jbt(ns ms:List Int):eqD (.tup (ns.map D.int)) (.tup (ms.map D.int))=decide (ns=ms):=by
 unfold eqD;simp only[D.py,yby];exact jbs ns ms
theorem j5a(ns:List Int):D.eqOkL (ns.map D.int)=true:=by
 induction ns with
 |nil=>rfl
 |cons n r ih=>show(D.eqOk (.int n)&&D.eqOkL (r.map D.int))=true;rw[ih];rfl
theorem Rep.tupInts(h:H p=some (.tup (ns.map V.int))):Rep H (.tup (ns.map D.int)) (.ref p):=Rep.tupI h (RepL.ints ns)
theorem jej{ms:List Int}(h1:H p=some (.tup (ns.map V.int)))(h2:H q=some (.tup (ms.map V.int)))(k:Q (.bl (decide (ns=ms))) H):rEqU (.ref p) (.ref q) H Q:=
 r_eqD (Rep.tupInts h1) (Rep.tupInts h2) (j5a _) (j5a _) (by show D.depthL _+1<=20;rw[j2v];decide) (by rw[jbt];exact k)
theorem j4s{ns:List Int}{i:Nat}{x:V}(h:(ns.map V.int)[i]?=some x):∃n,ns[i]?=some n/\x=.int n:=by
 rw[xc]at h;cases e:ns[i]? with
 |none=>rw[e]at h;cases h
 |some n=>rw[e]at h;cases h;exact⟨n,rfl,rfl⟩
theorem j0x{k:Int}(h0:0<=k)(h1:k<ns.length):atI (ns.map V.int) k=some (.int (ns.getD k.toNat 0)):=by
 refine j4q h0 ?_;rw[xc,y4 (by omega),yd,y4 (by omega)];rfl
structure FunD(K:y9)(x qual:Str)(st:Stmt)(f:Addr)(fd:xi)(ds:List Value):Prop where
 ex:∃(oc:Value) (od:Option Addr) (T:Addr) (kV doc pm:Value) (an:Option Addr) (cdv ct:Value) (osl:Array (Option Value)) (tc:Value) (td:Option Addr) (tn:Nat) (tsl:Array (Option Value)),
  fd=ut x qual (j1k st) (j1d st) (j05 st) (.ref T) kV doc pm an cdv ct/\K.lookup f=some ⟨oc,od,.func fd,osl⟩/\y6a K cdv qual=true/\K.lookup T=some ⟨tc,td,.seq ds.toArray tn,tsl⟩
 kp:y0w K (.ref f)=true
structure IsC(K:y9)(C B:Addr):Prop where
 ha:gc K (.ref C) "__class__"=some (some (.builtin "object.__class__"))
 hn:y0y K (.builtin "object.__class__") "__get__"=some (some (.builtin "getset_descriptor.__get__"))
 htk:y44 K (.builtin "object.__class__")=some true
 hm:y5j K C (.type "object")=some true
 ki:y0n K (.ref C) (.ref B)=some true
section
variable{K:y9}{α β γ:Type}{te:TE}{acc:Addr}{fr:St}{H1:Hp}{R:Hp->Prop}
theorem jek(mk:β->V)(f:Nat->β){u:Option V}(hz:n<=1000000)(hn:H1 acc=none)
  (turn:∀(i:Nat) H (Y:V->Hp->Prop),i<n->Ext H1 H->(∀H',Ext H H'->Y (mk (f i)) H')->te (some (.int (i:Nat))::fr) H Y)
  (fin:∀H,Ext H1 H->H acc=some (.lst (((v8 n).map f).map mk))->R H):j8w (Itr 0 n) (j8k 0) [] te acc (u::fr) H1 R:=by
 refine j1g hz hn (λj ys _=>ys=((v8 j).map f).map mk) rfl (λ_ _ _ _ _ h=>h) (λj ys H _ h=>by rw[h];simp) ?_ ?_
 ·intro j ys H hj e h Y N hY hN;rw[show((0:Int)+(j:Nat))=(j:Nat) by omega];refine j7t (turn j H Y hj e λH' e'=>hY _ _ e' ?_);rw[y19,h];simp
 ·intro ys H e ha h;refine fin H e ?_;rw[ha,h]
theorem j1w(P:Int->Prop){u:Option V}(hz:n<=1000000)(hn:H1 acc=none)
  (turn:∀(i:Nat) H (Y:V->Hp->Prop),i<n->Ext H1 H->(∀x H',P x->Ext H H'->Y (.int x) H')->te (some (.int (i:Nat))::fr) H Y)
  (fin:∀(xs:List Int) H,xs.length=n->(∀x∈xs,P x)->Ext H1 H->H acc=some (.lst (xs.map V.int))->R H):j8w (Itr 0 n) (j8k 0) [] te acc (u::fr) H1 R:=by
 refine j1g hz hn (λj ys _=>∃xs:List Int,ys=xs.map V.int/\xs.length=j/\∀x∈xs,P x) ⟨[],rfl,rfl,by simp⟩ (λ_ _ _ _ _ h=>h) (λj ys H _ ⟨xs,h,l,_⟩=>by rw[h,y3];omega) ?_ ?_
 ·rintro j ys H hj e ⟨xs,rfl,hl,hp⟩ Y N hY hN;rw[show((0:Int)+(j:Nat))=(j:Nat) by omega];refine j7t (turn j H Y hj e λx H' hx e'=>hY _ _ e' ⟨xs++[x],by simp,by simp[hl],λy hy=>?_⟩);rcases x0.mp hy with z|z
  ·exact hp y z
  ·rw[yb.mp z];exact hx
 ·rintro ys H e ha ⟨xs,rfl,hl,hp⟩;exact fin xs H hl hp e ha
end
section
variable{X:Cx}
open Classical in
theorem op_neD(hr:Room k X.A):OpR X (compareOp .NotEq) (rEqD true):=by
 intro pins s σ H x y v u Q I rx ry h;obtain⟨a,b,ha,hb,oa,ob,hd,q⟩:=h;obtain⟨as,r1⟩:=j3r I a ha rx oa;obtain⟨bs,r2⟩:=j3r I b hb ry ob;have h1:=D.pyDepth a;exact SeqAt.compareNe_reads r1 r2 (D.canLay a oa) (D.canLay b ob) (by have:=hr.units;omega) ⟨.bl (!eqD a b),H,I,rfl,q⟩
theorem oNe(hr:Room k X.A):OpR X (compareOp .NotEq) rNeU:=jh7.or (op_neD hr)
end
section
variable{K:y9}{σ:St}{H:Hp}{Q:VK}
theorem r_neUS{i j:Str}(q:Q (.bl (!decide (i=j))) H):rNeU (.str i) (.str j) H Q:=.inl ⟨rfl,by
 rw[show decide (V.str i=V.str j)=decide (i=j)from decide_eq_decide.mpr ⟨λz=>by cases z;rfl,λz=>by rw[z]⟩];exact q⟩
theorem r_neD{a b:L2.D}(ha:Rep H a x)(hb:Rep H b y)(oa:a.eqOk=true)(ob:b.eqOk=true)(hd:a.depth<=20)(q:Q (.bl (!eqD a b)) H):rNeU x y H Q:=.inr ⟨a,b,ha,hb,oa,ob,hd,q⟩
end
section
variable{X:Cx}{pins:List (Addr×Obj)}{σ:St}{H:Hp}{s:ye}{h':Heap}{n:Nat}
open Classical in
end
def XP(X:Cx)(pins:List (Addr×Obj))(σ:St)(E:XK)(e:Value)(s:ye):Prop:=
 ∃n H a C dx,e=.ref a/\X.s₀.heap.objs.size<=n/\(∀p∈X.pn++pins,p.1<n)/\Inv X pins σ H s/\Err n H s.heap a C dx .none/\E C dx H
structure Catch(K:y9)(C L:Addr):Prop where
 ex:∃bm bl,ErrC K C bm/\ErrC K L bl/\(xy C::bm).contains (.ref L)=true
open PySem.Builtin PySem.Builtin.ObjectAttr
structure ErrI(K:y9)(C:Addr):Prop where
 at_:∃nm q N bs bm sn sub ab col dd k0 k1 k2 k3 k5 newId,K.lookup C=some (excClassObj nm q C N bs bm true sn sub ab col dd k0 k1 k2 k3 k5 newId)/\bm.contains (.type "BaseException")=true
 ga:gc K (.ref C) "__getattribute__"=some (some (.builtin "BaseException.__getattribute__"))
 gh:gc K (.ref C) "__getattr__"=some none
 ca:gc K (.ref C) "__class__"=some (some (.builtin "object.__class__"))
 cn:y0y K (.builtin "object.__class__") "__get__"=some (some (.builtin "getset_descriptor.__get__"))
 ct:y44 K (.builtin "object.__class__")=some true
 cm:y5j K C (.type "object")=some true
structure ErrK(K:y9)(C:Addr)(bm:List Value)(f:Addr):Prop where
 lk:∃nm q N bs sn sub ab col dd k0 k1 k2 k3 k5,K.lookup C=some (excClassObj nm q C N bs bm true sn sub ab col dd k0 k1 k2 k3 k5 "ValueError.__new__")
 init:gc K (.ref C) "__init__"=some (some (.ref f))
 fn:y62 K (.ref f)=true
 kp:y0w K (.ref C)=true
 set:gc K (.ref C) "__setattr__"=some (some (.builtin "object.__setattr__"))
 row:gc K (.ref C) "row"=some none
 ga:gc K (.ref C) "__getattribute__"=some (some (.builtin "BaseException.__getattribute__"))
 gh:gc K (.ref C) "__getattr__"=some none
 ca:gc K (.ref C) "__class__"=some (some (.builtin "object.__class__"))
 cn:y0y K (.builtin "object.__class__") "__get__"=some (some (.builtin "getset_descriptor.__get__"))
 ct:y44 K (.builtin "object.__class__")=some true
 cm:y5j K C (.type "object")=some true
section
variable{K:y9}{σ:St}{H:Hp}{Q:VK}
theorem j7u{α:Type}(x:α):∀k:Nat,(xk k [x]).flatten=xk k x
 |0=>rfl
 |k+1=>by rw[ue,y1x,j7u x k,ue];rfl
theorem r_rep1{k:Int}(h:H l=some (.lst [x]))(k0:0<=k)(k1:k<=1000000)(q:∀p H',H p=none->H' p=some (.lst (xk k.toNat x))->Ext H H'->Q (.ref p) H'):rRep (.ref l) (.int k) H Q:=
 ⟨l,k,[x],rfl,rfl,h,by omega,by omega,by rw[xo];show 1*k.toNat<=_;omega,λp n=>q p _ n (by rw[j7u];exact j07) (j0p n)⟩
end
theorem iteTc(h:c=true)(q:A):if c=true then A else B:=by rw[h];exact iteT q
theorem iteFc(h:c=false)(q:B):if c=true then A else B:=by rw[h];exact iteF q
structure RoomW(k:Nat)(A:gw):Prop where
 dp:A.depth+3*k+5<recursionLimit
 un:A.units+16*k+200<cLine
structure FnOkW(P:yy)(w:World)(K:y9)(mg:Str->Option Value)(base:Heap)(CX:CXT)(k:Nat)(f:Addr)(fd:xi)(ps:List Str)(sp:Sp):Prop where
 len:∀vs H Q E,sp vs H Q E->vs.length=ps.length
 run:∀(A:gw) (outer:List Env) (s:ye) (H:Hp) (args:Args) (us:List Value) (vs:List V) (Q:VK) (E:XK),RoomW k A->Env0 P w K mg base A outer s H->y6r s fd args (ps.zip us)->Vals vs us->sp vs H Q E->
  codeAny (model P w) A (.call (.ref f) args) (CR CX outer P w H s Q E) s
def mulS(x:Str)(n:Nat):Str:=⟨((xk n x.cps.toList).flatten).toArray⟩
theorem jbu(x:Str)(n:Nat):(mulS x n).length=n*x.length:=by
 show((xk n x.cps.toList).flatten).toArray.size=_;rw[yj,jg2];rfl
theorem foldA(its:List Nat):∀(k:Nat) (acc:List Nat),y9v (λx1 x2=>x1++x2) acc.toArray (xk k its.toArray)=(acc++(xk k its).flatten).toArray
 |0,acc=>by simp
 |k+1,acc=>by
  rw[ue,y3v,show acc.toArray++its.toArray=(acc++its).toArray by simp,foldA its k (acc++its),ue,y1x,y0x]
theorem jlb(x:Str)(n:Nat):Txt.mul x n=mulS x n:=by
 unfold Txt.mul mulS;by_cases h1:(n:Int)<1
 ·have:n=0:=by omega
  subst this;rfl
 ·rw[if_neg h1];by_cases h2:((n:Int)==1||x.length==0)=true
  ·rw[if_pos h2];rw[Bool.or_eq_true,beq_iff_eq,beq_iff_eq]at h2;rcases h2 with h2|h2
   ·have:n=1:=(by omega);subst this;simp
   ·have e:x.cps.toList=[]:=by
     have:x.cps.toList.length=0:=h2;exact vo.mp this
    have e2:x.cps=#[]:=(by rw[<- y8e (xs:=x.cps),e]);rw[e];have:(xk n ([]:List Nat)).flatten=[]:=(by simp);rw[this,<- e2]
  ·rw[if_neg h2,yq];have:=foldA x.cps.toList n [];simp only[y8e,y3y]at this;rw[<- this]
section
variable{X:Cx}
def rAddS:R2:=λx y H Q=>∃i j,x=.str i/\y=.str j/\i.length+j.length<=sizeLine/\Q (.str (i++j)) H
def jlc(K:y9):R2:=λx y H Q=>jl8 K x y H Q\/rAddS x y H Q
theorem j0t:OpR X (binaryOp .Add) (jlc X.K):=oAddV.or jb0
def rMulS:R2:=λx y H Q=>∃(i:Str) (k:Int),x=.str i/\y=.int k/\0<=k/\k<=1000/\i.length<=1000/\Q (.str (mulS i k.toNat)) H
theorem jld:OpR X (binaryOp .Mult) rMulS:=by
 intro pins s σ H x y v u Q I rx ry h;obtain⟨i,k,rfl,rfl,k0,k1,hl,q⟩:=h;obtain⟨t,rfl⟩:=rx;obtain⟨t',rfl⟩:=ry;obtain⟨n,rfl⟩:∃n:Nat,k=n:=⟨k.toNat,by omega⟩
 rw[yq]at q;refine SB.mul ⟨?_,λh1 _=>?_,λ_ _=>?_⟩ λt2 tk=>⟨.str (mulS i n),H,I.tok _,⟨t2,by rw[jlb]⟩,q⟩
 ·rw[Bool.or_eq_false_iff,decide_eq_false_iff_not,decide_eq_false_iff_not];omega
 ·have h3:(i.length:Int)*n<=1000000:=by
   have:i.length*n<=1000*1000:=y8r hl (by omega);have:=Int.ofNat_le.mpr this;rw[Int.natCast_mul]at this;omega
  have h4:(i.length:Int)<=(2 ^ 63-1)/n:=Int.le_ediv_of_mul_le (by omega) (by omega);omega
 ·rw[yq];unfold ydb;have:i.length*n<=1000*1000:=y8r hl (by omega);rw[decide_eq_false_iff_not,xo];omega
def jpt:R2:=λx y H Q=>rI CMulB (λi j=>.int (i*j)) x y H Q\/rMulS x y H Q
theorem jap:OpR X (binaryOp .Mult) jpt:=jkm.or jld
def rLeS:R2:=λx y H Q=>∃i j,x=.str i/\y=.str j/\Q (.bl (!decide (j.cps.toList<i.cps.toList))) H
theorem op_leS:OpR X (compareOp .LtE) rLeS:=by
 intro pins s σ H x y v u Q I rx ry h;obtain⟨i,j,rfl,rfl,q⟩:=h;obtain⟨t,rfl⟩:=rx;obtain⟨t',rfl⟩:=ry;exact PySem.P.le_str ⟨.bl _,H,I,rfl,q⟩
def rLeW:R2:=λx y H Q=>rI0 (λi j=>.bl (decide (i<=j))) x y H Q\/rLeS x y H Q
theorem oLeW:OpR X (compareOp .LtE) rLeW:=op_le.or op_leS
def jnr(K:y9):List V->Hp->VK->Prop:=λxs H Q=>rLen K xs H Q\/∃z:Str,xs=[.str z]/\z.length<=sizeLine/\Q (.int z.length) H
theorem j2e:CallR X (.builtin "len") (jnr X.K):=cLen.or j7o
end
def AscS(x:Str):Prop:=x.cps.all (·<128)=true
theorem jel:isSubtype (.type "tuple") (.type "set")=pure false:=by rw[y39];kernel_rfl
theorem jbv:isSubtype (.type "tuple") (.type "frozenset")=pure false:=by rw[y39];kernel_rfl
abbrev newSet(led:Bool):Obj:={cls:=.type "set",dict:=none,data:=.set #[] 0 (.fresh 0 0 led)}
theorem j6d:∀{ss:List Str}{us:List Value},Vals (ss.map V.str) us->∀(i:Nat) (v:Value),us[i]?=some v->∃x t,ss[i]?=some x/\v=.str x t
 |[],us,r,i,v,h=>by cases r;simp at h
 |x::ss,us,r,i,v,h=>by
  cases r with
  |cons r1 r2=>
   cases i with
   |zero=>
    obtain⟨t,e⟩:=r1;simp at h;exact⟨x,t,rfl,by rw[<- h,e]⟩
   |succ i=>exact j6d r2 i v (by simpa using h)
theorem j6e:∀{ss:List Str}{us:List Value},Vals (ss.map V.str) us->ydu us ss
 |[],us,r=>by cases r;exact .nil
 |x::ss,us,r=>by
  cases r with
  |cons r1 r2=>
   obtain⟨t,e⟩:=r1;subst e;exact .cons x t (j6e r2)
theorem j91:∀{us:List Value}{ss:List Str},ydu us ss->Vals (ss.map V.str) us
 |_,_,.nil=>.nil
 |_,_,.cons x t h=>.cons ⟨t,rfl⟩ (j91 h)
variable{ss:List Str}
section
variable{prog:yy}{w:World}{A:gw}{E:Value->ye->Prop}{s:ye}
theorem jhy{vs:List Value}{Q:Value->ye->Prop}(hl:SqA b s.heap l vs.toArray)(hz:vs.length<=sizeLine)(hS:ydu vs ss)(h64:vs.length<64)
  (h:∀(out:Array Value) (ss':List Str),ydu out.toList ss'->ss'.Perm ss->sortedS ss'=true->Q (.ref (s.heap.objs.size+1)) {s with heap:=sortedAll s.heap vs out}):wpAny (model prog w) A (call (.builtin "sorted") [.ref l]) Q E s:=by
 refine ui y5r y4z y4y (y4x _) ?_;unfold y2a;refine y0 (m:=checkCount "sorted" 1 1 _) (y8 (y0 (jbr hl hz (y0 (y1o ?_)))));have n1:((s.heap.push (seqObj "list" #[] 0)).update s.heap.objs.size (vn (·++vs.toArray))).objs.size=s.heap.objs.size+1:=by rw[y7b,yce]
 have o1:(((s.heap.push (seqObj "list" #[] 0)).update s.heap.objs.size (vn (·++vs.toArray))).push (seqObj "list" vs.toArray 0)).get? (s.heap.objs.size+1)=some (seqObj "list" vs.toArray 0):=by rw[<- n1];exact yi _ rfl
 show wpAny _ _ _ _ _ {s with heap:=((s.heap.push (seqObj "list" #[] 0)).update s.heap.objs.size (vn (·++vs.toArray))).push (seqObj "list" vs.toArray 0)};rw[n1];refine y0 (vg (xw y3a ⟨_,o1,rfl⟩ y2m (list_sort_treeK strKind_oneLt o1 hS.keysOf (λv₁ v₂ rest e=>keyKind_strs (by rw[<- e];exact hS)) h64 λst' a1 a2=>⟨_,rfl,?_⟩) (y38 _)));obtain⟨ss',e1,e2,e3⟩:=sorted_out_str hS a1 a2;exact y8 ⟨_,rfl,h _ ss' e1 e2 e3⟩
end
section
variable{X:Cx}
def jle(K:y9):List V->Hp->VK->Prop:=λxs H Q=>∃(p:Addr) (ss:List Str) (c:Bool),xs=[.ref p]/\SqE K H p (ss.map V.str) c/\ss.length<64/\∀l (ss':List Str),H l=none->ss'.Perm ss->sortedS ss'=true->Q (.ref l) (upd H l (.lst (ss'.map V.str)))
theorem cSortS:CallR X (.builtin "sorted") (jle X.K):=by
 intro pins s σ H xs us Q I r h;obtain⟨p,ss,c,rfl,hq,h64,q⟩:=h;obtain⟨u,rfl,rx⟩:=j65 r;cases rx;obtain⟨its,r',pl,hz⟩:=I.sqe hq;have hlen:=r'.length;rw[y3]at hlen hz;refine jhy pl (by omega) (j6e r') (by omega) λout ss' a1 a2 a3=>?_;obtain⟨e,he⟩:=sortedAll_at s.heap its out;refine⟨.ref (s.heap.objs.size+1),_,I.laid (t':=s.toks) (λb o q=>sortedAll_old q) (y0l _) (show ObjOk X.prog X.w _ _ _ (.lst (ss'.map V.str))from⟨by rw[y3,a2.length_eq];exact hz,out.toList,e,j91 a1,by simpa using he⟩),rfl,q _ ss' (I.hok.fresh (y0l _)) a2 a3⟩
def jbw(K:y9):List V->Hp->VK->Prop:=λxs H Q=>j90 K xs H Q\/jle K xs H Q
theorem j3h:CallR X (.builtin "sorted") (jbw X.K):=jl6.or cSortS
end
section
variable{prog:yy}{w:World}{A:gw}{E:Value->ye->Prop}{s:ye}
theorem j92(l:Addr)(xs:Array Value)(x:Value)(e:Value->Bool)(j:Nat)(hj:j<xs.size)(hit:e xs[j]=true)(hno:∀m (hm:m<xs.size),m<j->e xs[m]=false):
  Meets (Builtin.«tuple.index» ⟨[.ref l,x],[]⟩) (λA R s=>IsTup s.heap l xs/\(∀y,y∈xs->y8b A.in1 s y x (e y))/\R (.ok (.ret (.int j s.toks))) {s with toks:=s.toks+1}):=by
 intro prog w A R s h;obtain⟨hl,he,h⟩:=h;unfold Builtin.«tuple.index»;refine y0 (y0g (a:=(xy l,[x])) rfl ?_);show wpAny _ _ (y2v (.ref l) >>= _) _ _ s;refine y0 (y9p hl ?_);skip;refine y0 (y8 (y0 (y8 ?_)));dsimp only;rw[yd0];have loop:∀(k i:Nat) (s:ye) (f:Nat->Option y9f×Unit->Sem (ForInStep (Option y9f×Unit))) (Q:Option y9f×Unit->ye->Prop) (E:Value->ye->Prop),i+k=xs.size->i<=j->(∀y,y∈xs->y8b A.in1 s y x (e y))->
   (∀i st,f i st=(match xs[i]? with
    |some y=>do
     if <- eqBool y x then do
      let r <- retInt i
      pure (ForInStep.done (some r,()))
     else pure (y12 (none,()))
    |_=>pure (y12 (none,()))))->Q (some (.done (.ret (.int j s.toks))),()) {s with toks:=s.toks+1}->wpAny (model prog w) A.in1 (forIn (y94 i k) (none,()) f) Q E s:=by
  intro k
  induction k with
  |zero=>intro i s f Q E hk hi;omega
  |succ k ih=>
   intro i s f Q E hk hi he hf q;have hlt:i<xs.size:=by omega
   rw[List.range'_succ,y1y,hf,yf hlt];refine y0 (y0 (he _ (Array.getElem_mem hlt) prog w _ _ ?_));by_cases hij:i=j
   ·subst hij;rw[hit];exact y0 (y0 (wpAny_mkInt (y8 (y8 (y8 q)))))
   ·rw[hno i hlt (by omega)];exact y8 (ih (i+1) s f Q E (by omega) (by omega) he hf q)
 skip;rw[y8c];rw[show y94 ([:xs.size]:y7f).start ([:xs.size]:y7f).size ([:xs.size]:y7f).step=y94 0 xs.size by simp[yd5]];refine y0 (loop xs.size 0 s _ _ _ (by omega) (gm _) he (λ_ _=>rfl) (y8 h))
end
section
variable{X:Cx}
def tTM(r:V->List V->Hp->VK->Prop)(to:TE)(t:TA):TE:=λσ H Q=>to σ H λx H1=>(∃p xs,x=.ref p/\H1 p=some (.tup xs))/\t σ H1 λvs H2=>r x vs H2 Q
theorem jns{o e:Expr}{es:List Expr}{name:Str}{id:String}{apos cpos:Pos}(pa:ybx "tuple")(slot:Slot "tuple" name id)(hty:typeOf (.builtin id)=pure (.type "method_descriptor"))(hm:MtM X id r)(ho:PE X o to)(ha:PA X (e::es) t)
  (hbase:attributeBase o name X.env (eval o X.env)=eval o X.env:=by rfl)
  (hfew:((backTo cpos (starEach (e::es) X.env)).all (λx=>!x.1)&&(backToKw cpos (keywordEach [] X.env)).all (λx=>x.1.isSome)
   && decide ((e::es).length+([]:List y7t).length+(if ([]:List y7t).isEmpty then 0 else 1)<30))=true:=by rfl)
  (hline:(apos.endLine==cpos.line)=true:=by rfl) (hs:starEach (e::es) X.env=(false,eval e X.env)::starEach es X.env:=by rfl) (hplain:(backTo cpos (starEach es X.env)).any (·.1)=false:=by rfl):
  PE X (.Call (.Attribute o name apos) (e::es) [] cpos) (tTM r to t):=by
 intro pins s σ H Q I h;refine y7o hbase hfew hline rfl (thn (ho pins s σ H _ I h) λv s1 ⟨x,H1,I1,r1,⟨p,xs,ex,hp⟩,q1⟩=>?_);subst ex;cases r1;obtain⟨_,its,_,it,od,f,d⟩:=(show ObjOk X.prog X.w H1 s1.heap p (.tup xs)from I1.hok p _ hp)
 refine⟨"tuple",id,pa,slot,hty,it.typeIs,λa e=>by cases e;exact⟨od,f,d⟩,?_⟩;have hA:=ha cpos pins s1 σ H1 _ I1 q1;rw[hs]at hA ⊢;refine y2e (by show(false||(backTo cpos (starEach es X.env)).any (·.1))=false;rw[hplain]<;>rfl) (y5a ?_);exact thn hA λus s2 ⟨vs,H2,I2,r2,q2⟩=>hm pins s2 σ H2 (.ref p) vs (.ref p) us Q I2 rfl r2 q2
def isS(k:Str):Value->Bool
 | .str z _=>z==k
 |_=>false
def rTIx:V->List V->Hp->VK->Prop:=λx vs H Q=>∃(p:Addr) (ss:List Str) (k:Str),x=.ref p/\vs=[.str k]/\H p=some (.tup (ss.map V.str))/\k∈ss/\ss.length<=1000000/\Q (.int (ss.idxOf k:Nat)) H
theorem j5b:MtM X "tuple.index" rTIx:=by
 intro pins s σ H x vs v us Q I rx rv h;obtain⟨p,ss,k,rfl,rfl,hp,hk,hz,q⟩:=h;cases rx;obtain⟨u,rfl,t,rfl⟩:=rv.one;obtain⟨_,its,r,it,_⟩:=(show ObjOk X.prog X.w H s.heap p (.tup (ss.map V.str))from I.hok p _ hp)
 have hl:=r.length;rw[y3]at hl;have hj:ss.idxOf k<ss.length:=y05.mpr hk;have at_:∀(m:Nat) (hm:m<its.toArray.size),isS k its.toArray[m]=(ss[m]'(by rw[yj]at hm;omega)==k):=λm hm=>by
  have hm':m<its.length:=by rw[yj]at hm;exact hm
  obtain⟨z,t',h1,h2⟩:=j6d r m its[m] (y4 hm');rw[y4 (show m<ss.length by omega)]at h1;have h2':its.toArray[m]=.str z t':=by simpa using h2
  rw[h2'];injection h1 with h1;rw[h1];rfl
 refine y4h y9a it.typeIs y8v (y8f _ _) (j92 p its.toArray (.str k t) (isS k) (ss.idxOf k) (by rw[yj];omega) ?_ ?_) ⟨it,λy hy=>?_,?_⟩
 ·rw[at_,y1m hj];exact beq_self_eq_true k
 ·intro m hm h2;rw[at_];exact y4a h2
 ·obtain⟨m,hm,e⟩:=vc (show y∈its by simpa using hy);obtain⟨z,t',_,h2⟩:=j6d r m y (by rw[<- e];exact y4 hm);rw[h2];exact y45 z t' k t
 ·exact⟨.int (ss.idxOf k:Nat),H,I.tok _,⟨_,rfl⟩,q⟩
end
section
variable{K:y9}{σ:St}{H:Hp}{Q:VK}
theorem r_tm(q:to σ H λx H1=>(∃p xs,x=.ref p/\H1 p=some (.tup xs))/\t σ H1 λvs H2=>r x vs H2 Q):tTM r to t σ H Q:=q
theorem r_tyT{R:Prop}(h:H p=some (.tup xs))(q:R):(∃p' xs',V.ref p=.ref p'/\H p'=some (.tup xs'))/\R:=⟨⟨p,xs,rfl,h⟩,q⟩
theorem j7v{k:Str}(h:H p=some (.tup (ss.map V.str)))(hk:k∈ss)(hz:ss.length<=1000000)(q:Q (.int (ss.idxOf k:Nat)) H):rTIx (.ref p) [.str k] H Q:=⟨p,ss,k,rfl,rfl,h,hk,hz,q⟩
theorem jlf(q:Q (.int (i+j)) H):jlc K (.int i) (.int j) H Q:=.inl (jl9 q)
theorem jg5{i j:Str}(h:i.length+j.length<=1000000)(q:Q (.str (i++j)) H):jlc K (.str i) (.str j) H Q:=.inr ⟨i,j,rfl,rfl,by rw[xo];omega,q⟩
theorem j93{b:Addr}(h1:H l=some (.lst xs))(h2:H b=some (.lst zs))(hl:xs.length+zs.length<=1000000)(q:∀p H',H p=none->H' p=some (.lst (xs++zs))->Ext H H'->Q (.ref p) H'):jlc K (.ref l) (.ref b) H Q:=.inl (r_catL h1 h2 hl q)
theorem j14{b:Addr}(h1:H l=some (.tup xs))(h2:H b=some (.tup zs))(hl:xs.length+zs.length<=1000000)(q:∀p H',H' p=some (.tup (xs++zs))->Ext H H'->Q (.ref p) H'):jlc K (.ref l) (.ref b) H Q:=.inl (r_catT h1 h2 hl q)
theorem jg6(c:CMulB i j)(q:Q (.int (i*j)) H):jpt (.int i) (.int j) H Q:=.inl (r_I c q)
theorem jg7{i:Str}{k:Int}(k0:0<=k)(k1:k<=1000)(h:i.length<=1000)(q:Q (.str (mulS i k.toNat)) H):jpt (.str i) (.int k) H Q:=.inr ⟨i,k,rfl,rfl,k0,k1,h,q⟩
theorem r_leWI(q:Q (.bl (decide (i<=j))) H):rLeW (.int i) (.int j) H Q:=.inl (r_I0 q)
theorem j1l(h:H p=some (.lst xs))(q:Q (.int xs.length) H):jnr K [.ref p] H Q:=.inl (r_lenL h q)
theorem j1a(h:H p=some (.tup xs))(q:Q (.int xs.length) H):jnr K [.ref p] H Q:=.inl (r_lenT h q)
theorem jg8(h:SqL K H p xs)(q:Q (.int xs.length) H):jnr K [.ref p] H Q:=.inl (r_lenS h q)
theorem jlg{z:Str}{c:Nat}(h:z.length<=1000000)(e:atI z.cps.toList i=some c)(q:Q (.str ⟨#[c]⟩) H):rIx K (.str z) (.int i) H Q:=.inr (.inr ⟨z,i,c,rfl,rfl,by rw[xo];omega,e,q⟩)
theorem jhz(h:H p=some (.tup (ss.map V.str)))(hl:ss.length<64)(q:∀l (ss':List Str) H',H l=none->ss'.Perm ss->sortedS ss'=true->H' l=some (.lst (ss'.map V.str))->Ext H H'->Q (.ref l) H'):jbw K [.ref p] H Q:=
 .inr ⟨p,ss,true,rfl,SqT.of h,hl,λl ss' n h1 h2=>q l ss' _ n h1 h2 j07 (j0p n)⟩
end
section
variable{K:y9}{H:Hp}{Q:V->Hp->Prop}
theorem jbx(h:H p=some (.lst (ss.map V.str)))(hl:ss.length<64)(q:∀l (ss':List Str) H',H l=none->ss'.Perm ss->sortedS ss'=true->H' l=some (.lst (ss'.map V.str))->Ext H H'->Q (.ref l) H'):jbw K [.ref p] H Q:=
 .inr ⟨p,ss,false,rfl,SqL.of h,hl,λl zs n hp ho=>q l zs _ n hp ho j07 (j0p n)⟩
end
section
variable{prog:yy}{w:World}{A:gw}{E:Value->ye->Prop}{s:ye}
theorem jab{t sl:Addr}{items:Array Value}{vl vu:Value}{lo hi:Option Int}{Q:Value->ye->Prop}(ht:IsTup s.heap t items)(hs:s.heap.IsSliceOf sl vl vu .none)(pl:y8p vl lo)(pu:y8p vu hi)
  (hw:HT.sIx items.size 0 lo=0/\HT.sIx items.size items.size hi=items.size) (h:Q (.ref t) s):wpAny (model prog w) A (getItem (.ref t) (.ref sl)) Q E s:=by
 obtain⟨os,hos,hcs,hds⟩:=id hs;have hTs:s.TypeIs (.ref sl) "slice":=⟨os,hos,hcs⟩
 unfold getItem
 try with_reducible refine vg ?_
 first|refine y0 (y8 ?_)|skip
 skip;refine y0 (yaa ht.typeIs (by decide) ?_);refine y0 (gp (name:=uc "__getitem__") ht.typeIs y47 (xw y47 ht.typeIs y95 ?_ (y9n _ _)));show wpAny _ _ (y2v (.ref t) >>= _) _ _ s;skip;refine y0 (y9p ht ?_);skip;refine y0 (y28 hTs ?_);rw[if_pos (by decide)];skip;refine y0 (HT.sliceApplied_gen hs pl pu ?_);have hyes:(((HT.sIx items.size 0 lo:Nat):Int)==0&&(1:Int)==1&&(HT.sIx items.size items.size hi-HT.sIx items.size 0 lo)==items.size)=true:=by
  rw[hw.1,hw.2];simp
 show wpAny _ _ (if (((HT.sIx items.size 0 lo:Nat):Int)==0&&(1:Int)==1&&(HT.sIx items.size items.size hi-HT.sIx items.size 0 lo)==items.size)=true then _ else _) _ _ s;rw[if_pos hyes];refine y0 (y0 (y28 ht.typeIs (y8 ?_)));rw[if_pos (by decide)]
 first
  |exact y0 (y4j (y0 (y8 (y8 ⟨_,rfl,y8 h⟩))))
  |exact y0 (y8 (y0 (y8 (y8 ⟨_,rfl,y8 h⟩))))
  |exact y0 (y4j (y8 ⟨_,rfl,y8 h⟩))
end
section
variable{X:Cx}
def rSlW(K:y9):V->Option Int->Option Int->Hp->VK->Prop:=λx lo hi H Q=>∃a xs,x=.ref a/\SqT K H a xs/\(HT.sIx xs.length 0 lo=0/\HT.sIx xs.length xs.length hi=xs.length)/\Q (.ref a) H
theorem jjl:SlR X (rSlW X.K):=by
 intro pins s σ H x v vl vu lo hi sl Q I rx hs pl pu h;obtain⟨a,xs,rfl,hx,hw,q⟩:=h;cases rx;obtain⟨its,r,ht,hz⟩:=I.tuple hx;have hlen:its.toArray.size=xs.length:=by rw[yj];exact r.length.symm
 refine⟨"tuple",_,y47.lookup,ht.typeIs,?_⟩;exact jab ht hs pl pu (by rw[hlen];exact hw) ⟨.ref a,H,I,rfl,q⟩
def rSlS:V->Option Int->Option Int->Hp->VK->Prop:=λx lo hi H Q=>∃z:Str,x=.str z/\z.length<=1000000/\∀z':Str,(∀c∈z'.cps.toList,c∈z.cps.toList)->z'.length<=z.length->Q (.str z') H
theorem sl_str:SlR X rSlS:=by
 intro pins s σ H x v vl vu lo hi sl Q I rx hs pl pu h;obtain⟨z,rfl,hz,q⟩:=h;obtain⟨t,rfl⟩:=rx;refine⟨"str",_,F.slot_str_getitem.lookup,ycg _ _ _,?_⟩;have part:∀{v:Value}{o:Option Int},y8p v o->∃l:Option (Int×Tok),v=partValue l/\l.map (·.1)=o:=λp=>by
  cases p with
  |none=>exact⟨none,rfl,rfl⟩
  |int i t=>exact⟨some (i,t),rfl,rfl⟩
 obtain⟨l,e1,_⟩:=part pl;obtain⟨u,e2,_⟩:=part pu;have hs':s.heap.IsSlice sl l u none:=by
  obtain⟨o,h1,h2,h3⟩:=hs;exact⟨o,h1,h2,by rw[h3,e1,e2];rfl⟩
 refine wpAny_getItem_str_slice hs' rfl ?_;unfold sliceMade;split
 ·exact⟨.str z,H,I,⟨t,rfl⟩,q z (λc hc=>hc) (yg _)⟩
 ·have hle:((slicePicked z l u none).filterMap (z.cps[·]?)).length<=z.length:=gj (List.length_filterMap_le _ _) (sliceIndices_le _ _ _);refine⟨?_,.str _,H,I.tok _,⟨_,rfl⟩,q _ (λc hc=>?_) ?_⟩
  ·rw[xo];show((slicePicked z l u none).filterMap (z.cps[·]?)).toArray.size<=_;rw[yj];omega
  ·have hc':c∈(slicePicked z l u none).filterMap (z.cps[·]?):=by simpa using hc
   obtain⟨i,_,hi⟩:=y3x.mp hc';have:=Array.mem_of_getElem? hi;simpa using this
  ·show((slicePicked z l u none).filterMap (z.cps[·]?)).toArray.size<=_;rw[yj];exact hle
def rSlV(K:y9):V->Option Int->Option Int->Hp->VK->Prop:=λx lo hi H Q=>(rSlU K x lo hi H Q\/rSlW K x lo hi H Q)\/rSlS x lo hi H Q
theorem oSlV:SlR X (rSlV X.K):=(oSl.or jjl).or sl_str
theorem jem(h:HT.sIx xs.length 0 lo=0/\HT.sIx xs.length xs.length hi=xs.length):cutV xs lo hi=xs:=by
 unfold cutV;rw[h.1,h.2,y31,y4q,vk]
variable{o i value:Expr}{pos pos':Pos}{td ty tv:TE}
theorem j5c(hr:Room k X.A)(ho:PE X o td)(hi:PE X i ty)(hs:NoSl i):PE X (.Subscript o i pos) (joi td ty):=jki (by have:=hr.un;omega) ho hi hs
theorem jby(hr:Room k X.A)(ho:PE X o td)(hi:PE X i ty)(hv:PE X value tv)(hs:swapsWith value (some (.Subscript o i pos')) pos.line X.env=pure false):PS X (.Assign [.Subscript o i pos'] value pos) (joj td ty tv):=jkj (by have:=hr.un;omega) ho hi hv hs
end
section
variable{K:y9}{σ:St}{H:Hp}{Q:VK}{td ty tv:TE}
theorem j94(h:H p=some (.tup xs))(q:∀l H',H' l=some (.tup (cutV xs lo hi))->Ext H H'->Q (.ref l) H'):rSlV K (.ref p) lo hi H Q:=by
 by_cases c:HT.sIx xs.length 0 lo=0/\HT.sIx xs.length xs.length hi=xs.length
 ·exact .inl (.inr ⟨p,xs,rfl,SqT.of h,c,q p H (by rw[jem c];exact h) Ext.rfl'⟩)
 ·exact .inl (.inl (jnp h c λl H' _ h1 h2=>q l H' h1 h2))
def rDGet(x y:V)(H:Hp)(Q:VK):Prop:=∃a v,x=.ref a/\DGet H a y (some v)/\Q v H
def rDPut(x y v:V)(H:Hp)(R:Hp->Prop):Prop:=∃a H4,x=.ref a/\DPut H a y v H4/\R H4
theorem r_dget(q:td σ H λx H1=>ty σ H1 λy H2=>rDGet x y H2 Q):joi td ty σ H Q:=q
theorem r_dput{D:Ends}(q:tv σ H λv H1=>td σ H1 λx H2=>ty σ H2 λy H3=>rDPut x y v H3 λH4=>D.nx σ H4):joj td ty tv D σ H:=q
end
variable{u:TE}
section
variable{X:Cx}
def tOr2(t u:TE):TE:=λσ H Q=>t σ H Q\/u σ H Q
theorem j2z{e:Expr}{t:TE}(h1:PE X e t)(h2:PE X e u):PE X e (tOr2 t u):=λpins s σ H Q I h=>h.elim (λz=>h1 pins s σ H Q I z) λz=>h2 pins s σ H Q I z
theorem j4i{t:TE}(q:t σ H Q):tOr2 t u σ H Q:=.inl q
theorem j11{t:TE}(q:u σ H Q):tOr2 t u σ H Q:=.inr q
end
theorem j3s{α:Type}:∀(l:List α) (i:Nat) (h:i<l.length),(l[i]::l.eraseIdx i).Perm l
 |a::l,0,h=>ux _
 |a::l,i+1,h=>(y30 a _ _).trans (ybh a (j3s l i (Nat.lt_of_succ_lt_succ h)))
theorem jg9{α:Type}(next:Nat->Nat):∀(fuel k:Nat) (left:List α) (out:Array α),left.length=fuel->(yd6 next fuel k left out).toList.Perm (out.toList++left)
 |0,k,left,out,h=>by
  rw[vo.mp h,y0a];exact ux _
 |fuel+1,k,left,out,h=>by
  have lt:next k%left.length<left.length:=y5l _ (by omega);unfold yd6;rw[y4 lt];refine(jg9 next fuel (k+1) _ _ (by rw[y5w lt];omega)).trans ?_;rw[Array.toList_push,y0x];exact y4o _ (j3s _ _ lt)
theorem jen{α:Type}(next:Nat->Nat)(xs:Array α):(pickOrder next xs).toList.Perm xs.toList:=jg9 next xs.size 0 xs.toList #[] (yh ..)
theorem jbz:Manifest.owners.lookup (String.ofList ['r','o','t','a','r','e','t','i','_','t','e','s'].reverse)=some Manifest.sig_set_iterator:=by kernel_rfl
theorem j1c:Slot "set_iterator" "__next__" "set_iterator.__next__":=.of (owner:="set_iterator") (n:="__next__") (by rw[ybc,y85];kernel_rfl) (by decide +kernel) (by decide +kernel) (by decide +kernel) (by first|exact .inl (by decide +kernel)|exact .inr (by decide +kernel)) (by rw[y39];kernel_rfl)
theorem j5d:entryFor table "set_iterator.__next__"=some Builtin.«set_iterator.__next__»:=entryFor_of_tree (by kernel_rfl)
theorem j5e(a:Value):argsOk "set_iterator.__next__" ⟨[a],[]⟩:=by unfold argsOk;rw[signature?_of (id:="set_iterator.__next__") (n:=['_','_','t','x','e','n','_','_']) (o:=['r','o','t','a','r','e','t','i','_','t','e','s']) (by kernel_rfl) jbz];kernel_rfl
theorem j5f:Slot "set_iterator" "__iter__" "set_iterator.__iter__":=.of (owner:="set_iterator") (n:="__iter__") (by rw[ybc,y85];kernel_rfl) (by decide +kernel) (by decide +kernel) (by decide +kernel) (by first|exact .inl (by decide +kernel)|exact .inr (by decide +kernel)) (by rw[y39];kernel_rfl)
theorem jc0(a:Value):argsOk "set_iterator.__iter__" ⟨[a],[]⟩:=by unfold argsOk;rw[signature?_of (id:="set_iterator.__iter__") (n:=['_','_','r','e','t','i','_','_']) (o:=['r','o','t','a','r','e','t','i','_','t','e','s']) (by kernel_rfl) jbz];kernel_rfl
theorem jc1:entryFor table "set_iterator.__iter__"=some Builtin.«dict_keyiterator.__iter__»:=ybu (id':="dict_keyiterator.__iter__") (by kernel_rfl) (by first|rfl|decide +kernel|(unfold ybt;simp +decide [ya6])) (by decide +kernel) (by kernel_rfl)
theorem jc2:entryFor table "set.__iter__"=some Builtin.«frozenset.__iter__»:=ybu (id':="frozenset.__iter__") (by kernel_rfl) (by first|rfl|decide +kernel|(unfold ybt;simp +decide [ya6])) (by decide +kernel) (by kernel_rfl)
def byT(w:World):Bool:=w.params.followText "set-order"
abbrev stObj(es:Array (Int×Value))(ep:Nat)(t:vp):Obj:={cls:=.type "set",dict:=none,data:=.set es ep t,slots:=#[]}
abbrev siObj(f i:Nat)(S:Addr)(n ep:Nat):Obj:={cls:=.type "set_iterator",dict:=none,data:=.fields #[rawInt f,rawInt i,.ref S,rawInt n,rawInt ep],slots:=#[]}
structure Rise(t:vp)(n:Nat)(sl:Nat->Nat):Prop where
 fits:t.fits n=true
 plain:t.plain=true
 zero:sl 0=0
 low:∀i,i<=n->yx t.place (sl i)=i
 step:∀i,i<n->∃j,t.place[i]?=some j/\j+1=sl (i+1)
def fsOf(w:World)(sl:Nat->Nat)(i:Nat):Nat:=if byT w then 0 else sl i
def jaq(w:World)(S:Addr)(ep:Nat)(es:Array (Int×Value)):Array (Int×Value):=if byT w then pickOrder (w.params.setOrder S ep) es else es
theorem jc3(w:World)(S:Addr)(ep:Nat)(es:Array (Int×Value)):(jaq w S ep es).toList.Perm es.toList:=by
 unfold jaq;split
 ·exact jen _ _
 ·exact ux _
theorem jc4(w:World)(S:Addr)(ep:Nat)(es:Array (Int×Value)):(jaq w S ep es).size=es.size:=by
 rw[<- yh,(jc3 w S ep es).length_eq,yh]
section
variable{prog:yy}{w:World}{A:gw}{E:Value->ye->Prop}{s:ye}
theorem j3j{Q:Bool->ye->Prop}(h:Q (byT w) s):wpAny (model prog w) A setsByText Q E s:=by
 unfold setsByText;skip;exact y0 (y7h (y8 h))
theorem jlh{I S:Addr}{f i ep:Nat}{Q:Value->ye->Prop}(hI:s.heap.get? I=some (siObj f i S n ep))(h:Q (.ref I) s):wpAny (model prog w) A (pyIter (.ref I)) Q E s:=by
 have te:s.TypeIs (.ref I) "set_iterator":=⟨_,hI,rfl⟩
 refine y24 te j5f (xw j5f te jc1 ?_ (jc0 _));exact y8 ⟨_,rfl,"set_iterator",_,te,j1c.lookup,h⟩
end
theorem st_sub:isSubtype (.type "set") (.type "set")=pure true:=by rw[y39];kernel_rfl
section
variable{prog:yy}{w:World}{A:gw}{E:Value->ye->Prop}{s:ye}
theorem j6f{P:Nat->Value->Prop}{ys:List Value}{acc:Array Value}(h:yde P acc ys.length)(hp:∀i v,P i v->ys[i]?=some v):acc.toList=ys:=by
 refine y2p λi=>?_;by_cases hi:i<acc.size
 ·have e:acc.toList[i]?=some acc[i]:=by rw[xl];exact yf hi
  rw[e];exact(hp i _ (h.2 i _ (yf hi))).symm
 ·rw[y04 (by rw[yh];omega),y04 (by have:=h.1;omega)]
end
theorem j4t{α:Type}(xs:List α):∀k,k<=xs.length->(v8 k).filterMap (xs[·]?)=xs.take k
 |0,_=>rfl
 |k+1,h=>by
  have e:xs[k]?=some (xs[k]'(by omega)):=y4 (by omega);rw[y19,List.filterMap_append,j4t xs k (by omega),xj,e];simp[e]
section
variable{prog:yy}{w:World}{A:gw}{E:Value->ye->Prop}{s:ye}
theorem ji1(a:Value){QN:Value->ye->Prop}(h:QN (.ref s.heap.objs.size) {s with heap:=s.heap.push (newSet (!byT w))}):
  codeAny (model prog w) A (.call (.builtin "set.__new__") ⟨[.type "set",a],[]⟩) (wants QN E) s:=by
 refine yb8 ?_;show wpAny _ A.in1 (do checkBuiltinCall "set.__new__" ⟨[.type "set",a],[]⟩;again (.builtin "set.__new__" ⟨[.type "set",a],[]⟩)) _ _ s;refine y0 (y0g (PySem.F.newCall_set_1 a) (y8 ⟨y2u y83 _,y0d PySem.F.entry_set_new ?_⟩));rw[y0h y83 _];skip;unfold Builtin.«set.__new__» ybd;have hsub:=sub_set_self;skip;obtain⟨hp,g,d,tk,os⟩:=s;dsimp only;wp_walk;refine y7h (y8 ?_);dsimp only;simp only[newObj];skip;refine y0 (wpAny_alloc (y8 (y8 h)))
end
def j4f(n:Nat):List Int:=(v8 n).map λ(i:Nat)=>(i:Int)
theorem j5g(n:Nat):(j4f n).length=n:=by unfold j4f;rw[y3,y0k]
theorem jc5{acc:Array Value}{n:Nat}(h:yde (λi v=>∃t,v=.int (0+(i:Nat)*1) t) acc n):Vals ((j4f n).map V.int) acc.toList:=by
 have g:∀(l:List Value) (k:Nat),(∀(i:Nat) (v:Value),l[i]?=some v->∃t,v=.int ((k+i:Nat):Int) t)->Vals (((y94 k l.length).map λ(i:Nat)=>(i:Int)).map V.int) l:=by
  intro l
  induction l with
  |nil=>intro k _;exact .nil
  |cons x l ih=>
   intro k hk;obtain⟨t,e⟩:=hk 0 x rfl;refine .cons ⟨t,by rw[e];rfl⟩ (ih (k+1) λi v hv=>?_);obtain⟨t,e⟩:=hk (i+1) v (by simpa using hv);exact⟨t,by rw[e,Nat.add_assoc,y7y 1 i]⟩
 have:=g acc.toList 0 λi v hv=>by
  rw[xl]at hv;obtain⟨t,e⟩:=h.2 i v hv;exact⟨t,by rw[e];congr 1;omega⟩
 rw[yh,h.1]at this;unfold j4f;rw[List.range_eq_range'];exact this
section
variable{X:Cx}
def jc6:List V->Hp->VK->Prop:=λxs H Q=>∃n:Nat,xs=[.int (n:Int)]/\n<=1000/\∀l,H l=none->Q (.ref l) (upd H l (.lst ((j4f n).map V.int)))
theorem j6g{a:Expr}{ta:TA}{p p' pos pos':Pos}(hc:X.calm=true)(hg:Gl X "list")(hm:X.mg "list"=none)(hg2:Gl X "range")(hm2:X.mg "range"=none)(ha:PA X [a] ta)(hs:starEach [a] X.env=[(false,eval a X.env)]:=by rfl)
  (ht:starEach [.Call (.Name "range" p') [a] [] pos'] X.env=[(false,eval (.Call (.Name "range" p') [a] [] pos') X.env)]:=by rfl):
  PE X (.Call (.Name "list" p) [.Call (.Name "range" p') [a] [] pos'] [] pos) (tCB jc6 ta):=by
 intro pins s σ H Q I h;refine y0e (j52 I hg hm va (ur ?_ ht rfl) (by decide) (by decide));rw[ht];show wpAny _ _ (spliced ((false,eval (.Call (.Name "range" p') [a] [] pos') X.env)::backTo pos [])) _ _ s;refine y2g (y0e (j52 I hg2 hm2 boot_range (ur (thn (ha pos' pins s σ H _ I h) λus s1 ⟨vs,H1,I1,r1,q1⟩=>?_) hs rfl) (by decide) (by decide)));obtain⟨n,e,hz,q⟩:=q1;subst e;obtain⟨u,rfl,ru⟩:=j65 r1;obtain⟨t,rfl⟩:=ru;refine call_range_1 (y2o ?_);have hn:y6s 0 (n:Int) 1=n:=by rw[rangeSize_one];split<;>omega
 refine call_list_range (s:={s1 with heap:=_,toks:=_}) (n:=n) (I1.ok.hd hc) (ydd ..) (small_one (by omega) (by omega) (by omega) (by omega)) hn (by omega) λh' tk acc c' hk hS hacc=>?_;have l0:s1.heap.objs.size<=(s1.heap.push {cls:=.type "range",data:=.fields #[.int 0 s1.toks,.int (n:Int) t,.int 1 (s1.toks+1)]}).objs.size:=by rw[vf];exact y0l _
 have kk:∀b o,s1.heap.get? b=some o->h'.get? b=some o:=λb o e=>hk b o (yc _ e);exact⟨.ref _,_,I1.laid (t':=tk) kk l0 (show ObjOk X.prog X.w _ _ _ (.lst ((j4f n).map V.int))from⟨by rw[y3,j5g,xo];omega,acc.toList,c',jc5 hacc,by simpa using hS⟩),rfl,q _ (I1.hok.fresh l0)⟩
theorem j95(n:Nat)(e:i=n)(hn:n<=1000)(q:∀l H',H l=none->H' l=some (.lst ((j4f n).map V.int))->Ext H H'->Q (.ref l) H'):jc6 [.int i] H Q:=⟨n,by rw[e],hn,λl nl=>q l _ nl j07 (j0p nl)⟩
end
end L2
set_option Elab.async false
set_option linter.all false
set_option maxRecDepth 100000
set_option maxHeartbeats 4000000
namespace L2
open PySem PySem.Spec PyProof.Rows PySem.W
variable{p:Array Nat}{i j m:Nat}
section
variable{O:KeyOrd}{k:Nat->O.α}{n:Nat}{s:ye}{cmp:Nat->Nat->(Bool->ye->Prop)->ye->Prop}
def kAt(k:Nat->O.α)(p:Array Nat)(i:Nat):O.α:=k (p[i]?.getD 0)
def Asc(k:Nat->O.α)(p:Array Nat)(m:Nat):Prop:=∀i j,i<=j->j<m->O.kle (kAt k p i) (kAt k p j)
def Dsc(k:Nat->O.α)(p:Array Nat)(m:Nat):Prop:=∀i j,i<=j->j<m->O.kle (kAt k p j) (kAt k p i)
def OkP(n:Nat)(p:Array Nat):Prop:=p.toList.Perm (v8 n)
theorem OkP.size{p:Array Nat}(h:OkP n p):p.size=n:=by have:=h.length_eq;simpa using this
theorem OkP.lt(h:OkP n p)(hi:i<n):p[i]?.getD 0<n:=by
 have hs:=h.size;rw[yf (by omega),y3e];exact vq.mp (h.mem_iff.mp (by simp))
theorem OkP.of{q:Array Nat}(h:OkP n p)(e:q.Perm p):OkP n q:=(Array.perm_iff_toList_perm.mp e).trans h
theorem OkP.rev(h:OkP n p)(i j:Nat):OkP n (kas_rev p i j):=h.of (mirror_perm _ _ _ _)
theorem OkP.bub(h:OkP n p)(i j:Nat):OkP n (bubble p i j):=h.of (bubble_perm _ _ _)
theorem jc7(hj:j<=p.size)(m:Nat):kAt k (kas_rev p i j) m=if i<=m/\m<j then kAt k p (i+j-1-m)else kAt k p m:=by
 unfold kAt kas_rev;rw[getElem?_mirror_all hj];split<;>rfl
theorem j2k(hj:j<=p.size)(he:∀m,i<=m->m<j->kAt k p m=kAt k p (j-1))(m:Nat):kAt k (kas_rev p i j) m=kAt k p m:=by
 rw[jc7 hj];split
 ·rw[he _ (by omega) (by omega),he m (by omega) (by omega)]
 ·rfl
theorem jga{a d:Nat}(ha:a<p.size)(hd:d<=a)(m:Nat):kAt k (bubble p a d) m=if m=a-d then kAt k p a else if a-d<m/\m<=a then kAt k p (m-1)else kAt k p m:=by
 unfold kAt;rw[getElem?_bubble ha d hd];split
 ·rfl
 ·split<;>rfl
def Tells(k:Nat->O.α)(n:Nat)(cmp:Nat->Nat->(Bool->ye->Prop)->ye->Prop)(s:ye):Prop:=∀i j,i<n->j<n->∀C:Bool->ye->Prop,C (O.blt (k i) (k j)) s->cmp i j C s
theorem Tells.at(T:Tells k n cmp s)(h:OkP n p)(hi:i<n)(hj:j<n){C:Bool->ye->Prop}(c:C (O.blt (kAt k p i) (kAt k p j)) s):cmp (p.getD i 0) (p.getD j 0) C s:=by
 rw[xr,xr];exact T _ _ (h.lt hi) (h.lt hj) C c
theorem ji2(h:Asc k p m)(h1:1<=m)(c:O.blt (kAt k p m) (kAt k p (m-1))=false):Asc k p (m+1):=by
 intro i j hij hj;by_cases hm:j<m
 ·exact h i j hij hm
 ·obtain rfl:j=m:=by omega
  by_cases hi:i=j
  ·rw[hi];exact y13 _
  ·exact y51 (h i (j-1) (by omega) (by omega)) c
theorem jq1(T:Tells k n cmp s){p:Array Nat}(hp:OkP n p){G:Nat->ye->Prop}:∀(f m:Nat),1<=m->m+f<=n->Asc k p m->
  (∀r,m<=r->r<=m+f->Asc k p r->(r=m+f\/O.klt (kAt k p r) (kAt k p (r-1)))->G r s)->(kas_asc p f m).kasWp cmp G s
 |0,m,h1,hn,hs,h=>h m (yg _) (yg _) hs (.inl rfl)
 |f+1,m,h1,hn,hs,h=>by
  show cmp (p.getD m 0) (p.getD (m-1) 0) (λb s'=>(if b=true then KasT.ret m else kas_asc p f (m+1)).kasWp cmp G s') s;refine T.at hp (by omega) (by omega) ?_;cases c:O.blt (kAt k p m) (kAt k p (m-1))with
  |true=>exact h m (yg _) (by omega) hs (.inr c)
  |false=>exact jq1 T hp f (m+1) (by omega) (by omega) (ji2 hs h1 c) λr a b d e=>h r (by omega) (by omega) d (e.imp (λz=>by omega) id)
def ji3(k:Nat->O.α)(p:Array Nat)(m q:Nat):Prop:=q+1<=m/\∀i,m-(q+1)<=i->i<m->kAt k p i=kAt k p (m-1)
theorem j7w(h:1<=m):ji3 k p m 0:=⟨h,λi a b=>by rw[show i=m-1 by omega]⟩
theorem j7x{p':Array Nat}(e:∀i,kAt k p' i=kAt k p i)(h:Dsc k p m)(h1:1<=m)(c:O.kle (kAt k p m) (kAt k p (m-1))):Dsc k p' (m+1):=by
 intro i j hij hj;rw[e,e];by_cases hm:j<m
 ·exact h i j hij hm
 ·obtain rfl:j=m:=by omega
  by_cases hi:i=j
  ·rw[hi];exact y13 _
  ·exact y51 c (h i (j-1) (by omega) (by omega))
theorem jeo(T:Tells k n cmp s){G:Array Nat×Nat×Nat->ye->Prop}:∀(f:Nat) (p:Array Nat) (m q:Nat),OkP n p->1<=m->m+f<=n->Dsc k p m->ji3 k p m q->
  (∀p' r q',OkP n p'->m<=r->r<=m+f->Dsc k p' r->ji3 k p' r q'->G (p',r,q') s)->(kas_desc f p m q).kasWp cmp G s
 |0,p,m,q,hp,h1,hn,hd,he,h=>h p m q hp (yg _) (yg _) hd he
 |f+1,p,m,q,hp,h1,hn,hd,he,h=>by
  show cmp (p.getD m 0) (p.getD (m-1) 0) (λb s'=>(if b=true then(if q > 0 then kas_desc f (kas_rev p (m-(q+1)) m) (m+1) 0 else kas_desc f p (m+1) 0)else KasT.ask (p.getD (m-1) 0) (p.getD m 0) λd=>if d=true then .ret (p,m,q)else kas_desc f p (m+1) (q+1)).kasWp cmp G s') s;refine T.at hp (by omega) (by omega) ?_;have hsz:=hp.size;cases c:O.blt (kAt k p m) (kAt k p (m-1))with
  |true=>
   rw[if_pos rfl];have cl:O.kle (kAt k p m) (kAt k p (m-1)):=y4e c;by_cases hq:q > 0
   ·rw[if_pos hq];exact jeo T f _ (m+1) 0 (hp.rev _ _) (by omega) (by omega) (j7x (j2k (by omega) he.2) hd h1 cl) (j7w (by omega)) λp' r q' a b c d e=>h p' r q' a (by omega) (by omega) d e
   ·rw[if_neg hq];exact jeo T f p (m+1) 0 hp (by omega) (by omega) (j7x (λ_=>rfl) hd h1 cl) (j7w (by omega)) λp' r q' a b c d e=>h p' r q' a (by omega) (by omega) d e
  |false=>
   rw[if_neg (by decide)];show cmp (p.getD (m-1) 0) (p.getD m 0) (λb s'=>(if b=true then KasT.ret (p,m,q)else kas_desc f p (m+1) (q+1)).kasWp cmp G s') s;refine T.at hp (by omega) (by omega) ?_;cases d:O.blt (kAt k p (m-1)) (kAt k p m)with
   |true=>exact h p m q hp (yg _) (by omega) hd he
   |false=>
    have eq:kAt k p m=kAt k p (m-1):=y8y d c;refine jeo T f p (m+1) (q+1) hp (by omega) (by omega) (j7x (λ_=>rfl) hd h1 d) ⟨by have:=he.1;omega,λi a b=>?_⟩ λp' r q' a b c d e=>h p' r q' a (by omega) (by omega) d e;rw[show m+1-1=m by omega];by_cases hi:i=m
    ·rw[hi]
    ·rw[eq];exact he.2 i (by omega) (by omega)
theorem jli(hm:m<=p.size)(h:Dsc k p m):Asc k (kas_rev p 0 m) m:=by
 intro i j hij hj;rw[jc7 hm,jc7 hm,if_pos (by omega),if_pos (by omega)];exact h _ _ (by omega) (by omega)
theorem jgb(T:Tells k n cmp s)(hp:OkP n p)(h1:1<=m)(hm:m<=n)(hd:Dsc k p m){G:Nat×Array Nat->ye->Prop}
  (h:∀r p',OkP n p'->1<=r->r<=n->Asc k p' r->G (r,p') s):(kas_tail3 m n p).kasWp cmp G s:=by
 unfold kas_tail3;rw[KasT.kasWp_bind];exact jq1 T (hp.rev _ _) _ m h1 (by omega) (jli (by rw[hp.size];exact hm) hd) λr a b c _=>h r _ (hp.rev _ _) (by omega) (by omega) c
theorem j6h(T:Tells k n cmp s)(hp:OkP n p)(hm:m+1<=n)(hd:Dsc k p (m+1)){G:Nat×Array Nat->ye->Prop}
  (h:∀r p',OkP n p'->1<=r->r<=n->Asc k p' r->G (r,p') s):(kas_descPart m n p).kasWp cmp G s:=by
 unfold kas_descPart;rw[KasT.kasWp_bind];refine jeo T _ p (m+1) 0 hp (by omega) (by omega) hd (j7w (by omega)) λp' r q' a b c d e=>?_;have hs:=a.size;by_cases hq:q' > 0
 ·show(if q' > 0 then kas_tail3 r n (kas_rev p' (r-(q'+1)) r)else kas_tail3 r n p').kasWp cmp G s;rw[if_pos hq];refine jgb T (a.rev _ _) (by omega) (by omega) (λi j hij hj=>?_) h;rw[j2k (by omega) e.2,j2k (by omega) e.2];exact d i j hij hj
 ·show(if q' > 0 then kas_tail3 r n (kas_rev p' (r-(q'+1)) r)else kas_tail3 r n p').kasWp cmp G s;rw[if_neg hq];exact jgb T a (by omega) (by omega) d h
theorem jlj(T:Tells k n cmp s){p:Array Nat}(hp:OkP n p)(h0:1<=n){G:Nat×Array Nat->ye->Prop}(h:∀r p',OkP n p'->1<=r->r<=n->Asc k p' r->G (r,p') s):(kas_count n p).kasWp cmp G s:=by
 have hsz:=hp.size;unfold kas_count;rw[KasT.kasWp_bind];refine jq1 T hp _ 1 (yg _) (by omega) (λi j hij hj=>by rw[show i=j by omega];exact y13 _) λm a b c e=>?_;by_cases hm:m=n
 ·rw[if_pos (by simpa using hm)];exact h m p hp a (by omega) c
 ·rw[if_neg (by simpa using hm)];have lt:O.klt (kAt k p m) (kAt k p (m-1)):=e.resolve_left (by omega);by_cases h2:m > 1
  ·rw[if_pos h2];show cmp (p.getD 0 0) (p.getD (m-1) 0) (λb s'=>(if b=true then KasT.ret (m,p)else kas_descPart m n (kas_rev p 0 m)).kasWp cmp G s') s;refine T.at hp (by omega) (by omega) ?_;cases d:O.blt (kAt k p 0) (kAt k p (m-1))with
   |true=>exact h m p hp a (by omega) c
   |false=>
    rw[if_neg (by decide)];have all:∀i,0<=i->i<m->kAt k p i=kAt k p (m-1):=λi _ hi=>y8y (c i (m-1) (by omega) (by omega)) (y51 d (c 0 i (by omega) hi));refine j6h T (hp.rev _ _) (by omega) (λi j hij hj=>?_) h;rw[j2k (by omega) all,j2k (by omega) all];by_cases hj2:j<m
    ·rw[all i (by omega) (by omega),all j (by omega) hj2];exact y13 _
    ·obtain rfl:j=m:=(by omega);by_cases hi:i=j
     ·rw[hi];exact y13 _
     ·rw[all i (by omega) (by omega)];exact y4e lt
  ·rw[if_neg h2];obtain rfl:m=1:=by omega
   refine j6h T hp (by omega) (λi j hij hj=>?_) h;by_cases hi:i=j
   ·rw[hi];exact y13 _
   ·obtain rfl:i=0:=(by omega);obtain rfl:j=1:=(by omega);exact y4e lt
theorem jc8(T:Tells k n cmp s){p:Array Nat}(hp:OkP n p){a:Nat}(ha:a<n)(hs:Asc k p a){G:Nat->ye->Prop}(h:∀l,l<=a->(∀i,i<l->O.kle (kAt k p i) (kAt k p a))->(∀i,l<=i->i<a->O.klt (kAt k p a) (kAt k p i))->G l s):
  ∀(f l r:Nat),l<=r->r<=a->r-l<=f->(∀i,i<l->O.kle (kAt k p i) (kAt k p a))->(∀i,r<=i->i<a->O.klt (kAt k p a) (kAt k p i))->(kas_place p a f l r).kasWp cmp G s
 |0,l,r,hl,hr,hf,x,y=>h l (by omega) x (by rw[show l=r by omega];exact y)
 |f+1,l,r,hl,hr,hf,x,y=>by
  unfold kas_place;by_cases hge:l>=r
  ·rw[if_pos hge];exact h l (by omega) x (by rw[show l=r by omega];exact y)
  ·rw[if_neg hge];show cmp (p.getD a 0) (p.getD ((l+r)/2) 0) (λb s'=>(if b=true then kas_place p a f l ((l+r)/2)else kas_place p a f ((l+r)/2+1) r).kasWp cmp G s') s;refine T.at hp ha (by omega) ?_;cases c:O.blt (kAt k p a) (kAt k p ((l+r)/2))with
   |true=>exact jc8 T hp ha hs h f l ((l+r)/2) (by omega) (by omega) (by omega) x λi u v=>KeyOrd.klt_of_klt_of_kle c (hs _ _ u v)
   |false=>exact jc8 T hp ha hs h f ((l+r)/2+1) r (by omega) (by omega) (by omega) (λi u=>y51 (hs i ((l+r)/2) (by omega) (by omega)) c) y
theorem t_bin(T:Tells k n cmp s){G:Array Nat->ye->Prop}(h:∀p,OkP n p->Asc k p n->G p s):∀(f:Nat) (p:Array Nat) (a:Nat),OkP n p->a+f=n->Asc k p a->(kas_bin f p a).kasWp cmp G s
 |0,p,a,hp,ha,hs=>h p hp (by rw[<- ha];exact hs)
 |f+1,p,a,hp,ha,hs=>by
  have hsz:=hp.size;unfold kas_bin;rw[KasT.kasWp_bind];refine jc8 T hp (by omega) hs (λl hl x y=>?_) a 0 a (gm _) (yg _) (by omega) (λi hi=>by omega) λi u v=>by omega
  refine t_bin T h f _ (a+1) (hp.bub _ _) (by omega) λi j hij hj=>?_;rw[jga (by omega) (by omega),jga (by omega) (by omega),show a-(a-l)=l by omega]
  repeat' split
  all_goals first|(exfalso;omega)|exact y13 _|exact x _ (by omega)|exact y4e (y _ (by omega) (by omega))|exact hs _ _ (by omega) (by omega)
theorem t_sort(T:Tells k n cmp s)(h0:1<=n){G:Array Nat->ye->Prop}(h:∀p,OkP n p->Asc k p n->G p s):(kas_sort n).kasWp cmp G s:=by
 unfold kas_sort;rw[KasT.kasWp_bind];refine jlj T (ux _) h0 λr p' a b c d=>?_;show(if r<n then kas_bin (n-max r 1) p' (max r 1)else KasT.ret p').kasWp cmp G s;rw[show max r 1=r by omega];by_cases hr:r<n
 ·rw[if_pos hr];exact t_bin T h _ p' r a (by omega) d
 ·rw[if_neg hr];obtain rfl:r=n:=by omega
  exact h p' a d
end
end L2
set_option Elab.async false
set_option linter.all false
set_option maxRecDepth 100000
set_option maxHeartbeats 4000000
namespace L2
open PySem PySem.Spec PyProof.Rows PySem.W
section
variable{prog:yy}{w:World}{A:gw}{E:Value->ye->Prop}{s:ye}{O:KeyOrd}{k:Nat->O.α}{a:Addr}{vs:List Value}
theorem ji4{κ:SortKind}{n:Nat}{P:y9f->ye->Prop}(ho:s.heap.get? a=some (seqObj "list" vs.toArray n))(h64:vs.length<64)
  (hkk:2<=vs.length->∀h',(∀b o,b≠a->s.heap.get? b=some o->h'.get? b=some o)->∀Q:SortKind->ye->Prop,Q κ {s with heap:=h'}->wpAny (model prog w) A (keyKind' vs.toArray) Q E {s with heap:=h'})
  (hT:∀h',(∀b o,b≠a->s.heap.get? b=some o->h'.get? b=some o)->Tells k vs.length (kas_ask prog w A κ vs) {s with heap:=h'})
  (h:∀p:Array Nat,OkP vs.length p->Asc k p vs.length->P (.done (.ret .none)) {s with heap:=sortedHeap s.heap a vs (p.toList.map λi=>vs.getD i .none).toArray}):
  wpAny (model prog w) A (Builtin.«list.sort» ⟨[xy a],[]⟩) P E s:=by
 have la:a<s.heap.objs.size:=yt ho;have zl:vs.length<=sizeLine:=by rw[xo];omega
 rw[list_sort_plain];refine y0 (yal ho rfl (y0 (y75 ho rfl ?_ (by rw[yj];omega) (gm _))));obtain⟨e1,g1⟩:∃e1,(s.heap.update a (vn λ_=>#[])).get? a=some (seqObj "list" #[] e1):=⟨_,yb9 ho (λ_=>#[])⟩
 refine y0 (yba g1 rfl (y0 (y8u (y0 (y1o (vg ?_) (gm _))) zl)));have g6:(((s.heap.update a (vn λ_=>#[])).push (seqObj "tuple" vs.toArray 0)).push (seqObj "list" #[] 0)).get? a=some (seqObj "list" #[] e1):=yc _ (yc _ g1);have kp:∀b o,b≠a->s.heap.get? b=some o->(((s.heap.update a (vn λ_=>#[])).push (seqObj "tuple" vs.toArray 0)).push (seqObj "list" #[] 0)).get? b=some o:=
  λb o q e=>yc _ (yc _ ((uw _ _ (y57 q)).trans e))
 skip;show wpAny (model prog w) A _ P E {s with heap:=((s.heap.update a (vn λ_=>#[])).push (seqObj "tuple" vs.toArray 0)).push (seqObj "list" #[] 0)};dsimp only;have sz:vs.toArray.size=vs.length:=yj ..;by_cases h2:(vs.toArray.size<2)
 ·rw[if_pos h2,if_pos h2];refine y0 (y8 ?_);rw[StateT.run_pure];refine y0 (y8 ?_);have es:((vs.toArray.zip vs.toArray).map λx=>x.2)=((v8 vs.length).toArray.toList.map λi=>vs.getD i .none).toArray:=by
   apply ye3;refine y2p λi=>?_;by_cases hi:i<vs.length
   ·simp[hi]
   ·simp[hi]
  have q:=h (v8 vs.length).toArray (ux _) λi j hij hj=>by rw[show i=j by omega];exact y13 _
  rw[<- es]at q;refine y0 (yba g6 rfl (y0 (y75 g6 rfl ?_ (by simp) (by show((vs.toArray.zip vs.toArray).map λx=>x.2).size<=_;rw[Array.size_map,Array.size_zip];omega))));skip;simp only[bne_self_eq_false,vi,if_false];exact y8 q
 ·rw[if_neg h2,if_neg h2];refine y0 (hkk (by omega) _ kp _ ?_);refine y0 (y10 (kat_run (ks:=vs) (vs:=vs) (Q:=λst' s'=>s'={s with heap:=((s.heap.update a (vn λ_=>#[])).push (seqObj "tuple" vs.toArray 0)).push (seqObj "list" #[] 0)}/\∃p:Array Nat,arrOf st'=p.map (kas_item (vs.toArray.zip vs.toArray))/\failedOf st'=none/\OkP vs.length p/\Asc k p vs.length)
   rfl (by omega) h64 (λp st' s' _ a2 a3 a4=>⟨a4.1,p,a2,a3,a4.2⟩) (t_sort (G:=λp s'=>s'=_/\OkP vs.length p/\Asc k p vs.length) (hT _ kp) (by omega) λp x y=>⟨rfl,x,y⟩)) ?_ λ_ _ e=>e)
  rintro⟨⟨⟩,st'⟩ s' ⟨rfl,p,har,hf,ok,as⟩;have es:=kat_snds rfl har;dsimp only;refine y0 (yba g6 rfl (y0 (y75 g6 rfl ?_ (by simp) (by show((arrOf st').map λx=>x.2).size<=_;rw[es,yj,y3,yh,ok.size];omega))));rw[hf];skip;simp only[bne_self_eq_false,vi,if_false];have q:=h p ok as;rw[<- es]at q;exact y8 q
end
section
variable{prog:yy}{w:World}{A:gw}{E:Value->ye->Prop}{s:ye}
theorem lt_one{b:Bool}{x y:Int}{t u:Tok}{Q:Bool->ye->Prop}(h:Q (decide (x<y)) s):wpAny (model prog w) A (oneLt' b (.int x t) (.int y u)) Q E s:=by
 cases b with
 |true=>exact oneLt_int h
 |false=>exact kat_one _ _ (lt_int h)
end
def Ris(xs:Array Nat):Prop:=xs.toList.Pairwise (· < ·)
structure Low(xs:Array Nat)(j r:Nat):Prop where
 le:r<=xs.size
 lo:∀i,i<r->xs.getD i 0<j
 hi:∀i,r<=i->i<xs.size->j<=xs.getD i 0
variable{xs:Array Nat}{i:Nat}
theorem j27{d:Nat}(h:i<xs.size):xs.getD i d=xs[i]:=by simp[ye4,h]
theorem Ris.lt(h:Ris xs){k:Nat}(a:i<k)(b:k<xs.size):xs.getD i 0<xs.getD k 0:=by
 rw[j27 (by omega),j27 b];have:=y34.mp h i k (by rw[yh];omega) (by rw[yh];exact b) a;simpa using this
variable{j:Nat}
theorem Low.uniq{r r':Nat}(a:Low xs j r)(b:Low xs j r'):r=r':=by
 rcases y6i r r' with h|h|h
 ·have x:=a.hi r (yg _) (by have:=b.le;omega);have y:=b.lo r h;omega
 ·exact h
 ·have x:=b.hi r' (yg _) (by have:=a.le;omega);have y:=a.lo r' h;omega
theorem ji5{xs:Array Nat}{j:Nat}(hr:Ris xs):∀(fuel lo hi:Nat),lo<=hi->hi<=xs.size->hi-lo<=fuel->(∀i,i<lo->xs.getD i 0<j)->(∀i,hi<=i->i<xs.size->j<=xs.getD i 0)->Low xs j (ya5 xs j fuel lo hi)
 |0,lo,hi,a,b,c,d,e=>⟨by show lo<=_;omega,d,by show ∀i,lo<=i->_;rw[show lo=hi by omega];exact e⟩
 |fuel+1,lo,hi,a,b,c,d,e=>by
  unfold ya5;by_cases h:lo<hi
  ·rw[if_pos h];have hm:(lo+hi)/2<xs.size:=by omega
   dsimp only;rw[j27 hm];have em:xs.getD ((lo+hi)/2) 0=xs[(lo+hi)/2]:=j27 hm;by_cases q:xs[(lo+hi)/2]<j
   ·rw[if_pos q];refine ji5 hr fuel _ hi (by omega) b (by omega) (λi hi'=>?_) e;by_cases z:i=(lo+hi)/2
    ·rw[z,em];exact q
    ·have:=hr.lt (show i<(lo+hi)/2 by omega) hm;omega
   ·rw[if_neg q];refine ji5 hr fuel lo _ (by omega) (by omega) (by omega) d λi x y=>?_;by_cases z:i=(lo+hi)/2
    ·rw[z,em];omega
    ·have:=hr.lt (show(lo+hi)/2<i by omega) y;omega
  ·rw[if_neg h];exact⟨by omega,d,by rw[show lo=hi by omega];exact e⟩
theorem j3k(hr:Ris xs)(j:Nat):Low xs j (yx xs j):=ji5 hr xs.size 0 xs.size (gm _) (yg _) (by omega) (λi h=>by omega) λi a b=>by omega
theorem j5h(hr:Ris xs)(j:Nat):xs[yx xs j]?=some j↔j∈xs.toList:=by
 have L:=j3k hr j;constructor
 ·intro h;exact v6 (by rw[xl];exact h)
 ·intro h;obtain⟨i,hi,e⟩:=vc h;rw[yh]at hi;have e':xs.getD i 0=j:=by rw[j27 hi];simpa using e
  have:yx xs j=i:=by
   refine L.uniq ⟨by omega,λk hk=>?_,λk a b=>?_⟩
   ·have:=hr.lt hk hi;omega
   ·by_cases z:k=i
    ·rw[z];omega
    ·have:=hr.lt (show i<k by omega) b;omega
  rw[this,yf hi];simpa using e
theorem j20{α:Type}(xs:Array α)(p:Nat)(x:α):(yr xs p x).toList=xs.toList.take p++x::xs.toList.drop p:=by
 unfold yr;simp;skip;exact xg (by simp)
variable{p:Nat}
theorem ji6(L:Low xs j p):∀y∈xs.toList.take p,y<j:=by
 intro y hy;obtain⟨i,hi,e⟩:=vc hy;rw[yn]at hi;have:=L.lo i (by omega);rw[j27 (by rw[yh]at hi;omega)]at this;rw[<- e];simpa using this
theorem ji7(L:Low xs j p):∀y∈xs.toList.drop p,j<=y:=by
 intro y hy;obtain⟨i,hi,e⟩:=vc hy;rw[vj,yh]at hi;have:=L.hi (p+i) (by omega) (by omega);rw[j27 (by omega)]at this;rw[<- e];simpa using this
theorem jc9(h:Ris xs)(L:Low xs j p)(hn:j∉xs.toList):Ris (yr xs p j):=by
 unfold Ris at h ⊢;rw[j20];have hp:=h;rw[<- gu p xs.toList]at hp;obtain⟨h1,h2,h3⟩:=y8k.mp hp;have gt:∀y∈xs.toList.drop p,j<y:=λy hy=>by
  have:=ji7 L y hy;have:j≠y:=λe=>hn (by rw[e];exact y0i hy);omega
 refine y8k.mpr ⟨h1,y0u.mpr ⟨gt,h2⟩,λx hx y hy=>?_⟩;skip;rcases xf.mp hy with rfl|hy
 ·exact ji6 L x hx
 ·exact h3 x hx y hy
variable{t:vp}
theorem jca(hd:t.dummies=#[])(hr:Ris t.place)(j:Nat):t.slot j=if j∈t.place.toList then .live (yx t.place j)else .empty:=by
 unfold SetTable.slot;dsimp only;rw[hd];by_cases h:j∈t.place.toList
 ·rw[if_pos h,(j5h hr j).mpr h,if_pos (by simp)]
 ·rw[if_neg h,if_neg (by rw[beq_iff_eq,j5h hr];exact h),if_neg (by unfold y64;simp)]
theorem ji8{n:Nat}(hf:t.fits n=true)(hp:t.plain=true)(hr:Ris t.place)(hn:t.place.size=n):Rise t n λi=>if i=0 then 0 else t.place.getD (i-1) 0+1:=by
 refine⟨hf,hp,rfl,λi hi=>?_,λi hi=>⟨t.place[i],yf (by omega),?_⟩⟩
 ·refine(j3k hr _).uniq ⟨by omega,λk hk=>?_,λk a b=>?_⟩
  ·rw[if_neg (by omega)];by_cases z:k=i-1
   ·rw[z];omega
   ·have:=hr.lt (show k<i-1 by omega) (by omega);omega
  ·by_cases z:i=0
   ·rw[if_pos z];omega
   ·rw[if_neg z];have:=hr.lt (show i-1<k by omega) b;omega
 ·rw[if_neg (by omega),Nat.add_sub_cancel,j27 (by omega)]
def adv(m:Nat)(p:y4m):y4m:=
 if p.more > 0 then {p with more:=p.more-1,j:=p.j+1} else
 {p with j:=(y46 m p.i p.perturb).1,more:=v5 m (y46 m p.i p.perturb).1-(y46 m p.i p.perturb).1,i:=(y46 m p.i p.perturb).1,perturb:=(y46 m p.i p.perturb).2}
def st0(m:Nat)(h:Int):y4m:={j:=vt h%(m+1),more:=v5 m (vt h%(m+1))-vt h%(m+1),i:=vt h%(m+1),perturb:=vt h,dummy:=none}
def pth(m:Nat)(h:Int):Nat->y4m
 |0=>st0 m h
 |n+1=>adv m (pth m h n)
theorem j96(m:Nat)(h:Int):∀n,(pth m h n).dummy=none
 |0=>rfl
 |n+1=>by
  show(adv m (pth m h n)).dummy=none;unfold adv;split<;>exact j96 m h n
theorem j97{m:Nat}{h:Int}{n:Nat}{p:y4m}(e:pth m h n=p):∀c,c<=p.more->pth m h (n+c)={p with j:=p.j+c,more:=p.more-c}
 |0,_=>e
 |c+1,hc=>by
  show adv m (pth m h (n+c))=_;rw[j97 e c (by omega)];unfold adv;rw[if_pos (show p.more-c > 0 by omega)];congr 1<;>omega
def lp(m:Nat)(h:Int):Nat->Nat×Nat
 |0=>(vt h%(m+1),vt h)
 |L+1=>y46 m (lp m h L).1 (lp m h L).2
theorem run_le(m i:Nat):v5 m i-i<=9:=by unfold v5;split<;>omega
theorem jlk(m:Nat)(h:Int):∀L,∃n,n<=10*L/\pth m h n={j:=(lp m h L).1,more:=v5 m (lp m h L).1-(lp m h L).1,i:=(lp m h L).1,perturb:=(lp m h L).2,dummy:=none}
 |0=>⟨0,yg _,rfl⟩
 |L+1=>by
  obtain⟨n,hn,e⟩:=jlk m h L;have r:=run_le m (lp m h L).1;refine⟨n+(v5 m (lp m h L).1-(lp m h L).1)+1,by omega,?_⟩;show adv m (pth m h (n+_))=_;rw[j97 e _ (yg _)];unfold adv;rw[if_neg (by simp)];rfl
theorem jgc(m:Nat)(h:Int):∀L,(lp m h L).2=vt h/32 ^ L
 |0=>by show vt h=_;simp
 |L+1=>by
  show(lp m h L).2/32=_;rw[jgc m h L,Nat.div_div_eq_div_mul,yd2]
theorem jll(h:Int):vt h<2 ^ 64:=by unfold vt;omega
theorem jlm(m:Nat)(h:Int)(L:Nat)(hL:13<=L):(lp m h L).2=0:=by
 rw[jgc];refine Nat.div_eq_of_lt (ge (jll h) ?_);exact gj (by decide) (Nat.pow_le_pow_right (by decide) hL)
def cyc(m:Nat):Nat->Nat->Nat
 |0,x=>x
 |d+1,x=>(cyc m d x*5+1)%(m+1)
theorem ji9(m:Nat)(h:Int):∀d,(lp m h (13+d)).1=cyc m d (lp m h 13).1
 |0=>rfl
 |d+1=>by
  show((lp m h (13+d)).1*5+1+(lp m h (13+d)).2/32)%(m+1)=_;rw[jlm m h _ (by omega),ji9 m h d];rfl
theorem cyc7:∀x,x<8->∀e,e<8->∃d,d<8/\cyc 7 d x=e:=by decide +kernel
theorem cyc31:∀x,x<32->∀e,e<32->∃d,d<32/\cyc 31 d x=e:=by decide +kernel
theorem j98(m:Nat):∀(a b x:Nat),cyc m (a+b) x=cyc m a (cyc m b x)
 |0,b,x=>by rw[Nat.zero_add];rfl
 |a+1,b,x=>by
  rw[show a+1+b=(a+b)+1 by omega];show(cyc m (a+b) x*5+1)%(m+1)=_;rw[j98 m a b x];rfl
theorem cyc00:∀e,e<128->∃d,d<128/\cyc 127 d 0=e:=by decide +kernel
theorem cyc127:∀x,x<128->∀e,e<128->∃d,d<128/\cyc 127 d x=e:=λx hx e he=>by
 obtain⟨p,hp,rfl⟩:=cyc00 x hx;obtain⟨q,hq,rfl⟩:=cyc00 e he;by_cases h:p<=q
 ·exact⟨q-p,by omega,by rw[<- j98,Nat.sub_add_cancel h]⟩
 ·refine⟨q+128-p,by omega,?_⟩;rw[<- j98,show q+128-p+p=q+128 by omega,j98,show cyc 127 128 0=0 by decide +kernel]
def Msk(m:Nat):Prop:=m=7\/m=31\/m=127
variable{m:Nat}
theorem jgd(hm:Msk m){x e:Nat}(hx:x<m+1)(he:e<=m):∃d,d<m+1/\cyc m d x=e:=by
 rcases hm with rfl|rfl|rfl
 ·exact cyc7 _ hx _ (by omega)
 ·exact cyc31 _ hx _ (by omega)
 ·exact cyc127 _ hx _ (by omega)
theorem lp_lt(m:Nat)(h:Int):∀L,(lp m h L).1<m+1
 |0=>y5l _ (y60 _)
 |L+1=>y5l _ (y60 _)
theorem meets(hm:Msk m)(h:Int){e:Nat}(he:e<=m):∃n,n<10*(m+14)/\(pth m h n).j=e:=by
 have l:=lp_lt m h 13;obtain⟨d,hd,hc⟩:=jgd hm l he;obtain⟨n,hn,q⟩:=jlk m h (13+d);exact⟨n,by omega,by rw[q];show(lp m h (13+d)).1=e;rw[ji9,hc]⟩
structure Tab(t:vp)(es:Array (Int×Value)):Prop where
 mask:Msk t.mask
 dum:t.dummies=#[]
 ris:Ris t.place
 size:t.place.size=es.size
 room:es.size*5<t.mask*3
 top:∀j∈t.place.toList,j<=t.mask
 way:∀(i:Nat) (hi:i<es.size),∃N,(pth t.mask es[i].1 N).j=t.place.getD i 0/\∀m,m<N->(pth t.mask es[i].1 m).j∈t.place.toList
theorem Tab.fits{t:vp}{es:Array (Int×Value)}(T:Tab t es):t.fits es.size=true:=by
 unfold y9k y5k;rw[T.dum,T.size];have:=T.room;simp;omega
variable{es:Array (Int×Value)}
theorem Tab.gave(T:Tab t es):t.gaveWay=false:=by
 unfold SetTable.gaveWay;rcases T.mask with h|h|h<;>rw[h]<;>rfl
theorem jcb:∀(n:Nat) (l:List Nat),(∀e,e<n->e∈l)->n<=l.length
 |0,l,_=>gm _
 |n+1,l,h=>by
  have hn:=h n (y1i _);have:=jcb n (l.erase n) λe he=>(y2x (by omega)).mpr (h e (by omega));rw[y06 hn]at this;have:=y1d hn;omega
theorem Tab.free(T:Tab t es):∃e,e<=t.mask/\e∉t.place.toList:=by
 refine y0m λh=>?_;have all:∀e,e<=t.mask->e∈t.place.toList:=λe he=>y0m λq=>h ⟨e,he,q⟩;have:=jcb (t.mask+1) t.place.toList λe he=>all e (by omega);rw[yh,T.size]at this;have:=T.room;omega
theorem jge(h:i<=m):i+(v5 m i-i)<=m:=by unfold v5;split<;>omega
theorem j6i(m:Nat)(h:Int):∀n,(pth m h n).j+(pth m h n).more<=m
 |0=>jge (y9y (y5l _ (y60 _)))
 |n+1=>by
  have ih:=j6i m h n;show(adv m (pth m h n)).j+(adv m (pth m h n)).more<=m;unfold adv;split
  ·dsimp only;omega
  ·exact jge (y9y (y5l _ (y60 _)))
theorem jcc{t:vp}(hd:t.dummies=#[])(hr:Ris t.place)(f:Nat->Int)(h:Int):∀(fuel m:Nat),(∃N,m<=N/\N<m+fuel/\(pth t.mask h N).j∉t.place.toList)->
  ∃r,m<=r/\(∀q,m<=q->q<r->(pth t.mask h q).j∈t.place.toList/\f (yx t.place (pth t.mask h q).j)≠h)/\
   (((pth t.mask h r).j∉t.place.toList/\y6n t f h fuel (pth t.mask h m)=some (.empty (pth t.mask h r).j none))\/
     ((pth t.mask h r).j∈t.place.toList/\f (yx t.place (pth t.mask h r).j)=h/\y6n t f h fuel (pth t.mask h m)=some (.candidate (pth t.mask h r).j (yx t.place (pth t.mask h r).j) (pth t.mask h (r+1)))))
 |0,m,⟨N,a,b,_⟩=>by omega
 |fuel+1,m,⟨N,a,b,c⟩=>by
  unfold y6n;rw[jca hd hr];by_cases hm:(pth t.mask h m).j∈t.place.toList
  ·rw[if_pos hm];dsimp only;by_cases hf:f (yx t.place (pth t.mask h m).j)=h
   ·refine⟨m,yg _,λq x y=>by omega,.inr ⟨hm,hf,?_⟩⟩;rw[if_pos (by rw[hf];simp)];rfl
   ·rw[if_neg (by simpa using hf)];have hne:m≠N:=λz=>c (by rw[<- z];exact hm);obtain⟨r,r1,r2,r3⟩:=jcc hd hr f h fuel (m+1) ⟨N,by omega,by omega,c⟩;refine⟨r,by omega,λq x y=>?_,r3⟩;by_cases z:q=m
    ·rw[z];exact⟨hm,hf⟩
    ·exact r2 q (by omega) y
  ·rw[if_neg hm];refine⟨m,yg _,λq x y=>by omega,.inl ⟨hm,?_⟩⟩;dsimp only;rw[j96]
section
variable{prog:yy}{w:World}{A:gw}{E:Value->ye->Prop}{s:ye}
structure Asks(prog:yy)(w:World)(A:gw)(E:Value->ye->Prop)(s:ye)(es:Array (Int×Value))(x:Value)(hash:Int){K:Type}[DecidableEq K](key:Nat->K)(k:K):Prop where
 hsh:∀(i:Nat) (hi:i<es.size),key i=k->es[i].1=hash
 eq:∀(i:Nat) (hi:i<es.size) (Q:Bool->ye->Prop),Q (decide (key i=k)) s->wpAny (model prog w) A (eqBool es[i].2 x) Q E s
 ref:∀(i:Nat) (hi:i<es.size),∃a,es[i].2=.ref a
 seen:∀(l:List Value),(∀y∈l,∃(i:Nat) (hi:i<es.size),y=es[i].2)->∀Q:Bool->ye->Prop,Q false s->wpAny (model prog w) A (searchCouldBeSeen x l) Q E s
theorem j5i{S:Addr}{es:Array (Int×Value)}{ep:Nat}{t:vp}{x:Value}{hash:Int}{K:Type}[DecidableEq K]{key:Nat->K}{k:K}{Q:SetFound->ye->Prop}(hS:s.heap.get? S=some (stObj es ep t))(T:Tab t es)(H:Asks prog w A E s es x hash key k)
  (h1:(∃i,i<es.size/\key i=k)->Q (.there none) s)
  (h2:(∀i,i<es.size->key i≠k)->∀r,(pth t.mask hash r).j∉t.place.toList->(pth t.mask hash r).j<=t.mask->(∀q,q<r->(pth t.mask hash q).j∈t.place.toList)->Q (.free (pth t.mask hash r).j false) s):
  ∀(fuel m:Nat),(∃N,m<=N/\N<10*(t.mask+14)/\N<m+fuel/\(pth t.mask hash N).j∉t.place.toList)->
   (∀q,q<m->(pth t.mask hash q).j∈t.place.toList/\key (yx t.place (pth t.mask hash q).j)≠k)->
   ∀stand,(stand=some (pth t.mask hash m)\/(m=0/\stand=none))->wpAny (model prog w) A (setSearchFrom S x hash true fuel stand) Q E s
 |0,m,⟨N,a,b,c,d⟩,_,_,_=>by omega
 |fuel+1,m,⟨N,a,b,c,d⟩,hb,stand,hst=>by
  have hmem:=λj=>j5h T.ris j;unfold setSearchFrom;refine y0 (u9 hS rfl T.fits ?_);dsimp only;rw[T.gave,if_neg (by decide)];have est:stand.getD (t.probeStart hash)=pth t.mask hash m:=by
   rcases hst with e|⟨rfl,e⟩<;>rw[e]<;>rfl
  rw[est];have hfu:10*y0p t.mask=10*(t.mask+15):=rfl;obtain⟨r,r1,r2,r3⟩:=jcc T.dum T.ris (λi=>(es[i]?.map (·.1)).getD 0) hash (10*y0p t.mask) m ⟨N,a,by rw[hfu];omega,d⟩;have at_:∀j,j∈t.place.toList->∃hi:yx t.place j<es.size,t.place.getD (yx t.place j) 0=j:=λj hj=>by
   have e:=(hmem j).mpr hj;obtain⟨hi,e'⟩:=y1f.mp e;exact⟨by rw[<- T.size];exact hi,by rw[j27 hi];exact e'⟩
  have all:∀q,q<r->(pth t.mask hash q).j∈t.place.toList/\key (yx t.place (pth t.mask hash q).j)≠k:=λq hq=>by
   by_cases z:q<m
   ·exact hb q z
   ·obtain⟨x1,x2⟩:=r2 q (by omega) hq;obtain⟨hi,_⟩:=at_ _ x1;refine⟨x1,λz=>x2 ?_⟩;show(es[yx t.place (pth t.mask hash q).j]?.map (·.1)).getD 0=hash;rw[yf hi];exact H.hsh _ hi z
  rcases r3 with⟨n1,n2⟩|⟨n1,n2,n3⟩
  ·have pe:∀g:Nat->Int,(∀i,g i=(es[i]?.map (·.1)).getD 0)->t.probe g hash (pth t.mask hash m)=some (.empty (pth t.mask hash r).j none):=λg hg=>by rw[show g=_ from funext hg];exact n2
   rw[pe]
   rotate_left
   ·exact λ_=>rfl
   dsimp only;refine y8 (h2 (λi hi e=>?_) r n1 ?_ λq hq=>(all q hq).1)
   ·obtain⟨N',w1,w2⟩:=T.way i hi;rw[H.hsh i hi e]at w1 w2;have hin:t.place.getD i 0∈t.place.toList:=by
     rw[j27 (by rw[T.size];exact hi)];simp
    have:N'<r:=by
     rcases y6i N' r with z|z|z
     ·exact z
     ·exact absurd (by rw[<- z,w1];exact hin) n1
     ·exact absurd (w2 r z) n1
    obtain⟨y1,y2⟩:=all N' this;rw[w1]at y1 y2;refine y2 ?_;have:yx t.place (t.place.getD i 0)=i:=by
     refine(j3k T.ris _).uniq ⟨by rw[T.size];omega,λk hk=>T.ris.lt hk (by rw[T.size];exact hi),λk a b=>?_⟩;by_cases z:k=i
     ·rw[z];exact yg _
     ·exact y0r (T.ris.lt (by omega) b)
    rw[this];exact e
   ·have:=j6i t.mask hash r;omega
  ·have pe:∀g:Nat->Int,(∀i,g i=(es[i]?.map (·.1)).getD 0)->t.probe g hash (pth t.mask hash m)=some (.candidate (pth t.mask hash r).j (yx t.place (pth t.mask hash r).j) (pth t.mask hash (r+1))):=λg hg=>by rw[show g=_ from funext hg];exact n3
   rw[pe]
   rotate_left
   ·exact λ_=>rfl
   dsimp only;obtain⟨hi,ei⟩:=at_ _ n1;obtain⟨ya,hya⟩:=H.ref _ hi;have sm:t.sameMemory t.moves t.mask=some true:=by unfold SetTable.sameMemory;rw[if_pos (by simp)]
   have hrN2:r<N:=by
    rcases y6i r N with z|z|z
    ·exact z
    ·exact absurd (by rw[<- z];exact n1) d
    ·exact absurd (all N z).1 d
   by_cases hl:t.led=true
   ·rw[hl,if_neg (by decide)];rw[yf hi];dsimp only;refine y0 (vg (H.eq _ hi _ ?_));refine y0 (u9 hS rfl T.fits ?_);by_cases e:key (yx t.place (pth t.mask hash r).j)=k
    ·rw[decide_eq_true e];exact y8 (h1 ⟨_,hi,e⟩)
    ·rw[decide_eq_false e];dsimp only;rw[if_neg (by decide),sm];dsimp only;rw[if_pos rfl,jca T.dum T.ris,if_pos n1];dsimp only;rw[yf hi];dsimp only;rw[hya];refine y0 (y89 (y0 (y8 ?_)));rw[if_pos rfl];dsimp only;rw[if_neg (by decide)];refine j5i hS T H h1 h2 fuel (r+1) ⟨N,by omega,b,by omega,d⟩ (λq hq=>?_) _ (.inl rfl);by_cases z:q=r
     ·rw[z];exact⟨n1,e⟩
     ·exact all q (by omega)
   ·rw[y7a]at hl;rw[hl,if_pos (by decide)];refine y0 (H.seen _ (λy hy=>?_) _ ?_)
    ·obtain⟨p,hp,rfl⟩:=yk.mp hy;rw[Array.toList_filter]at hp;obtain⟨i,hi,e⟩:=vc (ug.mp hp).1;rw[yh]at hi;exact⟨i,hi,by rw[<- e];simp⟩
    rw[if_neg (by decide)];rw[yf hi];dsimp only;refine y0 (vg (H.eq _ hi _ ?_));refine y0 (u9 hS rfl T.fits ?_);by_cases e:key (yx t.place (pth t.mask hash r).j)=k
    ·rw[decide_eq_true e];exact y8 (h1 ⟨_,hi,e⟩)
    ·rw[decide_eq_false e];dsimp only;rw[if_neg (by decide),sm];dsimp only;rw[if_pos rfl,jca T.dum T.ris,if_pos n1];dsimp only;rw[yf hi];dsimp only;rw[hya];refine y0 (y89 (y0 (y8 ?_)));rw[if_pos rfl];dsimp only;rw[if_neg (by decide)];refine j5i hS T H h1 h2 fuel (r+1) ⟨N,by omega,b,by omega,d⟩ (λq hq=>?_) _ (.inl rfl);by_cases z:q=r
     ·rw[z];exact⟨n1,e⟩
     ·exact all q (by omega)
end
abbrev OwnA:=Array (Option Nat)
theorem j99{m:Nat}{h:Int}{ow:OwnA}:∀(fuel L n:Nat),pth m h n={j:=(lp m h L).1,more:=v5 m (lp m h L).1-(lp m h L).1,i:=(lp m h L).1,perturb:=(lp m h L).2,dummy:=none}->
  (∃L',L<=L'/\L'<L+fuel/\(ow.getD (lp m h L').1 (some 0)).isNone=true)->(∀q,q<n->(ow.getD (pth m h q).j (some 0)).isNone=false)->
  ∃N,y0j m ow fuel (lp m h L).1 (lp m h L).2=some (pth m h N).j/\(ow.getD (pth m h N).j (some 0)).isNone=true/\∀q,q<N->(ow.getD (pth m h q).j (some 0)).isNone=false
 |0,L,n,_,⟨L',a,b,_⟩,_=>by omega
 |fuel+1,L,n,hn,⟨L',a,b,c⟩,hq=>by
  unfold y0j;have hrun:v5 m (lp m h L).1+1-(lp m h L).1=(v5 m (lp m h L).1-(lp m h L).1)+1:=by
   have:(lp m h L).1<=v5 m (lp m h L).1:=by unfold v5;split<;>omega
   omega
  have pj:∀k,k<=v5 m (lp m h L).1-(lp m h L).1->(pth m h (n+k)).j=(lp m h L).1+k:=λk hk=>by rw[j97 hn k hk]
  cases hf:(v8 (v5 m (lp m h L).1+1-(lp m h L).1)).find? λk=>(ow.getD ((lp m h L).1+k) (some 0)).isNone with
  |some k=>
   obtain⟨f1,as,bs,f2,f3⟩:=List.find?_eq_some_iff_append.mp hf;have hk:k<v5 m (lp m h L).1+1-(lp m h L).1:=vq.mp (by rw[f2];simp);refine⟨n+k,by rw[pj k (by omega)],by rw[pj k (by omega)];exact f1,λq hq'=>?_⟩;by_cases z:q<n
   ·exact hq q z
   ·obtain⟨c',rfl⟩:∃c',q=n+c':=⟨q-n,by omega⟩
    rw[pj c' (by omega)];have hc':c'∈as:=by
     have hlen:as.length=k:=by
      have e:=congrArg (λl=>l[as.length]?) f2;simp at e;have:=(y15 (n:=v5 m (lp m h L).1+1-(lp m h L).1) (i:=as.length))
      by_cases w:as.length<v5 m (lp m h L).1+1-(lp m h L).1
      ·rw[y15 w]at e;simpa using e
      ·rw[y04 (by simpa using w)]at e;simp at e
     have e:=congrArg (λl=>l[c']?) f2;rw[y15 (by omega),yv (by omega)]at e;exact v6 e.symm
    simpa using f3 c' hc'
  |none=>
   have no:=List.find?_eq_none.mp hf;have run:∀k,k<=v5 m (lp m h L).1-(lp m h L).1->(ow.getD ((lp m h L).1+k) (some 0)).isNone=false:=λk hk=>by
    have:=no k (vq.mpr (by omega));cases q:(ow.getD ((lp m h L).1+k) (some 0)).isNone with
    |false=>rfl
    |true=>exact absurd q this
   have hL:L≠L':=λz=>by
    have:=run 0 (gm _);rw[ycy,z,c]at this;cases this
   refine j99 fuel (L+1) (n+(v5 m (lp m h L).1-(lp m h L).1)+1) ?_ ⟨L',by omega,by omega,c⟩ λq hq'=>?_
   ·show adv m (pth m h (n+_))=_;rw[j97 hn _ (yg _)];unfold adv;rw[if_neg (by simp)];rfl
   ·by_cases z:q<n
    ·exact hq q z
    ·obtain⟨c',rfl⟩:∃c',q=n+c':=⟨q-n,by omega⟩
     rw[pj c' (by omega)];exact run c' (by omega)
theorem set_perm:∀(l:List (Option Nat)) (j k:Nat),l[j]?=some none->((l.set j (some k)).filterMap id).Perm (k::l.filterMap id)
 |[],j,k,h=>by simp at h
 |a::l,0,k,h=>by
  simp at h;subst h;exact ux _
 |a::l,j+1,k,h=>by
  have ih:=set_perm l j k (by simpa using h);cases a with
  |none=>exact ih
  |some x=>exact(ih.cons x).trans (y30 _ _ _)
structure LaidT(m:Nat)(hs:List Int)(ow:OwnA):Prop where
 size:ow.size=m+1
 perm:(ow.toList.filterMap id).Perm (v8 hs.length)
 way:∀j i,ow[j]?=some (some i)->∃h,hs[i]?=some h/\∃N,(pth m h N).j=j/\∀q,q<N->(ow.getD (pth m h q).j (some 0)).isNone=false
theorem jia(m:Nat):LaidT m [] (yay (m+1) none):=by
 refine⟨by simp,?_,λj i h=>?_⟩
 ·have:((yay (m+1) (none:Option Nat)).toList.filterMap id)=[]:=by
   rw[List.filterMap_eq_nil_iff];intro x hx;simp at hx;exact hx
  rw[this];exact ux _
 ·rw[Array.getElem?_replicate]at h;split at h<;>cases h
theorem jib{m:Nat}{hs:List Int}{ow:OwnA}(H:LaidT m hs ow)(hl:hs.length<=m):∃e,e<=m/\ow[e]?=some none:=by
 refine y0m λh=>?_;have hz:=H.size;have all:∀e,e<=m->∃i,ow[e]?=some (some i):=λe he=>by
  rw[yf (by omega)];cases q:ow[e]'(by omega)with
  |none=>exact absurd ⟨e,he,by rw[yf (by omega),q]⟩ h
  |some i=>exact⟨i,rfl⟩
 have:(ow.toList.filterMap id).length=ow.toList.length:=by
  rw[List.length_filterMap_eq_countP,List.countP_eq_length];intro x hx;obtain⟨e,he,q⟩:=vc hx;rw[yh]at he;obtain⟨i,hi⟩:=all e (by omega);rw[yf he]at hi;have:x=some i:=by rw[<- q];simpa using hi
  rw[this];rfl
 rw[H.perm.length_eq,y0k,show ow.toList.length=m+1 from by rw[yh];exact hz]at this;omega
variable{ow:OwnA}
theorem jep(hm:Msk m){hs:List Int}(H:LaidT m hs ow)(hl:hs.length<=m)(h:Int):∃j,y0j m ow (y0p m) (vt h%(m+1)) (vt h)=some j/\LaidT m (hs++[h]) (ow.setIfInBounds j (some hs.length)):=by
 have hz:=H.size;obtain⟨e,he,ee⟩:=jib H hl;obtain⟨d,hd,hc⟩:=jgd hm (lp_lt m h 13) he;obtain⟨N,f1,f2,f3⟩:=j99 (m:=m) (h:=h) (ow:=ow) (y0p m) 0 0 rfl ⟨13+d,by omega,by unfold y0p;omega,by rw[ji9,hc,xr,ee];rfl⟩ λq hq=>by omega
 have top:=j6i m h N;have hj:(pth m h N).j<ow.size:=by omega
 have ej:ow[(pth m h N).j]?=some none:=by
  rw[xr,yf hj]at f2;rw[yf hj];simpa using f2
 have grow:∀x:Nat,(ow.getD x (some 0)).isNone=false->((ow.setIfInBounds (pth m h N).j (some hs.length)).getD x (some 0)).isNone=false:=λx hx=>by
  rw[xr]at hx ⊢;skip;rw[y5e];split<;>first|rfl|exact hx|(split<;>rfl)
 refine⟨_,f1,by simp[hz],?_,λx i q=>?_⟩
 ·rw[Array.toList_setIfInBounds,xa,ub,y19];exact(set_perm _ _ _ (by rw[xl];exact ej)).trans ((H.perm.cons _).trans (y1n (l₁:=[hs.length])))
 ·rw[y5e]at q;by_cases z:(pth m h N).j=x
  ·rw[if_pos z,if_pos (by omega)]at q;cases q;exact⟨h,by simp,N,z,λr hr=>grow _ (f3 r hr)⟩
  ·rw[if_neg z]at q;obtain⟨h',e1,N',e2,e3⟩:=H.way x i q;refine⟨h',?_,N',e2,λr hr=>grow _ (e3 r hr)⟩;rw[yv]
   ·exact e1
   ·obtain⟨w,_⟩:=yw.mp e1;exact w
theorem jic{m:Nat}(hm:Msk m)(hs:List Int)(hl:hs.length<=m):∃ow,y6m m hs.toArray=some ow/\LaidT m hs ow:=by
 have go:∀(l done:List Int) (ow:OwnA),(done++l).length<=m+0->LaidT m done ow->∃ow',(l.foldl (λ(acc:Option (OwnA×Nat)) h=>do
   let (owner,k) <- acc
   let j <- y0j m owner (y0p m) (vt h%(m+1)) (vt h)
   pure (owner.setIfInBounds j (some k),k+1)) (some (ow,done.length)))=some (ow',(done++l).length)/\LaidT m (done++l) ow':=by
  intro l
  induction l with
  |nil=>intro done ow _ H;exact⟨ow,by simp,by simpa using H⟩
  |cons h l ih=>
   intro done ow hlen H;obtain⟨j,f1,H1⟩:=jep hm H (by simp at hlen;omega) h;obtain⟨ow',e1,e2⟩:=ih (done++[h]) _ (by simpa using hlen) H1;refine⟨ow',?_,by simpa using e2⟩;rw[y3v];have:(do
     let (owner,k) <- some (ow,done.length)
     let j <- y0j m owner (y0p m) (vt h%(m+1)) (vt h)
     pure (owner.setIfInBounds j (some k),k+1))=some (ow.setIfInBounds j (some done.length),(done++[h]).length):=by
    show(y0j m ow (y0p m) (vt h%(m+1)) (vt h)).bind _=_;rw[f1];simp
   rw[this,e1];simp
 obtain⟨ow,e,H⟩:=go hs [] _ (by simpa using hl) (jia m);refine⟨ow,?_,by simpa using H⟩;unfold y6m;rw[List.foldl_toArray];simp only[vm]at e;rw[e];rfl
def j1h(ow:OwnA)(m:Nat):List (Nat×Nat):=(v8 (m+1)).filterMap λj=>(ow.getD j none).map (j,·)
theorem jid(hz:ow.size=m+1):(j1h ow m).map (·.2)=ow.toList.filterMap id:=by
 have e:ow.toList=(v8 (m+1)).map λj=>ow.getD j none:=by
  refine y2p λi=>?_;rw[xc];by_cases hi:i<m+1
  ·rw[y15 hi,xl,yf (by omega)];simp[ye4,hz,hi]
  ·rw[y04 (by rw[yh];omega),y04 (by simpa using hi)];rfl
 rw[e,y9c];unfold j1h;rw[List.map_filterMap];congr 1
 funext j
 show ye8 (·.2) ((ow.getD j none).map (j,·))=ow.getD j none;cases ow.getD j none<;>rfl
theorem j7y(hz:ow.size=m+1):(j,i)∈j1h ow m↔ow[j]?=some (some i):=by
 unfold j1h;rw[y3x];constructor
 ·rintro⟨x,hx,e⟩;obtain⟨y,e1,e2⟩:=y1e.mp e;cases e2;rw[vq]at hx;rw[xr,yf (by omega)]at e1;rw[yf (by omega)];exact congrArg some e1
 ·intro h;obtain⟨hj,_⟩:=y1f.mp h;refine⟨j,vq.mpr (by omega),?_⟩;rw[xr,h];rfl
theorem jie(ow:OwnA)(m:Nat):((j1h ow m).map (·.1)).Pairwise (· < ·):=by
 unfold j1h;rw[v7,List.pairwise_filterMap];refine(y7j (n:=m+1)).imp λ{a b} hab x hx y hy=>?_;obtain⟨_,_,rfl⟩:=y1e.mp hx;obtain⟨_,_,rfl⟩:=y1e.mp hy;exact hab
theorem fm_at{α β:Type}(f:α->Option β):∀(l:List α),(∀a∈l,(f a).isSome=true)->∀r:Nat,(l.filterMap f)[r]?=l[r]?.bind f
 |[],_,r=>by simp
 |a::l,h,r=>by
  obtain⟨b,hb⟩:=y3m.mp (h a yu);rw[List.filterMap_cons_some hb];cases r with
  |zero=>simp[hb]
  |succ r=>simpa using fm_at f l (λx hx=>h x (ym _ hx)) r
theorem j9a{t:vp}{es:Array (Int×Value)}{wanted m:Nat}(hm0:Msk m)(hw:y65 wanted=m+1)(hn:es.size*5<m*3):
  ∃t' order,t.relaid (es.map (·.1)) wanted=some (t',order)/\(order.filterMap (es[·]?)).size=es.size/\(order.filterMap (es[·]?)).toList.Perm es.toList/\Tab t' (order.filterMap (es[·]?))/\t'.led=t.led/\t'.plain=t.plain/\order.toList.Perm (v8 es.size):=by
 obtain⟨ow,e,H⟩:=jic hm0 (es.toList.map (·.1)) (by simp;omega);have hz:=H.size;have ha:(es.toList.map (·.1)).toArray=es.map (·.1):=by apply ye3;simp
 rw[ha]at e;have p1:=jid (m:=m) hz;have p2:((j1h ow m).map (·.2)).Perm (v8 es.size):=by
  rw[p1];have:=H.perm;simpa using this
 have len:(j1h ow m).length=es.size:=by have:=p2.length_eq;simpa using this
 have lt:∀i∈(j1h ow m).map (·.2),i<es.size:=λi hi=>vq.mp (p2.mem_iff.mp hi);have some_:∀i∈(j1h ow m).map (·.2),(es[i]?).isSome=true:=λi hi=>by rw[yf (lt i hi)];rfl
 have el:(((j1h ow m).map (·.2)).toArray.filterMap (es[·]?)).toList=((j1h ow m).map (·.2)).filterMap (es[·]?):=by rw[Array.toList_filterMap]
 have perm:(((j1h ow m).map (·.2)).filterMap (es[·]?)).Perm es.toList:=by
  refine(p2.filterMap _).trans ?_;have:=j4t es.toList es.size (by simp);rw[xg (by simp)]at this;have e2:(λi:Nat=>es[i]?)=λi:Nat=>es.toList[i]?:=by funext i;rw[xl]
  rw[e2,this]
 have sz:(((j1h ow m).map (·.2)).toArray.filterMap (es[·]?)).size=es.size:=by rw[<- yh,el,perm.length_eq,yh]
 refine⟨{mask:=m,place:=((j1h ow m).map (·.1)).toArray,dummies:=#[],finger:=t.finger,led:=t.led,moves:=t.movedTo m,plain:=t.plain},((j1h ow m).map (·.2)).toArray,?_,sz,by rw[el];exact perm,⟨hm0,rfl,jie ow m,by rw[sz];simp[len],by rw[sz];exact hn,λj hj=>?_,λi hi=>?_⟩,rfl,rfl,p2⟩
 ·unfold SetTable.relaid SetTable.laid;rw[hw];show(y6m m (es.map (·.1))).bind _=_;rw[e];rfl
 ·obtain⟨⟨x,y⟩,hp,rfl⟩:=yk.mp (show j∈(j1h ow m).map (·.1)from hj);obtain⟨hx,_⟩:=y1f.mp ((j7y hz).mp hp);show x<=m;omega
 ·rw[sz]at hi;have hi2:i<(j1h ow m).length:=by omega
  have hm:(j1h ow m)[i]∈j1h ow m:=u0 hi2;cases hq:(j1h ow m)[i] with
  |mk j o=>
   rw[hq]at hm;obtain⟨h,h1,N,h2,h3⟩:=H.way j o ((j7y hz).mp hm);have ho:o<es.size:=lt o (yk.mpr ⟨_,hm,rfl⟩);have ee:(((j1h ow m).map (·.2)).toArray.filterMap (es[·]?))[i]?=some es[o]:=by
    rw[<- xl,el,fm_at _ _ some_,xc,y4 hi2,hq];show es[o]?=_;exact yf ho
   obtain⟨hb,eq⟩:=y1f.mp ee;have hh:h=es[o].1:=by
    rw[xc,xl,yf ho]at h1;exact(gf h1).symm
   rw[eq,<- hh];refine⟨N,?_,λq hq'=>?_⟩
   ·rw[h2];show j=(((j1h ow m).map (·.1)).toArray).getD i 0;rw[xr,y4p,xc,y4 hi2,hq];rfl
   ·have:=h3 q hq';have tp:=j6i m h q;rw[xr,yf (by omega)]at this;cases w:ow[(pth m h q).j]'(by omega)with
    |none=>rw[w]at this;cases this
    |some i'=>exact yk.mpr ⟨((pth m h q).j,i'),(j7y hz).mpr (by rw[yf (by omega),w]),rfl⟩
theorem jgf{hash:Int}{x:Value}{r:Nat}(T:Tab t es)(n1:(pth t.mask hash r).j∉t.place.toList)(n2:(pth t.mask hash r).j<=t.mask)(n3:∀q,q<r->(pth t.mask hash q).j∈t.place.toList)(hr:(es.size+1)*5<t.mask*3):
  Tab {t with place:=yr t.place (yx t.place (pth t.mask hash r).j) (pth t.mask hash r).j} (yr es (yx t.place (pth t.mask hash r).j) (hash,x)):=by
 have L:=j3k T.ris (pth t.mask hash r).j;generalize yx t.place (pth t.mask hash r).j=p at L;have lp':=L.le;have hsz:=T.size;have pl:=j20 t.place p (pth t.mask hash r).j;have el:=j20 es p (hash,x);have es1:(yr es p (hash,x)).size=es.size+1:=by
  rw[<- yh,el,xa,yn,yl,vj,yh];omega
 have ps1:(yr t.place p (pth t.mask hash r).j).size=t.place.size+1:=by
  rw[<- yh,pl,xa,yn,yl,vj,yh];omega
 have up:∀y,y∈t.place.toList->y∈(yr t.place p (pth t.mask hash r).j).toList:=λy hy=>by
  rw[pl];rw[<- gu p t.place.toList]at hy;rcases x0.mp hy with h|h
  ·exact gr _ h
  ·exact yz _ (ym _ h)
 refine⟨T.mask,T.dum,jc9 T.ris L n1,by rw[es1];show(yr t.place p (pth t.mask hash r).j).size=_;rw[ps1,hsz],by rw[es1];exact hr,λj hj=>?_,λi hi=>?_⟩
 ·rw[pl]at hj;rcases x0.mp hj with h|h
  ·exact T.top j (vd h)
  ·skip;rcases xf.mp h with rfl|h
   ·exact n2
   ·exact T.top j (y0i h)
 ·have at1:∀(i:Nat),(yr es p (hash,x))[i]?=if i<p then es[i]? else if i=p then some (hash,x)else es[i-1]?:=λi=>by
   rw[<- xl,el];by_cases a:i<p
   ·rw[if_pos a,yv (by simp;omega),y3k a,xl]
   ·rw[if_neg a,yp (by simp;omega),yn,yh,show min p es.size=p by omega];by_cases b:i=p
    ·rw[if_pos b,b,uq];rfl
    ·rw[if_neg b];obtain⟨c,rfl⟩:∃c,i=p+1+c:=⟨i-p-1,by omega⟩
     rw[show p+1+c-p=c+1 by omega,y6v,y9d,xl,show p+1+c-1=p+c by omega]
  have at2:∀(i:Nat),(yr t.place p (pth t.mask hash r).j).getD i 0=if i<p then t.place.getD i 0 else if i=p then(pth t.mask hash r).j else t.place.getD (i-1) 0:=λi=>by
   rw[xr,<- xl,pl];by_cases a:i<p
   ·rw[if_pos a,yv (by simp;omega),y3k a,xl,xr]
   ·rw[if_neg a,yp (by simp;omega),yn,yh,show min p t.place.size=p by omega];by_cases b:i=p
    ·rw[if_pos b,b,uq];rfl
    ·rw[if_neg b];obtain⟨c,rfl⟩:∃c,i=p+1+c:=⟨i-p-1,by omega⟩
     rw[show p+1+c-p=c+1 by omega,y6v,y9d,xl,show p+1+c-1=p+c by omega,xr]
  have e:=at1 i;rw[yf hi]at e;have e2:=at2 i;show ∃N,(pth t.mask (yr es p (hash,x))[i].1 N).j=(yr t.place p (pth t.mask hash r).j).getD i 0/\_;by_cases a:i<p
  ·rw[if_pos a,yf (by omega)]at e;rw[if_pos a]at e2;rw[gf e,e2];obtain⟨N,w1,w2⟩:=T.way i (by omega);exact⟨N,w1,λq hq=>up _ (w2 q hq)⟩
  ·rw[if_neg a]at e e2;by_cases b:i=p
   ·rw[if_pos b]at e e2;rw[gf e,e2];exact⟨r,rfl,λq hq=>up _ (n3 q hq)⟩
   ·rw[if_neg b,yf (by omega)]at e;rw[if_neg b]at e2;rw[gf e,e2];obtain⟨N,w1,w2⟩:=T.way (i-1) (by omega);exact⟨N,w1,λq hq=>up _ (w2 q hq)⟩
theorem j21{α:Type}(xs:Array α)(p:Nat)(x:α):(yr xs p x).toList.Perm (x::xs.toList):=by
 rw[j20];refine y3d.trans ?_;rw[gu]
section
variable{prog:yy}{w:World}{A:gw}{E:Value->ye->Prop}{s:ye}
def RowE(prog:yy)(w:World)(Z:Addr->List Int->Prop)(h:Heap)(e:Int×Value)(L:List Int):Prop:=∃a,e.2=.ref a/\y0t (intKind prog w) h L a/\e.1=tupleKeyHash (intKind prog w) L/\Z a L
inductive RowsE(prog:yy)(w:World)(Z:Addr->List Int->Prop)(h:Heap):List (Int×Value)->List (List Int)->Prop
 |nil:RowsE prog w Z h [] []
 |cons {e:Int×Value}{L:List Int}{es:List (Int×Value)}{Ls:List (List Int)}:RowE prog w Z h e L->RowsE prog w Z h es Ls->RowsE prog w Z h (e::es) (L::Ls)
end
section
variable{w:World}{prog:yy}{A:gw}
variable{R:yb6->ye->Prop}{I:Addr}{fp wr:List Addr}{G:Array y6u->Array y6u->Prop}{n:Nat}{P:Nat->Value->Prop}{St:Nat->ye->Prop}
theorem j2f{Ms:List (List Int)}{L:List Int}:(∃i,i<Ms.length/\Ms.getD i []=L)↔L∈Ms:=by
 constructor
 ·rintro⟨i,hi,e⟩;rw[yd,y4 hi]at e;rw[<- e];exact u0 hi
 ·intro h;obtain⟨i,hi,e⟩:=vc h;exact⟨i,hi,by rw[yd,y4 hi];exact e⟩
end
end L2
set_option Elab.async false
set_option linter.all false
set_option maxRecDepth 100000
set_option maxHeartbeats 4000000
namespace L2
open PySem PySem.Spec PyProof.Rows PySem.W
inductive RowsV(prog:yy)(w:World)(Z:Addr->List Int->Prop)(h:Heap):List Value->List (List Int)->Prop
 |nil:RowsV prog w Z h [] []
 |cons {a:Addr}{L:List Int}{vs:List Value}{Ls:List (List Int)}:y0t (intKind prog w) h L a->Z a L->RowsV prog w Z h vs Ls->RowsV prog w Z h (.ref a::vs) (L::Ls)
inductive RefsH(H:Hp):List V->List (List Int)->Prop
 |nil:RefsH H [] []
 |cons {a:Addr}{L:List Int}{vs:List V}{Ls:List (List Int)}:H a=some (.tup (L.map V.int))->RefsH H vs Ls->RefsH H (.ref a::vs) (L::Ls)
theorem RefsH.length{H:Hp}{vs:List V}{Ls:List (List Int)}(r:RefsH H vs Ls):vs.length=Ls.length:=by
 induction r with
 |nil=>rfl
 |cons _ _ ih=>simp[ih]
theorem RefsH.mono{H H':Hp}(e:Ext H H'){vs:List V}{Ls:List (List Int)}(r:RefsH H vs Ls):RefsH H' vs Ls:=by
 induction r with
 |nil=>exact .nil
 |cons x _ ih=>exact .cons (e _ _ x) ih
theorem jgg:∀{xs:List V}{us:List Value},Vals xs us->∀(i:Nat) (u:Value),us[i]?=some u->∃x,xs[i]?=some x/\Vals [x] [u]
 |_,_,.nil,i,u,h=>by simp at h
 |_,_,.cons r1 r2,i,u,h=>by
  cases i with
  |zero=>simp at h;subst h;exact⟨_,rfl,.cons r1 .nil⟩
  |succ i=>
   obtain⟨x,e,r⟩:=jgg r2 i u (by simpa using h);exact⟨x,by simpa using e,r⟩
end L2
set_option Elab.async false
set_option linter.all false
set_option maxRecDepth 100000
set_option maxHeartbeats 4000000
namespace L2
open PySem PySem.Spec PyProof.Rows PySem.W
def jln(p q:List Int×Int):Prop:=p.1<q.1\/(p.1=q.1/\p.2<q.2)
instance (p q:List Int×Int):Decidable (jln p q):=by unfold jln;infer_instance
theorem jlo(a b:List Int):a<b\/a=b\/b<a:=by
 by_cases h:a<b
 ·exact .inl h
 ·by_cases h2:b<a
  ·exact .inr (.inr h2)
  ·exact .inr (.inl (y3b (y0b.mp h2) (y0b.mp h)))
inductive PairsAt(prog:yy)(w:World)(h:Heap):List Value->List (List Int×Int)->Prop
 |nil:PairsAt prog w h [] []
 |cons {c a:Addr}{L:List Int}{x:Int}{t:Tok}{vs:List Value}{Ks:List (List Int×Int)}:IsTup h c #[.ref a,.int x t]->y0t (intKind prog w) h L a->PairsAt prog w h vs Ks->PairsAt prog w h (.ref c::vs) ((L,x)::Ks)
end L2
set_option Elab.async false
set_option linter.all false
set_option maxRecDepth 100000
set_option maxHeartbeats 4000000
namespace L2
open PySem PySem.Spec PyProof.Rows PySem.W
inductive PairsH(H:Hp):List V->List (List Int×Int)->Prop
 |nil:PairsH H [] []
 |cons {c a:Addr}{L:List Int}{x:Int}{vs:List V}{Ks:List (List Int×Int)}:H c=some (.tup [.ref a,.int x])->H a=some (.tup (L.map V.int))->PairsH H vs Ks->PairsH H (.ref c::vs) ((L,x)::Ks)
section
variable{X:Cx}
open Classical in
end
structure LamOk(X:Cx)(scope:Scope)(cl:List (Str×Addr))(x:Str)(fr:List Str)(js:List Nat):Prop where
 kind:scope.kind=.function
 co:scope.isCoroutine=false
 gen:scope.isGenerator=false
 nc:∀y∈scope.names,y.2≠.cell
 par:scope.names.lookup x=some .local
 clos:j3g X.env.cells scope.names []=some cl
 frees:Frees X scope fr js
section
variable{X:Cx}{pins:List (Addr×Obj)}{σ:St}{H:Hp}{s:ye}
structure Keyed(X:Cx)(A:gw)(σ:St)(KR:Hp->V->Nat->Prop)(lt:Nat->Nat->Bool):Prop where
 ext:∀{H H':Hp}{v:V}{i:Nat},Ext H H'->KR H v i->KR H' v i
 cmp:∀{pins:List (Addr×Obj)}{H:Hp}{s:ye}{v1 v2:V}{u1 u2:Value}{i j:Nat}{Q:Value->ye->Prop}{E:Value->ye->Prop},Inv X pins σ H s->KR H v1 i->RelV v1 u1->KR H v2 j->RelV v2 u2->Q (.bool (lt i j)) s->
  wpAny (model X.prog X.w) A (richCompare .Lt u1 u2) Q E s
structure Turns(X:Cx)(A:gw)(pins:List (Addr×Obj))(σ:St)(KR:Hp->V->Nat->Prop)(G:Hp->Prop)(q l:Addr)(xs:List V)(tp:Bool):Prop where
 ext:∀{H H':Hp},Ext H H'->G H->G H'
 src:∀{H:Hp},G H->SqE X.K H l xs tp
 turn:∀{ps:List (Addr×Obj)}{H:Hp}{s:ye}{i:Nat}{x:V}{u:Value}{E:Value->ye->Prop},(∀p∈pins,p∈ps)->Inv X ps σ H s->G H->xs[i]?=some x->RelV x u->
  wpAny (model X.prog X.w) A (call (.ref q) [u]) (EP X ps σ λkv H'=>KR H' kv i/\Ext H H') E s
variable{A:gw}{KR:Hp->V->Nat->Prop}{lt:Nat->Nat->Bool}{G:Hp->Prop}{l q It S:Addr}{xs:List V}{tp:Bool}{R:yb6->ye->Prop}
end
abbrev LA(α:Type):=List (Addr×Obj)->Addr->Addr->ye->Hp->α
structure NoC(K:y9)(C B:Addr):Prop where
 ha:gc K (.ref C) "__class__"=some (some (.builtin "object.__class__"))
 hn:y0y K (.builtin "object.__class__") "__get__"=some (some (.builtin "getset_descriptor.__get__"))
 htk:y44 K (.builtin "object.__class__")=some true
 hm:y5j K C (.type "object")=some true
 ki:y0n K (.ref C) (.ref B)=some false
section
variable{X:Cx}
def rTIxI:V->List V->Hp->VK->Prop:=λx vs H Q=>∃(p:Addr) (ns:List Int) (k:Int),x=.ref p/\vs=[.int k]/\H p=some (.tup (ns.map V.int))/\k∈ns/\ns.length<=1000000/\Q (.int (ns.idxOf k:Nat)) H
theorem jcd:MtM X "tuple.index" rTIxI:=by
 skip;intro pins s σ H x vs v us Q I rx rv h;obtain⟨p,ns,k,rfl,rfl,hp,hk,hz,q⟩:=h;cases rx;obtain⟨u,rfl,t,rfl⟩:=rv.one;obtain⟨_,its,r,it,_⟩:=(show ObjOk X.prog X.w H s.heap p (.tup (ns.map V.int))from I.hok p _ hp)
 have hi:y2f its ns:=j1v r;have hn:=hi.length;skip;have hj:ns.idxOf k<ns.length:=y05.mpr hk;refine y4h y9a it.typeIs y8v (y8f _ _) (j92 p its.toArray (.int k t) (isInt k) (ns.idxOf k) (by rw[yj];omega) ?_ ?_) ⟨it,λy hy=>?_,?_⟩
 ·refine(isInt_at k hi _ (by omega) hj).trans ?_;rw[y1m hj];exact beq_self_eq_true k
 ·intro m hm h2;rw[yj]at hm;refine(isInt_at k hi m (by omega) (by omega)).trans ?_;exact y4a h2
 ·exact(eq_isInt k t hi y (by simpa using hy)).at _ _
 ·exact⟨.int (ns.idxOf k:Nat),H,I.tok _,⟨_,rfl⟩,q⟩
end
theorem jer{H:Hp}{Q:VK}{p:Addr}{ns:List Int}{k:Int}(h:H p=some (.tup (ns.map V.int)))(hk:k∈ns)(hz:ns.length<=1000000)(q:Q (.int (ns.idxOf k:Nat)) H):rTIxI (.ref p) [.int k] H Q:=⟨p,ns,k,rfl,rfl,h,hk,hz,q⟩
variable{n:Nat}
section
variable{prog:yy}{w:World}{A:gw}{E:Value->ye->Prop}{s:ye}
theorem jce{src:Source}{Q:Nat->ye->Prop}(hn:n≠0)(h:∀i d,i<n->Q i {s with drawn:=d}):wpAny (model prog w) A (choose src n) Q E s:=λΓ hΓ p=>by
 unfold choose;rw[Sem.wp_choose];exact⟨hn,by rw[Sem.wp_pure];exact h _ _ (y5l _ (by omega))⟩
theorem jcf{α:Type}:∀(n:Nat) (xs:List α) {s:ye}{Q:List α->ye->Prop},xs.length=n->(∀ys d,ys.Perm xs->Q ys {s with drawn:=d})->wpAny (model prog w) A (drawOrder n xs) Q E s
 |0,xs,s,Q,hl,h=>by
  rw[vo.mp hl]at h ⊢;unfold drawOrder;exact y8 (h [] s.drawn (ux _))
 |n+1,[],s,Q,hl,h=>by simp at hl
 |n+1,x::xs,s,Q,hl,h=>by
  unfold drawOrder;refine y0 (jce (by simp) λi d hi=>?_);rw[y4 hi];refine y0 (jcf n _ (by rw[y5w hi];omega) λys d' hp=>y8 (h _ d' ?_));exact(ybh _ hp).trans (j3s _ _ hi)
end
abbrev siD(T:Addr)(i:Nat)(S:Addr)(n ep:Nat):Obj:={cls:=.type "set_iterator",dict:=none,data:=.fields #[.ref T,rawInt i,.ref S,rawInt n,rawInt ep],slots:=#[]}
abbrev drO(ps:List Nat):Obj:={cls:=.type "tuple",data:=.seq (ps.map λ(i:Nat)=>rawInt i).toArray}
variable{S I T:Addr}{es:Array (Int×Value)}{ep i:Nat}{t:vp}{ps:List Nat}
section
variable{prog:yy}{w:World}{A:gw}{E:Value->ye->Prop}{s:ye}
theorem jlp{Q:Value->ye->Prop}(hS:s.heap.get? S=some (stObj es ep t))(fits:t.fits es.size=true)(hb:byT w=false)(hp:t.plain=false)(h2:1<es.size)(hz:es.size<=sizeLine)
  (h:∀(ps:List Nat) (d:Drawn),ps.Perm (v8 es.size)->Q (.ref (s.heap.objs.size+1)) {s with heap:=(s.heap.push (drO ps)).push (siD s.heap.objs.size 0 S es.size ep),drawn:=d}):wpAny (model prog w) A (pyIter (.ref S)) Q E s:=by
 have te:s.TypeIs (.ref S) "set":=⟨_,hS,rfl⟩
 skip;refine y24 te y2k (xw y2k te jc2 ?_ (y73 _));unfold Builtin.«frozenset.__iter__»;refine y0 (y0g (a:=S) rfl ?_);unfold y6f;refine y0 (y0 (y1c hS rfl fits (y8 ?_)));refine y0 ?_;unfold setDrawn;refine y0 (u9 hS rfl fits (y0 (j3j (y8 ?_))));have e:(!byT w&&(!t.plain&&decide (es.size > 1)))=true:=by rw[hb,hp,decide_eq_true (show es.size > 1 from h2)];rfl
 show wpAny _ _ (if (!byT w&&(!t.plain&&decide (es.size > 1)))=true then _ else _) _ _ _;rw[e,if_pos rfl];refine y0 (jcf es.size (v8 es.size) (y0k) λps d hps=>y0 (y8u ?_ (by rw[y3,hps.length_eq,y0k];exact hz)));have hS':(s.heap.push (drO ps)).get? S=some (stObj es ep t):=yc _ hS;refine y0 (yab hS' rfl fits ?_);refine y0 (v9 (y8 ⟨_,rfl,"set_iterator",_,⟨_,yi _ rfl,rfl⟩,j1c.lookup,?_⟩));have:=h ps d hps;rw[<- vf s.heap (drO ps)]at this;exact this
theorem jlq{x:Int×Value}{Q:Option Value->ye->Prop}(hI:s.heap.get? I=some (siD T i S es.size ep))(hT:s.heap.get? T=some (drO ps))(hS:s.heap.get? S=some (stObj es ep t))(fits:t.fits es.size=true)(hi:i<ps.length)(hx:es[ps[i]]?=some x)
  (hQ:∀h',h'.get? I=some (siD T (i+1) S es.size ep)->uv I s.heap h'->Q (some x.2) {s with heap:=h'}):wpAny (model prog w) A (pyNext (.ref I)) Q E s:=by
 have te:s.TypeIs (.ref I) "set_iterator":=⟨_,hI,rfl⟩
 unfold pyNext;skip;refine y0 (y29 (gp (name:=uc "__next__") te j1c (xw j1c te j5d ?_ (j5e _))));unfold Builtin.«set_iterator.__next__»;refine y0 (y0g (a:=(xy I,[])) rfl ?_);refine y0 (y1q hI rfl ?_);show wpAny _ _ (setEntries S >>= _) _ _ _;refine y0 (y1c hS rfl fits ?_);rw[if_neg (by simp)];show wpAny _ _ (seqItems? (.ref T) >>= _) _ _ _;refine y0 (y00 hT rfl ?_);have ep':(ps.map λ(i:Nat)=>rawInt i).toArray[(i:Int).toNat]?=some (rawInt (ps[i]:Nat)):=by
  rw[yq,y4p,xc,y4 hi];rfl
 simp only[ep'];show wpAny _ _ (setNextDrawn S ((ps[i]:Nat):Int).toNat (ep:Int).toNat >>= _) _ _ _;rw[yq,yq];refine y0 ?_;unfold setNextDrawn;refine y0 (u9 hS rfl fits ?_);dsimp only;rw[if_neg (by simp),hx];refine y8 ?_;refine y0 (vx hI (by simp) λg1 e1 s1=>?_);exact y8 ⟨_,rfl,y8 (hQ g1 e1 s1)⟩
theorem sd_end{Q:Option Value->ye->Prop}(hh:A.handled=none)(hI:s.heap.get? I=some (siD T ps.length S es.size ep))(hT:s.heap.get? T=some (drO ps))(hS:s.heap.get? S=some (stObj es ep t))(fits:t.fits es.size=true)
  (hQ:∀h',(∀b o,b≠I->s.heap.get? b=some o->h'.get? b=some o)->Q none {s with heap:=h'}):wpAny (model prog w) A (pyNext (.ref I)) Q E s:=by
 have te:s.TypeIs (.ref I) "set_iterator":=⟨_,hI,rfl⟩
 unfold pyNext;skip;refine y0 (y29 (gp (name:=uc "__next__") te j1c (xw j1c te j5d ?_ (j5e _))));unfold Builtin.«set_iterator.__next__»;refine y0 (y0g (a:=(xy I,[])) rfl ?_);refine y0 (y1q hI rfl ?_);show wpAny _ _ (setEntries S >>= _) _ _ _;refine y0 (y1c hS rfl fits ?_);rw[if_neg (by simp)];show wpAny _ _ (seqItems? (.ref T) >>= _) _ _ _;refine y0 (y00 hT rfl ?_);have ep':(ps.map λ(i:Nat)=>rawInt i).toArray[((ps.length:Nat):Int).toNat]?=none:=by
  rw[yq,y4p,y04 (by rw[y3];exact yg _)]
 simp only[ep'];show wpAny _ _ (setField (.ref I) 0 (rawInt 0) >>= _) _ _ _;refine y0 (vx hI (by simp) λg0 e0 s0=>y0 (vx e0 (by simp) λg1 e1 s1=>?_));have kk:∀b o,b≠I->s.heap.get? b=some o->g1.get? b=some o:=λb o q h=>s1.extBut b o q (s0.extBut b o q h);skip;refine y0 ?_;simp only[newExc,newTuple];refine y0 (v9 (y0 (m:=firstArgMember _ _) (y0g (a:=ud) (by first|rfl|(simp only[firstArgMember];rfl)) (v9 ?_ (by size_fits)))) (by size_fits));skip;simp only[raiseNew];refine y0 (y77 ?_);first|rw[show A.in1.handled=none from hh]|rw[hh]
 skip;refine y0 (y8 (y97 ?_));refine y0 (y2c (T:="StopIteration") (b:=true) ⟨_,yi _ rfl,rfl⟩ y6c ?_);exact y8 (hQ _ λb o q h=>yc _ (yc _ (kk b o q h)))
end
structure RiseG(w:World)(t:vp)(n:Nat)(sl:Nat->Nat):Prop where
 fits:t.fits n=true
 dr:byT w=false->(!t.plain&&decide (n > 1))=false
 zero:sl 0=0
 low:∀i,i<=n->yx t.place (sl i)=i
 step:∀i,i<n->∃j,t.place[i]?=some j/\j+1=sl (i+1)
variable{sl:Nat->Nat}
section
variable{prog:yy}{w:World}{A:gw}{E:Value->ye->Prop}{s:ye}
theorem j4u{Q:Option (Value×Nat)->ye->Prop}(hS:s.heap.get? S=some (stObj es ep t))(R:RiseG w t es.size sl)(hled:t.led=!byT w)(hi:i<=es.size)
  (h:Q (((jaq w S ep es)[i]?).map λe=>(e.2,fsOf w sl (i+1))) s):wpAny (model prog w) A (setNext S (fsOf w sl i) i ep) Q E s:=by
 unfold setNext;refine y0 (u9 hS rfl R.fits (y0 (j3j ?_)));unfold jaq fsOf at h;unfold fsOf;by_cases hb:byT w=true
 ·rw[hb]at h ⊢;simp only[if_true]at h ⊢;rw[if_neg (by simp)];refine y0 ?_;unfold setWalk;refine y0 (u9 hS rfl R.fits (y0 (j3j ?_)));rw[hb];exact y0 (y7h (y8 (y8 h)))
 ·rw[y7a]at hb;rw[hb]at h hled ⊢;simp only[vi,if_false]at h ⊢;show wpAny _ _ (if (!t.plain&&decide (es.size > 1))=true then _ else _) _ _ _;rw[R.dr hb,if_neg (by simp)];refine y0 ?_;show wpAny _ _ (if (!t.led && !es.isEmpty)=true then _ else _) _ _ _;rw[hled,if_neg (by simp)];refine y8 ?_;rw[R.low i hi];by_cases hlt:i<es.size
  ·obtain⟨j,e1,e2⟩:=R.step i hlt;rw[yf hlt]at h ⊢;rw[e1];dsimp only[ye8]at h ⊢;rw[e2];exact y8 h
  ·rw[y2d (by omega)]at h ⊢;exact y8 h
theorem jif{x:Int×Value}{Q:Option Value->ye->Prop}(hI:s.heap.get? I=some (siObj (fsOf w sl i) i S es.size ep))(hS:s.heap.get? S=some (stObj es ep t))(R:RiseG w t es.size sl)(hled:t.led=!byT w)(hi:i<es.size)(ne:S≠I)
  (hx:(jaq w S ep es)[i]?=some x) (hQ:∀h',h'.get? I=some (siObj (fsOf w sl (i+1)) (i+1) S es.size ep)->uv I s.heap h'->Q (some x.2) {s with heap:=h'}):wpAny (model prog w) A (pyNext (.ref I)) Q E s:=by
 have te:s.TypeIs (.ref I) "set_iterator":=⟨_,hI,rfl⟩
 unfold pyNext;refine y0 (y29 (gp (name:=uc "__next__") te j1c (xw j1c te j5d ?_ (j5e _))));unfold Builtin.«set_iterator.__next__»;refine y0 (y0g (a:=(xy I,[])) rfl ?_);refine y0 (y1q hI rfl ?_);show wpAny _ _ (setEntries S >>= _) _ _ _;refine y0 (y1c hS rfl R.fits ?_);rw[if_neg (by simp)];show wpAny _ _ (setNext S (fsOf w sl i:Int).toNat (i:Int).toNat (ep:Int).toNat >>= _) _ _ _;rw[yq,yq,yq];refine y0 (j4u hS R hled (by omega) ?_);rw[hx];show wpAny _ _ (setField (.ref I) 0 (rawInt (fsOf w sl (i+1):Nat)) >>= _) _ _ _;refine y0 (vx hI (by simp) λg1 e1 s1=>y0 (vx e1 (by simp) λg2 e2 s2=>?_));refine y8 ⟨_,rfl,y8 (hQ g2 ?_ (s1.trans s2))⟩;exact e2
theorem jlr{Q:Option Value->ye->Prop}(hh:A.handled=none)(hI:s.heap.get? I=some (siObj (fsOf w sl es.size) es.size S es.size ep))(hS:s.heap.get? S=some (stObj es ep t))(R:RiseG w t es.size sl)(hled:t.led=!byT w)
  (hQ:∀h',(∀b o,b≠I->s.heap.get? b=some o->h'.get? b=some o)->Q none {s with heap:=h'}):wpAny (model prog w) A (pyNext (.ref I)) Q E s:=by
 have te:s.TypeIs (.ref I) "set_iterator":=⟨_,hI,rfl⟩
 unfold pyNext;refine y0 (y29 (gp (name:=uc "__next__") te j1c (xw j1c te j5d ?_ (j5e _))));unfold Builtin.«set_iterator.__next__»;refine y0 (y0g (a:=(xy I,[])) rfl ?_);refine y0 (y1q hI rfl ?_);show wpAny _ _ (setEntries S >>= _) _ _ _;refine y0 (y1c hS rfl R.fits ?_);rw[if_neg (by simp)];show wpAny _ _ (setNext S (fsOf w sl es.size:Int).toNat (es.size:Int).toNat (ep:Int).toNat >>= _) _ _ _;rw[yq,yq,yq];refine y0 (j4u hS R hled (yg _) ?_);rw[y2d (by rw[jc4];exact yg _)];show wpAny _ _ (setField (.ref I) 2 .none >>= _) _ _ _;refine y0 (vx hI (by simp) λg1 e1 s1=>?_);have kk:∀b o,b≠I->s.heap.get? b=some o->g1.get? b=some o:=λb o q h=>s1.extBut b o q h;refine y0 ?_;simp only[newExc,newTuple];refine y0 (v9 (y0 (m:=firstArgMember _ _) (y0g (a:=ud) (by first|rfl|(simp only[firstArgMember];rfl)) (v9 ?_ (by size_fits)))) (by size_fits));simp only[raiseNew];refine y0 (y77 ?_);first|rw[show A.in1.handled=none from hh]|rw[hh]
 refine y0 (y8 (y97 ?_));refine y0 (y2c (T:="StopIteration") (b:=true) ⟨_,yi _ rfl,rfl⟩ y6c ?_);exact y8 (hQ _ λb o q h=>yc _ (yc _ (kk b o q h)))
theorem jig{S:Addr}{es:Array (Int×Value)}{ep:Nat}{t:vp}{sl:Nat->Nat}{Q:Value->ye->Prop}(hS:s.heap.get? S=some (stObj es ep t))(R:RiseG w t es.size sl)
  (h:Q (.ref s.heap.objs.size) {s with heap:=s.heap.push (siObj 0 0 S es.size ep)}):wpAny (model prog w) A (pyIter (.ref S)) Q E s:=by
 have te:s.TypeIs (.ref S) "set":=⟨_,hS,rfl⟩
 refine y24 te y2k (xw y2k te jc2 ?_ (y73 _));unfold Builtin.«frozenset.__iter__»;refine y0 (y0g (a:=S) rfl ?_);unfold y6f;refine y0 (y0 (y1c hS rfl R.fits (y8 ?_)));refine y0 ?_;unfold setDrawn;refine y0 (u9 hS rfl R.fits (y0 (j3j (y8 ?_))));have e:(!byT w&&(!t.plain&&decide (es.size > 1)))=false:=by
  cases hb:byT w with
  |true=>rfl
  |false=>rw[R.dr hb];rfl
 show wpAny _ _ (if (!byT w&&(!t.plain&&decide (es.size > 1)))=true then _ else _) _ _ _;rw[e,if_neg (by decide)];refine y0 (y8 ?_);refine y0 (yab hS rfl R.fits ?_);exact y0 (v9 (y8 ⟨_,rfl,"set_iterator",_,⟨_,yi _ rfl,rfl⟩,j1c.lookup,h⟩))
end
theorem jes{prog:yy}{w:World}{A:gw}(hh:A.handled=none)(I S:Addr)(ne:S≠I){ep:Nat}(R:RiseG w t es.size sl)(hled:t.led=!byT w):
  Walks prog w A I [I,S] [I] es.size (λi v=>((jaq w S ep es)[i]?).map (·.2)=some v) (λi h=>i<=es.size/\h.get? I=some (siObj (fsOf w sl i) i S es.size ep)/\h.get? S=some (stObj es ep t)) where
 sub:=λb hb=>by rw[yb.mp hb];simp
 frame:=λ_ _ _ x hk=>⟨x.1,hk I (by simp) _ x.2.1,hk S (by simp) _ x.2.2⟩
 item:=λi s Q E hi x (hQ)=>by
  have hx:(jaq w S ep es)[i]?=some ((jaq w S ep es)[i]'(by rw[jc4];exact hi)):=yf _;refine jif x.2.1 x.2.2 R hled hi ne hx λh' hit' hs'=>?_;exact hQ _ h' s.toks (by rw[hx];rfl) ⟨hi,hit',(hs'.2 S ne).trans x.2.2⟩ λb o hb eo=>hs'.extBut b o (λh=>hb (by simp[h])) eo
 done:=λs Q E x hQ=>jlr hh x.2.1 x.2.2 R hled λh' he'=>hQ h' s.toks λb o hb eo=>he' b o (λh=>hb (by simp[h])) eo
 self:=λ_ _ _ _ x hQ=>jlh x.2.1 hQ
section
variable{prog:yy}{w:World}{A:gw}{E:Value->ye->Prop}{s:ye}
theorem jls{Q:Value->ye->Prop}(hI:s.heap.get? I=some (siD T i S n ep))(h:Q (.ref I) s):wpAny (model prog w) A (pyIter (.ref I)) Q E s:=by
 have ti:s.TypeIs (.ref I) "set_iterator":=⟨_,hI,rfl⟩
 skip;refine y24 ti j5f (xw j5f ti jc1 ?_ (jc0 _));exact y8 ⟨_,rfl,"set_iterator",_,ti,j1c.lookup,h⟩
end
theorem jih{prog:yy}{w:World}{A:gw}(hh:A.handled=none)(I S T:Addr)(nS:S≠I)(nT:T≠I){ep:Nat}(fits:t.fits es.size=true)(hl:ps.length=es.size)(hm:∀k∈ps,k<es.size):
  Walks prog w A I [I,S,T] [I] es.size (λi v=>(ps.map λk=>(es.getD k (0,.none)).2)[i]?=some v) (λi h=>h.get? I=some (siD T i S es.size ep)/\h.get? S=some (stObj es ep t)/\h.get? T=some (drO ps)) where
 sub:=λb hb=>by rw[yb.mp hb];simp
 frame:=λ_ _ _ x hk=>⟨hk I (by simp) _ x.1,hk S (by simp) _ x.2.1,hk T (by simp) _ x.2.2⟩
 item:=λi s Q E hi x (hQ)=>by
  have hi':i<ps.length:=by omega
  have hk:ps[i]<es.size:=hm _ (u0 hi');refine jlq x.1 x.2.2 x.2.1 fits hi' (yf hk) λh' hit' hs'=>?_;refine hQ _ h' s.toks ?_ ⟨hit',(hs'.2 S nS).trans x.2.1,(hs'.2 T nT).trans x.2.2⟩ λb o hb eo=>hs'.extBut b o (λh=>hb (by simp[h])) eo;rw[xc,y4 hi',y2j,xr,yf hk];rfl
 done:=λs Q E x hQ=>sd_end hh (by rw[hl];exact x.1) x.2.2 x.2.1 fits λh' he'=>hQ h' s.toks λb o hb eo=>he' b o (λh=>hb (by simp[h])) eo
 self:=λ_ _ _ _ x hQ=>jls x.1 hQ
theorem jet{w:World}(hf:t.fits n=true)(hd:byT w=false->(!t.plain&&decide (n > 1))=false)(hr:Ris t.place)(hn:t.place.size=n):RiseG w t n λi=>if i=0 then 0 else t.place.getD (i-1) 0+1:=by
 have R:=ji8 (t:={t with plain:=true}) (n:=n) hf rfl hr hn;exact⟨hf,hd,rfl,R.low,R.step⟩
section
variable{prog:yy}{w:World}{A:gw}{E:Value->ye->Prop}{s:ye}
theorem jcg{S:Addr}{es:Array (Int×Value)}{ep:Nat}{t:vp}{Q:Value->ye->Prop}(hS:s.heap.get? S=some (stObj es ep t))(T:Tab t es)(hled:t.led=!byT w)(hz:es.size<=sizeLine)
  (h:∀(I:Addr) (fp:List Addr) (h':Heap) (d:Drawn) (ord:List Value) (St:Nat->Heap->Prop),s.heap.objs.size<=I->(∀b o,s.heap.get? b=some o->h'.get? b=some o)->(∀b∈fp,b=S\/s.heap.objs.size<=b)->ord.Perm (es.toList.map (·.2))->(∀A':gw,A'.handled=none->Walks prog w A' I fp [I] es.size (λi v=>ord[i]?=some v) St)->St 0 h'->Q (.ref I) {s with heap:=h',drawn:=d}):wpAny (model prog w) A (pyIter (.ref S)) Q E s:=by
 have lS:S<s.heap.objs.size:=yt hS;by_cases dr:byT w=false/\t.plain=false/\1<es.size
 ·refine jlp hS T.fits dr.1 dr.2.1 dr.2.2 hz λps d hp=>?_;have hl:ps.length=es.size:=by rw[hp.length_eq,y0k]
  have hm:∀k∈ps,k<es.size:=λk hk=>vq.mp (hp.mem_iff.mp hk);have n1:(s.heap.push (drO ps)).objs.size=s.heap.objs.size+1:=vf ..;refine h _ [s.heap.objs.size+1,S,s.heap.objs.size] _ d (ps.map λk=>(es.getD k (0,.none)).2) _ (y0l _) (λb o e=>yc _ (yc _ e)) (λb hb=>?_) ?_ (λA' h'=>jih h' _ S _ (xt (uj lS)) (xt (y1i _)) (ep:=ep) T.fits hl hm) ⟨?_,yc _ (yc _ hS),yc _ (yi _ rfl)⟩
  ·simp only[xf,y01,or_false]at hb;skip;rcases hb with rfl|rfl|rfl
   ·exact .inr (y0l _)
   ·exact .inl rfl
   ·exact .inr (yg _)
  ·refine(hp.map _).trans ?_;have:(v8 es.size).map (λk=>(es.getD k (0,.none)).2)=es.toList.map (·.2):=by
    refine y2p λi=>?_;rw[xc,xc,xl (xs:=es)];by_cases hi:i<es.size
    ·rw[y15 hi,yf hi,y2j,xr,yf hi];rfl
    ·rw[y04 (l:=v8 es.size) (by rw[y0k];omega),y2d (by omega)];rfl
   rw[this]
  ·have:=yi (s.heap.push (drO ps)) (o:=siD s.heap.objs.size 0 S es.size ep) rfl;rw[n1]at this;exact this
 ·have R:=jet (w:=w) (t:=t) (n:=es.size) T.fits (λhb=>by
   cases hp:t.plain with
   |true=>rfl
   |false=>simpa using λz=>dr ⟨hb,hp,z⟩) T.ris T.size
  refine jig hS R ?_;have ne:S≠s.heap.objs.size:=xt lS;refine h _ [s.heap.objs.size,S] _ s.drawn ((jaq w S ep es).toList.map (·.2)) (λi g=>i<=es.size/\g.get? s.heap.objs.size=some (siObj (fsOf w (λi=>if i=0 then 0 else t.place.getD (i-1) 0+1) i) i S es.size ep)/\g.get? S=some (stObj es ep t)) (yg _) (λb o e=>yc _ e) (λb hb=>?_) ((jc3 w S ep es).map _) (λA' h'=>?_) ⟨gm _,?_,yc _ hS⟩
  ·simp only[xf,y01,or_false]at hb;rcases hb with rfl|rfl
   ·exact .inr (yg _)
   ·exact .inl rfl
  ·have W:=jes (prog:=prog) h' s.heap.objs.size S ne (ep:=ep) R hled;have e:(λ(i:Nat) (v:Value)=>((jaq w S ep es).toList.map (·.2))[i]?=some v)=(λi v=>((jaq w S ep es)[i]?).map (·.2)=some v):=by
    funext i v
    rw[xc,xl]
   rw[e];exact W
  ·have z0:fsOf w (λi=>if i=0 then 0 else t.place.getD (i-1) 0+1) 0=0:=by unfold fsOf;simp
   rw[z0];exact yi _ rfl
theorem jac{Q:List Value->ye->Prop}(hh:A.handled=none)(hS:s.heap.get? S=some (stObj es ep t))(T:Tab t es)(hled:t.led=!byT w)(hz:es.size<=sizeLine)
  (hQ:∀(s':ye) (d:Drawn) (ord:List Value),Moved [] (λa b=>b=a) {s with drawn:=d} s'->ord.Perm (es.toList.map (·.2))->Q ord s'):wpAny (model prog w) A (collect (.ref S)) Q E s:=by
 have lS:S<s.heap.objs.size:=yt hS;have nd:s.heap.objs.size≠S:=y27 lS;skip;unfold collect;refine y0 (y4n (y0d y7r ?_));rw[y0h y7s _];show wpAny _ A.in1 (newList [] >>= λx=>again (.builtin "list.__iadd__" ⟨[x,.ref S],[]⟩)) _ _ s;skip;refine y0 (v9 (y8 ⟨y2u y4d _,y0d y9t ?_⟩));rw[y0h y4d _];generalize hh0:s.heap.push {cls:=.type "list",data:=.seq ([]:List Value).toArray}=g0;have d1:g0.get? S=some (stObj es ep t):=by rw[<- hh0];exact yc _ hS
 have S1:g0.get? s.heap.objs.size=some {cls:=.type "list",data:=.seq ([]:List Value).toArray}:=by rw[<- hh0];exact yi _ rfl
 have k1:∀b o,s.heap.get? b=some o->g0.get? b=some o:=λb o e=>by rw[<- hh0];exact yc _ e
 have n1:g0.objs.size=s.heap.objs.size+1:=by rw[<- hh0,vf]
 have same:y1t (.ref s.heap.objs.size) (.ref S)=false:=by simp[y1t,nd]
 skip;show wpAny _ A.in1 (uk (.ref s.heap.objs.size) (.ref S) (.ref s.heap.objs.size)) _ _ _;unfold uk;refine y0 (y28 (T:="set") ⟨_,d1,rfl⟩ ?_);rw[if_neg (by rw[same];decide)];refine y0 (jcg (s:={s with heap:=g0}) d1 T hled hz λI fp g1 d ord St hI kk hfp hp W st0=>y0 (vg ?_));replace hI:s.heap.objs.size+1<=I:=by rw[<- n1];exact hI
 replace hfp:∀b∈fp,b=S\/s.heap.objs.size+1<=b:=λb hb=>by rw[<- n1];exact hfp b hb
 have d2:=kk S _ d1;have S2:=kk _ _ S1;have te:y9l {s with heap:=g1,drawn:=d} (.ref S) "set":=⟨_,d2,rfl⟩
 skip;unfold y5m;refine y0 (y5s (T:="set") te PySem.F.slot_set_len.lookup ?_)
 (generalize hid:("set.__len__":String)=id0;(fail_if_success (clear hid id0));wp_delta;rw[show splitId id0=some ("set","__len__")from by subst hid;decide +kernel];subst hid)
 refine y0 (y2c (T:="set") (b:=true) te st_sub ?_);rw[if_neg (by decide)];rw[if_pos (by decide +kernel)];refine y0 (y28 (T:="set") te (y8 ?_));rw[if_pos (by decide +kernel)];refine y0 (y4j (y0 ?_));have S3:=vw (vn (·.push ud)) S2 rfl;skip;show wpAny _ A.in1 (updateSeq s.heap.objs.size (·.push .none) >>= λ_=>updateSeq s.heap.objs.size (·.pop)) _ _ _;refine y0 (y5t S2 rfl (y5t S3 rfl ?_));have S4:=vw (vn (·.pop)) S3 rfl;have oth:∀b o,b≠s.heap.objs.size->g1.get? b=some o->((g1.update s.heap.objs.size (vn (·.push ud))).update s.heap.objs.size (vn (·.pop))).get? b=some o:=
  λb o nb e=>(uw _ _ (y57 nb)).trans ((uw _ _ (y57 nb)).trans e)
 have nS:s.heap.objs.size∉fp:=λz=>by
  rcases hfp _ z with q|q
  ·exact nd q
  ·omega
 have W1:=(W A.in1 hh).toS;refine y8 ⟨y2u y8w _,y8n W1 hz _ nS _ es.size 0 _ _ _ rfl (gm _) ((W A.in1 hh).frame _ _ _ st0 λb hb o e=>oth b o (λz=>nS (by rw[<- z];exact hb)) e) S4 (ydf _) λs' acc' c' hm hS' hacc=>y0 (ya9 hS' (y8 ?_))⟩;have ea:acc'.toList=ord:=j6f (P:=λi v=>ord[i]?=some v) (by rw[hp.length_eq,y3,yh];exact hacc) λi v hv=>hv;have:=hQ s' d ord ⟨λb o _ e=>?_,hm.gens,hm.drawn,hm.os,hm.toks⟩ hp
 ·rw[<- ea]at this;exact this
 ·have lb:=yt e;replace lb:b<s.heap.objs.size:=lb;refine hm.heap b o (λq=>?_) (oth b o (xt lb) (kk b o (k1 b o e)));rcases xf.mp q with q|q
  ·exact xt lb q
  ·rw[yb.mp q]at lb;exact absurd (ge lb (Nat.le_of_succ_le hI)) (y2t _)
end
section
variable{prog:yy}{w:World}{A:gw}{E:Value->ye->Prop}{s:ye}
theorem jeu{α:Type}{c:Prop}[Decidable c]{m:Sem Bool}{f:Bool->Sem α}{g:Sem α}{Q:α->ye->Prop}(hm:∀Q:Bool->ye->Prop,(∀b,Q b s)->wpAny (model prog w) A m Q E s)(hg:g=(pure true >>= f))(K:∀b,wpAny (model prog w) A (f b) Q E s):wpAny (model prog w) A (if c then m >>= f else g) Q E s:=by
 by_cases hc:c
 ·rw[if_pos hc];exact y0 (hm _ K)
 ·rw[if_neg hc,hg];exact y0 (y8 (K true))
theorem jii{S a:Addr}{es:Array (Int×Value)}{ep:Nat}{t:vp}{hash:Int}{K:Type}[DecidableEq K]{key:Nat->K}{k:K}{Q:Bool->ye->Prop}(hS:s.heap.get? S=some (stObj es ep t))(T:Tab t es)(hb:es.size<60)(H:Asks prog w A E s es (.ref a) hash key k)
  (hv:∀Q:Bool->ye->Prop,(∀b,Q b s)->wpAny (model prog w) A (hashByValue 8 (.ref a)) Q E s)
  (h1:(∃i,i<es.size/\key i=k)->Q false s)
  (h2:(∀i,i<es.size->key i≠k)->∀h' es' t' ep',uv S s.heap h'->h'.get? S=some (stObj es' ep' t')->Tab t' es'->t'.led=t.led->es'.toList.Perm ((hash,.ref a)::es.toList)->Q true {s with heap:=h'}):
  wpAny (model prog w) A (setAddHashed S (.ref a) hash) Q E s:=by
 obtain⟨e0,e1,e2⟩:=T.free;obtain⟨N,m1,m2⟩:=meets T.mask hash e1;skip;unfold setAddHashed setAddHashedIn;refine vg (y0 (u9 hS rfl T.fits ?_));dsimp only;rw[show byScan (.ref a) es=false from rfl,if_neg (by decide)];refine y0 ?_;unfold setSearch;have mk:t.mask<=127:=by rcases T.mask with h|h|h<;>omega
 refine j5i hS T H (λq=>?_) (λq r n1 n2 n3=>?_) 100000 0 ⟨N,by omega,m1,by omega,by rw[m2];exact e2⟩ (λq hq=>by omega) none (.inr ⟨rfl,rfl⟩)
 ·exact y8 (h1 q)
 ·dsimp only;refine y0 (u9 hS rfl T.fits ?_);dsimp only;have pu:t.put (pth t.mask hash r).j=({t with place:=yr t.place (yx t.place (pth t.mask hash r).j) (pth t.mask hash r).j},yx t.place (pth t.mask hash r).j):=by
   unfold yd4;rw[T.dum];have:y64 #[] (pth t.mask hash r).j=false:=by unfold y64;simp
   rw[this];simp[T.dum]
  rw[pu];dsimp only;refine jeu (c:=t.plain=true) hv rfl λbv=>?_;obtain⟨pl,epl⟩:∃pl,(if bv=true then({t with place:=yr t.place (yx t.place (pth t.mask hash r).j) (pth t.mask hash r).j}:vp)else {t with place:=yr t.place (yx t.place (pth t.mask hash r).j) (pth t.mask hash r).j,plain:=false})={t with place:=yr t.place (yx t.place (pth t.mask hash r).j) (pth t.mask hash r).j,plain:=pl}:=by
   cases bv with
   |true=>exact⟨t.plain,rfl⟩
   |false=>exact⟨false,rfl⟩
  rw[epl];have ip:=j21 es (yx t.place (pth t.mask hash r).j) (hash,xy a);have isz:(yr es (yx t.place (pth t.mask hash r).j) (hash,xy a)).size=es.size+1:=by rw[<- yh,ip.length_eq,yl,yh]
  have pp:=j21 t.place (yx t.place (pth t.mask hash r).j) (pth t.mask hash r).j;have psz:(yr t.place (yx t.place (pth t.mask hash r).j) (pth t.mask hash r).j).size=es.size+1:=by rw[<- yh,pp.length_eq,yl,yh,T.size]
  refine y0 (y4k hS rfl ?_ (by rw[isz,xo];omega));generalize ht:({t with place:=yr t.place (yx t.place (pth t.mask hash r).j) (pth t.mask hash r).j,plain:=pl}:vp)=t1;generalize he:yr es (yx t.place (pth t.mask hash r).j) (hash,xy a)=es1 at ip isz;have o1:(s.heap.update S (ya0 es1 t1)).get? S=some (stObj es1 (ep+1) t1):=vw _ hS rfl;have s1:uv S s.heap (s.heap.update S (ya0 es1 t1)):=y03 ..;have l1:t1.led=t.led:=by rw[<- ht]
  have tf:t1.tooFull=decide ((es.size+1)*5>=t.mask*3):=by
   rw[<- ht];unfold yat y5k;show decide (((yr t.place _ _).size+t.dummies.size)*5>=t.mask*3)=_;rw[psz,T.dum];rfl
  by_cases full:(es.size+1)*5>=t.mask*3
  ·rw[tf,decide_eq_true full,if_pos (by decide)];obtain⟨m',hm',wn,rm⟩:∃m',Msk m'/\y65 (y8s (es.size+1))=m'+1/\(es.size+1)*5<m'*3:=by
    have:=T.room;rcases T.mask with h|h|h
    ·have hn:es.size=4:=(by omega);exact⟨31,.inr (.inl rfl),by rw[hn];decide +kernel,by omega⟩
    ·have hn:es.size=18:=(by omega);exact⟨127,.inr (.inr rfl),by rw[hn];decide +kernel,by omega⟩
    ·omega
   have f1:t1.fits es1.size=true:=by
    have:=T.room;rw[<- ht,isz];unfold y9k y5k;show((yr t.place _ _).size==_&&decide ((yr t.place _ _).size+t.dummies.size<=t.mask))=true;rw[psz,T.dum,uu,beq_iff_eq,decide_eq_true_iff];have z:(#[]:Array Nat).size=0:=rfl;refine⟨rfl,?_⟩;rcases T.mask with h|h|h<;>omega
   obtain⟨t2,ord,r1,r2,r3,r4,r5,r6,_⟩:=j9a (t:=t1) (es:=es1) hm' wn (by rw[isz];exact rm);refine y0 ?_;unfold setRelay;refine y0 (u9 o1 rfl f1 ?_);dsimp only;rw[wn,if_neg (by rw[xo];rcases hm' with h|h|h<;>rw[h]<;>decide),r1];refine y0 ?_;show wpAny _ _ (if (ord.filterMap (es1[·]?)).size !=es1.size then _ else _) _ _ _;rw[if_neg (by rw[r2];simp)];refine y8 ?_;refine y4k o1 rfl ?_ (by rw[r2,isz,xo];omega);exact y8 (h2 q _ _ t2 _ (s1.trans (y03 ..)) (vw _ o1 rfl) r4 (r5.trans l1) (r3.trans ip))
  ·rw[tf,decide_eq_false full,if_neg (by decide)];refine y8 (h2 q _ _ t1 _ s1 o1 ?_ l1 ip);have T1:=jgf (x:=xy a) T n1 n2 n3 (by omega);rw[he]at T1;rw[<- ht];exact⟨T1.mask,T1.dum,T1.ris,T1.size,T1.room,T1.top,T1.way⟩
end
section
variable{prog:yy}{w:World}{A:gw}{E:Value->ye->Prop}{s:ye}
def RowET(prog:yy)(w:World)(Z:Addr->List Str->Prop)(h:Heap)(e:Int×Value)(L:List Str):Prop:=∃a,e.2=.ref a/\y0t (y74 prog w) h L a/\e.1=tupleKeyHash (y74 prog w) L/\Z a L
inductive RowsET(prog:yy)(w:World)(Z:Addr->List Str->Prop)(h:Heap):List (Int×Value)->List (List Str)->Prop
 |nil:RowsET prog w Z h [] []
 |cons {e:Int×Value}{L:List Str}{es:List (Int×Value)}{Ls:List (List Str)}:RowET prog w Z h e L->RowsET prog w Z h es Ls->RowsET prog w Z h (e::es) (L::Ls)
end
section
variable{w:World}{prog:yy}{A:gw}
variable{R:yb6->ye->Prop}{I:Addr}{fp wr:List Addr}{G:Array y6u->Array y6u->Prop}{n:Nat}{P:Nat->Value->Prop}{St:Nat->ye->Prop}
theorem j36{Ms:List (List Str)}{L:List Str}:(∃i,i<Ms.length/\Ms.getD i []=L)↔L∈Ms:=by
 constructor
 ·rintro⟨i,hi,e⟩;rw[yd,y4 hi]at e;rw[<- e];exact u0 hi
 ·intro h;obtain⟨i,hi,e⟩:=vc h;exact⟨i,hi,by rw[yd,y4 hi];exact e⟩
end
end L2
set_option Elab.async false
set_option linter.all false
set_option maxRecDepth 100000
set_option maxHeartbeats 4000000
namespace L2
open PySem PySem.Spec PyProof.Rows PySem.W
def cpm(L:List Str):List (List Nat):=L.map λx=>x.cps.toList
theorem jlt{x y:Str}(h:x.cps.toList=y.cps.toList):x=y:=by
 cases x;cases y;congr;exact yam.mp h
theorem jgh:∀{xs ys:List Str},cpm xs=cpm ys->xs=ys
 |[],[],_=>rfl
 |[],_::_,h=>by cases h
 |_::_,[],h=>by cases h
 |x::xs,y::ys,h=>by
  obtain⟨h1,h2⟩:=ycn h;rw[jlt h1,jgh h2]
inductive StrsV:List Value->List Str->Prop
 |nil:StrsV [] []
 |cons (n:Str) (t:Tok) {vs:List Value}{ns:List Str}:StrsV vs ns->StrsV (.str n t::vs) (n::ns)
section
variable{prog:yy}{w:World}{A:gw}{E:Value->ye->Prop}{s:ye}
theorem jlu{b:Bool}{x y:Str}{t u:Tok}{Q:Bool->ye->Prop}(h:Q (decide (x.cps.toList<y.cps.toList)) s):wpAny (model prog w) A (oneLt' b (.str x t) (.str y u)) Q E s:=by
 cases b with
 |true=>exact oneLt_str h
 |false=>exact kat_one _ _ (lt_str h)
end
inductive RowsVT(prog:yy)(w:World)(Z:Addr->List Str->Prop)(h:Heap):List Value->List (List Str)->Prop
 |nil:RowsVT prog w Z h [] []
 |cons {a:Addr}{L:List Str}{vs:List Value}{Ls:List (List Str)}:y0t (y74 prog w) h L a->Z a L->RowsVT prog w Z h vs Ls->RowsVT prog w Z h (.ref a::vs) (L::Ls)
inductive RefsHT(H:Hp):List V->List (List Str)->Prop
 |nil:RefsHT H [] []
 |cons {a:Addr}{L:List Str}{vs:List V}{Ls:List (List Str)}:H a=some (.tup (L.map V.str))->RefsHT H vs Ls->RefsHT H (.ref a::vs) (L::Ls)
theorem RefsHT.length{H:Hp}{vs:List V}{Ls:List (List Str)}(r:RefsHT H vs Ls):vs.length=Ls.length:=by
 induction r with
 |nil=>rfl
 |cons _ _ ih=>simp[ih]
theorem RefsHT.mono{H H':Hp}(e:Ext H H'){vs:List V}{Ls:List (List Str)}(r:RefsHT H vs Ls):RefsHT H' vs Ls:=by
 induction r with
 |nil=>exact .nil
 |cons x _ ih=>exact .cons (e _ _ x) ih
theorem RefsHT.get{H:Hp}{vs:List V}{Ls:List (List Str)}(r:RefsHT H vs Ls):∀(i:Nat) (v:V),vs[i]?=some v->∃a,v=.ref a/\H a=some (.tup ((Ls.getD i []).map V.str)):=by
 induction r with
 |nil=>intro i v h;simp at h
 |cons x _ ih=>
  intro i v h;cases i with
  |zero=>simp at h;subst h;exact⟨_,rfl,by simpa using x⟩
  |succ i=>simpa using ih i v (by simpa using h)
theorem jij{ns:List Str}:∀{us:List Value},Vals (ns.map V.str) us->StrsV us ns:=by
 induction ns with
 |nil=>intro us r;rw[y3l]at r;cases r;exact .nil
 |cons n ns ih=>
  intro us r;rw[xm]at r;cases r with
  |cons r1 r2=>
   obtain⟨t,rfl⟩:=r1;exact .cons n t (ih r2)
theorem Inv.drew{X:Cx}{pins:List (Addr×Obj)}{σ:List (Option V)}{H:Hp}{s:ye}(I:Inv X pins σ H s)(d:Drawn):Inv X pins σ H {s with drawn:=d}:=⟨I.ok,I.os,I.bare,I.base,I.loc,I.cell,I.free,I.freeC,I.pin,I.hok,I.len⟩
section
open PySem.SeqAt
open PySem.AutoSeq1 (wpAny_loadPart')
open PySem.MeetsSeq PySem.MeetsSeq2 PySem.MeetsSeq3
end
end L2
set_option Elab.async false
set_option linter.all false
set_option maxRecDepth 100000
set_option maxHeartbeats 4000000
namespace L2
open PySem PySem.Spec PyProof.Rows PySem.W
def jgi(p q:List Str×Int):Prop:=cpm p.1<cpm q.1\/(p.1=q.1/\p.2<q.2)
instance (p q:List Str×Int):Decidable (jgi p q):=by unfold jgi;infer_instance
theorem jik(a b:List Str):cpm a<cpm b\/a=b\/cpm b<cpm a:=by
 by_cases h:cpm a<cpm b
 ·exact .inl h
 ·by_cases h2:cpm b<cpm a
  ·exact .inr (.inr h2)
  ·exact .inr (.inl (jgh (y3b (y0b.mp h2) (y0b.mp h))))
inductive PairsAtT(prog:yy)(w:World)(h:Heap):List Value->List (List Str×Int)->Prop
 |nil:PairsAtT prog w h [] []
 |cons {c a:Addr}{L:List Str}{x:Int}{t:Tok}{vs:List Value}{Ks:List (List Str×Int)}:IsTup h c #[.ref a,.int x t]->y0t (y74 prog w) h L a->PairsAtT prog w h vs Ks->PairsAtT prog w h (.ref c::vs) ((L,x)::Ks)
inductive PairsHT(H:Hp):List V->List (List Str×Int)->Prop
 |nil:PairsHT H [] []
 |cons {c a:Addr}{L:List Str}{x:Int}{vs:List V}{Ks:List (List Str×Int)}:H c=some (.tup [.ref a,.int x])->H a=some (.tup (L.map V.str))->PairsHT H vs Ks->PairsHT H (.ref c::vs) ((L,x)::Ks)
section
open PySem.SeqAt
open PySem.AutoSeq1 (wpAny_loadPart')
open PySem.MeetsSeq PySem.MeetsSeq2 PySem.MeetsSeq3
end
section
variable{prog:yy}{w:World}{A:gw}{E:Value->ye->Prop}{s:ye}{d it:Addr}{o:Obj}{es:Array y3s}{i ep:Nat}
theorem jch(ho:s.heap.get? d=some o)(hc:o.ExactDict):s.TypeIs (.ref d) "dict":=⟨o,ho,hc.1⟩
theorem jci{Q:Value->ye->Prop}(hd:(d==sysModules)=false)(ho:s.heap.get? d=some o)(hc:o.ExactDict)(hdat:o.data=.dict es ep)
  (hQ:∀h',h'.IsKeyIter s.heap.objs.size d 0 es.size ep->(∀b u,s.heap.get? b=some u->h'.get? b=some u)->Q (.ref s.heap.objs.size) {s with heap:=h'}):wpAny (model prog w) A (pyIter (.ref d)) Q E s:=by
 have hT:=jch ho hc;refine y24 hT y7l (xw y7l hT PySem.F.entry_dict_iter ?_ (PySem.F.args_dict_iter_1 _));skip;unfold Builtin.«dict.__iter__»;refine y0 ?_;skip;unfold ybe;refine y0 (wpAny_notOrdered_dict hT ?_);show wpAny _ _ (pure (xy d)) _ _ s;refine y8 ?_;show wpAny _ _ (y7p d >>= _) _ _ s;unfold y7p;rw[if_neg (by rw[hd];decide)];refine y0 (y8 (y0 (y4i ho hdat (y0 (y86 ho hdat ?_)))));refine y0 (v9 (y8 ⟨_,rfl,"dict_keyiterator",_,⟨_,yi _ rfl,rfl⟩,vv.lookup,?_⟩));exact hQ _ ⟨_,yi _ rfl,rfl,rfl⟩ λb u e=>yc _ e
theorem jcj{Q:Option Value->ye->Prop}(hit:s.heap.IsKeyIter it d i es.size ep)(ho:s.heap.get? d=some o)(hc:o.ExactDict)(hdat:o.data=.dict es ep)(hlt:i<es.size)
  (hQ:∀h',h'.IsKeyIter it d (i+1) es.size ep->uv it s.heap h'->Q (some es[i].key) {s with heap:=h'}):wpAny (model prog w) A (pyNext (.ref it)) Q E s:=by
 obtain⟨oi,hoi,hci,hdi⟩:=id hit;unfold pyNext;refine y0 (y29 (gp (name:=uc "__next__") hit.typeIs vv (xw vv hit.typeIs y3h ?_ (y37 _))));refine y0 (y8 (y0 (y0 ?_)))
 first|refine y0 (y0v hit.typeIs (y8 (y0 (y1q hoi hdi ?_))))|refine y0 (y26 hit.typeIs (y8 (y0 (y1q hoi hdi ?_))))
 simp only[show y5f "dict_keyiterator"=false by decide,vi,if_false];show wpAny _ _ (if (xy d==ud)=true then _ else _) _ _ s;rw[if_neg (show ¬ ((xy d==ud)=true) by exact xb)];refine y0 (y8 (y0 (y4i ho hdat ?_)));rw[if_neg (by simp)];refine y0 (y8 (y0 (y86 ho hdat ?_)));rw[if_neg (by simp)];refine y8 ?_;simp only[show ¬ ((i:Int)<0) by omega,if_false,yq,yf hlt];refine y0 ?_
 first|refine y0 (y0v hit.typeIs (y8 (y0 (y50 hit.typeIs ?_))))|refine y0 (y26 hit.typeIs (y8 (y0 (y50 hit.typeIs ?_))))
 show wpAny _ _ (setField (.ref it) 1 (rawInt ((i:Int)+1)) >>= _) _ _ s;refine y0 (y6e hoi hdi (by simp) ?_);have hit':(s.heap.update it (ycp (·.setIfInBounds 1 (rawInt ((i:Int)+1))))).IsKeyIter it d (i+1) es.size ep:=
  ⟨_,vw _ hoi (y80 (y3z hdi _)),(y9z ..).trans hci,(y3z hdi _).trans (by simp[rawInt])⟩
 refine y0 (vg (y0 (y50 (s:={s with heap:=s.heap.update it (ycp (·.setIfInBounds 1 (rawInt ((i:Int)+1))))}) hit'.typeIs ?_)));skip;show wpAny _ _ (pure es[i].key) _ _ _;exact y8 (y8 ⟨_,rfl,y8 (hQ _ hit' (y03 ..))⟩)
theorem jil{Q:Option Value->ye->Prop}(hh:A.handled=none)(hit:s.heap.IsKeyIter it d i es.size ep)(ho:s.heap.get? d=some o)(hc:o.ExactDict)(hdat:o.data=.dict es ep)(hge:es.size<=i)
  (hQ:∀h2,yb0 it s.heap h2->Q none {s with heap:=h2}):wpAny (model prog w) A (pyNext (.ref it)) Q E s:=by
 obtain⟨oi,hoi,hci,hdi⟩:=id hit;unfold pyNext;refine y0 (y29 (gp (name:=uc "__next__") hit.typeIs vv (xw vv hit.typeIs y3h ?_ (y37 _))));refine y0 (y8 (y0 (y0 ?_)))
 first|refine y0 (y0v hit.typeIs (y8 (y0 (y1q hoi hdi ?_))))|refine y0 (y26 hit.typeIs (y8 (y0 (y1q hoi hdi ?_))))
 simp only[show y5f "dict_keyiterator"=false by decide,vi,if_false];show wpAny _ _ (if (xy d==ud)=true then _ else _) _ _ s;rw[if_neg (show ¬ ((xy d==ud)=true) by exact xb)];refine y0 (y8 (y0 (y4i ho hdat ?_)));rw[if_neg (by simp)];refine y0 (y8 (y0 (y86 ho hdat ?_)));rw[if_neg (by simp)];refine y8 ?_;simp only[show ¬ ((i:Int)<0) by omega,if_false,yq,y2d hge];refine y0 ?_
 first|fail|refine y0 (y0v hit.typeIs (y8 ?_))|refine y0 (y26 hit.typeIs (y8 ?_))
 show wpAny _ _ (setField (.ref it) 0 .none >>= _) _ _ s;refine y0 (y6e hoi hdi (by simp) ?_);show wpAny _ _ (newExc (.type "StopIteration") [] >>= _) _ _ _;refine y0 ?_;simp only[newExc,newTuple];refine y0 (v9 (y0 (m:=firstArgMember _ _) (y0g (a:=ud) (by first|rfl|(simp only[firstArgMember];rfl)) ?_)) (by size_fits));skip;refine v9 ?_ (by size_fits);simp only[raiseNew];refine y0 (y77 ?_);rw[show A.in1.handled=none from hh];refine y0 (y8 (y97 ?_));refine y0 (y2c (T:="StopIteration") (b:=true) ⟨_,yi _ rfl,rfl⟩ y6c (y8 (hQ _ (((y03 ..).extBut.push _).push _))))
theorem jck{Q:Value->ye->Prop}{n:Nat}(hit:s.heap.IsKeyIter it d i n ep)(h:Q (.ref it) s):wpAny (model prog w) A (pyIter (.ref it)) Q E s:=by
 refine y24 hit.typeIs y3q (xw y3q hit.typeIs PySem.F.entry_dict_keyiterator_iter ?_ (PySem.F.args_dict_keyiterator_iter_1 _));exact y8 ⟨_,rfl,"dict_keyiterator",_,hit.typeIs,vv.lookup,h⟩
end
theorem jlv{P:yy}{w:World}:∀{k:Key}{u:Value},(j0h P w).is k u=true->RelV (kV k) u
 | .inl i,u,h=>by
  obtain⟨t,rfl⟩:=ycr (show ye9 _ u=true from h);exact⟨t,rfl⟩
 | .inr x,u,h=>by
  obtain⟨t,rfl⟩:=ybs (show ydk _ u=true from h);exact⟨t,rfl⟩
def ItdK(a:Addr)(o:Obj):It:=
 ⟨λi H=>∃kvs,H a=some (.frz o (.dK kvs))/\i<kvs.length,λi H x H'=>H'=H/\∀kvs,H a=some (.frz o (.dK kvs))->∃kv,kvs[i]?=some kv/\x=kV kv.1,λi H=>∃kvs,H a=some (.frz o (.dK kvs))/\kvs.length<=i⟩
def ItdT(a:Addr)(o:Obj):It:=
 ⟨λi H=>∃kvs,H a=some (.frz o (.dT kvs))/\i<kvs.length,λi H x H'=>H'=H/\∀kvs,H a=some (.frz o (.dT kvs))->∃kv b,kvs[i]?=some kv/\x=.ref b/\H b=some (.tup (kv.1.map kV)),λi H=>∃kvs,H a=some (.frz o (.dT kvs))/\kvs.length<=i⟩
variable{P:yy}{w:World}{H:Hp}{o:Obj}{kvs:List (Key×V)}
theorem fz_k{h:Heap}{a:Addr}(ok:HOk P w H h)(e:H a=some (.frz o (.dK kvs))):h.get? a=some o/\o.ExactDict/\(a==sysModules)=false/\∃es ep,o.data=.dict es ep/\es.size=kvs.length/\∀(i:Nat) (hi:i<es.size),∃kv,kvs[i]?=some kv/\RelV (kV kv.1) es[i].key:=by
 obtain⟨h1,z,y,vs,rel,o',es,ep,g,c,dt,ks,ps,nd⟩:=(show ObjOk P w H h a (.frz o (.dK kvs))from ok a _ e)
 rw[h1]at g;cases g;have l1:es.size=vs.length:=by rw[<- ps.length];simp
 have l2:=rel.length;refine⟨h1,c,y,es,ep,dt,by omega,λi hi=>?_⟩;have hk:i<kvs.length:=by omega
 have hv:i<vs.length:=by omega
 obtain⟨q1,_⟩:=ps.get? (i:=i) (e:=es[i]) (by simp[hi]) (show vs[i]?=some (vs[i].1,vs[i].2) by rw[y4 hv]);refine⟨kvs[i],y4 hk,?_⟩;have ek:(kvs.map (·.1))[i]?=(vs.map (·.1))[i]?:=by rw[rel.keys]
 rw[xc,xc,y4 hk,y4 hv]at ek;injection ek with ek;have ek':kvs[i].1=vs[i].1:=ek;rw[ek'];exact jlv q1
theorem Paired.at{α β:Type}{F:α->β->Prop}{l₁:List α}{l₂:List β}(r:Paired F l₁ l₂):∀(i:Nat) (a:α) (b:β),l₁[i]?=some a->l₂[i]?=some b->F a b:=by
 induction r with
 |nil=>intro i a b h;simp at h
 |cons x _ ih=>
  intro i a b h1 h2;cases i with
  |zero=>simp at h1 h2;subst h1 h2;exact x
  |succ i=>exact ih i a b (by simpa using h1) (by simpa using h2)
theorem fz_t{h:Heap}{a:Addr}{kvs:List (List Key×V)}(ok:HOk P w H h)(e:H a=some (.frz o (.dT kvs))):h.get? a=some o/\o.ExactDict/\(a==sysModules)=false/\∃es ep,o.data=.dict es ep/\es.size=kvs.length/\∀(i:Nat) (hi:i<es.size),∃kv b,kvs[i]?=some kv/\es[i].key=.ref b/\H b=some (.tup (kv.1.map kV)):=by
 obtain⟨h1,z,y,xs,rel,o',es,ep,g,c,dt,en,nd⟩:=(show ObjOk P w H h a (.frz o (.dT kvs))from ok a _ e)
 rw[h1]at g;cases g;have l1:es.size=xs.length:=ybb en;have l2:kvs.length=xs.length:=y40 rel;refine⟨h1,c,y,es,ep,dt,by omega,λi hi=>?_⟩;have hk:i<kvs.length:=by omega
 have hv:i<xs.length:=by omega
 have q:=Paired.at rel i kvs[i] xs[i] (y4 hk) (y4 hv);have en':=entry_at en i;rw[yf hi,y4 hv]at en';injection en' with en';exact⟨kvs[i],xs[i].2.1,y4 hk,by rw[en'];rfl,q.2.1⟩
variable{K:y9}{es:Array y3s}{ep:Nat}
theorem jcl{tg:Expr}(a it:Addr)(o:Obj)(hd:o.data=.dict es ep):Turn P w K tg (ItdK a o) [it] it (λi h=>h.IsKeyIter it a i es.size ep) where
 mem:=yb.mpr rfl
 obj:=λi h st b hb=>by
  cases yb.mp hb;obtain⟨u,e,_,d⟩:=st;exact⟨u,e,λv z=>by rw[d]at z;cases z⟩
 keep:=λi h h' st k=>let ⟨u,e,r⟩:=st;⟨u,k it (yb.mpr rfl) u e,r⟩
 item:=by
  intro X hP hw hK hc i pins s σ H E I hf st hg;subst hP hw hK;obtain⟨kvs,hq,hx⟩:=hg;obtain⟨g1,g2,g3,es',ep',g4,g5,g6⟩:=fz_k I.hok hq;rw[hd]at g4;cases g4;obtain⟨f0,f1,f2,f3,f4,f5⟩:=hf it (yb.mpr rfl);obtain⟨kv,k1,k2⟩:=g6 i (by omega);refine jcj st g1 g2 hd (by omega) λh' st' sb=>?_;have I1:Inv X pins σ H {s with heap:=h'}:=I.turned (t':=s.toks) (λb u hb e=>(sb.2 b hb).trans e) f0 f1 f3 f4 f5;obtain⟨u,e,c,d⟩:=id st';exact⟨_,rfl,jjy (s:={s with heap:=h'}) e c d (by decide) ⟨kV kv.1,H,I1,k2,⟨rfl,λkvs' hk'=>⟨kv,by rw[hq]at hk';cases hk';exact k1,rfl⟩⟩,st',λb hb=>(hf b hb).1⟩⟩
 done:=by
  intro X hP hw hK hc i pins s σ H E I hf st hg;subst hP hw hK;obtain⟨kvs,hq,hx⟩:=hg;obtain⟨g1,g2,g3,es',ep',g4,g5,g6⟩:=fz_k I.hok hq;rw[hd]at g4;cases g4;obtain⟨f0,f1,f2,f3,f4,f5⟩:=hf it (yb.mpr rfl);exact jil (I.ok.hd hc) st g1 g2 hd (by omega) λh' eb=>⟨rfl,I.turned (t':=s.toks) (λb u hb e=>eb b u hb e) f0 f1 f3 f4 f5⟩
 self:=λ_ _ _ _ _ st h=>jck st h
theorem jcm{tg:Expr}(a it:Addr)(o:Obj)(hd:o.data=.dict es ep):Turn P w K tg (ItdT a o) [it] it (λi h=>h.IsKeyIter it a i es.size ep) where
 mem:=yb.mpr rfl
 obj:=λi h st b hb=>by
  cases yb.mp hb;obtain⟨u,e,_,d⟩:=st;exact⟨u,e,λv z=>by rw[d]at z;cases z⟩
 keep:=λi h h' st k=>let ⟨u,e,r⟩:=st;⟨u,k it (yb.mpr rfl) u e,r⟩
 item:=by
  intro X hP hw hK hc i pins s σ H E I hf st hg;subst hP hw hK;obtain⟨kvs,hq,hx⟩:=hg;obtain⟨g1,g2,g3,es',ep',g4,g5,g6⟩:=fz_t I.hok hq;rw[hd]at g4;cases g4;obtain⟨f0,f1,f2,f3,f4,f5⟩:=hf it (yb.mpr rfl);obtain⟨kv,b0,k1,k2,k3⟩:=g6 i (by omega);refine jcj st g1 g2 hd (by omega) λh' st' sb=>?_;have I1:Inv X pins σ H {s with heap:=h'}:=I.turned (t':=s.toks) (λb u hb e=>(sb.2 b hb).trans e) f0 f1 f3 f4 f5;obtain⟨u,e,c,d⟩:=id st';refine⟨_,rfl,jjy (s:={s with heap:=h'}) e c d (by decide) ⟨.ref b0,H,I1,k2,⟨rfl,λkvs' hk'=>⟨kv,b0,by rw[hq]at hk';cases hk';exact k1,rfl,k3⟩⟩,st',λb hb=>(hf b hb).1⟩⟩
 done:=by
  intro X hP hw hK hc i pins s σ H E I hf st hg;subst hP hw hK;obtain⟨kvs,hq,hx⟩:=hg;obtain⟨g1,g2,g3,es',ep',g4,g5,g6⟩:=fz_t I.hok hq;rw[hd]at g4;cases g4;obtain⟨f0,f1,f2,f3,f4,f5⟩:=hf it (yb.mpr rfl);exact jil (I.ok.hd hc) st g1 g2 hd (by omega) λh' eb=>⟨rfl,I.turned (t':=s.toks) (λb u hb e=>eb b u hb e) f0 f1 f3 f4 f5⟩
 self:=λ_ _ _ _ _ st h=>jck st h
variable{tl:TE}
section
variable{X:Cx}{tg:Expr}
def iDK(tl:TE):TI:=λσ H R=>tl σ H λx H1=>∃a o kvs,x=.ref a/\H1 a=some (.frz o (.dK kvs))/\R (ItdK a o) H1
def iDT(tl:TE):TI:=λσ H R=>tl σ H λx H1=>∃a o kvs,x=.ref a/\H1 a=some (.frz o (.dT kvs))/\R (ItdT a o) H1
theorem pi_dK{l:Expr}(hl:PE X l tl):PI X tg l (iDK tl):=by
 intro pins s σ H R I h;refine thn (hl pins s σ H _ I h) λv s1 ⟨x,H1,I1,r1,q1⟩=>?_;obtain⟨a,o,kvs,e,hq,q⟩:=q1;subst e;cases r1;obtain⟨g1,g2,g3,es,ep,g4,g5,g6⟩:=fz_k I1.hok hq;refine jci g3 g1 g2 g4 λh' st k=>?_;refine⟨s1.heap.objs.size,[s1.heap.objs.size],_,_,H1,rfl,I1.kept (t':=s1.toks) k,jcl a _ o g4,st,λb hb=>?_,q⟩;cases yb.mp hb;exact I1.fpOk (yg _) (I1.hok.fresh (yg _))
theorem pi_dT{l:Expr}(hl:PE X l tl):PI X tg l (iDT tl):=by
 intro pins s σ H R I h;refine thn (hl pins s σ H _ I h) λv s1 ⟨x,H1,I1,r1,q1⟩=>?_;obtain⟨a,o,kvs,e,hq,q⟩:=q1;subst e;cases r1;obtain⟨g1,g2,g3,es,ep,g4,g5,g6⟩:=fz_t I1.hok hq;refine jci g3 g1 g2 g4 λh' st k=>?_;refine⟨s1.heap.objs.size,[s1.heap.objs.size],_,_,H1,rfl,I1.kept (t':=s1.toks) k,jcm a _ o g4,st,λb hb=>?_,q⟩;cases yb.mp hb;exact I1.fpOk (yg _) (I1.hok.fresh (yg _))
end
section
variable{a:Addr}{o:Obj}{g:TG}{tb:TS}{D:Ends}{σ:St}{H:Hp}
theorem for_dK(Pv:Nat->St->Hp->Prop)(h0:Pv 0 σ H)(hl:∀i σ H,i<=kvs.length->Pv i σ H->H a=some (.frz o (.dK kvs)))
  (hs:∀i kv σ H,kvs[i]?=some kv->Pv i σ H->g (kV kv.1) σ H λσ2 H2=>tb {D with nx:=Pv (i+1),ct:=Pv (i+1),bk:=D.nx} σ2 H2) (hd:∀σ H,Pv kvs.length σ H->D.nx σ H):
  ∃W:Nat->Nat->St->Hp->Prop,(∃m,W 0 m σ H)/\∀i m σ H,W i m σ H->
   ((ItdK a o).stop i H/\D.nx σ H)\/((ItdK a o).go i H/\∃N:St->Hp->Prop,(∀σ' H',N σ' H'->∃m',m'<m/\W (i+1) m' σ' H')/\∀x H',(ItdK a o).yld i H x H'->g x σ H' λσ2 H2=>tb {D with nx:=N,ct:=N,bk:=D.nx} σ2 H2):=by
 refine⟨λi m σ H=>m=kvs.length-i/\i<=kvs.length/\Pv i σ H,⟨kvs.length,by simp,gm _,h0⟩,?_⟩;rintro i m σ H ⟨rfl,hi,p⟩;have q:=hl i σ H hi p;by_cases hlt:i<kvs.length
 ·refine .inr ⟨⟨kvs,q,hlt⟩,Pv (i+1),λσ' H' p'=>⟨kvs.length-(i+1),by omega,rfl,hlt,p'⟩,λx H' y=>?_⟩;obtain⟨e,y⟩:=y;subst e;obtain⟨kv,k1,rfl⟩:=y kvs q;exact hs i kv σ _ k1 p
 ·have e:i=kvs.length:=by omega
  subst e;exact .inl ⟨⟨kvs,q,yg _⟩,hd σ H p⟩
theorem for_dT{kvs:List (List Key×V)}(Pv:Nat->St->Hp->Prop)(h0:Pv 0 σ H)(hl:∀i σ H,i<=kvs.length->Pv i σ H->H a=some (.frz o (.dT kvs)))
  (hs:∀i kv b σ H,kvs[i]?=some kv->H b=some (.tup (kv.1.map kV))->Pv i σ H->g (.ref b) σ H λσ2 H2=>tb {D with nx:=Pv (i+1),ct:=Pv (i+1),bk:=D.nx} σ2 H2) (hd:∀σ H,Pv kvs.length σ H->D.nx σ H):
  ∃W:Nat->Nat->St->Hp->Prop,(∃m,W 0 m σ H)/\∀i m σ H,W i m σ H->
   ((ItdT a o).stop i H/\D.nx σ H)\/((ItdT a o).go i H/\∃N:St->Hp->Prop,(∀σ' H',N σ' H'->∃m',m'<m/\W (i+1) m' σ' H')/\∀x H',(ItdT a o).yld i H x H'->g x σ H' λσ2 H2=>tb {D with nx:=N,ct:=N,bk:=D.nx} σ2 H2):=by
 refine⟨λi m σ H=>m=kvs.length-i/\i<=kvs.length/\Pv i σ H,⟨kvs.length,by simp,gm _,h0⟩,?_⟩;rintro i m σ H ⟨rfl,hi,p⟩;have q:=hl i σ H hi p;by_cases hlt:i<kvs.length
 ·refine .inr ⟨⟨kvs,q,hlt⟩,Pv (i+1),λσ' H' p'=>⟨kvs.length-(i+1),by omega,rfl,hlt,p'⟩,λx H' y=>?_⟩;obtain⟨e,y⟩:=y;subst e;obtain⟨kv,b,k1,rfl,k2⟩:=y kvs q;exact hs i kv b σ _ k1 k2 p
 ·have e:i=kvs.length:=by omega
  subst e;exact .inl ⟨⟨kvs,q,yg _⟩,hd σ H p⟩
theorem r_idK{R:It->Hp->Prop}(q:tl σ H λx H1=>∃a o kvs,x=.ref a/\H1 a=some (.frz o (.dK kvs))/\R (ItdK a o) H1):iDK tl σ H R:=q
theorem r_idT{R:It->Hp->Prop}(q:tl σ H λx H1=>∃a o kvs,x=.ref a/\H1 a=some (.frz o (.dT kvs))/\R (ItdT a o) H1):iDT tl σ H R:=q
end
section
variable{K:y9}{ts:List TT}{te:TE}{acc:Addr}{fr:St}{H1:Hp}{R:Hp->Prop}{a:Addr}{o:Obj}
theorem jlw{u:Option V}(hx:H1 a=some (.frz o (.dK kvs)))(hz:kvs.length<=1000000)(hn:H1 acc=none)(Pv:Nat->List V->Hp->Prop)(h0:Pv 0 [] H1)(kp:∀i ys H H',Kp H H'->Pv i ys H->Pv i ys H')(len:∀i ys H,i<=kvs.length->Pv i ys H->ys.length<=i)
  (turn:∀i kv ys H,kvs[i]?=some kv->Ext H1 H->Pv i ys H->j6c ts te (Pv (i+1)) ys H (some (kV kv.1)::fr) H)
  (fin:∀ys H,Ext H1 H->H acc=some (.lst ys)->Pv kvs.length ys H->R H):j8w (ItdK a o) (j8k 0) ts te acc (u::fr) H1 R:=by
 refine j2x kvs.length hz hn (λσ=>∃u,σ=u::fr) Pv ⟨u,rfl⟩ h0 kp (λi H hi e=>⟨kvs,e _ _ hx,hi⟩) (λH e=>⟨kvs,e _ _ hx,yg _⟩) len ?_ fin;rintro i σ ys H x H' G hi e ⟨u,rfl⟩ pv ⟨rfl,y⟩ hG;obtain⟨kv,k1,rfl⟩:=y kvs (e _ _ hx);exact hG _ _ ⟨_,rfl⟩ (turn i kv ys _ k1 e pv)
theorem jlx{kvs:List (List Key×V)}{u:Option V}(hx:H1 a=some (.frz o (.dT kvs)))(hz:kvs.length<=1000000)(hn:H1 acc=none)(Pv:Nat->List V->Hp->Prop)(h0:Pv 0 [] H1)(kp:∀i ys H H',Kp H H'->Pv i ys H->Pv i ys H')(len:∀i ys H,i<=kvs.length->Pv i ys H->ys.length<=i)
  (turn:∀i kv b ys H,kvs[i]?=some kv->H b=some (.tup (kv.1.map kV))->Ext H1 H->Pv i ys H->j6c ts te (Pv (i+1)) ys H (some (.ref b)::fr) H)
  (fin:∀ys H,Ext H1 H->H acc=some (.lst ys)->Pv kvs.length ys H->R H):j8w (ItdT a o) (j8k 0) ts te acc (u::fr) H1 R:=by
 refine j2x kvs.length hz hn (λσ=>∃u,σ=u::fr) Pv ⟨u,rfl⟩ h0 kp (λi H hi e=>⟨kvs,e _ _ hx,hi⟩) (λH e=>⟨kvs,e _ _ hx,yg _⟩) len ?_ fin;rintro i σ ys H x H' G hi e ⟨u,rfl⟩ pv ⟨rfl,y⟩ hG;obtain⟨kv,b,k1,rfl,k2⟩:=y kvs (e _ _ hx);exact hG _ _ ⟨_,rfl⟩ (turn i kv b ys _ k1 k2 e pv)
end
inductive IsDc:HO->Prop
 |k (kvs:List (Key×V)):IsDc (.dK kvs)
 |t (kvs:List (List Key×V)):IsDc (.dT kvs)
theorem IsDc.obj{P:yy}{w:World}{H:Hp}{h:Heap}{a:Addr}{u:HO}(d:IsDc u)(ok:ObjOk P w H h a u):∃o,h.get? a=some o:=by
 cases d with
 |k kvs=>obtain⟨_,_,_,_,o,_,_,g,_⟩:=ok;exact⟨o,g⟩
 |t kvs=>obtain⟨_,_,_,_,o,_,_,g,_⟩:=ok;exact⟨o,g⟩
theorem Inv.frz{X:Cx}{pins:List (Addr×Obj)}{σ:St}{H:Hp}{s:ye}{a:Addr}{u:HO}{o:Obj}(I:Inv X pins σ H s)(e:H a=some u)(d:IsDc u)(ho:s.heap.get? a=some o):Inv X pins σ (upd H a (.frz o u)) s:=by
 have ne:∀b v,H b=some v->v≠u->b≠a:=λb v h n z=>by rw[z,e]at h;cases h;exact n rfl
 have keep:∀b v,H b=some v->v≠u->upd H a (.frz o u) b=some v:=λb v h n=>by rw[j0i (ne b v h n)];exact h
 refine I.un (h':=s.heap) (t':=s.toks) ⟨λb o e n _ _=>e,λb o e n _ _=>⟨o.slots,e⟩,λb o _ n _=>?_,λb o e _=>⟨o,e⟩,λb xs h=>keep b _ h (by intro z;rw[<- z]at d;cases d),λb ob v h=>keep b _ h (by intro z;rw[<- z]at d;cases d),λb qs h=>⟨#[],by rw[keep b _ h (by intro z;rw[<- z]at d;cases d)];simp⟩⟩ λb v h=>?_
 ·rw[j0i (λz=>by rw[z,e]at n;cases n)];exact n
 ·have st:∀{v:HO},ObjOk X.prog X.w H s.heap b v->ObjOk X.prog X.w (upd H a (.frz o u)) s.heap b v:=λx=>x.stay (λ_ _ _ q=>q) (λc q=>keep c _ q (by intro z;rw[<- z]at d;cases d)) λc xs q=>keep c _ q (by intro z;rw[<- z]at d;cases d);by_cases hb:b=a
  ·subst hb;rw[j07]at h;cases h;exact⟨ho,st (I.hok b _ e)⟩
  ·rw[j0i hb]at h;exact st (I.hok b _ h)
def rFrz(x:V)(H:Hp)(Q:VK):Prop:=∃a u,x=.ref a/\H a=some u/\IsDc u/\∀o,Q x (upd H a (.frz o u))
def tFrz(t:TE):TE:=λσ H Q=>t σ H λx H1=>rFrz x H1 Q
section
variable{X:Cx}{e:Expr}{t:TE}
theorem jim(he:PE X e t):PE X e (tFrz t):=by
 intro pins s σ H Q I h;refine thn (he pins s σ H _ I h) λv s1 ⟨x,H1,I1,r1,a,u,ex,hu,d,q⟩=>?_;subst ex;obtain⟨o,ho⟩:=d.obj (I1.hok a _ hu);exact⟨.ref a,_,I1.frz hu d ho,r1,q o⟩
end
section
variable{K:y9}{σ:St}{H:Hp}{Q:VK}{td ty tv t:TE}{p b:Addr}
theorem jq9(q:t σ H λx H1=>rFrz x H1 Q):tFrz t σ H Q:=q
theorem r_frzK(h:H p=some (.dK kvs))(q:∀o H',H' p=some (.frz o (.dK kvs))->But p H H'->Q (.ref p) H'):rFrz (.ref p) H Q:=⟨p,_,rfl,h,.k _,λo=>q o _ j07 j26⟩
theorem r_frzT{kvs:List (List Key×V)}(h:H p=some (.dT kvs))(q:∀o H',H' p=some (.frz o (.dT kvs))->But p H H'->Q (.ref p) H'):rFrz (.ref p) H Q:=⟨p,_,rfl,h,.t _,λo=>q o _ j07 j26⟩
def rNinK:R2:=λx y H Q=>∃a o,y=.ref a/\DGet H a x o/\Q (.bl (!o.isSome)) H
def jqc:List V->Hp->VK->Prop:=λxs H Q=>∃a kvs,xs=[V.ref a]/\H a=some (.dK kvs)/\Q (.int kvs.length) H
theorem r_lenK(h:H p=some (.dK kvs))(q:Q (.int kvs.length) H):jqc [.ref p] H Q:=⟨p,kvs,rfl,h,q⟩
def jly(p:Addr)(x v:V)(H:Hp)(Q:VK):Prop:=H p=some (.dK [])/\∃kvs:List (Key×V),[(x,v)]=kvs.map (λkv=>(kV kv.1,kv.2))/\kvs.length<=15/\Q (.ref p) (upd H p (.dK (ja8 [] kvs)))
theorem jlz{tk tv:TE}(q:∀p H',H p=none->H' p=some (.dK [])->Ext H H'->tk σ H' λx H2=>tv σ H2 λv H3=>jly p x v H3 Q):jok [(tk,tv)] σ H Q:=λp n=>q p _ n j07 (j0p n)
end
section
variable{X:Cx}
theorem jm0{k:Nat}(hr:Room k X.A):OpR X (compareOp .NotIn) rNinK:=by
 skip;intro pins s σ H x y v u Q I rx ry h;obtain⟨a,o,rfl,g,q⟩:=h;cases ry;exact jkf (by have:=hr.un;omega) I g rx λs' I'=>⟨.bl _,H,I',rfl,q⟩
theorem cLenK:CallR X (.builtin "len") jqc:=je9
end
theorem xd_sub:isSubtype (.type "dict") (.type "dict")=pure true:=by rw[y39];kernel_rfl
theorem jin{prog:yy}{w:World}{A:gw}(hh:A.handled=none)(I d:Addr)(nd:d≠I)(hc:o.ExactDict)(hd:o.data=.dict es ep):
  Walks prog w A I [I,d] [I] es.size (λi v=>(es[i]?).map (·.key)=some v) (λi h=>h.IsKeyIter I d i es.size ep/\h.get? d=some o) where
 sub:=λb hb=>by rw[yb.mp hb];simp
 frame:=λ_ _ _ x hk=>⟨let ⟨u,e,r⟩:=x.1;⟨u,hk I (by simp) u e,r⟩,hk d (by simp) _ x.2⟩
 item:=λi s Q E hi x (hQ)=>by
  refine jcj x.1 x.2 hc hd hi λh' st' sb=>?_;refine hQ _ h' s.toks ?_ ⟨st',(sb.2 d nd).trans x.2⟩ λb u hb eu=>sb.extBut b u (λh=>hb (by simp[h])) eu;rw[yf hi];rfl
 done:=λs Q E x hQ=>jil hh x.1 x.2 hc hd (yg _) λh' he'=>hQ h' s.toks λb u hb eu=>he' b u (λh=>hb (by simp[h])) eu
 self:=λ_ _ _ _ x hQ=>jck x.1 hQ
variable{d:Addr}{ns:List Int}
section
variable{prog:yy}{w:World}{A:gw}{E:Value->ye->Prop}{s:ye}
theorem j6j{Q:List Value->ye->Prop}(hh:A.handled=none)(lo:(d==sysModules)=false)(hS:s.heap.get? d=some o)(hc:o.ExactDict)(hd:o.data=.dict es ep)(hz:es.size<=sizeLine)
  (hQ:∀s' acc,Moved [] (λa b=>b=a) s s'->s.heap.objs.size<s'.heap.objs.size->yde (λi v=>(es[i]?).map (·.key)=some v) acc es.size->Q acc.toList s'):wpAny (model prog w) A (collect (.ref d)) Q E s:=by
 have lS:d<s.heap.objs.size:=yt hS;have nd:s.heap.objs.size≠d:=y27 lS;unfold collect;refine y0 (y4n (y0d y7r ?_));rw[y0h y7s _];show wpAny _ A.in1 (newList [] >>= λx=>again (.builtin "list.__iadd__" ⟨[x,.ref d],[]⟩)) _ _ s;refine y0 (v9 (y8 ⟨y2u y4d _,y0d y9t ?_⟩));rw[y0h y4d _];have d1:(s.heap.push {cls:=.type "list",data:=.seq ([]:List Value).toArray}).get? d=some o:=yc _ hS;have S1:(s.heap.push {cls:=.type "list",data:=.seq ([]:List Value).toArray}).get? s.heap.objs.size=some {cls:=.type "list",data:=.seq ([]:List Value).toArray}:=yi _ rfl;have same:y1t (.ref s.heap.objs.size) (.ref d)=false:=by simp[y1t,nd]
 show wpAny _ A.in1 (uk (.ref s.heap.objs.size) (.ref d) (.ref s.heap.objs.size)) _ _ _;unfold uk;refine y0 (y28 (T:="dict") ⟨_,d1,hc.1⟩ ?_);rw[if_neg (by rw[same];decide)];refine y0 (jci lo d1 hc hd λh2 st2 k2=>y0 (vg ?_));have n1:(s.heap.push {cls:=.type "list",data:=.seq ([]:List Value).toArray}).objs.size=s.heap.objs.size+1:=by rw[vf]
 rw[show({s with heap:=s.heap.push {cls:=.type "list",data:=.seq ([]:List Value).toArray} }:ye).heap.objs.size=s.heap.objs.size+1 from n1]at st2;rw[n1];have d2:=k2 _ _ d1;have S2:=k2 _ _ S1;have te:y9l {s with heap:=h2} (.ref d) "dict":=⟨_,d2,hc.1⟩
 unfold y5m;refine y0 (y5s (T:="dict") te y4w.lookup ?_)
 (generalize hid:("dict.__len__":String)=id0;(fail_if_success (clear hid id0));wp_delta;rw[show splitId id0=some ("dict","__len__")from by subst hid;decide +kernel];subst hid)
 refine y0 (y2c (T:="dict") (b:=true) te xd_sub ?_);rw[if_neg (by decide)];rw[if_pos (by decide +kernel)];refine y0 (y28 (T:="dict") te (y8 ?_));rw[if_pos (by decide +kernel)];refine y0 (y4j (y0 ?_));have S3:=vw (vn (·.push ud)) S2 rfl;show wpAny _ A.in1 (updateSeq s.heap.objs.size (·.push .none) >>= λ_=>updateSeq s.heap.objs.size (·.pop)) _ _ _;refine y0 (y5t S2 rfl (y5t S3 rfl ?_));have S4:=vw (vn (·.pop)) S3 rfl;have oth:∀b u,b≠s.heap.objs.size->h2.get? b=some u->((h2.update s.heap.objs.size (vn (·.push ud))).update s.heap.objs.size (vn (·.pop))).get? b=some u:=
  λb u nb e=>(uw _ _ (y57 nb)).trans ((uw _ _ (y57 nb)).trans e)
 have neI:d≠s.heap.objs.size+1:=xt (uj lS);have W:=(jin (prog:=prog) (w:=w) (A:=A.in1) hh (s.heap.objs.size+1) d neI hc hd).toS;have nS:s.heap.objs.size∉[s.heap.objs.size+1,d]:=by
  simp only[xf,y01,or_false,not_or];exact⟨xt (y1i _),nd⟩
 refine y8 ⟨y2u y8w _,y8n W hz _ nS _ es.size 0 _ _ _ rfl (gm _) ⟨?_,oth d _ nd.symm d2⟩ S4 (ydf _) λs' acc' c' hm hS' hacc=>y0 (ya9 hS' (y8 (hQ s' acc' ⟨λb u _ e=>?_,hm.gens,hm.drawn,hm.os,hm.toks⟩ (yt hS') hacc)))⟩
 ·obtain⟨u,e,r⟩:=st2;exact⟨u,oth _ _ (y27 (y1i _)) e,r⟩
 ·have lb:=yt e;refine hm.heap b u (λq=>?_) (oth b u (xt lb) (k2 _ _ (yc _ e)));skip;rcases xf.mp q with q|q
  ·exact xt lb q
  ·exact xt (uj lb) (yb.mp q)
theorem jcn{acc:Array Value}(h:yde (λi v=>(es[i]?).map (·.key)=some v) acc es.size):acc.toList=es.toList.map (·.key):=by
 refine j6f (P:=λi v=>(es[i]?).map (·.key)=some v) (by rw[y3,yh];exact h) λi v hv=>?_;rw[xc,xl];exact hv
theorem jev{Q:Value->ye->Prop}(hh:A.handled=none)(lo:(d==sysModules)=false)(hS:s.heap.get? d=some o)(hc:o.ExactDict)(hd:o.data=.dict es ep)(h64:es.size<64)(hI:y2f (es.toList.map (·.key)) ns)
  (h:∀(s':ye) (h':Heap) (a:Addr) (out:List Value) (e:Nat) (ns':List Int),(∀b o,s.heap.get? b=some o->h'.get? b=some o)->s.heap.objs.size<=a->h'.get? a=some (seqObj "list" out.toArray e)->y2f out ns'->ns'.Perm ns->ns'.Pairwise (·<=·)->Q (.ref a) {s with heap:=h',toks:=s'.toks}):wpAny (model prog w) A (call (.builtin "sorted") [.ref d]) Q E s:=by
 have hz:es.size<=sizeLine:=by rw[xo];omega
 refine ui y5r y4z y4y (y4x _) ?_;unfold y2a;refine y0 (m:=checkCount "sorted" 1 1 _) (y8 (y0 (j6j hh lo hS hc hd hz λs' acc hm le ha=>?_)));have i1:y2f acc.toList ns:=by rw[jcn ha];exact hI
 have l1:acc.toList.length<64:=by rw[jcn ha,y3,yh];exact h64
 skip;refine y0 (y1o ?_ (by rw[xo];omega));have o1:(s'.heap.push (seqObj "list" acc.toList.toArray 0)).get? s'.heap.objs.size=some (seqObj "list" acc.toList.toArray 0):=yi _ rfl;refine y0 (vg (xw y3a ⟨_,o1,rfl⟩ y2m (y8t o1 i1 l1 λout ns' a1 a2 a3=>⟨_,rfl,y8 ⟨_,rfl,?_⟩⟩) (y38 _)));obtain⟨h',g',d',t',q'⟩:=s';skip;have eg:g'=s.gens:=hm.gens;skip;have ed:d'=s.drawn:=hm.drawn;have eo:q'=s.os:=hm.os;subst eg ed eo;obtain⟨e,he⟩:=y76 (out:=out) o1;refine h ⟨h',s.gens,s.drawn,t',s.os⟩ _ _ out.toList e ns' (λb o eb=>?_) (y0r le) (by simpa using he) a1 a2 a3;have hb:=hm.heap b o (by simp) eb;have lb:=yt hb;refine(y6d (xt lb) ?_).trans (yc _ hb);rw[vf];exact uj lb
end
theorem jew{ns:List Int}{vs:List Value}(h:∀(i:Nat) (n:Int),ns[i]?=some n->∃u,vs[i]?=some u/\RelV (.int n) u)(hl:ns.length=vs.length):y2f vs ns:=by
 induction ns generalizing vs with
 |nil=>cases vs with
  |nil=>exact .nil
  |cons x r=>simp at hl
 |cons n r ih=>
  cases vs with
  |nil=>simp at hl
  |cons x q=>
   obtain⟨u,e,t,ht⟩:=h 0 n rfl;simp at e;subst e ht;exact .cons n t (ih (λi m hm=>by simpa using h (i+1) m (by simpa using hm)) (by simpa using hl))
variable{Q:VK}{p:Addr}
section
variable{X:Cx}
def jco:List V->Hp->VK->Prop:=λxs H Q=>∃(p:Addr) (o:Obj) (kvs:List (Key×V)) (ns:List Int),xs=[.ref p]/\H p=some (.frz o (.dK kvs))/\kvs.map (·.1)=ns.map y23/\kvs.length<64/\∀l (ms:List Int),H l=none->ms.Perm ns->ms.Pairwise (·<=·)->Q (.ref l) (upd H l (.lst (ms.map V.int)))
theorem jm1(hc:X.calm=true):CallR X (.builtin "sorted") jco:=by
 skip;intro pins s σ H xs us Q I r h;obtain⟨p,o,kvs,ns,rfl,hp,hk,h64,q⟩:=h;obtain⟨u,rfl,ru⟩:=j65 r;cases ru;obtain⟨g1,g2,g3,es,ep,g4,g5,g6⟩:=fz_k I.hok hp;have hl:kvs.length=ns.length:=by have:=congrArg y90 hk;simpa using this
 have hI:y2f (es.toList.map (·.key)) ns:=jew (λi n hn=>by
  have hi:i<ns.length:=(yw.mp hn).1;have hi2:i<es.size:=by omega
  obtain⟨kv,k1,k2⟩:=g6 i hi2;have e:(kvs.map (·.1))[i]?=some (y23 n):=by rw[hk,xc,hn];rfl
  rw[xc,k1]at e;have e':kv.1=y23 n:=gf e;rw[e']at k2;exact⟨es[i].key,by rw[xc,xl,yf hi2];rfl,k2⟩) (by have:=yh (xs:=es);rw[y3];omega)
 refine jev (I.ok.hd hc) g3 g1 g2 g4 (by omega) hI λs' h' l out ex ns' kk le ho hI' hp' hw=>?_;have ln:ns'.length=ns.length:=hp'.length_eq;exact⟨.ref l,upd H l (.lst (ns'.map V.int)),I.laid (t':=s'.toks) kk le (show ObjOk X.prog X.w _ _ _ (.lst (ns'.map V.int))from⟨by rw[y3,xo];omega,out,ex,j2j hI',ho⟩),rfl,q l ns' (I.hok.fresh le) hp' hw⟩
theorem jio(h:H p=some (.frz o (.dK kvs)))(hk:kvs.map (·.1)=ns.map y23)(hn:kvs.length<64)(q:∀l (ms:List Int) H',H l=none->ms.Perm ns->ms.Pairwise (·<=·)->H' l=some (.lst (ms.map V.int))->Ext H H'->Q (.ref l) H'):jco [.ref p] H Q:=⟨p,o,kvs,ns,rfl,h,hk,hn,λl ms nl pm pw=>q l ms _ nl pm pw j07 (j0p nl)⟩
end
structure LamC1(sc:Scope)(x y:Str):Prop where
 kind:sc.kind=.function
 co:sc.isCoroutine=false
 gen:sc.isGenerator=false
 nc:∀z∈sc.names,z.2≠.cell
 par:sc.names.lookup x=some .local
 fre:sc.names.lookup y=some .free
 only:∀z∈sc.names,z.2=.free->z.1=y
structure LamC2(sc:Scope)(x y:Str)(rest:List (Str×y5y)):Prop where
 kind:sc.kind=.function
 co:sc.isCoroutine=false
 gen:sc.isGenerator=false
 names:sc.names=(x,.cell)::rest
 nc:∀z∈rest,z.2≠.cell
 ne:x≠y
 fre:sc.names.lookup y=some .free
 only:∀z∈sc.names,z.2=.free->z.1=y
abbrev LAC(α:Type):=List (Addr×Obj)->Addr->Addr->ye->Addr->Hp->α
section
variable{prog:yy}{w:World}{A:gw}{E:Value->ye->Prop}{s:ye}{K:Type}[DecidableEq K]{knd:HeapKind prog w K}
theorem jip{pairs:List (Sem Value×Sem Value)}{Q:Addr->ye->Prop}(hu:knd.room A)(hlen:pairs.length<=15)
  (h:wpAny (model prog w) A (evalPairs pairs) (λvs s₁=>∃(b:Addr) (v:Value) (ks:K),vs=[(.ref b,v)]/\knd.is s₁.heap ks b/\s₁.heap.DictOfH knd s.heap.objs.size []/\
   ∀h' tk,h'.DictOfH knd s.heap.objs.size [(ks,b,v)]->uv s.heap.objs.size s₁.heap h'->Q s.heap.objs.size {s₁ with heap:=h',toks:=tk}) E {s with heap:=s.heap.push {cls:=.type "dict",data:=.dict #[]} }):wpAny (model prog w) A (subDict pairs) Q E s:=by
 unfold subDict;refine y0 (wpAny_alloc (y0 (vg ?_)));rw[if_pos hlen];skip;refine y0 (y10 h (λvs s₁ h₁=>?_) λ_ _ e=>e);obtain⟨b,v,ks,rfl,hk,hm,hQ⟩:=h₁;skip;refine vg (y0 ?_);rw[y1y];refine y0 (y0 (wpAny_dictSet_heap hu hk hm (λh' hm' hs'=>y8 ?_) (by simp)));dsimp only;rw[y8q];exact y8 (y8 (y8 (hQ h' _ hm' hs')))
end
def jex(p:Addr)(ps:List (V×V))(H:Hp)(Q:VK):Prop:=∃x y,ps=[(x,y)]/\H p=some (.dT [])/\∃b ks,x=.ref b/\H b=some (.tup (ks.map kV))/\Q (.ref p) (upd H p (.dT [(ks,y)]))
def jiq(tk tv:TE):TE:=λσ H Q=>∀p,H p=none->je8 [(tk,tv)] σ (upd H p (.dT [])) λps H2=>jex p ps H2 Q
theorem jir{X:Cx}{pos:Pos}{k v:Expr}{tk tv:TE}{j:Nat}(hr:Room j X.A)(hk:PE X k tk)(hv:PE X v tv):PE X (.Dict [some k] [v] pos) (jiq tk tv):=by
 skip;intro pins s σ H Q I q;have hn:=I.hok.fresh (yg s.heap.objs.size);have I1:=I.laid (a:=s.heap.objs.size) (o:=.dT []) (h':=s.heap.push {cls:=.type "dict",data:=.dict #[]}) (t':=s.toks) (λ_ _ q=>yc _ q) (yg _) (jbd s.heap I.big);have hp:PPs X pos [some k] [v] [(tk,tv)]:=jbg hk hv jg3;have un:=hr.un;have ln:(pairTrees [some k] [v] X.env pos).length=1:=pairTrees_length [some k] [v] X.env pos rfl rfl;rw[arm_eval_Dict,zip_pairTrees [some k] [v] X.env pos rfl rfl,dictDisplay_pairs _ (λz=>by rw[z]at ln;cases ln) (by rw[ln];decide)];refine y0 (y9q (y0 (jip (knd:=tupleKind (j0h X.prog X.w)) (show X.A.units<cLine by omega) (by rw[ln];decide) (thn (hp pins _ σ _ _ I1 (q _ hn)) λws s2 ⟨ps,H2,I2,rel,x,y,ep,e,b,ks,ex,hb,q2⟩=>?_))))
 ·subst ep ex;cases rel with
  | @cons _ w1 _ _ h1 h2=>
   cases h2;obtain⟨u1,u2⟩:=w1;cases(show u1=xy b from h1.1);obtain⟨z,hd,xs,relx,dd⟩:=joh I2.hok e;cases relx;refine⟨b,u2,ks,rfl,ja6 I2.hok hb,dd,λh' tk' dd' hs=>y8 ⟨.ref s.heap.objs.size,_,?_,rfl,q2⟩⟩;obtain⟨qo,es,ep,hq,h2,h3,h4,_,h5⟩:=dd';have nb:b≠s.heap.objs.size:=jjv hb e (λz=>nomatch z);exact j8t I2 (by rw[e];exact y0z) hs ⟨qo,hq⟩ ⟨by show 1<=sizeLine;rw[xo];decide,hd,[(ks,b,u2)],.cons ⟨rfl,by rw[j0i nb];exact hb,h1.2⟩ .nil,qo,es,ep,hq,h2,h3,h4,h5⟩
section
variable{K:y9}{σ:St}{H:Hp}{Q:VK}{p b:Addr}
theorem jm2{tk tv:TE}(q:∀p H',H p=none->H' p=some (.dT [])->Ext H H'->tk σ H' λx H2=>tv σ H2 λv H3=>jex p [(x,v)] H3 Q):jiq tk tv σ H Q:=λp n=>q p _ n j07 (j0p n)
theorem jis{v:V}{ks:List Key}(h:H p=some (.dT []))(hb:H b=some (.tup (ks.map kV)))(q:∀H',H' p=some (.dT [(ks,v)])->But p H H'->Q (.ref p) H'):jex p [(.ref b,v)] H Q:=⟨_,_,rfl,h,b,ks,rfl,hb,q _ j07 j26⟩
theorem jm3(q:∀p H',H p=none->H' p=some (.dT [])->Ext H H'->Q (.ref p) H'):jhi σ H Q:=λp n=>q p _ n j07 (j0p n)
end
section
variable{prog:yy}{w:World}{A:gw}{E:Value->ye->Prop}{s:ye}
theorem jcp(hd:(d==sysModules)=false):MeetsIn prog w (Builtin.«dict.__len__» ⟨[.ref d],[]⟩) (λ_ R s=>∃o es ep,s.heap.get? d=some o/\o.data=.dict es ep/\R (.ok (.ret (.int es.size s.toks))) {s with toks:=s.toks+1}):=
 .of_wp λA R s ⟨o,es,ep,ho,hdat,h⟩=>by
  skip;show wpAny _ _ (dictSize d >>= _) _ _ s;unfold dictSize;refine y0 (y0 (y4i ho hdat (y8 ?_)));show wpAny _ _ (ybf d >>= _) _ _ s;refine y0 (wpAny_pendingCount_other hd (wpAny_ret_mkInt ?_));rw[ycy];exact h
theorem jey{Q:Value->ye->Prop}(hd:(d==sysModules)=false)(ho:s.heap.get? d=some o)(hc:o.ExactDict)(hdat:o.data=.dict es ep)(hfit:(es.size:Int)<2 ^ 63)
  (h:∀t tk,Q (.int es.size t) {s with toks:=tk}):wpAny (model prog w) A (call (.builtin "len") [.ref d]) Q E s:=by
 refine ui kind_len plain_len entry_len (args_len1 _) ?_;unfold Builtin.«len»;refine y0 (m:=oneArg "len" _) (y8 (y0 (m:=callSpecial? (.ref d) (uc "__len__")) (gp (name:=uc "__len__") (jch ho hc) y4w (yaj y4w (jch ho hc) PySem.F.entry_dict_len (PySem.F.args_dict_len_1 _) (jcp hd) ⟨o,es,ep,ho,hdat,?_⟩))));show wpAny _ _ _ _ _ {s with toks:=s.toks+1};refine y0 (vg (y8 (y0 (y96 ?_))));show wpAny _ _ (if ((es.size:Nat):Int)<0 then _ else _) _ _ _;rw[if_neg (by omega)];show wpAny _ _ (if ((es.size:Nat):Int)>=2 ^ 63 then _ else _) _ _ _;rw[if_neg (by omega)];exact y0 (wpAny_mkInt (y8 ⟨_,rfl,h _ _⟩))
end
def jqf:List V->Hp->VK->Prop:=λxs H Q=>∃a kvs,xs=[V.ref a]/\H a=some (.dT kvs)/\Q (.int kvs.length) H
section
variable{X:Cx}
theorem cLenT:CallR X (.builtin "len") jqf:=by
 skip;intro pins s σ H xs us Q I r h;obtain⟨a,kvs,rfl,ha,q⟩:=h;obtain⟨u,rfl,ru⟩:=j65 r;cases ru;obtain⟨z,hd,xs',rel,o,es,ep,g,c,dt,en,_⟩:=joh I.hok ha;have l1:es.size=xs'.length:=ybb en;have l2:kvs.length=xs'.length:=y40 rel;rw[xo]at z;refine jey hd g c dt (by omega) λt tk=>⟨.int kvs.length,H,I.tok _,⟨t,by rw[l1,<- l2]⟩,q⟩
theorem jm4{kvs:List (List Key×V)}(h:H p=some (.dT kvs))(q:Q (.int kvs.length) H):jqf [.ref p] H Q:=⟨p,kvs,rfl,h,q⟩
end
section
variable{H:Hp}{Q:VK}
theorem jit{b:Addr}{xs zs:List V}(h:H p=some (.lst xs))(hb:H b=some (.lst zs))(hz:xs.length+zs.length<=1000000)(q:∀H',H' p=some (.lst (xs++zs))->But p H H'->Q .non H'):jg1 (.ref p) [.ref b] H Q:=⟨p,b,xs,zs,rfl,rfl,h,hb,by rw[xo];omega,q _ j07 j26⟩
end
inductive IntsE:List (Int×Value)->List Int->Prop
 |nil:IntsE [] []
 |cons {n:Int}{t:Tok}{es:List (Int×Value)}{ns:List Int}:IntsE es ns->IntsE ((hashInt n,.int n t)::es) (n::ns)
theorem IntsE.elems{prog:yy}{w:World}{es:List (Int×Value)}{ns:List Int}(r:IntsE es ns):ElemsOf (intKind prog w) es:=by
 induction r with
 |nil=>intro e he;cases he
 | @cons n t _ _ _ ih=>
  intro e he;skip;rcases xf.mp he with rfl|he
  ·exact⟨⟨n,y8d _ _ _ _,rfl⟩,rfl⟩
  ·exact ih e he
theorem IntsE.find{prog:yy}{w:World}{x:Int}{es:List (Int×Value)}{ns:List Int}(r:IntsE es ns):(x∈ns->∃j,es.findIdx? (λe=>(intKind prog w).is x e.2)=some j)/\(x∉ns->es.findIdx? (λe=>(intKind prog w).is x e.2)=none):=by
 have key:∀(n:Int) (t:Tok),(intKind prog w).is x (.int n t)=true↔n=x:=λn t=>by
  constructor
  ·intro h;exact((intKind prog w).inj _ _ _ h (y8d _ _ _ _)).symm
  ·rintro rfl;exact y8d _ _ _ _
 constructor
 ·intro hx;have:(es.findIdx? (λe=>(intKind prog w).is x e.2)).isSome=true:=by
   rw[List.findIdx?_isSome,y53]
   induction r with
   |nil=>cases hx
   | @cons n t es ns _ ih=>
    skip;rcases xf.mp hx with rfl|hx
    ·exact⟨_,yu,(key _ _).mpr rfl⟩
    ·obtain⟨e,h1,h2⟩:=ih hx;exact⟨e,ym _ h1,h2⟩
  exact y3m.mp this
 ·intro hx;rw[List.findIdx?_eq_none_iff]
  induction r with
  |nil=>intro e he;cases he
  | @cons n t es ns _ ih=>
   intro e he;skip;rcases xf.mp he with rfl|he
   ·exact Bool.eq_false_iff.mpr λz=>hx (by rw[(key _ _).mp z];exact yu)
   ·exact ih (λz=>hx (ym _ z)) e he
theorem IntsE.perm{us vs:List (Int×Value)}(p:us.Perm vs):∀{ns:List Int},IntsE vs ns->∃ms,IntsE us ms/\ms.Perm ns:=by
 induction p with
 |nil=>intro ns r;exact⟨ns,r,ux _⟩
 |cons x _ ih=>
  intro ns r;cases r with
  |cons r=>
   obtain⟨m,a,b⟩:=ih r;exact⟨_,.cons a,b.cons _⟩
 |swap x y l=>
  intro ns r;cases r with
  |cons r=>
   cases r with
   |cons r2=>exact⟨_,.cons (.cons r2),y30 _ _ _⟩
 |trans _ _ i1 i2=>
  intro ns r;obtain⟨m,a,b⟩:=i2 r;obtain⟨m2,a2,b2⟩:=i1 a;exact⟨m2,a2,b2.trans b⟩
theorem jez:∀{l m:List Int},l.Nodup->(∀x∈l,x∈m)->l.length<=m.length
 |[],m,_,_=>gm _
 |x::r,m,nd,h=>by
  obtain⟨h1,h2⟩:=uh.mp nd;have hx:=h x yu;have:=jez (l:=r) (m:=m.erase x) h2 λy hy=>(y2x (show y≠x from λe=>h1 (by rw[<- e];exact hy))).mpr (h y (ym _ hy));rw[y06 hx]at this;have:=y1d hx;rw[yl];omega
variable{t:vp}
theorem jiu{es:Array (Int×Value)}(T:Tab t es)(h:Int):∃r,t.freeSlot h=some ((pth t.mask h r).j,false)/\(pth t.mask h r).j∉t.place.toList/\(pth t.mask h r).j<=t.mask/\∀q,q<r->(pth t.mask h q).j∈t.place.toList:=by
 obtain⟨e0,e1,e2⟩:=T.free;obtain⟨N,m1,m2⟩:=meets T.mask h e1;have hfu:10*y0p t.mask=10*(t.mask+15):=rfl;obtain⟨r,r1,r2,r3⟩:=jcc T.dum T.ris (λ_=>h+1) h (10*y0p t.mask) 0 ⟨N,gm _,by rw[hfu];omega,by rw[m2];exact e2⟩;rcases r3 with⟨n1,n2⟩|⟨_,n2,_⟩
 ·refine⟨r,?_,n1,by have:=j6i t.mask h r;omega,λq hq=>(r2 q (gm _) hq).1⟩;have pe:t.probe (λ_=>h+1) h (t.probeStart h)=some (.empty (pth t.mask h r).j none):=n2;unfold SetTable.freeSlot;rw[pe];rfl
 ·exact absurd n2 (by omega)
theorem jm5{es:Array (Int×Value)}(T:Tab t es)(j:Nat):t.put j=({t with place:=yr t.place (yx t.place j) j},yx t.place j):=by
 unfold yd4;rw[T.dum];have:y64 #[] j=false:=by unfold y64;simp
 rw[this];simp[T.dum]
section
variable{prog:yy}{w:World}{A:gw}{E:Value->ye->Prop}{s:ye}
theorem add_int{S:Addr}{es:Array (Int×Value)}{x:Int}{tx:Tok}{Q:Bool->ye->Prop}(hS:s.heap.get? S=some (stObj es ep t))(T:Tab t es)(hp:t.plain=true)(r:IntsE es.toList ns)(hb:es.size<60)
  (h1:x∈ns->Q false s)
  (h2:x∉ns->∀h' es' t' ep' ns',uv S s.heap h'->h'.get? S=some (stObj es' ep' t')->Tab t' es'->t'.led=t.led->t'.plain=true->IntsE es'.toList ns'->ns'.Perm (x::ns)->Q true {s with heap:=h'}):
  wpAny (model prog w) A (setAddHashed S (.int x tx) ((intKind prog w).hash x)) Q E s:=by
 have hsc:(y2b x tx).scannable=true:=rfl;have hk:(intKind prog w).hash x=hashInt x:=rfl;skip;unfold setAddHashed setAddHashedIn;refine vg (y0 (u9 hS rfl T.fits ?_));dsimp only;rw[byScan_of hsc (by unfold scanBound;omega) (r.elems (prog:=prog) (w:=w)),if_pos rfl];unfold setAddByScan;refine y0 (y0 (y4j (y0 (wpAny_setScan_of (y8d _ _ _ _) hS rfl T.fits r.elems ?_))));by_cases hx:x∈ns
 ·obtain⟨j,hj⟩:=(r.find (prog:=prog) (w:=w)).1 hx;rw[hj];dsimp only;exact y8 (y8 (h1 hx))
 rw[(r.find (prog:=prog) (w:=w)).2 hx];dsimp only;obtain⟨rr,f1,n1,n2,n3⟩:=jiu T ((intKind prog w).hash x);have ip:=j21 es (yx t.place (pth t.mask ((intKind prog w).hash x) rr).j) ((intKind prog w).hash x,y2b x tx);have isz:(yr es (yx t.place (pth t.mask ((intKind prog w).hash x) rr).j) ((intKind prog w).hash x,y2b x tx)).size=es.size+1:=by rw[<- yh,ip.length_eq,yl,yh]
 have pp:=j21 t.place (yx t.place (pth t.mask ((intKind prog w).hash x) rr).j) (pth t.mask ((intKind prog w).hash x) rr).j;have psz:(yr t.place (yx t.place (pth t.mask ((intKind prog w).hash x) rr).j) (pth t.mask ((intKind prog w).hash x) rr).j).size=es.size+1:=by rw[<- yh,pp.length_eq,yl,yh,T.size]
 have fit:({t with place:=yr t.place (yx t.place (pth t.mask ((intKind prog w).hash x) rr).j) (pth t.mask ((intKind prog w).hash x) rr).j}:vp).fits (es.size+1)=true:=by
  have:=T.room;unfold y9k y5k;show((yr t.place _ _).size==_&&decide ((yr t.place _ _).size+t.dummies.size<=t.mask))=true;rw[psz,T.dum,uu,beq_iff_eq,decide_eq_true_iff];have z:(#[]:Array Nat).size=0:=rfl;refine⟨rfl,?_⟩;rcases T.mask with h|h|h<;>omega
 have lay:layNew t es ((intKind prog w).hash x) (.int x tx)=(yr es (yx t.place (pth t.mask ((intKind prog w).hash x) rr).j) ((intKind prog w).hash x,y2b x tx),{t with place:=yr t.place (yx t.place (pth t.mask ((intKind prog w).hash x) rr).j) (pth t.mask ((intKind prog w).hash x) rr).j},false,false):=by
  unfold layNew;rw[f1];dsimp only;rw[jm5 T];dsimp only;unfold SetTable.orStandIn;rw[isz,fit,if_pos rfl];rfl
 rw[lay];dsimp only;refine y0 (y8 ?_);rw[if_pos hp,hashByValue_scannable 8 hsc];refine y0 (y8 ?_);rw[show plainKind (y2b x tx)=true from rfl,if_pos rfl];refine y0 (y4k hS rfl ?_ (by rw[isz,xo];omega));obtain⟨t1,ht⟩:∃t1:vp,{t with place:=yr t.place (yx t.place (pth t.mask ((intKind prog w).hash x) rr).j) (pth t.mask ((intKind prog w).hash x) rr).j}=t1:=⟨_,rfl⟩
 obtain⟨es1,he⟩:∃es1,yr es (yx t.place (pth t.mask ((intKind prog w).hash x) rr).j) ((intKind prog w).hash x,y2b x tx)=es1:=⟨_,rfl⟩
 have pt:=λhr=>jgf (x:=y2b x tx) T n1 n2 n3 hr;rw[ht]at fit pt;rw[he]at ip isz pt;rw[ht,he];have o1:(s.heap.update S (ya0 es1 t1)).get? S=some (stObj es1 (ep+1) t1):=vw _ hS rfl;have s1:uv S s.heap (s.heap.update S (ya0 es1 t1)):=y03 ..;have l1:t1.led=t.led:=by rw[<- ht]
 have p1:t1.plain=true:=by rw[<- ht];exact hp
 have tf:t1.tooFull=decide ((es.size+1)*5>=t.mask*3):=by
  rw[<- ht];unfold yat y5k;show decide (((yr t.place _ _).size+t.dummies.size)*5>=t.mask*3)=_;rw[psz,T.dum];rfl
 obtain⟨ns1,r1,pm1⟩:=IntsE.perm ip (.cons r);by_cases full:(es.size+1)*5>=t.mask*3
 ·rw[tf,decide_eq_true full,if_pos (by decide)];obtain⟨m',hm',wn,rm⟩:∃m',Msk m'/\y65 (y8s (es.size+1))=m'+1/\(es.size+1)*5<m'*3:=by
   have:=T.room;rcases T.mask with h|h|h
   ·have hn:es.size=4:=(by omega);exact⟨31,.inr (.inl rfl),by rw[hn];decide +kernel,by omega⟩
   ·have hn:es.size=18:=(by omega);exact⟨127,.inr (.inr rfl),by rw[hn];decide +kernel,by omega⟩
   ·omega
  rw[isz];obtain⟨t2,ord,q1,q2,q3,q4,q5,q6,q7⟩:=j9a (t:=t1) (es:=es1) hm' wn (by rw[isz];exact rm);have rel:relayAll t1 es1 (y8s (es.size+1))=(ord.filterMap (es1[·]?),t2,false):=by
   unfold relayAll;rw[q1];dsimp only;have c1:coversAll ord es1.size=true:=by unfold coversAll;rw[List.isPerm_iff];exact q7
   rw[c1,q4.fits,if_pos (by decide)]
  rw[rel];dsimp only;refine y0 (y8 ?_);refine y0 (y4k o1 rfl ?_ (by rw[q2,isz,xo];omega));obtain⟨ns2,r2,pm2⟩:=IntsE.perm q3 r1;exact y8 (y8 (h2 hx _ _ t2 _ ns2 (s1.trans (y03 ..)) (vw _ o1 rfl) q4 (q5.trans l1) (q6.trans p1) r2 (pm2.trans pm1)))
 ·rw[tf,decide_eq_false full,if_neg (by decide)];exact y8 (y8 (h2 hx _ _ t1 _ ns1 s1 o1 (pt (by omega)) l1 p1 r1 pm1))
end
section
variable{X:Cx}
theorem jad:∀{ks:List Int},ks.Nodup->ks.Pairwise (·<=·)->ks.Pairwise (· < ·):=λn p=>(p.and n).imp λ{a b} h=>by have:=h.1;have:=h.2;omega
end
section
variable{X:Cx}
open Classical in
end
section
variable{X:Cx}
def rLIxS:V->List V->Hp->VK->Prop:=λx vs H Q=>∃(l:Addr) (ss:List Str) (k:Str),x=.ref l/\vs=[.str k]/\H l=some (.lst (ss.map V.str))/\k∈ss/\ss.length<=1000000/\Q (.int (ss.idxOf k:Nat)) H
theorem j3t:MtM X "list.index" rLIxS:=by
 intro pins s σ H x vs v us Q I rx rv h;obtain⟨l,ss,k,rfl,rfl,hH,hk,hz,q⟩:=h;cases rx;obtain⟨u,rfl,t,rfl⟩:=rv.one;obtain⟨z,its,n,r,hl,e⟩:=I.lstM hH;have hn:=r.length;rw[y3]at hn;have hj:ss.idxOf k<ss.length:=y05.mpr hk;have at_:∀(m:Nat) (hm:m<its.toArray.size),isS k its.toArray[m]=(ss[m]'(by rw[yj]at hm;omega)==k):=λm hm=>by
  have hm':m<its.length:=by rw[yj]at hm;exact hm
  obtain⟨z,t',h1,h2⟩:=j6d r m its[m] (y4 hm');rw[y4 (show m<ss.length by omega)]at h1;have h2':its.toArray[m]=.str z t':=by simpa using h2
  rw[h2'];injection h1 with h1;rw[h1];rfl
 refine y4h F.slot_list_index ⟨_,e,rfl⟩ F.entry_list_index (F.args_list_index_2 _ _) (SeqAt.list_indexAt l its.toArray n none #[] (.str k t) (isS k) (ss.idxOf k) (by rw[yj];omega) (by omega) ?a ?b) ⟨e,?c,?d⟩
 case a=>rw[at_,y1m hj];exact beq_self_eq_true k
 case b=>
  intro m h1 h2;rw[at_];exact y4a h2
 case c=>
  intro y hy;obtain⟨m,hm,e⟩:=vc (show y∈its by simpa using hy);obtain⟨z,t',_,h2⟩:=j6d r m y (by rw[<- e];exact y4 hm);rw[h2];exact y45 z t' k t
 case d=>exact⟨.int (ss.idxOf k:Nat),H,I.tok _,⟨_,rfl⟩,q⟩
theorem j5j{ss:List Str}{k:Str}(h:H p=some (.lst (ss.map V.str)))(hk:k∈ss)(hz:ss.length<=1000000)(q:Q (.int (ss.idxOf k:Nat)) H):rLIxS (.ref p) [.str k] H Q:=⟨p,ss,k,rfl,rfl,h,hk,hz,q⟩
theorem j6k(h:H p=some (.tup (ns.map V.int)))(hl:ns.length<64)(q:∀l (ns':List Int) H',H l=none->ns'.Perm ns->ns'.Pairwise (·<=·)->H' l=some (.lst (ns'.map V.int))->Ext H H'->Q (.ref l) H'):jbw K [.ref p] H Q:=.inl (jei h hl q)
end
end L2
set_option Elab.async false
set_option linter.all false
set_option maxRecDepth 100000
set_option maxHeartbeats 4000000
namespace L2
open PySem PySem.Spec PyProof.Rows PySem.W
theorem jm6{K:y9}{H:Hp}{Q:VK}{p:Addr}{ns:List Int}(h:H p=some (.lst (ns.map V.int)))(hl:ns.length<64)(q:∀l (ns':List Int) H',H l=none->ns'.Perm ns->ns'.Pairwise (·<=·)->H' l=some (.lst (ns'.map V.int))->Ext H H'->Q (.ref l) H'):jbw K [.ref p] H Q:=.inl (jeh h hl q)
def FnN(K:y9)(x:Str)(st:Stmt)(f:Addr):Prop:=y63 K mainGlobals x=some (some (.ref f))/\∃fd,Fun K x x st f fd
def FnM(K:y9)(C:Addr)(x q:Str)(st:Stmt)(f:Addr):Prop:=gc K (.ref C) x=some (some (.ref f))/\∃fd,Fun K x q st f fd
def NsC(K:y9)(x:Str)(C:Addr):Prop:=y63 K mainGlobals x=some (some (.ref C))
def NsB(K:y9)(x:Str):Prop:=y63 K mainGlobals x=some none
theorem Fun.one{K:y9}{x qual:Str}{st:Stmt}{f:Addr}{fd:xi}{n:Str}(F:Fun K x qual st f fd)
  (h:∀(kV doc pm:Value) (an:Option Addr) (cdv ct:Value) (s:ye) (v:Value),bindArgs (ut x qual (j1k st) (j1d st) (j05 st) .none kV doc pm an cdv ct) ⟨[v],[]⟩=pure [(n,v)]) (s:ye) (v:Value):y6r s fd ⟨[v],[]⟩ [(n,v)]:=by
 obtain⟨oc,od,kV,doc,pm,an,cdv,ct,osl,rfl,lk,hcd⟩:=F.ex;exact .of_eq (h kV doc pm an cdv ct s v)
section
variable{X:Cx}
def iOr2(t u:TI):TI:=λσ H R=>t σ H R\/u σ H R
theorem jm7{tg e:Expr}{t u:TI}(h1:PI X tg e t)(h2:PI X tg e u):PI X tg e (iOr2 t u):=λpins s σ H R I h=>h.elim (λz=>h1 pins s σ H R I z) λz=>h2 pins s σ H R I z
end
abbrev KU:=Key ⊕ List Key
def KU.tup:KU->Bool
 | .inl _=>false
 | .inr _=>true
def KAt(H:Hp):KU->V->Prop
 | .inl k,v=>v=kV k
 | .inr ks,v=>∃b,v=.ref b/\H b=some (.tup (ks.map kV))
def upK{α:Type}(f:α->KU)(kvs:List (α×V)):List (KU×V):=kvs.map λkv=>(f kv.1,kv.2)
inductive DU:HO->Bool->List (KU×V)->Prop
 |k (kvs:List (Key×V)):DU (.dK kvs) false (upK .inl kvs)
 |t (kvs:List (List Key×V)):DU (.dT kvs) true (upK .inr kvs)
theorem jiv{α:Type}[DecidableEq α]{f:α->KU}(inj:∀a b,f a=f b->a=b)(k:α):∀kvs:List (α×V),valV (upK f kvs) (f k)=valV kvs k
 |[]=>rfl
 |(a,v)::r=>by
  by_cases e:a=k
  ·rw[e,j2b rfl];exact j2b (p:=(f k,v)) rfl
  ·rw[j2c (p:=(a,v)) e,<- jiv inj k r];exact j2c (p:=(f a,v)) (λz=>e (inj _ _ z))
theorem jm8{α:Type}[DecidableEq α]{f:α->KU}(inj:∀a b,f a=f b->a=b)(k:α):∀kvs:List (α×V),((upK f kvs).any λkv=>decide (kv.1=f k))=kvs.any λkv=>decide (kv.1=k)
 |[]=>rfl
 |(a,v)::r=>by
  have ih:=jm8 inj k r;show(decide (f a=f k)||(upK f r).any _)=(decide (a=k)||r.any _)
  rw[ih,decide_eq_decide.mpr ⟨inj a k,λz=>z ▸ rfl⟩]
theorem jm9{α:Type}[DecidableEq α]{f:α->KU}(inj:∀a b,f a=f b->a=b)(k:α)(v:V)(kvs:List (α×V)):putK (upK f kvs) (f k) v=upK f (putK kvs k v):=by
 unfold putK;rw[jm8 inj];split
 ·unfold upK;skip;rw[xx,xx];refine y3g λkv _=>?_;show(if f kv.1=f k then(f kv.1,v)else(f kv.1,kv.2))=(λkv:α×V=>(f kv.1,kv.2)) (if kv.1=k then(kv.1,v)else kv)
  by_cases e:kv.1=k
  ·rw[if_pos e,if_pos (by rw[e])]
  ·rw[if_neg e,if_neg (λz=>e (inj _ _ z))]
 ·unfold upK;rw[xh];rfl
theorem jiw(a b:Key)(h:(y23 a:KU)=.inl b):a=b:=by injection h
theorem jf0(a b:List Key)(h:(y2l a:KU)=.inr b):a=b:=by injection h
section
variable{K:y9}{σ:St}{H:Hp}{Q:VK}{p:Addr}{T:Bool}{u:HO}{kvs:List (KU×V)}{k:KU}{x v:V}
theorem KAt.get(h:KAt H k x)(hd:Rd H p u)(du:DU u T kvs)(kt:k.tup=T):DGet H p x (valV kvs k):=by
 cases du with
 |k kv=>
  cases k with
  |inl k=>exact .inl ⟨kv,k,hd,h,by rw[jiv jiw]⟩
  |inr k=>cases kt
 |t kv=>
  cases k with
  |inl k=>cases kt
  |inr k=>obtain⟨b,h1,h2⟩:=h;exact .inr ⟨kv,k,b,hd,h1,h2,by rw[jiv jf0]⟩
theorem r_ninU(hd:Rd H p u)(du:DU u T kvs)(kt:k.tup=T)(hk:KAt H k x)(q:Q (.bl (!(valV kvs k).isSome)) H):rNinK x (.ref p) H Q:=⟨p,_,rfl,hk.get hd du kt,q⟩
theorem j9b(hd:Rd H p u)(du:DU u T kvs)(kt:k.tup=T)(hk:KAt H k x)(e:valV kvs k=some v)(q:Q v H):rDGet (.ref p) x H Q:=⟨p,v,rfl,by have:=hk.get hd du kt;rw[e]at this;exact this,q⟩
theorem jcq{R:Hp->Prop}(h:H p=some u)(du:DU u T kvs)(kt:k.tup=T)(hk:KAt H k x)(hl:kvs.length<1000000)(q:∀H' u',H' p=some u'->DU u' T (putK kvs k v)->But p H H'->R H'):rDPut (.ref p) x v H R:=by
 cases du with
 |k kv=>
  cases k with
  |inl k=>
   rw[jm9 jiw]at q;cases hk;exact⟨p,_,rfl,DPut.k (k:=k) h (by rw[xo];rw[upK,y3]at hl;omega),q _ _ j07 (.k _) j26⟩
  |inr k=>cases kt
 |t kv=>
  cases k with
  |inl k=>cases kt
  |inr k=>
   rw[jm9 jf0]at q;obtain⟨b,rfl,h2⟩:=hk;exact⟨p,_,rfl,DPut.t h h2 (by rw[xo];rw[upK,y3]at hl;omega),q _ _ j07 (.t _) j26⟩
def rLenU:List V->Hp->VK->Prop:=λxs H Q=>jqc xs H Q\/jqf xs H Q
theorem r_lenU(h:H p=some u)(du:DU u T kvs)(q:Q (.int kvs.length) H):rLenU [.ref p] H Q:=by
 cases du with
 |k kv=>exact .inl (r_lenK h (by rw[upK,y3]at q;exact q))
 |t kv=>exact .inr (jm4 h (by rw[upK,y3]at q;exact q))
theorem jma(T:Bool)(q:∀p H' u,H p=none->H' p=some u->DU u T []->Ext H H'->Q (.ref p) H'):tOr2 jhh jhi σ H Q:=by
 cases T with
 |false=>exact .inl (jkv λp H' n h e=>q p H' _ n h (.k []) e)
 |true=>exact .inr (jm3 λp H' n h e=>q p H' _ n h (.t []) e)
theorem jix(h:H p=some u)(du:DU u T kvs)(q:∀o H',H' p=some (.frz o u)->But p H H'->Q (.ref p) H'):rFrz (.ref p) H Q:=by
 cases du with
 |k kv=>exact r_frzK h q
 |t kv=>exact r_frzT h q
def jmb:Bool->Addr->V->V->Hp->VK->Prop
 |false,p,x,v,H,Q=>jly p x v H Q
 |true,p,x,v,H,Q=>jex p [(x,v)] H Q
theorem jmc(T:Bool){tk tv:TE}(q:∀p H' u,H p=none->H' p=some u->DU u T []->Ext H H'->tk σ H' λx H2=>tv σ H2 λv H3=>jmb T p x v H3 Q):tOr2 (jok [(tk,tv)]) (jiq tk tv) σ H Q:=by
 cases T with
 |false=>exact .inl (jlz λp H' n h e=>q p H' _ n h (.k []) e)
 |true=>exact .inr (jm2 λp H' n h e=>q p H' _ n h (.t []) e)
theorem jiy(h:H p=some u)(du:DU u T [])(kt:k.tup=T)(hk:KAt H k x)(q:∀H' u',H' p=some u'->DU u' T [(k,v)]->But p H H'->Q (.ref p) H'):jmb T p x v H Q:=by
 generalize hn:([]:List (KU×V))=kvs at du;cases du with
 |k kv=>
  cases kv with
  |cons a b=>cases hn
  |nil=>
   cases k with
   |inl k=>
    cases hk;exact⟨h,[(k,v)],rfl,by show 1<=15;decide,q _ _ j07 (.k [(k,v)]) j26⟩
   |inr k=>cases kt
 |t kv=>
  cases kv with
  |cons a b=>cases hn
  |nil=>
   cases k with
   |inl k=>cases kt
   |inr k=>
    obtain⟨b,rfl,h2⟩:=hk;exact jis h h2 λH' q1 q2=>q _ _ q1 (.t [(k,v)]) q2
def ItdU:Bool->Addr->Obj->It
 |false=>ItdK
 |true=>ItdT
def rIU(T:Bool)(x:V)(H:Hp)(R:It->Hp->Prop):Prop:=∃a o u kvs,x=.ref a/\H a=some (.frz o u)/\DU u T kvs/\R (ItdU T a o) H
end
section
variable{a:Addr}{o:Obj}{g:TG}{tb:TS}{D:Ends}{σ:St}{H:Hp}{T:Bool}{u:HO}{kvs:List (KU×V)}
theorem r_iU(T:Bool){tl:TE}{R:It->Hp->Prop}(mo:∀{P P':VK},(∀v H,P v H->P' v H)->tl σ H P->tl σ H P')(q:tl σ H λx H1=>rIU T x H1 R):iOr2 (iDK tl) (iDT tl) σ H R:=by
 cases T with
 |false=>
  refine .inl (r_idK (mo (λx H1 ⟨a,o,u,kvs,h1,h2,h3,h4⟩=>?_) q));cases h3;exact⟨a,o,_,h1,h2,h4⟩
 |true=>
  refine .inr (r_idT (mo (λx H1 ⟨a,o,u,kvs,h1,h2,h3,h4⟩=>?_) q));cases h3;exact⟨a,o,_,h1,h2,h4⟩
theorem for_U(du:DU u T kvs)(Pv:Nat->St->Hp->Prop)(h0:Pv 0 σ H)(hl:∀i σ H,i<=kvs.length->Pv i σ H->H a=some (.frz o u))
  (hs:∀i kv x σ H,kvs[i]?=some kv->KAt H kv.1 x->Pv i σ H->g x σ H λσ2 H2=>tb {D with nx:=Pv (i+1),ct:=Pv (i+1),bk:=D.nx} σ2 H2) (hd:∀σ H,Pv kvs.length σ H->D.nx σ H):
  ∃W:Nat->Nat->St->Hp->Prop,(∃m,W 0 m σ H)/\∀i m σ H,W i m σ H->
   ((ItdU T a o).stop i H/\D.nx σ H)\/((ItdU T a o).go i H/\∃N:St->Hp->Prop,(∀σ' H',N σ' H'->∃m',m'<m/\W (i+1) m' σ' H')/\∀x H',(ItdU T a o).yld i H x H'->g x σ H' λσ2 H2=>tb {D with nx:=N,ct:=N,bk:=D.nx} σ2 H2):=by
 cases du with
 |k kv=>
  have e:(upK .inl kv).length=kv.length:=y3 ..;rw[e]at hl hd;refine for_dK Pv h0 hl (λi z σ H hz pv=>hs i (.inl z.1,z.2) _ σ H ?_ rfl pv) hd;rw[upK,xc,hz];rfl
 |t kv=>
  have e:(upK .inr kv).length=kv.length:=y3 ..;rw[e]at hl hd;refine for_dT Pv h0 hl (λi z b σ H hz hb pv=>hs i (.inr z.1,z.2) _ σ H ?_ ⟨b,rfl,hb⟩ pv) hd;rw[upK,xc,hz];rfl
theorem comp_U{ts:List TT}{te:TE}{acc:Addr}{fr:St}{H1:Hp}{R:Hp->Prop}{w:Option V}(du:DU u T kvs)(hx:H1 a=some (.frz o u))(hz:kvs.length<=1000000)(hn:H1 acc=none)(Pv:Nat->List V->Hp->Prop)(h0:Pv 0 [] H1)(kp:∀i ys H H',Kp H H'->Pv i ys H->Pv i ys H')(len:∀i ys H,i<=kvs.length->Pv i ys H->ys.length<=i)
  (turn:∀i kv x ys H,kvs[i]?=some kv->KAt H kv.1 x->Ext H1 H->Pv i ys H->j6c ts te (Pv (i+1)) ys H (some x::fr) H)
  (fin:∀ys H,Ext H1 H->H acc=some (.lst ys)->Pv kvs.length ys H->R H):j8w (ItdU T a o) (j8k 0) ts te acc (w::fr) H1 R:=by
 cases du with
 |k kv=>
  have e:(upK .inl kv).length=kv.length:=y3 ..;rw[e]at hz len fin;refine jlw hx hz hn Pv h0 kp len (λi z ys H hz e pv=>turn i (.inl z.1,z.2) _ ys H ?_ rfl e pv) fin;rw[upK,xc,hz];rfl
 |t kv=>
  have e:(upK .inr kv).length=kv.length:=y3 ..;rw[e]at hz len fin;refine jlx hx hz hn Pv h0 kp len (λi z b ys H hz hb e pv=>turn i (.inr z.1,z.2) _ ys H ?_ ⟨b,rfl,hb⟩ e pv) fin;rw[upK,xc,hz];rfl
end
theorem jf1{X:Cx}{o e f:Expr}{apos cpos:Pos}{td ty tx:TE}{k:Nat}(hr:Room k X.A)(ho:PE X o td)(he:PE X e ty)(hf:PE X f tx)(m:M2 X o "get" apos e f cpos):PE X (.Call (.Attribute o "get" apos) [e,f] [] cpos) (jhj td ty tx):=jhk (by have:=hr.un;omega) ho he hf m
theorem jmd{σ:St}{H:Hp}{Q:VK}{td ty tx:TE}(q:td σ H λx H1=>∃a,x=.ref a/\IsD H1 a/\ty σ H1 λy H2=>tx σ H2 λz H3=>∃o,DGet H3 a y o/\Q (o.getD z) H3):jhj td ty tx σ H Q:=q
theorem DU.isD{H:Hp}{p:Addr}{u:HO}{T:Bool}{kvs:List (KU×V)}(du:DU u T kvs)(h:Rd H p u):IsD H p:=by
 cases du with
 |k kv=>exact .inl ⟨kv,h⟩
 |t kv=>exact .inr ⟨kv,h⟩
theorem cLenU{X:Cx}:CallR X (.builtin "len") rLenU:=cLenK.or cLenT
def jiz(v:Value):Prop:=(∃n t,v=.int n t)\/∃n t,v=.str n t
variable{ks:List Key}{a:Addr}{Q:Bool->ye->Prop}
section
variable{prog:yy}{w:World}{A:gw}{E:Value->ye->Prop}{s:ye}
theorem j9c{ks:List Key}{vs:List Value}(h:ItemsAre (j0h prog w) ks vs):∀v∈vs,jiz v:=by
 induction h with
 |nil=>exact λv hv=>by simp at hv
 | @cons k v' ks vs h1 _ ih=>
  intro v hv;skip;rcases xf.mp hv with rfl|hv
  ·cases k with
   |inl n=>obtain⟨t,e⟩:=jlv (k:=.inl n) h1;exact .inl ⟨_,t,e⟩
   |inr n=>obtain⟨t,e⟩:=jlv (k:=.inr n) h1;exact .inr ⟨_,t,e⟩
  ·exact ih v hv
theorem jme(hk:y0t (j0h prog w) s.heap ks a)(h:∀b,Q b s):wpAny (model prog w) A (hashByValue 8 (.ref a)) Q E s:=by
 have hT:=hk.typeIs;skip;obtain⟨o,items,n,ho,_,hd,hi⟩:=hk;unfold hashByValue;refine y0 (y5s hT PySem.F.slot_tuple_hash.lookup ?_);dsimp only;skip;refine y0 (y00 ho hd ?_);refine y0 ?_;skip;show wpAny _ _ (forIn items _ _) _ _ s;rw[<- y98];refine y59 _ (λrest r s'=>r.1=none/\s'=s/\∀v∈rest,jiz v) _ ?_ ?_ _ _ ⟨rfl,rfl,j9c hi⟩
 ·rintro v rest r s' ⟨hr,rfl,all⟩;rcases all v yu with⟨m,t,rfl⟩|⟨m,t,rfl⟩
  ·refine y0 (m:=hashByValue 7 (.int m t)) (y0g (a:=true) (by unfold hashByValue;rfl) ?_);skip;simp only[y3r,vi,if_false];exact y8 ⟨rfl,rfl,λu hu=>all u (ym _ hu)⟩
  ·refine y0 (m:=hashByValue 7 (.str m t)) (y0g (a:=false) (by unfold hashByValue;rfl) ?_);skip;simp only[y8o,if_true];exact y8 (y8 (h false))
 ·skip;rintro⟨r1,r2⟩ s' ⟨hr,rfl,_⟩;simp only at hr;subst hr;exact y8 (h true)
theorem jh3(hk:y0t (j0h prog w) s.heap ks a)(h:Q false s):wpAny (model prog w) A (ofAClassStatement 8 (.ref a)) Q E s:=by
 have hT:=hk.typeIs;skip;obtain⟨o,items,n,ho,_,hd,hi⟩:=hk;unfold ofAClassStatement;refine y0 (y28 (T:="tuple") hT ?_);dsimp only;rw[if_pos (by decide)];refine y0 (y8 ?_);skip;simp only[y3r,vi,if_false];skip;refine y0 (y00 ho hd ?_);refine y0 ?_;skip;show wpAny _ _ (forIn items _ _) _ _ s;rw[<- y98];refine y59 _ (λrest r s'=>r.1=none/\s'=s/\∀v∈rest,jiz v) _ ?_ ?_ _ _ ⟨rfl,rfl,j9c hi⟩
 ·rintro v rest r s' ⟨hr,rfl,all⟩;obtain⟨u,hu⟩:∃u,ofAClassStatement 7 v=u/\u=pure false:=⟨_,rfl,by rcases all v yu with⟨m,t,rfl⟩|⟨m,t,rfl⟩<;>(unfold ofAClassStatement;rfl)⟩
  refine y0 (m:=ofAClassStatement 7 v) (y0g (a:=false) (hu.1.trans hu.2) ?_);skip;simp only[vi,if_false];exact y8 ⟨rfl,rfl,λu hu=>all u (ym _ hu)⟩
 ·skip;rintro⟨r1,r2⟩ s' ⟨hr,rfl,_⟩;simp only at hr;subst hr;exact y8 h
theorem jf2(hk:y0t (j0h prog w) s.heap ks a){l:List Value}(hl:∀y∈l,∃b M,y=.ref b/\y0t (j0h prog w) s.heap M b)(h:Q false s):wpAny (model prog w) A (searchCouldBeSeen (.ref a) l) Q E s:=by
 unfold searchCouldBeSeen;refine y0 ?_;refine y59 _ (λrest r s'=>r.1=none/\s'=s/\∀y∈rest,∃b M,y=.ref b/\y0t (j0h prog w) s.heap M b) _ ?_ ?_ _ _ ⟨rfl,rfl,hl⟩
 ·rintro y rest r s' ⟨hr,rfl,all⟩;obtain⟨b,M,rfl,hb⟩:=all y yu;have fin:∀u∈rest,∃b M,u=.ref b/\y0t (j0h prog w) s'.heap M b:=λu hu=>all u (ym _ hu);dsimp only;by_cases e:(a==b)=true
  ·rw[e];simp only[ycu,if_true];exact y8 ⟨rfl,rfl,fin⟩
  ·rw[y7a]at e;rw[e];rw[if_neg (by simp[carriedByValue])];refine y0 (y87 hk ?_);skip;simp only[y3r,vi,if_false];refine y0 (y87 hb ?_);skip;simp only[y3r,vi,if_false];refine y0 (jh3 hk ?_);skip;simp only[vi,if_false];refine y0 (jh3 hb ?_);skip;simp only[vi,if_false];exact y8 ⟨rfl,rfl,fin⟩
 ·skip;rintro⟨r1,r2⟩ s' ⟨hr,rfl,_⟩;simp only at hr;subst hr;exact y8 h
end
inductive All2{α β:Type}(R:α->β->Prop):List α->List β->Prop
 |nil:All2 R [] []
 |cons {a:α}{b:β}{as:List α}{bs:List β}:R a b->All2 R as bs->All2 R (a::as) (b::bs)
section
variable{α β γ:Type}{R:α->β->Prop}{as us:List α}{bs:List β}
theorem All2.length(r:All2 R as bs):as.length=bs.length:=by
 induction r with
 |nil=>rfl
 |cons _ _ ih=>simp[ih]
theorem All2.imp{R':α->β->Prop}(k:∀{a b},R a b->R' a b)(r:All2 R as bs):All2 R' as bs:=by
 induction r with
 |nil=>exact .nil
 |cons x _ ih=>exact .cons (k x) ih
theorem All2.map{f:α->γ}{R':γ->β->Prop}(k:∀{a b},R a b->R' (f a) b)(r:All2 R as bs):All2 R' (as.map f) bs:=by
 induction r with
 |nil=>exact .nil
 |cons x _ ih=>exact .cons (k x) ih
theorem All2.at(r:All2 R as bs):∀{i:Nat}{a:α},as[i]?=some a->∃b,bs[i]?=some b/\R a b:=by
 induction r with
 |nil=>exact λh=>by simp at h
 | @cons a b as bs x _ ih=>
  intro i c h;cases i with
  |zero=>exact⟨b,rfl,by simp at h;rw[<- h];exact x⟩
  |succ i=>simpa using ih (i:=i) (by simpa using h)
theorem All2.perm(p:us.Perm as):∀{bs:List β},All2 R as bs->∃cs,All2 R us cs/\cs.Perm bs:=by
 induction p with
 |nil=>intro bs r;exact⟨bs,r,ux _⟩
 |cons x _ ih=>
  intro bs r;cases r with
  |cons e r=>
   obtain⟨m,a,b⟩:=ih r;exact⟨_,.cons e a,b.cons _⟩
 |swap x y l=>
  intro bs r;cases r with
  |cons e r=>
   cases r with
   |cons e2 r2=>exact⟨_,.cons e2 (.cons e r2),y30 _ _ _⟩
 |trans _ _ i1 i2=>
  intro bs r;obtain⟨m,a,b⟩:=i2 r;obtain⟨m2,a2,b2⟩:=i1 a;exact⟨m2,a2,b2.trans b⟩
theorem All2.pick(r:All2 R as bs)(d:α)(e:β):∀l:List Nat,(∀i∈l,i<as.length)->All2 R (l.map λi=>as.getD i d) (l.map λi=>bs.getD i e)
 |[],_=>.nil
 |i::l,h=>by
  obtain⟨b,h1,h2⟩:=r.at (y4 (h i yu))
  rw[xm,xm];refine .cons ?_ (All2.pick r d e l λj hj=>h j (ym _ hj));rw[yd,yd,h1,y4 (h i yu)];exact h2
end
def TupK(h0 h:Heap):Prop:=∀b o,o.cls=.type "tuple"->h0.get? b=some o->h.get? b=some o
def SetG{τ:Type}(w:World)(Pl:vp->Prop)(R:Int×Value->τ->Prop)(h:Heap)(S:Addr)(Ms:List τ):Prop:=
 ∃es ep t,h.get? S=some (stObj es ep t)/\Tab t es/\t.led=(!byT w)/\Pl t/\All2 R es.toList Ms/\Ms.Nodup
def Puts(prog:yy)(w:World)(A:gw){τ:Type}(Pl:vp->Prop)(R:Int×Value->τ->Prop)(Vv:Value->τ->Prop)(h0:Heap):Prop:=
 ∀{E:Value->ye->Prop}{s:ye}{S:Addr}{es:Array (Int×Value)}{ep:Nat}{t:vp}{Ms:List τ}{v:Value}{x:τ}{Q:Bool->ye->Prop},
  s.heap.get? S=some (stObj es ep t)->Tab t es->Pl t->All2 R es.toList Ms->es.size<60->Vv v x->TupK h0 s.heap->
  (x∈Ms->∀tk,s.toks<=tk->Q false {s with toks:=tk})->
  (x∉Ms->∀tk h' es' t' ep' Ms',s.toks<=tk->uv S s.heap h'->h'.get? S=some (stObj es' ep' t')->Tab t' es'->t'.led=t.led->Pl t'->All2 R es'.toList Ms'->Ms'.Perm (x::Ms)->Q true {s with heap:=h',toks:=tk})->
  wpAny (model prog w) A (setAdd S v) Q E s
section
variable{w:World}{prog:yy}{A:gw}{τ:Type}{Pl:vp->Prop}{R:Int×Value->τ->Prop}{Vv:Value->τ->Prop}
variable{Z:yb6->ye->Prop}{I:Addr}{fp wr:List Addr}{G:Array y6u->Array y6u->Prop}{n:Nat}{P:Nat->Value->Prop}{St:Nat->ye->Prop}
theorem j9d{h0:Heap}(hput:Puts prog w A.in1 Pl R Vv h0)(W:WalksS prog w A.in1 I fp wr G n P St)(S:Addr)(hSf:S∉fp)(xs:List τ)(hn:xs.length=n)(few:∀(i:Nat) (Ms:List τ),i<n->Ms.Nodup->(∀y∈Ms,y∈xs.take i)->Ms.length<60)(hrow:∀i v,P i v->∃x,xs[i]?=some x/\Vv v x)
  (hnt:∀b o,b∈S::wr->h0.get? b=some o->o.cls≠.type "tuple"):
  ∀(k i:Nat) (s:ye) (Ms:List τ),n-i=k->i<=n->St i s->TupK h0 s.heap->SetG w Pl R s.heap S Ms->(∀y,y∈Ms↔y∈xs.take i)->
   (∀s' Ms',Moved (S::wr) G s s'->SetG w Pl R s'.heap S Ms'->(∀y,y∈Ms'↔y∈xs)->Z (.ok (.ret .none)) s')->
   codeAny (model prog w) A (yad "set.update.loop" ⟨[.ref S,.ref I],[]⟩) Z s:=by
 skip;have hSw:S∉wr:=λh=>hSf (W.sub _ h);have sub2:∀b∈wr,b∈S::wr:=λb hb=>ym _ hb;intro k
 induction k with
 |zero=>
  intro i s Ms hk hi hst hT hS hM hR;obtain rfl:i=n:=by omega
  refine y0d y36 ?_;rw[y0h uy _];show wpAny _ A.in1 (pyNext (.ref I) >>= _) _ _ s;refine y0 (W.done s _ _ hst λs' hm=>?_);obtain⟨es,ep,t,g,r⟩:=hS;exact y8 (hR s' Ms (hm.mono sub2) ⟨es,ep,t,hm.heap S _ hSw g,r⟩ (by rw[<- hn,vk]at hM;exact hM))
 |succ k ih=>
  intro i s Ms hk hi hst hT hS hM hR;have hlt:i<n:=by omega
  refine y0d y36 ?_;rw[y0h uy _];show wpAny _ A.in1 (pyNext (.ref I) >>= _) _ _ s;refine y0 (W.item i s _ _ hlt hst λv s' hP hst' hm=>?_);obtain⟨x,ex,hv⟩:=hrow i v hP;obtain⟨es,ep,t,g,T,l,pl,r,nd⟩:=hS;have hT':TupK h0 s'.heap:=λb o c e=>hm.heap b o (λz=>hnt b o (ym _ z) e c) (hT b o c e);have g':=hm.heap S _ hSw g;have rl:=r.length;rw[yh]at rl;have tk:xs.take (i+1)=xs.take i++[x]:=by rw[xj,ex];rfl
  have fw:=few i Ms hlt nd λy hy=>(hM y).mp hy;show wpAny _ A.in1 (holding [v] (setAdd S v) >>= _) _ _ s';refine y0 (vg (hput g' T pl r (by omega) hv hT' (λhin tk' ht'=>?_) (λhno tk' h' es' t' ep' Ms' ht' sb g2 T2 l2 pl2 r2 pm2=>?_)))
  ·refine y8 ⟨y2u uy _,ih (i+1) _ Ms (by omega) hlt (W.frame _ s' _ _ hst' ht' λb hb o e=>e) hT' ⟨es,ep,t,g',T,l,pl,r,nd⟩ (λy=>?_) λs'' Ms' hm'' hS'' hM''=>?_⟩
   ·rw[tk,x0,yb,hM];exact⟨.inl,λz=>z.elim id λe=>by rw[e,<- hM];exact hin⟩
   ·exact hR s'' Ms' (ydg W.gtrans ((hm.mono sub2).then_heap ht' λb o hb e=>e) hm'') hS'' hM''
  ·have sbk:∀b o,b≠S->s'.heap.get? b=some o->h'.get? b=some o:=λb o z e=>by rw[sb.2 b z];exact e
   refine y8 ⟨y2u uy _,ih (i+1) _ Ms' (by omega) hlt (W.frame _ s' _ _ hst' ht' λb hb o e=>sbk b o (λz:b=S=>hSf (by rw[<- z];exact hb)) e) (λb o c e=>sbk b o (λz=>hnt b o (by rw[z];exact yu) e c) (hT' b o c e)) ⟨es',ep',t',g2,T2,l2.trans l,pl2,r2,pm2.nodup_iff.mpr (uh.mpr ⟨hno,nd⟩)⟩ (λy=>?_) λs'' Ms'' hm'' hS'' hM''=>?_⟩
   ·rw[tk,x0,yb,pm2.mem_iff,xf,hM];exact⟨λz=>z.symm,λz=>z.symm⟩
   ·refine hR s'' Ms'' (ydg W.gtrans ((hm.mono sub2).then_heap ht' λb o hb e=>?_) hm'') hS'' hM'';exact sbk b o (λz=>hb (by rw[z];exact yu)) e
end
section
variable{prog:yy}{w:World}{A:gw}{E:Value->ye->Prop}{s:ye}
set_option maxHeartbeats 8000000 in
theorem j9e{τ:Type}{Pl:vp->Prop}{R:Int×Value->τ->Prop}{Vv:Value->τ->Prop}{l:Addr}{items:Array Value}{xs:List τ}{Q:Value->ye->Prop}(hh:A.handled=none)(hput:Puts prog w A.in1.in1.in1 Pl R Vv s.heap)(hpl:∀t:vp,t.plain=true->Pl t)(hl:s.heap.IsList l items\/s.heap.IsTuple l items)(hz:xs.length=items.size)(hi:∀(i:Nat) (v:Value),items[i]?=some v->∃x,xs[i]?=some x/\Vv v x)(few:∀(i:Nat) (Ms:List τ),i<items.size->Ms.Nodup->(∀y∈Ms,y∈xs.take i)->Ms.length<60)
  (h:∀(h':Heap) (tk:Nat) (Ms:List τ),SetG w Pl R h' s.heap.objs.size Ms->(∀y,y∈Ms↔y∈xs)->(∀b o,b<s.heap.objs.size->s.heap.get? b=some o->h'.get? b=some o)->Q (.ref s.heap.objs.size) {s with heap:=h',toks:=tk}):
  wpAny (model prog w) A (call (y1j "set") [.ref l]) Q E s:=by
 obtain⟨c,tl,hmro⟩:=y0c.mro;have hmade:=y0c.made;have hsub:=y0c.sub;refine yci (yb8 ?_);show wpAny _ _ (callAny (.type "set") _) _ _ _;refine y8 ⟨y99 _ (by decide +kernel),y0d PySem.F.entry_type_call ?_⟩;skip;rw[Around.under_plain (weight_type_call_type "set" [.ref l] []) rfl];have h1:=y0c.notType;have h2:=y0c.canCreate;have hct:=PySem.F.typeCall_set_1 (.ref l);skip;repeat (any_goals (first|assumption|wp_step))
 refine y3p (ji1 (.ref l) (E:=E) (QN:=λobj s₁=>obj=.ref s.heap.objs.size/\s₁={s with heap:=s.heap.push (newSet (!byT w))}) ⟨rfl,rfl⟩) λr s₁ hr=>?_;cases r with
 |error e=>exact hr
 |ok fl=>
  cases fl with
  |ret obj=>
   obtain⟨rfl,rfl⟩:=hr;have hS:(s.heap.push (newSet (!byT w))).get? s.heap.objs.size=some (newSet (!byT w)):=yi _ rfl;have hT:y9l {s with heap:=s.heap.push (newSet (!byT w))} (.ref s.heap.objs.size) "set":=⟨_,hS,rfl⟩
   have hli:=y0c.init.lookup;have hbi:=y0c.init.bind (.ref s.heap.objs.size);skip;repeat (any_goals (first|assumption|wp_step))
   refine y3p (codeAny_call_builtin (R:=wants (λr s₂=>r=.none/\∃h' tk Ms,s₂={s with heap:=h',toks:=tk}/\SetG w Pl R h' s.heap.objs.size Ms/\(∀y,y∈Ms↔y∈xs)/\(∀b o,b<s.heap.objs.size->s.heap.get? b=some o->h'.get? b=some o)) E) y0c.init.plain PySem.F.entry_set_init (check_set_init_1 hT ?_)) λr₂ s₂ hr₂=>?_
   ·have hlS:l<s.heap.objs.size:=(by rcases hl with⟨o,e,_⟩|⟨o,e,_⟩<;>exact yt e);have hh3:A.in1.in1.in1.handled=none:=hh;have hneI:l≠(s.heap.push (newSet (!byT w))).objs.size:=(by rw[vf];exact xt (uj hlS));have hSf:s.heap.objs.size∉[(s.heap.push (newSet (!byT w))).objs.size,l]:=by
     rw[vf];simp only[xf,y01,or_false,not_or];skip;exact⟨xt (y1i _),y27 hlS⟩
    have none_:∀b,s.heap.objs.size<=b->s.heap.get? b=none:=λb hb=>y8g hb;have hnt:∀b o,b∈s.heap.objs.size::[(s.heap.push (newSet (!byT w))).objs.size]->s.heap.get? b=some o->o.cls≠.type "tuple":=by
     intro b o hb e;skip;rcases xf.mp hb with rfl|hb
     ·rw[none_ _ (yg _)]at e;cases e
     ·rw[yb.mp hb,none_ _ (by rw[vf];exact y0l _)]at e;cases e
    have fin:∀(it:Obj) s' Ms',Moved (s.heap.objs.size::[(s.heap.push (newSet (!byT w))).objs.size]) (λa b=>b=a) {s with heap:=(s.heap.push (newSet (!byT w))).push it} s'->SetG w Pl R s'.heap s.heap.objs.size Ms'->(∀y,y∈Ms'↔y∈xs)->∃h' tk Ms,s'={s with heap:=h',toks:=tk}/\SetG w Pl R h' s.heap.objs.size Ms/\(∀y,y∈Ms↔y∈xs)/\(∀b o,b<s.heap.objs.size->s.heap.get? b=some o->h'.get? b=some o):=by
     intro it s' Ms' hm hS' hmem;obtain⟨h',g',d',t',o'⟩:=s';skip;have eg:g'=s.gens:=hm.gens;skip;have ed:d'=s.drawn:=hm.drawn;have eo:o'=s.os:=hm.os;subst eg ed eo;refine⟨h',t',Ms',rfl,hS',hmem,λb o hb e=>hm.heap b o ?_ (yc _ (yc _ e))⟩;rw[vf];simp only[xf,y01,or_false,not_or];exact⟨xt hb,xt (uj hb)⟩
    have S0:∀o,SetG w Pl R ((s.heap.push (newSet (!byT w))).push o) s.heap.objs.size []:=λo=>⟨#[],0,_,yc _ hS,⟨.inl rfl,rfl,y4f,rfl,by show 0*5<7*3;decide,λj hj=>by simp[SetTable.fresh]at hj,λi hi=>by simp at hi⟩,rfl,hpl _ rfl,.nil,y33⟩
    rcases hl with hl|hl
    ·obtain⟨⟨ocls,odict,odata,oslots⟩,hol,hcl,nl,hdl⟩:=hl;replace hcl:ocls=.type "list":=hcl;replace hdl:odata=.seq items nl:=hdl;subst hcl hdl;have hol':(s.heap.push (newSet (!byT w))).get? l=some {cls:=.type "list",dict:=odict,data:=.seq items nl,slots:=oslots}:=yc _ hol;have hsls:=PySem.F.sub_list_set;have hslf:=PySem.F.sub_list_frozenset;skip;have hne:(y1j "list" == y1j "dict")=false:=by decide
     have hl1:(s.heap.push (newSet (!byT w))).IsList l items:=⟨_,hol',rfl,nl,rfl⟩
     unfold Builtin.«set.__init__» noKeywords y5g;generalize hPI:pyIter=PI;wp_walk;subst hPI;refine y6q hl1 (y0 (y4n ?_));refine j9d hput ((Walks.list hh3 _ l hneI items).toS) s.heap.objs.size hSf xs hz few hi hnt (items.size-0) 0 _ [] (by omega) (gm _) ⟨⟨_,yi _ rfl,rfl,rfl⟩,hl1.push _⟩ (λb o _ e=>yc _ (yc _ e)) (S0 _) (λy=>by simp) λs' Ms' hm hS' hmem=>?_;show wpAny _ _ _ _ _ _;refine y8 ?_;show wpAny _ _ (ret ud) _ _ _;exact y8 ⟨rfl,fin _ s' Ms' hm hS' hmem⟩
    ·obtain⟨⟨ocls,odict,odata,oslots⟩,hol,hcl,nl,hdl⟩:=hl;replace hcl:ocls=.type "tuple":=hcl;replace hdl:odata=.seq items nl:=hdl;subst hcl hdl;have hol':(s.heap.push (newSet (!byT w))).get? l=some {cls:=.type "tuple",dict:=odict,data:=.seq items nl,slots:=oslots}:=yc _ hol;have hsls:=jel;have hslf:=jbv;skip;have hne:(y1j "tuple" == y1j "dict")=false:=by decide
     have hl1:(s.heap.push (newSet (!byT w))).IsTuple l items:=⟨_,hol',rfl,nl,rfl⟩
     unfold Builtin.«set.__init__» noKeywords y5g;generalize hPI:pyIter=PI;wp_walk;subst hPI;refine y67 hl1 (y0 (y4n ?_));refine j9d hput ((Walks.tuple hh3 _ l hneI items).toS) s.heap.objs.size hSf xs hz few hi hnt (items.size-0) 0 _ [] (by omega) (gm _) ⟨⟨_,yi _ rfl,rfl,rfl⟩,⟨_,yc _ hol',rfl,nl,rfl⟩⟩ (λb o _ e=>yc _ (yc _ e)) (S0 _) (λy=>by simp) λs' Ms' hm hS' hmem=>?_;show wpAny _ _ _ _ _ _;refine y8 ?_;show wpAny _ _ (ret ud) _ _ _;exact y8 ⟨rfl,fin _ s' Ms' hm hS' hmem⟩
   ·cases r₂ with
    |error e=>exact hr₂
    |ok fl₂=>
     cases fl₂ with
     |ret r=>
      skip;obtain⟨rfl,h',tk,Ms,rfl,hS',hmem,hk'⟩:=hr₂;skip;repeat (any_goals (first|assumption|wp_step))
      exact h _ _ _ hS' hmem hk'
     |_=>exact hr₂.elim
  |_=>exact hr.elim
end
end L2
set_option Elab.async false
set_option linter.all false
set_option maxRecDepth 100000
set_option maxHeartbeats 4000000
namespace L2
open PySem PySem.Spec PyProof.Rows PySem.W
abbrev kwI:List Int->List Key:=List.map y23
abbrev kwT:List Str->List Key:=List.map y2l
theorem jcr:∀{a b:List Int},kwI a=kwI b->a=b
 |[],[],_=>rfl
 |[],_::_,h=>by cases h
 |_::_,[],h=>by cases h
 |x::a,y::b,h=>by
  injection h with h1 h2;injection h1 with h1;rw[h1,jcr h2]
theorem jcs:∀{a b:List Str},kwT a=kwT b->a=b
 |[],[],_=>rfl
 |[],_::_,h=>by cases h
 |_::_,[],h=>by cases h
 |x::a,y::b,h=>by
  injection h with h1 h2;injection h1 with h1;rw[h1,jcs h2]
theorem j9f{α β:Type}{f:β->α}{p:β->Prop}:∀{l:List α},(∀x∈l,∃z,x=f z/\p z)->∃m:List β,l=m.map f/\∀z∈m,p z
 |[],_=>⟨[],rfl,λz h=>by cases h⟩
 |x::l,h=>by
  obtain⟨z,e,hz⟩:=h x yu;obtain⟨m,e2,hm⟩:=j9f λy hy=>h y (ym _ hy);exact⟨z::m,by rw[e,e2];rfl,λy hy=>by
   skip;rcases xf.mp hy with rfl|hy
   ·exact hz
   ·exact hm y hy⟩
theorem j9g{α:Type}{Ms:List (List α)}{L:List α}:(∃i,i<Ms.length/\Ms.getD i []=L)↔L∈Ms:=by
 constructor
 ·rintro⟨i,hi,e⟩;rw[yd,y4 hi]at e;rw[<- e];exact u0 hi
 ·intro h;obtain⟨i,hi,e⟩:=vc h;exact⟨i,hi,by rw[yd,y4 hi];exact e⟩
def VvK(prog:yy)(w:World)(Z:Addr->List Key->Prop)(h0:Heap)(v:Value)(L:List Key):Prop:=∃a,v=.ref a/\y0t (j0h prog w) h0 L a/\Z a L
def REK(prog:yy)(w:World)(Z:Addr->List Key->Prop)(h0:Heap)(e:Int×Value)(L:List Key):Prop:=e.1=tupleKeyHash (j0h prog w) L/\VvK prog w Z h0 e.2 L
def VvI(v:Value)(x:Int):Prop:=∃t,v=.int x t
def REI(e:Int×Value)(x:Int):Prop:=∃t,e=(hashInt x,.int x t)
section
variable{prog:yy}{w:World}{A:gw}{E:Value->ye->Prop}{s:ye}{Z:Addr->List Key->Prop}{h0:Heap}
theorem j5k{h h':Heap}{L:List Key}{a:Addr}(k:y0t (j0h prog w) h L a)(e:TupK h h'):y0t (j0h prog w) h' L a:=by
 obtain⟨o,items,n,ho,hc,r⟩:=k;exact⟨o,items,n,e a o hc ho,hc,r⟩
theorem jf3(hu:A.units<cLine):Puts prog w A (λ_=>True) (REK prog w Z h0) (VvK prog w Z h0) h0:=by
 intro E s S es ep t Ms v L Q g T _ r hb hv hT h1 h2;obtain⟨a,rfl,hka,hz⟩:=hv;have hk':=j5k hka hT;have rl:=r.length;rw[yh]at rl;skip;unfold setAdd;refine vg ?_;refine y0 (wpAny_pyHash_tuple hu hk' ?_);have ht':s.toks<=s.toks+(L.length+1):=by omega
 generalize s.toks+(L.length+1)=tk' at ht' ⊢;have at_:∀(i:Nat) (hi:i<es.size),REK prog w Z h0 es[i] (Ms.getD i []):=λi hi=>by
  obtain⟨M,e1,e2⟩:=r.at (i:=i) (a:=es[i]) (by rw[xl];exact yf hi)
  rw[yd,e1];exact e2
 have asks:Asks prog w A E {s with toks:=tk'} es (.ref a) (tupleKeyHash (j0h prog w) L) (λi=>Ms.getD i []) L:=by
  refine⟨λi hi e=>?_,λi hi Q q=>?_,λi hi=>?_,λl hl Q q=>?_⟩
  ·rw[(at_ i hi).1,e]
  ·obtain⟨_,b,x1,x2,_⟩:=at_ i hi;rw[x1];exact y66 (s:={s with toks:=tk'}) hu (j5k x2 hT) hk' q
  ·obtain⟨_,b,x1,_⟩:=at_ i hi;exact⟨b,x1⟩
  ·refine jf2 (s:={s with toks:=tk'}) hk' (λy hy=>?_) q;obtain⟨i,hi,e⟩:=hl y hy;obtain⟨_,b,x1,x2,_⟩:=at_ i hi;exact⟨b,_,by rw[e,x1],j5k x2 hT⟩
 refine jii (s:={s with toks:=tk'}) g T hb asks (λQ q=>jme (s:={s with toks:=tk'}) hk' q) (λhin=>?_) (λhno h' es' t' ep' sb g2 T2 l2 pm=>?_)
 ·obtain⟨j,hj,e⟩:=hin;exact h1 (j9g.mp ⟨j,by omega,e⟩) tk' ht'
 ·obtain⟨Ms',r2,pm2⟩:=All2.perm pm (.cons ⟨rfl,a,rfl,hka,hz⟩ r);refine h2 (λz=>?_) tk' h' es' t' ep' Ms' ht' sb g2 T2 l2 trivial r2 pm2;obtain⟨j,hj,e⟩:=j9g.mpr z;exact hno j (by omega) e
theorem jj0{es:List (Int×Value)}{ns:List Int}(r:All2 REI es ns):IntsE es ns:=by
 induction r with
 |nil=>exact .nil
 |cons x _ ih=>obtain⟨t,rfl⟩:=x;exact .cons ih
theorem jj1{es:List (Int×Value)}{ns:List Int}(r:IntsE es ns):All2 REI es ns:=by
 induction r with
 |nil=>exact .nil
 |cons _ ih=>exact .cons ⟨_,rfl⟩ ih
theorem jf4:Puts prog w A (λt=>t.plain=true) REI VvI h0:=by
 intro E s S es ep t Ms v x Q g T pl r hb hv hT h1 h2;obtain⟨tt,rfl⟩:=hv;skip;unfold setAdd;refine vg ?_;refine y0 ((intKind prog w).pyHash (k:=x) (y8d _ _ _ _) ?_);exact add_int (s:={s with toks:=s.toks+1}) g T pl (jj0 r) hb (λhin=>h1 hin (s.toks+1) (y0l _)) λhno h' es' t' ep' ks' sb g2 T2 l2 p2 r2 pm=>h2 hno (s.toks+1) h' es' t' ep' ks' (y0l _) sb g2 T2 l2 p2 (jj1 r2) pm
def jnt(prog:yy)(w:World)(A:gw){τ:Type}(Vv:Value->τ->Prop)(lt:τ->τ->Prop)(h0:Heap)(G:List τ->Prop):Prop:=
 ∀{E:Value->ye->Prop}{s:ye}{a:Addr}{n:Nat}{us:List Value}{Xs:List τ}{P:y9f->ye->Prop},All2 Vv us Xs->G Xs->TupK h0 s.heap->s.heap.get? a=some (seqObj "list" us.toArray n)->us.length<64->
  (∀us' Xs',All2 Vv us' Xs'->Xs'.Perm Xs->Xs'.Pairwise (λa b=>¬ lt b a)->P (.done (.ret .none)) {s with heap:=sortedHeap s.heap a us us'.toArray})->
  wpAny (model prog w) A (Builtin.«list.sort» ⟨[.ref a],[]⟩) P E s
theorem jct{τ:Type}{Xs:List τ}(d:τ){p:Array Nat}(ok:OkP Xs.length p):(p.toList.map λi=>Xs.getD i d).Perm Xs:=by
 refine(ok.map _).trans ?_;have:(v8 Xs.length).map (λi=>Xs.getD i d)=Xs:=by
  refine y2p λi=>?_;by_cases hi:i<Xs.length
  ·simp[hi]
  ·simp[hi]
 rw[this]
theorem j9h{us:List Value}{ns:List Int}(r:All2 VvI us ns):y2f us ns:=by
 induction r with
 |nil=>exact .nil
 |cons x _ ih=>obtain⟨t,rfl⟩:=x;exact .cons _ _ ih
theorem jf5{us:List Value}{ns:List Int}(r:y2f us ns):All2 VvI us ns:=by
 induction r with
 |nil=>exact .nil
 |cons n t _ ih=>exact .cons ⟨t,rfl⟩ ih
theorem jf6:jnt prog w A VvI (· < ·) h0 (λ_=>True):=by
 intro E s a n us Xs P r _ hT g h64 h;exact y8t g (j9h r) h64 λout ns' a1 a2 a3=>by
  have:=h out.toList ns' (jf5 a1) a2 (a3.imp λz k=>absurd k (by omega));simpa using this
theorem j6l{τ:Type}{Pl:vp->Prop}{R:Int×Value->τ->Prop}{Vv:Value->τ->Prop}{lt:τ->τ->Prop}{G:List τ->Prop}{S:Addr}{Ms:List τ}{Q:Value->ye->Prop}(hh:A.handled=none)(hS:SetG w Pl R s.heap S Ms)(hRV:∀{e x},R e x->Vv e.2 x)(h64:Ms.length<64)(hG:∀Xs:List τ,Xs.Perm Ms->G Xs)(hk:TupK h0 s.heap)(hsort:jnt prog w A.in1.in1 Vv lt h0 G)
  (h:∀(s':ye) (h':Heap) (a:Addr) (out:List Value) (e:Nat) (Xs:List τ),(∀b o,s.heap.get? b=some o->h'.get? b=some o)->S<a->h'.get? a=some (seqObj "list" out.toArray e)->All2 Vv out Xs->Xs.Perm Ms->Xs.Pairwise (λa b=>¬ lt b a)->Q (.ref a) {s with heap:=h',toks:=s'.toks,drawn:=s'.drawn}):wpAny (model prog w) A (call (.builtin "sorted") [.ref S]) Q E s:=by
 obtain⟨es,ep,t,g,T,hled,_,hr,nd⟩:=hS;have rl:=hr.length;rw[yh]at rl;have hz:es.size<=sizeLine:=by rw[xo];omega
 refine ui y5r y4z y4y (y4x _) ?_;skip;unfold y2a;refine y0 (m:=checkCount "sorted" 1 1 _) (y8 (y0 (jac hh g T hled hz λs' d acc hm ha=>?_)));obtain⟨M1,rv,p1⟩:=All2.perm ha (hr.map (R':=Vv) (f:=Prod.snd) λz=>hRV z);have l1:=rv.length;have l2:=p1.length_eq;skip;refine y0 (y1o ?_ (by rw[xo];omega));have o1:(s'.heap.push (seqObj "list" acc.toArray 0)).get? s'.heap.objs.size=some (seqObj "list" acc.toArray 0):=yi _ rfl;have le:S<s'.heap.objs.size:=yt (hm.heap S _ (by simp) g);have kt:TupK h0 (s'.heap.push (seqObj "list" acc.toArray 0)):=λb o c e=>yc _ (hm.heap b o (by simp) (hk b o c e));refine y0 (vg (xw y3a ⟨_,o1,rfl⟩ y2m (hsort (s:={s' with heap:=s'.heap.push (seqObj "list" acc.toArray 0)}) rv (hG _ p1) kt o1 (by omega) λus' Xs' r' pm pw=>⟨_,rfl,y8 ⟨_,rfl,?_⟩⟩) (y38 _)));obtain⟨h',g',d',t',q'⟩:=s';skip;have eg:g'=s.gens:=hm.gens;skip;have ed:d'=d:=hm.drawn;have eo:q'=s.os:=hm.os;subst eg eo;obtain⟨e,he⟩:=y76 (out:=us'.toArray) o1;refine h ⟨h',s.gens,d',t',s.os⟩ _ _ us' e Xs' (λb o eb=>?_) le he r' (pm.trans p1) pw;have hb:=hm.heap b o (by simp) eb;have lb:=yt hb;refine(y6d (xt lb) ?_).trans (yc _ hb);rw[vf];exact uj lb
end
end L2
set_option Elab.async false
set_option linter.all false
set_option maxRecDepth 100000
set_option maxHeartbeats 4000000
namespace L2
open PySem PySem.Spec PyProof.Rows PySem.W
def txt(x:Str):List Int:=x.cps.toList.map λ(n:Nat)=>(n:Int)
theorem j6m{α β:Type}[LT α][LT β]{f:α->β}(hf:∀{a b},f a<f b↔a<b)(hi:∀{a b},f a=f b->a=b):∀{l m:List α},l.map f<m.map f↔l<m
 |[],[]=>⟨λh=>absurd h (y0q _),λh=>absurd h (y0q _)⟩
 |[],_::_=>⟨λ_=>y55 _ _,λ_=>y55 _ _⟩
 |_::_,[]=>⟨λh=>absurd h (y0q _),λh=>absurd h (y0q _)⟩
 |a::l,b::m=>by
  rw[xm,xm,ul,ul,hf,j6m hf hi];exact or_congr yb1 (and_congr_left λ_=>⟨hi,λe=>by rw[e]⟩)
theorem j4j{α:Type}[LT α]{a b:α}:[a]<[b]↔a<b:=by
 rw[ul];exact⟨λh=>h.elim id λz=>absurd z.2 (y0q _),.inl⟩
theorem jmf{x y:Str}:txt x<txt y↔x.cps.toList<y.cps.toList:=j6m yaf y3t
theorem j7z{x y:Str}(h:txt x=txt y):x=y:=jlt (ua (λa b e=>y3t e) |>.mp h)
inductive C where|i|t|r (b:Bool)
def smp:C->Bool
 | .r _=>false
 |_=>true
def Im1:Bool->Value->List Int->Prop
 |false,v,x=>∃n t,v=.int n t/\x=[n]
 |true,v,x=>∃n t,v=.str n t/\x=txt n
def Im2(h:Heap):C->Value->List (List Int)->Prop
 | .i,v,x=>∃X,x=[X]/\Im1 false v X
 | .t,v,x=>∃X,x=[X]/\Im1 true v X
 | .r b,v,x=>∃a its,v=.ref a/\IsTup h a its/\All2 (Im1 b) its.toList x
def Ims(h:Heap):(Nat->C)->List Value->List (List (List Int))->Prop
 |_,[],[]=>True
 |kd,v::vs,x::xs=>Im2 h (kd 0) v x/\Ims h (λi=>kd (i+1)) vs xs
 |_,_,_=>False
def Rw(h:Heap)(kd:Nat->C)(v:Value)(X:List (List (List Int))):Prop:=∃a its,v=.ref a/\IsTup h a its/\Ims h kd its.toList X
theorem jgk{h h':Heap}(e:TupK h h'){a:Addr}{its:Array Value}(k:IsTup h a its):IsTup h' a its:=by
 obtain⟨o,ho,hc,r⟩:=k;exact⟨o,e a o hc ho,hc,r⟩
theorem Ims.keep{h h':Heap}(e:TupK h h'):∀{kd:Nat->C}{vs:List Value}{xs:List (List (List Int))},Ims h kd vs xs->Ims h' kd vs xs
 |_,[],[],_=>trivial
 |kd,_::_,_::_,⟨h1,h2⟩=>by
  refine⟨?_,Ims.keep e h2⟩;generalize kd 0=c at h1;cases c with
  |i=>exact h1
  |t=>exact h1
  |r b=>obtain⟨a,its,k1,k2,k3⟩:=h1;exact⟨a,its,k1,jgk e k2,k3⟩
 |_,[],_::_,z=>z.elim
 |_,_::_,[],z=>z.elim
theorem Rw.keep{h h':Heap}(e:TupK h h'){kd:Nat->C}{v:Value}{X:List (List (List Int))}(k:Rw h kd v X):Rw h' kd v X:=let ⟨a,its,k1,k2,k3⟩:=k;⟨a,its,k1,jgk e k2,k3.keep e⟩
theorem Ims.length{h:Heap}:∀{kd:Nat->C}{vs:List Value}{xs:List (List (List Int))},Ims h kd vs xs->vs.length=xs.length
 |_,[],[],_=>rfl
 |_,_::_,_::_,⟨_,h2⟩=>by rw[yl,yl,Ims.length h2]
 |_,[],_::_,z=>z.elim
 |_,_::_,[],z=>z.elim
theorem jcu{prog:yy}{w:World}{vs:List Value}{x:List (List Int)}(r:All2 (Im1 false) vs x):∃ns:List Int,x=ns.map (λn=>[n])/\ItemsAre (j0h prog w) (kwI ns) vs:=by
 induction r with
 |nil=>exact⟨[],rfl,.nil⟩
 |cons h _ ih=>
  obtain⟨n,t,rfl,rfl⟩:=h;obtain⟨ns,rfl,k⟩:=ih;exact⟨n::ns,rfl,.cons (j1y _ _ n t) k⟩
theorem jcv{prog:yy}{w:World}{vs:List Value}{x:List (List Int)}(r:All2 (Im1 true) vs x):∃ns:List Str,x=ns.map txt/\ItemsAre (j0h prog w) (kwT ns) vs:=by
 induction r with
 |nil=>exact⟨[],rfl,.nil⟩
 |cons h _ ih=>
  obtain⟨n,t,rfl,rfl⟩:=h;obtain⟨ns,rfl,k⟩:=ih;exact⟨n::ns,rfl,.cons (j1z _ _ n t) k⟩
@[reducible] def ordW:KeyOrd where
 α:=List (List (List Int))
 blt a b:=decide (a<b)
 irrefl x:=by simpa using y32 x
 trans x y z h1 h2:=by simp only[decide_eq_true_eq] at *;exact y6w h1 h2
 negTrans a b c h:=by
  skip;simp only[decide_eq_true_eq] at *;by_cases hab:a<b
  ·exact .inl hab
  ·skip;exact .inr (y92 (y0b.mp hab) h)
 total x y h1 h2:=by simp only[decide_eq_false_iff_not] at *;exact y3b (y0b.mp h2) (y0b.mp h1)
def lexW{α:Type}[DecidableEq α][LT α][DecidableLT α]:List α->List α->Bool->Bool
 |x::xs,y::ys,e=>if x=y then lexW xs ys e else decide (x<y)
 |_,_,e=>e
theorem j9i{α:Type}[DecidableEq α][LT α][DecidableLT α](ir:∀x:α,¬ x<x):∀xs ys:List α,lexW xs ys (decide (xs.length<ys.length))=decide (xs<ys)
 |[],[]=>by rw[decide_eq_false (y0q ([]:List α))];rfl
 |[],y::ys=>by rw[decide_eq_true (y55 y ys)];exact decide_eq_true (y60 _)
 |x::xs,[]=>by rw[decide_eq_false (y0q (x::xs))];exact decide_eq_false (Nat.not_lt_zero _)
 |x::xs,y::ys=>by
  show(if x=y then lexW xs ys (decide (xs.length+1<ys.length+1))else decide (x<y))=_;have:=j9i ir xs ys;by_cases c:x=y
  ·subst c;rw[if_pos rfl,decide_eq_decide.mpr (y6h),this];exact decide_eq_decide.mpr ⟨λh=>ul.mpr (.inr ⟨rfl,h⟩),λh=>(ul.mp h).elim (λz=>absurd z (ir _)) λz=>z.2⟩
  ·rw[if_neg c];exact decide_eq_decide.mpr ⟨λh=>ul.mpr (.inl h),λh=>(ul.mp h).elim id λz=>absurd z.1 c⟩
theorem jf7{α:Type}[DecidableEq α][LT α][DecidableLT α](ir:∀x:α,¬ x<x)(x y:α)(xs ys:List α):decide (x::xs<y::ys)=if x=y then decide (xs<ys)else decide (x<y):=by
 rw[<- j9i ir,<- j9i ir xs ys];show(if x=y then lexW xs ys (decide (xs.length+1<ys.length+1))else decide (x<y))=_;rw[decide_eq_decide.mpr (y6h)]
theorem eqAt1(A:gw)(s:ye){b:Bool}{u v:Value}{x y:List Int}(hx:Im1 b u x)(hy:Im1 b v y):∃e,y8b A s u v e/\(e=true↔x=y):=by
 cases b with
 |false=>
  obtain⟨n,t,rfl,rfl⟩:=hx;obtain⟨m,q,rfl,rfl⟩:=hy;exact⟨(n==m),y9h n t m q,by simp⟩
 |true=>
  obtain⟨n,t,rfl,rfl⟩:=hx;obtain⟨m,q,rfl,rfl⟩:=hy;exact⟨(n==m),y45 n t m q,by rw[beq_iff_eq];exact⟨λe=>by rw[e],j7z⟩⟩
theorem rcLt1(A:gw)(s:ye){b:Bool}{u v:Value}{x y:List Int}(hx:Im1 b u x)(hy:Im1 b v y)(prog:yy)(w:World)(E:Value->ye->Prop)(Q:Value->ye->Prop)(h:Q (.bool (decide (x<y))) s):wpAny (model prog w) A (richCompare .Lt u v) Q E s:=by
 cases b with
 |false=>
  obtain⟨n,t,rfl,rfl⟩:=hx;obtain⟨m,q,rfl,rfl⟩:=hy;rw[decide_eq_decide.mpr j4j]at h;exact(ydi h:wpAny (model prog w) A (compareOp .Lt (.int n t) (.int m q)) Q E s)
 |true=>
  obtain⟨n,t,rfl,rfl⟩:=hx;obtain⟨m,q,rfl,rfl⟩:=hy;rw[decide_eq_decide.mpr jmf]at h;exact(ydj h:wpAny (model prog w) A (compareOp .Lt (.str n t) (.str m q)) Q E s)
section
open PySem.SeqAt
open PySem.AutoSeq1 (wpAny_loadPart')
open PySem.MeetsSeq PySem.MeetsSeq2 PySem.MeetsSeq3
theorem jf8(c0:Bool)(l b:Addr)(xs ys:Array Value)(n m:Nat)(dl db:Option Addr)(sl sb:Array (Option Value))(L M:List (List Int))(hi:All2 (Im1 c0) xs.toList L)(hj:All2 (Im1 c0) ys.toList M):
  Meets (Builtin.«tuple.__lt__» ⟨[.ref l,.ref b],[]⟩)
   (λ_ R s=>s.heap.get? l=some {cls:=.type "tuple",dict:=dl,data:=.seq xs n,slots:=sl}/\s.heap.get? b=some {cls:=.type "tuple",dict:=db,data:=.seq ys m,slots:=sb}/\R (.ok (.ret (.bool (decide (L<M))))) s):=
 .of_wp λprog w A R s h=>by
  skip;obtain⟨hp,g,d,tk,os⟩:=s;obtain⟨gl,gb,h⟩:=h;have tt:=AutoSeq1.sub_tuple_tuple;have z1:xs.size=L.length:=by rw[<- hi.length];simp
  have z2:ys.size=M.length:=by rw[<- hj.length];simp
  wp_walk using y2n gl,y2n gb,y59 _ (λrest r s'=>r.1=none/\s'=⟨hp,g,d,tk,os⟩/\∃(vs ws:List Value) (L' M':List (List Int)),rest=vs.zip ws/\All2 (Im1 c0) vs L'/\All2 (Im1 c0) ws M'/\L'.length+ys.size=M'.length+xs.size/\R (.ok (.ret (.bool (decide (L'<M'))))) ⟨hp,g,d,tk,os⟩) _
  case turn=>
   rintro⟨y,x⟩ rest r s' ⟨hr,rfl,vs,ws,L',M',hz,hv,hw,hl,hR⟩;cases hv with
   |nil=>exact absurd hz (by rw[List.zip_nil_left];simp)
   |cons ha hv'=>
    cases hw with
    |nil=>exact absurd hz (by rw[List.zip_nil_right];simp)
    |cons hc hw'=>
     rw[y9e]at hz;obtain⟨q1,q2⟩:=ycn hz;obtain⟨rfl,rfl⟩:=Prod.mk.inj q1;rw[jf7 (λx=>y32 x)]at hR;rw[yl,yl]at hl;obtain⟨e,he,hf⟩:=eqAt1 A.in1 ⟨hp,g,d,tk,os⟩ ha hc;refine y0 (he prog w _ _ ?_);cases e with
     |true=>
      rw[if_pos (hf.mp rfl)]at hR
      wp_walk
      exact⟨rfl,rfl,_,_,_,_,q2,hv',hw',by omega,hR⟩
     |false=>
      rw[if_neg (λz=>xb (hf.mpr z))]at hR;have ask:=rcLt1 A.in1 ⟨hp,g,d,tk,os⟩ ha hc prog w
      wp_walk using ask
      exact⟨_,rfl,by simpa using hR⟩
  case fin=>
   rintro⟨r1,r2⟩ s' ⟨hr,rfl,vs,ws,L',M',hz,hv,hw,hl,hR⟩;dsimp only at hr;subst hr;have key:decide (L'<M')=decide (xs.size<ys.size):=by
    cases hv with
    |nil=>
     cases hw with
     |nil=>
      rw[vm]at hl;rw[decide_eq_false (y0q ([]:List (List Int))),decide_eq_false (by omega)]
     |cons hc hw=>
      rw[vm,yl]at hl;rw[decide_eq_true (y55 _ _),decide_eq_true (by omega)]
    |cons ha hv=>
     cases hw with
     |nil=>
      rw[vm,yl]at hl;rw[decide_eq_false (y0q _),decide_eq_false (by omega)]
     |cons hc hw=>exact absurd hz (by rw[y9e];simp)
   rw[key]at hR
   wp_walk
   exact⟨_,rfl,by simpa[y9r] using hR⟩
  case h=>exact⟨rfl,rfl,xs.toList,ys.toList,L,M,rfl,hi,hj,by omega,h⟩
end
section
variable{prog:yy}{w:World}{A:gw}{E:Value->ye->Prop}{s:ye}
theorem it2_eq(hu:A.units<cLine){c:C}{u v:Value}{x y:List (List Int)}{Q:Bool->ye->Prop}(hx:Im2 s.heap c u x)(hy:Im2 s.heap c v y)(h:Q (decide (x=y)) s):wpAny (model prog w) A (eqBool u v) Q E s:=by
 cases c with
 |i=>
  obtain⟨_,rfl,n,t,rfl,rfl⟩:=hx;obtain⟨_,rfl,m,q,rfl,rfl⟩:=hy;refine(j0h prog w).eqBool (j1y _ _ n t) (j1y _ _ m q) ?_;rw[show decide ((y23 n:Key)=.inl m)=decide ([[n]]=[[m]])from decide_eq_decide.mpr ⟨λe=>by cases e;rfl,λe=>by cases e;rfl⟩];exact h
 |t=>
  obtain⟨_,rfl,n,t,rfl,rfl⟩:=hx;obtain⟨_,rfl,m,q,rfl,rfl⟩:=hy;refine(j0h prog w).eqBool (j1z _ _ n t) (j1z _ _ m q) ?_;rw[show decide ((y2l n:Key)=.inr m)=decide ([txt n]=[txt m])from decide_eq_decide.mpr ⟨λe=>by cases e;rfl,λe=>by injection e with e _;rw[j7z e]⟩];exact h
 |r b=>
  obtain⟨a,is,rfl,⟨o,ho,hc,n,hd⟩,k1⟩:=hx;obtain⟨a',is',rfl,⟨o',ho',hc',n',hd'⟩,k2⟩:=hy;cases b with
  |false=>
   obtain⟨ns,rfl,j1⟩:=jcu (prog:=prog) (w:=w) k1;obtain⟨ms,rfl,j2⟩:=jcu (prog:=prog) (w:=w) k2;refine y66 hu ⟨o,is,n,ho,hc,hd,j1⟩ ⟨o',is',n',ho',hc',hd',j2⟩ ?_;rw[show decide (kwI ns=kwI ms)=decide (ns.map (λn=>[n])=ms.map (λn=>[n]))from decide_eq_decide.mpr ⟨λe=>by rw[jcr e],λe=>by rw[(ua (λa b e=>by injection e)).mp e]⟩];exact h
  |true=>
   obtain⟨ns,rfl,j1⟩:=jcv (prog:=prog) (w:=w) k1;obtain⟨ms,rfl,j2⟩:=jcv (prog:=prog) (w:=w) k2;refine y66 hu ⟨o,is,n,ho,hc,hd,j1⟩ ⟨o',is',n',ho',hc',hd',j2⟩ ?_;rw[show decide (kwT ns=kwT ms)=decide (ns.map txt=ms.map txt)from decide_eq_decide.mpr ⟨λe=>by rw[jcs e],λe=>by rw[(ua (λa b=>j7z)).mp e]⟩];exact h
theorem it2_lt(hu:A.units<cLine){c:C}{b:Bool}(hb:b=true->smp c=true){u v:Value}{x y:List (List Int)}{Q:Bool->ye->Prop}(hx:Im2 s.heap c u x)(hy:Im2 s.heap c v y)(h:Q (decide (x<y)) s):wpAny (model prog w) A (oneLt' b u v) Q E s:=by
 cases c with
 |i=>
  obtain⟨_,rfl,n,t,rfl,rfl⟩:=hx;obtain⟨_,rfl,m,q,rfl,rfl⟩:=hy;refine lt_one ?_;rw[decide_eq_decide.mpr (j4j.trans j4j)]at h;exact h
 |t=>
  obtain⟨_,rfl,n,t,rfl,rfl⟩:=hx;obtain⟨_,rfl,m,q,rfl,rfl⟩:=hy;refine jlu ?_;rw[decide_eq_decide.mpr (j4j.trans jmf)]at h;exact h
 |r c0=>
  cases b with
  |true=>cases hb rfl
  |false=>
   obtain⟨a,is,rfl,⟨⟨c1,d1,e1,f1⟩,ho,hc,n,hd⟩,k1⟩:=hx;obtain⟨a',is',rfl,⟨⟨c2,d2,e2,f2⟩,ho2,hc2,m,hd2⟩,k2⟩:=hy;dsimp only at hc hd hc2 hd2;subst hc hd hc2 hd2;exact kat_one _ _ (richCompare_meets_room (op:=.Lt) ⟨_,ho,rfl⟩ ⟨_,ho2,rfl⟩ PySem.F.slot_tuple_lt PySem.F.entry_tuple_lt (PySem.F.args_tuple_lt_2 _ _) (jf8 c0 a a' is is' n m d1 d2 f1 f2 x y k1 k2) ⟨ho,ho2,show y6o (decide (x<y))≠Value.notImplemented/\_ from⟨(λx=>nomatch x),h⟩⟩ hu)
theorem jgl(hu:A.units<cLine){b fin:Bool}{Q:Bool->ye->Prop}:∀{kd:Nat->C}{xs ys:List Value}{L M:List (List (List Int))}{i:Nat},((b&&i==0)=true->smp (kd 0)=true)->Ims s.heap kd xs L->Ims s.heap kd ys M->Q (lexW L M fin) s->KatLex prog w A b fin Q (xs.zip ys) i s
 |_,[],_,[],_,i,_,_,_,h=>kat_nil h
 |_,_::_,[],_::_,[],i,_,_,_,h=>kat_nil h
 |kd,_::_,_::_,x::L,y::M,i,hb,⟨h1,h2⟩,⟨g1,g2⟩,h=>by
  refine kat_cons (it2_eq hu h1 g1 ?_);unfold lexW at h;by_cases c:x=y
  ·rw[if_pos c]at h;rw[decide_eq_true c];exact kat_yes (jgl hu (λz=>by simp at z) h2 g2 h)
  ·rw[if_neg c]at h;rw[decide_eq_false c];exact kat_no (it2_lt hu hb h1 g1 h)
 |_,[],_,_::_,_,_,_,z,_,_=>z.elim
 |_,_::_,_,[],_,_,_,z,_,_=>z.elim
 |_,_,[],_,_::_,_,_,_,z,_=>z.elim
 |_,_,_::_,_,[],_,_,_,z,_=>z.elim
def tyC:C->Value
 | .i=>.type "int"
 | .t=>.type "str"
 | .r _=>.type "tuple"
theorem rw_at{vs:List Value}{Xs:List (List (List (List Int)))}{kd:Nat->C}(r:All2 (Rw s.heap kd) vs Xs){i:Nat}(hi:i<vs.length):∃a its,vs.getD i .none=.ref a/\IsTup s.heap a its/\Ims s.heap kd its.toList (Xs.getD i []):=by
 obtain⟨X,e,a,its,k1,k2,k3⟩:=r.at (y4 hi)
 refine⟨a,its,?_,k2,?_⟩
 ·rw[yd,y4 hi];exact k1
 ·rw[yd,e];exact k3
theorem tellW(hu:A.units<cLine){vs:List Value}{Xs:List (List (List (List Int)))}{kd:Nat->C}(r:All2 (Rw s.heap kd) vs Xs):Tells (O:=ordW) (λi=>Xs.getD i []) vs.length (kas_ask prog w A (tuples' (smp (kd 0))) vs) s:=by
 intro i j hi hj C c;obtain⟨x,xs,ex,tx,ix⟩:=rw_at r hi;obtain⟨y,ys,ey,ty,iy⟩:=rw_at r hj;obtain⟨ox,gx,_,nx,dx⟩:=tx;obtain⟨oy,gy,_,ny,dy⟩:=ty;unfold kas_ask;rw[ex,ey];refine kat_lt gx dx gy dy (jgl hu (λz=>by simpa using z) ix iy ?_);have lx:=ix.length;have ly:=iy.length;rw[yh]at lx ly;rw[lx,ly,j9i (λx=>y32 x)];exact c
theorem jmg{h:Heap}{vs:List Value}{Xs:List (List (List (List Int)))}{kd:Nat->C}(r:All2 (Rw h kd) vs Xs)(hne:∀X∈Xs,X≠[]):∃fs,KatTups h vs fs/\fs.length=vs.length/\∀v∈fs,∃x,Im2 h (kd 0) v x:=by
 induction r with
 |nil=>exact⟨[],KatTups.nil,rfl,by simp⟩
 | @cons v X vs Xs x _ ih=>
  obtain⟨fs,k1,k2,k3⟩:=ih λY hY=>hne Y (ym _ hY);obtain⟨a,its,rfl,⟨o,ho,hc,n,hd⟩,im⟩:=x;cases e3:its.toList with
  |nil=>
   rw[e3]at im;cases X with
   |nil=>exact absurd rfl (hne _ yu)
   |cons _ _=>exact im.elim
  |cons y ys=>
   rw[e3]at im;cases X with
   |nil=>exact im.elim
   |cons z X=>
    refine⟨y::fs,KatTups.cons ho hc hd (by rw[<- xl,e3];rfl) k1,by rw[yl,yl,k2],λv hv=>?_⟩;skip;rcases xf.mp hv with rfl|hv
    ·exact⟨z,im.1⟩
    ·exact k3 v hv
theorem jj2{h0:Heap}{kd:Nat->C}{Z:Value->List (List (List Int))->Prop}(hu:A.units<cLine):jnt prog w A (λv X=>Rw h0 kd v X/\Z v X) (λX Y=>X<Y) h0 (λXs=>2<=Xs.length->∀X∈Xs,X≠[]):=by
 intro E s a n us Xs P r hG hT g h64 h;have ra:All2 (Rw s.heap kd) us Xs:=r.imp λz=>Rw.keep hT z.1;have lr:=r.length;have kt:∀h':Heap,(∀b o,b≠a->s.heap.get? b=some o->h'.get? b=some o)->TupK s.heap h':=λh' e b o c q=>e b o (λz=>by
  subst z;rw[g]at q;cases q;exact absurd (show y1j "list"=y1j "tuple" from c) (by decide)) q
 refine ji4 (κ:=tuples' (smp (kd 0))) (O:=ordW) (k:=λi=>Xs.getD i []) g h64 (λh2 h' e Q q=>?_) (λh' e=>tellW (s:={s with heap:=h'}) hu (ra.imp λz=>Rw.keep (kt h' e) z)) λp ok as=>?_
 ·obtain⟨fs,k1,k2,k3⟩:=jmg (ra.imp λz=>Rw.keep (kt h' e) z) (hG (by omega));have et:(tyC (kd 0) !=y1j "tuple")=smp (kd 0):=by cases kd 0<;>rfl
  refine kat_kind (s:={s with heap:=h'}) (T:=tyC (kd 0)) k1 (by omega) (λv hv=>?_) ?_ (by rw[et];exact q)
  ·obtain⟨x,hx⟩:=k3 v hv;generalize kd 0=c at hx ⊢;cases c with
   |i=>obtain⟨_,_,m,t,rfl,_⟩:=hx;exact .now
   |t=>obtain⟨_,_,m,t,rfl,_⟩:=hx;exact .now
   |r b=>
    obtain⟨b',is,rfl,⟨o,hb,hc,_⟩,_⟩:=hx;rw[show tyC (.r b)=o.cls from hc.symm];exact(Looks.ld hb).andThen .now
  ·cases kd 0<;>rfl
 ·have all:∀i∈p.toList,i<us.length:=λi hi=>vq.mp (ok.mem_iff.mp hi);refine h _ _ (r.pick .none [] p.toList all) (jct [] (by rw[<- lr];exact ok)) ?_;rw[v7,y34];intro i j hi hj hij;rw[yh]at hi hj;have hs:=ok.size;have:=as i j (by omega) (by omega);unfold kAt at this;rw[yf hi,yf hj]at this;have q:decide (Xs.getD p[j] []<Xs.getD p[i] [])=false:=this;simpa using q
end
end L2
set_option Elab.async false
set_option linter.all false
set_option maxRecDepth 100000
set_option maxHeartbeats 4000000
namespace L2
open PySem PySem.Spec PyProof.Rows PySem.W
variable{P:List Value->Prop}
theorem al0(h:P []):∀us:List Value,us.length=0->P us:=λus e=>List.eq_nil_of_length_eq_zero e ▸ h
theorem alS{n:Nat}{P:List Value->Prop}(h:∀a us,us.length=n->P (a::us))(us:List Value)(e:us.length=n+1):P us:=by
 cases us with
 |nil=>cases e
 |cons a us=>exact h a us (Nat.succ.inj e)
theorem al1(h:∀a,P [a]):∀us:List Value,us.length=1->P us:=alS λa=>al0 (P:=λus=>P (a::us)) (h a)
theorem al2(h:∀a b,P [a,b]):∀us:List Value,us.length=2->P us:=alS λa=>al1 (P:=λus=>P (a::us)) (h a)
theorem al3(h:∀a b c,P [a,b,c]):∀us:List Value,us.length=3->P us:=alS λa=>al2 (P:=λus=>P (a::us)) (h a)
theorem al4(h:∀a b c d,P [a,b,c,d]):∀us:List Value,us.length=4->P us:=alS λa=>al3 (P:=λus=>P (a::us)) (h a)
def ImH(H:Hp):C->V->List (List Int)->Prop
 | .i,v,x=>∃n,v=.int n/\x=[[n]]
 | .t,v,x=>∃n,v=.str n/\x=[txt n]
 | .r false,v,x=>∃a,∃ns:List Int,v=.ref a/\H a=some (.tup (ns.map V.int))/\x=ns.map λn=>[n]
 | .r true,v,x=>∃a,∃ns:List Str,v=.ref a/\H a=some (.tup (ns.map V.str))/\x=ns.map txt
def ImsH(H:Hp):(Nat->C)->List V->List (List (List Int))->Prop
 |_,[],[]=>True
 |kd,v::vs,x::xs=>ImH H (kd 0) v x/\ImsH H (λi=>kd (i+1)) vs xs
 |_,_,_=>False
def RwH(H:Hp)(kd:Nat->C)(v:V)(X:List (List (List Int))):Prop:=∃a us,v=.ref a/\H a=some (.tup us)/\ImsH H kd us X
section
variable{X:Cx}{pins:List (Addr×Obj)}{σ:St}{H:Hp}{s:ye}
theorem jmh(I:Inv X pins σ H s):∀{kd:Nat->C}{vs:List V}{us:List Value}{xs:List (List (List Int))},Vals vs us->ImsH H kd vs xs->Ims s.heap kd us xs
 |_,[],_,[],r,_=>by cases r;trivial
 |kd,v::vs,_,x::xs,r,⟨h1,h2⟩=>by
  cases r with
  |cons r1 r2=>
   refine⟨?_,jmh I r2 h2⟩;generalize kd 0=c at h1;cases c with
   |i=>obtain⟨n,rfl,rfl⟩:=h1;obtain⟨t,rfl⟩:=r1;exact⟨_,rfl,n,t,rfl,rfl⟩
   |t=>obtain⟨n,rfl,rfl⟩:=h1;obtain⟨t,rfl⟩:=r1;exact⟨_,rfl,n,t,rfl,rfl⟩
   |r b=>
    cases b with
    |false=>
     obtain⟨a,ns,rfl,ha,rfl⟩:=h1;cases r1;obtain⟨its,ri,pl,hz⟩:=I.tuple (SqT.of (K:=X.K) ha);refine⟨a,_,rfl,pl,?_⟩;have:=j1v ri;clear ha ri pl hz;rw[show its.toArray.toList=its by simp]
     induction this with
     |nil=>exact .nil
     |cons n t _ ih=>exact .cons ⟨n,t,rfl,rfl⟩ ih
    |true=>
     obtain⟨a,ns,rfl,ha,rfl⟩:=h1;cases r1;obtain⟨its,ri,pl,hz⟩:=I.tuple (SqT.of (K:=X.K) ha);refine⟨a,_,rfl,pl,?_⟩;have:=jij ri;clear ha ri pl hz;rw[show its.toArray.toList=its by simp]
     induction this with
     |nil=>exact .nil
     |cons n t _ ih=>exact .cons ⟨n,t,rfl,rfl⟩ ih
 |_,[],_,_::_,_,z=>z.elim
 |_,_::_,_,[],_,z=>z.elim
def VvW(H:Hp)(h:Heap)(kd:Nat->C)(v:Value)(Y:List (List (List Int))):Prop:=Rw h kd v Y/\∃a,v=.ref a/\RwH H kd (.ref a) Y
theorem vw_of(I:Inv X pins σ H s){kd:Nat->C}{vs:List V}{Ys:List (List (List (List Int)))}(r:All2 (RwH H kd) vs Ys):∀{us:List Value},Vals vs us->All2 (VvW H s.heap kd) us Ys:=by
 induction r with
 |nil=>intro us v;cases v;exact .nil
 |cons h _ ih=>
  intro us v;cases v with
  |cons v1 v2=>
   obtain⟨a,xs,rfl,ha,im⟩:=h;cases v1;obtain⟨its,ri,pl,_⟩:=I.tuple (SqT.of (K:=X.K) ha);exact .cons ⟨⟨a,_,rfl,pl,by simpa using jmh I ri im⟩,a,rfl,a,xs,rfl,ha,im⟩ (ih v2)
theorem jmi{h:Heap}{kd:Nat->C}{us:List Value}{Ys:List (List (List (List Int)))}(r:All2 (VvW H h kd) us Ys):∃vs,Vals vs us/\All2 (RwH H kd) vs Ys:=by
 induction r with
 |nil=>exact⟨_,.nil,.nil⟩
 |cons x _ ih=>
  obtain⟨_,a,rfl,y⟩:=x;obtain⟨vs,e1,e2⟩:=ih;exact⟨.ref a::vs,.cons rfl e1,.cons y e2⟩
end
section
variable{X:Cx}
def rSoW(K:y9):List V->Hp->VK->Prop:=λxs H Q=>∃(p:Addr) (vs:List V) (kd:Nat->C) (Ys:List (List (List (List Int)))),xs=[.ref p]/\SqL K H p vs/\All2 (RwH H kd) vs Ys/\(2<=Ys.length->∀Y∈Ys,Y≠[])/\vs.length<64/\∀l vs' Ys',H l=none->All2 (RwH H kd) vs' Ys'->Ys'.Perm Ys->Ys'.Pairwise (λa b=>¬ b<a)->Q (.ref l) (upd H l (.lst vs'))
theorem cSoW{k:Nat}(hr:Room k X.A):CallR X (.builtin "sorted") (rSoW X.K):=by
 skip;intro pins s σ H xs us Q I r h;obtain⟨p,vs,kd,Ys,rfl,hq,hP,hne,h64,q⟩:=h;obtain⟨u,rfl,rx⟩:=j65 r;cases rx;obtain⟨its,ri,pl,hz⟩:=I.list hq;have hlen:=ri.length;have un:=hr.un;have pa:=vw_of I hP ri;refine ui y5r y4z y4y (y4x _) ?_;skip;unfold y2a;refine y0 (m:=checkCount "sorted" 1 1 _) (y8 (y0 (collect_list pl.isList (y0 (y1o ?_ (by rw[xo];omega))) (by rw[xo];omega))));have n1:((s.heap.push (seqObj "list" #[] 0)).update s.heap.objs.size (vn (·++its.toArray))).objs.size=s.heap.objs.size+1:=by rw[y7b,yce]
 have o1:(((s.heap.push (seqObj "list" #[] 0)).update s.heap.objs.size (vn (·++its.toArray))).push (seqObj "list" its.toArray 0)).get? (s.heap.objs.size+1)=some (seqObj "list" its.toArray 0):=by rw[<- n1];exact yi _ rfl
 have kp:∀b o,s.heap.get? b=some o->(((s.heap.push (seqObj "list" #[] 0)).update s.heap.objs.size (vn (·++its.toArray))).push (seqObj "list" its.toArray 0)).get? b=some o:=
  λb o e=>yc _ ((uw _ _ (y27 (yt e))).trans (yc _ e))
 skip;show wpAny _ _ _ _ _ {s with heap:=((s.heap.push (seqObj "list" #[] 0)).update s.heap.objs.size (vn (·++its.toArray))).push (seqObj "list" its.toArray 0)};rw[n1];refine y0 (vg (xw y3a ⟨_,o1,rfl⟩ y2m (jj2 (h0:=s.heap) (by show X.A.units+1+1<cLine;omega) (s:={s with heap:=((s.heap.push (seqObj "list" #[] 0)).update s.heap.objs.size (vn (·++its.toArray))).push (seqObj "list" its.toArray 0)}) pa hne (λb o _ e=>kp b o e) o1 (by omega) λus' Ys' r' pm pw=>⟨_,rfl,y8 ⟨_,rfl,?_⟩⟩) (y38 _)));obtain⟨e,he⟩:=y76 (out:=us'.toArray) o1;obtain⟨vs',v1,v2⟩:=jmi r';have l1:=v2.length;have l2:=pm.length_eq;have l3:=hP.length;have kk:∀b u,s.heap.get? b=some u->(sortedHeap (((s.heap.push (seqObj "list" #[] 0)).update s.heap.objs.size (vn (·++its.toArray))).push (seqObj "list" its.toArray 0)) (s.heap.objs.size+1) its us'.toArray).get? b=some u:=λb u eb=>by
  have lb:=yt eb;refine(y6d (xt (uj lb)) ?_).trans (kp b u eb);rw[vf,n1];exact uj (uj lb)
 exact⟨.ref (s.heap.objs.size+1),_,I.laid (t':=s.toks) kk (y0l _) (show ObjOk X.prog X.w _ _ _ (.lst vs')from⟨by rw[xo];omega,_,e,v1,he⟩),rfl,q _ _ _ (I.hok.fresh (y0l _)) v2 pm pw⟩
theorem r_soW{K:y9}{H:Hp}{Q:VK}{p:Addr}{vs:List V}{kd:Nat->C}{Ys:List (List (List (List Int)))}(h:H p=some (.lst vs))(hr:All2 (RwH H kd) vs Ys)(hne:2<=Ys.length->∀Y∈Ys,Y≠[])(hn:vs.length<64)(q:∀l vs' Ys' H',H l=none->H' l=some (.lst vs')->All2 (RwH H kd) vs' Ys'->Ys'.Perm Ys->Ys'.Pairwise (λa b=>¬ b<a)->Ext H H'->Q (.ref l) H'):rSoW K [.ref p] H Q:=⟨p,vs,kd,Ys,rfl,SqL.of h,hr,hne,hn,λl vs' Ys' nl r' pm pw=>q l vs' Ys' _ nl j07 r' pm pw (j0p nl)⟩
def rSoD:List V->Hp->VK->Prop:=λxs H Q=>∃(p:Addr) (o:Obj) (kvs:List (List Key×V)) (kd:Nat->C) (Ys:List (List (List (List Int)))),xs=[.ref p]/\H p=some (.frz o (.dT kvs))/\All2 (λks Y=>ImsH H kd (ks.map kV) Y) (kvs.map (·.1)) Ys/\(2<=Ys.length->∀Y∈Ys,Y≠[])/\kvs.length<64/\∀l vs' Ys',H l=none->All2 (RwH H kd) vs' Ys'->Ys'.Perm Ys->Ys'.Pairwise (λa b=>¬ b<a)->Q (.ref l) (upd H l (.lst vs'))
theorem cSoD{k:Nat}(hr:Room k X.A)(hc:X.calm=true):CallR X (.builtin "sorted") rSoD:=by
 skip;intro pins s σ H xs us Q I r h;obtain⟨p,o,kvs,kd,Ys,rfl,hp,hk,hne,h64,q⟩:=h;obtain⟨u,rfl,ru⟩:=j65 r;cases ru;obtain⟨g1,g2,g3,es,ep,g4,g5,g6⟩:=fz_t I.hok hp;have un:=hr.un;have hl:=hk.length;rw[y3]at hl;have le0:=yh (xs:=es);obtain⟨vs,v1,v2⟩:∃vs,Vals vs (es.toList.map (·.key))/\All2 (RwH H kd) vs Ys:=by
  have key:∀(l:List y3s) (ks:List (List Key)) (Ys:List (List (List (List Int)))),l.length=ks.length->(∀(i:Nat) x L,l[i]?=some x->ks[i]?=some L->∃b,x.key=.ref b/\H b=some (.tup (L.map kV)))->All2 (λks Y=>ImsH H kd (ks.map kV) Y) ks Ys->∃vs,Vals vs (l.map (·.key))/\All2 (RwH H kd) vs Ys:=by
   intro l
   induction l with
   |nil=>intro ks Ys e _ r;cases ks with
    |nil=>cases r;exact⟨[],.nil,.nil⟩
    |cons _ _=>cases e
   |cons x l ih=>intro ks Ys e hx r;cases r with
    |nil=>cases e
    | @cons L Y ks Ys h1 h2=>
     obtain⟨vs,k1,k2⟩:=ih ks Ys (by simpa using e) (λi y M hy hM=>hx (i+1) y M (by simpa using hy) (by simpa using hM)) h2;obtain⟨b,b1,b2⟩:=hx 0 x L rfl rfl;refine⟨.ref b::vs,?_,.cons ⟨b,_,rfl,b2,h1⟩ k2⟩;rw[xm,show x.key=.ref b from b1];exact .cons rfl k1
  refine key _ _ _ (by rw[y3];omega) (λi x L hx hL=>?_) hk;obtain⟨hi,ex⟩:=yw.mp hx;obtain⟨kv,b,k1,k2,k3⟩:=g6 i (by omega);rw[xc,k1]at hL;cases(gf hL:kv.1=L);exact⟨b,by rw[<- ex,Array.getElem_toList];exact k2,k3⟩
 have pa:=vw_of I v2 v1;have lv:=v2.length;have lv1:=v1.length;rw[y3]at lv1;refine ui y5r y4z y4y (y4x _) ?_;skip;unfold y2a;refine y0 (m:=checkCount "sorted" 1 1 _) (y8 (y0 (j6j (I.ok.hd hc) g3 g1 g2 g4 (by rw[xo];omega) λs' acc hm le ha=>?_)));rw[jcn ha];have ll:(es.toList.map (·.key)).length<64:=by rw[y3];omega
 generalize es.toList.map (·.key)=its at pa ll;skip;refine y0 (y1o ?_ (by rw[xo];omega));have o1:(s'.heap.push (seqObj "list" its.toArray 0)).get? s'.heap.objs.size=some (seqObj "list" its.toArray 0):=yi _ rfl;have kt:TupK s.heap (s'.heap.push (seqObj "list" its.toArray 0)):=λb o c e=>yc _ (hm.heap b o (by simp) e);refine y0 (vg (xw y3a ⟨_,o1,rfl⟩ y2m (jj2 (h0:=s.heap) (by show X.A.units+1+1<cLine;omega) (s:={s' with heap:=s'.heap.push (seqObj "list" its.toArray 0)}) pa hne kt o1 ll λus' Ys' r' pm pw=>⟨_,rfl,y8 ⟨_,rfl,?_⟩⟩) (y38 _)));obtain⟨h',g',d',t',q'⟩:=s';skip;have eg:g'=s.gens:=hm.gens;skip;have ed:d'=s.drawn:=hm.drawn;skip;have eo:q'=s.os:=hm.os;subst eg ed eo;obtain⟨e,he⟩:=y76 (out:=us'.toArray) o1;obtain⟨vs',v3,v4⟩:=jmi r';have l1:=v4.length;have l2:=pm.length_eq;have kk:∀b u,s.heap.get? b=some u->(sortedHeap (h'.push (seqObj "list" its.toArray 0)) h'.objs.size its us'.toArray).get? b=some u:=λb u eb=>by
  have hb:=hm.heap b u (by simp) eb;have lb:=yt hb;refine(y6d (xt lb) ?_).trans (yc _ hb);rw[vf];exact uj lb
 exact⟨.ref h'.objs.size,_,I.laid (t':=t') kk (y0r le) (show ObjOk X.prog X.w _ _ _ (.lst vs')from⟨by rw[xo];omega,_,e,v3,he⟩),rfl,q _ vs' Ys' (I.hok.fresh (y0r le)) v4 pm pw⟩
theorem r_soD{H:Hp}{Q:VK}{p:Addr}{o:Obj}{kvs:List (List Key×V)}{kd:Nat->C}{Ys:List (List (List (List Int)))}(h:H p=some (.frz o (.dT kvs)))(hr:All2 (λks Y=>ImsH H kd (ks.map kV) Y) (kvs.map (·.1)) Ys)(hne:2<=Ys.length->∀Y∈Ys,Y≠[])(hn:kvs.length<64)(q:∀l vs' Ys' H',H l=none->H' l=some (.lst vs')->All2 (RwH H kd) vs' Ys'->Ys'.Perm Ys->Ys'.Pairwise (λa b=>¬ b<a)->Ext H H'->Q (.ref l) H'):rSoD [.ref p] H Q:=⟨p,o,kvs,kd,Ys,rfl,h,hr,hne,hn,λl vs' Ys' nl r' pm pw=>q l vs' Ys' _ nl j07 r' pm pw (j0p nl)⟩
end
end L2
set_option Elab.async false
set_option linter.all false
set_option maxRecDepth 100000
set_option maxHeartbeats 4000000
namespace L2
open PySem PySem.Spec PyProof.Rows PySem.W
class El(n:Nat)(P:Prop) where
 K:Prop->Prop
 el:P->∀G,K G->G
instance (priority:=low) El0 {P:Prop}:El 0 P:=⟨λG=>P->G,λh G k=>k h⟩
instance ElA{n:Nat}{a b:Prop}[i:El n b]:El (n+1) (a/\b):=⟨λG=>a->i.K G,λh G k=>i.el h.2 G (k h.1)⟩
instance ElE{n:Nat}{α:Sort _}{p:α->Prop}[i:∀x,El n (p x)]:El (n+1) (∃x,p x):=⟨λG=>∀x,(i x).K G,λh G k=>h.elim λx hx=>(i x).el hx G (k x)⟩
theorem spl(n:Nat){P G:Prop}[i:El n P](h:P)(k:i.K G):G:=i.el h G k
theorem j2l{α β:Type}{f:α->β}{S:α->Prop}(inj:∀{a b},S a->S b->f a=f b->a=b){l m:List α}(hl:∀x∈l,S x)(hm:∀x∈m,S x)(p:(l.map f).Perm (m.map f)):l.Perm m:=by
 have:∃g:β->Option α,∀a,S a->g (f a)=some a:=⟨λy=>@dite _ (∃a,S a/\f a=y) (y6t _) (λh=>some h.choose) λ_=>none,λa ha=>by
  have h:∃b,S b/\f b=f a:=⟨a,ha,rfl⟩
  dsimp only;rw[dif_pos h];exact congrArg some (inj h.choose_spec.1 ha h.choose_spec.2)⟩
 obtain⟨g,hg⟩:=this;have e:∀{l:List α},(∀x∈l,S x)->(l.map f).filterMap g=l:=λ{l} h=>by
  induction l with
  |nil=>rfl
  |cons x l ih=>rw[xm,y3f,hg x (h x yu),ih λy hy=>h y (ym _ hy)]
 have:=p.filterMap g
 rwa [e hl,e hm]at this
def kw:Key->List Int
 | .inl n=>[n]
 | .inr x=>txt x
def wK(L:List Key):List (List (List Int)):=L.map λk=>[kw k]
def hom:Bool->List Key->Prop
 |false,L=>∃ns:List Int,L=kwI ns/\ns≠[]
 |true,L=>∃ns:List Str,L=kwT ns/\ns≠[]
def cB:Bool->C
 |false=>.i
 |true=>.t
theorem wK_I(ns:List Int):wK (kwI ns)=ns.map λn=>[[n]]:=by rw[wK,xx];rfl
theorem wK_T(ns:List Str):wK (kwT ns)=ns.map λn=>[txt n]:=by rw[wK,xx];rfl
theorem wK_in{c:Bool}{L M:List Key}(h:hom c L)(g:hom c M)(e:wK L=wK M):L=M:=by
 cases c with
 |false=>
  obtain⟨a,rfl,_⟩:=h;obtain⟨b,rfl,_⟩:=g;rw[wK_I,wK_I]at e;rw[(ua (λa b e=>by cases e;rfl)).mp e]
 |true=>
  obtain⟨a,rfl,_⟩:=h;obtain⟨b,rfl,_⟩:=g;rw[wK_T,wK_T]at e;rw[(ua (λa b e=>by injection e with e _;exact j7z e)).mp e]
section
variable{prog:yy}{w:World}{A:gw}{E:Value->ye->Prop}{s:ye}{Z:Addr->List Key->Prop}{h0:Heap}
theorem ims_K{h:Heap}:∀{c:Bool}{L:List Key}{vs:List Value},hom c L\/L=[]->ItemsAre (j0h prog w) L vs->Ims h (λ_=>cB c) vs (wK L)
 |_,[],_,_,.nil=>trivial
 |c,k::L,_,hc,.cons (v:=v) h1 h2=>by
  have hc:hom c (k::L):=hc.elim id λz=>nomatch z;refine⟨?_,ims_K ?_ h2⟩
  ·cases c with
   |false=>
    obtain⟨ns,e,_⟩:=hc;cases ns with
    |nil=>cases e
    |cons n ns=>injection e with e _;subst e;obtain⟨t,rfl⟩:=jlv (k:=.inl n) h1;exact⟨_,rfl,n,t,rfl,rfl⟩
   |true=>
    obtain⟨ns,e,_⟩:=hc;cases ns with
    |nil=>cases e
    |cons n ns=>injection e with e _;subst e;obtain⟨t,rfl⟩:=jlv (k:=.inr n) h1;exact⟨_,rfl,n,t,rfl,rfl⟩
  ·cases L with
   |nil=>exact .inr rfl
   |cons k2 L=>
    refine .inl ?_;cases c with
    |false=>
     obtain⟨ns,e,_⟩:=hc;cases ns with
     |nil=>cases e
     |cons n ns=>injection e with _ e;exact⟨ns,e,λz=>by rw[z]at e;cases e⟩
    |true=>
     obtain⟨ns,e,_⟩:=hc;cases ns with
     |nil=>cases e
     |cons n ns=>injection e with _ e;exact⟨ns,e,λz=>by rw[z]at e;cases e⟩
theorem jmj(c:Bool)(hu:A.units<cLine):jnt prog w A (VvK prog w Z h0) (λL M=>wK L<wK M) h0 (λLs=>∀L∈Ls,hom c L):=by
 intro E s a n us Ls P r hG hT g h64 h;have rr:All2 (λv Y=>Rw h0 (λ_=>cB c) v Y/\∃L,Y=wK L/\VvK prog w Z h0 v L/\hom c L) us (Ls.map wK):=by
  clear g h h64
  induction r with
  |nil=>exact .nil
  |cons x _ ih=>
   have hc:=hG _ yu;refine .cons ⟨?_,_,rfl,x,hc⟩ (ih λL hL=>hG L (ym _ hL));obtain⟨b,rfl,⟨o,items,m,ho,hcl,hd,hi⟩,_⟩:=x;exact⟨b,items,rfl,⟨o,ho,hcl,m,hd⟩,ims_K (.inl hc) hi⟩
 refine jj2 hu rr (λ_ Y hY=>?_) hT g h64 λus' Ys' r' pm pw=>?_
 ·obtain⟨L,hL,rfl⟩:=yk.mp hY;intro z;have:=y17.mp z;subst this;cases c with
  |false=>obtain⟨ns,e,k⟩:=hG _ hL;exact k (y17.mp e.symm)
  |true=>obtain⟨ns,e,k⟩:=hG _ hL;exact k (y17.mp e.symm)
 ·obtain⟨Ls',rfl,r2,hG'⟩:∃Ls',Ys'=Ls'.map wK/\All2 (VvK prog w Z h0) us' Ls'/\∀L∈Ls',hom c L:=by
   clear pm pw
   induction r' with
   |nil=>exact⟨[],rfl,.nil,λL h=>by cases h⟩
   |cons x _ ih=>
    obtain⟨_,L,rfl,x2,x3⟩:=x;obtain⟨Ls',rfl,k1,k2⟩:=ih;exact⟨L::Ls',rfl,.cons x2 k1,λM hM=>by
     skip;rcases xf.mp hM with rfl|hM
     ·exact x3
     ·exact k2 M hM⟩
  exact h us' Ls' r2 (j2l (S:=hom c) (λh g e=>wK_in h g e) hG' hG pm) (v7.mp pw)
end
def RefsK(H:Hp)(v:V)(L:List Key):Prop:=∃a,v=.ref a/\H a=some (.tup (L.map kV))
theorem jcw{α:Type}[DecidableEq α]:∀{l m:List α},l.Nodup->(∀x∈l,x∈m)->l.length<=m.length
 |[],m,_,_=>gm _
 |x::r,m,nd,h=>by
  obtain⟨h1,h2⟩:=uh.mp nd;have hx:=h x yu;have:=jcw (l:=r) (m:=m.erase x) h2 λy hy=>(y2x (show y≠x from λe=>h1 (by rw[<- e];exact hy))).mpr (h y (ym _ hy));rw[y06 hx]at this;have:=y1d hx;rw[yl];omega
variable{H:Hp}
section
variable{X:Cx}
theorem jf9{H:Hp}{h:Heap}:∀{us:List Value}{Ls:List (List Key)},All2 (VvK X.prog X.w (λa L=>H a=some (.tup (L.map kV))) h) us Ls->∃vs,Vals vs us/\All2 (RefsK H) vs Ls:=by
 intro us Ls r
 induction r with
 |nil=>exact⟨_,.nil,.nil⟩
 |cons x _ ih=>
  obtain⟨a,rfl,_,y⟩:=x;obtain⟨vs,e1,e2⟩:=ih;exact⟨.ref a::vs,.cons rfl e1,.cons ⟨a,rfl,y⟩ e2⟩
def j9j(K:y9):List V->Hp->VK->Prop:=λxs H Q=>∃(p:Addr) (vs:List V),xs=[.ref p]/\(SqL K H p vs\/H p=some (.tup vs))/\
 ((∃ns ms:List Int,vs=ns.map V.int/\(∀n∈ns,n∈ms)/\ms.length<=50/\∀l (ks:List Int),H l=none->ks.Pairwise (· < ·)->(∀k,k∈ks↔k∈ns)->Q (.ref l) (upd H l (.lst (ks.map V.int))))\/
  ∃Ls:List (List Key),All2 (RefsK H) vs Ls/\vs.length<=60/\(∃c,∀L∈Ls,hom c L)/\∀l vs' Ls',H l=none->All2 (RefsK H) vs' Ls'->Ls'.Nodup->Ls'.Pairwise (λa b=>¬ wK b<wK a)->(∀L,L∈Ls'↔L∈Ls)->Q (.ref l) (upd H l (.lst vs')))
theorem j9k{k:Nat}(hr:Room k X.A){a:Expr}{ta:TA}{p p' pos pos':Pos}(hc:X.calm=true)(hg:Gl X "sorted")(hm:X.mg "sorted"=none)(hg2:Gl X "set")(hm2:X.mg "set"=none)(ha:PA X [a] ta)(hs:starEach [a] X.env=[(false,eval a X.env)]:=by rfl)
  (ht:starEach [.Call (.Name "set" p') [a] [] pos'] X.env=[(false,eval (.Call (.Name "set" p') [a] [] pos') X.env)]:=by rfl):
  PE X (.Call (.Name "sorted" p) [.Call (.Name "set" p') [a] [] pos'] [] pos) (tCB (j9j X.K) ta):=by
 skip;intro pins s σ H Q I h;refine y0e (j52 I hg hm xu (y4u ?_ ht rfl) (by decide) (by decide));rw[ht];show wpAny _ _ (spliced ((false,eval (.Call (.Name "set" p') [a] [] pos') X.env)::backTo pos [])) _ _ s;refine y2g (y0e (j52 I hg2 hm2 boot_set (ur (thn (ha pos' pins s σ H _ I h) λus s1 ⟨vs,H1,I1,r1,q1⟩=>?_) hs rfl) (by decide) (by decide)));obtain⟨p1,xs,e,hx,q⟩:=q1;subst e;obtain⟨u,rfl,ru⟩:=j65 r1;cases ru;have un:=hr.un;obtain⟨its,ri,pl⟩:∃its,Vals xs its/\(s1.heap.IsList p1 its.toArray\/s1.heap.IsTuple p1 its.toArray):=by
  rcases hx with hx|hx
  ·obtain⟨its,ri,pl,_⟩:=I1.list hx;exact⟨its,ri,.inl pl.isList⟩
  ·obtain⟨_,its,ri,pl,_⟩:=(show ObjOk X.prog X.w H1 s1.heap p1 (.tup xs)from I1.hok p1 _ hx)
   exact⟨its,ri,.inr pl⟩
 have hl:=ri.length;have sz:its.toArray.size=its.length:=yj ..;rcases q with⟨ns,ms,rfl,hin,hz,q⟩|⟨Ls,hrf,hz,hne,q⟩
 ·rw[y3]at hl;refine j9e (Pl:=λt=>t.plain=true) (R:=REI) (Vv:=VvI) (xs:=ns) (I1.ok.hd hc) jf4 (λt z=>z) pl (by omega) (λi v hv=>?_) (λi Ms _ nd mem=>?_) λh' tk Ms hS hmem hk=>y2o ?_
  ·obtain⟨t,e⟩:=IntsAre.int_at (j1v ri) i v (by simpa using hv);have hi:i<ns.length:=by have:=(yw.mp (show its[i]?=some v by simpa using hv)).1;omega
   exact⟨ns.getD i 0,by rw[yd,y4 hi];rfl,t,e⟩
  ·have:=jez nd λx hx=>hin x (vd (mem x hx));omega
  ·have few:=jez (show Ms.Nodup by obtain⟨_,_,_,_,_,_,_,_,nd⟩:=hS;exact nd) λx hx=>hin x ((hmem x).mp hx);refine j6l (h0:=s1.heap) (s:={s1 with heap:=h',toks:=tk}) (I1.ok.hd hc) hS (λ{e x} ⟨t,z⟩=>⟨t,by rw[z]⟩) (by omega) (λ_ _=>trivial) (λb o _ e=>hk b o (yt e) e) jf6 λs' g' l out ex ks hk2 hlt ho hI hp hw=>?_;have kk:∀b u,s1.heap.get? b=some u->g'.get? b=some u:=λb u e=>hk2 b u (hk b u (yt e) e);have ln:=hp.length_eq;obtain⟨_,_,_,_,_,_,_,_,nd⟩:=hS;refine⟨.ref l,upd H1 l (.lst (ks.map V.int)),(I1.drew s'.drawn).laid (t':=s'.toks) kk (y0r hlt) (show ObjOk X.prog X.w _ _ _ (.lst (ks.map V.int))from⟨by rw[y3,xo];omega,out,ex,j2j (j9h hI),ho⟩),rfl,q l ks (I1.hok.fresh (y0r hlt)) (jad (hp.nodup_iff.mpr nd) (hw.imp λz=>by omega)) λk=>by rw[hp.mem_iff,hmem]⟩
 ·have l2:=hrf.length;refine j9e (xs:=Ls) (Pl:=λ_=>True) (R:=REK X.prog X.w (λa L=>H1 a=some (.tup (L.map kV))) s1.heap) (Vv:=VvK X.prog X.w (λa L=>H1 a=some (.tup (L.map kV))) s1.heap) (I1.ok.hd hc) (jf3 (by show X.A.units+1+1+1<cLine;omega)) (λt z=>trivial) pl (by omega) (λi v hv=>?_) (λi Ms hi nd mem=>?_) λh' tk Ms hS hmem hk=>y2o ?_
  ·have hv':its[i]?=some v:=by simpa using hv
   obtain⟨x,ex,rx⟩:=jgg ri i v hv';obtain⟨L,eL,b,rfl,hb⟩:=hrf.at ex;refine⟨L,eL,?_⟩;cases rx with
   |cons r0 _=>
    cases r0;obtain⟨it2,r2,t2,_⟩:=I1.tuple (SqT.of (K:=X.K) hb);obtain⟨o,ho,hcl,n,hd⟩:=t2;exact⟨b,rfl,⟨o,_,n,ho,hcl,hd,by simpa using j56 r2⟩,hb⟩
  ·have:=jcw nd mem;rw[yn]at this;omega
  ·have few:=jcw (show Ms.Nodup by obtain⟨_,_,_,_,_,_,_,_,nd⟩:=hS;exact nd) λx hx=>(hmem x).mp hx;have fin:∀(s':ye) (g':Heap) (l:Addr) (out:List Value) (ex:Nat) (Ks:List (List Key)),(∀b o,h'.get? b=some o->g'.get? b=some o)->s1.heap.objs.size<l->g'.get? l=some (seqObj "list" out.toArray ex)->All2 (VvK X.prog X.w (λa L=>H1 a=some (.tup (L.map kV))) s1.heap) out Ks->Ks.Perm Ms->Ks.Pairwise (λa b=>¬ wK b<wK a)->EP X pins σ Q (.ref l) {s1 with heap:=g',toks:=s'.toks,drawn:=s'.drawn}:=by
    intro s' g' l out ex Ks hk2 hlt ho hrv hpm hpw;obtain⟨vs',v1,v2⟩:=jf9 hrv;obtain⟨_,_,_,_,_,_,_,_,nd⟩:=hS;have kk:∀b u,s1.heap.get? b=some u->g'.get? b=some u:=λb u e=>hk2 b u (hk b u (yt e) e);have lv:=v2.length;have lk:=hpm.length_eq;exact⟨.ref l,upd H1 l (.lst vs'),(I1.drew s'.drawn).laid (t':=s'.toks) kk (y0r hlt) (show ObjOk X.prog X.w _ _ _ (.lst vs')from⟨by rw[xo];omega,out,ex,v1,ho⟩),rfl,q l vs' Ks (I1.hok.fresh (y0r hlt)) v2 (hpm.nodup_iff.mpr nd) hpw λL=>by rw[hpm.mem_iff,hmem]⟩
   obtain⟨c,hne⟩:=hne;exact j6l (h0:=s1.heap) (s:={s1 with heap:=h',toks:=tk}) (I1.ok.hd hc) hS (λ{e x} z=>z.2) (by omega) (λXs pm L hL=>hne L ((hmem L).mp (pm.mem_iff.mp hL))) (λb o _ e=>hk b o (yt e) e) (jmj c (by show X.A.units+1+1<cLine;omega)) fin
theorem r_sgI{K:y9}{Q:VK}{p:Addr}{ns:List Int}(ms:List Int)(h:H p=some (.lst (ns.map V.int))\/H p=some (.tup (ns.map V.int)))(hin:∀n∈ns,n∈ms)(hn:ms.length<=50)(q:∀l (ks:List Int) H',H l=none->H' l=some (.lst (ks.map V.int))->ks.Pairwise (· < ·)->(∀k,k∈ks↔k∈ns)->Ext H H'->Q (.ref l) H'):j9j K [.ref p] H Q:=⟨p,_,rfl,h.imp SqL.of id,.inl ⟨ns,ms,rfl,hin,hn,λl ks nl pw mm=>q l ks _ nl j07 pw mm (j0p nl)⟩⟩
theorem RefsK.mono{H':Hp}(e:Ext H H'){v:V}{L:List Key}(h:RefsK H v L):RefsK H' v L:=let ⟨a,h1,h2⟩:=h;⟨a,h1,e _ _ h2⟩
theorem r_sgK{K:y9}{Q:VK}{p:Addr}{vs:List V}{Ls:List (List Key)}(h:H p=some (.lst vs))(hr:All2 (RefsK H) vs Ls)(hn:vs.length<=60)(hne:∃c,∀L∈Ls,hom c L)(q:∀l vs' Ls' H',H l=none->H' l=some (.lst vs')->All2 (RefsK H') vs' Ls'->Ls'.Nodup->Ls'.Pairwise (λa b=>¬ wK b<wK a)->(∀L,L∈Ls'↔L∈Ls)->Ext H H'->Q (.ref l) H'):j9j K [.ref p] H Q:=⟨p,vs,rfl,.inl (SqL.of h),.inr ⟨Ls,hr,hn,hne,λl vs' Ls' nl r' nd pw mm=>q l vs' Ls' _ nl j07 (r'.imp λz=>z.mono (j0p nl)) nd pw mm (j0p nl)⟩⟩
theorem jj3{H:Hp}:∀{c:Bool}{L:List Key}{us:List V},hom c L\/L=[]->(ImsH H (λ_=>cB c) us (wK L)↔us=L.map kV)
 |c,[],[],_=>⟨λ_=>rfl,λ_=>trivial⟩
 |c,[],_::_,_=>⟨λz=>z.elim,λe=>by cases e⟩
 |c,_::_,[],_=>⟨λz=>z.elim,λe=>by cases e⟩
 |c,k::L,u::us,hc=>by
  have hc:hom c (k::L):=hc.elim id λz=>nomatch z;have hL:hom c L\/L=[]:=by
   cases c with
   |false=>
    obtain⟨ns,e,_⟩:=hc;cases ns with
    |nil=>cases e
    |cons n ns=>
     injection e with _ e;cases ns with
     |nil=>exact .inr e
     |cons m ns=>exact .inl ⟨_,e,λz=>nomatch z⟩
   |true=>
    obtain⟨ns,e,_⟩:=hc;cases ns with
    |nil=>cases e
    |cons n ns=>
     injection e with _ e;cases ns with
     |nil=>exact .inr e
     |cons m ns=>exact .inl ⟨_,e,λz=>nomatch z⟩
  have h1:ImH H (cB c) u [kw k]↔u=kV k:=by
   cases c with
   |false=>
    obtain⟨ns,e,_⟩:=hc;cases ns with
    |nil=>cases e
    |cons n ns=>injection e with e _;subst e;exact⟨λ⟨m,e1,e2⟩=>by cases e2;exact e1,λe=>⟨n,e,rfl⟩⟩
   |true=>
    obtain⟨ns,e,_⟩:=hc;cases ns with
    |nil=>cases e
    |cons n ns=>injection e with e _;subst e;exact⟨λ⟨m,e1,e2⟩=>by injection e2 with e2 _;rw[e1,j7z e2];rfl,λe=>⟨n,e,rfl⟩⟩
  show ImH H (cB c) u [kw k]/\ImsH H (λ_=>cB c) us (wK L)↔u::us=kV k::L.map kV;rw[h1,jj3 hL];exact⟨λ⟨a,b⟩=>by rw[a,b],λe=>by injection e with a b;exact⟨a,b⟩⟩
theorem r_soK{H:Hp}{Q:VK}{p:Addr}{o:Obj}{kvs:List (List Key×V)}{c:Bool}(h:H p=some (.frz o (.dT kvs)))(hG:∀L∈kvs.map (·.1),hom c L)(hn:kvs.length<64)(q:∀l vs' Ms H',H l=none->H' l=some (.lst vs')->All2 (RefsK H') vs' Ms->Ms.Perm (kvs.map (·.1))->Ms.Pairwise (λa b=>¬ wK b<wK a)->Ext H H'->Q (.ref l) H'):rSoD [.ref p] H Q:=by
 refine r_soD (kd:=λ_=>cB c) (Ys:=(kvs.map (·.1)).map wK) h ?_ (λ_ Y hY=>?_) hn λl vs' Ys' H' nl ql r' pm pw e=>?_
 ·generalize kvs.map (·.1)=Ms at hG
  induction Ms with
  |nil=>exact .nil
  |cons L Ms ih=>exact .cons ((jj3 (.inl (hG L yu))).mpr rfl) (ih λM hM=>hG M (ym _ hM))
 ·obtain⟨L,hL,rfl⟩:=yk.mp hY;intro z;have:=y17.mp z;subst this;cases c with
  |false=>obtain⟨ns,e,k⟩:=hG _ hL;exact k (y17.mp e.symm)
  |true=>obtain⟨ns,e,k⟩:=hG _ hL;exact k (y17.mp e.symm)
 ·obtain⟨Ms,rfl,r2,hG'⟩:∃Ms,Ys'=Ms.map wK/\All2 (RefsK H) vs' Ms/\∀L∈Ms,hom c L:=by
   have sub:∀Y∈Ys',∃L,Y=wK L/\hom c L:=λY hY=>by
    obtain⟨L,hL,z⟩:=yk.mp (pm.mem_iff.mp hY);exact⟨L,z.symm,hG L hL⟩
   clear pm pw ql
   induction r' with
   |nil=>exact⟨[],rfl,.nil,λL h=>by cases h⟩
   |cons x _ ih=>
    obtain⟨L,rfl,hL⟩:=sub _ yu;obtain⟨Ms,rfl,k1,k2⟩:=ih λY hY=>sub Y (ym _ hY);obtain⟨a,us,rfl,ha,im⟩:=x;rw[(jj3 (.inl hL)).mp im]at ha;exact⟨L::Ms,rfl,.cons ⟨a,rfl,ha⟩ k1,λM hM=>by
     skip;rcases xf.mp hM with rfl|hM
     ·exact hL
     ·exact k2 M hM⟩
  exact q l vs' Ms H' nl ql (r2.imp λz=>z.mono e) (j2l (S:=hom c) (λh g e=>wK_in h g e) hG' hG pm) (v7.mp pw) e
def jmk:List V->Hp->VK->Prop:=λxs H Q=>jco xs H Q\/rSoD xs H Q
theorem cSoD3{k:Nat}(hr:Room k X.A)(hc:X.calm=true):CallR X (.builtin "sorted") jmk:=(jm1 hc).or (cSoD hr hc)
end
end L2
set_option Elab.async false
set_option linter.all false
set_option maxRecDepth 100000
set_option maxHeartbeats 4000000
namespace L2
open PySem PySem.Spec PyProof.Rows PySem.W
section
variable{P:yy}{w:World}{K:y9}{mg:Str->Option Value}{base:Heap}{x qual:Str}{st:Stmt}{f:Addr}{fd:xi}{N ps:List Str}{k:Nat}{sp:Sp}
theorem Fun.okU1(F:Fun K x qual st f fd)(S:FnScope N ps (j05 st))
  (hb:∀vs H Q E,sp vs H Q E->vs.length=ps.length/\∀(cdv:Value) (A:gw) (outer:List Env) (s:ye),Room k (A.deeper (envOfC qual (j05 st) s.heap.objs.size f cdv))->
   ∃t,PSs (cxOf (CXU P w) P w K mg base N qual (j05 st) f cdv A outer s H E).nox (j1d st) t/\t {nx:=λ_ H'=>Q .non H',rt:=Q} (start N vs) H):FnOk P w K mg base (CXU P w) (k+1) f fd ps sp:=
 F.okU S (λvs H Q E h=>(hb vs H Q E h).1) λcdv A outer s H vs Q E hr h=>(hb vs H Q E h).2 cdv A outer s hr
theorem Fun.b1(F:Fun K x qual st f fd)(h:∀(kV doc pm:Value) (an:Option Addr) (cdv ct:Value) (a:Value),bindArgs (ut x qual (j1k st) (j1d st) (j05 st) .none kV doc pm an cdv ct) ⟨[a],[]⟩=pure (ps.zip [a]):=by exact λ_ _ _ _ _ _ _=>rfl)(l:ps.length=1:=by rfl):Binds K fd ps []:=
 F.binds λkV doc pm an cdv ct us hl=>al1 (P:=λus=>bindArgs (ut x qual (j1k st) (j1d st) (j05 st) .none kV doc pm an cdv ct) ⟨us,[]⟩=pure (ps.zip us)) (h kV doc pm an cdv ct) us (hl.trans l)
theorem Fun.b2(F:Fun K x qual st f fd)(h:∀(kV doc pm:Value) (an:Option Addr) (cdv ct:Value) (a b:Value),bindArgs (ut x qual (j1k st) (j1d st) (j05 st) .none kV doc pm an cdv ct) ⟨[a,b],[]⟩=pure (ps.zip [a,b]):=by exact λ_ _ _ _ _ _ _ _=>rfl)(l:ps.length=2:=by rfl):Binds K fd ps []:=
 F.binds λkV doc pm an cdv ct us hl=>al2 (P:=λus=>bindArgs (ut x qual (j1k st) (j1d st) (j05 st) .none kV doc pm an cdv ct) ⟨us,[]⟩=pure (ps.zip us)) (h kV doc pm an cdv ct) us (hl.trans l)
theorem Fun.b3(F:Fun K x qual st f fd)(h:∀(kV doc pm:Value) (an:Option Addr) (cdv ct:Value) (a b c:Value),bindArgs (ut x qual (j1k st) (j1d st) (j05 st) .none kV doc pm an cdv ct) ⟨[a,b,c],[]⟩=pure (ps.zip [a,b,c]):=by exact λ_ _ _ _ _ _ _ _ _=>rfl)(l:ps.length=3:=by rfl):Binds K fd ps []:=
 F.binds λkV doc pm an cdv ct us hl=>al3 (P:=λus=>bindArgs (ut x qual (j1k st) (j1d st) (j05 st) .none kV doc pm an cdv ct) ⟨us,[]⟩=pure (ps.zip us)) (h kV doc pm an cdv ct) us (hl.trans l)
theorem Fun.b4(F:Fun K x qual st f fd)(h:∀(kV doc pm:Value) (an:Option Addr) (cdv ct:Value) (a b c d:Value),bindArgs (ut x qual (j1k st) (j1d st) (j05 st) .none kV doc pm an cdv ct) ⟨[a,b,c,d],[]⟩=pure (ps.zip [a,b,c,d]):=by exact λ_ _ _ _ _ _ _ _ _ _=>rfl)(l:ps.length=4:=by rfl):Binds K fd ps []:=
 F.binds λkV doc pm an cdv ct us hl=>al4 (P:=λus=>bindArgs (ut x qual (j1k st) (j1d st) (j05 st) .none kV doc pm an cdv ct) ⟨us,[]⟩=pure (ps.zip us)) (h kV doc pm an cdv ct) us (hl.trans l)
structure FunG(K:y9)(mg:Str->Option Value)(x:Str)(st:Stmt)(f:Addr)(fd:xi):Prop extends Fun K x x st f fd where
 m:mg x=some (.ref f)
theorem FnN.g{h:Heap}(l:FnN K x st f)(X:K.In h)(G:h.Ns mainGlobals mg):∃fd,FunG K mg x st f fd:=l.2.imp λ_ F=>⟨F,y0o X G l.1⟩
end
theorem j16{X:Cx}{x:Str}{st:Stmt}{f:Addr}{fd:xi}{ps:List Str}{k n:Nat}{sp:Sp}{P:yy}{w:World}{e:Expr}{es:List Expr}{t:TA}{p pos:Pos}(F:FnOk X.prog X.w X.K X.mg X.base (CXU P w) k f fd ps sp)(hr:Room n X.A)(Z:FunG X.K X.mg x st f fd)(hb:Binds X.K fd ps [])(ha:PA X (e::es) t)(hk:k<=n:=by decide)(hg:Gl X x:=by rfl)
  (hdb:(x==("__debug__":Str))=false:=by decide) (he:starEach (e::es) X.env=(false,eval e X.env)::starEach es X.env:=by rfl) (hpl:(backTo pos (starEach es X.env)).any (·.1)=false:=by rfl):PE X (.Call (.Name x p) (e::es) [] pos) (jo7 sp [] E0 t):=
 j4o F (hr.mono hk) hg Z.m Z.kp hb .nil j24 ha hdb he hpl
end L2
namespace Q
open PySem PySem.Spec PyProof.Rows L2
def top(i:Nat):Stmt:=y8m.main.body.getD i (.Pass ⟨0,0,0,0⟩)
abbrev s54:Stmt:=top 57
abbrev s44:Stmt:=top 38
abbrev s39:Stmt:=top 36
abbrev s_z2:Stmt:=top 39
abbrev s52:Stmt:=top 9
abbrev s_z11:Stmt:=top 7
abbrev s48:Stmt:=top 6
abbrev s20:Stmt:=j13 (top 32) 4
abbrev s_z1:Stmt:=j13 (top 11) 4
abbrev s21:Stmt:=j13 (top 32) 3
abbrev s_z8:Stmt:=j13 (top 30) 3
abbrev s_z6:Stmt:=j13 (top 27) 3
abbrev s_z3:Stmt:=top 25
abbrev s27:Stmt:=top 24
abbrev s17:Stmt:=j13 (top 22) 3
abbrev s_z4:Stmt:=top 20
abbrev s15:Stmt:=j13 (top 18) 3
abbrev s13:Stmt:=j13 (top 16) 3
abbrev s50:Stmt:=top 15
abbrev s51:Stmt:=top 14
abbrev s_z7:Stmt:=j13 (top 30) 4
abbrev s49:Stmt:=top 29
abbrev s_z5:Stmt:=j13 (top 27) 4
abbrev s22:Stmt:=top 26
abbrev s16:Stmt:=j13 (top 22) 4
abbrev s53:Stmt:=top 21
abbrev s14:Stmt:=j13 (top 18) 4
abbrev s12:Stmt:=j13 (top 16) 4
abbrev s_z0:Stmt:=top 8
abbrev s29:Stmt:=j13 (top 18) 0
abbrev s43:Stmt:=top 56
abbrev s46:Stmt:=top 55
abbrev s32:Stmt:=top 54
abbrev s_z10:Stmt:=top 53
abbrev s23:Stmt:=top 52
abbrev s37:Stmt:=top 51
abbrev s45:Stmt:=top 50
abbrev s26:Stmt:=top 49
abbrev s40:Stmt:=top 48
abbrev s28:Stmt:=j13 (top 16) 0
abbrev s19:Stmt:=j13 (top 30) 0
abbrev s31:Stmt:=j13 (top 32) 0
abbrev s18:Stmt:=j13 (top 27) 0
abbrev s30:Stmt:=j13 (top 22) 0
abbrev s42:Stmt:=top 47
abbrev s38:Stmt:=top 46
abbrev s34:Stmt:=top 35
abbrev s47:Stmt:=top 37
abbrev s36:Stmt:=top 45
abbrev s35:Stmt:=top 40
abbrev s_z9:Stmt:=top 44
abbrev s25:Stmt:=top 43
abbrev s24:Stmt:=top 42
abbrev s33:Stmt:=top 41
abbrev s41:Stmt:=top 34
set_option genInjectivity false in
structure Adr where
 f54:Addr
 d54:xi
 f44:Addr
 d44:xi
 f39:Addr
 d39:xi
 f_z2:Addr
 d_z2:xi
 f52:Addr
 d52:xi
 f11:Addr
 d11:xi
 f48:Addr
 d48:xi
 f20:Addr
 d20:xi
 f_z1:Addr
 d_z1:xi
 f21:Addr
 d21:xi
 f_z8:Addr
 d8:xi
 f_z6:Addr
 d6:xi
 f_z3:Addr
 d_z3:xi
 f27:Addr
 d27:xi
 f17:Addr
 d17:xi
 f_z4:Addr
 d4:xi
 f15:Addr
 d15:xi
 f13:Addr
 d13:xi
 f50:Addr
 d50:xi
 f51:Addr
 d51:xi
 f_z7:Addr
 d_z7:xi
 f49:Addr
 d49:xi
 f_z5:Addr
 d5:xi
 f22:Addr
 d22:xi
 f16:Addr
 d16:xi
 f53:Addr
 d53:xi
 f14:Addr
 d14:xi
 f12:Addr
 d12:xi
 f_z0:Addr
 d_z0:xi
 f29:Addr
 d29:xi
 f43:Addr
 d43:xi
 f46:Addr
 d46:xi
 f32:Addr
 d32:xi
 f10:Addr
 d10:xi
 f23:Addr
 d23:xi
 f37:Addr
 d37:xi
 f45:Addr
 d45:xi
 f26:Addr
 d26:xi
 f40:Addr
 d40:xi
 f28:Addr
 d28:xi
 f19:Addr
 d19:xi
 f31:Addr
 d31:xi
 f18:Addr
 d18:xi
 f30:Addr
 d30:xi
 f42:Addr
 d42:xi
 f38:Addr
 d38:xi
 f34:Addr
 d34:xi
 f47:Addr
 d47:xi
 f36:Addr
 d36:xi
 f35:Addr
 d35:xi
 f9:Addr
 d9:xi
 f25:Addr
 d25:xi
 f_z24:Addr
 d24:xi
 f33:Addr
 d33:xi
 f41:Addr
 d41:xi
 nv:Addr
 cu:Addr
 cv:Addr
 cw:Addr
 c7:Addr
 c9:Addr
 cg:Addr
 mq:Tok
 nh:Tok
structure Txt(K:y9)(mg:Str->Option Value)(a:Adr):Prop where
 F54:FunG K mg "law" s54 a.f54 a.d54
 F44:FunG K mg "_law_same" s44 a.f44 a.d44
 F39:FunG K mg "_law_whole" s39 a.f39 a.d39
 F2:FunG K mg "_law_all_same" s_z2 a.f_z2 a.d_z2
 F52:FunG K mg "table" s52 a.f52 a.d52
 F11:FunG K mg "traced_rows" s_z11 a.f11 a.d11
 F48:FunG K mg "reached" s48 a.f48 a.d48
 F20:Fun K "moves" "Ways.moves" s20 a.f20 a.d20
 F1:Fun K "priced" "World.priced" s_z1 a.f_z1 a.d_z1
 F21:Fun K "price" "Ways.price" s21 a.f21 a.d21
 F8:Fun K "price" "Store.price" s_z8 a.f_z8 a.d8
 F6:Fun K "price" "Shelf.price" s_z6 a.f_z6 a.d6
 F3:FunG K mg "turned_pairs" s_z3 a.f_z3 a.d_z3
 F27:FunG K mg "overtakers" s27 a.f27 a.d27
 F17:Fun K "price" "Line.price" s17 a.f17 a.d17
 F4:FunG K mg "ways_between" s_z4 a.f_z4 a.d4
 F15:Fun K "price" "Hire.price" s15 a.f15 a.d15
 F13:Fun K "price" "Bags.price" s13 a.f13 a.d13
 F50:FunG K mg "filled" s50 a.f50 a.d50
 F51:FunG K mg "opened" s51 a.f51 a.d51
 F7:Fun K "moves" "Store.moves" s_z7 a.f_z7 a.d_z7
 F49:FunG K mg "swapped" s49 a.f49 a.d49
 F5:Fun K "moves" "Shelf.moves" s_z5 a.f_z5 a.d5
 F22:FunG K mg "all_orders" s22 a.f22 a.d22
 F16:Fun K "moves" "Line.moves" s16 a.f16 a.d16
 F53:FunG K mg "sent" s53 a.f53 a.d53
 F14:Fun K "moves" "Hire.moves" s14 a.f14 a.d14
 F12:Fun K "moves" "Bags.moves" s12 a.f12 a.d12
 F0:FunG K mg "without_trace" s_z0 a.f_z0 a.d_z0
 F29:Fun K "__init__" "Hire.__init__" s29 a.f29 a.d29
 F43:FunG K mg "_law_rows" s43 a.f43 a.d43
 F46:FunG K mg "_law_row" s46 a.f46 a.d46
 F32:FunG K mg "_law_after" s32 a.f32 a.d32
 F10:FunG K mg "_law_put_out" s_z10 a.f10 a.d10
 F23:FunG K mg "_law_orders" s23 a.f23 a.d23
 F37:FunG K mg "_law_price" s37 a.f37 a.d37
 F45:FunG K mg "_law_put" s45 a.f45 a.d45
 F26:FunG K mg "_law_turned" s26 a.f26 a.d26
 F40:FunG K mg "_law_world" s40 a.f40 a.d40
 F28:Fun K "__init__" "Bags.__init__" s28 a.f28 a.d28
 F19:Fun K "__init__" "Store.__init__" s19 a.f19 a.d19
 F31:Fun K "__init__" "Ways.__init__" s31 a.f31 a.d31
 F18:Fun K "__init__" "Shelf.__init__" s18 a.f18 a.d18
 F30:Fun K "__init__" "Line.__init__" s30 a.f30 a.d30
 F42:FunG K mg "_law_game" s42 a.f42 a.d42
 F38:FunG K mg "_law_sizes" s38 a.f38 a.d38
 F34:FunG K mg "_law_mixed" s34 a.f34 a.d34
 F47:FunG K mg "_law_sum" s47 a.f47 a.d47
 F36:FunG K mg "_law_pages" s36 a.f36 a.d36
 F35:FunG K mg "_law_names" s35 a.f35 a.d35
 F9:FunG K mg "_law_charged" s_z9 a.f9 a.d9
 F25:FunG K mg "_law_things" s25 a.f25 a.d25
 F24:FunG K mg "_law_places" s24 a.f_z24 a.d24
 F33:FunG K mg "_law_hires" s33 a.f33 a.d33
 F41:FunG K mg "_law_cell" s41 a.f41 a.d41
 m_Bags:mg "Bags"=some (.ref a.cu)
 mh:Cls K a.cu
 nq:Mk K a.cu a.f28
 da:NoAttr K a.cu "room"
 mf:Meth K a.cu "moves" a.f12
 me:Meth K a.cu "price" a.f13
 t9:Meth K a.cu "priced" a.f_z1
 m_Hire:mg "Hire"=some (.ref a.cv)
 ml:Cls K a.cv
 nk:Mk K a.cv a.f29
 de:NoAttr K a.cv "whole"
 md:Meth K a.cv "moves" a.f14
 ma:Meth K a.cv "price" a.f15
 t7:Meth K a.cv "priced" a.f_z1
 m_Line:mg "Line"=some (.ref a.cw)
 tj:Cls K a.cw
 nt:Mk K a.cw a.f30
 ck:NoAttr K a.cw "many"
 tm:Meth K a.cw "moves" a.f16
 tw:Meth K a.cw "price" a.f17
 dg:Meth K a.cw "priced" a.f_z1
 m_Shelf:mg "Shelf"=some (.ref a.c7)
 mi:Cls K a.c7
 ng:Mk K a.c7 a.f18
 cx:NoAttr K a.c7 "things"
 dv:Meth K a.c7 "moves" a.f_z5
 eh:Meth K a.c7 "price" a.f_z6
 dk:Meth K a.c7 "priced" a.f_z1
 m_Store:mg "Store"=some (.ref a.c9)
 dh:Cls K a.c9
 ni:Mk K a.c9 a.f19
 cf:NoAttr K a.c9 "many"
 t5:Meth K a.c9 "moves" a.f_z7
 dn:Meth K a.c9 "price" a.f_z8
 cz:Meth K a.c9 "priced" a.f_z1
 m_Ways:mg "Ways"=some (.ref a.cg)
 dm:Cls K a.cg
 nn:Mk K a.cg a.f31
 cq:NoAttr K a.cg "many"
 dj:NoAttr K a.cg "toll"
 m9:Meth K a.cg "moves" a.f20
 tu:Meth K a.cg "price" a.f21
 dq:Meth K a.cg "priced" a.f_z1
 n_abs:mg "abs"=none
 qg:mg "bool"=none
 qp:mg "int"=none
 c3:mg "isinstance"=none
 cr:mg "len"=none
 mj:mg "list"=none
 qx:mg "max"=none
 o9:mg "min"=none
 c8:mg "range"=none
 n_set:mg "set"=none
 cj:mg "sorted"=none
 n_str:mg "str"=none
 qm:mg "sum"=none
 dc:mg "tuple"=none
 qw:mg "zip"=none
 oh:mg "MOST_STATES"=some (.int 60 a.mq)
 qe:mg "MOST_BAGS"=some (.int 500 a.nh)
theorem all_mk{l:y5p}{w:World}{K:y9}{h:Heap}{mg:Str->Option Value}{fa:Addr}(sp:y9->Sp)(ok:∀(a:Adr) (base:Heap),Txt K mg a->FnOk l.prog w K mg base (CXU l.prog w) 14 a.f54 a.d54 ["_law_script"] (sp K))(X:K.In h)(G:h.Ns mainGlobals mg)(hfa:mg "law"=some (.ref fa))
  {f54 f44 f39 f_z2 f52 f11 f48 f20 f_z1 f21 f_z8 f_z6 f_z3 f27 f17 f_z4 f15 f13 f50 f51 f_z7 f49 f_z5 f22 f16 f53 f14 f12 f_z0 f29 f43 f46 f32 f10 f23 f37 f45 f26 f40 f28 f19 f31 f18 f30 f42 f38 f34 f47 f36 f35 f9 f25 f_z24 f33 f41 nv cu cv cw c7 c9 cg:Addr}
  {mq:Tok}
  {nh:Tok}
  (qd:NsC K "World" nv)
  (oo:NsC K "Bags" cu)
  (om:NsC K "Hire" cv)
  (oq:NsC K "Line" cw)
  (og:NsC K "Shelf" c7)
  (o8:NsC K "Store" c9)
  (ou:NsC K "Ways" cg)
  (l54:FnN K "law" s54 f54)
  (l44:FnN K "_law_same" s44 f44)
  (l39:FnN K "_law_whole" s39 f39)
  (l_z2:FnN K "_law_all_same" s_z2 f_z2)
  (l52:FnN K "table" s52 f52)
  (l11:FnN K "traced_rows" s_z11 f11)
  (l48:FnN K "reached" s48 f48)
  (l20:FnM K cg "moves" "Ways.moves" s20 f20)
  (l_z1:FnM K nv "priced" "World.priced" s_z1 f_z1)
  (l21:FnM K cg "price" "Ways.price" s21 f21)
  (l_z8:FnM K c9 "price" "Store.price" s_z8 f_z8)
  (l_z6:FnM K c7 "price" "Shelf.price" s_z6 f_z6)
  (l_z3:FnN K "turned_pairs" s_z3 f_z3)
  (l27:FnN K "overtakers" s27 f27)
  (l17:FnM K cw "price" "Line.price" s17 f17)
  (l_z4:FnN K "ways_between" s_z4 f_z4)
  (l15:FnM K cv "price" "Hire.price" s15 f15)
  (l13:FnM K cu "price" "Bags.price" s13 f13)
  (l50:FnN K "filled" s50 f50)
  (l51:FnN K "opened" s51 f51)
  (l_z7:FnM K c9 "moves" "Store.moves" s_z7 f_z7)
  (l49:FnN K "swapped" s49 f49)
  (l_z5:FnM K c7 "moves" "Shelf.moves" s_z5 f_z5)
  (l22:FnN K "all_orders" s22 f22)
  (l16:FnM K cw "moves" "Line.moves" s16 f16)
  (l53:FnN K "sent" s53 f53)
  (l14:FnM K cv "moves" "Hire.moves" s14 f14)
  (l_z12:FnM K cu "moves" "Bags.moves" s12 f12)
  (l_z0:FnN K "without_trace" s_z0 f_z0)
  (l29:FnM K cv "__init__" "Hire.__init__" s29 f29)
  (l43:FnN K "_law_rows" s43 f43)
  (l46:FnN K "_law_row" s46 f46)
  (l32:FnN K "_law_after" s32 f32)
  (l10:FnN K "_law_put_out" s_z10 f10)
  (l23:FnN K "_law_orders" s23 f23)
  (l37:FnN K "_law_price" s37 f37)
  (l45:FnN K "_law_put" s45 f45)
  (l26:FnN K "_law_turned" s26 f26)
  (l40:FnN K "_law_world" s40 f40)
  (l28:FnM K cu "__init__" "Bags.__init__" s28 f28)
  (l19:FnM K c9 "__init__" "Store.__init__" s19 f19)
  (l31:FnM K cg "__init__" "Ways.__init__" s31 f31)
  (l18:FnM K c7 "__init__" "Shelf.__init__" s18 f18)
  (l30:FnM K cw "__init__" "Line.__init__" s30 f30)
  (l42:FnN K "_law_game" s42 f42)
  (l38:FnN K "_law_sizes" s38 f38)
  (l34:FnN K "_law_mixed" s34 f34)
  (l47:FnN K "_law_sum" s47 f47)
  (l36:FnN K "_law_pages" s36 f36)
  (l35:FnN K "_law_names" s35 f35)
  (l_z9:FnN K "_law_charged" s_z9 f9)
  (l25:FnN K "_law_things" s25 f25)
  (l24:FnN K "_law_places" s24 f_z24)
  (l33:FnN K "_law_hires" s33 f33)
  (l41:FnN K "_law_cell" s41 f41)
  (mh:Cls K cu)
  (nq:Mk K cu f28)
  (da:NoAttr K cu "room")
  (mf:Meth K cu "moves" f12)
  (me:Meth K cu "price" f13)
  (t9:Meth K cu "priced" f_z1)
  (ml:Cls K cv)
  (nk:Mk K cv f29)
  (de:NoAttr K cv "whole")
  (md:Meth K cv "moves" f14)
  (ma:Meth K cv "price" f15)
  (t7:Meth K cv "priced" f_z1)
  (tj:Cls K cw)
  (nt:Mk K cw f30)
  (ck:NoAttr K cw "many")
  (tm:Meth K cw "moves" f16)
  (tw:Meth K cw "price" f17)
  (dg:Meth K cw "priced" f_z1)
  (mi:Cls K c7)
  (ng:Mk K c7 f18)
  (cx:NoAttr K c7 "things")
  (dv:Meth K c7 "moves" f_z5)
  (eh:Meth K c7 "price" f_z6)
  (dk:Meth K c7 "priced" f_z1)
  (dh:Cls K c9)
  (ni:Mk K c9 f19)
  (cf:NoAttr K c9 "many")
  (t5:Meth K c9 "moves" f_z7)
  (dn:Meth K c9 "price" f_z8)
  (cz:Meth K c9 "priced" f_z1)
  (dm:Cls K cg)
  (nn:Mk K cg f31)
  (cq:NoAttr K cg "many")
  (dj:NoAttr K cg "toll")
  (m9:Meth K cg "moves" f20)
  (tu:Meth K cg "price" f21)
  (dq:Meth K cg "priced" f_z1)
  (qt:NsB K "abs")
  (qi:NsB K "bool")
  (z_int:NsB K "int")
  (mx:NsB K "isinstance")
  (qu:NsB K "len")
  (qh:NsB K "list")
  (qv:NsB K "max")
  (qy:NsB K "min")
  (on:NsB K "range")
  (qz:NsB K "set")
  (o6:NsB K "sorted")
  (z_str:NsB K "str")
  (qr:NsB K "sum")
  (qa:NsB K "tuple")
  (qq:NsB K "zip")
  (mn:y63 K mainGlobals "MOST_STATES"=some (some (.int 60 mq)))
  (mz:y63 K mainGlobals "MOST_BAGS"=some (some (.int 500 nh))):
  ∃fd:xi,(∀(s:ye) (v:Value),y6r s fd ⟨[v],[]⟩ [("_law_script",v)])/\∀base:Heap,K.In base->base.Ns mainGlobals mg->FnOk l.prog w K mg base (CXU l.prog w) 14 fa fd ["_law_script"] (sp K):=by
 obtain⟨a54,d54,F54⟩:=l54;obtain⟨d44,F44⟩:=l44.g X G;obtain⟨d39,F39⟩:=l39.g X G;obtain⟨d_z2,F2⟩:=l_z2.g X G;obtain⟨d52,F52⟩:=l52.g X G;obtain⟨d11,F11⟩:=l11.g X G;obtain⟨d48,F48⟩:=l48.g X G;obtain⟨a20,d20,F20⟩:=l20;obtain⟨a_z1,d_z1,F1⟩:=l_z1;obtain⟨a21,d21,F21⟩:=l21;obtain⟨a_z8,d8,F8⟩:=l_z8;obtain⟨a_z6,d6,F6⟩:=l_z6;obtain⟨d_z3,F3⟩:=l_z3.g X G;obtain⟨d27,F27⟩:=l27.g X G;obtain⟨a17,d17,F17⟩:=l17;obtain⟨d4,F4⟩:=l_z4.g X G;obtain⟨a15,d15,F15⟩:=l15;obtain⟨a13,d13,F13⟩:=l13;obtain⟨d50,F50⟩:=l50.g X G;obtain⟨d51,F51⟩:=l51.g X G;obtain⟨a7,d_z7,F7⟩:=l_z7;obtain⟨d49,F49⟩:=l49.g X G;obtain⟨a_z5,d5,F5⟩:=l_z5;obtain⟨d22,F22⟩:=l22.g X G;obtain⟨a16,d16,F16⟩:=l16;obtain⟨d53,F53⟩:=l53.g X G;obtain⟨a14,d14,F14⟩:=l14;obtain⟨a12,d12,F12⟩:=l_z12;obtain⟨d_z0,F0⟩:=l_z0.g X G;obtain⟨a29,d29,F29⟩:=l29;obtain⟨d43,F43⟩:=l43.g X G;obtain⟨d46,F46⟩:=l46.g X G;obtain⟨d32,F32⟩:=l32.g X G;obtain⟨d10,F10⟩:=l10.g X G;obtain⟨d23,F23⟩:=l23.g X G;obtain⟨d37,F37⟩:=l37.g X G;obtain⟨d45,F45⟩:=l45.g X G;obtain⟨d26,F26⟩:=l26.g X G;obtain⟨d40,F40⟩:=l40.g X G;obtain⟨a28,d28,F28⟩:=l28;obtain⟨a19,d19,F19⟩:=l19;obtain⟨a31,d31,F31⟩:=l31;obtain⟨a18,d18,F18⟩:=l18;obtain⟨a30,d30,F30⟩:=l30;obtain⟨d42,F42⟩:=l42.g X G;obtain⟨d38,F38⟩:=l38.g X G;obtain⟨d34,F34⟩:=l34.g X G;obtain⟨d47,F47⟩:=l47.g X G;obtain⟨d36,F36⟩:=l36.g X G;obtain⟨d35,F35⟩:=l35.g X G;obtain⟨d9,F9⟩:=l_z9.g X G;obtain⟨d25,F25⟩:=l25.g X G;obtain⟨d24,F24⟩:=l24.g X G;obtain⟨d33,F33⟩:=l33.g X G;obtain⟨d41,F41⟩:=l41.g X G;have e:=hfa.symm.trans (y0o X G a54);cases e;have T:Txt K mg ⟨fa,d54,f44,d44,f39,d39,f_z2,d_z2,f52,d52,f11,d11,f48,d48,f20,d20,f_z1,d_z1,f21,d21,f_z8,d8,f_z6,d6,f_z3,d_z3,f27,d27,f17,d17,f_z4,d4,f15,d15,f13,d13,f50,d50,f51,d51,f_z7,d_z7,f49,d49,f_z5,d5,f22,d22,f16,d16,f53,d53,f14,d14,f12,d12,f_z0,d_z0,f29,d29,f43,d43,f46,d46,f32,d32,f10,d10,f23,d23,f37,d37,f45,d45,f26,d26,f40,d40,f28,d28,f19,d19,f31,d31,f18,d18,f30,d30,f42,d42,f38,d38,f34,d34,f47,d47,f36,d36,f35,d35,f9,d9,f25,d25,f_z24,d24,f33,d33,f41,d41,nv,cu,cv,cw,c7,c9,cg,_,_⟩:=⟨⟨F54,y0o X G a54⟩,F44,F39,F2,F52,F11,F48,F20,F1,F21,F8,F6,F3,F27,F17,F4,F15,F13,F50,F51,F7,F49,F5,F22,F16,F53,F14,F12,F0,F29,F43,F46,F32,F10,F23,F37,F45,F26,F40,F28,F19,F31,F18,F30,F42,F38,F34,F47,F36,F35,F9,F25,F24,F33,F41,y0o X G oo,mh,nq,da,mf,me,t9,y0o X G om,ml,nk,de,md,ma,t7,y0o X G oq,tj,nt,ck,tm,tw,dg,y0o X G og,mi,ng,cx,dv,eh,dk,y0o X G o8,dh,ni,cf,t5,dn,cz,y0o X G ou,dm,nn,cq,dj,m9,tu,dq,vb X G qt,vb X G qi,vb X G z_int,vb X G mx,vb X G qu,vb X G qh,vb X G qv,vb X G qy,vb X G on,vb X G qz,vb X G o6,vb X G z_str,vb X G qr,vb X G qa,vb X G qq,y0o X G mn,y0o X G mz⟩
 exact⟨_,F54.one λ_ _ _ _ _ _ _ _=>rfl,λbase _ _=>ok _ base T⟩
theorem walk{l:y5p}{q:yy}{loose:List Str}{XP:(Str->Option Value)->Heap->Prop}{YP:World->Heap->Prop}{d:ydx}{K:ye0->y9}(sp:y9->Sp)(hsp:∀(K:y9) (H:Hp) (a:Addr) (ns:List Int),ns.length<=63->(∀z∈ns,ib z<=1048576)->SqL K H a (ns.map V.int)->sp K [.ref a] H (λv _=>v=.bl true) λ_ _ _=>False)(hn:l.most=some 63)(hdf:d.params.defaults=[])
  (hY:∀(w:World) (h:Heap),YP w h->(K w.params).In h)
  (F:∀(w:World) (mg:Str->Option Value) (fa:Addr) (h:Heap),(K w.params).In h->h.Ns mainGlobals mg->mg d.name=some (.ref fa)->
   ∃fd:xi,(∀(s:ye) (u:Value),y6r s fd ⟨[u],[]⟩ [("_law_script",u)])/\∀base:Heap,(K w.params).In base->base.Ns mainGlobals mg->FnOk l.prog w (K w.params) mg base (CXU l.prog w) 14 fa fd ["_law_script"] (sp (K w.params))):
  y9g q loose XP YP l.row.toRowW d [] (λf vs=>y8a f vs):=
 L2.walk_ofB (n:=63) (k:=14) (x:="_law_script") (CX:=λw=>CXU l.prog w) (sp:=λw=>sp (K w.params)) hn (by decide) hdf ⟨rfl,by decide,by decide,rfl⟩ hY F (λ_ _ a ns hl hb _ hS=>hsp _ _ a ns hl hb hS) noneU
end Q
section
structure PySem.W.Fast:Prop where
  (tw12677520725433569207 tw3954437258503901811 tw5293463546825667899 tw15028918236442731988 tw606317216998577856 tw5578045806752416766 tw5403513629954458689 tw12537446119320851083 tw2289059401541609008 tw9658135104657489451 tw17734417002334873934 tw9331380959578771839 tw12970958019009881416 tw10174024826649913352 tw6451585682004064150 tw402267874018761254 tw7450768137655066330 tw14408218170274719391 tw9132463322179508917 tw6953191858201396817 tw11376931222201599021 tw9670369126855456019 tw2495272503499223091 tw726514246842163148 tw3056791064594770312 tw11127368068858634477 tw18224230317170560276 tw14879290585773778110 tw2970308138383928236 tw4328392766418441692 tw14596032775593098237 tw15955254611607536370 tw2018001643029270189 tw13555094374762156531 tw3582975368008130842 tw10232438730514873899 tw2043922391995694616 tw2079145688549073071 tw12374234016457948265 tw11664452660070274340 tw16425984255650847179 tw14592515236142626311 tw12825617423008672286 tw4693526489357496764 tw9270891471782941215 tw1748339761544592802 tw13637045682470562244 tw13692076379956222699 tw17228462529828191248 tw11056925669747400752 tw17092971517061066239 tw4919454974941869581 tw8792803707108585697 tw15928192372453537633 tw8291738732253613609 tw8958162651008797678 tw7899648415758726591 tw7625327750230316218 tw12210465158406381253 tw16424508144191112862 tw9280250355037485702 tw14577358760896447265 tw3073589090919992560 tw18390968885155203610 tw3388329103206080410 tw11346408765897515902 tw1143815241720425190 tw6645615685395359995 tw9950961184908071077 tw11212595881705562128 tw6339597443775132972 tw5117296092986743699 tw5871067521856668721 tw4648773962114883810 tw3390069861625810520 tw16260974571544202121 tw2723992792937689810 tw9680958532365206720 tw15016720541443225427 tw14249785457718511665 tw3317014806306518113 tw3576672162905772408 tw3810087280000357659 tw4342228135610495454 tw15065385518467906296 tw8890743395740229732 tw912532555344035411 tw16897553425115772932 tw8869056474130428043 tw14181385318957386688 tw627033787291649460 tw12014435130412018482 tw4802985683937141561 tw2140938474201549584 tw12486753408859951966 tw3432095904714360016 tw13646583229337655545 tw981515175602519362 tw9172583685985013692 tw18127905316401777386 tw585746197317166046 tw3083235720526967651 tw13162918157429081506 tw13667201129564398884 tw12646318798687994834 tw11004774077723942667 tw3924490160359884227 tw12541618104411838335 tw12361948946767623499 tw7234793685797052260 tw6725340532799753486 tw15157899204691401232 tw16102889013008982007 tw5518228537520808468 tw15026346927448465200 tw16185209950175263349 tw8801626379607383189 tw10348388353941936853 tw12759787031687128991 tw6392171255720716653 tw13077934329442423072 tw13458893285474301889 tw15795908735799584457 tw17561172071061086913 tw14441293829234721175 tw15736342745570064090 tw18252907044864024900 tw7224263216563666678 tw13067197284897128522 tw9144901486707710048 tw3375599629650316125 tw16781446038534177386 tw217197180681921733 tw1086863875230522219 tw10997153480957543552 tw6092047789309698108 tw5073445113103211888 tw11535179339329265170 tw5946214651157141716 tw2620326695118892271 tw9795400033667577768 tw12127012630166054980 tw17255095661795088863 tw1016701888485333883 tw17647909852381846151 tw10781264477487245691 tw3742258635730810365 tw14329309788423756114 tw3594305685571294547 tw8148316934453790454 tw18210037957347867807 tw7864469367569513507 tw3465921980331904884 tw11861390823703507289 tw12759182520307081245 tw6447956124608050328 tw1291377749627359441 tw17413609169704082425 tw10967118331793576927 tw11229974992536411205 tw6302534398949691152 tw5402231097291552738 tw8756263811064369064 tw15216249627852500469 tw2400554726566029494 tw15389305402281128120 tw2733490689753492129 tw8697880285365299008 tw14151455391465214526 tw14816601695706275306 tw9216663203150996763 tw10420078929803858679 tw12743007452324118209 tw18401722330097349742 tw15924424379206037680 tw16574683397034121118 tw3218372556846178542 tw18016593410587395141 tw3364002984626689177 tw17278431067317715717 tw7916413320035857965 tw4779255212517358401 tw7347604691229235101 tw8870744903050353171 tw8206912612977650157 tw17770911856563416484 tw9321068422352394323 tw12868297867313760178 tw4323028375599275911 tw16113167970401591711 tw5903374482573396459 tw11455305852659649365 tw12837121363355351890 tw17985660483396969172 tw6655269260086228688 tw15536226331454899513 tw6223675086731917320 tw12834074666044584296 tw16848941438203899177 tw2931951570375697895 tw11705878997448379356 tw12467752888434626104 tw17582823796107710981 tw11087569374753521411 tw16408198856634172322 tw13375850331521717171 tw3892347419608671230 tw10852185812694011336 tw5610166955329640566 tw9602169673362447301 tw16819175395024684706 tw3137056210438665145 tw3025371094517977136 tw10418804957839292786 tw3024988184152743072 tw2378092721058115150 tw11128373185233646342 tw12272197823501820964 tw8937929729192552059 tw10104697689761505244 tw7588290805227840292 tw9171406351731717149 tw11614936674834428061 tw9107034956370223149 tw5695698758694646292 tw11808231086585394044 tw17416431071984768848 tw12230752462209577919 tw8025931307080416076 tw9556010372108654352 tw4777769746296742464 tw7658954688367727878 tw18062371923275399699 tw8061067949062246887 tw3272400890735371646 tw16659559206071653533 tw11338981970839920652 tw4496849401713636841 tw12507359315416126280 tw6654077470525784657 tw2974457169211953747 tw15215919770257331475 tw16431807661459763216 tw10059924976026746873 tw13988653496026988807 tw9632897961719679771 tw16178523228736996774 tw6893197527234450016 tw15046182778593028242 tw216453347354789732 tw16840134459599247117 tw15617311599700794148 tw10157966493796747178 tw432386655425496747 tw7329135541370137733 tw9861389662793245426 tw11323193561864967857 tw15955345101782897186 tw5293956784345274869 tw3521235066102209756 tw14010476134010795478 tw13884942539581807733 tw5011470301290488997 tw6317602115156515842 tw14933773906851322521 tw16500199816793230326 tw17871293583391303200 tw962507230743804065 tw4165011621203859878 tw17064350263507650227 tw14107677037867552882 tw13490629338613793183 tw5929336076444060423 tw9206268656823342095 tw11068963319044433792 tw4299406558595628270 tw21771303069227047 tw7428503414171739731 tw3764285182663828276 tw5852613299323721985 tw7043688176215397918 tw2034923431967943111 tw3099212613168087169 tw891483009546024126 tw17101366203089709462 tw16989210527500488193 tw14092453247212691384 tw1963790568780549170 tw11489237301227731102 tw17953353367479339105 tw16671719445918397243 tw13081488611527311944 tw13942594412416775983 tw5595953463983346313 tw9008649805582867516 tw1358374791114553237 tw14060937460934560355 tw2605767132631626664 tw13201181456458002427 tw14796189422802591132 tw2699265737277466037 tw15391873300249357210 tw5002006522181868208 tw7053156052754470243 tw13700108964060108821 tw16582112820901597767 tw8903471398650832084 tw7088614546483885923 tw17478959465133250936 tw17737132147502017594 tw8727561281636025163 tw3577707193490797171 tw9624768746855903691 tw13506621829673918428 tw17158262060830925517 tw6163746901868096044 tw14499329047470939042 tw1509112056646940821 tw12299682900082503070 tw13308152338083241489 tw16733593051325510890 tw13623671494048160078 tw3763437230662090655 tw584814055488394159 tw3738506296399147193 tw17333783963722590853 tw2364571374553671834 tw12453965898525162913 tw11655881830788480438 tw2910848130959679281 tw8519181229958051675 tw5489781136126570417 tw5478839670103990911 tw17963485802563432817 tw6757691725318685549 tw251106476067291413 tw5865457604697485550 tw6449715129766727656 tw16073907266143107552 tw13686245971900603061 tw1345530982083639186 tw17237023374283183320 tw12680461447059826234 tw10039823999233248551 tw10763924278018552642 tw5125091535351951818 tw12944460093279331998 tw12391068544242398928 tw5339944589387986814 tw11654215879873067138 tw3937061152409222776 tw177177822804207790 tw1419567218140083230 tw13850996356752945873 tw16274359271173602370 tw13320780292954404913 tw5932373583290772037 tw15526384719031973983 tw11588356077591012202 tw15477134749838733771 tw3228856420735313588 tw922209284574057668 tw14516342726624630954 tw17066646694158607692 tw18204121484623997269 tw13086643229816612300 tw6307655416437192909 tw16643530033441647967 tw2027665889218219699 tw1296072590570467791 tw9493923344365663917 tw18257464455296620988 tw7020362071565711293 tw12169887836583937807 tw5733670972738678828 tw6616601329597173006 tw14583430903886173526 tw3545397537772319465 tw640854980417646871 tw12443645004476116302 tw8292375372619917978 tw13309382134136350792 tw6349147975980715580 tw2871864936521695903 tw13066679058159784606 tw8608818752622816574 tw3460355371167660465 tw15417977210047667192 tw11360559936853433558 tw1956119106806986308 tw3715516206844934567 tw8973365156523642528 tw17138687895562758252 tw17324875859817884647 tw11283265195269703930 tw1736310864400458918 tw3524901657861293230 tw16943053906168083274 tw15490135755539047637 tw9897148768566976812 tw9677332058149728777 tw7327791647199142690 tw11442402160592057275 tw15860991603168325726 tw9550054472500105878 tw8404633283886644612 tw14664824584153443534 tw13077672369329368634 tw5144244988515719649 tw12327649946287201514 tw11733647518496309095 tw1409996539264957830 tw8477145657857248214 tw3795343820077805953 tw8399441663464567374 tw1823107695501218966:True)
open PySem PySem.W PyProof.Rows
set_option maxRecDepth 100000 in
set_option maxHeartbeats 0 in
open_top PySem.Challenge.cw_lateknow_k62_table_hd for PySem.Challenge.rw_lateknow_k62_table
local macro_rules | `(tactic| walk_at "k0")=>`(tactic| first | ((with_reducible show L2.NsC _ _ _);unfold L2.NsC;k_is) | (unfold L2.NsB;k_is))
local macro_rules | `(tactic| walk_at "kn")=>`(tactic| (unfold L2.NoAttr;k_is))
local macro_rules | `(tactic| walk_at "kf")=>`(tactic| (refine' ⟨?ka,_,L2.fun_mk ?kb ?kc ?kd⟩;(case ka=>k_is);(case kb=>k_is);(case kc=>k_is);(case kd=>k_is)))
local macro_rules | `(tactic| walk_at "k3")=>`(tactic| (refine' ⟨?ka,?kb,?kc⟩;(case ka=>k_is);(case kb=>k_is);(case kc=>k_is)))
local macro_rules | `(tactic| walk_at "k4")=>`(tactic| (refine' ⟨?ka,?kb,?kc,?kd⟩;(case ka=>k_is);(case kb=>k_is);(case kc=>k_is);(case kd=>k_is)))
set_option maxRecDepth 100000 in
set_option maxHeartbeats 0 in
theorem PySem.Challenge.cw_lateknow_k62_table_pre (sp : PySem.W.Frag → L2.Sp) (hsp : ∀ (K : PySem.W.Frag) (H : L2.Hp) (a : Addr) (ns : List Int), ns.length ≤ 63 → (∀ z ∈ ns, L2.ib z ≤ 1048576) → L2.SqL K H a (ns.map L2.V.int) → sp K [.ref a] H (fun v _ => v = .bl true) fun _ _ _ => False)
  (ok:∀(w:World) (K:y9) (mg:Str->Option Value) (a:Q.Adr) (base:Heap),Q.Txt K mg a->L2.FnOk vy.prog w K mg base (L2.CXU vy.prog w) 14 a.f54 a.d54 ["_law_script"] (sp K)):vy.Holds:=by
 refine PySem.Challenge.cw_lateknow_k62_table_hd ?_
 k_fill
 first|refine Q.walk (l:=vy) sp hsp rfl rfl (λw h Y=>PySem.W.kIn_of Y) ?F|refine Q.walk (l:=vy) sp hsp rfl rfl (λw h Y=>PySem.W.km_in_of Y) ?F
 case F=>
  intro w mg fa h KX G hmg
  refine' Q.all_mk sp (λa base T=>ok w _ mg a base T) KX G hmg ?qd ?oo ?om ?oq ?og ?o8 ?ou ?l54 ?l44 ?l39 ?l_z2 ?l52 ?l11 ?l48 ?l20 ?l_z1 ?l21 ?l_z8 ?l_z6 ?l_z3 ?l27 ?l17 ?l_z4 ?l15 ?l13 ?l50 ?l51 ?l_z7 ?l49 ?l_z5 ?l22 ?l16 ?l53 ?l14 ?l_z12 ?l_z0 ?l29 ?l43 ?l46 ?l32 ?l10 ?l23 ?l37 ?l45 ?l26 ?l40 ?l28 ?l19 ?l31 ?l18 ?l30 ?l42 ?l38 ?l34 ?l47 ?l36 ?l35 ?l_z9 ?l25 ?l24 ?l33 ?l41 ?mh ?nq ?da ?mf ?me ?t9 ?ml ?nk ?de ?md ?ma ?t7 ?tj ?nt ?ck ?tm ?tw ?dg ?mi ?ng ?cx ?dv ?eh ?dk ?dh ?ni ?cf ?t5 ?dn ?cz ?dm ?nn ?cq ?dj ?m9 ?tu ?dq ?qt ?qi ?z_int ?mx ?qu ?qh ?qv ?qy ?on ?qz ?o6 ?z_str ?qr ?qa ?qq ?mn ?mz
  (case qd|oo|om|oq|og|o8|ou=>walk_at "k0")
  (case l54|l44|l39|l_z2|l52|l11|l48|l20|l_z1|l21|l_z8|l_z6|l_z3|l27|l17|l_z4|l15|l13|l50|l51|l_z7|l49|l_z5|l22|l16|l53|l14|l_z12|l_z0|l29|l43|l46|l32|l10|l23|l37|l45|l26|l40|l28|l19|l31|l18|l30|l42|l38|l34|l47|l36|l35|l_z9|l25|l24|l33|l41=>walk_at "kf")
  (case mh|nq=>walk_at "k4")
  (case da=>walk_at "kn")
  (case mf|me|t9=>walk_at "k3")
  (case ml|nk=>walk_at "k4")
  (case de=>walk_at "kn")
  (case md|ma|t7=>walk_at "k3")
  (case tj|nt=>walk_at "k4")
  (case ck=>walk_at "kn")
  (case tm|tw|dg=>walk_at "k3")
  (case mi|ng=>walk_at "k4")
  (case cx=>walk_at "kn")
  (case dv|eh|dk=>walk_at "k3")
  (case dh|ni=>walk_at "k4")
  (case cf=>walk_at "kn")
  (case t5|dn|cz=>walk_at "k3")
  (case dm|nn=>walk_at "k4")
  (case cq|dj=>walk_at "kn")
  (case m9|tu|dq=>walk_at "k3")
  (case qt|qi|z_int|mx|qu|qh|qv|qy|on|qz|o6|z_str|qr|qa|qq=>walk_at "k0")
  (case mn|mz=>k_is)
end
namespace Q
open PySem PySem.Spec PyProof.Rows L2
local macro_rules | `(tactic| nofun) => `(tactic| first | exact y7e rfl | exact ydz rfl)
local macro_rules | `(tactic| exists $t:term) => `(tactic| (repeat walk_at "vs");(refine $t))
local macro_rules | `(tactic| symm) => `(tactic| repeat walk_at "vs")
local macro_rules | `(tactic| walk_at "side")=>`(tactic| first | exact⟨by decide,by decide,by decide⟩ | exact y7e ⟨by omega,by omega⟩ | exact ydz (y7e ⟨by omega,by omega⟩) | exact⟨by omega,by omega⟩ | omega | decide)
local macro_rules | `(tactic| walk_at "hp")=>`(tactic| first | assumption | ((refine up (H:=?kH) ?ke ?kf);(case ke=>assumption);(case kf=>walk_at "hp")))
local macro_rules | `(tactic| walk_at "vs")=>`(tactic| first
 |((with_reducible refine r_var (v:=?kv) ?kh ?_);(case kh=>exact rfl))
 |with_reducible refine r_op ?_
 |with_reducible refine r_c ?_
 |with_reducible refine r_seq ?_
 |with_reducible refine r_asg ?_
 |with_reducible refine jkr ?_
 |with_reducible refine r_if ?_
 |with_reducible refine r_test ?_
 |with_reducible refine r_bl ?_
 |with_reducible refine r_I0 ?_
 |with_reducible refine jl9 ?_
 |with_reducible refine jlf ?_
 |with_reducible refine r_leWI ?_
 |((with_reducible refine jg6 ?kc ?_);(case kc=>walk_at "side"))
 |with_reducible refine jks ?_
 |with_reducible refine r_pow6 ?_
 |with_reducible refine r_powM ?_
 |((with_reducible refine r_I ?kc ?_);(case kc=>walk_at "side"))
 |with_reducible refine r_eqUI ?_
 |with_reducible refine r_neI ?_
 |with_reducible refine r_ret ?_
 |with_reducible refine r_next ?_
 |with_reducible refine r_drop ?_
 |with_reducible refine r_not ?_
 |with_reducible refine jkt ?_
 |with_reducible refine r_blT ?_
 |with_reducible refine r_and ?_
 |with_reducible refine r_or ?_
 |with_reducible refine r_andV ?_
 |with_reducible refine r_notV ?_
 |with_reducible refine r_ifE ?_
 |with_reducible refine r_un ?_
 |with_reducible refine r_rU ?_
 |with_reducible refine r_call ?_
 |with_reducible refine r_cb ?_
 |with_reducible refine r_cons ?_
 |with_reducible refine r_nil ?_
 |with_reducible refine r_meth ?_
 |((with_reducible refine r_self (dx:=?kd) (fs:=?kf) ?kh ?kl ?_);(case kh=>walk_at "hp");(case kl=>exact rfl))
 |with_reducible refine r_make ?_
 |with_reducible refine r_fldK ?_
 |((with_reducible refine r_fat (C:=?kC) (dx:=?kd) (fs:=?kf) (v:=?kv) ?kh ?kc ?kn ?kl ?_);(case kh=>walk_at "hp");(case kc=>assumption);(case kn=>assumption);(case kl=>exact rfl))
 |with_reducible refine r_sfld ?_
 |with_reducible refine r_tup ?_
 |with_reducible refine r_lst ?_
 |((with_reducible refine r_newT ?kc ?_);(case kc=>exact rfl))
 |((with_reducible refine r_newL ?kc ?_);(case kc=>exact rfl))
 |with_reducible refine jkv ?_
 |with_reducible refine r_for ?_
 |with_reducible refine r_rng1 ?_
 |with_reducible refine r_zip2 ?_
 |with_reducible refine r_comp ?_
 |with_reducible refine j7t ?_
 |with_reducible refine jhx ?_
 |with_reducible refine r_sl ?_
 |with_reducible refine jhw ?_
 |with_reducible refine r_part ?_
 |with_reducible refine jla ?_
 |with_reducible refine jkw ?_
 |with_reducible refine r_itup ?_
 |with_reducible refine r_bm ?_
 |with_reducible refine r_bm0 ?_
 |((with_reducible refine r_tyl (xs:=?kx) ?kh ?_);(case kh=>walk_at "hp"))
 |with_reducible refine r_tm ?_
 |((with_reducible refine r_tyT (xs:=?kx) ?kh ?_);(case kh=>walk_at "hp"))
 |with_reducible refine r_dget ?_
 |with_reducible refine r_dput ?_
 |with_reducible refine r_gnil ?_
 |with_reducible refine jky ?_
 |((with_reducible refine jkz (xs:=?kx) ?kh ?kl ?_);(case kh=>walk_at "hp");(case kl=>exact rfl))
 |with_reducible refine r_max ?_
 |with_reducible refine r_min ?_
 |with_reducible refine r_abs ?_
 |with_reducible refine r_intB ?_
 |with_reducible refine r_isN ?_
 |with_reducible refine r_notN ?_
 |((with_reducible refine iteTc ?kh ?_);(case kh=>exact rfl))
 |((with_reducible refine iteFc ?kh ?_);(case kh=>exact rfl)))
variable{l b os L ns:List Int}{i j k c0 size f a0:Nat}{R s p:Int}{v:V}{z:Str}{ss:List Str}{H H':Hp}{ys:List V}
section
variable{P:yy}{w:World}{K:y9}{mg:Str->Option Value}{base:Heap}{a:Adr}
seal PA PE PS PSs PT
theorem jae:FnScope ["_law_script","_law_game_here","_law_world_here","_law_wishes","_law_found","_law_held"] ["_law_script"] (j05 s54):=by walk_at "s"
theorem sc44:FnScope ["_law_found","_law_due"] ["_law_found","_law_due"] (j05 s44):=by walk_at "s"
theorem sc39:FnScope ["_law_found"] ["_law_found"] (j05 s39):=by walk_at "s"
theorem jqn:FnScope ["_law_found","_law_due","_law_one","_law_other"] ["_law_found","_law_due"] (j05 s_z2):=by walk_at "s"
theorem sc52:FnScope ["world","start","wishes"] ["world","start","wishes"] (j05 s52):=by walk_at "s"
theorem jj4:FnScope ["world","start","wishes","rows","wish"] ["world","start","wishes"] (j05 s_z11):=by walk_at "s"
theorem jaf:FnScope ["world","row","wish","found","before","paid","after","price"] ["world","row","wish"] (j05 s48):=by walk_at "s"
theorem sc20:FnScope ["self","before","wish"] ["self","before","wish"] (j05 s20):=by walk_at "s"
theorem sc1:FnScope ["self","before","wish","states","pairs"] ["self","before","wish","states"] (j05 s_z1):=by walk_at "s"
theorem sc21:FnScope ["self","before","wish","after"] ["self","before","wish","after"] (j05 s21):=by walk_at "s"
theorem sc8:FnScope ["self","before","wish","after"] ["self","before","wish","after"] (j05 s_z8):=by walk_at "s"
theorem sc6:FnScope ["self","before","wish","after"] ["self","before","wish","after"] (j05 s_z6):=by walk_at "s"
theorem sc3:FnScope ["before","after"] ["before","after"] (j05 s_z3):=by walk_at "s"
theorem jml:FnScope ["order","at","other","place"] ["order","at","other"] (j05 s27):=by walk_at "s"
theorem sc17:FnScope ["self","before","wish","after"] ["self","before","wish","after"] (j05 s17):=by walk_at "s"
theorem sc4:FnScope ["before","after"] ["before","after"] (j05 s_z4):=by walk_at "s"
theorem sc15:FnScope ["self","before","wish","after"] ["self","before","wish","after"] (j05 s15):=by walk_at "s"
theorem jmm:FnScope ["self","before","wish","after","places"] ["self","before","wish","after"] (j05 s13):=by walk_at "s"
theorem sc50:FnScope ["loads","at","size"] ["loads","at","size"] (j05 s50):=by walk_at "s"
theorem sc51:FnScope ["loads","size"] ["loads","size"] (j05 s51):=by walk_at "s"
theorem sc7:FnScope ["self","before","wish"] ["self","before","wish"] (j05 s_z7):=by walk_at "s"
theorem sc49:FnScope ["pages","gone","wish"] ["pages","gone","wish"] (j05 s49):=by walk_at "s"
theorem sc5:FnScope ["self","before","wish"] ["self","before","wish"] (j05 s_z5):=by walk_at "s"
theorem jag:FnScope ["things","orders","thing","longer","order"] ["things"] (j05 s22):=by walk_at "s"
theorem sc16:FnScope ["self","before","wish"] ["self","before","wish"] (j05 s16):=by walk_at "s"
theorem sc53:FnScope ["places","at","wish"] ["places","at","wish"] (j05 s53):=by walk_at "s"
theorem sc14:FnScope ["self","before","wish"] ["self","before","wish"] (j05 s14):=by walk_at "s"
theorem jj5:FnScope ["self","before","wish","loads","states"] ["self","before","wish"] (j05 s12):=by walk_at "s"
theorem sc0:FnScope ["row"] ["row"] (j05 s_z0):=by walk_at "s"
theorem sc29:FnScope ["self","whole"] ["self","whole"] (j05 s29):=by walk_at "s"
theorem jmn:FnScope ["_law_found","_law_game_here","_law_k"] ["_law_found","_law_game_here"] (j05 s43):=by walk_at "s"
theorem jah:FnScope ["_law_game_here","_law_before","_law_wish","_law_due","_law_state","_law_paid","_law_after_here","_law_price_here"] ["_law_game_here","_law_before","_law_wish"] (j05 s46):=by walk_at "s"
theorem sc32:FnScope ["_law_game_here","_law_before","_law_wish"] ["_law_game_here","_law_before","_law_wish"] (j05 s32):=by walk_at "s"
theorem jfa:FnScope ["_law_before","_law_wish","_law_game_here","_law_found","_law_k","_law_others"] ["_law_before","_law_wish","_law_game_here"] (j05 s_z10):=by walk_at "s"
theorem jfb:FnScope ["_law_things_here","_law_found","_law_k","_law_row_here"] ["_law_things_here"] (j05 s23):=by walk_at "s"
theorem sc37:FnScope ["_law_game_here","_law_before","_law_wish","_law_after_here"] ["_law_game_here","_law_before","_law_wish","_law_after_here"] (j05 s37):=by walk_at "s"
theorem jj6:FnScope ["_law_room","_law_before","_law_wish","_law_after_here","_law_k","_law_load"] ["_law_room","_law_before","_law_wish","_law_after_here"] (j05 s45):=by walk_at "s"
theorem jcx:FnScope ["_law_before","_law_wish","_law_after_here","_law_found","_law_k","_law_j"] ["_law_before","_law_wish","_law_after_here"] (j05 s26):=by walk_at "s"
theorem sc40:FnScope ["_law_game_here"] ["_law_game_here"] (j05 s40):=by walk_at "s"
theorem sc28:FnScope ["self","room"] ["self","room"] (j05 s28):=by walk_at "s"
theorem sc19:FnScope ["self","many"] ["self","many"] (j05 s19):=by walk_at "s"
theorem sc31:FnScope ["self","many","toll"] ["self","many","toll"] (j05 s31):=by walk_at "s"
theorem sc18:FnScope ["self","things"] ["self","things"] (j05 s18):=by walk_at "s"
theorem sc30:FnScope ["self","many"] ["self","many"] (j05 s30):=by walk_at "s"
theorem jcy:FnScope ["_law_script","_law_most","_law_head","_law_many","_law_cells"] ["_law_script","_law_most"] (j05 s42):=by walk_at "s"
theorem j80:FnScope ["_law_head","_law_cells","_law_room","_law_wishes","_law_k","_law_number","_law_size","_law_many"] ["_law_head","_law_cells"] (j05 s38):=by walk_at "s"
theorem jmo:FnScope ["_law_cell_here","_law_k","_law_number"] ["_law_cell_here","_law_k"] (j05 s34):=by walk_at "s"
theorem jmp:FnScope ["_law_cell_here","_law_k","_law_number"] ["_law_cell_here","_law_k"] (j05 s47):=by walk_at "s"
theorem jfc:FnScope ["_law_head","_law_cells","_law_many","_law_names_here","_law_wishes"] ["_law_head","_law_cells"] (j05 s36):=by walk_at "s"
theorem j6n:FnScope ["_law_number","_law_many","_law_size","_law_at","_law_letters","_law_same_here","_law_found","_law_j","_law_unlike"] ["_law_number","_law_many"] (j05 s35):=by walk_at "s"
theorem jj7:FnScope ["_law_head","_law_cells","_law_many","_law_toll","_law_wishes","_law_k","_law_number","_law_wide"] ["_law_head","_law_cells"] (j05 s_z9):=by walk_at "s"
theorem jai:FnScope ["_law_head","_law_cells","_law_many","_law_names_here","_law_turn","_law_start","_law_room"] ["_law_head","_law_cells"] (j05 s25):=by walk_at "s"
theorem jcz:FnScope ["_law_head","_law_cells","_law_many","_law_wide","_law_places_here","_law_wishes"] ["_law_head","_law_cells"] (j05 s24):=by walk_at "s"
theorem jj8:FnScope ["_law_head","_law_cells","_law_whole_here","_law_start"] ["_law_head","_law_cells"] (j05 s33):=by walk_at "s"
theorem sc41:FnScope ["_law_script","_law_k"] ["_law_script","_law_k"] (j05 s41):=by walk_at "s"
theorem set_perm:∀(l:List Int) (i:Nat) (w:Int),i<l.length->(l.set i w).Perm (w::l.eraseIdx i)
 |[],_,_,h=>by simp at h
 |x::r,0,w,_=>ux _
 |x::r,i+1,w,h=>by
  have:=set_perm r i w (by simpa using h);exact(this.cons x).trans (y30 w x _)
theorem j3u:∀(l:List Int) (i:Nat),i<l.length->l.Perm (l.getD i 0::l.eraseIdx i)
 |[],_,h=>by simp at h
 |x::r,0,_=>ux _
 |x::r,i+1,h=>by
  have:=j3u r i (by simpa using h);exact(this.cons x).trans (y30 _ x _)
theorem jd0{w:Int}(hi:i<l.length)(hj:j<l.length)(e:l.getD i 0=l.getD j 0):(l.set i w).Perm (l.set j w):=by
 have a:=(j3u l i hi).symm.trans (j3u l j hj);rw[e]at a;have b:=(List.perm_cons _).mp a;exact(set_perm l i w hi).trans ((b.cons w).trans (set_perm l j w hj).symm)
theorem j3v(v:Int):∀{l:List Int},l.Pairwise (·<=·)->l=(l.filter λx=>decide (x<v))++l.filter λx=>!decide (x<v)
 |[],_=>rfl
 |x::r,h=>by
  have hr:=j3v v (ycw h);by_cases c:x<v
  ·simp only[xz,decide_eq_true c,y3r,if_true,y7c];rw[if_neg (by decide)];rw[<- hr]
  ·have hx:=(y0u.mp h).1;have e:r.filter (λx=>decide (x<v))=[]:=by
    rw[List.filter_eq_nil_iff];intro y hy;have:=hx y hy;simp;omega
   simp only[xz,decide_eq_false c,y8o,if_true];rw[e]at hr;rw[if_neg (by decide),e,y3y];rw[y3y]at hr;rw[<- hr]
theorem j0u{a:List Int}(h:a.Perm b)(s1:a.Pairwise (·<=·))(s2:b.Pairwise (·<=·)):a=b:=
 y3i (λx y _ _ h1 h2=>Int.le_antisymm h1 h2) s1 s2 h
theorem jd1{m:List Int}(h:j<l.length):(l++m).getD j 0=l.getD j 0:=by
 rw[yd,yd,yv h]
theorem jfd{m:List Int}(h:¬ j<l.length)(h2:j<(l++m).length):(l++m).getD j 0∈m:=by
 rw[yd,yp (by omega),y4 (by rw[xa]at h2;omega)];exact u0 _
theorem j9l(h:j<l.length):l.getD j 0∈l:=by
 rw[yd,y4 h];exact u0 h
theorem jd2{a:List Int}{w:Int}(sa:a.Pairwise (·<=·))(sb:b.Pairwise (·<=·))(hk:k<a.length)(hw:a.getD k 0<w)(hp:b.Perm (a.set k w))(hj:j<a.length)
  (heq:∀i,i<j->a.getD i 0=b.getD i 0) (hne:a.getD j 0≠b.getD j 0):a.getD j 0=a.getD k 0:=by
 have hlen:b.length=a.length:=by rw[hp.length_eq,y3w]
 generalize hv:a.getD k 0=v at *;have pb:b.Perm (w::a.eraseIdx k):=hp.trans (set_perm a k w hk);have pa:a.Perm (v::a.eraseIdx k):=by have:=j3u a k hk;rwa [hv]at this
 have c1:¬ a.getD j 0<v:=by
  intro q;have f:(a.filter λx=>decide (x<v))=b.filter λx=>decide (x<v):=by
   refine j0u ?_ (sa.filter _) (sb.filter _);have e1:=pa.filter (λx=>decide (x<v));have e2:=pb.filter (λx=>decide (x<v));rw[xz,if_neg (by simp)]at e1;rw[xz,if_neg (by simp;omega)]at e2;exact e1.trans e2.symm
  have ea:=j3v v sa;have eb:=j3v v sb;by_cases hl:j<(a.filter λx=>decide (x<v)).length
  ·refine hne ?_;rw[ea,jd1 hl,f,<- jd1 (m:=b.filter λx=>!decide (x<v)) (by rw[<- f];exact hl),<- eb]
  ·have:=jfd (m:=a.filter λx=>!decide (x<v)) hl (by rw[<- ea];exact hj);rw[<- ea]at this;have h3:=(ug.mp this).2;rw[decide_eq_true q]at h3;cases h3
 by_cases c2:v<a.getD j 0
 ·exfalso
  have ct:∀l:List Int,l.count v=(l.take j).count v+(l.drop j).count v:=λl=>by
   rw[<- List.count_append,gu]
  have tk:a.take j=b.take j:=by
   refine yao (by rw[yn,yn];omega) λi h1 h2=>?_;have hi:i<j:=by rw[yn]at h1;omega
   have:=heq i hi;rw[yd,yd,y4 (by omega),y4 (by omega)]at this;rw[y9w,y9w];exact this
  have dz:(a.drop j).count v=0:=by
   rw[List.count_eq_zero];intro hm;obtain⟨i,hi,e⟩:=vc hm;rw[List.getElem_drop]at e;have hij:j+i<a.length:=by rw[vj]at hi;omega
   have le:a[j]<=a[j+i]:=by
    by_cases z:i=0
    ·subst z;exact y8x _
    ·exact y34.mp sa j (j+i) hj hij (by omega)
   rw[yd,y4 hj,y3e]at c2;omega
  have n1:=pa.count_eq v;have n2:=pb.count_eq v;rw[y8i]at n1;rw[y7u (by omega)]at n2;have n3:=ct a;have n4:=ct b;rw[tk]at n3;omega
 ·omega
theorem jfe{a:List Int}{w:Int}(hk:k<a.length)(hw:a.getD k 0<w)(hp:b.Perm (a.set k w)):∃j,j<a.length/\a.getD j 0≠b.getD j 0:=by
 have hlen:b.length=a.length:=by rw[hp.length_eq,y3w]
 refine y0m λno=>?_;have e:a=b:=by
  refine yao hlen.symm λj h1 h2=>?_;refine y0m λq=>no ⟨j,h1,?_⟩;rw[yd,yd,y4 h1,y4 h2];exact q
 have pb:b.Perm (w::a.eraseIdx k):=hp.trans (set_perm a k w hk);have pa:=j3u a k hk;rw[<- e]at pb;have n1:=pa.count_eq w;have n2:=pb.count_eq w;rw[y8i]at n2;rw[y7u (by omega)]at n1;omega
def Goes(R:Int)(os:List Int)(s:Int)(fs:List Int)(pr:Int):Prop:=fs.Pairwise (·<=·)/\((pr=1/\fs.Perm (os++[s]))\/(pr=0/\∃k,k<os.length/\os.getD k 0+s<=R/\fs.Perm (os.set k (os.getD k 0+s))))
def Lds(R:Int)(os:List Int):Prop:=os.Pairwise (·<=·)/\∀x∈os,1<=x/\x<=R
theorem jmq{w:Int}(h:k<l.length):l.take k++[w]++l.drop (k+1)=l.set k w:=by
 rw[List.set_eq_take_append_cons_drop,if_pos h];simp
theorem RefsH.keep{H H':Hp}(e:Kp H H'){vs:List V}{Ls:List (List Int)}(r:RefsH H vs Ls):RefsH H' vs Ls:=by
 induction r with
 |nil=>exact .nil
 |cons x _ ih=>exact .cons (e _ _ x rfl) ih
theorem RefsH.snoc{H H':Hp}{a:Addr}{L:List Int}(e:Ext H H')(ha:H' a=some (.tup (L.map V.int))){vs:List V}{Ls:List (List Int)}(r:RefsH H vs Ls):RefsH H' (vs++[.ref a]) (Ls++[L]):=by
 induction r with
 |nil=>exact .cons ha .nil
 |cons x _ ih=>exact .cons (e _ _ x) ih
def prI(os L:List Int):Int:=if L.length=os.length then 0 else 1
theorem Goes.pr{R s pr:Int}{os L:List Int}(h:Goes R os s L pr):pr=prI os L:=by
 unfold prI;rcases h.2 with⟨e,p⟩|⟨e,k,hk,_,p⟩
 ·have:=p.length_eq;rw[xa,ub]at this;rw[if_neg (by omega),e]
 ·have:=p.length_eq;rw[y3w]at this;rw[if_pos this,e]
def PrV(R:Int)(os:List Int)(s:Int)(L:List Int)(v:V):Prop:=(∃pr,Goes R os s L pr/\v=.int pr)\/((∀pr,¬ Goes R os s L pr)/\v=.non)
theorem PrV.uniq{u:V}(h:PrV R os s L v)(k:PrV R os s L u):v=u:=by
 rcases h with⟨p,h1,rfl⟩|⟨h1,rfl⟩<;>rcases k with⟨q,k1,rfl⟩|⟨k1,rfl⟩
 ·rw[h1.pr,k1.pr]
 ·exact absurd h1 (k1 p)
 ·exact absurd k1 (h1 q)
 ·rfl
theorem PrV.some(R s:Int)(os L:List Int):∃v,PrV R os s L v:=by
 by_cases h:∃pr,Goes R os s L pr
 ·obtain⟨pr,h⟩:=h;exact⟨_,.inl ⟨pr,h,rfl⟩⟩
 ·exact⟨_,.inr ⟨λpr q=>h ⟨pr,q⟩,rfl⟩⟩
inductive PairsV(H:Hp):List V->List (List Int×V)->Prop
 |nil:PairsV H [] []
 |cons {c a:Addr}{L:List Int}{x:V}{vs:List V}{Ks:List (List Int×V)}:H c=some (.tup [.ref a,x])->H a=some (.tup (L.map V.int))->PairsV H vs Ks->PairsV H (.ref c::vs) ((L,x)::Ks)
def ways(ns ms:List Int):Int:=(yag (λa b:Int=>((a-b).natAbs:Int)) ns ms).sum
theorem j5l{cs:List Int}(h:j<=cs.length):cutV (cs.map V.int) (some (j:Int)) none=(cs.drop j).map V.int:=by
 unfold cutV;rw[HT.sIx_nat,HT.sIx_none,y3,u5 h,<- y2q,xg (by rw[y3,vj];exact yg _)]
theorem j5m{cs:List Int}(h:j<=cs.length):cutV (cs.map V.int) none (some (j:Int))=(cs.take j).map V.int:=by
 unfold cutV;rw[HT.sIx_nat,HT.sIx_none,y3,u5 h,y31,y4q,<- y2r]
def Sent(ns:List Int)(k:Nat)(w:Int)(ms:List Int):Prop:=ms.Perm (ns.take k++[w]++ns.drop (k+1))/\ms.Pairwise (·<=·)
def GoL(ns:List Int)(w:Int)(L:List Int):Prop:=(w∈ns/\L=ns)\/(w∉ns/\∃k,k<ns.length/\Sent ns k w L)
theorem Sent.len{ms:List Int}{w:Int}(h:Sent ns k w ms)(hk:k<ns.length):ms.length=ns.length:=by
 rw[h.1.length_eq];simp;omega
theorem Sent.mem{ms:List Int}{w:Int}(h:Sent ns k w ms):w∈ms:=h.1.mem_iff.mpr (by simp)
def nmL(c:Nat):Bool:=decide (97<=c)&&decide (c<=122)
def nmS(z:Str):Bool:=decide (1<=z.length)&&decide (z.length<=8)&&z.cps.toList.all nmL
theorem jmr(h:nmS z=true):AscS z:=by
 unfold nmS at h;rw[uu]at h;unfold AscS;rw[y1r];intro c hc;have:=y52.mp h.2 c (by simpa using hc);unfold nmL at this;rw[uu,decide_eq_true_iff,decide_eq_true_iff]at this;exact decide_eq_true (by omega)
structure Names(ss:List Str):Prop where
 nm:∀s∈ss,nmS s=true
 nd:ss.Nodup
 lo:1<=ss.length
 hi:ss.length<=8
def ovt(o q:List Str)(i:Nat):Nat:=((o.drop (i+1)).filter λt=>decide (q.idxOf t<q.idxOf (o.getD i ⟨#[]⟩))).length
def trn(o q:List Str):Int:=((v8 o.length).map λi=>(ovt o q i:Int)).sum
theorem j6o:∀{l:List Str},sortedS l=true->l.Pairwise λa b=>¬ b.cps.toList<a.cps.toList
 |[],_=>y4f
 |x::r,h=>by
  have key:∀(p:Str) (l:List Str),risingS p l=true->(p::l).Pairwise λa b=>¬ b.cps.toList<a.cps.toList:=by
   intro p l
   induction l generalizing p with
   |nil=>intro _;simp
   |cons y r ih=>
    intro h;have h':(!ltCps y.cps.toList p.cps.toList&&risingS y r)=true:=h;rw[uu]at h';have h2:=ih y h'.2;have h1:¬ y.cps.toList<p.cps.toList:=by
     have:=h'.1;rw[ltCps_eq]at this;simpa using this
    refine y0u.mpr ⟨λz hz=>?_,h2⟩;rcases xf.mp hz with rfl|hz
    ·exact h1
    ·have h3:=(y0u.mp h2).1 z hz;exact λq=>h1 (y92 (y0b.mp h3) q)
  exact key x r h
theorem jgm{a b:Str}(h:a.cps.toList=b.cps.toList):a=b:=by
 cases a;cases b;congr 1;exact yam.mp h
theorem j3w{a b:List Str}(p:a.Perm b)(ha:sortedS a=true)(hb:sortedS b=true):a=b:=
 y3i (λx y _ _ h1 h2=>jgm (y3b (y0b.mp h1) (y0b.mp h2))) (j6o ha) (j6o hb) p
theorem j30(x:Str)(ss:List Str):inV (.str x) (ss.map V.str)=decide (x∈ss):=by
 unfold inV;rw[ycx,y1s,y53,decide_eq_true_iff];constructor
 ·rintro⟨y,hy,e⟩;have:y=x:=by simpa[eqV] using e
  exact this ▸ hy
 ·intro h;exact⟨x,h,by simp[eqV]⟩
theorem j22(ss:List Str):(ss.map V.str).all j8r=true:=by rw[List.all_map,y52];intro x _;rfl
theorem j4v{y:V}(h:(ss.map V.str)[i]?=some y):∃x,ss[i]?=some x/\y=.str x:=by
 rw[xc]at h;obtain⟨x,h1,h2⟩:=y1e.mp h;exact⟨x,h1,h2.symm⟩
theorem j3x{k:Int}(h0:0<=k)(h1:k<ss.length):atI (ss.map V.str) k=some (.str (ss.getD k.toNat ⟨#[]⟩)):=by
 refine j4q h0 ?_;rw[xc,yd,y4 (show k.toNat<ss.length by omega)];rfl
theorem jff{H:Hp}{p:Addr}{ss:List Str}(h:H p=some (.tup (ss.map V.str))):Rep H (.tup (ss.map D.str)) (.ref p):=Rep.tupI h (by
 clear h
 induction ss with
 |nil=>exact .nil
 |cons x r ih=>exact .cons .strI ih)
theorem depS(ss:List Str):D.depthL (ss.map D.str)=0:=by
 induction ss with
 |nil=>rfl
 |cons x r ih=>show max 0 (D.depthL (r.map D.str))=0;rw[ih];rfl
theorem jms(h:nmS z=true):yah z=true:=by
 have h1:=jmr h;unfold AscS at h1;unfold yah;rw[y1r]at h1 ⊢;intro c hc;have:=of_decide_eq_true (h1 c hc);exact decide_eq_true (by omega)
theorem jmt:AscS z↔∀c∈z.cps.toList,c<128:=by
 unfold AscS;rw[y1r];constructor
 ·intro h c hc;exact of_decide_eq_true (h c (by simpa using hc))
 ·intro h c hc;exact decide_eq_true (h c (by simpa using hc))
instance ascDec(z:Str):Decidable (AscS z):=decidable_of_iff (∀c∈z.cps.toList,c<128) jmt.symm
theorem j4w(h:i<ss.length):ss.getD i ⟨#[]⟩∈ss:=by rw[yd,y4 h];exact u0 h
theorem jfg(h:i<=ss.length):cutV (ss.map V.str) none (some (i:Int))=(ss.take i).map V.str:=by
 unfold cutV;rw[HT.sIx_none,HT.sIx_nat,y3,u5 h,y31,y4q,y2r]
theorem j5n(h:i<=ss.length):cutV (ss.map V.str) (some (i:Int)) none=(ss.drop i).map V.str:=by
 unfold cutV;rw[HT.sIx_nat,HT.sIx_none,y3,u5 h,<- y2q,xg (by rw[y3,vj];exact yg _)]
theorem j81(x:Str)(r qs:List Str):trn (x::r) qs=((r.filter λt=>decide (qs.idxOf t<qs.idxOf x)).length:Nat)+trn r qs:=by
 unfold trn;rw[yl,List.range_succ_eq_map,xm,y6z,xx];rfl
theorem jgn(qs:List Str):trn [] qs=0:=rfl
theorem jd3(qs:List Str)(y:Str):∀l:List Str,trn (l++[y]) qs=trn l qs+((l.filter λt=>decide (qs.idxOf y<qs.idxOf t)).length:Nat)
 |[]=>by rw[y3y,j81,jgn];rfl
 |x::r=>by
  rw[y7c,j81,jd3 qs y r,j81,gz,xa,xz (x:=x)];by_cases c:qs.idxOf y<qs.idxOf x
  ·rw[if_pos (decide_eq_true c),xz,if_pos (decide_eq_true c),um,yl,yl];simp only[vm];omega
  ·rw[if_neg (by simpa using c),xz,if_neg (by simpa using c),um];simp only[vm];omega
def Swp(ss:List Str)(g w:Str)(L:List Str):Prop:=L.Perm (ss.filter (λt=>!decide (t=g))++[w])/\sortedS L=true
theorem Swp.mem{L:List Str}{g w:Str}(h:Swp ss g w L):w∈L:=h.1.mem_iff.mpr (by simp)
theorem Swp.uniq{L M:List Str}{g w:Str}(h:Swp ss g w L)(k:Swp ss g w M):L=M:=j3w (h.1.trans k.1.symm) h.2 k.2
def GoS(ss:List Str)(w:Str)(L:List Str):Prop:=(w∈ss/\L=ss)\/(w∉ss/\∃g,g∈ss/\Swp ss g w L)
theorem GoS.len{L:List Str}{w:Str}(nd:ss.Nodup)(h:GoS ss w L):L.length=ss.length:=by
 rcases h with⟨_,rfl⟩|⟨_,g,hg,hs⟩
 ·rfl
 ·have e:ss.filter (λt=>!decide (t=g))=ss.erase g:=by
   rw[nd.erase_eq_filter];exact List.filter_congr λt _=>by simp[bne,BEq.beq]
  rw[hs.1.length_eq,xa,e,y06 hg];have:0<ss.length:=y1d hg;simp only[yl,vm];omega
theorem RefsHT.keep{H H':Hp}(e:Kp H H'){vs:List V}{Ls:List (List Str)}(r:RefsHT H vs Ls):RefsHT H' vs Ls:=by
 induction r with
 |nil=>exact .nil
 |cons x _ ih=>exact .cons (e _ _ x rfl) ih
theorem RefsHT.snoc{H H':Hp}{a:Addr}{L:List Str}(e:Ext H H')(ha:H' a=some (.tup (L.map V.str))){vs:List V}{Ls:List (List Str)}(r:RefsHT H vs Ls):RefsHT H' (vs++[.ref a]) (Ls++[L]):=by
 induction r with
 |nil=>exact .cons ha .nil
 |cons x _ ih=>exact .cons (e _ _ x) ih
theorem fineTS(ss:List Str):D.fineL (ss.map D.str)=true:=by
 induction ss with
 |nil=>rfl
 |cons x r ih=>exact ih
inductive StG where|i (z:Int)|l (ns:List Int)|t (ss:List Str)
inductive WsG where|i (z:Int)|s (x:Str)|l (ns:List Int)
def StG.at_(H:Hp):StG->V->Prop
 | .i z,v=>v=.int z
 | .l ns,v=>∃p,v=.ref p/\H p=some (.tup (ns.map V.int))
 | .t ss,v=>∃p,v=.ref p/\H p=some (.tup (ss.map V.str))
def WsG.at_(H:Hp):WsG->V->Prop
 | .i z,v=>v=.int z
 | .s x,v=>v=.str x
 | .l ns,v=>∃p,v=.ref p/\H p=some (.tup (ns.map V.int))
theorem StG.mono{H H':Hp}(e:Ext H H'){s:StG}{v:V}(h:s.at_ H v):s.at_ H' v:=by
 cases s with
 |i z=>exact h
 |l ns=>obtain⟨p,h1,h2⟩:=h;exact⟨p,h1,e _ _ h2⟩
 |t ss=>obtain⟨p,h1,h2⟩:=h;exact⟨p,h1,e _ _ h2⟩
theorem WsG.mono{H H':Hp}(e:Ext H H'){s:WsG}{v:V}(h:s.at_ H v):s.at_ H' v:=by
 cases s with
 |i z=>exact h
 |s z=>exact h
 |l ns=>obtain⟨p,h1,h2⟩:=h;exact⟨p,h1,e _ _ h2⟩
theorem StG.but{H H':Hp}{x:Addr}{zs:List V}(hx:H x=some (.lst zs))(b:But x H H'){s:StG}{v:V}(h:s.at_ H v):s.at_ H' v:=by
 cases s with
 |i z=>exact h
 |l ns=>obtain⟨p,h1,h2⟩:=h;exact⟨p,h1,b _ _ (jjv h2 hx (by intro z;cases z)) h2⟩
 |t ss=>obtain⟨p,h1,h2⟩:=h;exact⟨p,h1,b _ _ (jjv h2 hx (by intro z;cases z)) h2⟩
theorem WsG.but{H H':Hp}{x:Addr}{zs:List V}(hx:H x=some (.lst zs))(b:But x H H'){s:WsG}{v:V}(h:s.at_ H v):s.at_ H' v:=by
 cases s with
 |i z=>exact h
 |s z=>exact h
 |l ns=>obtain⟨p,h1,h2⟩:=h;exact⟨p,h1,b _ _ (jjv h2 hx (by intro z;cases z)) h2⟩
def AllR{α:Type}(f:α->V->Prop):List α->List V->Prop
 |[],[]=>True
 |a::as,v::vs=>f a v/\AllR f as vs
 |_,_=>False
theorem AllR.len{α:Type}{f:α->V->Prop}:∀{as:List α}{vs:List V},AllR f as vs->as.length=vs.length
 |[],[],_=>rfl
 |_::_,_::_,⟨_,h⟩=>by rw[yl,yl,AllR.len h]
 |[],_::_,h=>h.elim
 |_::_,[],h=>h.elim
theorem AllR.imp{α:Type}{f g:α->V->Prop}(k:∀{a v},f a v->g a v):∀{as:List α}{vs:List V},AllR f as vs->AllR g as vs
 |[],[],_=>trivial
 |_::_,_::_,⟨h1,h⟩=>⟨k h1,AllR.imp k h⟩
 |[],_::_,h=>h.elim
 |_::_,[],h=>h.elim
theorem AllR.get{α:Type}{f:α->V->Prop}:∀{as:List α}{vs:List V}{i:Nat}{v:V},AllR f as vs->vs[i]?=some v->∃a,as[i]?=some a/\f a v
 |[],[],_,_,_,e=>by simp at e
 |a::as,u::vs,0,v,⟨h1,h⟩,e=>⟨a,rfl,by simp at e;rw[<- e];exact h1⟩
 |a::as,u::vs,i+1,v,⟨h1,h⟩,e=>by simpa using AllR.get (i:=i) h (by simpa using e)
 |[],_::_,_,_,h,_=>h.elim
 |_::_,[],_,_,h,_=>h.elim
theorem AllR.snoc{α:Type}{f:α->V->Prop}{a:α}{v:V}(k:f a v):∀{as:List α}{vs:List V},AllR f as vs->AllR f (as++[a]) (vs++[v])
 |[],[],_=>⟨k,trivial⟩
 |_::_,_::_,⟨h1,h⟩=>⟨h1,AllR.snoc k h⟩
 |[],_::_,h=>h.elim
 |_::_,[],h=>h.elim
theorem jnu{H:Hp}:∀ns:List Int,AllR (WsG.at_ H) (ns.map WsG.i) (ns.map V.int)
 |[]=>trivial
 |_::r=>⟨rfl,jnu r⟩
theorem jra{H:Hp}:∀ss:List Str,AllR (WsG.at_ H) (ss.map WsG.s) (ss.map V.str)
 |[]=>trivial
 |_::r=>⟨rfl,jra r⟩
theorem jaj{H:Hp}:∀ns:List Int,AllR (StG.at_ H) (ns.map StG.i) (ns.map V.int)
 |[]=>trivial
 |_::r=>⟨rfl,jaj r⟩
theorem j5o{H:Hp}{vs:List V}{Ls:List (List Str)}(r:RefsHT H vs Ls):AllR (StG.at_ H) (Ls.map StG.t) vs:=by
 induction r with
 |nil=>trivial
 |cons x _ ih=>exact⟨⟨_,rfl,x⟩,ih⟩
inductive Gm where|hire (W:Int)|line (m:Nat)|shelf (ts:List Str)|wys (m:Nat) (t:Int)|store (m:Nat)|bags (R:Int)
def Gm.no:Gm->Int
 | .hire _=>0 | .line _=>1 | .shelf _=>2 | .wys _ _=>3 | .store _=>4 | .bags _=>5
def Gm.pv(H:Hp):Gm->V->Prop
 | .hire W,v=>v=.int W
 | .line m,v=>v=.int (m:Nat)
 | .shelf ts,v=>∃p,v=.ref p/\H p=some (.tup (ts.map V.str))
 | .wys m t,v=>∃p,v=.ref p/\H p=some (.tup [.int (m:Nat),.int t])
 | .store m,v=>v=.int (m:Nat)
 | .bags R,v=>v=.int R
theorem Gm.pv_mono{H H':Hp}(e:Ext H H'){g:Gm}{v:V}(h:g.pv H v):g.pv H' v:=by
 cases g with
 |shelf ts=>obtain⟨p,h1,h2⟩:=h;exact⟨p,h1,e _ _ h2⟩
 |wys m t=>obtain⟨p,h1,h2⟩:=h;exact⟨p,h1,e _ _ h2⟩
 |_=>exact h
def Gm.wf:Gm->Prop
 | .hire _=>True
 | .line m=>1<=m/\m<=3
 | .shelf ts=>1<=ts.length/\ts.length<=4/\∀x∈ts,nmS x=true
 | .wys m _=>1<=m/\m<=4
 | .store m=>1<=m/\m<=4
 | .bags R=>1<=R
def Gm.ok:Gm->Nat->StG->Prop
 | .hire _,_,s=>s=.i 0\/s=.i 1
 | .line m,_,s=>∃ns,s=.l ns/\ns.length=m
 | .shelf ts,_,s=>∃ss,s=.t ss/\ss.Perm ts
 | .wys m _,_,s=>∃z:Int,s=.i z/\0<=z/\z<m
 | .store m,_,s=>∃ss,s=.t ss/\ss.length=m/\∀x∈ss,nmS x=true
 | .bags R,n,s=>∃ns,s=.l ns/\Lds R ns/\ns.length<=n
def Gm.okW:Gm->WsG->Prop
 | .hire _,w=>∃z,w=.i z
 | .line _,w=>∃z,w=.i z
 | .shelf ts,w=>∃x,w=.s x/\x∈ts
 | .wys m _,w=>∃ns,w=.l ns/\ns.length=m
 | .store _,w=>∃x,w=.s x/\nmS x=true
 | .bags R,w=>∃z,w=.i z/\1<=z/\z<=R
def StG.gi:StG->Int | .i z=>z|_=>0
def StG.gl:StG->List Int | .l z=>z|_=>[]
def StG.gt:StG->List Str | .t z=>z|_=>[]
def WsG.gi:WsG->Int | .i z=>z|_=>0
def WsG.gl:WsG->List Int | .l z=>z|_=>[]
def WsG.gs:WsG->Str | .s z=>z|_=>""
def Gm.pp(g:Gm)(b:StG)(w:WsG)(a:StG)(v:V):Prop:=match g with
 | .hire W=>v=if b.gi=1 then(if a.gi=1 then .int 0 else .non)else(if a.gi=1 then .int W else .int w.gi)
 | .line _=>v=if w.gi∈a.gl then .int (ways b.gl a.gl)else .non
 | .shelf _=>v=.int (trn b.gt a.gt+(a.gt.idxOf w.gs:Nat)+1)
 | .wys _ t=>v=.int (if a.gi=b.gi then w.gl.getD a.gi.toNat 0 else w.gl.getD a.gi.toNat 0+t)
 | .store _=>v=if w.gs∈a.gt then .int ((a.gt.filter λx=>!decide (x∈b.gt)).length:Nat)else .non
 | .bags R=>PrV R b.gl w.gi a.gl v
theorem Gm.ok_mono{g:Gm}{n m:Nat}{s:StG}(h:g.ok n s)(l:n<=m):g.ok m s:=by
 cases g with
 |bags R=>obtain⟨ns,h1,h2,h3⟩:=h;exact⟨ns,h1,h2,gj h3 l⟩
 |_=>exact h
theorem Gm.pp_some{g:Gm}{n m:Nat}{b a:StG}{w:WsG}(hb:g.ok n b)(hw:g.okW w)(ha:g.ok m a):∃v,g.pp b w a v:=by
 cases g with
 |hire W=>
  obtain⟨z,rfl⟩:=hw;rcases hb with rfl|rfl<;>rcases ha with rfl|rfl<;>exact⟨_,rfl⟩
 |line m=>obtain⟨z,rfl⟩:=hw;obtain⟨_,rfl,_⟩:=hb;obtain⟨_,rfl,_⟩:=ha;exact⟨_,rfl⟩
 |shelf ts=>obtain⟨z,rfl,_⟩:=hw;obtain⟨_,rfl,_⟩:=hb;obtain⟨_,rfl,_⟩:=ha;exact⟨_,rfl⟩
 |wys m t=>obtain⟨z,rfl,_⟩:=hw;obtain⟨_,rfl,_⟩:=hb;obtain⟨_,rfl,_⟩:=ha;exact⟨_,rfl⟩
 |store m=>obtain⟨z,rfl,_⟩:=hw;obtain⟨_,rfl,_⟩:=hb;obtain⟨_,rfl,_⟩:=ha;exact⟨_,rfl⟩
 |bags R=>obtain⟨z,rfl,_⟩:=hw;obtain⟨_,rfl,_⟩:=hb;obtain⟨_,rfl,_⟩:=ha;exact PrV.some _ _ _ _
theorem Gm.pp_val{g:Gm}{b a:StG}{w:WsG}{v:V}(h:g.pp b w a v):v=.non\/∃i,v=.int i:=by
 cases g with
 |hire W=>rw[show v=_ from h];split<;>split<;>first|exact .inl rfl|exact .inr ⟨_,rfl⟩
 |line m=>rw[show v=_ from h];split<;>first|exact .inl rfl|exact .inr ⟨_,rfl⟩
 |shelf ts=>exact .inr ⟨_,h⟩
 |wys m t=>exact .inr ⟨_,h⟩
 |store m=>rw[show v=_ from h];split<;>first|exact .inl rfl|exact .inr ⟨_,rfl⟩
 |bags R=>
  rcases h with⟨p,_,e⟩|⟨_,e⟩
  ·exact .inr ⟨p,e⟩
  ·exact .inl e
def WoP(a:Adr)(H:Hp):Gm->Addr->Prop
 | .hire W,r=>∃dw,H r=some (.ins a.cv dw [("whole",.int W)])
 | .line m,r=>∃dw,H r=some (.ins a.cw dw [("many",.int (m:Nat))])
 | .shelf _,r=>∃dw v,H r=some (.ins a.c7 dw [("things",v)])
 | .wys m t,r=>∃dw,H r=some (.ins a.cg dw [("many",.int (m:Nat)),("toll",.int t)])
 | .store m,r=>∃dw,H r=some (.ins a.c9 dw [("many",.int (m:Nat))])
 | .bags R,r=>∃dw,H r=some (.ins a.cu dw [("room",.int R)])
theorem WoP.mono{a:Adr}{H H':Hp}(e:Ext H H'){g:Gm}{r:Addr}(h:WoP a H g r):WoP a H' g r:=by
 cases g with
 |shelf ts=>obtain⟨d,v,h⟩:=h;exact⟨d,v,e _ _ h⟩
 |hire W=>obtain⟨d,h⟩:=h;exact⟨d,e _ _ h⟩
 |line W=>obtain⟨d,h⟩:=h;exact⟨d,e _ _ h⟩
 |wys W t=>obtain⟨d,h⟩:=h;exact⟨d,e _ _ h⟩
 |store W=>obtain⟨d,h⟩:=h;exact⟨d,e _ _ h⟩
 |bags W=>obtain⟨d,h⟩:=h;exact⟨d,e _ _ h⟩
def GameV(H:Hp)(gl:Addr)(g:Gm)(st:StG)(ws:List WsG):Prop:=∃gv sv wl wvs,H gl=some (.lst [.int g.no,gv,sv,.ref wl])/\g.pv H gv/\st.at_ H sv/\H wl=some (.lst wvs)/\AllR (WsG.at_ H) ws wvs
def jfh(g:Gm)(st:StG)(ws:List WsG):Prop:=g.wf/\g.ok 4 st/\(∀w∈ws,g.okW w)/\ws.length<=12
def Fit:Gm->StG->List WsG->Prop
 | .line _,.l ns,ws=>∃pool:List Int,pool.length<=7/\(∀x∈ns,x∈pool)/\ns.Pairwise (·<=·)/\∀w∈ws,∃z,w=.i z/\z∈pool
 | .store _,.t ss,ws=>∃pool:List Str,pool.length<=7/\pool.Nodup/\(∀x∈ss,x∈pool)/\sortedS ss=true/\ss.Nodup/\∀w∈ws,∃z,w=.s z/\z∈pool
 | .bags _,.l ns,ws=>ns.length+ws.length<=5
 |_,_,_=>True
theorem GameV.mono{H H':Hp}(e:Ext H H'){gl:Addr}{g:Gm}{st:StG}{ws:List WsG}(h:GameV H gl g st ws):GameV H' gl g st ws:=by
 obtain⟨gv,sv,wl,wvs,h1,h2,h3,h4,h5⟩:=h;exact⟨gv,sv,wl,wvs,e _ _ h1,Gm.pv_mono e h2,StG.mono e h3,e _ _ h4,h5.imp λk=>WsG.mono e k⟩
theorem PrV.one(h:PrV R os s L v)(hg:Goes R os s L 1):v=.int 1:=h.uniq (.inl ⟨1,hg,rfl⟩)
theorem PrV.nought(h:PrV R os s L v)(hg:Goes R os s L 0):v=.int 0:=h.uniq (.inl ⟨0,hg,rfl⟩)
theorem PrV.no(h:PrV R os s L v)(hg:∀pr,¬ Goes R os s L pr):v=.non:=h.uniq (.inr ⟨hg,rfl⟩)
def jgo(H:Hp)(Q:VK):Prop:=∀gl g st ws H',H gl=none->GameV H' gl g st ws->jfh g st ws->Fit g st ws->Ext H H'->Q (.ref gl) H'
theorem ok01(b:Bool):StG.i (if b=true then 1 else 0)=.i 0\/StG.i (if b=true then 1 else 0)=.i 1:=by cases b<;>simp
theorem ibh{h:Int}(h0:0<=h)(h1:h<2147483629):ib h<=1048577:=gj (show ib h<=31 from ycd (by omega)) (by decide)
theorem jj9{g:Gm}{xs:List Int}(h:∀x∈xs,g.okW (.i x)):∀w∈xs.map WsG.i,g.okW w:=λw hw=>by
 obtain⟨x,hx,rfl⟩:=yk.mp hw;exact h x hx
theorem jmu{g:Gm}{xs:List Str}(h:∀x∈xs,g.okW (.s x)):∀w∈xs.map WsG.s,g.okW w:=λw hw=>by
 obtain⟨x,hx,rfl⟩:=yk.mp hw;exact h x hx
def jjs(us:List V)(H:Hp)(h:Int)(p:Addr)(cs:List Int):Prop:=us=[.int h,.ref p]/\0<=h/\h<2147483629/\H p=some (.lst (cs.map V.int))/\cs.length<=12/\∀c∈cs,ib c<=1048576
theorem jgp(h:i<=os.length):cutV (os.map V.int) none (some (i:Int))=(os.take i).map V.int:=by
 unfold cutV;rw[HT.sIx_none,HT.sIx_nat,y3,u5 h,y31,y4q,y2r]
theorem jd4{t u:TS}{D:Ends}{σ:L2.St}(J:L2.St->Hp->Prop)(h2:∀σ' H',J σ' H'->u D σ' H')(h1:(∀σ' H',J σ' H'->u D σ' H')->tSeq t u D σ H):tSeq t u D σ H:=h1 h2
theorem nm_far{q:Int}(q0:0<=q)(e:q+3*(i:Int)=c0)(h:j<i)(hi:i<9)(z:(q+3*(j:Int)).toNat%26=c0%26):False:=by omega
theorem jgq{w:Int}(h:k<l.length):(l.take k++l.drop (k+1)++[w]).Perm (l.set k w):=by
 rw[<- jmq h,y0x,y0x];exact y4o _ y1n
def wD:WsG->D
 | .i z=>.int z
 | .s x=>.str x
 | .l ns=>.tup (ns.map D.int)
def sD:StG->D
 | .i z=>.int z
 | .l ns=>.tup (ns.map D.int)
 | .t ss=>.tup (ss.map D.str)
theorem jja{H:Hp}:∀{ws:List WsG}{vs:List V},AllR (WsG.at_ H) ws vs->RepL H (ws.map wD) vs
 |[],[],_=>RepL.nil
 |w::ws,v::vs,⟨h1,h⟩=>by
  refine RepL.cons ?_ (jja h);cases w with
  |i z=>exact h1
  |s x=>exact h1
  |l ns=>obtain⟨p,rfl,hp⟩:=h1;exact Rep.tupInts hp
 |[],_::_,h=>h.elim
 |_::_,[],h=>h.elim
theorem wD_ok{g:Gm}(hwf:g.wf):∀{ws:List WsG},(∀w∈ws,g.okW w)->D.eqOkL (ws.map wD)=true
 |[],_=>rfl
 |w::ws,h=>by
  show((wD w).eqOk&&D.eqOkL (ws.map wD))=true;rw[wD_ok hwf λx hx=>h x (ym _ hx),ycj];have hw:=h w yu;cases g with
  |hire W=>obtain⟨z,rfl⟩:=hw;rfl
  |line m=>obtain⟨z,rfl⟩:=hw;rfl
  |shelf ts=>obtain⟨x,rfl,hx⟩:=hw;exact jms (hwf.2.2 x hx)
  |wys m t=>obtain⟨ns,rfl,_⟩:=hw;exact j5a ns
  |store m=>obtain⟨x,rfl,hx⟩:=hw;exact jms hx
  |bags R=>obtain⟨z,rfl,_⟩:=hw;rfl
theorem jmv:∀(ws:List WsG),D.depthL (ws.map wD)<=1
 |[]=>by decide
 |w::ws=>by
  have:=jmv ws;have h1:(wD w).depth<=1:=by
   cases w with
   |i z=>exact gm _
   |s z=>exact gm _
   |l ns=>show D.depthL (ns.map D.int)+1<=1;rw[j2v];omega
  show max (wD w).depth (D.depthL (ws.map wD))<=1;omega
theorem jmw:∀(ws:List StG),D.depthL (ws.map sD)<=1
 |[]=>by decide
 |w::ws=>by
  have:=jmw ws;have h1:(sD w).depth<=1:=by
   cases w with
   |i z=>exact gm _
   |l ns=>show D.depthL (ns.map D.int)+1<=1;rw[j2v];omega
   |t ss=>show D.depthL (ss.map D.str)+1<=1;rw[depS];omega
  show max (sD w).depth (D.depthL (ws.map sD))<=1;omega
theorem eqD_me{d:D}(h:d.eqOk=true):eqD d d=true:=SeqAt.eqv_refl _ (D.canLay _ h)
def j5p(x:Str)(L:List Str):List (List Str):=(v8 (L.length+1)).map λi=>L.take i++x::L.drop i
def ords(ss:List Str):List (List Str):=ss.foldl (λLs x=>Ls.flatMap (j5p x)) [[]]
theorem j9m(l:List Str)(x:Str):ords (l++[x])=(ords l).flatMap (j5p x):=by unfold ords;rw[List.foldl_append];rfl
theorem jd5{x:Str}{L M:List Str}(h:M∈j5p x L):M.Perm (x::L):=by
 obtain⟨i,_,rfl⟩:=yk.mp h;refine y3d.trans ?_;rw[gu]
theorem jd6(x:Str){k:Nat}:∀{Ls:List (List Str)},(∀L∈Ls,L.length=k)->(Ls.flatMap (j5p x)).length=Ls.length*(k+1)
 |[],_=>by simp
 |L::Ls,h=>by
  rw[y6g,xa,jd6 x λM hM=>h M (ym _ hM),yl,y5z,y7y];congr 1;unfold j5p;rw[y3,y0k,h L yu]
theorem j6p:∀(ss:List Str) (Ls:List (List Str)) (base:List Str),(∀L∈Ls,L.Perm base)->∀L∈ss.foldl (λLs x=>Ls.flatMap (j5p x)) Ls,L.Perm (base++ss)
 |[],Ls,base,h,L,hL=>by rw[y0a];exact h L hL
 |x::r,Ls,base,h,L,hL=>by
  rw[y3v]at hL;have:=j6p r _ (x::base) (λM hM=>by
   obtain⟨N,hN,hM⟩:=y3c.mp hM;exact(jd5 hM).trans ((h N hN).cons x)) L hL
  exact this.trans y3d.symm
theorem j3l{L:List Str}(h:L∈ords ss):L.Perm ss:=by
 have:=j6p ss [[]] [] (λL hL=>by rw[yb.mp hL]) L h;simpa using this
def facN:Nat->Nat->Nat
 |_,0=>1
 |k,n+1=>(k+1)*facN (k+1) n
theorem j9n:∀(ss:List Str) (Ls:List (List Str)) (k:Nat),(∀L∈Ls,L.length=k)->(ss.foldl (λLs x=>Ls.flatMap (j5p x)) Ls).length=Ls.length*facN k ss.length
 |[],Ls,k,h=>by show Ls.length=Ls.length*1;omega
 |x::r,Ls,k,h=>by
  rw[y3v,j9n r _ (k+1) (λM hM=>by
   obtain⟨N,hN,hM⟩:=y3c.mp hM;rw[(jd5 hM).length_eq,yl,h N hN]),jd6 x h,Nat.mul_assoc]
  rfl
theorem fac_le:∀n,n<5->facN 0 n<=24:=by decide
theorem j82(h:ss.length<=4):(ords ss).length<=24:=by
 unfold ords;rw[j9n ss [[]] 0 (λL hL=>by rw[yb.mp hL];rfl)];have:=fac_le ss.length (by omega);simpa using this
theorem RefsHT.butL{H H':Hp}{x:Addr}{zs:List V}(hx:H x=some (.lst zs))(b:But x H H'){vs:List V}{Ls:List (List Str)}(r:RefsHT H vs Ls):RefsHT H' vs Ls:=by
 induction r with
 |nil=>exact .nil
 |cons c _ ih=>exact .cons (b _ _ (λz=>by rw[z,hx]at c;cases c) c) ih
theorem RefsHT.app{H:Hp}{vs us:List V}{Ls Ms:List (List Str)}(r:RefsHT H vs Ls)(q:RefsHT H us Ms):RefsHT H (vs++us) (Ls++Ms):=by
 induction r with
 |nil=>exact q
 |cons c _ ih=>exact .cons c ih
def wdN(way size f a0 c0 k:Nat):List Nat:=if way=2 then xk (k+1) f else xk (if way=0 then a0 else k%size) f++(97+(c0+7*k)%26)::xk (size-(if way=0 then a0 else k%size)-1) f
structure WdOk(way size f a0:Nat):Prop where
 s1:1<=size
 s8:size<=8
 f1:97<=f
 f2:f<=122
 a1:a0<size
theorem wd_at{way:Nat}(h:WdOk way size f a0)(hw:way≠2):∃a,a<size/\wdN way size f a0 c0 k=xk a f++(97+(c0+7*k)%26)::xk (size-a-1) f/\a=if way=0 then a0 else k%size:=by
 refine⟨if way=0 then a0 else k%size,?_,?_,rfl⟩
 ·split
  ·exact h.a1
  ·exact y5l _ h.s1
 ·unfold wdN;rw[if_neg hw]
theorem wd_nm{way:Nat}(h:WdOk way size f a0)(hk:k<8):nmS ⟨(wdN way size f a0 c0 k).toArray⟩=true:=by
 have hf1:=h.f1;have hf2:=h.f2;have hs1:=h.s1;have hs8:=h.s8;have el:(⟨(wdN way size f a0 c0 k).toArray⟩:Str).length=(wdN way size f a0 c0 k).length:=rfl;unfold nmS;rw[el];have ll:1<=(wdN way size f a0 c0 k).length/\(wdN way size f a0 c0 k).length<=8/\∀c∈wdN way size f a0 c0 k,97<=c/\c<=122:=by
  by_cases hw:way=2
  ·unfold wdN;rw[if_pos hw,y7w];refine⟨by omega,by omega,λc hc=>?_⟩;rw[y3j hc];exact⟨hf1,hf2⟩
  ·obtain⟨a,ha,ea,_⟩:=wd_at (c0:=c0) (k:=k) h hw;rw[ea];refine⟨by simp;omega,by simp;omega,λc hc=>?_⟩;rcases x0.mp hc with hc|hc
   ·rw[y3j hc];exact⟨hf1,hf2⟩
   ·rcases xf.mp hc with rfl|hc
    ·omega
    ·rw[y3j hc];exact⟨hf1,hf2⟩
 rw[decide_eq_true ll.1,decide_eq_true ll.2.1,ycl,ycl,y52];intro c hc;have:=ll.2.2 c (by simpa using hc);unfold nmL;rw[decide_eq_true this.1,decide_eq_true this.2];rfl
def wdS(way size f a0 c0 k:Nat):Str:=⟨(wdN way size f a0 c0 k).toArray⟩
theorem jd7(a b:Str):(a++b).cps.toList=a.cps.toList++b.cps.toList:=by
 show(a.cps++b.cps).toList=_;simp
theorem mul_one(f n:Nat):(mulS ⟨#[f]⟩ n).cps.toList=xk n f:=by
 show((xk n [f]).flatten).toArray.toList=_;rw[j7u]
theorem j9o(c:Nat):(⟨#[c]⟩:Str).length=1:=rfl
theorem jgr:(uc "abcdefghijklmnopqrstuvwxyz").length=26:=by decide
theorem jmx{i:Int}(h0:0<=i)(h1:i<26):atI (uc "abcdefghijklmnopqrstuvwxyz").cps.toList i=some (97+i.toNat):=by
 have e:(uc "abcdefghijklmnopqrstuvwxyz").cps.toList=(v8 26).map (97+·):=by decide
 rw[e];refine j4q h0 ?_;rw[xc,y15 (by omega)];rfl
def ltS:StG->StG->Prop
 | .i a,.i b=>a<b
 | .l a,.l b=>a<b
 | .t a,.t b=>cpm a<cpm b
 |_,_=>False
theorem jd8:∀{a b:StG},ltS a b->ltS b a->False
 | .i a,.i b,h,k=>by have h':a<b:=h;have k':b<a:=k;omega
 | .l a,.l b,h,k=>y32 _ (y6w (show a<b from h) (show b<a from k))
 | .t a,.t b,h,k=>y32 _ (y6w (show cpm a<cpm b from h) (show cpm b<cpm a from k))
def RisS(ps:List (StG×Int)):Prop:=ps.Pairwise λa b=>ltS a.1 b.1
theorem RisS.uniq{a b:List (StG×Int)}(ha:RisS a)(hb:RisS b)(h:∀s c,(s,c)∈a↔(s,c)∈b):a=b:=by
 have nd:∀{l:List (StG×Int)},RisS l->l.Nodup:=λh=>h.imp λz e=>by rw[e]at z;exact jd8 z z
 have p:a.Perm b:=(y5x (nd ha) (nd hb)).mpr λx=>h x.1 x.2;exact y3i (le:=λx y:StG×Int=>ltS x.1 y.1) (λx y _ _ h1 h2=>(jd8 h1 h2).elim) ha hb p
def PsAt(H:Hp)(ps:List (StG×Int))(zs:List V):Prop:=AllR (λ(p:StG×Int) v=>∃c sv,v=.ref c/\H c=some (.tup [sv,.int p.2])/\p.1.at_ H sv) ps zs
def PvAt(g:Gm)(b:StG)(w:WsG)(H:Hp)(ss:List StG)(zs:List V):Prop:=AllR (λs v=>∃c sv pv,v=.ref c/\H c=some (.tup [sv,pv])/\s.at_ H sv/\g.pp b w s pv) ss zs
theorem StG.keep{H H':Hp}(e:Kp H H'){s:StG}{v:V}(h:s.at_ H v):s.at_ H' v:=by
 cases s with
 |i z=>exact h
 |l ns=>obtain⟨p,h1,h2⟩:=h;exact⟨p,h1,e _ _ h2 rfl⟩
 |t ss=>obtain⟨p,h1,h2⟩:=h;exact⟨p,h1,e _ _ h2 rfl⟩
theorem PvAt.keep{g:Gm}{b:StG}{w:WsG}{H H':Hp}(e:Kp H H'){ss:List StG}{zs:List V}(h:PvAt g b w H ss zs):PvAt g b w H' ss zs:=AllR.imp (λ⟨c,sv,pv,h1,h2,h3,h4⟩=>⟨c,sv,pv,h1,e _ _ h2 rfl,StG.keep e h3,h4⟩) h
theorem PsAt.keep{H H':Hp}(e:Kp H H'){ps:List (StG×Int)}{zs:List V}(h:PsAt H ps zs):PsAt H' ps zs:=AllR.imp (λ⟨c,sv,h1,h2,h3⟩=>⟨c,sv,h1,e _ _ h2 rfl,StG.keep e h3⟩) h
theorem jd9{H:Hp}{vs:List V}{Ls:List (List Int)}(r:RefsH H vs Ls):AllR (StG.at_ H) (Ls.map StG.l) vs:=by
 induction r with
 |nil=>trivial
 |cons x _ ih=>exact⟨⟨_,rfl,x⟩,ih⟩
theorem jda{H:Hp}:∀{ns:List Int}{vs:List V},AllR (StG.at_ H) (ns.map StG.i) vs->vs=ns.map V.int
 |[],[],_=>rfl
 |n::_,_::_,⟨h1,h⟩=>by rw[jda h,show _=V.int n from h1];rfl
 |[],_::_,h=>h.elim
 |_::_,[],h=>h.elim
theorem jjb{α β:Type}{f:α->β}(hf:∀a b,f a=f b->a=b):∀{l:List α},l.Nodup->(l.map f).Nodup
 |[],_=>by simp
 |x::l,h=>by
  rw[uh]at h;rw[xm,uh];refine⟨λhm=>?_,jjb hf h.2⟩;obtain⟨y,hy,e⟩:=yk.mp hm;exact h.1 (by rw[<- hf _ _ e];exact hy)
theorem jdb[DecidableEq StG]:∀{l m:List StG},l.Nodup->(∀x∈l,x∈m)->l.length<=m.length
 |[],_,_,_=>gm _
 |a::l,m,h,hs=>by
  rw[uh]at h;have ha:=hs a yu;have:=jdb (l:=l) (m:=m.erase a) h.2 λx hx=>(y2x (λe=>h.1 (by rw[<- e];exact hx))).mpr (hs x (ym _ hx));rw[y06 ha]at this;have:0<m.length:=y1d ha;rw[yl];omega
noncomputable instance:DecidableEq StG:=λa b=>y6t (a=b)
theorem Gm.pp_uniq{g:Gm}{b s:StG}{w:WsG}{v v':V}(h:g.pp b w s v)(h':g.pp b w s v'):v=v':=by
 cases g with
 |bags R=>exact PrV.uniq h h'
 |_=>exact Eq.trans h (Eq.symm h')
def SKind(sts:List StG):Prop:=(∃n,n<=8/\sts=(j4f n).map StG.i)\/(∃Ls:List (List Int),sts=Ls.map StG.l/\∀L∈Ls,L≠[])\/∃Ls:List (List Str),sts=Ls.map StG.t/\∀L∈Ls,L≠[]
theorem jmy:RefsK H v (kwI L)↔(StG.l L).at_ H v:=by
 show(∃b,v=.ref b/\H b=some (.tup ((L.map y23).map kV)))↔∃p,v=.ref p/\H p=some (.tup (L.map V.int));rw[xx];exact yb1
theorem jmz{L:List Str}:RefsK H v (kwT L)↔(StG.t L).at_ H v:=by
 show(∃b,v=.ref b/\H b=some (.tup ((L.map y2l).map kV)))↔∃p,v=.ref p/\H p=some (.tup (L.map V.str));rw[xx];exact yb1
theorem jjt{α:Type}{f:α->StG}{k:α->List Key}{H:Hp}(h:∀{v L},RefsK H v (k L)↔(f L).at_ H v):∀{Ls:List α}{vs:List V},AllR (StG.at_ H) (Ls.map f) vs↔All2 (RefsK H) vs (Ls.map k)
 |[],[]=>⟨λ_=>.nil,λ_=>trivial⟩
 |_::_,_::_=>⟨λ⟨h1,h2⟩=>.cons (h.mpr h1) ((jjt h).mp h2),λr=>by cases r with|cons x r=>exact⟨h.mp x,(jjt h).mpr r⟩⟩
 |[],_::_=>⟨λz=>z.elim,λr=>by cases r⟩
 |_::_,[]=>⟨λz=>z.elim,λr=>by cases r⟩
theorem jn0{vs:List V}{Ls:List (List Key)}(r:All2 (RefsK H) vs Ls)(nd:Ls.Nodup)(pw:Ls.Pairwise λa b=>¬ wK b<wK a)(sub:∀L∈Ls,∃M,L=kwI M/\True):∃Ms:List (List Int),Ls=Ms.map kwI/\AllR (StG.at_ H) (Ms.map .l) vs/\(Ms.map StG.l).Pairwise ltS:=by
 obtain⟨Ms,rfl,_⟩:=j9f sub;refine⟨Ms,rfl,(jjt jmy).mpr r,?_⟩;rw[y9u,v7]at nd;rw[v7]at pw;refine v7.mpr ((nd.and pw).imp λ{a b} ⟨k1,k2⟩=>?_);show a<b;rw[wK_I,wK_I,j6m (j4j.trans j4j) (λe=>by cases e;rfl)]at k2;rcases jlo a b with z|z|z
 ·exact z
 ·exact absurd (by rw[z]) k1
 ·exact absurd z k2
theorem jn1{vs:List V}{Ls:List (List Key)}(r:All2 (RefsK H) vs Ls)(nd:Ls.Nodup)(pw:Ls.Pairwise λa b=>¬ wK b<wK a)(sub:∀L∈Ls,∃M,L=kwT M/\True):∃Ms:List (List Str),Ls=Ms.map kwT/\AllR (StG.at_ H) (Ms.map .t) vs/\(Ms.map StG.t).Pairwise ltS:=by
 obtain⟨Ms,rfl,_⟩:=j9f sub;refine⟨Ms,rfl,(jjt jmz).mpr r,?_⟩;rw[y9u,v7]at nd;rw[v7]at pw;refine v7.mpr ((nd.and pw).imp λ{a b} ⟨k1,k2⟩=>?_);show cpm a<cpm b;have e:∀l:List Str,wK (kwT l)=(cpm l).map λx=>[x.map λ(n:Nat)=>(n:Int)]:=λl=>by rw[wK_T];unfold cpm;rw[xx];rfl
 rw[e,e,j6m (j4j.trans (j6m yaf y3t)) λh=>by injection h with h _;exact(ua (λa b e=>y3t e)).mp h]at k2;rcases jik a b with z|z|z
 ·exact z
 ·exact absurd (by rw[z]) k1
 ·exact absurd z k2
theorem jn2{α β:Type}{f:α->β}(hf:∀{a b},f a=f b->a=b){Ms Ls:List α}(mm:∀L,L∈Ms.map f↔L∈Ls.map f)(M:α):M∈Ms↔M∈Ls:=
 ⟨λh=>by obtain⟨N,h1,h2⟩:=yk.mp ((mm _).mp (yk.mpr ⟨M,h,rfl⟩));rw[<- hf h2];exact h1,λh=>by obtain⟨N,h1,h2⟩:=yk.mp ((mm _).mpr (yk.mpr ⟨M,h,rfl⟩));rw[<- hf h2];exact h1⟩
theorem r_sgS{K:y9}{Q:VK}{p:Addr}{sts:List StG}(hp:H p=some (.lst ys))(hys:AllR (StG.at_ H) sts ys)(h60:sts.length<=60)(hk:SKind sts)(q:∀lq ts ys1 H1,H1 lq=some (.lst ys1)->AllR (StG.at_ H1) ts ys1->ts.Pairwise ltS->(∀s,s∈ts↔s∈sts)->Ext H H1->Q (.ref lq) H1):j9j K [.ref p] H Q:=by
 have ly:=hys.len;rcases hk with⟨n,n8,rfl⟩|⟨Ls,rfl,hne⟩|⟨Ls,rfl,hne⟩
 ·obtain rfl:=jda hys;refine r_sgI (j4f n) (.inl hp) (λn h=>h) (by rw[j5g];omega) λl ks H' nl ql pw mm e=>q l (ks.map .i) _ H' ql (jaj ks) (v7.mpr (pw.imp λz=>z)) (λs=>by simp only[yk,mm]) e
 ·refine r_sgK hp ((jjt jmy).mp hys) (by omega) ⟨false,λL hL=>by obtain⟨M,hM,rfl⟩:=yk.mp hL;exact⟨M,rfl,hne M hM⟩⟩ λl vs' Ls' H' nl ql r' nd pw mm e=>?_;obtain⟨Ms,rfl,h1,h2⟩:=jn0 r' nd pw λL hL=>by obtain⟨M,_,z⟩:=yk.mp ((mm L).mp hL);exact⟨M,z.symm,trivial⟩
  exact q l (Ms.map .l) vs' H' ql h1 h2 (λs=>by rw[yk,yk];simp only[jn2 @jcr mm]) e
 ·refine r_sgK hp ((jjt jmz).mp hys) (by omega) ⟨true,λL hL=>by obtain⟨M,hM,rfl⟩:=yk.mp hL;exact⟨M,rfl,hne M hM⟩⟩ λl vs' Ls' H' nl ql r' nd pw mm e=>?_;obtain⟨Ms,rfl,h1,h2⟩:=jn1 r' nd pw λL hL=>by obtain⟨M,_,z⟩:=yk.mp ((mm L).mp hL);exact⟨M,z.symm,trivial⟩
  exact q l (Ms.map .t) vs' H' ql h1 h2 (λs=>by rw[yk,yk];simp only[jn2 @jcs mm]) e
theorem via{t:TE}{σ:L2.St}{K:VK}{P:VK->Prop}(h1:∀K,P K->t σ H K)(h2:P K):t σ H K:=h1 K h2
theorem jgs:∀{ss:List Str},∀{L:List Str},L.Perm ss->L∈ords ss:=by
 have:∀n,∀ss:List Str,ss.length=n->∀L:List Str,L.Perm ss->L∈ords ss:=by
  intro n
  induction n with
  |zero=>
   intro ss hl L p;have e:=vo.mp hl;subst e;rw[yco.mp p];exact yb.mpr rfl
  |succ n ih=>
   intro ss hl L p;have hne:ss≠[]:=λz=>by rw[z]at hl;simp at hl
   obtain⟨l,x,rfl⟩:∃l x,ss=l++[x]:=⟨ss.dropLast,ss.getLast hne,(List.dropLast_concat_getLast hne).symm⟩
   obtain⟨A,B,rfl⟩:=List.append_of_mem (p.mem_iff.mpr (yz _ (yb.mpr rfl)));have p2:(A++B).Perm l:=by
    have h1:(x::(A++B)).Perm (x::l):=y3d.symm.trans (p.trans (y1n (l₁:=l) (l₂:=[x])));exact h1.cons_inv
   rw[j9m,y3c];refine⟨A++B,ih l (by simpa using hl) _ p2,yk.mpr ⟨A.length,vq.mpr (by simp;omega),?_⟩⟩;rw[List.take_left' rfl,List.drop_left' rfl]
 exact λ{ss L} p=>this ss.length ss rfl L p
def Gm.dst:Gm->StG->WsG->StG->Prop
 | .hire _,_,_,s=>s=.i 0\/s=.i 1
 | .line _,.l b,.i w,s=>∃L,s=.l L/\GoL b w L
 | .shelf _,.t b,_,s=>∃L,s=.t L/\L.Perm b
 | .wys m _,_,_,s=>∃z:Int,s=.i z/\0<=z/\z<m
 | .store _,.t b,.s w,s=>∃L,s=.t L/\GoS b w L
 | .bags R,.l b,.i w,s=>∃L pr,s=.l L/\Goes R b w L pr
 |_,_,_,_=>False
def Gm.to(g:Gm)(b:StG)(w:WsG)(s:StG)(c:Int):Prop:=g.dst b w s/\g.pp b w s (.int c)
def Gm.nd:Gm->StG->Prop
 | .store _,.t ss=>ss.Nodup
 |_,_=>True
def MvQ(H:Hp)(Q:VK)(g:Gm)(b:StG)(w:WsG):Prop:=∀l zs (ps:List (StG×Int)) H',H l=none->H' l=some (.lst zs)->PsAt H' ps zs->RisS ps->(∀s c,(s,c)∈ps↔g.to b w s c)->Ext H H'->Q (.ref l) H'
def MvP(a:Adr)(H:Hp)(Q:VK)(us:List V)(g:Gm):Prop:=∃(r:Addr) (bv wv:V) (b:StG) (w:WsG),us=[.ref r,bv,wv]/\WoP a H g r/\g.wf/\b.at_ H bv/\g.ok 30 b/\g.nd b/\w.at_ H wv/\g.okW w/\MvQ H Q g b w
theorem Gm.dst_ok{g:Gm}{n:Nat}{b s:StG}{w:WsG}(hb:g.ok n b)(hn':g.nd b)(hw:g.okW w)(h:g.dst b w s):g.ok (n+1) s:=by
 cases g with
 |hire W=>exact h
 |line m=>
  obtain⟨z,rfl⟩:=hw;obtain⟨ns,rfl,hl⟩:=hb;obtain⟨L,rfl,⟨_,rfl⟩|⟨_,k,hk,hs⟩⟩:=h
  ·exact⟨_,rfl,hl⟩
  ·exact⟨_,rfl,by rw[hs.len hk,hl]⟩
 |shelf ts=>
  obtain⟨ss,rfl,pm⟩:=hb;obtain⟨L,rfl,hL⟩:=h;exact⟨L,rfl,hL.trans pm⟩
 |wys m t=>exact h
 |store m=>
  obtain⟨x,rfl,hx⟩:=hw;obtain⟨ss,rfl,hl,hn⟩:=hb;obtain⟨L,rfl,hg⟩:=h;refine⟨L,rfl,?_,λy hy=>?_⟩
  ·rw[hg.len hn',hl]
  ·rcases hg with⟨_,rfl⟩|⟨_,g,_,hs⟩
   ·exact hn y hy
   ·rcases x0.mp (hs.1.mem_iff.mp hy)with z|z
    ·exact hn y ((ug.mp z).1)
    ·rw[yb.mp z];exact hx
 |bags R=>
  obtain⟨z,rfl,z1,z2⟩:=hw;obtain⟨ns,rfl,⟨h1,h2⟩,h3⟩:=hb;obtain⟨L,pr,rfl,g1,hg⟩:=h;refine⟨L,rfl,⟨g1,λx hx=>?_⟩,?_⟩
  ·rcases hg with⟨_,pm⟩|⟨_,k,hk,hR,pm⟩
   ·rcases x0.mp (pm.mem_iff.mp hx)with y|y
    ·exact h2 x y
    ·rw[yb.mp y];exact⟨z1,z2⟩
   ·rcases List.mem_or_eq_of_mem_set (pm.mem_iff.mp hx)with y|y
    ·exact h2 x y
    ·have hm:ns.getD k 0∈ns:=(by rw[yd,y4 hk];exact u0 hk);have:=h2 _ hm;rw[y];exact⟨by omega,hR⟩
  ·rcases hg with⟨_,pm⟩|⟨_,k,hk,hR,pm⟩
   ·have:=pm.length_eq;simp at this;omega
   ·have:=pm.length_eq;simp at this;omega
def subs{α:Type}:Nat->List α->List (List α)
 |0,_=>[[]]
 |_+1,[]=>[]
 |k+1,x::l=>(subs k l).map (x :: ·)++subs (k+1) l
def binN:Nat->Nat->Nat
 |0,_=>1
 |_+1,0=>0
 |k+1,n+1=>binN k n+binN (k+1) n
theorem j83{α:Type}:∀(k:Nat) (l:List α),(subs k l).length=binN k l.length
 |0,l=>by cases l<;>rfl
 |k+1,[]=>rfl
 |k+1,x::l=>by
  show((subs k l).map (x :: ·)++subs (k+1) l).length=binN k l.length+binN (k+1) l.length;rw[xa,y3,j83 k l,j83 (k+1) l]
theorem jjc{α:Type}{S l:List α}(h:S.Sublist l):S∈subs S.length l:=by
 induction h with
 |slnil=>exact yb.mpr rfl
 | @cons S l x h ih=>
  cases S with
  |nil=>exact yb.mpr rfl
  |cons y S=>exact yz _ ih
 | @cons_cons S l x h ih=>exact gr _ (yk.mpr ⟨S,ih,rfl⟩)
theorem jn3:∀k,k<5->∀n,n<8->binN k n<=60:=by decide
def jn4{α:Type}(pool:List α):Nat->List (List α)
 |0=>[[]]
 |k+1=>pool.flatMap λx=>(jn4 pool k).map (x :: ·)
theorem jdc{α β:Type}{f:α->List β}{n:Nat}:∀{l:List α},(∀x∈l,(f x).length<=n)->(l.flatMap f).length<=l.length*n
 |[],_=>by simp
 |x::l,h=>by
  rw[y6g,xa,yl,y5z];have:=h x yu;have:=jdc (l:=l) λy hy=>h y (ym _ hy);omega
theorem j9p{α:Type}{pool:List α}(h:pool.length<=7):∀k,(jn4 pool k).length<=7 ^ k
 |0=>yg _
 |k+1=>by
  have:=jdc (f:=λx=>(jn4 pool k).map (x :: ·)) (n:=7 ^ k) (l:=pool) λx _=>by rw[y3];exact j9p h k
  refine gj this (gj (y8l _ h) ?_);rw[yd2,yd1];exact yg _
theorem j9q{α:Type}{pool:List α}:∀{L:List α},(∀x∈L,x∈pool)->L∈jn4 pool L.length
 |[],_=>yb.mpr rfl
 |x::L,h=>y3c.mpr ⟨x,h x yu,yk.mpr ⟨L,j9q λy hy=>h y (ym _ hy),rfl⟩⟩
def isrt(l:List Int):List Int:=l.mergeSort λa b=>decide (a<=b)
theorem j2m(l:List Int):(isrt l).Perm l:=y93 _ _
theorem j84(l:List Int):(isrt l).Pairwise (·<=·):=by
 have:=y6x (le:=λa b:Int=>decide (a<=b)) (λa b c h1 h2=>by simp at *;omega) (λa b=>by simp;omega) l;exact this.imp λh=>by simpa using h
theorem jdd:∀{l:List Str},(l.Pairwise λa b=>¬ b.cps.toList<a.cps.toList)->sortedS l=true
 |[],_=>rfl
 |x::r,h=>by
  have key:∀(p:Str) (l:List Str),((p::l).Pairwise λa b=>¬ b.cps.toList<a.cps.toList)->risingS p l=true:=by
   intro p l
   induction l generalizing p with
   |nil=>intro _;rfl
   |cons y r ih=>
    intro h;obtain⟨h1,h2⟩:=y0u.mp h;show(!ltCps y.cps.toList p.cps.toList&&risingS y r)=true;rw[ih y h2,ltCps_eq,ycj];simpa using h1 y yu
  exact key x r h
theorem jn5(l:List Str):(l.mergeSort λa b=>!decide (b.cps.toList<a.cps.toList)).Perm l/\sortedS (l.mergeSort λa b=>!decide (b.cps.toList<a.cps.toList))=true:=by
 refine⟨y93 _ _,?_⟩;refine jdd (ye5 (λh=>?_) (y6x (le:=λa b:Str=>!decide (b.cps.toList<a.cps.toList)) (λa b c h1 h2=>?_) (λa b=>?_) l))
 ·simpa using h
 ·simp only[Bool.not_eq_true',decide_eq_false_iff_not] at *;exact y0b.mpr (List.le_trans (y0b.mp h1) (y0b.mp h2))
 ·by_cases c:b.cps.toList<a.cps.toList
  ·have:¬ a.cps.toList<b.cps.toList:=λz=>y32 _ (y6w c z);simp[this]
  ·simp[c]
def bagN:Nat->Nat->Nat
 |_,0=>1
 |n,k+1=>n*bagN n k+bagN (n+1) k
theorem jgt:∀k n,1<=bagN n k
 |0,n=>yg _
 |k+1,n=>by have:=jgt k (n+1);show 1<=n*bagN n k+bagN (n+1) k;omega
theorem jn6:∀n,n<6->∀k,k<6->n+k<=5->bagN n k<=60:=by decide
def jnv(w:Int)(b:List Int):List (List Int):=((v8 b.length).map λi=>isrt (b.set i (b.getD i 0+w)))++[isrt (b++[w])]
def wtB(k:Nat)(C:List (List Int)):Nat:=(C.map λb=>bagN b.length k).sum
theorem jgu(m:Nat):∀n,(xk n m).sum=n*m
 |0=>by simp
 |n+1=>by rw[ue,y6z,jgu m n,y5z,y7y]
theorem wt_one(k:Nat)(w:Int)(b:List Int):wtB k (jnv w b)=bagN b.length (k+1):=by
 unfold wtB jnv;rw[xh,yb2,xx];have e1:((v8 b.length).map ((λb:List Int=>bagN b.length k) ∘ λi=>isrt (b.set i (b.getD i 0+w))))=xk b.length (bagN b.length k):=by
  rw[List.eq_replicate_iff];refine⟨by simp,λx hx=>?_⟩;obtain⟨i,_,rfl⟩:=yk.mp hx;show bagN (isrt _).length k=_;rw[(j2m _).length_eq,y3w]
 rw[e1,jgu];show b.length*bagN b.length k+(bagN (isrt (b++[w])).length k+0)=b.length*bagN b.length k+bagN (b.length+1) k;rw[(j2m _).length_eq,xa,ub];rfl
theorem jgv(k:Nat)(w:Int):∀C:List (List Int),wtB k (C.flatMap (jnv w))=wtB (k+1) C
 |[]=>rfl
 |b::C=>by
  have h1:=wt_one k w b;have h2:=jgv k w C;unfold wtB at *;rw[y6g,xh,yb2,h1,h2,xm,y6z]
theorem jn7(k:Nat):∀C:List (List Int),C.length<=wtB k C
 |[]=>yg _
 |b::C=>by
  have:=jn7 k C;have:=jgt k b.length;unfold wtB at *;rw[yl,xm,y6z];omega
inductive Rc(g:Gm)(st:StG):List WsG->StG->Prop
 |nil:Rc g st [] st
 |snoc {ws:List WsG}{w:WsG}{b s:StG}:Rc g st ws b->g.dst b w s->Rc g st (ws++[w]) s
theorem Rc.ok{g:Gm}{st s:StG}{ws:List WsG}(h:Rc g st ws s)(h0:g.ok 4 st)(n0:g.nd st)(hw:∀w∈ws,g.okW w):g.ok (4+ws.length) s/\g.nd s:=by
 induction h with
 |nil=>exact⟨h0,n0⟩
 | @snoc ws w b s h1 h2 ih=>
  obtain⟨i1,i2⟩:=ih λx hx=>hw x (gr _ hx);have okw:=hw w (yz _ (yb.mpr rfl));refine⟨by rw[xa,ub];exact Gm.dst_ok i1 i2 okw h2,?_⟩;cases g with
  |store m=>
   obtain⟨x,rfl,hx⟩:=okw;obtain⟨ss,rfl,_⟩:=i1;obtain⟨L,rfl,⟨_,rfl⟩|⟨hn,y,_,hs⟩⟩:=h2
   ·exact i2
   ·refine hs.1.nodup_iff.mpr (y2s.mpr ⟨y5c _ i2,by simp,λa ha c hc e=>hn ?_⟩);rw[yb.mp hc]at e;rw[<- e];exact(ug.mp ha).1
  |_=>trivial
theorem jjd{pool:List Int}(hp:pool.length<=7){m:Nat}{st:List Int}(hs:∀x∈st,x∈pool)(ha:st.Pairwise (·<=·))(m3:m<=3)(hl:st.length=m){ws:List WsG}(hw:∀w∈ws,∃z,w=.i z/\z∈pool):∃L:List StG,L.length<=60/\∀s,Rc (.line m) (.l st) ws s->s∈L:=by
 have inv:∀{ws:List WsG}{s:StG},Rc (.line m) (.l st) ws s->(∀w∈ws,∃z,w=.i z/\z∈pool)->∃L,s=.l L/\L.length=m/\L.Pairwise (·<=·)/\(∀x∈L,x∈pool)/\∀us z,ws=us++[.i z]->z∈L:=by
  intro ws s h hw
  induction h with
  |nil=>exact⟨st,rfl,hl,ha,hs,λus z e=>by simp at e⟩
  | @snoc ws w b s h1 h2 ih=>
   obtain⟨B,rfl,b1,b2,b3,_⟩:=ih λx hx=>hw x (gr _ hx);obtain⟨z,rfl,hz⟩:=hw w (yz _ (yb.mpr rfl));have last:∀{L:List Int},z∈L->∀us y,ws++[WsG.i z]=us++[.i y]->y∈L:=λhL us y e=>by
    have:=(y54 e rfl).2;injection this with this;injection this with this;rw[<- this];exact hL
   obtain⟨L,rfl,⟨hm,rfl⟩|⟨hm,k,hk,hs'⟩⟩:=h2
   ·exact⟨_,rfl,b1,b2,b3,last hm⟩
   ·refine⟨L,rfl,by rw[hs'.len hk,b1],hs'.2,λx hx=>?_,last hs'.mem⟩;rcases x0.mp (hs'.1.mem_iff.mp hx)with y|y
    ·rcases x0.mp y with y|y
     ·exact b3 x (vd y)
     ·rw[yb.mp y];exact hz
    ·exact b3 x (y0i y)
 rcases y1l ws with rfl|⟨us,w,e⟩
 ·refine⟨[.l st],by simp,λs h=>?_⟩;generalize he:([]:List WsG)=ws at h;cases h with
  |nil=>exact yb.mpr rfl
  |snoc _ _=>simp at he
 ·rw[y1k]at e;subst e;obtain⟨z,rfl,hz⟩:=hw w (yz _ (yb.mpr rfl));refine⟨(jn4 pool (m-1)).map λR=>.l (isrt (z::R)),?_,λs h=>?_⟩
  ·rw[y3];refine gj (j9p hp _) ?_;have:m-1=0\/m-1=1\/m-1=2:=by omega
   rcases this with e|e|e<;>rw[e]<;>decide
  ·obtain⟨L,rfl,l1,l2,l3,l4⟩:=inv h hw;have hz:=l4 us z rfl;have pe:=List.perm_cons_erase hz;refine yk.mpr ⟨L.erase z,?_,?_⟩
   ·have:(L.erase z).length=m-1:=(by rw[y06 hz,l1]);rw[<- this];exact j9q λx hx=>l3 x (List.mem_of_mem_erase hx)
   ·rw[j0u ((j2m _).trans pe.symm) (j84 _) l2]
theorem jfi{pool:List Str}(hp:pool.length<=7)(pn:pool.Nodup){m:Nat}{st:List Str}(hs:∀x∈st,x∈pool)(ha:sortedS st=true)(hn:st.Nodup)(m4:m<=4)(hl:st.length=m){ws:List WsG}(hw:∀w∈ws,∃z,w=.s z/\z∈pool):∃L:List StG,L.length<=60/\∀s,Rc (.store m) (.t st) ws s->s∈L:=by
 have inv:∀{ws:List WsG}{s:StG},Rc (.store m) (.t st) ws s->(∀w∈ws,∃z,w=.s z/\z∈pool)->∃L,s=.t L/\L.length=m/\sortedS L=true/\L.Nodup/\∀x∈L,x∈pool:=by
  intro ws s h hw
  induction h with
  |nil=>exact⟨st,rfl,hl,ha,hn,hs⟩
  | @snoc ws w b s h1 h2 ih=>
   obtain⟨B,rfl,b1,b2,b3,b4⟩:=ih λx hx=>hw x (gr _ hx);obtain⟨z,rfl,hz⟩:=hw w (yz _ (yb.mpr rfl));obtain⟨L,rfl,hg⟩:=h2;have hlen:=hg.len b3;rcases hg with⟨_,rfl⟩|⟨hm,y,_,hs'⟩
   ·exact⟨_,rfl,b1,b2,b3,b4⟩
   ·refine⟨L,rfl,by rw[hlen,b1],hs'.2,?_,λx hx=>?_⟩
    ·refine hs'.1.nodup_iff.mpr (y2s.mpr ⟨y5c _ b3,by simp,λa ha c hc e=>hm ?_⟩);rw[yb.mp hc]at e;rw[<- e];exact(ug.mp ha).1
    ·rcases x0.mp (hs'.1.mem_iff.mp hx)with y|y
     ·exact b4 x (ug.mp y).1
     ·rw[yb.mp y];exact hz
 refine⟨(subs m pool).map λS=>.t (S.mergeSort λa b=>!decide (b.cps.toList<a.cps.toList)),by rw[y3,j83];exact jn3 m (by omega) _ (by omega),λs h=>?_⟩;obtain⟨L,rfl,l1,l2,l3,l4⟩:=inv h hw;have pm:(pool.filter λx=>decide (x∈L)).Perm L:=(y5x (pn.filter _) l3).mpr λx=>by
  rw[ug,decide_eq_true_iff];exact⟨λh=>h.2,λh=>⟨l4 x h,h⟩⟩
 refine yk.mpr ⟨_,by rw[<- l1,<- pm.length_eq];exact jjc List.filter_sublist,?_⟩;obtain⟨s1,s2⟩:=jn5 (pool.filter λx=>decide (x∈L));rw[j3w (s1.trans pm) s2 l2]
theorem jje{R:Int}{st:List Int}{ws us:List WsG}(hk:st.length+(ws++us).length<=5)(hw:∀w∈ws,∃z,w=.i z):∃L:List StG,L.length<=60/\∀s,Rc (.bags R) (.l st) ws s->s∈L:=by
 have inv:∀n (ws us:List WsG),ws.length=n->st.length+(ws++us).length<=5->(∀w∈ws,∃z,w=.i z)->∃C:List (List Int),wtB us.length C=bagN st.length (ws++us).length/\∀s,Rc (.bags R) (.l st) ws s->s∈C.map StG.l:=by
  intro n
  induction n with
  |zero=>
   intro ws us hl _ _;cases(vo.mp hl);refine⟨[st],by show bagN st.length us.length+0=bagN st.length us.length;omega,λs h=>?_⟩;generalize he:([]:List WsG)=ws at h;cases h with
   |nil=>exact yb.mpr rfl
   |snoc _ _=>simp at he
  |succ n ih=>
   intro ws us hl hk hw;obtain⟨vs,w,rfl⟩:∃vs w,ws=vs++[w]:=by
    rcases y1l ws with rfl|⟨vs,w,e⟩
    ·simp at hl
    ·exact⟨vs,w,by rw[e,y1k]⟩
   obtain⟨z,rfl⟩:=hw w (yz _ (yb.mpr rfl));have ea:vs++[WsG.i z]++us=vs++(WsG.i z::us):=by simp
   obtain⟨C,c1,c2⟩:=ih vs (.i z::us) (by simpa using hl) (by rw[<- ea];exact hk) λx hx=>hw x (gr _ hx);refine⟨C.flatMap (jnv z),by rw[jgv,ea];exact c1,λs h=>?_⟩;generalize he:vs++[WsG.i z]=ws at h;cases h with
   |nil=>simp at he
   | @snoc ws' w' b _ h1 h2=>
    obtain⟨e1,e2⟩:=y54 he rfl;subst e1;injection e2 with e2;subst e2;obtain⟨B,hB,rfl⟩:=yk.mp (c2 b h1);obtain⟨L,pr,rfl,g1,hg⟩:=h2;refine yk.mpr ⟨L,y3c.mpr ⟨B,hB,?_⟩,rfl⟩;rcases hg with⟨_,pm⟩|⟨_,k,hk,_,pm⟩
    ·refine yz _ (yb.mpr ?_);exact j0u (pm.trans (j2m _).symm) g1 (j84 _)
    ·refine gr _ (yk.mpr ⟨k,vq.mpr hk,?_⟩);exact j0u ((j2m _).trans pm.symm) (j84 _) g1
 obtain⟨C,c1,c2⟩:=inv ws.length ws us rfl hk hw;refine⟨C.map StG.l,?_,c2⟩;rw[y3];refine gj (jn7 us.length C) ?_;rw[c1];exact jn6 _ (by omega) _ (by omega) hk
theorem jde{g:Gm}{st:StG}{ws us:List WsG}(wf:g.wf)(h0:g.ok 4 st)(hw:∀w∈ws++us,g.okW w)(hf:Fit g st (ws++us)):∃L:List StG,L.length<=60/\∀s,Rc g st ws s->s∈L:=by
 have hw':∀w∈ws,g.okW w:=λw h=>hw w (gr _ h);have ok:∀s,g.nd st->Rc g st ws s->g.ok (4+ws.length) s:=λs n h=>(h.ok h0 n hw').1;cases g with
 |hire W=>exact⟨[.i 0,.i 1],by simp,λs h=>by rcases ok s trivial h with rfl|rfl<;>simp⟩
 |wys m t=>
  refine⟨(j4f m).map StG.i,by have:=wf.2;simp[j4f];omega,λs h=>?_⟩;obtain⟨z,rfl,z0,z1⟩:=ok s trivial h;simp only[j4f,xx,yk,vq,y9b];exact⟨z.toNat,by omega,by congr 1;omega⟩
 |shelf ts=>
  refine⟨(ords ts).map StG.t,by rw[y3];have:=j82 wf.2.1;omega,λs h=>?_⟩;obtain⟨L,rfl,pm⟩:=ok s trivial h;exact yk.mpr ⟨L,jgs pm,rfl⟩
 |line m=>
  obtain⟨ns,rfl,hl⟩:=h0;obtain⟨pool,p1,p2,p3,p4⟩:=hf;exact jjd p1 p2 p3 wf.2 hl λw h=>p4 w (gr _ h)
 |store m=>
  obtain⟨ss,rfl,hl,_⟩:=h0;obtain⟨pool,p1,p2,p3,p4,p5,p6⟩:=hf;exact jfi p1 p2 p3 p4 p5 wf.2 hl λw h=>p6 w (gr _ h)
 |bags R=>
  obtain⟨ns,rfl,_⟩:=h0;refine jje (us:=us) hf λw h=>?_;obtain⟨z,rfl,_⟩:=hw' w h;exact⟨z,rfl⟩
theorem j6q{g:Gm}{b:StG}{w:WsG}{sts:List StG}{ps:List (StG×Int)}(mm:∀s c,(s,c)∈ps↔s∈sts/\g.pp b w s (.int c))(h:∀s,s∈sts↔g.dst b w s)(s:StG)(c:Int):(s,c)∈ps↔g.to b w s c:=by rw[mm,h];rfl
section
variable{S:Type}[DecidableEq S]
abbrev Row(S:Type):=List (S×Int×Option S)
def getR(r:Row S)(s:S):Option (Int×Option S):=(r.find? λe=>decide (e.1=s)).map (·.2)
def putR(r:Row S)(s:S)(x:Int×Option S):Row S:=if (r.any λe=>decide (e.1=s))=true then r.map λe=>if e.1=s then(e.1,x)else e else r++[(s,x)]
def j9r(p:Int)(b:S)(acc:Row S)(m:S×Int):Row S:=
 match getR acc m.1 with
 |none=>putR acc m.1 (p+m.2,some b)
 |some y=>if p+m.2<y.1 then putR acc m.1 (p+m.2,some b)else acc
theorem jfj{b:S}{acc:Row S}{m:S×Int}(h:getR acc m.1=none):j9r p b acc m=putR acc m.1 (p+m.2,some b):=by unfold j9r;rw[h]
theorem jdf{b:S}{acc:Row S}{m:S×Int}{y:Int×Option S}(h:getR acc m.1=some y)(c:p+m.2<y.1):j9r p b acc m=putR acc m.1 (p+m.2,some b):=by unfold j9r;rw[h];exact if_pos c
theorem jdg{b:S}{acc:Row S}{m:S×Int}{y:Int×Option S}(h:getR acc m.1=some y)(c:¬ p+m.2<y.1):j9r p b acc m=acc:=by unfold j9r;rw[h];exact if_neg c
theorem j1i{e:S×Int×Option S}{r:Row S}{s:S}(h:e.1=s):getR (e::r) s=some e.2:=by simp[getR,y14,h]
theorem j1j{e:S×Int×Option S}{r:Row S}{s:S}(h:¬ e.1=s):getR (e::r) s=getR r s:=by simp[getR,y14,h]
theorem jdh{r:Row S}{s:S}{x:Int×Option S}(h:getR r s=some x):(s,x)∈r:=by
 induction r with
 |nil=>cases h
 |cons e r ih=>
  by_cases q:e.1=s
  ·rw[j1i q]at h;cases h;rw[<- q];exact yu
  ·rw[j1j q]at h;exact ym _ (ih h)
theorem j31(s:S):∀r:Row S,(r.any λe=>decide (e.1=s))=(getR r s).isSome
 |[]=>rfl
 |e::r=>by
  rw[y3u,j31 s r];by_cases q:e.1=s
  ·rw[j1i q,decide_eq_true q];rfl
  ·rw[j1j q,decide_eq_false q,yck]
theorem j9s{r:Row S}(nd:(r.map (·.1)).Nodup){e:S×Int×Option S}(h:e∈r):getR r e.1=some e.2:=by
 induction r with
 |nil=>cases h
 |cons f r ih=>
  rw[xm,uh]at nd;rcases xf.mp h with rfl|h
  ·exact j1i rfl
  ·rw[j1j (λz=>nd.1 (z ▸ yk.mpr ⟨e,h,rfl⟩))];exact ih nd.2 h
theorem jdi(s t:S)(x:Int×Option S):∀r:Row S,getR (r.map λe=>if e.1=s then(e.1,x)else e) t=(getR r t).map λy=>if t=s then x else y
 |[]=>rfl
 |e::r=>by
  rw[xm];by_cases q:e.1=t
  ·rw[j1i (e:=if e.1=s then(e.1,x)else e) (by split<;>exact q),j1i q];by_cases z:e.1=s
   ·rw[if_pos z,y2j,if_pos (q.symm.trans z)]
   ·rw[if_neg z,y2j,if_neg (λw=>z (q.trans w))]
  ·rw[j1j (e:=if e.1=s then(e.1,x)else e) (by split<;>exact q),j1j q];exact jdi s t x r
theorem j9t(s t:S)(x:Int×Option S):∀r:Row S,getR r s=none->getR (r++[(s,x)]) t=if t=s then some x else getR r t
 |[],_=>by
  by_cases q:t=s
  ·rw[if_pos q];exact j1i q.symm
  ·rw[if_neg q];exact j1j (λz=>q z.symm)
 |e::r,h=>by
  have ne:¬ e.1=s:=λz=>by rw[j1i z]at h;cases h
  rw[j1j ne]at h;rw[y7c];by_cases q:e.1=t
  ·rw[j1i q,j1i q,if_neg (λz=>ne (q.trans z))]
  ·rw[j1j q,j1j q];exact j9t s t x r h
theorem j32(r:Row S)(s t:S)(x:Int×Option S):getR (putR r s x) t=if t=s then some x else getR r t:=by
 unfold putR;rw[j31];cases h:getR r s with
 |none=>
  rw[if_neg (by simp)];exact j9t s t x r h
 |some y=>
  rw[if_pos (by simp),jdi];by_cases q:t=s
  ·rw[if_pos q,q,h,y2j,if_pos rfl]
  ·rw[if_neg q];cases getR r t with
   |none=>rfl
   |some y=>rw[y2j,if_neg q]
theorem jfk(r:Row S)(s:S)(x:Int×Option S):((putR r s x).map (·.1))=if (getR r s).isSome=true then r.map (·.1)else r.map (·.1)++[s]:=by
 unfold putR;rw[j31];split
 ·rw[xx];refine y3g λe _=>?_;show(if e.1=s then(e.1,x)else e).1=e.1;split<;>rfl
 ·rw[xh];rfl
theorem j9u{r:Row S}{s:S}(h:getR r s=none):s∉r.map (·.1):=λq=>by
 obtain⟨e,he,rfl⟩:=yk.mp q;have:=j31 e.1 r;rw[h]at this;have z:(r.any λf=>decide (f.1=e.1))=true:=y53.mpr ⟨e,he,by simp⟩;rw[this]at z;cases z
theorem j2n{r:Row S}{s:S}(h:s∈r.map (·.1)):∃x,getR r s=some x:=by
 cases q:getR r s with
 |none=>exact absurd h (j9u q)
 |some x=>exact⟨x,rfl⟩
theorem j3y{r:Row S}{s:S}{x:Int×Option S}(nd:(r.map (·.1)).Nodup):((putR r s x).map (·.1)).Nodup:=by
 rw[jfk];split
 ·exact nd
 ·rename_i h;refine y2s.mpr ⟨nd,uh.mpr ⟨by simp,y33⟩,λa ha b hb=>?_⟩;rw[yb.mp hb];intro z;rw[z]at ha;exact j9u (by simpa using h) ha
structure MadeR(mv:S->List (S×Int))(r:Row S)(done:List (S×Int×Option S))(acc:Row S):Prop where
 nd:(acc.map (·.1)).Nodup
 of:∀s x,getR acc s=some x->∃e m,e∈r/\m∈mv e.1/\m.1=s/\x=(e.2.1+m.2,some e.1)
 met:∀e∈done,∀m∈mv e.1,∃x,getR acc m.1=some x/\x.1<=e.2.1+m.2
theorem jfl{p:Int}{b:S}{acc:Row S}{m:S×Int}:(∀t,t≠m.1->getR (j9r p b acc m) t=getR acc t)/\(∃x,getR (j9r p b acc m) m.1=some x/\x.1<=p+m.2/\(∀y,getR acc m.1=some y->x.1<=y.1)/\(getR acc m.1=some x\/x=(p+m.2,some b)))/\((acc.map (·.1)).Nodup->((j9r p b acc m).map (·.1)).Nodup):=by
 unfold j9r;cases h:getR acc m.1 with
 |none=>
  dsimp only;refine⟨λt ht=>by rw[j32,if_neg ht],⟨_,by rw[j32,if_pos rfl],y8x _,λy hy=>(by cases hy),.inr rfl⟩,j3y⟩
 |some y=>
  dsimp only;split
  ·rename_i c;refine⟨λt ht=>by rw[j32,if_neg ht],⟨_,by rw[j32,if_pos rfl],y8x _,λz hz=>(by cases hz;show p+m.2<=y.1;omega),.inr rfl⟩,j3y⟩
  ·rename_i c;exact⟨λt _=>rfl,⟨y,h,by omega,λz hz=>(by cases hz;exact y8x _),.inl rfl⟩,id⟩
inductive WayR:S->List (S->List (S×Int))->List S->Int->Prop
 |nil {s:S}:WayR s [] [] 0
 |cons {s t:S}{p q:Int}{mv:S->List (S×Int)}{mvs:List (S->List (S×Int))}{ws:List S}:(t,p)∈mv s->WayR t mvs ws q->WayR s (mv::mvs) (t::ws) (p+q)
end
def TK(H H':Hp):Prop:=∀b xs,H b=some (.tup xs)->H' b=some (.tup xs)
theorem TK.tr{H1 H2:Hp}(a:TK H H1)(b:TK H1 H2):TK H H2:=λc xs h=>b c xs (a c xs h)
theorem jfm(e:Ext H H'):TK H H':=λb xs h=>e b _ h
theorem jgw{x:Addr}(hx:H x=some (.lst ys))(b:But x H H'):TK H H':=λc xs h=>b c _ (λz=>by rw[z,hx]at h;cases h) h
section
variable{S κ:Type}[DecidableEq S][DecidableEq κ]
def bfV(sv:Hp->S->V->Prop)(H:Hp):Option S->V->Prop
 |none,v=>v=.non
 |some s,v=>sv H s v
inductive RowG(key:S->κ)(sv:Hp->S->V->Prop)(H:Hp):List (κ×V)->Row S->Prop
 |nil:RowG key sv H [] []
 |cons {s:S}{q:Addr}{p:Int}{b:Option S}{bv:V}{kvs:List (κ×V)}{r:Row S}:H q=some (.tup [.int p,bv])->bfV sv H b bv->RowG key sv H kvs r->RowG key sv H ((key s,.ref q)::kvs) ((s,p,b)::r)
variable{key:S->κ}{sv:Hp->S->V->Prop}{H H':Hp}{kvs:List (κ×V)}{r:Row S}
theorem RowG.mono(mo:∀{s v},sv H s v->sv H' s v)(e:TK H H')(h:RowG key sv H kvs r):RowG key sv H' kvs r:=by
 induction h with
 |nil=>exact .nil
 | @cons s q p b bv kvs r hq hb _ ih=>
  refine .cons (e _ _ hq) ?_ ih;cases b with
  |none=>exact hb
  |some x=>exact mo hb
theorem RowG.length(h:RowG key sv H kvs r):kvs.length=r.length:=by
 induction h with
 |nil=>rfl
 |cons _ _ _ ih=>simp[ih]
theorem RowG.at(h:RowG key sv H kvs r):∀(i:Nat) (kv:κ×V),kvs[i]?=some kv->∃s q p b bv,r[i]?=some (s,p,b)/\kv=(key s,.ref q)/\H q=some (.tup [.int p,bv])/\bfV sv H b bv:=by
 induction h with
 |nil=>exact λi kv h=>by simp at h
 | @cons s q p b bv kvs r hq hb _ ih=>
  intro i kv h;cases i with
  |zero=>simp at h;exact⟨s,q,p,b,bv,by simp,h.symm,hq,hb⟩
  |succ i=>simpa using ih i kv (by simpa using h)
theorem RowG.val(inj:∀a b,key a=key b->a=b)(h:RowG key sv H kvs r)(s:S):(valV kvs (key s)=none/\getR r s=none)\/∃q p b bv,valV kvs (key s)=some (.ref q)/\getR r s=some (p,b)/\H q=some (.tup [.int p,bv])/\bfV sv H b bv:=by
 induction h with
 |nil=>exact .inl ⟨rfl,rfl⟩
 | @cons t q p b bv kvs r hq hb _ ih=>
  by_cases e:t=s
  ·subst e;exact .inr ⟨q,p,b,bv,j2b rfl,j1i rfl,hq,hb⟩
  ·rw[j2c (p:=(key t,V.ref q)) (λz=>e (inj _ _ z)),j1j (e:=(t,p,b)) e];exact ih
theorem RowG.any(inj:∀a b,key a=key b->a=b)(h:RowG key sv H kvs r)(s:S):(kvs.any λkv=>decide (kv.1=key s))=r.any λe=>decide (e.1=s):=by
 rw[j55,j31];rcases h.val inj s with⟨a,b⟩|⟨q,p,b,bv,a,c,_⟩
 ·rw[a,b];rfl
 ·rw[a,c];rfl
theorem RowG.repl(inj:∀a b,key a=key b->a=b)(h:RowG key sv H kvs r){s:S}{q:Addr}{p:Int}{b:Option S}{bv:V}(hq:H q=some (.tup [.int p,bv]))(hb:bfV sv H b bv):RowG key sv H (kvs.map λkv=>if kv.1=key s then(kv.1,.ref q)else kv) (r.map λe=>if e.1=s then(e.1,(p,b))else e):=by
 induction h with
 |nil=>exact .nil
 | @cons t q' p' b' bv' kvs r hq' hb' _ ih=>
  rw[xm,xm];by_cases e:t=s
  ·subst e;rw[if_pos rfl,if_pos rfl];exact .cons hq hb ih
  ·rw[if_neg (show ¬ (key t,V.ref q').1=key s from λz=>e (inj _ _ z)),if_neg (show ¬ (t,p',b').1=s from e)];exact .cons hq' hb' ih
theorem RowG.snoc(h:RowG key sv H kvs r){s:S}{q:Addr}{p:Int}{b:Option S}{bv:V}(hq:H q=some (.tup [.int p,bv]))(hb:bfV sv H b bv):RowG key sv H (kvs++[(key s,.ref q)]) (r++[(s,(p,b))]):=by
 induction h with
 |nil=>exact .cons hq hb .nil
 |cons hq' hb' _ ih=>exact .cons hq' hb' ih
theorem RowG.put(inj:∀a b,key a=key b->a=b)(h:RowG key sv H kvs r){s:S}{q:Addr}{b:Option S}{bv:V}(hq:H q=some (.tup [.int p,bv]))(hb:bfV sv H b bv):RowG key sv H (putK kvs (key s) (.ref q)) (putR r s (p,b)):=by
 unfold putK putR;rw[h.any inj s];split
 ·exact h.repl inj hq hb
 ·exact h.snoc hq hb
end
def keyU:StG->KU
 | .i z=>.inl (.inl z)
 | .l ns=>.inr (ns.map y23)
 | .t []=>.inl (.inr ⟨#[]⟩)
 | .t (s::r)=>.inr ((s::r).map y2l)
theorem jgx:∀{a b:List Int},(a.map (y23:Int->Key))=b.map y23->a=b
 |[],[],_=>rfl
 |[],_::_,h=>by cases h
 |_::_,[],h=>by cases h
 |x::a,y::b,h=>by
  rw[xm,xm]at h;injection h with h1 h2;injection h1 with h1;rw[h1,jgx h2]
theorem jgy:∀{a b:List Str},(a.map (y2l:Str->Key))=b.map y2l->a=b
 |[],[],_=>rfl
 |[],_::_,h=>by cases h
 |_::_,[],h=>by cases h
 |x::a,y::b,h=>by
  rw[xm,xm]at h;injection h with h1 h2;injection h1 with h1;rw[h1,jgy h2]
theorem j2g:∀a b:StG,keyU a=keyU b->a=b
 | .i z,.i y,h=>by injection h with h;injection h with h;rw[h]
 | .i z,.l y,h=>by cases h
 | .i z,.t [],h=>by injection h with h;cases h
 | .i z,.t (_::_),h=>by cases h
 | .l z,.i y,h=>by cases h
 | .l z,.l y,h=>by injection h with h;rw[jgx h]
 | .l z,.t [],h=>by cases h
 | .l [],.t (_::_),h=>by injection h with h;cases h
 | .l (_::_),.t (_::_),h=>by injection h with h;injection h with h;cases h
 | .t [],.i y,h=>by injection h with h;cases h
 | .t [],.l y,h=>by cases h
 | .t [],.t [],h=>rfl
 | .t [],.t (_::_),h=>by cases h
 | .t (_::_),.i y,h=>by cases h
 | .t (_::_),.l [],h=>by injection h with h;cases h
 | .t (_::_),.l (_::_),h=>by injection h with h;injection h with h;cases h
 | .t (_::_),.t [],h=>by cases h
 | .t (_::_),.t (_::_),h=>by injection h with h;rw[jgy h]
theorem j5q{H:Hp}{v:V}:∀{s:StG},s≠.t []->(KAt H (keyU s) v↔s.at_ H v)
 | .i z,_=>yb1
 | .l ns,_=>by
  show(∃b,v=.ref b/\H b=some (.tup ((ns.map y23).map kV)))↔∃p,v=.ref p/\H p=some (.tup (ns.map V.int));rw[xx];exact yb1
 | .t [],h=>absurd rfl h
 | .t (s::r),_=>by
  show(∃b,v=.ref b/\H b=some (.tup (((s::r).map y2l).map kV)))↔∃p,v=.ref p/\H p=some (.tup ((s::r).map V.str));rw[xx];exact yb1
def Gm.T:Gm->Bool
 | .hire _=>false
 | .wys _ _=>false
 |_=>true
theorem Gm.kd{g:Gm}{n:Nat}{s:StG}(wf:g.wf)(h:g.ok n s):(keyU s).tup=g.T/\s≠.t []:=by
 cases g with
 |hire W=>rcases h with rfl|rfl<;>exact⟨rfl,λz=>nomatch z⟩
 |line m=>obtain⟨ns,rfl,_⟩:=h;exact⟨rfl,λz=>nomatch z⟩
 |wys m t=>obtain⟨z,rfl,_⟩:=h;exact⟨rfl,λz=>nomatch z⟩
 |bags R=>obtain⟨ns,rfl,_⟩:=h;exact⟨rfl,λz=>nomatch z⟩
 |shelf ts=>
  obtain⟨ss,rfl,pm⟩:=h;have:=pm.length_eq;have:=wf.1;cases ss with
  |nil=>simp at *;omega
  |cons x r=>exact⟨rfl,λz=>nomatch z⟩
 |store m=>
  obtain⟨ss,rfl,hl,_⟩:=h;have:=wf.1;cases ss with
  |nil=>simp at *;omega
  |cons x r=>exact⟨rfl,λz=>nomatch z⟩
abbrev RowU:=RowG keyU StG.at_
theorem StG.tk{H H':Hp}(e:TK H H'){s:StG}{v:V}(h:s.at_ H v):s.at_ H' v:=by
 cases s with
 |i z=>exact h
 |l ns=>obtain⟨p,h1,h2⟩:=h;exact⟨p,h1,e _ _ h2⟩
 |t ss=>obtain⟨p,h1,h2⟩:=h;exact⟨p,h1,e _ _ h2⟩
theorem j2o{kvs:List (KU×V)}{r:Row StG}(e:TK H H')(h:RowU H kvs r):RowU H' kvs r:=RowG.mono (H:=H) (H':=H') (StG.tk e) e h
theorem j3z{x:Addr}{u:HO}{T:Bool}{kvs:List (KU×V)}(hx:H x=some u)(du:DU u T kvs)(b:But x H H'):TK H H':=λc xs h=>b c _ (λz=>by rw[z,hx]at h;cases du<;>cases h) h
structure Made(src:StG->Int->StG->Prop)(met:StG->Int->Prop)(acc:Row StG):Prop where
 nd:(acc.map (·.1)).Nodup
 of:∀s x,getR acc s=some x->∃b,src s x.1 b/\x.2=some b
 met:∀s q,met s q->∃x,getR acc s=some x/\x.1<=q
theorem Made.step{src:StG->Int->StG->Prop}{met:StG->Int->Prop}{acc:Row StG}(h:Made src met acc){b:StG}{m:StG×Int}(hs:src m.1 (p+m.2) b):Made src (λs q=>met s q\/(s=m.1/\q=p+m.2)) (j9r p b acc m):=by
 obtain⟨g1,⟨x,g2,g3,g4,g5⟩,g6⟩:=jfl (p:=p) (b:=b) (acc:=acc) (m:=m);refine⟨g6 h.nd,λs y hy=>?_,λs q hq=>?_⟩
 ·by_cases e:s=m.1
  ·subst e;rw[g2]at hy;cases hy;rcases g5 with g5|g5
   ·exact h.of _ _ g5
   ·rw[g5];exact⟨b,hs,rfl⟩
  ·rw[g1 s e]at hy;exact h.of _ _ hy
 ·rcases hq with hq|⟨rfl,rfl⟩
  ·obtain⟨y,y1,y2⟩:=h.met s q hq;by_cases e:s=m.1
   ·subst e;have:=g4 y y1;exact⟨x,g2,by omega⟩
   ·exact⟨y,by rw[g1 s e];exact y1,y2⟩
  ·exact⟨x,g2,g3⟩
theorem Made.imp{src:StG->Int->StG->Prop}{met met':StG->Int->Prop}{acc:Row StG}(h:Made src met acc)(k:∀s q,met' s q->met s q):Made src met' acc:=⟨h.nd,h.of,λs q hq=>h.met s q (k s q hq)⟩
def srcR(g:Gm)(w:WsG)(r:Row StG)(s:StG)(q:Int)(b:StG):Prop:=∃e∈r,e.1=b/\∃c,g.to b w s c/\q=e.2.1+c
def metR(g:Gm)(w:WsG)(r:Row StG)(s:StG)(q:Int):Prop:=∃e∈r,∃c,g.to e.1 w s c/\q=e.2.1+c
def Nxt(g:Gm)(w:WsG)(r r':Row StG):Prop:=Made (srcR g w r) (metR g w r) r'
def RowF(H:Hp)(g:Gm)(d:Addr)(r:Row StG):Prop:=∃o u kvs,H d=some (.frz o u)/\DU u g.T kvs/\RowU H kvs r
theorem RowF.mono(k:∀b o u,H b=some (.frz o u)->H' b=some (.frz o u))(e:TK H H'){g:Gm}{d:Addr}{r:Row StG}(h:RowF H g d r):RowF H' g d r:=let ⟨o,u,kvs,h1,h2,h3⟩:=h;⟨o,u,kvs,k _ _ _ h1,h2,j2o e h3⟩
theorem RowF.ext(e:Ext H H'){g:Gm}{d:Addr}{r:Row StG}(h:RowF H g d r):RowF H' g d r:=h.mono (λb o u z=>e _ _ z) (jfm e)
theorem jgz{g:Gm}{w:WsG}{r r0:Row StG}{met:StG->Int->Prop}(h:Made (srcR g w r0) met r){L:List StG}(hL:∀e∈r0,∀s,g.dst e.1 w s->s∈L):r.length<=L.length:=by
 have:=jdb h.nd (m:=L) λs hs=>by
  obtain⟨x,hx⟩:=j2n hs;obtain⟨b,⟨e,he,rfl,c,ht,_⟩,_⟩:=h.of s x hx;exact hL e he s ht.1
 simpa using this
def OneK(P:StG->Prop):Prop:=(∀s,P s->∃z,s=.i z)\/(∀s,P s->∃L,s=.l L)\/∀s,P s->∃L,s=.t L
theorem Gm.one(g:Gm)(n:Nat):OneK (g.ok n):=by
 cases g with
 |hire W=>exact .inl λs h=>by rcases h with h|h<;>exact⟨_,h⟩
 |line m=>exact .inr (.inl λs ⟨L,h,_⟩=>⟨L,h⟩)
 |shelf m=>exact .inr (.inr λs ⟨L,h,_⟩=>⟨L,h⟩)
 |wys m t=>exact .inl λs ⟨z,h,_⟩=>⟨z,h⟩
 |store m=>exact .inr (.inr λs ⟨L,h,_⟩=>⟨L,h⟩)
 |bags m=>exact .inr (.inl λs ⟨L,h,_⟩=>⟨L,h⟩)
def wS:StG->List (List Int)
 | .i z=>[[z]]
 | .l ns=>ns.map λn=>[n]
 | .t ss=>ss.map txt
def kS:StG->C
 | .i _=>.i
 | .l _=>.r false
 | .t _=>.r true
def wP(p:StG×Int):List (List (List Int)):=[wS p.1,[[p.2]]]
def kdP(c:C):Nat->C
 |0=>c
 |_=>.i
theorem wS_in{a b:StG}(k:kS a=kS b)(e:wS a=wS b):a=b:=by
 cases a with
 |i x=>cases b with
  |i y=>cases e;rfl
  |_=>cases k
 |l x=>cases b with
  |l y=>rw[(ua (λa b e=>by injection e)).mp e]
  |_=>cases k
 |t x=>cases b with
  |t y=>rw[(ua (λa b=>j7z)).mp e]
  |_=>cases k
theorem wS_lt{a b:StG}(k:kS a=kS b):wS a<wS b\/a=b\/wS b<wS a:=by
 by_cases h:wS a<wS b
 ·exact .inl h
 ·by_cases g:wS b<wS a
  ·exact .inr (.inr g)
  ·exact .inr (.inl (wS_in k (y3b (y0b.mp g) (y0b.mp h))))
theorem wS_ltS{a b:StG}(k:kS a=kS b)(h:wS a<wS b):ltS a b:=by
 cases a with
 |i x=>cases b with
  |i y=>exact(j4j.trans j4j).mp h
  |_=>cases k
 |l x=>cases b with
  |l y=>exact(j6m j4j λe=>by cases e;rfl).mp h
  |_=>cases k
 |t x=>cases b with
  |t y=>
   show cpm x<cpm y;have e:∀l:List Str,l.map txt=(cpm l).map λx=>x.map λ(n:Nat)=>(n:Int):=λl=>by unfold cpm;rw[xx];rfl
   have h':x.map txt<y.map txt:=h;rw[e,e,j6m (j6m yaf y3t) λh=>(ua (λa b e=>y3t e)).mp h]at h';exact h'
  |_=>cases k
theorem imH_S{H:Hp}{v:V}{s:StG}:ImH H (kS s) v (wS s)↔s.at_ H v:=by
 cases s with
 |i z=>exact⟨λ⟨n,h1,h2⟩=>by cases h2;exact h1,λh=>⟨z,h,rfl⟩⟩
 |l ns=>exact⟨λ⟨a,ms,h1,h2,h3⟩=>⟨a,h1,by rw[(ua (λa b e=>by injection e)).mp h3];exact h2⟩,λ⟨a,h1,h2⟩=>⟨a,ns,h1,h2,rfl⟩⟩
 |t ns=>exact⟨λ⟨a,ms,h1,h2,h3⟩=>⟨a,h1,by rw[(ua (λa b=>j7z)).mp h3];exact h2⟩,λ⟨a,h1,h2⟩=>⟨a,ns,h1,h2,rfl⟩⟩
theorem rw_P{H:Hp}{v:V}{p:StG×Int}:RwH H (kdP (kS p.1)) v (wP p)↔∃c sv,v=.ref c/\H c=some (.tup [sv,.int p.2])/\p.1.at_ H sv:=by
 constructor
 ·rintro⟨a,us,rfl,ha,im⟩
  match us,im,ha with
  |[u1,u2],⟨i1,⟨n,e1,e2⟩,_⟩,ha=>cases e2;rw[e1]at ha;exact⟨a,u1,rfl,ha,imH_S.mp i1⟩
 ·rintro⟨c,sv,rfl,hc,h⟩;exact⟨c,_,rfl,hc,imH_S.mpr h,⟨_,rfl,rfl⟩,trivial⟩
theorem ps_W{H:Hp}{c:C}:∀{ps:List (StG×Int)}{ys:List V},(∀p∈ps,kS p.1=c)->(PsAt H ps ys↔All2 (RwH H (kdP c)) ys (ps.map wP))
 |[],[],_=>⟨λ_=>.nil,λ_=>trivial⟩
 |p::ps,y::ys,hc=>by
  have h1:=hc p yu;have ih:=ps_W (H:=H) (ps:=ps) (ys:=ys) λq hq=>hc q (ym _ hq);subst h1;exact⟨λ⟨k1,k2⟩=>.cons (rw_P.mpr k1) (ih.mp k2),λr=>by cases r with|cons x r=>exact⟨rw_P.mp x,ih.mpr r⟩⟩
 |[],_::_,_=>⟨λz=>z.elim,λr=>by cases r⟩
 |_::_,[],_=>⟨λz=>z.elim,λr=>by cases r⟩
theorem jn8{K:y9}{Q:VK}{p:Addr}{ps:List (StG×Int)}{P:StG->Prop}(h:H p=some (.lst ys))(hp:PsAt H ps ys)(nd:(ps.map ye1).Nodup)(hP:∀x∈ps,P x.1)(ok:OneK P)(hn:ys.length<64)
  (q:∀l zs qs H',H l=none->H' l=some (.lst zs)->PsAt H' qs zs->qs.Perm ps->RisS qs->Ext H H'->Q (.ref l) H'):rSoW K [.ref p] H Q:=by
 obtain⟨c,hc⟩:∃c,∀x∈ps,kS x.1=c:=by
  rcases ok with ok|ok|ok
  ·exact⟨.i,λx hx=>by obtain⟨z,e⟩:=ok _ (hP x hx);rw[e];rfl⟩
  ·exact⟨.r false,λx hx=>by obtain⟨z,e⟩:=ok _ (hP x hx);rw[e];rfl⟩
  ·exact⟨.r true,λx hx=>by obtain⟨z,e⟩:=ok _ (hP x hx);rw[e];rfl⟩
 refine r_soW h ((ps_W hc).mp hp) (λ_ Y hY=>by obtain⟨x,_,rfl⟩:=yk.mp hY;exact λz=>nomatch z) hn λl vs' Ys' H' nl ql r' pm pw e=>?_;obtain⟨qs,rfl,hq⟩:=j9f (f:=wP) (p:=λx=>kS x.1=c) λY (hY:Y∈Ys')=>by obtain⟨x,hx,z⟩:=yk.mp (pm.mem_iff.mp hY);exact⟨x,z.symm,hc x hx⟩
 have pm2:=j2l (S:=λx:StG×Int=>kS x.1=c) (λ{a b} ha hb e=>by
  injection e with e1 e2;injection e2 with e2 _;injection e2 with e2 _;injection e2 with e2 _;exact Prod.ext (wS_in (ha.trans hb.symm) e1) e2) hq hc pm
 refine q l vs' qs H' nl ql (((ps_W hq).mpr r').keep e.kp) pm2 ?_ e;have nd2:=(pm2.map ye1).nodup_iff.mpr nd;rw[y9u,v7]at nd2;rw[v7]at pw;refine ybw (λ{a b} ha hb ⟨n,k⟩=>?_) (nd2.and pw);have kk:=(hq a ha).trans (hq b hb).symm;rcases wS_lt kk with z|z|z
 ·exact wS_ltS kk z
 ·exact absurd z n
 ·exact absurd (ul.mpr (.inl z)) k
def RowR(H:Hp)(g:Gm)(r:Row StG)(v:V):Prop:=∃d,v=.ref d/\RowF H g d r
inductive ChU(g:Gm)(st:StG):List WsG->List (Row StG)->Prop
 |nil:ChU g st [] ([]++[[(st,(0:Int),(none:Option StG))]])
 |snoc {ws:List WsG}{w:WsG}{rs:List (Row StG)}{r r':Row StG}:ChU g st ws (rs++[r])->Nxt g w r r'->ChU g st (ws++[w]) (rs++[r]++[r'])
theorem ChU.each{g:Gm}{st:StG}{ws:List WsG}{R:List (Row StG)}(h:ChU g st ws R):R.length=ws.length+1/\∀j r,R[j]?=some r->(r.map (·.1)).Nodup/\∀e∈r,Rc g st (ws.take j) e.1:=by
 induction h with
 |nil=>
  refine⟨rfl,λj r e=>?_⟩;have hj:j=0:=by have:=(yw.mp e).1;simpa using this
  subst hj;cases(gf e:_=r);exact⟨by simp,λe he=>by rw[yb.mp he];exact .nil⟩
 | @snoc ws w rs r r' h1 h2 ih=>
  obtain⟨i1,i2⟩:=ih;have l1:(rs++[r]).length=ws.length+1:=i1;refine⟨by have:=l1;simp at this ⊢;omega,λj x e=>?_⟩;by_cases c:j<(rs++[r]).length
  ·rw[yv c]at e;obtain⟨k1,k2⟩:=i2 j x e;refine⟨k1,λy hy=>?_⟩;rw[y56 (by omega)];exact k2 y hy
  ·have hj:j=(rs++[r]).length:=by have:=(yw.mp e).1;simp at this;simp at c ⊢;omega
   rw[hj,yp (yg _),uq]at e;cases(gf e:r'=x);refine⟨h2.nd,λy hy=>?_⟩;obtain⟨b,⟨z,hz,rfl,c,ht,_⟩,_⟩:=h2.of _ _ (j9s h2.nd hy);obtain⟨_,k2⟩:=i2 rs.length r (by rw[yp (yg _),uq];rfl);have lr:rs.length=ws.length:=by simp at l1;omega
   have:=k2 z hz;rw[lr,vk]at this;rw[hj,l1,xg (by simp)];exact .snoc this ht.1
theorem Fit.nd{g:Gm}{st:StG}{ws:List WsG}(h:g.ok 4 st)(f:Fit g st ws):g.nd st:=by
 cases g with
 |store m=>
  obtain⟨ss,rfl,_⟩:=h;obtain⟨_,_,_,_,_,k,_⟩:=f;exact k
 |_=>trivial
def NextP(g:Gm)(w:WsG)(ps qs:List (StG×Int)):Prop:=RisS qs/\∀s c,(s,c)∈qs↔(∃b p q,(b,p)∈ps/\g.to b w s q/\c=p+q)/\∀b p q,(b,p)∈ps->g.to b w s q->c<=p+q
theorem NextP.uniq{g:Gm}{w:WsG}{ps a b:List (StG×Int)}(h:NextP g w ps a)(k:NextP g w ps b):a=b:=h.1.uniq k.1 λs c=>by rw[h.2,k.2]
def jjf(r:Row StG):List (StG×Int):=r.map λe=>(e.1,e.2.1)
def Told(r:Row StG)(ps:List (StG×Int)):Prop:=RisS ps/\∀s c,(s,c)∈ps↔∃b,(s,c,b)∈r
theorem Told.next{g:Gm}{w:WsG}{r r':Row StG}{ps qs:List (StG×Int)}(h:Told r ps)(k:Told r' qs)(n:Nxt g w r r'):NextP g w ps qs:=by
 refine⟨k.1,λs c=>?_⟩;rw[k.2];constructor
 ·rintro⟨b,hb⟩;have gs:=j9s n.nd hb;obtain⟨b',⟨e,he,rfl,q,ht,hq⟩,_⟩:=n.of _ _ gs;refine⟨⟨e.1,e.2.1,q,(h.2 _ _).mpr ⟨e.2.2,he⟩,ht,hq⟩,λb'' p q' hp ht'=>?_⟩;obtain⟨x,hx⟩:=(h.2 _ _).mp hp;obtain⟨y,y1,y2⟩:=n.met s (p+q') ⟨_,hx,q',ht',rfl⟩;rw[gs]at y1;cases y1;exact y2
 ·rintro⟨⟨b,p,q,hp,ht,rfl⟩,least⟩;obtain⟨x,hx⟩:=(h.2 _ _).mp hp;obtain⟨y,y1,y2⟩:=n.met s (p+q) ⟨_,hx,q,ht,rfl⟩;obtain⟨b',⟨e,he,rfl,q',ht',hq'⟩,_⟩:=n.of _ _ y1;have:=least e.1 e.2.1 q' ((h.2 _ _).mpr ⟨e.2.2,he⟩) ht';have e1:p+q=y.1:=by omega
  rw[e1];exact⟨y.2,jdh y1⟩
inductive TabU(g:Gm)(st:StG):List WsG->List (List (StG×Int))->Prop
 |nil:TabU g st [] ([]++[[(st,(0:Int))]])
 |snoc {ws:List WsG}{w:WsG}{ts:List (List (StG×Int))}{p q:List (StG×Int)}:TabU g st ws (ts++[p])->NextP g w p q->TabU g st (ws++[w]) (ts++[p]++[q])
def LsF(H0 H:Hp)(ps:List (StG×Int))(v:V):Prop:=∃l zs,v=.ref l/\H0 l=none/\H l=some (.lst zs)/\PsAt H ps zs
theorem LsF.keep{H0 H H':Hp}(e:Kp H H'){ps:List (StG×Int)}{v:V}(h:LsF H0 H ps v):LsF H0 H' ps v:=let ⟨l,zs,h1,h0,h2,h3⟩:=h;⟨l,zs,h1,h0,e _ _ h2 rfl,h3.keep e⟩
def LsAt(H:Hp)(ps:List (StG×Int))(v:V):Prop:=∃l zs,v=.ref l/\H l=some (.lst zs)/\PsAt H ps zs
theorem LsAt.keep{H H':Hp}(e:Kp H H'){ps:List (StG×Int)}{v:V}(h:LsAt H ps v):LsAt H' ps v:=let ⟨l,zs,h1,h2,h3⟩:=h;⟨l,zs,h1,e _ _ h2 rfl,h3.keep e⟩
theorem jh0{α:Type}(zs:List α)(v:α):atI (zs++[v]) (-1)=some v:=by
 have e:ixN (zs++[v]).length (-1)=some zs.length:=by
  unfold ixN;rw[if_neg (by decide),if_pos (by simp;omega),xa,ub];congr 1;omega
 unfold atI;rw[e];show(zs++[v])[zs.length]?=some v;rw[yp (yg _),uq];rfl
theorem jfn{α:Type}{xs:List α}{k:Int}{v:α}(hk:k=(i:Nat))(e:xs[i]?=some v):atI xs k=some v:=by
 have hi:=(yw.mp e).1;subst hk;unfold atI ixN;rw[if_pos (by omega),if_pos (by omega),yq];exact e
theorem perm3(A B:List Int)(z:Int):(A++B++[z]).Perm (A++[z]++B):=by
 rw[y0x,y0x];exact y4o A y1n
theorem Sent.same{M:List Int}{z:Int}(h:Sent ns k z L)(g:Sent ns k z M):L=M:=j0u (h.1.trans g.1.symm) h.2 g.2
theorem j85{g:Gm}{n:Nat}{b s:StG}{w:WsG}(hb:g.ok n b)(hw:g.okW w)(hg:∀W,g≠.hire W):(∃c,g.to b w s c)↔g.dst b w s:=by
 refine⟨λ⟨c,h⟩=>h.1,λh=>?_⟩;cases g with
 |hire W=>exact absurd rfl (hg W)
 |line m=>
  obtain⟨z,rfl⟩:=hw;obtain⟨ns,rfl,_⟩:=hb;have h0:=h;obtain⟨L,rfl,hL⟩:=h;have hz:z∈L:=by
   rcases hL with⟨y,rfl⟩|⟨_,k,_,hs⟩
   ·exact y
   ·exact hs.mem
  exact⟨_,h0,(if_pos hz).symm⟩
 |shelf ts=>
  obtain⟨z,rfl,_⟩:=hw;obtain⟨ns,rfl,_⟩:=hb;have h0:=h;obtain⟨L,rfl,hL⟩:=h;exact⟨_,h0,rfl⟩
 |wys m t=>
  obtain⟨z,rfl,_⟩:=hw;obtain⟨ns,rfl,_⟩:=hb;have h0:=h;obtain⟨L,rfl,hL⟩:=h;exact⟨_,h0,rfl⟩
 |store m=>
  obtain⟨z,rfl,_⟩:=hw;obtain⟨ns,rfl,_⟩:=hb;have h0:=h;obtain⟨L,rfl,hL⟩:=h;have hz:z∈L:=by
   rcases hL with⟨y,rfl⟩|⟨_,k,_,hs⟩
   ·exact y
   ·exact hs.mem
  exact⟨_,h0,(if_pos hz).symm⟩
 |bags R=>
  obtain⟨z,rfl,_⟩:=hw;obtain⟨ns,rfl,_⟩:=hb;have h0:=h;obtain⟨L,pr,rfl,hL⟩:=h;exact⟨pr,h0,.inl ⟨pr,hL,rfl⟩⟩
def dkI(e:StG×Int×Option StG):KU×V:=(keyU e.1,.int e.2.1)
theorem jfo(s:StG):∀r:Row StG,valV (r.map dkI) (keyU s)=(getR r s).map λx=>V.int x.1
 |[]=>rfl
 |e::r=>by
  rw[xm];by_cases q:e.1=s
  ·rw[j1i q];exact j2b (p:=dkI e) (by rw[<- q];rfl)
  ·rw[j1j q,<- jfo s r];exact j2c (p:=dkI e) (λz=>q (j2g _ _ z))
theorem vI_put(s:StG)(c:Int)(r:Row StG):putK (r.map dkI) (keyU s) (.int c)=(putR r s (c,none)).map dkI:=by
 unfold putK putR;have e:((r.map dkI).any λkv=>decide (kv.1=keyU s))=r.any λe=>decide (e.1=s):=by
  rw[j55,jfo,j31];cases getR r s<;>rfl
 rw[e];split
 ·rw[xx,xx];refine y3g λx _=>?_;show(if keyU x.1=keyU s then(keyU x.1,V.int c)else dkI x)=dkI (if x.1=s then(x.1,(c,none))else x);by_cases q:x.1=s
  ·rw[if_pos q,if_pos (by rw[q])];rfl
  ·rw[if_neg q,if_neg (λz=>q (j2g _ _ z))]
 ·rw[xh];rfl
noncomputable def lowR(acc:Row StG)(s:StG)(q:Int):Int:=min q (((getR acc s).map λx=>x.1).getD q)
theorem jn9(acc:Row StG)(s:StG)(q:Int):((getR acc s).map λx=>V.int x.1).getD (.int q)=.int (((getR acc s).map λx=>x.1).getD q):=by cases getR acc s<;>rfl
structure Mins(vis:StG->Int->Prop)(acc:Row StG):Prop where
 nd:(acc.map (·.1)).Nodup
 of:∀s x,getR acc s=some x->vis s x.1
 met:∀s q,vis s q->∃x,getR acc s=some x/\x.1<=q
theorem Mins.step{vis:StG->Int->Prop}{acc:Row StG}(h:Mins vis acc)(s:StG)(q:Int):Mins (λt p=>vis t p\/(t=s/\p=q)) (putR acc s (lowR acc s q,none)):=by
 have low:lowR acc s q<=q/\(lowR acc s q=q\/∃x,getR acc s=some x/\lowR acc s q=x.1)/\∀x,getR acc s=some x->lowR acc s q<=x.1:=by
  unfold lowR;cases e:getR acc s with
  |none=>exact⟨by show min q q<=q;omega,.inl (by show min q q=q;omega),λx h=>by cases h⟩
  |some x=>
   refine⟨by show min q x.1<=q;omega,?_,λy h=>by cases h;show min q x.1<=x.1;omega⟩;by_cases c:q<=x.1
   ·exact .inl (by show min q x.1=q;omega)
   ·exact .inr ⟨x,rfl,by show min q x.1=x.1;omega⟩
 refine⟨j3y h.nd,λt x hx=>?_,λt p hp=>?_⟩
 ·rw[j32]at hx;by_cases e:t=s
  ·rw[if_pos e]at hx;cases hx;rcases low.2.1 with l|⟨y,hy,l⟩
   ·exact .inr ⟨e,l⟩
   ·left
    show vis t (lowR acc s q);rw[l,e];exact h.of s y hy
  ·rw[if_neg e]at hx;exact .inl (h.of t x hx)
 ·rw[j32];by_cases e:t=s
  ·rw[if_pos e];refine⟨_,rfl,?_⟩;show lowR acc s q<=p;rcases hp with hp|⟨_,hp⟩
   ·obtain⟨y,y1,y2⟩:=h.met t p hp;have:=low.2.2 y (by rw[<- e];exact y1);omega
   ·have:=low.1;omega
  ·rw[if_neg e];rcases hp with hp|⟨z,_⟩
   ·exact h.met t p hp
   ·exact absurd z e
theorem Mins.iff{vis vis':StG->Int->Prop}{acc:Row StG}(k:∀s q,vis s q↔vis' s q)(h:Mins vis acc):Mins vis' acc:=⟨h.nd,λs x hx=>(k _ _).mp (h.of s x hx),λs q hq=>h.met s q ((k _ _).mpr hq)⟩
noncomputable def rowV(acc:Row StG)(s:StG):StG×Int:=(s,((getR acc s).map λx=>x.1).getD 0)
def visR(g:Gm)(w:WsG)(ps:List (StG×Int))(s:StG)(q:Int):Prop:=∃e∈ps,∃c,g.to e.1 w s c/\q=e.2+c
theorem jfp{α β:Type}{f:α->β}(hf:∀a b,f a=f b->a=b):∀{l m:List α},l.map f=m.map f->l=m
 |[],[],_=>rfl
 |[],_::_,h=>by cases h
 |_::_,[],h=>by cases h
 |x::l,y::m,h=>by
  rw[xm,xm]at h;injection h with h1 h2;rw[hf _ _ h1,jfp hf h2]
theorem jfq{α β:Type}{f:β->α}:∀{l:List α},(∀x∈l,∃z,x=f z)->∃m:List β,l=m.map f
 |[],_=>⟨[],rfl⟩
 |x::l,h=>by
  obtain⟨z,e⟩:=h x yu;obtain⟨m,e2⟩:=jfq λy hy=>h y (ym _ hy);exact⟨z::m,by rw[e,e2];rfl⟩
theorem jjg{H:Hp}{Q:VK}{p:Addr}{o:Obj}{u:HO}{kvs:List (KU×V)}{g:Gm}{ks:List StG}(h:H p=some (.frz o u))(du:DU u g.T kvs)(hk:kvs.map (·.1)=ks.map keyU)(nd:ks.Nodup)(hP:∀s∈ks,g.ok 31 s)(ne:∀s∈ks,s≠.l []/\s≠.t [])(hn:ks.length<64)
  (q:∀l zs ss H',H l=none->H' l=some (.lst zs)->AllR (StG.at_ H') ss zs->ss.Perm ks->ss.Pairwise ltS->Ext H H'->Q (.ref l) H'):jmk [.ref p] H Q:=by
 have lk:kvs.length=ks.length:=by have:=congrArg y90 hk;simpa using this
 have I:g.T=false->(∀s∈ks,∃z,s=.i z)->jmk [.ref p] H Q:=λgt hi=>by
  rw[gt]at du;obtain⟨ns,rfl⟩:=jfq hi;cases du with
  |k kv=>
   have e1:kv.map (·.1)=ns.map y23:=jfp (f:=(y23:Key->KU)) jiw (by
    rw[upK,xx,xx]at hk;rw[xx,xx];exact hk)
   refine .inl (jio h e1 (by rw[upK,y3]at lk;omega) λl ms H' nl pm pw ql e=>q l _ (ms.map .i) H' nl ql (jaj ms) (pm.map _) ?_ e);have nd2:=(pm.map StG.i).nodup_iff.mpr nd;rw[y9u,v7]at nd2;rw[v7];refine(nd2.and pw).imp λ{a b} ⟨n,k⟩=>?_;show a<b;have n':a≠b:=λz=>n (by rw[z]);omega
 have L:g.T=true->(∀s∈ks,∃z,s=.l z)->jmk [.ref p] H Q:=λgt hi=>by
  rw[gt]at du;obtain⟨ns,rfl⟩:=jfq hi;cases du with
  |t kv=>
   have e1:kv.map (·.1)=ns.map kwI:=jfp (f:=(y2l:List Key->KU)) jf0 (by
    rw[upK,xx,xx]at hk;rw[xx,xx];exact hk)
   have hne:∀M∈ns,M≠[]:=λM hM z=>(ne (.l M) (yk.mpr ⟨M,hM,rfl⟩)).1 (by rw[z]);refine .inr (r_soK (c:=false) h (λL hL=>by rw[e1]at hL;obtain⟨M,hM,rfl⟩:=yk.mp hL;exact⟨M,rfl,hne M hM⟩) (by rw[upK,y3]at lk;omega) λl vs' Ls' H' nl ql rl pm pw e=>?_);rw[e1]at pm;have nd':=pm.nodup_iff.mpr (jjb (λa b=>jcr) (y8h StG.l (λa b z e=>z (by rw[e])) nd));obtain⟨Ms,rfl,h1,h2⟩:=jn0 rl nd' pw λL hL=>by obtain⟨M,_,z⟩:=yk.mp (pm.mem_iff.mp hL);exact⟨M,z.symm,trivial⟩
   exact q l vs' (Ms.map .l) H' nl ql h1 ((j2l (S:=λ_=>True) (λ_ _=>jcr) (λ_ _=>trivial) (λ_ _=>trivial) pm).map _) h2 e
 have T:g.T=true->(∀s∈ks,∃z,s=.t z)->jmk [.ref p] H Q:=λgt hi=>by
  rw[gt]at du;obtain⟨ns,rfl⟩:=jfq hi;have hne:∀M∈ns,M≠[]:=λM hM z=>(ne (.t M) (yk.mpr ⟨M,hM,rfl⟩)).2 (by rw[z]);have hk':kvs.map (·.1)=ns.map λM=>(y2l (kwT M):KU):=by
   rw[hk,xx];refine y3g λM hM=>?_;cases M with
   |nil=>exact absurd rfl (hne _ hM)
   |cons x r=>rfl
  cases du with
  |t kv=>
   have e1:kv.map (·.1)=ns.map kwT:=jfp (f:=(y2l:List Key->KU)) jf0 (by
    rw[upK,xx]at hk';rw[xx,xx];exact hk')
   refine .inr (r_soK (c:=true) h (λL hL=>by rw[e1]at hL;obtain⟨M,hM,rfl⟩:=yk.mp hL;exact⟨M,rfl,hne M hM⟩) (by rw[upK,y3]at lk;omega) λl vs' Ls' H' nl ql rl pm pw e=>?_);rw[e1]at pm;have nd':=pm.nodup_iff.mpr (jjb (λa b=>jcs) (y8h StG.t (λa b z e=>z (by rw[e])) nd));obtain⟨Ms,rfl,h1,h2⟩:=jn1 rl nd' pw λL hL=>by obtain⟨M,_,z⟩:=yk.mp (pm.mem_iff.mp hL);exact⟨M,z.symm,trivial⟩
   exact q l vs' (Ms.map .t) H' nl ql h1 ((j2l (S:=λ_=>True) (λ_ _=>jcs) (λ_ _=>trivial) (λ_ _=>trivial) pm).map _) h2 e
 have ok:=g.one 31;cases g with
 |hire W=>exact I rfl λs hs=>by rcases hP s hs with z|z<;>exact⟨_,z⟩
 |line m=>exact L rfl λs hs=>by obtain⟨z,e,_⟩:=hP s hs;exact⟨z,e⟩
 |shelf m=>exact T rfl λs hs=>by obtain⟨z,e,_⟩:=hP s hs;exact⟨z,e⟩
 |wys m t=>exact I rfl λs hs=>by obtain⟨z,e,_⟩:=hP s hs;exact⟨z,e⟩
 |store m=>exact T rfl λs hs=>by obtain⟨z,e,_⟩:=hP s hs;exact⟨z,e⟩
 |bags m=>exact L rfl λs hs=>by obtain⟨z,e,_⟩:=hP s hs;exact⟨z,e⟩
theorem dst_ne{g:Gm}{n:Nat}{b s:StG}{w:WsG}(wf:g.wf)(hb:g.ok n b)(hw:g.okW w)(h:g.dst b w s):s≠.l []:=by
 rintro rfl;cases g with
 |hire W=>rcases h with h|h<;>cases h
 |wys m t=>obtain⟨z,h,_⟩:=h;cases h
 |shelf ts=>obtain⟨ss,rfl,_⟩:=hb;obtain⟨z,h,_⟩:=h;cases h
 |store m=>obtain⟨ss,rfl,_⟩:=hb;obtain⟨x,rfl,_⟩:=hw;obtain⟨z,h,_⟩:=h;cases h
 |line m=>
  obtain⟨z,rfl⟩:=hw;obtain⟨ns,rfl,hl⟩:=hb;have w1:=wf.1;obtain⟨L,e,⟨_,e2⟩|⟨_,k,hk,hs⟩⟩:=h
  ·injection e with e;rw[<- e2,<- e]at hl;simp at hl;omega
  ·injection e with e;have:=hs.len hk;rw[<- e]at this;simp at this;omega
 |bags R=>
  obtain⟨z,rfl,_⟩:=hw;obtain⟨ns,rfl,_⟩:=hb;obtain⟨L,pr,e,_,⟨_,pm⟩|⟨_,k,hk,_,pm⟩⟩:=h
  ·injection e with e;rw[<- e]at pm;have:=pm.length_eq;simp at this
  ·injection e with e;rw[<- e]at pm;have:=pm.length_eq;simp at this;omega
def j40:Sp:=λvs H Q _=>∃x k,vs=[x]/\HasK H x k/\Q (.bl (k == .int)) H
theorem j86(T:Txt K mg a):FnOk P w K mg base (CXU P w) 1 a.f39 a.d39 ["_law_found"] (j40):=by
 refine T.F39.okU1 sc39 λvs H Q E h=>?_;unfold j40 at h;refine spl 4 h ?_;clear h;rintro x k rfl hk hq;refine⟨rfl,λ_ _ _ _ hr=>⟨_,(j04 (j09 (j62 (j06 jbk (by rfl) T.c3 gg (j00 (pv 0) (j00 (j1u (v:=V.ty "int") (by rfl) T.qp y4r rfl) j01))) (ja2 (pe_not (j06 jbk (by rfl) T.c3 gg (j00 (pv 0) (j00 (j1u (v:=V.ty "bool") (by rfl) T.qg y4b rfl) j01)))))))),?_⟩⟩;exists r_isI hk ?_;cases k<;>(symm)<;>first|exact hq|(refine jjq hk ?_;(symm);exact hq)
def j1p(n:Nat):Sp:=λvs H Q _=>∃x y d1 d2,vs=[x,y]/\Rep H d1 x/\Rep H d2 y/\d2.fine=true/\d2.depth<=n/\∀b H',(b=true↔d1=d2)->Ext H H'->Q (.bl b) H'
def j1n(n:Nat):Sp:=λvs H Q _=>∃p q xs ys ds es,vs=[.ref p,.ref q]/\H p=some (.lst xs)/\H q=some (.lst ys)/\RepL H ds xs/\RepL H es ys/\D.fineL es=true/\D.depthL es<=n/\xs.length=ys.length/\
 ∀b H',(b=true↔ds=es)->Ext H H'->Q (.bl b) H'
theorem jak{n k:Nat}(T:Txt K mg a)(G:FnOk P w K mg base (CXU P w) k a.f44 a.d44 ["_law_found","_law_due"] (j1p n)):
  FnOk P w K mg base (CXU P w) (k+1) a.f_z2 a.d_z2 ["_law_found","_law_due"] (j1n n):=by
 refine T.F2.okU jqn (λvs H Q E h=>?_) (λcdv A outer s H vs Q E hr h=>?_)
 ·obtain⟨p,q,xs,ys,ds,es,rfl,_⟩:=h;rfl
 ·obtain⟨p,q,xs,ys,ds,es,rfl,hp,hq',hd,he,hf,hn,hl,hq⟩:=h;refine⟨_,(j03 (j1t vh rfl (jbq rfl T.qw (j00 (pv 0) (j00 (pv 1) j01))) (jav rfl (j1m (j0d (i:=2) jqn.nd rfl (by nofun)) (j1m (j0d (i:=3) jqn.nd rfl (by nofun)) j63))) (j04 (j17 (j7j (ptT (j4o (G) hr (by rfl) T.F44.m T.F44.kp (T.F44.b2) .nil j24 (j00 (pv 2) (j00 (pv 3) j01))) (λ_=>rfl))) (j04 (j09 jft)) j0c)))
   (j04 (j09 jft))),?_⟩
  have l1:=hd.length;have l2:=he.length;exists⟨p,q,xs,ys,false,false,rfl,SqL.of hp,SqL.of hq',jhu (λi σ H2=>(∃u v,σ=[some (.ref p),some (.ref q),u,v])/\Ext H H2/\ds.take i=es.take i) hl ⟨⟨none,none,rfl⟩,Ext.rfl',rfl⟩ (λi σ H2 _ ⟨_,e,_⟩=>⟨SqL.of (e _ _ hp),SqL.of (e _ _ hq')⟩) ?_ ?_⟩
  ·rintro i x y σ H2 r hx hy ⟨⟨u,v,rfl⟩,e,ht⟩ hr0;obtain⟨d,d1,d2⟩:=hd.get hx;obtain⟨f,f1,f2⟩:=he.get hy;refine jkz j07 rfl ?_;symm;have e2:Ext H (upd H2 r (.tup [x,y])):=e.tr (j0p hr0);refine⟨x,y,d,f,rfl,d2.mono e2,f2.mono e2,jbi hf f1,j8u hn f1,λb H3 hb e3=>?_⟩;symm;cases b with
   |true=>
    exists⟨⟨_,_,rfl⟩,e2.tr e3,?_⟩;rw[xj,xj,d1,f1,ht,hb.mp rfl]
   |false=>
    exists hq false H3 ⟨λz=>y79 z,λz=>?_⟩ (e2.tr e3);subst z;rw[d1]at f1;cases f1;exact hb.mpr rfl
  ·rintro σ H2 ⟨⟨u,v,rfl⟩,e,ht⟩;exists hq true H2 ⟨λ_=>?_,λ_=>rfl⟩ e;rw[xg (by omega),xg (by omega)]at ht;exact ht
theorem jh1{n k:Nat}{spA:Sp}(T:Txt K mg a)(hA:∀vs H Q E,(∃m,n=m+1/\j1n m vs H Q E)->spA vs H Q E)(GA:FnOk P w K mg base (CXU P w) (k+1) a.f_z2 a.d_z2 ["_law_found","_law_due"] spA):
  FnOk P w K mg base (CXU P w) (k+2) a.f44 a.d44 ["_law_found","_law_due"] (j1p n):=by
 refine T.F44.okU sc44 (λvs H Q E h=>?_) (λcdv A outer s H vs Q E hr h=>?_)
 ·obtain⟨x,y,d1,d2,rfl,_⟩:=h;rfl
 ·obtain⟨x,y,d1,d2,rfl,h1,h2,hf,hn,hq⟩:=h;refine⟨_,(j03 (j17 (ptT (j06 jbk (by rfl) T.c3 gg (j00 (pv 1) (j00 (j1u (v:=V.ty "tuple") (by rfl) T.dc xq rfl) j01))) (λ_=>rfl)) (j04 (j09 (j62 (j06 jbk (by rfl) T.c3 gg (j00 (pv 0) (j00 (j1u (v:=V.ty "tuple") (by rfl) T.dc xq rfl) j01))) (j62 (j33 (oEq hr) (j06 j2e (by rfl) T.cr xn (j00 (pv 0) j01)) (j06 j2e (by rfl) T.cr xn (j00 (pv 1) j01)) (j0f _)) (ja2 (j4o (GA) (hr.mono (by omega)) (by rfl) T.F2.m T.F2.kp (T.F2.b2) .nil j24 (j00 (j0e jg4 (by rfl) T.mj va (j00 (pv 0) j01)) (j00 (j0e jg4 (by rfl) T.mj va (j00 (pv 1) j01)) j01)))))))) j0c)
   (j03 (j17 (ptT (j06 jbk (by rfl) T.c3 gg (j00 (pv 1) (j00 (j1u (v:=V.ty "list") (by rfl) T.mj va rfl) j01))) (λ_=>rfl)) (j04 (j09 (j62 (j06 jbk (by rfl) T.c3 gg (j00 (pv 0) (j00 (j1u (v:=V.ty "list") (by rfl) T.mj va rfl) j01))) (j62 (j33 (oEq hr) (j06 j2e (by rfl) T.cr xn (j00 (pv 0) j01)) (j06 j2e (by rfl) T.cr xn (j00 (pv 1) j01)) (j0f _)) (ja2 (j4o (GA) (hr.mono (by omega)) (by rfl) T.F2.m T.F2.kp (T.F2.b2) .nil j24 (j00 (pv 0) (j00 (pv 1) j01)))))))) j0c)
   (j03 (j17 (ptT (j06 jbk (by rfl) T.c3 gg (j00 (pv 1) (j00 (j1u (v:=V.ty "bool") (by rfl) T.qg y4b rfl) j01))) (λ_=>rfl)) (j04 (j09 (j62 (j06 jbk (by rfl) T.c3 gg (j00 (pv 0) (j00 (j1u (v:=V.ty "bool") (by rfl) T.qg y4b rfl) j01))) (ja2 (j33 (oEq hr) (pv 0) (pv 1) (j0f _)))))) j0c)
   (j03 (j17 (j0a oIsN (pv 1) j2h (j0f _)) (j04 (j09 (j33 oIsN (pv 0) j2h (j0f _)))) j0c)
   (j03 (j17 (ptT (j06 jbk (by rfl) T.c3 gg (j00 (pv 1) (j00 (j1u (v:=V.ty "str") (by rfl) T.n_str y82 rfl) j01))) (λ_=>rfl)) (j04 (j09 (j62 (j06 jbk (by rfl) T.c3 gg (j00 (pv 0) (j00 (j1u (v:=V.ty "str") (by rfl) T.n_str y82 rfl) j01))) (ja2 (j33 (oEq hr) (pv 0) (pv 1) (j0f _)))))) j0c)
   (j04 (j09 (j62 (j4o (j86 T) (hr.mono (by omega)) (by rfl) T.F39.m T.F39.kp (T.F39.b1) .nil j24 (j00 (pv 0) j01)) (ja2 (j33 (oEq hr) (pv 0) (pv 1) (j0f _))))))))))),?_⟩
  have k1:=h1.kd;have k2:=h2.kd;have no:∀{B:Prop},¬ B->(false=true↔B):=λnb=>⟨λz=>y79 z,λz=>(nb z).elim⟩
  exists r_isT k2 ?_;cases d2 with
  |tup es=>
   exists r_isT k1 ?_;cases d1 with
   |tup ds=>
    obtain⟨p,xs,rfl,hp,hd⟩:=h1;obtain⟨q,ys,rfl,hq',he⟩:=h2;exists j1a hp ?_;exists j1a hq' ?_;exists iteD (λhl=>?_) (λhl=>?_)
    ·exists j6b hp λp2 H2 n2 hp2 e2=>?_;exists j6b (e2 _ _ hq') λq2 H3 n3 hq3 e3=>?_;symm;have hn':D.depthL es+1<=n:=hn;refine hA _ _ _ _ ⟨n-1,by omega,p2,q2,xs,ys,ds,es,rfl,e3 _ _ hp2,hq3,hd.mono (e2.tr e3),he.mono (e2.tr e3),hf,by omega,by omega,λb H4 hb e4=>?_⟩;exact hq b H4 (hb.trans ⟨λz=>by rw[z],λz=>by cases z;rfl⟩) ((e2.tr e3).tr e4)
    ·exists hq false H (no λz=>hl ?_) Ext.rfl';cases z;have l1:=hd.length;have l2:=he.length;omega
   |_=>
    symm;exact hq false H (no λz=>by cases z) Ext.rfl'
  |lst es=>
   exists jhq k2 ?_;exists jhq k1 ?_;cases d1 with
   |lst ds=>
    obtain⟨p,xs,rfl,hp,hd⟩:=h1;obtain⟨q,ys,rfl,hq',he⟩:=h2;exists j1l hp ?_;exists j1l hq' ?_;exists iteD (λhl=>?_) (λhl=>?_)
    ·symm;have hn':D.depthL es+1<=n:=hn;refine hA _ _ _ _ ⟨n-1,by omega,p,q,xs,ys,ds,es,rfl,hp,hq',hd,he,hf,by omega,by omega,λb H4 hb e4=>?_⟩;exact hq b H4 (hb.trans ⟨λz=>by rw[z],λz=>by cases z;rfl⟩) e4
    ·exists hq false H (no λz=>hl ?_) Ext.rfl';cases z;have l1:=hd.length;have l2:=he.length;omega
   |_=>
    symm;exact hq false H (no λz=>by cases z) Ext.rfl'
  |bl c=>
   cases(show y=.bl c from h2);exists jhq k2 ?_;exists jjq k2 ?_;exists jjq k1 ?_;cases d1 with
   |bl c1=>
    cases(show x=.bl c1 from h1);exists r_eqUB (hq _ H ?_ Ext.rfl');rw[decide_eq_true_iff];exact⟨λz=>by rw[z],λz=>by cases z;rfl⟩
   |_=>
    symm;exact hq false H (no λz=>by cases z) Ext.rfl'
  |non=>
   cases(show y=.non from h2);exists jhq k2 ?_;exists jjq k2 ?_;exists hq _ H ?_ Ext.rfl';rw[decide_eq_true_iff];cases d1 with
   |non=>exact⟨λ_=>rfl,λ_=>h1⟩
   |bl c1=>cases(show x=.bl c1 from h1);exact⟨λz=>(by cases z),λz=>(by cases z)⟩
   |int c1=>cases(show x=.int c1 from h1);exact⟨λz=>(by cases z),λz=>(by cases z)⟩
   |str c1=>cases(show x=.str c1 from h1);exact⟨λz=>(by cases z),λz=>(by cases z)⟩
   |tup c1=>obtain⟨_,_,rfl,_⟩:=h1;exact⟨λz=>(by cases z),λz=>(by cases z)⟩
   |lst c1=>obtain⟨_,_,rfl,_⟩:=h1;exact⟨λz=>(by cases z),λz=>(by cases z)⟩
   |dct=>obtain⟨_,_,rfl,_⟩:=h1;exact⟨λz=>(by cases z),λz=>(by cases z)⟩
  |str c=>
   cases(show y=.str c from h2);exists jhq k2 ?_;exists jjq k2 ?_;exists jpb k2 ?_;exists jpb k1 ?_;cases d1 with
   |str c1=>
    cases(show x=.str c1 from h1);exists r_eqUS (hq _ H ?_ Ext.rfl');rw[decide_eq_true_iff];exact⟨λz=>by rw[z],λz=>by cases z;rfl⟩
   |_=>
    symm;exact hq false H (no λz=>by cases z) Ext.rfl'
  |int c=>
   cases(show y=.int c from h2);exists jhq k2 ?_;exists jjq k2 ?_;exists jpb k2 ?_;exists⟨x,_,rfl,k1,?_⟩;cases d1 with
   |int c1=>
    cases(show x=.int c1 from h1);exists hq _ H ?_ Ext.rfl';rw[decide_eq_true_iff];exact⟨λz=>by rw[z],λz=>by cases z;rfl⟩
   |_=>
    symm;exact hq false H (no λz=>by cases z) Ext.rfl'
  |dct=>cases hf
theorem j9v(T:Txt K mg a):∀n:Nat,FnOk P w K mg base (CXU P w) (2*n+2) a.f44 a.d44 ["_law_found","_law_due"] (j1p n)
 |0=>jh1 (k:=0) (spA:=λ_ _ _ _=>False) T (λ_ _ _ _ ⟨m,e,_⟩=>by omega) FnOk.no
 |n+1=>by
  have G:=jak T (j9v T n);have z:=jh1 (n:=n+1) (k:=2*n+2) (spA:=j1n n) T (λ_ _ _ _ ⟨m,e,h⟩=>by cases e;exact h) G;exact z
theorem j23(T:Txt K mg a):FnOk P w K mg base (CXU P w) 12 a.f44 a.d44 ["_law_found","_law_due"] (j1p 5):=j9v T 5
theorem j5r{x y:V}{d:D}{Q:VK}{E:XK}(h1:Rep H d x)(h2:Rep H d y)(hf:d.fine=true)(hd:yb4 d.depth 5=true)(hq:∀H',Ext H H'->Q (.bl true) H'):j1p 5 [x,y] H Q E:=
 ⟨x,y,d,d,rfl,h1,h2,hf,y2i hd,λb H' hb e=>by rw[hb.mpr rfl];exact hq H' e⟩
def j37(a:Adr):Sp:=λvs H Q _=>∃(w dw p:Addr) (cs:List Int) (n b f t:Int),vs=[.ref w,.int b,.ref p,.int f]/\H w=some (.ins a.cg dw [("many",.int n),("toll",.int t)])/\H p=some (.tup (cs.map V.int))/\0<=f/\f<cs.length/\Q (.int (if f=b then cs.getD f.toNat 0 else cs.getD f.toNat 0+t)) H
theorem j6r(T:Txt K mg a):FnOk P w K mg base (CXU P w) 1 a.f21 a.d21 ["self","before","wish","after"] (j37 a):=by
 refine T.F21.okU1 sc21 λvs H Q E h=>?_;unfold j37 at h;refine spl 13 h ?_;clear h;rintro w dw p cs n b f t rfl hw hp f0 f1 hq;have o0:=T.dm;have oz:=T.dj;refine⟨rfl,λ_ _ _ _ hr=>⟨_,(j04 (j09 (j3m (j0a (oEq hr) (pv 3) (pv 1) (j0f _)) (j0n oIx (pv 2) (pv 3) (λ_ _=>rfl)) (j0b j0t (j0n oIx (pv 2) (pv 3) (λ_ _=>rfl)) (jb4 (pv 0) rfl))))),?_⟩⟩;have i1:=j0x (ns:=cs) f0 f1;exists iteD (λc=>?_) (λc=>?_)
 ·rw[if_pos c]at hq;exists j4e hp i1 ?_;exact hq
 ·rw[if_neg c]at hq;exists j4e hp i1 ?_;symm;exact hq
def j2p:Sp:=λvs H Q _=>∃(r p q:Addr) (ss qs:List Str) (w:Str),vs=[.ref r,.ref p,.str w,.ref q]/\H p=some (.tup (ss.map V.str))/\H q=some (.tup (qs.map V.str))/\qs.length<=1000/\∀H',Ext H H'->Q (if w∈qs then .int ((qs.filter λt=>!decide (t∈ss)).length:Nat)else .non) H'
theorem j5s(T:Txt K mg a):FnOk P w K mg base (CXU P w) 1 a.f_z8 a.d8 ["self","before","wish","after"] (j2p):=by
 refine T.F8.okU1 sc8 λvs H Q E h=>?_;unfold j2p at h;refine spl 10 h ?_;clear h;rintro r p q ss qs w rfl hp hq' hl hq;refine⟨rfl,λ_ _ _ _ hr=>⟨_,(j03 (j17 (j0a jbl (pv 2) (pv 3) (by with_unfolding_all rfl)) (j04 (j09 j2h)) j0c)
  (j04 (j09 (j06 j2e (by rfl) T.cr xn (j00 (j15 (["page"]:List Str) (["before"]:List Str) [1] rfl ⟨rfl,by decide +kernel,by decide +kernel,by rfl,⟨⟨rfl,by nofun,by nofun⟩,trivial⟩⟩ (ja3 (pv 3)) (λ_ _ _ _=>⟨(j0d (i:=0) (by show((["page"]:List Str)++(["before"]:List Str)).Nodup;decide +kernel) rfl (by nofun)),(show PTs _ [_] [_] from⟨(j0a jbl (pv 0) (pv 1) (by with_unfolding_all rfl)),trivial⟩),(pv 0)⟩)) j01))))),?_⟩⟩
 exists j2y hq' rfl (j22 _) ?_;rw[j30];exists iteN (λhw=>?_) (λhw=>?_)
 ·symm;have e:(if w∈qs then V.int ((qs.filter λt=>!decide (t∈ss)).length:Nat)else V.non)=.non:=if_neg hw;rw[<- e];exact hq H Ext.rfl'
 have e0:(if w∈qs then V.int ((qs.filter λt=>!decide (t∈ss)).length:Nat)else V.non)=.int ((qs.filter λt=>!decide (t∈ss)).length:Nat):=if_pos hw;rw[e0]at hq;exists⟨q,rfl,⟨_,SqT.of hq'⟩,λacc hn _ _ _ _=>j3p (SqT.of hq') (by rw[y3];omega) hn (λj ys _=>ys=((qs.take j).filter λt=>!decide (t∈ss)).map V.str) (by simp) (λ_ _ _ _ _ h=>h) (λj ys H' _ h=>by rw[h,y3];exact gj (uo _ _) (by rw[yn];omega)) ?_ ?_⟩
 ·rintro j y ys H2 hy e rfl Y N hY hN;obtain⟨y,ey,rfl⟩:=j4v hy;have et:qs.take (j+1)=qs.take j++[y]:=by rw[xj,ey];rfl
  exists j2y (e _ _ hp) rfl (j22 _) ?_;rw[j30];exists iteN (λh=>?_) (λh=>?_)
  ·exists hY _ _ Ext.rfl' ?_;rw[et,gz,xz,if_pos (by simp[h]),xh];rfl
  ·exists hN _ Ext.rfl' ?_;rw[et,gz,xz,if_neg (by simp[h]),um,y0a]
 ·rintro ys H2 e2 ha rfl;rw[y3,xg (yg _)]at ha;exists j1l ha ?_;rw[y3];exact hq H2 e2
def j38:Sp:=λvs H Q _=>∃(p q:Addr) (ss qs:List Str) (i:Nat),vs=[.ref p,.int (i:Nat),.ref q]/\H p=some (.tup (ss.map V.str))/\H q=some (.tup (qs.map V.str))/\i<ss.length/\ss.length<=1000/\qs.length<=1000/\(∀x∈ss,x∈qs)/\∀H',Ext H H'->Q (.int (ovt ss qs i:Nat)) H'
theorem j6s(T:Txt K mg a):FnOk P w K mg base (CXU P w) 1 a.f27 a.d27 ["order","at","other"] (j38):=by
 refine T.F27.okU1 jml λvs H Q E h=>?_;unfold j38 at h;refine spl 12 h ?_;clear h;rintro p q ss qs i rfl hp hq' hi hl hl2 hs hq;refine⟨rfl,λ_ _ _ _ hr=>⟨_,(j03 (j0j (i:=3) jml.nd rfl (by nofun) (jns y20 y21 y22 j5b (pv 2) (j00 (j0n oIx (pv 0) (pv 1) (λ_ _=>rfl)) j01)))
  (j04 (j09 (j06 j2e (by rfl) T.cr xn (j00 (j15 (["thing"]:List Str) (["other","place"]:List Str) [2,3] rfl ⟨rfl,by decide +kernel,by decide +kernel,by rfl,⟨⟨rfl,by nofun,by nofun⟩,⟨rfl,by nofun,by nofun⟩,trivial⟩⟩ (ja3 (j0s oSl (pv 0) (j0z (j0b j0t (pv 1) j02)) j18)) (λ_ _ _ _=>⟨(j0d (i:=0) (by show((["thing"]:List Str)++(["other","place"]:List Str)).Nodup;decide +kernel) rfl (by nofun)),(show PTs _ [_] [_] from⟨(j0a jnn (jns y20 y21 y22 j5b (pv 1) (j00 (pv 0) j01)) (pv 2) (j0f _)),trivial⟩),(pv 0)⟩)) j01))))),?_⟩⟩
 have gi:ss.getD i ⟨#[]⟩∈ss:=by rw[yd,y4 hi];exact u0 hi
 exists j4e hp (v:=.str (ss.getD i ⟨#[]⟩)) (by have:=j3x (ss:=ss) (k:=(i:Nat)) (by omega) (by omega);rwa [yq]at this) ?_;exists j7v hq' (hs _ gi) (by omega) ?_;exists jnp hp (by rintro⟨z,_⟩;rw[show((i:Int)+1)=((i+1:Nat):Int) by omega,HT.sIx_nat,y3]at z;omega) λl H1 n1 q1 e1=>?_;have ec:cutV (ss.map V.str) (some ((i:Int)+1)) none=(ss.drop (i+1)).map V.str:=by
  unfold cutV;rw[show((i:Int)+1)=((i+1:Nat):Int) by omega,HT.sIx_nat,HT.sIx_none,y3,u5 (by omega),<- y2q,xg (by rw[y3,vj];exact yg _)]
 rw[ec]at q1;have hq1:=e1 _ _ hq';refine⟨l,rfl,⟨_,SqT.of q1⟩,λacc hn _ _ _ _=>j3p (SqT.of q1) (by rw[y3,vj];omega) hn (λj ys _=>ys=(((ss.drop (i+1)).take j).filter λt=>decide (qs.idxOf t<qs.idxOf (ss.getD i ⟨#[]⟩))).map V.str) (by simp) (λ_ _ _ _ _ h=>h) (λj ys H' _ h=>by rw[h,y3];exact gj (uo _ _) (by rw[yn];omega)) ?_ ?_⟩
 ·rintro j y ys H2 hy e rfl Y N hY hN;obtain⟨y,ey,rfl⟩:=j4v hy;have hq2:=e _ _ hq1;have hyq:y∈qs:=hs y (y0i (v6 ey));exists j7v hq2 hyq (by omega) ?_;symm;have et:((ss.drop (i+1)).take (j+1))=((ss.drop (i+1)).take j)++[y]:=by rw[xj,ey];rfl
  refine iteD (λh=>?_) (λh=>?_)
  ·exists hY _ _ Ext.rfl' ?_;rw[et,gz,xz,if_pos (decide_eq_true (by omega)),xh];rfl
  ·exists hN _ Ext.rfl' ?_;rw[et,gz,xz,if_neg (λz=>h (by have:=of_decide_eq_true z;omega)),um,y0a]
 ·rintro ys H2 e ha rfl;rw[y3,xg (yg _)]at ha;exists j1l ha ?_;rw[y3];exact hq H2 (e1.tr e)
def j28:Sp:=λvs H Q _=>∃(p q:Addr) (ss qs:List Str),vs=[.ref p,.ref q]/\H p=some (.tup (ss.map V.str))/\H q=some (.tup (qs.map V.str))/\ss.length<=1000/\qs.length<=1000/\(∀x∈ss,x∈qs)/\∀H',Ext H H'->Q (.int (trn ss qs)) H'
theorem j4k(T:Txt K mg a):FnOk P w K mg base (CXU P w) 2 a.f_z3 a.d_z3 ["before","after"] (j28):=by
 refine T.F3.okU1 sc3 λvs H Q E h=>?_;unfold j28 at h;refine spl 10 h ?_;clear h;rintro p q ss qs rfl hp hq' hl hl2 hs hq;refine⟨rfl,λ_ _ _ _ hr=>⟨_,(j04 (j09 (j06 (cSum rfl) (by rfl) T.qm y4t (j00 (j15 (["at"]:List Str) (["before","after"]:List Str) [0,1] rfl ⟨rfl,by decide +kernel,by decide +kernel,by rfl,⟨⟨rfl,by nofun,by nofun⟩,⟨rfl,by nofun,by nofun⟩,trivial⟩⟩ (j0k rfl T.c8 (j00 (j06 j2e (by rfl) T.cr xn (j00 (pv 0) j01)) j01)) (λ_ _ _ _=>⟨(j0d (i:=0) (by show((["at"]:List Str)++(["before","after"]:List Str)).Nodup;decide +kernel) rfl (by nofun)),(show PTs _ [] [] from trivial),(j16 (j6s T) hr T.F27 (T.F27.b3) (j00 (pv 1) (j00 (pv 0) (j00 (pv 2) j01))))⟩)) j01)))),?_⟩⟩;exists j1a hp ?_;rw[y3];refine⟨_,rfl,by omega,by omega,λacc hn _ _ _ _=>jek V.int (λ(i:Nat)=>(ovt ss qs i:Int)) (by omega) hn (λi H3 Y hi e hY=>?_) λH2 e2 ha=>?_⟩
 ·symm;exact⟨p,q,ss,qs,i,rfl,e _ _ hp,e _ _ hq',by omega,hl,hl2,hs,λH4 e4=>hY H4 e4⟩
 ·exists jpf ha ?_;rw[yq];exact hq H2 e2
def j2q:Sp:=λvs H Q _=>∃(r p q:Addr) (ss qs:List Str) (w:Str),vs=[.ref r,.ref p,.str w,.ref q]/\H p=some (.tup (ss.map V.str))/\H q=some (.tup (qs.map V.str))/\ss.length<=1000/\qs.length<=1000/\(∀x∈ss,x∈qs)/\w∈qs/\∀H',Ext H H'->Q (.int (trn ss qs+(qs.idxOf w:Nat)+1)) H'
theorem j5t(T:Txt K mg a):FnOk P w K mg base (CXU P w) 3 a.f_z6 a.d6 ["self","before","wish","after"] (j2q):=by
 refine T.F6.okU1 sc6 λvs H Q E h=>?_;unfold j2q at h;refine spl 13 h ?_;clear h;rintro r p q ss qs w rfl hp hq' hl hl2 hs hw hq;refine⟨rfl,λ_ _ _ _ hr=>⟨_,(j04 (j09 (j0b j0t (j0b j0t (j16 (j4k T) hr T.F3 (T.F3.b2) (j00 (pv 1) (j00 (pv 3) j01))) (jns y20 y21 y22 j5b (pv 3) (j00 (pv 2) j01))) j02))),?_⟩⟩;exists⟨p,q,ss,qs,rfl,hp,hq',hl,hl2,hs,λH1 e1=>?_⟩;have hq1:=e1 _ _ hq';exists j7v hq1 hw (by omega) ?_;symm;exact hq H1 e1
def j29:Sp:=λvs H Q _=>∃(p q:Addr) (ns ms:List Int),vs=[.ref p,.ref q]/\H p=some (.tup (ns.map V.int))/\H q=some (.tup (ms.map V.int))/\ns.length=ms.length/\ns.length<=1000/\∀H',Ext H H'->Q (.int (ways ns ms)) H'
theorem j4l(T:Txt K mg a):FnOk P w K mg base (CXU P w) 1 a.f_z4 a.d4 ["before","after"] (j29):=by
 refine T.F4.okU1 sc4 λvs H Q E h=>?_;unfold j29 at h;refine spl 9 h ?_;clear h;rintro p q ns ms rfl hp hq' hl hz hq;refine⟨rfl,λ_ _ _ _ hr=>⟨_,(j04 (j09 (j06 (cSum rfl) (by rfl) T.qm y4t (j00 (j15 (["here","there"]:List Str) ([]:List Str) [] rfl ⟨rfl,by decide +kernel,by decide +kernel,by rfl,trivial⟩ (jbq rfl T.qw (j00 (pv 0) (j00 (pv 1) j01))) (λ_ _ _ _=>⟨(jav rfl (j1m (j0d (i:=0) (by show((["here","there"]:List Str)++([]:List Str)).Nodup;decide +kernel) rfl (by nofun)) (j1m (j0d (i:=1) (by show((["here","there"]:List Str)++([]:List Str)).Nodup;decide +kernel) rfl (by nofun)) j63))),(show PTs _ [] [] from trivial),(j06 cAbs (by rfl) T.n_abs yd3 (j00 (j0b j4g (pv 0) (pv 1)) j01))⟩)) j01)))),?_⟩⟩;exists⟨p,q,ns.map V.int,ms.map V.int,true,true,rfl,SqT.of hp,SqT.of hq',λacc hn _ _ _ _=>j8z (c:=true) (d:=true) (SqT.of hp) (SqT.of hq') (by simpa using hl) (by rw[y3];omega) hn
  (λi ys _=>ys=((yag (λa b:Int=>((a-b).natAbs:Int)) ns ms).take i).map V.int) (by simp) (λ_ _ _ _ _ h=>h) (λi ys H' _ h=>by rw[h,y3,yn];omega) ?_ ?_⟩
 ·rintro i x z ys H2 H3 hx hz' e e3 rfl Y N hY hN;obtain⟨x,ex,rfl⟩:=j4s hx;obtain⟨z,ez,rfl⟩:=j4s hz';exists hY _ _ e3 ?_;rw[xj,xh,y7v,ex,ez];rfl
 ·rintro ys H2 e ha rfl;rw[xg (by rw[y91,y3];omega)]at ha;symm;exact jpf ha (hq H2 e)
def j39:Sp:=λvs H Q _=>∃(r p q:Addr) (ns ms:List Int) (w:Int),vs=[.ref r,.ref p,.int w,.ref q]/\H p=some (.tup (ns.map V.int))/\H q=some (.tup (ms.map V.int))/\ns.length=ms.length/\ns.length<=1000/\∀H',Ext H H'->Q (if w∈ms then .int (ways ns ms)else .non) H'
theorem j6t(T:Txt K mg a):FnOk P w K mg base (CXU P w) 2 a.f17 a.d17 ["self","before","wish","after"] (j39):=by
 refine T.F17.okU1 sc17 λvs H Q E h=>?_;unfold j39 at h;refine spl 11 h ?_;clear h;rintro r p q ns ms w rfl hp hq' hl hz hq;refine⟨rfl,λ_ _ _ _ hr=>⟨_,(j03 (j17 (j0a jbl (pv 2) (pv 3) (by with_unfolding_all rfl)) (j04 (j09 j2h)) j0c)
  (j04 (j09 (j16 (j4l T) hr T.F4 (T.F4.b2) (j00 (pv 1) (j00 (pv 3) j01)))))),?_⟩⟩
 exists j2y hq' rfl (j3i _) ?_;rw[j59];exists iteN (λh=>?_) (λh=>?_)
 ·rw[if_neg h]at hq;symm;exact hq H Ext.rfl'
 ·rw[if_pos h]at hq;symm;exact⟨p,q,ns,ms,rfl,hp,hq',hl,hz,hq⟩
def j3a(a:Adr):Sp:=λvs H Q _=>∃(r dw:Addr) (W b:Int) (h:V) (f:Int),vs=[.ref r,.int b,h,.int f]/\H r=some (.ins a.cv dw [("whole",.int W)])/\Q (if b=1 then(if f=1 then .int 0 else .non)else(if f=1 then .int W else h)) H
theorem j6u(T:Txt K mg a):FnOk P w K mg base (CXU P w) 1 a.f15 a.d15 ["self","before","wish","after"] (j3a a):=by
 refine T.F15.okU1 sc15 λvs H Q E h=>?_;unfold j3a at h;refine spl 8 h ?_;clear h;rintro r dw W b h f rfl hr0 hq;have zc_Hire:=T.ml;have oj:=T.de;refine⟨rfl,λ_ _ _ _ hr=>⟨_,(j03 (j17 (j0a (oEq hr) (pv 1) j02 (j0f _)) (j04 (j09 (j3m (j0a (oEq hr) (pv 3) j02 (j0f _)) j02 j2h))) j0c)
  (j04 (j09 (j3m (j0a (oEq hr) (pv 3) j02 (j0f _)) (jb4 (pv 0) rfl) (pv 2))))),?_⟩⟩
 exists iteD (λh=>?_) (λh=>?_)
 ·rw[if_pos h]at hq;exists iteD (λh=>?_) (λh=>?_)
  ·rw[if_pos h]at hq;symm;exact hq
  ·rw[if_neg h]at hq;symm;exact hq
 ·rw[if_neg h]at hq;exists iteD (λh=>?_) (λh=>?_)
  ·rw[if_pos h]at hq;symm;exact hq
  ·rw[if_neg h]at hq;symm;exact hq
def j9w:Sp:=λvs H Q _=>∃(p:Addr) (os:List Int) (s:Int) (kk:Nat),vs=[.ref p,.int (kk:Nat),.int s]/\H p=some (.tup (os.map V.int))/\kk<os.length/\os.length<=60/\∀q (fs:List Int) H',fs.Perm (os.set kk (os.getD kk 0+s))->fs.Pairwise (·<=·)->H' q=some (.tup (fs.map V.int))->Ext H H'->Q (.ref q) H'
theorem j9x(T:Txt K mg a):FnOk P w K mg base (CXU P w) 1 a.f50 a.d50 ["loads","at","size"] (j9w):=by
 refine T.F50.okU1 sc50 λvs H Q E h=>?_;unfold j9w at h;refine spl 8 h ?_;clear h;rintro p os s kk rfl hp hkk hl hq;refine⟨rfl,λ_ _ _ _ hr=>⟨_,(j04 (j09 (j0e j2d (by rfl) T.dc xq (j00 (j06 j3h (by rfl) T.cj xu (j00 (j0b j0t (j0b j0t (j0s oSl (pv 0) j18 (j0z (pv 1))) (j1f (j00 (j0b j0t (j0n oIx (pv 0) (pv 1) (λ_ _=>rfl)) (pv 2)) j01))) (j0s oSl (pv 0) (j0z (j0b j0t (pv 1) j02)) j18)) j01)) j01)))),?_⟩⟩;have s1:cutV (os.map V.int) none (some ((kk:Nat):Int))=(os.take kk).map V.int:=by
  unfold cutV;rw[HT.sIx_nat,HT.sIx_none,y3,y31,y4q,u5 (y0r hkk),y2r]
 have s2:cutV (os.map V.int) (some (((kk:Nat):Int)+1)) none=(os.drop (kk+1)).map V.int:=by
  unfold cutV;rw[show(((kk:Nat):Int)+1)=((kk+1:Nat):Int) by omega,HT.sIx_nat,HT.sIx_none,y3,u5 (show kk+1<=os.length by omega),<- y2q,xg (by rw[y3,vj];exact yg _)]
 have i1:=j0x (ns:=os) (k:=(kk:Nat)) (by omega) (by omega);rw[yq]at i1;exists jnp hp (by rintro⟨_,z⟩;rw[HT.sIx_nat,y3]at z;omega) λl1 H1 n1 q1 e1=>?_;rw[s1]at q1;have hp1:=e1 _ _ hp;exists j4e hp1 i1 ?_;symm;intro p2 H2 n2 q2 e2;exists j14 (e2 _ _ q1) q2 (by simp;omega) λp3 H3 q3 e3=>?_;have hp3:=e3 _ _ (e2 _ _ hp1);exists jnp hp3 (by rintro⟨z,_⟩;rw[show(((kk:Nat):Int)+1)=((kk+1:Nat):Int) by omega,HT.sIx_nat,y3]at z;omega) λl4 H4 n4 q4 e4=>?_;rw[s2]at q4;exists j14 (e4 _ _ q3) q4 (by simp;omega) λp5 H5 q5 e5=>?_;rw[show(os.take kk).map V.int++[V.int (os.getD kk 0+s)]++(os.drop (kk+1)).map V.int=(os.set kk (os.getD kk 0+s)).map V.int by rw[<- jmq hkk];simp]at q5;exists j6k q5 (by simp;omega) λl6 ns' H6 n6 hp6 hs6 q6 e6=>?_;exists j0w q6 λl7 H7 n7 q7 e7=>?_;exact hq l7 ns' H7 hp6 hs6 q7 ((((((e1.tr e2).tr e3).tr e4).tr e5).tr e6).tr e7)
def j9y:Sp:=λvs H Q _=>∃(p:Addr) (os:List Int) (s:Int),vs=[.ref p,.int s]/\H p=some (.tup (os.map V.int))/\os.length<=60/\∀q (fs:List Int) H',fs.Perm (os++[s])->fs.Pairwise (·<=·)->H' q=some (.tup (fs.map V.int))->Ext H H'->Q (.ref q) H'
theorem j9z(T:Txt K mg a):FnOk P w K mg base (CXU P w) 1 a.f51 a.d51 ["loads","size"] (j9y):=by
 refine T.F51.okU1 sc51 λvs H Q E h=>?_;unfold j9y at h;refine spl 6 h ?_;clear h;rintro p os s rfl hp hl hq;refine⟨rfl,λ_ _ _ _ hr=>⟨_,(j04 (j09 (j0e j2d (by rfl) T.dc xq (j00 (j06 j3h (by rfl) T.cj xu (j00 (j0b j0t (pv 0) (j1f (j00 (pv 1) j01))) j01)) j01)))),?_⟩⟩;symm;intro p1 H1 n1 q1 e1;exists j14 (e1 _ _ hp) q1 (by simp;omega) λp2 H2 q2 e2=>?_;rw[show os.map V.int++[V.int s]=(os++[s]).map V.int by simp]at q2;exists j6k q2 (by simp;omega) λl3 ns' H3 n3 hp3 hs3 q3 e3=>?_;exists j0w q3 λl4 H4 n4 q4 e4=>?_;exact hq l4 ns' H4 hp3 hs3 q4 (((e1.tr e2).tr e3).tr e4)
theorem jfr{n j:Nat}{p:Nat->Bool}{r:List Nat}(h:(v8 n).filter p=j::r):j<n/\p j=true/\∀i,i<j->p i=false:=by
 have hm:j∈(v8 n).filter p:=by rw[h];exact yu
 obtain⟨m1,m2⟩:=ug.mp hm;refine⟨vq.mp m1,m2,λi hi=>?_⟩;cases e:p i with
 |false=>rfl
 |true=>
  exfalso
  have hi':i∈(v8 n).filter p:=ug.mpr ⟨vq.mpr (by have:=vq.mp m1;omega),e⟩;have sl:((v8 n).filter p).Pairwise (· < ·):=y5c _ y7j;rw[h]at hi' sl;rcases xf.mp hi' with z|z
  ·omega
  ·have:=(y0u.mp sl).1 i z;omega
def j3b(a:Adr):Sp:=λvs H Q _=>∃(w dw b f:Addr) (os fs:List Int) (R s:Int) (v:V),vs=[.ref w,.ref b,.int s,.ref f]/\H w=some (.ins a.cu dw [("room",.int R)])/\H b=some (.tup (os.map V.int))/\H f=some (.tup (fs.map V.int))/\Lds R os/\1<=s/\os.length<=60/\PrV R os s fs v/\∀H',Ext H H'->Q v H'
theorem j6v(T:Txt K mg a):FnOk P w K mg base (CXU P w) 2 a.f13 a.d13 ["self","before","wish","after"] (j3b a):=by
 refine T.F13.okU1 jmm λvs H Q E h=>?_;unfold j3b at h;refine spl 12 h ?_;clear h;rintro w dw b f os fs R s v rfl hw hb h;refine spl 5 h ?_;clear h;rintro hf hos s1 hl hg hq;have qj:=T.mh;have nu:=T.da;refine⟨rfl,λ_ _ _ _ hr=>⟨_,(j03 (j17 (j0a jh7 (j06 j2e (by rfl) T.cr xn (j00 (pv 3) j01)) (j06 j2e (by rfl) T.cr xn (j00 (pv 1) j01)) (j0f _)) (j04 (j09 (j3m (PW.pt (jh5 (j0a jnn (j06 j2e (by rfl) T.cr xn (j00 (pv 1) j01)) (jfu (v:=V.int 500) (by rfl) T.qe ⟨_,rfl⟩) (j0f _)) (jat (j0a (oEq hr) (pv 3) (j16 (j9z T) hr T.F51 (T.F51.b2) (j00 (pv 1) (j00 (pv 2) j01))) (j0f _))))) j02 j2h))) j0c)
  (j03 (j19 (i:=4) (["at"]:List Str) (["before","after"]:List Str) [1,3] jmm.nd rfl (y7e rfl) rfl ⟨rfl,by decide +kernel,by decide +kernel,by rfl,⟨⟨rfl,by nofun,by nofun⟩,⟨rfl,by nofun,by nofun⟩,trivial⟩⟩ (j0k rfl T.c8 (j00 (j06 j2e (by rfl) T.cr xn (j00 (pv 1) j01)) j01)) (λ_ _ _ _=>⟨(j0d (i:=0) (by show((["at"]:List Str)++(["before","after"]:List Str)).Nodup;decide +kernel) rfl (by nofun)),(show PTs _ [_] [_] from⟨(j0a jh7 (j0n oIx (pv 1) (pv 0) (λ_ _=>rfl)) (j0n oIx (pv 2) (pv 0) (λ_ _=>rfl)) (j0f _)),trivial⟩),(pv 0)⟩))
  (j03 (j17 (PW.pt (jnl (j7j (ptT (pv 4) (λ_=>rfl))) (jdv (j0a jno (j0b j0t (j0n oIx (pv 1) (j0n oIx (pv 4) j02 (λ_ _=>rfl)) (λ_ _=>rfl)) (pv 2)) (jb4 (pv 0) rfl) (j0f _))))) (j04 (j09 j2h)) j0c)
  (j04 (j09 (j3m (j0a (oEq hr) (pv 3) (j16 (j9x T) hr T.F50 (T.F50.b3) (j00 (pv 1) (j00 (j0n oIx (pv 4) j02 (λ_ _=>rfl)) (j00 (pv 2) j01)))) (j0f _)) j02 j2h)))))),?_⟩⟩
 exists j1a hf ?_;rw[y3];exists j1a hb ?_;rw[y3];exists iteN (λnl=>?_) (λnl=>?_)
 ·exists j1a hb ?_;rw[y3];exists iteD (λ_=>?_) (λz=>by omega);exists⟨b,os,s,rfl,hb,hl,λq gs H1 hp1 hs1 q1 e1=>?_⟩;exists jej (e1 _ _ hf) q1 ?_;by_cases c:fs=gs
  ·subst c;rw[decide_eq_true rfl];symm;rw[<- hg.one ⟨hs1,.inl ⟨rfl,hp1⟩⟩];exact hq H1 e1
  ·rw[decide_eq_false c];symm;rw[<- hg.no λpr ⟨z1,z⟩=>by
    rcases z with⟨_,z⟩|⟨_,k,hk,_,z⟩
    ·exact c (j0u (z.trans hp1.symm) z1 hs1)
    ·have:=z.length_eq;rw[y3w]at this;omega]
   exact hq H1 e1
 ·have fl:fs.length=os.length:=by omega
  exists j1a hb ?_;rw[y3];exists⟨_,rfl,by omega,by omega,λacc hn _ _ _ _=>j1g (by omega) hn (λj ys _=>ys=((v8 j).filter λi=>!decide (os.getD i 0=fs.getD i 0)).map λ(i:Nat)=>V.int (i:Nat)) rfl (λ_ _ _ _ _ h=>h) (λj ys H' _ h=>by rw[h,y3];exact gj (uo _ _) (by simp)) ?_ ?_⟩
  ·rintro j ys H2 hj e rfl Y N hY hN;have hb2:=e _ _ hb;have hf2:=e _ _ hf;have i1:=j0x (ns:=os) (k:=0+(j:Nat)) (by omega) (by omega);have i2:=j0x (ns:=fs) (k:=0+(j:Nat)) (by omega) (by omega);rw[show((0:Int)+(j:Nat)).toNat=j by omega]at i1 i2;exists j4e hb2 i1 ?_;exists j4e hf2 i2 ?_;exists iteN (λc=>?_) (λc=>?_)
   ·exists hY _ _ Ext.rfl' ?_;rw[y19,gz,xh];simp only[xz,um,decide_eq_false c,y8o,if_true,xm,y3l];rw[show((0:Int)+(j:Nat))=(j:Nat) by omega]
   ·exists hN _ Ext.rfl' ?_;rw[y19,gz,xh];simp only[xz,um,decide_eq_true c,y3r,vi,if_false,y3l,y0a]
  rintro ys H2 e ha rfl;rw[show((os.length:Int).toNat)=os.length by omega]at ha;have no1:¬ Goes R os s fs 1:=λz=>by
   rcases z.2 with⟨_,z⟩|⟨z,_⟩
   ·have:=z.length_eq;rw[xa,ub]at this;omega
   ·cases z
  cases hL:(v8 os.length).filter (λi=>!decide (os.getD i 0=fs.getD i 0))with
  |nil=>
   rw[hL]at ha;exists jku (SqL.of ha) ?_;symm;rw[<- hg.no λpr z=>by
    rcases z.2 with⟨e1,z2⟩|⟨_,k,hk,_,z2⟩
    ·exact no1 ⟨z.1,.inl ⟨rfl,z2⟩⟩
    ·obtain⟨j0,hj0,hd0⟩:=jfe hk (w:=os.getD k 0+s) (by omega) z2;have:j0∈(v8 os.length).filter (λi=>!decide (os.getD i 0=fs.getD i 0)):=ug.mpr ⟨vq.mpr hj0,by rw[decide_eq_false hd0];rfl⟩;rw[hL]at this;cases this]
   exact hq H2 e
  |cons j rest=>
   rw[hL]at ha;obtain⟨jn,jp,jf⟩:=jfr hL;have jne:os.getD j 0≠fs.getD j 0:=by
    intro z;rw[decide_eq_true z]at jp;cases jp
   have jeq:∀i,i<j->os.getD i 0=fs.getD i 0:=λi hi=>by
    have:=jf i hi;simpa using this
   have ev:∀k,k<os.length->fs.Pairwise (·<=·)->fs.Perm (os.set k (os.getD k 0+s))->os.getD j 0=os.getD k 0:=λk hk fsrt hpm=>jd2 hos.1 fsrt hk (by omega) hpm jn jeq jne;have hb2:=e _ _ hb;have hf2:=e _ _ hf;have hw2:=e _ _ hw;have i1:=j0x (ns:=os) (k:=(j:Nat)) (by omega) (by omega);rw[yq]at i1;exists jku (SqL.of ha) ?_;exists j0g ha (v:=.int (j:Nat)) (j4q (by decide) rfl) ?_;exists j4e hb2 i1 ?_;exists iteD (λc=>?_) (λc=>?_)
   ·symm;rw[<- hg.no λpr z=>by
     rcases z.2 with⟨e1,z2⟩|⟨_,k,hk,hR,z2⟩
     ·exact no1 ⟨z.1,.inl ⟨rfl,z2⟩⟩
     ·have:=ev k hk z.1 z2;omega]
    exact hq H2 e
   exists j0g ha (v:=.int (j:Nat)) (j4q (by decide) rfl) ?_;exists⟨b,os,s,j,rfl,hb2,jn,hl,λq gs H3 hp3 hs3 q3 e3=>?_⟩;exists jej (e3 _ _ hf2) q3 ?_;by_cases c2:fs=gs
   ·subst c2;rw[decide_eq_true rfl];symm;rw[<- hg.nought ⟨hs3,.inr ⟨rfl,j,jn,by omega,hp3⟩⟩];exact hq H3 (e.tr e3)
   ·rw[decide_eq_false c2];symm;rw[<- hg.no λpr z=>by
     rcases z.2 with⟨e1,z2⟩|⟨_,k,hk,hR,z2⟩
     ·exact no1 ⟨z.1,.inl ⟨rfl,z2⟩⟩
     ·have ek:=ev k hk z.1 z2;rw[<- ek]at z2;exact c2 (j0u (z2.trans ((jd0 hk jn ek.symm).trans hp3.symm)) z.1 hs3)]
    exact hq H3 (e.tr e3)
def j2a(a:Adr):Sp:=λus H Q _=>∃(r p:Addr) (bv wv:V) (g:Gm) (b:StG) (w:WsG) (sts:List StG) (ys:List V),us=[.ref r,bv,wv,.ref p]/\WoP a H g r/\g.wf/\b.at_ H bv/\g.ok 40 b/\w.at_ H wv/\g.okW w/\H p=some (.lst ys)/\AllR (StG.at_ H) sts ys/\sts.length<=60/\(∀s∈sts,g.ok 40 s)/\SKind sts/\
 ∀l zs (ps:List (StG×Int)) H',H l=none->H' l=some (.lst zs)->PsAt H' ps zs->RisS ps->(∀s c,(s,c)∈ps↔s∈sts/\g.pp b w s (.int c))->Ext H H'->Q (.ref l) H'
theorem j0m(T:Txt K mg a):FnOk P w K mg base (CXU P w) 4 a.f_z1 a.d_z1 ["self","before","wish","states"] (j2a a):=by
 refine T.F1.okU1 sc1 λvs H Q E h=>?_;unfold j2a at h;refine spl 12 h ?_;clear h;rintro r p bv wv g b w sts ys rfl hr0 hwf h;refine spl 9 h ?_;clear h;rintro hb okb hw okw hp hys h60 oks hk hq;refine⟨rfl,λ_ _ _ _ hr=>⟨_,(j03 (j19 (i:=4) (["after"]:List Str) (["self","before","wish"]:List Str) [0,1,2] sc1.nd rfl (y7e rfl) rfl ⟨rfl,by decide +kernel,by decide +kernel,by rfl,⟨⟨rfl,by nofun,by nofun⟩,⟨rfl,by nofun,by nofun⟩,⟨rfl,by nofun,by nofun⟩,trivial⟩⟩ (j1o (j9k hr rfl (by rfl) T.cj (by rfl) T.n_set (j00 (pv 3) j01))) (λ_ _ _ _=>⟨(j0d (i:=0) (by show((["after"]:List Str)++(["self","before","wish"]:List Str)).Nodup;decide +kernel) rfl (by nofun)),(show PTs _ [] [] from trivial),(j1f (j00 (pv 0) (j00 (j2z (j10 (pv 1) T.mh T.me (j6v T) (hr.mono (by decide)) (T.F13.b4) .nil j24 (j00 (pv 2) (j00 (pv 3) (j00 (pv 0) j01)))) (j2z (j10 (pv 1) T.ml T.ma (j6u T) (hr.mono (by decide)) (T.F15.b4) .nil j24 (j00 (pv 2) (j00 (pv 3) (j00 (pv 0) j01)))) (j2z (j10 (pv 1) T.tj T.tw (j6t T) (hr.mono (by decide)) (T.F17.b4) .nil j24 (j00 (pv 2) (j00 (pv 3) (j00 (pv 0) j01)))) (j2z (j10 (pv 1) T.mi T.eh (j5t T) (hr.mono (by decide)) (T.F6.b4) .nil j24 (j00 (pv 2) (j00 (pv 3) (j00 (pv 0) j01)))) (j2z (j10 (pv 1) T.dh T.dn (j5s T) (hr.mono (by decide)) (T.F8.b4) .nil j24 (j00 (pv 2) (j00 (pv 3) (j00 (pv 0) j01)))) (j10 (pv 1) T.dm T.tu (j6r T) (hr.mono (by decide)) (T.F21.b4) .nil j24 (j00 (pv 2) (j00 (pv 3) (j00 (pv 0) j01))))))))) j01)))⟩))
  (j04 (j09 (j15 (["pair"]:List Str) ([]:List Str) [] rfl ⟨rfl,by decide +kernel,by decide +kernel,by rfl,trivial⟩ (j1o (pv 4)) (λ_ _ _ _=>⟨(j0d (i:=0) (by show((["pair"]:List Str)++([]:List Str)).Nodup;decide +kernel) rfl (by nofun)),(show PTs _ [_] [_] from⟨(j0a oNotN (j0n oIx (pv 0) j02 (λ_ _=>rfl)) j2h (j0f _)),trivial⟩),(pv 0)⟩))))),?_⟩⟩
 exists r_sgS hp hys h60 hk ?_;rintro lq ts ys1 H1 q1 hy1 sr1 mm1 e1;have ly1:=hy1.len;have nd1:ts.Nodup:=sr1.imp λz e=>by rw[e]at z;exact jd8 z z
 have l1:ts.length<=60:=gj (jdb nd1 λs hs=>(mm1 s).mp hs) h60;exists⟨lq,rfl,⟨_,SqL.of q1⟩,λacc hn _ _ _ _=>j1s (SqL.of q1) (by omega) hn (λj zs H2=>PvAt g b w H2 (ts.take j) zs) trivial (λ_ _ _ _ k h=>PvAt.keep k h) (λj zs H' _ h=>by have:=h.len;rw[yn]at this;omega) ?_ ?_⟩
 ·rintro j av zs H2 hy e hpv Y N hY hN;obtain⟨aa,ea,ha0⟩:=hy1.get hy;have oka:=oks aa ((mm1 aa).mp (v6 ea));have x3:Ext H H2:=e1.tr e;have hr3:=hr0.mono x3;have hb3:=StG.mono x3 hb;have hw3:=WsG.mono x3 hw;have ha3:=StG.mono e ha0;obtain⟨xp,hpp⟩:=Gm.pp_some okb okw oka;have etk:ts.take (j+1)=ts.take j++[aa]:=by rw[xj,ea];rfl
  have put:∀H4,Ext H2 H4->∀c H5,H5 c=some (.tup [av,xp])->Ext H4 H5->Y (.ref c) H5:=λH4 e4 c H5 q5 e5=>hY _ _ (e4.tr e5) (by
   rw[etk];exact AllR.snoc ⟨c,av,xp,rfl,q5,StG.mono (e4.tr e5) ha3,hpp⟩ (PvAt.keep (e4.tr e5).kp hpv))
  clear hY hN;symm;cases g with
  |hire W=>
   obtain⟨dw,hr4⟩:=hr3;obtain⟨z,rfl⟩:=okw;obtain⟨bz,rfl⟩:∃bz,b=.i bz:=by rcases okb with h|h<;>exact⟨_,h⟩
   obtain⟨az,rfl⟩:∃az,aa=.i az:=by rcases oka with h|h<;>exact⟨_,h⟩
   obtain rfl:bv=.int bz:=hb3;obtain rfl:av=.int az:=ha3;obtain rfl:wv=.int z:=hw3;refine j11 (j4i ?_);exists⟨r,dw,W,bz,.int z,az,rfl,hr4,?_⟩;obtain rfl:xp=_:=hpp;symm;intro c H5 n5 q5 e5;exact put _ Ext.rfl' c H5 q5 e5
  |line m=>
   obtain⟨dw,hr4⟩:=hr3;obtain⟨z,rfl⟩:=okw;obtain⟨bs,rfl,lb⟩:=okb;obtain⟨as',rfl,la⟩:=oka;obtain⟨bp,rfl,hbp⟩:=hb3;obtain⟨ap,rfl,hap⟩:=ha3;obtain rfl:wv=.int z:=hw3;have:=hwf.2;refine j11 (j11 (j4i ?_));exists⟨r,bp,ap,bs,as',z,rfl,hbp,hap,by omega,by omega,λH4 e4=>?_⟩;obtain rfl:xp=_:=hpp;symm;intro c H5 n5 q5 e5;exact put _ e4 c H5 q5 e5
  |shelf ths=>
   obtain⟨dw,fv,hr4⟩:=hr3;obtain⟨z,rfl,hz⟩:=okw;obtain⟨bs,rfl,pb⟩:=okb;obtain⟨as',rfl,pa⟩:=oka;obtain⟨bp,rfl,hbp⟩:=hb3;obtain⟨ap,rfl,hap⟩:=ha3;obtain rfl:wv=.str z:=hw3;have l4:=hwf.2.1;have lb:=pb.length_eq;have la:=pa.length_eq;refine j11 (j11 (j11 (j4i ?_)));exists⟨r,bp,ap,bs,as',z,rfl,hbp,hap,by omega,by omega,λx hx=>pa.mem_iff.mpr (pb.mem_iff.mp hx),pa.mem_iff.mpr hz,λH4 e4=>?_⟩;obtain rfl:xp=_:=hpp;symm;intro c H5 n5 q5 e5;exact put _ e4 c H5 q5 e5
  |wys m tl=>
   obtain⟨dw,hr4⟩:=hr3;obtain⟨z,rfl,lz⟩:=okw;obtain⟨bz,rfl,_⟩:=okb;obtain⟨az,rfl,a0,a1⟩:=oka;obtain rfl:bv=.int bz:=hb3;obtain rfl:av=.int az:=ha3;obtain⟨wp,rfl,hwp⟩:=hw3;refine j11 (j11 (j11 (j11 (j11 ?_))));exists⟨r,dw,wp,z,_,bz,az,tl,rfl,hr4,hwp,a0,by omega,?_⟩;obtain rfl:xp=_:=hpp;symm;intro c H5 n5 q5 e5;exact put _ Ext.rfl' c H5 q5 e5
  |store m=>
   obtain⟨dw,hr4⟩:=hr3;obtain⟨z,rfl,hz⟩:=okw;obtain⟨bs,rfl,lb,nb⟩:=okb;obtain⟨as',rfl,la,na⟩:=oka;obtain⟨bp,rfl,hbp⟩:=hb3;obtain⟨ap,rfl,hap⟩:=ha3;obtain rfl:wv=.str z:=hw3;have:=hwf.2;refine j11 (j11 (j11 (j11 (j4i ?_))));exists⟨r,bp,ap,bs,as',z,rfl,hbp,hap,by omega,λH4 e4=>?_⟩;obtain rfl:xp=_:=hpp;symm;intro c H5 n5 q5 e5;exact put _ e4 c H5 q5 e5
  |bags R=>
   obtain⟨dw,hr4⟩:=hr3;obtain⟨z,rfl,z1,z2⟩:=okw;obtain⟨bs,rfl,hL,lb⟩:=okb;obtain⟨as',rfl,hLa,la⟩:=oka;obtain⟨bp,rfl,hbp⟩:=hb3;obtain⟨ap,rfl,hap⟩:=ha3;obtain rfl:wv=.int z:=hw3;refine j4i ?_;exists⟨r,dw,bp,ap,bs,as',R,z,xp,rfl,hr4,hbp,hap,hL,z1,by omega,hpp,λH4 e4=>?_⟩;symm;intro c H5 n5 q5 e5;exact put _ e4 c H5 q5 e5
 rintro zs H2 e2 ha hpv;rw[xg (by omega)]at hpv;have lz:=hpv.len;exists⟨acc,rfl,⟨_,SqL.of ha⟩,λacc2 hn2 _ _ _ _=>j1s (SqL.of ha) (by omega) hn2 (λj us H3=>∃ps:List (StG×Int),PsAt H3 ps us/\(ps.map ye1).Sublist (ts.take j)/\ps.length<=j/\∀s c,(s,c)∈ps↔s∈ts.take j/\g.pp b w s (.int c)) ⟨[],trivial,by simp,by simp,λs c=>by simp⟩ (λ_ _ _ _ k ⟨ps,h1,h2⟩=>⟨ps,h1.keep k,h2⟩) (λj us H' _ ⟨ps,h1,_,h2,_⟩=>by rw[<- h1.len];exact h2) ?_ ?_⟩
 ·rintro j y us H3 hy e ⟨ps,h1,h2,h3,h4⟩ Y N hY hN;obtain⟨s,es,c,sv,pv,rfl,qc,hs,hpp⟩:=hpv.get hy;have etk:ts.take (j+1)=ts.take j++[s]:=by rw[xj,es];rfl
  have qc3:=e _ _ qc;exists j4e qc3 rfl ?_;rcases Gm.pp_val hpp with rfl|⟨i,rfl⟩
  ·exists hN _ Ext.rfl' ⟨ps,h1,h2.trans (by rw[etk];exact List.sublist_append_left _ _),by omega,λs' c'=>?_⟩;rw[h4,etk,x0,yb];constructor
   ·exact λ⟨k1,k2⟩=>⟨.inl k1,k2⟩
   ·rintro⟨k1|rfl,k2⟩
    ·exact⟨k1,k2⟩
    ·exact absurd (Gm.pp_uniq hpp k2) (by simp)
  ·exists hY _ _ Ext.rfl' ⟨ps++[(s,i)],AllR.snoc ⟨c,sv,rfl,qc3,StG.mono e hs⟩ h1,?_,by simp;omega,λs' c'=>?_⟩
   ·rw[etk,xh];exact h2.append (ye6 _)
   ·rw[x0,yb,h4,etk,x0,yb];constructor
    ·rintro(⟨k1,k2⟩|k)
     ·exact⟨.inl k1,k2⟩
     ·injection k with k1 k2;subst k1 k2;exact⟨.inr rfl,hpp⟩
    ·rintro⟨k1|rfl,k2⟩
     ·exact .inl ⟨k1,k2⟩
     ·have:=Gm.pp_uniq hpp k2;injection this with this;exact .inr (by rw[this])
 rintro us H3 e3 ha2 ⟨ps,h1,h2,h3,h4⟩;rw[xg (by omega)]at h2 h4;have x2:=e1.tr e2;exact hq acc2 us ps H3 (x2.free hn2) ha2 h1 (v7.mp (sr1.sublist h2)) (λs c=>by rw[h4,mm1]) (x2.tr e3)
def j6w(a:Adr):Sp:=λus H Q _=>∃m t,MvP a H Q us (.wys m t)
theorem j6x(T:Txt K mg a):FnOk P w K mg base (CXU P w) 5 a.f20 a.d20 ["self","before","wish"] (j6w a):=by
 refine T.F20.okU1 sc20 λvs H Q E h=>?_;obtain⟨m,t,r,bv,wv,b,w,rfl,⟨dw,hr0⟩,wf,hb,okb,_,hw,okw,hq⟩:=h;have ot:=T.tj;have mt:=T.ck;have o7:=T.dh;have mr:=T.cf;have o0:=T.dm;have my:=T.cq;refine⟨rfl,λ_ _ _ _ hr=>⟨_,(j04 (j09 (j10 (pv 0) T.dm T.dq (j0m T) (hr.mono (by decide)) (T.F1.b4) .nil j24 (j00 (pv 1) (j00 (pv 2) (j00 (j6g rfl (by rfl) T.mj (by rfl) T.c8 (j00 (jb4 (pv 0) rfl) j01)) j01)))))),?_⟩⟩;have m4:=wf.2;exists j95 m rfl (by omega) λl1 H1 n1 q1 e1=>?_;have hm:∀s,s∈(j4f m).map StG.i↔∃z:Int,s=.i z/\0<=z/\z<m:=λs=>by
  simp only[j4f,xx,yk,vq,y9b];exact⟨λ⟨n,h1,h2⟩=>⟨_,h2.symm,by omega,by omega⟩,λ⟨z,h1,h2,h3⟩=>⟨z.toNat,by omega,by rw[h1];congr 1;omega⟩⟩
 exists⟨r,l1,_,_,.wys m t,b,w,(j4f m).map StG.i,_,rfl,⟨dw,e1 _ _ hr0⟩,wf,StG.mono e1 hb,okb,WsG.mono e1 hw,okw,q1,jaj _,by simp[j4f];omega,λs hs=>(hm s).mp hs,.inl ⟨m,by omega,rfl⟩,λl zs ps H2 n2 q2 p2 nd mm e2=>hq l zs ps H2 (e1.free n2) q2 p2 nd (j6q mm hm) (e1.tr e2)⟩
def j6y:Sp:=λvs H Q _=>∃(p:Addr) (ss:List Str) (g w:Str),vs=[.ref p,.str g,.str w]/\H p=some (.tup (ss.map V.str))/\ss.length<=60/\∀l L H',Swp ss g w L->H' l=some (.tup (L.map V.str))->Ext H H'->Q (.ref l) H'
theorem jdj(T:Txt K mg a):FnOk P w K mg base (CXU P w) 1 a.f49 a.d49 ["pages","gone","wish"] (j6y):=by
 refine T.F49.okU1 sc49 λvs H Q E h=>?_;unfold j6y at h;refine spl 7 h ?_;clear h;rintro p ss g w rfl hp hl hq;refine⟨rfl,λ_ _ _ _ hr=>⟨_,(j04 (j09 (j0e j2d (by rfl) T.dc xq (j00 (j06 j3h (by rfl) T.cj xu (j00 (j0b j0t (j15 (["page"]:List Str) (["gone"]:List Str) [1] rfl ⟨rfl,by decide +kernel,by decide +kernel,by rfl,⟨⟨rfl,by nofun,by nofun⟩,trivial⟩⟩ (ja3 (pv 0)) (λ_ _ _ _=>⟨(j0d (i:=0) (by show((["page"]:List Str)++(["gone"]:List Str)).Nodup;decide +kernel) rfl (by nofun)),(show PTs _ [_] [_] from⟨(j0a (oNe hr) (pv 0) (pv 1) (j0f _)),trivial⟩),(pv 0)⟩)) (j0r (j00 (pv 2) j01))) j01)) j01)))),?_⟩⟩;exists⟨p,rfl,⟨_,SqT.of hp⟩,λacc hn _ _ _ _=>j3p (SqT.of hp) (by rw[y3];omega) hn (λj ys _=>ys=((ss.take j).filter λt=>!decide (t=g)).map V.str) (by simp) (λ_ _ _ _ _ h=>h) (λj ys H' _ h=>by rw[h,y3];exact gj (uo _ _) (by rw[yn];omega)) ?_ ?_⟩
 ·rintro j y ys H2 hy e rfl Y N hY hN;obtain⟨y,ey,rfl⟩:=j4v hy;have et:ss.take (j+1)=ss.take j++[y]:=by rw[xj,ey];rfl
  exists r_neUS ?_;exists iteN (λh=>?_) (λh=>?_)
  ·exists hY _ _ Ext.rfl' ?_;rw[et,gz,xz,if_pos (by simp[h]),xh];rfl
  ·exists hN _ Ext.rfl' ?_;rw[et,gz,xz,if_neg (by simp[h]),um,y0a]
 ·rintro ys H2 e2 ha rfl;rw[y3,xg (yg _)]at ha;symm;intro p3 H3 n3 q3 e3;have zl:=uo (λt=>!decide (t=g)) ss;exists j93 (e3 _ _ ha) q3 (by simp only[y3,yl,vm];omega) λq4 H4 n4 h4 e4=>?_;rw[show((ss.filter λt=>!decide (t=g)).map V.str++[V.str w])=((ss.filter λt=>!decide (t=g))++[w]).map V.str by rw[xh];rfl]at h4;exists jbx h4 (by simp only[xa,yl,vm];omega) λl5 s5 H5 n5 p5 o5 q5 e5=>?_;exists j0w q5 λl6 H6 n6 q6 e6=>?_;exact hq l6 s5 H6 ⟨p5,o5⟩ q6 ((((e2.tr e3).tr e4).tr e5).tr e6)
def j5u(a:Adr):Sp:=λus H Q _=>∃m,MvP a H Q us (.store m)
theorem j5v(T:Txt K mg a):FnOk P w K mg base (CXU P w) 5 a.f_z7 a.d_z7 ["self","before","wish"] (j5u a):=by
 refine T.F7.okU1 sc7 λvs H Q E h=>?_;obtain⟨m,r,bv,wv,b,w,rfl,⟨dw,hr0⟩,wf,hb,okb,ndb,hw,okw,hq⟩:=h;refine⟨rfl,λ_ _ _ _ hr=>⟨_,(j03 (j17 (j0a oIn (pv 2) (pv 1) (by with_unfolding_all rfl)) (j04 (j09 (j10 (pv 0) T.dh T.cz (j0m T) (hr.mono (by decide)) (T.F1.b4) .nil j24 (j00 (pv 1) (j00 (pv 2) (j00 (j0r (j00 (pv 1) j01)) j01)))))) j0c)
  (j04 (j09 (j10 (pv 0) T.dh T.cz (j0m T) (hr.mono (by decide)) (T.F1.b4) .nil j24 (j00 (pv 1) (j00 (pv 2) (j00 (j15 (["gone"]:List Str) (["before","wish"]:List Str) [1,2] rfl ⟨rfl,by decide +kernel,by decide +kernel,by rfl,⟨⟨rfl,by nofun,by nofun⟩,⟨rfl,by nofun,by nofun⟩,trivial⟩⟩ (ja3 (pv 1)) (λ_ _ _ _=>⟨(j0d (i:=0) (by show((["gone"]:List Str)++(["before","wish"]:List Str)).Nodup;decide +kernel) rfl (by nofun)),(show PTs _ [] [] from trivial),(j16 (jdj T) hr T.F49 (T.F49.b3) (j00 (pv 1) (j00 (pv 0) (j00 (pv 2) j01))))⟩)) j01))))))),?_⟩⟩
 obtain⟨z,rfl,hz⟩:=okw;obtain⟨ss,rfl,hl,hns⟩:=okb;obtain⟨bp,rfl,hbp⟩:=hb;obtain rfl:wv=.str z:=hw;have m4:=wf.2;have m1:=wf.1;have okb:(Gm.store m).ok 40 (.t ss):=⟨ss,rfl,hl,hns⟩
 have ne:∀L:List Str,L.length=m->L≠[]:=λL h e=>by rw[e]at h;simp at h;omega
 exists jnq hbp rfl (j22 _) ?_;rw[j30];exists iteD (λhw=>?_) (λhw=>?_)
 ·symm;intro lp H1 n1 q1 e1;have hr1:=e1 _ _ hr0;have hb1:StG.at_ H1 (.t ss) (.ref bp):=⟨bp,rfl,e1 _ _ hbp⟩
  exists⟨r,lp,_,_,.store m,.t ss,.s z,[.t ss],_,rfl,⟨dw,hr1⟩,wf,hb1,okb,rfl,⟨z,rfl,hz⟩,q1,⟨hb1,trivial⟩,by simp,λs hs=>?_,.inr (.inr ⟨[ss],rfl,λL hL=>?_⟩),λl zs ps H2 n2 q2 p2 nd mm e2=>hq l zs ps H2 (e1.free n2) q2 p2 nd (j6q mm λs=>?_) (e1.tr e2)⟩
  ·rw[yb.mp hs];exact okb
  ·rw[yb.mp hL];exact ne _ hl
  ·rw[yb];exact⟨λe=>⟨ss,e,.inl ⟨hw,rfl⟩⟩,λ⟨L,e,h⟩=>h.elim (λy=>by rw[e,y.2]) λy=>absurd hw y.1⟩
 ·exists⟨bp,rfl,⟨_,SqT.of hbp⟩,λacc hn _ _ _ _=>j3p (SqT.of hbp) (by rw[y3];omega) hn (λj ys H2=>∃Ls:List (List Str),RefsHT H2 ys Ls/\Ls.length=j/\∀i,i<j->Swp ss (ss.getD i ⟨#[]⟩) z (Ls.getD i [])) ⟨[],.nil,rfl,λi hi=>by omega⟩ (λ_ _ _ _ k h=>?_) (λj ys H' _ h=>?_) ?_ ?_⟩
  ·obtain⟨Ls,h1,h2,h3⟩:=h;exact⟨Ls,RefsHT.keep k h1,h2,h3⟩
  ·obtain⟨Ls,h1,h2,h3⟩:=h;have:=h1.length;omega
  ·rintro j y ys H2 hy e ⟨Ls,h1,h2,h3⟩ Y N hY hN;obtain⟨y,ey,rfl⟩:=j4v hy;have gy:ss.getD j ⟨#[]⟩=y:=by rw[yd,ey];rfl
   exists⟨bp,ss,y,z,rfl,e _ _ hbp,by omega,λl ms H3 hs q3 e3=>?_⟩;refine hY _ _ e3 ⟨Ls++[ms],RefsHT.snoc e3 q3 h1,by simp[h2],λi hi=>?_⟩;by_cases z:i<j
   ·rw[yd (l:=Ls++[ms]),yv (by omega),<- yd];exact h3 i z
   ·obtain rfl:i=j:=(by omega);rw[yd (l:=Ls++[ms]),yp (by omega),h2,uq,gy];exact hs
  ·rintro ys H2 e2 ha ⟨Ls,h1,h2,h3⟩;rw[y3]at h2 h3;have hl2:=h1.length;have each:∀L,L∈Ls↔GoS ss z L:=λL=>by
    constructor
    ·intro hL;obtain⟨i,hi,e⟩:=j36.mpr hL;have:=h3 i (by omega);rw[e]at this;exact .inr ⟨hw,_,j4w (by omega),this⟩
    ·rintro(⟨y,_⟩|⟨_,g,hg,hs⟩)
     ·exact absurd y hw
     ·obtain⟨k,hk,rfl⟩:=vc hg;have hk':=h3 k (by omega);rw[yd,y4 hk]at hk';exact j36.mp ⟨k,by omega,hk'.uniq hs⟩
   have okL:∀L∈Ls,(Gm.store m).ok 31 (.t L):=λL hL=>Gm.dst_ok (n:=30) (w:=.s z) ⟨ss,rfl,hl,hns⟩ ndb ⟨z,rfl,hz⟩ ⟨L,rfl,(each L).mp hL⟩;have hr2:=e2 _ _ hr0;have hb2:StG.at_ H2 (.t ss) (.ref bp):=⟨bp,rfl,e2 _ _ hbp⟩
   exists⟨r,acc,_,_,.store m,.t ss,.s z,Ls.map .t,ys,rfl,⟨dw,hr2⟩,wf,hb2,okb,rfl,⟨z,rfl,hz⟩,ha,j5o h1,by rw[y3];omega,λs hs=>?_,.inr (.inr ⟨Ls,rfl,λL hL=>?_⟩),λl zs ps H3 n3 q3 p3 nd mm e3=>hq l zs ps H3 (e2.free n3) q3 p3 nd (j6q mm λs=>?_) (e2.tr e3)⟩
   ·obtain⟨L,hL,rfl⟩:=yk.mp hs;exact okL L hL
   ·obtain⟨L',e,l1,_⟩:=okL L hL;injection e with e;exact ne L (by rw[e];exact l1)
   ·rw[yk];exact⟨λ⟨L,hL,e⟩=>⟨L,e.symm,(each L).mp hL⟩,λ⟨L,e,hL⟩=>⟨L,(each L).mpr hL,e.symm⟩⟩
def j3c:Sp:=λus H Q _=>∃(p:Addr) (ss:List Str),us=[.ref p]/\H p=some (.tup (ss.map V.str))/\ss.length<=4/\∀l vs H',H l=none->H' l=some (.lst vs)->RefsHT H' vs (ords ss)->Ext H H'->Q (.ref l) H'
theorem j6z(T:Txt K mg a):FnOk P w K mg base (CXU P w) 1 a.f22 a.d22 ["things"] (j3c):=by
 refine T.F22.okU1 jag λvs H Q E h=>?_;unfold j3c at h;refine spl 5 h ?_;clear h;rintro p ss rfl hp h4 hq;refine⟨rfl,λ_ _ _ _ hr=>⟨_,(j03 (j0j (i:=1) jag.nd rfl (by nofun) (j0r (j00 (j1f j01) j01)))
  (j03 (j1t vh rfl (ja3 (pv 0)) (j0d (i:=2) jag.nd rfl (by nofun)) (j03 (j0j (i:=3) jag.nd rfl (by nofun) (j0r j01))
  (j03 (j1t vh rfl (j1o (pv 1)) (j0d (i:=4) jag.nd rfl (by nofun)) (j04 (j25 (jao gn PySem.F.slot_list_extend PySem.F.type_list_extend je5 (pv 3) (j00 (j15 (["at"]:List Str) (["order","thing"]:List Str) [4,2] rfl ⟨rfl,by decide +kernel,by decide +kernel,by rfl,⟨⟨rfl,by nofun,by nofun⟩,⟨rfl,by nofun,by nofun⟩,trivial⟩⟩ (j0k rfl T.c8 (j00 (j0b j0t (j06 j2e (by rfl) T.cr xn (j00 (pv 4) j01)) j02) j01)) (λ_ _ _ _=>⟨(j0d (i:=0) (by show((["at"]:List Str)++(["order","thing"]:List Str)).Nodup;decide +kernel) rfl (by nofun)),(show PTs _ [] [] from trivial),(j0b j0t (j0b j0t (j0s oSlV (pv 1) j18 (j0z (pv 0))) (j1f (j00 (pv 2) j01))) (j0s oSlV (pv 1) (j0z (pv 0)) j18))⟩)) j01)))))
  (j04 (j0j (i:=1) jag.nd rfl (by nofun) (pv 3))))))
  (j04 (j09 (pv 1))))),?_⟩⟩
 symm;intro t0 H1 n1 q1 e1;symm;intro l0 H2 n2 q2 e2;exists⟨p,rfl,⟨_,SqT.of ((e1.tr e2) _ _ hp)⟩,jjz (xs:=ss.map V.str) (λi σ H4=>∃(l:Addr) (vs:List V) (u1 u2 u3:Option V),σ=[some (.ref p),some (.ref l),u1,u2,u3]/\Ext H H4/\H l=none/\H4 l=some (.lst vs)/\RefsHT H4 vs (ords (ss.take i))) ⟨l0,_,none,none,none,rfl,e1.tr e2,e1.free n2,q2,.cons (L:=[]) (e2 _ _ q1) .nil⟩ (λi σ H3 _ h=>by obtain⟨_,_,_,_,_,_,x,_⟩:=h;exact SqT.of (x _ _ hp)) ?_ ?_⟩
 ·rintro i x σ H5 hx hE;refine spl 9 hE ?_;clear hE;rintro l vs u1 u2 u3 rfl x5 nl q5 rf5;obtain⟨y,ey,rfl⟩:=j4v hx;have hi:i<ss.length:=(yw.mp ey).1;have each:∀L∈ords (ss.take i),L.length=i:=λL hL=>by rw[(j3l hL).length_eq,yn];omega
  have lo:=j82 (ss:=ss.take i) (by rw[yn];omega);have lv:=rf5.length;symm;intro lg H6 n6 q6 e6;exists⟨l,rfl,⟨_,SqL.of (e6 _ _ q5)⟩,j2t (xs:=vs) (λj σ H7=>∃(ws:List V) (u:Option V),σ=[some (.ref p),some (.ref l),some (.str y),some (.ref lg),u]/\Ext H5 H7/\H7 lg=some (.lst ws)/\RefsHT H7 ws (((ords (ss.take i)).take j).flatMap (j5p y))) ⟨[],u3,rfl,e6,q6,.nil⟩ (λj σ H7 _ h=>by obtain⟨_,_,_,x,_⟩:=h;exact SqL.of (x _ _ q5)) ?_ ?_⟩
  ·rintro j z σ H7 hz hE;refine spl 5 hE ?_;clear hE;rintro ws u rfl x7 q7 rf7;have hj:j<(ords (ss.take i)).length:=by rw[<- lv];exact(yw.mp hz).1
   obtain⟨c,rfl,hc⟩:=rf5.get j z hz;obtain⟨L,eL,hL⟩:∃L,(ords (ss.take i))[j]?=some L/\L.length=i:=⟨_,y4 hj,each _ (u0 hj)⟩
   rw[yd,eL,y3e]at hc;have hc7:=x7 _ _ hc;have lw:=rf7.length;rw[jd6 y (k:=i) λM hM=>each M (vd hM),yn]at lw;have lw2:ws.length<=24*(i+1):=by rw[lw];exact y8l _ (by omega)
   exists j1a hc7 ?_;rw[y3];exists⟨L.length+1,by simp,by omega,by omega,λacc hn _ _ _ _=>j1g (by omega) hn (λk ys H8=>RefsHT H8 ys ((v8 k).map λm=>L.take m++y::L.drop m)) .nil (λ_ _ _ _ kk h=>RefsHT.keep kk h) (λk ys H' _ h=>by have:=h.length;simp at this;omega) ?_ ?_⟩
   ·rintro k ys H8 hk e8 rf8 Y N hY hN;have hc8:=e8 _ _ hc7;rw[show((0:Int)+(k:Nat))=(k:Nat) by omega];exists j94 hc8 λt9 H9 q9 e9=>?_;rw[jfg (by omega)]at q9;symm;intro t10 H10 n10 q10 e10;exists j14 (e10 _ _ q9) q10 (by simp only[y3,yn,yl,vm];omega) λt11 H11 q11 e11=>?_;have hc11:=(e9.tr (e10.tr e11)) _ _ hc8;exists j94 hc11 λt12 H12 q12 e12=>?_;rw[j5n (by omega)]at q12;exists j14 (e12 _ _ q11) q12 (by simp only[y3,yn,vj,xa,yl,vm];omega) λt13 H13 q13 e13=>?_;have x13:=e9.tr (e10.tr (e11.tr (e12.tr e13)));refine hY _ _ x13 ?_;rw[y19,xh];refine RefsHT.snoc x13 ?_ rf8;rw[q13];simp
   ·rintro ys H8 e8 ha rf8;have ly:=rf8.length;rw[y3,y0k]at ly;exists jit (e8 _ _ q7) ha (by omega) λH9 q9 b9=>?_;exists⟨_,_,rfl,Ext.but (x7.tr e8) b9 n6,q9,?_⟩;rw[xj,eL,List.flatMap_append];refine RefsHT.butL (e8 _ _ q7) b9 (RefsHT.app (rf7.mono e8) ?_);show RefsHT H8 ys ([L].flatMap (j5p y));rw[List.flatMap_singleton];exact rf8
  ·rintro σ H7 hE;refine spl 5 hE ?_;clear hE;rintro ws u rfl x7 q7 rf7;rw[xg (by omega)]at rf7;exists⟨lg,ws,_,_,_,rfl,x5.tr x7,x5.free n6,q7,?_⟩;rw[xj,ey];show RefsHT H7 ws (ords (ss.take i++[y]));rw[j9m];exact rf7
 ·rintro σ H5 hE;refine spl 9 hE ?_;clear hE;rintro l vs u1 u2 u3 rfl x5 nl q5 rf5;rw[y3,vk]at rf5;symm;exact hq l vs H5 nl q5 rf5 x5
def j5w(a:Adr):Sp:=λus H Q _=>∃ts,MvP a H Q us (.shelf ts)
theorem j5x(T:Txt K mg a):FnOk P w K mg base (CXU P w) 5 a.f_z5 a.d5 ["self","before","wish"] (j5w a):=by
 refine T.F5.okU1 sc5 λvs H Q E h=>?_;obtain⟨ts,r,bv,wv,b,w,rfl,⟨dw,fv,hr0⟩,wf,hb,okb,_,hw,okw,hq⟩:=h;refine⟨rfl,λ_ _ _ _ hr=>⟨_,(j03 (j17 (j0a jno (j06 j2e (by rfl) T.cr xn (j00 (pv 1) j01)) j02 (j0f _)) (j04 jau) j0c)
  (j04 (j09 (j10 (pv 0) T.mi T.dk (j0m T) (hr.mono (by decide)) (T.F1.b4) .nil j24 (j00 (pv 1) (j00 (pv 2) (j00 (j16 (j6z T) hr T.F22 (T.F22.b1) (j00 (pv 1) j01)) j01))))))),?_⟩⟩
 obtain⟨z,rfl,hz⟩:=okw;obtain⟨ss,rfl,pm⟩:=okb;obtain⟨bp,rfl,hbp⟩:=hb;obtain rfl:wv=.str z:=hw;have l4:=wf.2.1;have l1:=wf.1;have ln:=pm.length_eq;have okb:(Gm.shelf ts).ok 40 (.t ss):=⟨ss,rfl,pm⟩
 have ls4:ss.length<=4:=by omega
 exists j1a hbp ?_;rw[y3];exists iteD (λc=>absurd c (by omega)) (λ_=>?_);exists⟨bp,ss,rfl,hbp,ls4,λl vs H1 n1 q1 rf1 e1=>?_⟩;have lv:=rf1.length;have lo:=j82 ls4;have hr1:=e1 _ _ hr0;have hb1:StG.at_ H1 (.t ss) (.ref bp):=⟨bp,rfl,e1 _ _ hbp⟩
 exists⟨r,l,_,_,.shelf ts,.t ss,.s z,(ords ss).map .t,vs,rfl,⟨dw,fv,hr1⟩,wf,hb1,okb,rfl,⟨z,rfl,hz⟩,q1,j5o rf1,by rw[y3];omega,λs hs=>?_,.inr (.inr ⟨ords ss,rfl,λL hL e=>?_⟩),λl zs ps H3 n3 q3 p3 nd mm e3=>hq l zs ps H3 (e1.free n3) q3 p3 nd (j6q mm λs=>?_) (e1.tr e3)⟩
 ·obtain⟨L,hL,rfl⟩:=yk.mp hs;exact⟨L,rfl,(j3l hL).trans pm⟩
 ·have:=(j3l hL).length_eq;rw[e]at this;simp at this;omega
 ·rw[yk];exact⟨λ⟨L,hL,e⟩=>⟨L,e.symm,j3l hL⟩,λ⟨L,e,hL⟩=>⟨L,jgs hL,e.symm⟩⟩
def jh2:Sp:=λvs H Q _=>∃(p:Addr) (ns:List Int) (k:Nat) (w:Int),vs=[.ref p,.int k,.int w]/\H p=some (.tup (ns.map V.int))/\k<ns.length/\ns.length<=60/\∀l ms H',Sent ns k w ms->H' l=some (.tup (ms.map V.int))->Ext H H'->Q (.ref l) H'
theorem jna(T:Txt K mg a):FnOk P w K mg base (CXU P w) 1 a.f53 a.d53 ["places","at","wish"] (jh2):=by
 refine T.F53.okU1 sc53 λvs H Q E h=>?_;unfold jh2 at h;refine spl 8 h ?_;clear h;rintro p ns k w rfl hp hk hz hq;refine⟨rfl,λ_ _ _ _ hr=>⟨_,(j04 (j09 (j0e j2d (by rfl) T.dc xq (j00 (j06 j3h (by rfl) T.cj xu (j00 (j0b j0t (j0b j0t (j0s oSlV (pv 0) j18 (j0z (pv 1))) (j1f (j00 (pv 2) j01))) (j0s oSlV (pv 0) (j0z (j0b j0t (pv 1) j02)) j18)) j01)) j01)))),?_⟩⟩;exists j94 hp λl1 H1 q1 e1=>?_;rw[j5m (by omega)]at q1;symm;intro l2 H2 n2 q2 e2;exists j14 (e2 _ _ q1) q2 (by simp;omega) λl3 H3 q3 e3=>?_;have x3:=(e1.tr e2).tr e3;exists j94 (x3 _ _ hp) λl4 H4 q4 e4=>?_;rw[show(some ((k:Int)+1))=some ((k+1:Nat):Int)from by rw[y2h];rfl,j5l (by omega)]at q4;exists j14 (e4 _ _ q3) q4 (by simp;omega) λl5 H5 q5 e5=>?_;have e:(ns.take k).map V.int++[V.int w]++(ns.drop (k+1)).map V.int=(ns.take k++[w]++ns.drop (k+1)).map V.int:=by simp
 rw[e]at q5;exists j6k q5 (by simp;omega) λl6 ms H6 n6 pm pw q6 e6=>?_;exists j0w q6 λl7 H7 n7 q7 e7=>?_;exact hq l7 ms H7 ⟨pm,pw⟩ q7 (x3.tr (e4.tr (e5.tr (e6.tr e7))))
def j70(a:Adr):Sp:=λus H Q _=>∃m,MvP a H Q us (.line m)
theorem j71(T:Txt K mg a):FnOk P w K mg base (CXU P w) 5 a.f16 a.d16 ["self","before","wish"] (j70 a):=by
 refine T.F16.okU1 sc16 λvs H Q E h=>?_;obtain⟨m,r,bv,wv,b,w,rfl,⟨dw,hr0⟩,wf,hb,okb,_,hw,okw,hq⟩:=h;refine⟨rfl,λ_ _ _ _ hr=>⟨_,(j03 (j17 (j0a oIn (pv 2) (pv 1) (by with_unfolding_all rfl)) (j04 (j09 (j10 (pv 0) T.tj T.dg (j0m T) (hr.mono (by decide)) (T.F1.b4) .nil j24 (j00 (pv 1) (j00 (pv 2) (j00 (j0r (j00 (pv 1) j01)) j01)))))) j0c)
  (j04 (j09 (j10 (pv 0) T.tj T.dg (j0m T) (hr.mono (by decide)) (T.F1.b4) .nil j24 (j00 (pv 1) (j00 (pv 2) (j00 (j15 (["at"]:List Str) (["before","wish"]:List Str) [1,2] rfl ⟨rfl,by decide +kernel,by decide +kernel,by rfl,⟨⟨rfl,by nofun,by nofun⟩,⟨rfl,by nofun,by nofun⟩,trivial⟩⟩ (j0k rfl T.c8 (j00 (j06 j2e (by rfl) T.cr xn (j00 (pv 1) j01)) j01)) (λ_ _ _ _=>⟨(j0d (i:=0) (by show((["at"]:List Str)++(["before","wish"]:List Str)).Nodup;decide +kernel) rfl (by nofun)),(show PTs _ [] [] from trivial),(j16 (jna T) hr T.F53 (T.F53.b3) (j00 (pv 1) (j00 (pv 0) (j00 (pv 2) j01))))⟩)) j01))))))),?_⟩⟩
 obtain⟨z,rfl⟩:=okw;obtain⟨ns,rfl,hl⟩:=okb;obtain⟨bp,rfl,hbp⟩:=hb;obtain rfl:wv=.int z:=hw;have m3:=wf.2;have m1:=wf.1;have okb:(Gm.line m).ok 40 (.l ns):=⟨ns,rfl,hl⟩
 have ne:∀L:List Int,L.length=m->L≠[]:=λL h e=>by rw[e]at h;simp at h;omega
 exists jnq hbp rfl (j3i _) ?_;rw[j59];exists iteD (λhw=>?_) (λhw=>?_)
 ·symm;intro lp H1 n1 q1 e1;have hr1:=e1 _ _ hr0;have hb1:StG.at_ H1 (.l ns) (.ref bp):=⟨bp,rfl,e1 _ _ hbp⟩
  exists⟨r,lp,_,_,.line m,.l ns,.i z,[.l ns],_,rfl,⟨dw,hr1⟩,wf,hb1,okb,rfl,⟨z,rfl⟩,q1,⟨hb1,trivial⟩,by simp,λs hs=>?_,.inr (.inl ⟨[ns],rfl,λL hL=>?_⟩),λl zs ps H2 n2 q2 p2 nd mm e2=>hq l zs ps H2 (e1.free n2) q2 p2 nd (j6q mm λs=>?_) (e1.tr e2)⟩
  ·rw[yb.mp hs];exact okb
  ·rw[yb.mp hL];exact ne _ hl
  ·rw[yb];exact⟨λe=>⟨ns,e,.inl ⟨hw,rfl⟩⟩,λ⟨L,e,h⟩=>h.elim (λy=>by rw[e,y.2]) λy=>absurd hw y.1⟩
 ·exists j1a hbp ?_;rw[y3];exists⟨_,rfl,by omega,by omega,λacc hn _ _ _ _=>j1g (by omega) hn (λj ys H2=>∃Ls:List (List Int),RefsH H2 ys Ls/\Ls.length=j/\∀i,i<j->Sent ns i z (Ls.getD i [])) ⟨[],.nil,rfl,λi hi=>by omega⟩ (λ_ _ _ _ k h=>?_) (λj ys H' _ h=>?_) ?_ ?_⟩
  ·obtain⟨Ls,h1,h2,h3⟩:=h;exact⟨Ls,RefsH.keep k h1,h2,h3⟩
  ·obtain⟨Ls,h1,h2,h3⟩:=h;have:=h1.length;omega
  ·rintro j ys H2 hj e ⟨Ls,h1,h2,h3⟩ Y N hY hN;exists⟨bp,ns,j,z,by simp,e _ _ hbp,by omega,by omega,λl ms H3 hs q3 e3=>?_⟩;refine hY _ _ e3 ⟨Ls++[ms],RefsH.snoc e3 q3 h1,by simp[h2],λi hi=>?_⟩;by_cases y:i<j
   ·rw[yd (l:=Ls++[ms]),yv (by omega),<- yd];exact h3 i y
   ·obtain rfl:i=j:=(by omega);rw[yd (l:=Ls++[ms]),yp (by omega),h2,uq];exact hs
  ·rintro ys H2 e2 ha ⟨Ls,h1,h2,h3⟩;have hl2:=h1.length;have each:∀L,L∈Ls↔GoL ns z L:=λL=>by
    constructor
    ·intro hL;obtain⟨i,hi,e⟩:=j2f.mpr hL;have:=h3 i (by omega);rw[e]at this;exact .inr ⟨hw,i,by omega,this⟩
    ·rintro(⟨y,_⟩|⟨_,k,hk,hs⟩)
     ·exact absurd y hw
     ·have hk':=h3 k (by omega);exact j2f.mp ⟨k,by omega,j0u (hk'.1.trans hs.1.symm) hk'.2 hs.2⟩
   have lenL:∀L∈Ls,L.length=m:=λL hL=>by
    rcases(each L).mp hL with⟨y,_⟩|⟨_,k,hk,hs⟩
    ·exact absurd y hw
    ·rw[hs.len hk,hl]
   have hr2:=e2 _ _ hr0;have hb2:StG.at_ H2 (.l ns) (.ref bp):=⟨bp,rfl,e2 _ _ hbp⟩
   exists⟨r,acc,_,_,.line m,.l ns,.i z,Ls.map .l,ys,rfl,⟨dw,hr2⟩,wf,hb2,okb,rfl,⟨z,rfl⟩,ha,jd9 h1,by rw[y3];omega,λs hs=>?_,.inr (.inl ⟨Ls,rfl,λL hL=>ne L (lenL L hL)⟩),λl zs ps H3 n3 q3 p3 nd mm e3=>hq l zs ps H3 (e2.free n3) q3 p3 nd (j6q mm λs=>?_) (e2.tr e3)⟩
   ·obtain⟨L,hL,rfl⟩:=yk.mp hs;exact⟨L,rfl,lenL L hL⟩
   ·rw[yk];exact⟨λ⟨L,hL,e⟩=>⟨L,e.symm,(each L).mp hL⟩,λ⟨L,e,hL⟩=>⟨L,(each L).mpr hL,e.symm⟩⟩
def j72(a:Adr):Sp:=λus H Q _=>∃W,MvP a H Q us (.hire W)
theorem j73(T:Txt K mg a):FnOk P w K mg base (CXU P w) 5 a.f14 a.d14 ["self","before","wish"] (j72 a):=by
 refine T.F14.okU1 sc14 λvs H Q E h=>?_;obtain⟨W,r,bv,wv,b,w,rfl,⟨dw,hr0⟩,wf,hb,okb,_,hw,okw,hq⟩:=h;refine⟨rfl,λ_ _ _ _ hr=>⟨_,(j04 (j09 (j10 (pv 0) T.ml T.t7 (j0m T) (hr.mono (by decide)) (T.F1.b4) .nil j24 (j00 (pv 1) (j00 (pv 2) (j00 (j0r (j00 j02 (j00 j02 j01))) j01)))))),?_⟩⟩;symm;intro l1 H1 n1 q1 e1;exists⟨r,l1,_,_,.hire W,b,w,(j4f 2).map StG.i,_,rfl,⟨dw,e1 _ _ hr0⟩,wf,StG.mono e1 hb,okb,WsG.mono e1 hw,okw,q1,jaj _,by decide,λs hs=>?_,.inl ⟨2,by decide,rfl⟩,λl zs ps H2 n2 q2 p2 nd mm e2=>hq l zs ps H2 (e1.free n2) q2 p2 nd (j6q mm λs=>?_) (e1.tr e2)⟩
 ·rcases(show s=.i 0\/s=.i 1 by simpa[j4f,y19] using hs)with z|z
  ·exact .inl z
  ·exact .inr z
 ·show s∈(j4f 2).map StG.i↔s=.i 0\/s=.i 1;simp[j4f,y19]
def j74(a:Adr):Sp:=λus H Q _=>∃R,MvP a H Q us (.bags R)
theorem j75(T:Txt K mg a):FnOk P w K mg base (CXU P w) 5 a.f12 a.d12 ["self","before","wish"] (j74 a):=by
 refine T.F12.okU1 jj5 λvs H Q E h=>?_;obtain⟨R,r,bv,wv,b',w,rfl,⟨dw,hr0⟩,wf,hb',okb,_,hw,okw,hq⟩:=h;have qj:=T.mh;have nu:=T.da;refine⟨rfl,λ_ _ _ _ hr=>⟨_,(j03 (j19 (i:=3) (["load"]:List Str) (["wish","self"]:List Str) [2,0] jj5.nd rfl (y7e rfl) rfl ⟨rfl,by decide +kernel,by decide +kernel,by rfl,⟨⟨rfl,by nofun,by nofun⟩,⟨rfl,by nofun,by nofun⟩,trivial⟩⟩ (j1o (j9k hr rfl (by rfl) T.cj (by rfl) T.n_set (j00 (pv 1) j01))) (λ_ _ _ _=>⟨(j0d (i:=0) (by show((["load"]:List Str)++(["wish","self"]:List Str)).Nodup;decide +kernel) rfl (by nofun)),(show PTs _ [_] [_] from⟨(j0a oLeW (j0b j0t (pv 0) (pv 1)) (jb4 (pv 2) rfl) (j0f _)),trivial⟩),(pv 0)⟩))
  (j03 (j19 (i:=4) (["load"]:List Str) (["before","wish"]:List Str) [1,2] jj5.nd rfl (y7e rfl) rfl ⟨rfl,by decide +kernel,by decide +kernel,by rfl,⟨⟨rfl,by nofun,by nofun⟩,⟨rfl,by nofun,by nofun⟩,trivial⟩⟩ (j1o (pv 3)) (λ_ _ _ _=>⟨(j0d (i:=0) (by show((["load"]:List Str)++(["before","wish"]:List Str)).Nodup;decide +kernel) rfl (by nofun)),(show PTs _ [] [] from trivial),(j16 (j9x T) hr T.F50 (T.F50.b3) (j00 (pv 1) (j00 (jns y20 y21 y22 jcd (pv 1) (j00 (pv 0) j01)) (j00 (pv 2) j01))))⟩))
  (j04 (j09 (j10 (pv 0) T.mh T.t9 (j0m T) (hr.mono (by decide)) (T.F1.b4) .nil j24 (j00 (pv 1) (j00 (pv 2) (j00 (j0b j0t (pv 4) (j0r (j00 (j16 (j9z T) hr T.F51 (T.F51.b2) (j00 (pv 1) (j00 (pv 2) j01))) j01))) j01)))))))),?_⟩⟩
 obtain⟨s,rfl,s1,s2⟩:=okw;obtain⟨os,rfl,hL,l4⟩:=okb;obtain⟨b,rfl,hb⟩:=hb';obtain rfl:wv=.int s:=hw;exists r_sgI os (.inr hb) (λn h=>h) (by omega) λlk ks H1 n1 q1 pwk mk e1=>?_;have hr1:=e1 _ _ hr0;have hb1:=e1 _ _ hb;have lk:=jez (pwk.imp λz e=>by omega) λx hx=>(mk x).mp hx;exists⟨_,rfl,⟨_,SqL.of q1⟩,λacc hn _ _ _ _=>j1s (SqL.of q1) (by rw[y3];omega) hn (λj ys _=>ys=((ks.take j).filter λk=>decide (k+s<=R)).map V.int) rfl (λ_ _ _ _ _ h=>h) (λj ys H' _ h=>by rw[h,y3];exact gj (uo _ _) (by rw[yn];omega)) ?_ ?_⟩
 ·rintro j y ys H2 hy e rfl Y N hY hN;obtain⟨y,ey,rfl⟩:=j4s hy;have hr2:=e _ _ hr1;have et:ks.take (j+1)=ks.take j++[y]:=by rw[xj,ey];rfl
  exists iteD (λc=>?_) (λc=>?_)
  ·exists hY _ _ Ext.rfl' ?_;rw[et,gz,xz,if_pos (decide_eq_true c),um,xh];rfl
  ·exists hN _ Ext.rfl' ?_;rw[et,gz,xz,if_neg (λz=>c (of_decide_eq_true z)),um,y0a]
 rintro ys H2 e2 ha rfl;rw[y3,vk]at ha;have hr2:=e2 _ _ hr1;have hb2:=e2 _ _ hb1;have lf:=uo (λk=>decide (k+s<=R)) ks;obtain⟨fs,efs,hfs⟩:∃fs,ks.filter (λk=>decide (k+s<=R))=fs/\∀k,k∈fs↔k∈os/\k+s<=R:=⟨_,rfl,λk=>by rw[ug,mk,decide_eq_true_iff]⟩
 rw[efs]at ha lf;exists⟨_,rfl,⟨_,SqL.of ha⟩,λacc2 hn2 _ _ _ _=>j1s (SqL.of ha) (by rw[y3];omega) hn2 (λj ys H3=>∃Ls:List (List Int),RefsH H3 ys Ls/\Ls.length=j/\(∀L∈Ls,Goes R os s L 0)/\∀i,i<j->(Ls.getD i []).Perm (os.set (os.idxOf (fs.getD i 0)) (fs.getD i 0+s))/\(Ls.getD i []).Pairwise (·<=·)) ⟨[],.nil,rfl,(λL hL=>by cases hL),λi hi=>by omega⟩ (λ_ _ _ _ k h=>?_) (λj ys H' _ h=>?_) ?_ ?_⟩
 ·obtain⟨Ls,h1,h2⟩:=h;exact⟨Ls,RefsH.keep k h1,h2⟩
 ·obtain⟨Ls,h1,h2,_⟩:=h;have:=h1.length;omega
 ·rintro j y ys H3 hy e ⟨Ls,h1,h2,h3,h4⟩ Y N hY hN;obtain⟨y,ey,rfl⟩:=j4s hy;have gy:fs.getD j 0=y:=by rw[yd,ey];rfl
  obtain⟨yo,yR⟩:=(hfs y).mp (v6 ey);have hb3:=e _ _ hb2;have ix:=y05.mpr yo;have gi:os.getD (os.idxOf y) 0=y:=by rw[yd,y4 ix,y1m ix];rfl
  exists jer hb3 yo (by omega) ?_;exists⟨b,os,s,os.idxOf y,rfl,hb3,ix,by omega,λl ms H4 pm pw q4 e4=>?_⟩;rw[gi]at pm;refine hY _ _ e4 ⟨Ls++[ms],RefsH.snoc e4 q4 h1,by simp[h2],λL hL=>?_,λi hi=>?_⟩
  ·rcases x0.mp hL with z|z
   ·exact h3 L z
   ·rw[yb.mp z];exact⟨pw,.inr ⟨rfl,_,ix,by rw[gi];exact yR,by rw[gi];exact pm⟩⟩
  ·by_cases z:i<j
   ·rw[yd (l:=Ls++[ms]),yv (by omega),<- yd];exact h4 i z
   ·obtain rfl:i=j:=(by omega);rw[yd (l:=Ls++[ms]),yp (by omega),h2,uq,gy];exact⟨pm,pw⟩
 rintro ys H3 e3 ha3 ⟨Ls,h1,h2,h3,h4⟩;rw[y3]at h2 h4;have hr3:=e3 _ _ hr2;have hb3:=e3 _ _ hb2;have ly:=h1.length;exists⟨b,os,s,rfl,hb3,by omega,λqo go H4 po wo q4 e4=>?_⟩;have hr4:=e4 _ _ hr3;symm;intro l5 H5 n5 q5 e5;exists j93 ((e4.tr e5) _ _ ha3) q5 (by simp;omega) λl6 H6 n6 q6 e6=>?_;have x46:=e5.tr e6;symm;have hgo:Goes R os s go 1:=⟨wo,.inl ⟨rfl,po⟩⟩
 have hall:∀L∈Ls++[go],∃pr,Goes R os s L pr:=λL hL'=>by
  rcases x0.mp hL' with z|z
  ·exact⟨0,h3 L z⟩
  ·rw[yb.mp z];exact⟨1,hgo⟩
 have okL:∀L∈Ls++[go],(Gm.bags R).ok 31 (.l L):=λL hL'=>by
  obtain⟨pr,hg⟩:=hall L hL';exact Gm.dst_ok (n:=30) (b:=.l os) (w:=.i s) ⟨os,rfl,hL,l4⟩ trivial ⟨s,rfl,s1,s2⟩ ⟨L,pr,rfl,hg⟩
 have x6:=e1.tr (e2.tr (e3.tr (e4.tr x46)));refine⟨r,l6,_,_,.bags R,.l os,.i s,(Ls++[go]).map .l,_,rfl,⟨dw,x46 _ _ hr4⟩,wf,⟨b,rfl,(e4.tr x46) _ _ hb3⟩,⟨os,rfl,hL,by omega⟩,rfl,⟨s,rfl,s1,s2⟩,q6,jd9 (RefsH.snoc e6 ((e5.tr e6) _ _ q4) (h1.mono (e4.tr e5))),by simp;omega,λs' hs'=>?_,.inr (.inl ⟨Ls++[go],rfl,λL hL' e=>?_⟩),λl7 y7 ps H7 n7 q7 p7 nd7 m7 e7=>hq l7 y7 ps H7 (x6.free n7) q7 p7 nd7 (j6q m7 λs'=>?_) (x6.tr e7)⟩
 ·obtain⟨L,hL',rfl⟩:=yk.mp hs';exact Gm.ok_mono (okL L hL') (by omega)
 ·obtain⟨pr,hg⟩:=hall L hL';rcases hg.2 with⟨_,pm⟩|⟨_,k,hk,_,pm⟩
  ·have:=pm.length_eq;rw[e]at this;simp at this
  ·have:=pm.length_eq;rw[e]at this;simp at this;omega
 ·rw[yk];refine⟨λ⟨L,hL',e⟩=>(hall L hL').elim λpr hg=>⟨L,pr,e.symm,hg⟩,λ⟨L,pr,e,hg⟩=>⟨L,?_,e.symm⟩⟩;rcases hg.2 with⟨_,pm⟩|⟨_,k,hk,hR,pm⟩
  ·exact yz _ (yb.mpr (j0u (pm.trans po.symm) hg.1 wo))
  ·have ko:os.getD k 0∈os:=j9l hk;obtain⟨i,hi,ei⟩:=vc ((hfs _).mpr ⟨ko,hR⟩);have gi:fs.getD i 0=os.getD k 0:=by rw[yd,y4 hi];exact ei
   obtain⟨w1,w2⟩:=h4 i (by omega);rw[gi]at w1;have ix:=y05.mpr ko;have gk:os.getD (os.idxOf (os.getD k 0)) 0=os.getD k 0:=by rw[yd,y4 ix,y1m ix];rfl
   refine gr _ (j2f.mp ⟨i,by omega,?_⟩);exact j0u (w1.trans ((jd0 ix hk gk).trans pm.symm)) w2 hg.1
def j76(a:Adr):Sp:=λvs H Q _=>∃(w d:Addr) (xv:V) (g:Gm) (r:Row StG) (x:WsG) (L:List StG),vs=[.ref w,.ref d,xv]/\WoP a H g w/\g.wf/\RowF H g d r/\(r.map (·.1)).Nodup/\(∀e∈r,g.ok 30 e.1/\g.nd e.1)/\x.at_ H xv/\g.okW x/\L.length<=60/\(∀e∈r,∀s,g.dst e.1 x s->s∈L)/\
 ∀d' r' H',H d'=none->RowF H' g d' r'->Nxt g x r r'->Ext H H'->Q (.ref d') H'
theorem jdk(T:Txt K mg a):FnOk P w K mg base (CXU P w) 6 a.f48 a.d48 ["world","row","wish"] (j76 a):=by
 refine T.F48.okU1 jaf λvs H Q E h=>?_;unfold j76 at h;refine spl 12 h ?_;clear h;rintro w d xv g r x L rfl hw wf ⟨o,u,kvs,hd,du0,hR⟩ nd h;refine spl 5 h ?_;clear h;rintro oks hx okx l60 hL hq;refine⟨rfl,λ_ _ _ _ hr=>⟨_,(j03 (j0j (i:=3) jaf.nd rfl (by nofun) (j2z jbe jbf))
  (j03 (j1t vh rfl (jm7 (pi_dK (pv 1)) (pi_dT (pv 1))) (j0d (i:=4) jaf.nd rfl (by nofun)) (j03 (j0j (i:=5) jaf.nd rfl (by nofun) (j0n oIx (j5c hr (pv 1) (pv 4) (λ_ _=>rfl)) j02 (λ_ _=>rfl)))
  (j04 (j1t vh rfl (j1o (j2z (j10 (pv 0) T.mh T.mf (j75 T) (hr.mono (by decide)) (T.F12.b3) .nil j24 (j00 (pv 4) (j00 (pv 2) j01))) (j2z (j10 (pv 0) T.ml T.md (j73 T) (hr.mono (by decide)) (T.F14.b3) .nil j24 (j00 (pv 4) (j00 (pv 2) j01))) (j2z (j10 (pv 0) T.tj T.tm (j71 T) (hr.mono (by decide)) (T.F16.b3) .nil j24 (j00 (pv 4) (j00 (pv 2) j01))) (j2z (j10 (pv 0) T.mi T.dv (j5x T) (hr.mono (by decide)) (T.F5.b3) .nil j24 (j00 (pv 4) (j00 (pv 2) j01))) (j2z (j10 (pv 0) T.dh T.t5 (j5v T) (hr.mono (by decide)) (T.F7.b3) .nil j24 (j00 (pv 4) (j00 (pv 2) j01))) (j10 (pv 0) T.dm T.m9 (j6x T) (hr.mono (by decide)) (T.F20.b3) .nil j24 (j00 (pv 4) (j00 (pv 2) j01))))))))) (jav rfl (j1m (j0d (i:=6) jaf.nd rfl (by nofun)) (j1m (j0d (i:=7) jaf.nd rfl (by nofun)) j63))) (j04 (j17 (PW.pt (jnl (j0a (jm0 hr) (pv 6) (pv 3) (by with_unfolding_all rfl)) (jdv (j0a jnn (j0b j0t (pv 5) (pv 7)) (j0n oIx (j5c hr (pv 3) (pv 6) (λ_ _=>rfl)) j02 (λ_ _=>rfl)) (j0f _))))) (j04 (jby hr (pv 3) (pv 6) (j1f (j00 (j0b j0t (pv 5) (pv 7)) (j00 (pv 4) j01))) rfl)) j0c))))))
  (j03 (j17 (j0a jno (j06 cLenU (by rfl) T.cr xn (j00 (pv 3) j01)) (jfu (v:=V.int 60) (by rfl) T.oh ⟨_,rfl⟩) (j0f _)) (j04 jau) j0c)
  (j04 (j09 (jim (pv 3))))))),?_⟩⟩
 have mk:∀s,g.ok 31 s->(keyU s).tup=g.T/\s≠.t []:=λs h=>Gm.kd wf h;exists jma g.T λfd H1 u1 n1 q1 d1 e1=>?_;exists r_iU g.T (λh ⟨v,h1,h2⟩=>⟨v,h1,h _ _ h2⟩) ?_;exists⟨d,o,u,kvs,rfl,e1 _ _ hd,du0,for_U du0 (Pv:=λi σ H3=>∃(u1 u2 u3 u4:Option V) (uf:HO) (kf:List (KU×V)) (acc:Row StG),σ=[some (.ref w),some (.ref d),some xv,some (.ref fd),u1,u2,u3,u4]/\Ext H H3/\H3 fd=some uf/\DU uf g.T kf/\RowU H3 kf acc/\Made (srcR g x r) (metR g x (r.take i)) acc) ⟨none,none,none,none,_,[],[],rfl,e1,q1,d1,.nil,⟨y33,λs y hy=>(by cases hy),λs q ⟨e,he,_⟩=>(by cases he)⟩⟩ (λi σ H3 _ h=>by obtain⟨_,_,_,_,_,_,_,_,x,_⟩:=h;exact x _ _ hd) ?_ ?_⟩
 ·rintro i kv sv σ H3 hkv hsv hE;refine spl 12 hE ?_;clear hE;rintro u1 u2 u3 u4 uf kf acc rfl x3 qf df rf ac;obtain⟨s,q,p,b,bv,er,rfl,hq0,hbv⟩:=hR.at i kv hkv;have hmem:=v6 er;obtain⟨oks0,nds⟩:=oks _ hmem;have oks1:g.ok 30 s:=oks0;have ks:=Gm.kd wf oks1;have gs:=j9s nd hmem;have hs3:s.at_ H3 sv:=(j5q ks.2).mp hsv;obtain⟨q',p',b',bv',v1,v2,v3,v4⟩:∃q' p' b' bv',valV kvs (keyU s)=some (.ref q')/\getR r s=some (p',b')/\H q'=some (.tup [.int p',bv'])/\bfV StG.at_ H b' bv':=by
   rcases hR.val j2g s with⟨_,z⟩|z
   ·rw[gs]at z;cases z
   ·exact z
  rw[gs]at v2;cases v2;have et:r.take (i+1)=r.take i++[(s,p,b)]:=by rw[xj,er];rfl
  exists j9b (.inr ⟨o,x3 _ _ hd⟩) du0 ks.1 hsv v1 ?_;exists j4e (x3 _ _ v3) rfl ?_;have hw3:=WoP.mono x3 hw;have hx3:=WsG.mono x3 hx;exists via (P:=λK=>MvQ H3 K g s x) (λK hK=>?_) ?_
  ·cases g with
   |hire W=>
    refine j11 (j4i ?_);obtain⟨dw,hr4⟩:=hw3;symm;exact⟨W,w,_,_,s,x,rfl,⟨dw,hr4⟩,wf,hs3,oks1,nds,hx3,okx,hK⟩
   |line m=>
    refine j11 (j11 (j4i ?_));obtain⟨dw,hr4⟩:=hw3;symm;exact⟨m,w,_,_,s,x,rfl,⟨dw,hr4⟩,wf,hs3,oks1,nds,hx3,okx,hK⟩
   |shelf ts=>
    refine j11 (j11 (j11 (j4i ?_)));obtain⟨dw,fv,hr4⟩:=hw3;symm;exact⟨ts,w,_,_,s,x,rfl,⟨dw,fv,hr4⟩,wf,hs3,oks1,nds,hx3,okx,hK⟩
   |wys m t=>
    refine j11 (j11 (j11 (j11 (j11 ?_))));obtain⟨dw,hr4⟩:=hw3;symm;exact⟨m,t,w,_,_,s,x,rfl,⟨dw,hr4⟩,wf,hs3,oks1,nds,hx3,okx,hK⟩
   |store m=>
    refine j11 (j11 (j11 (j11 (j4i ?_))));obtain⟨dw,hr4⟩:=hw3;symm;exact⟨m,w,_,_,s,x,rfl,⟨dw,hr4⟩,wf,hs3,oks1,nds,hx3,okx,hK⟩
   |bags R=>
    refine j4i ?_;obtain⟨dw,hr4⟩:=hw3;symm;exact⟨R,w,_,_,s,x,rfl,⟨dw,hr4⟩,wf,hs3,oks1,nds,hx3,okx,hK⟩
  intro l ys ps H4 n4 q4 r4 ndp mm e4;have l4:=r4.len;have qf4:=e4 _ _ qf;have nlf:l≠fd:=(j08 qf n4).symm;have hs4:=StG.mono e4 hs3;exists⟨l,rfl,⟨_,SqL.of q4⟩,j2t (xs:=ys) (λj σ H5=>∃(u3 u4:Option V) (uf:HO) (kf:List (KU×V)) (acc:Row StG),σ=[some (.ref w),some (.ref d),some xv,some (.ref fd),some sv,some (.int p),u3,u4]/\But fd H4 H5/\H5 fd=some uf/\DU uf g.T kf/\RowU H5 kf acc/\Made (srcR g x r) (λt q=>metR g x (r.take i) t q\/∃c,(t,c)∈ps.take j/\q=p+c) acc) ⟨_,_,uf,kf,acc,rfl,λb o _ h=>h,qf4,df,j2o (jfm e4) rf,ac.imp λt q h=>h.resolve_right λ⟨c,h,_⟩=>by simp at h⟩ (λj σ H5 _ h=>by obtain⟨_,_,_,_,_,_,b5,_⟩:=h;exact SqL.of (b5 _ _ nlf q4)) ?_ ?_⟩
  ·rintro j y σ H5 hy hE;refine spl 10 hE ?_;clear hE;rintro u3 u4 uf kf acc rfl b5 q5 du r5 a5;obtain⟨⟨m1,m2⟩,ey,cy,av,rfl,gy,ha⟩:=r4.get hy;have tk5:TK H4 H5:=j3z qf4 df b5;have hto:=(mm m1 m2).mp (v6 ey);have hok1:g.ok 31 m1:=Gm.dst_ok oks1 nds okx hto.1;have gy5:=tk5 _ _ gy;have ha5:m1.at_ H5 av:=StG.tk tk5 ha;have em:ps.take (j+1)=ps.take j++[(m1,m2)]:=by rw[xj,ey];rfl
   have a6:=(a5.step (p:=p) (b:=s) (m:=(m1,m2)) ⟨_,hmem,rfl,m2,hto,rfl⟩).imp (met':=λt q=>metR g x (r.take i) t q\/∃c,(t,c)∈ps.take (j+1)/\q=p+c) λt q h=>by
    rcases h with h|⟨c,h,e⟩
    ·exact .inl (.inl h)
    ·rw[em]at h;rcases x0.mp h with h|h
     ·exact .inl (.inr ⟨c,h,e⟩)
     ·have:=yb.mp h;injection this with k1 k2;exact .inr ⟨k1,by rw[e,k2]⟩
   have lk:kf.length<1000000:=by have:=r5.length;have:=jgz a5 hL;omega
   exists r_ninU (.inl q5) du (mk m1 hok1).1 ((j5q (mk m1 hok1).2).mpr ha5) ?_;rcases r5.val j2g m1 with⟨z1,z2⟩|⟨q2,p2,b2,bv2,z1,z2,z3,z4⟩
   ·rw[z1];have es:j9r p s acc (m1,m2)=putR acc m1 (p+m2,some s):=jfj (m:=(m1,m2)) z2;symm;intro tq H6 n6 q6 e6;exists jcq (e6 _ _ q5) du (mk m1 hok1).1 ((j5q (mk m1 hok1).2).mpr (StG.mono e6 ha5)) lk λH7 u7 q7 d7 b7=>?_;have t67:=j3z (e6 _ _ q5) du b7;refine⟨_,_,u7,_,_,rfl,λb o nb hb=>b7 b o nb (e6 b o (b5 b o nb hb)),q7,d7,?_,a6⟩;rw[es];exact RowG.put j2g (j2o ((jfm e6).tr t67) r5) (t67 _ _ q6) (StG.tk t67 (StG.mono e6 (StG.tk tk5 hs4)))
   ·rw[z1];exists j9b (.inl q5) du (mk m1 hok1).1 ((j5q (mk m1 hok1).2).mpr ha5) z1 ?_;exists j4e z3 rfl ?_;exists iteD (λcl=>?_) (λcl=>?_)
    ·have es:j9r p s acc (m1,m2)=putR acc m1 (p+m2,some s):=jdf (m:=(m1,m2)) z2 cl;symm;intro tq H6 n6 q6 e6;exists jcq (e6 _ _ q5) du (mk m1 hok1).1 ((j5q (mk m1 hok1).2).mpr (StG.mono e6 ha5)) lk λH7 u7 q7 d7 b7=>?_;have t67:=j3z (e6 _ _ q5) du b7;refine⟨_,_,u7,_,_,rfl,λb o nb hb=>b7 b o nb (e6 b o (b5 b o nb hb)),q7,d7,?_,a6⟩;rw[es];exact RowG.put j2g (j2o ((jfm e6).tr t67) r5) (t67 _ _ q6) (StG.tk t67 (StG.mono e6 (StG.tk tk5 hs4)))
    ·symm;have es:j9r p s acc (m1,m2)=acc:=jdg (m:=(m1,m2)) z2 cl;rw[es]at a6;exact⟨_,_,uf,kf,acc,rfl,b5,q5,du,r5,a6⟩
  ·rintro σ H5 hE;refine spl 10 hE ?_;clear hE;rintro u3 u4 uf kf acc rfl b5 q5 du r5 a5;rw[<- l4,vk]at a5;refine⟨_,_,_,_,uf,kf,acc,rfl,Ext.but (x3.tr e4) b5 n1,q5,du,r5,a5.imp λt q ⟨e,he,c,ht,hqc⟩=>?_⟩;rw[et]at he;rcases x0.mp he with he|he
   ·exact .inl ⟨e,he,c,ht,hqc⟩
   ·rw[yb.mp he]at ht hqc;exact .inr ⟨c,(mm t c).mpr ht,hqc⟩
 ·rintro σ H3 hE;refine spl 12 hE ?_;clear hE;rintro u1 u2 u3 u4 uf kf acc rfl x3 qf df rf ac;rw[show kvs.length=r.length from hR.length,vk]at ac;have lk:=rf.length;have la:=jgz ac hL;exists r_lenU qf df ?_;exists iteD (λcl=>absurd cl (by omega)) (λ_=>?_);exists jq9 ?_;exists jix qf df λo' H4 q4 b4=>?_;exact hq fd acc H4 n1 ⟨o',uf,kf,q4,df,j2o (j3z qf df b4) rf⟩ ac (Ext.but x3 b4 n1)
def j2r(a:Adr):Sp:=λvs H Q _=>∃(w wl:Addr) (sv:V) (g:Gm) (st:StG) (ws:List WsG) (wvs:List V),vs=[.ref w,sv,.ref wl]/\WoP a H g w/\st.at_ H sv/\H wl=some (.lst wvs)/\AllR (WsG.at_ H) ws wvs/\jfh g st ws/\Fit g st ws/\
 ∀l zs rs H',H l=none->H' l=some (.lst zs)->AllR (RowR H' g) rs zs->ChU g st ws rs->Ext H H'->Q (.ref l) H'
theorem j5y(T:Txt K mg a):FnOk P w K mg base (CXU P w) 7 a.f11 a.d11 ["world","start","wishes"] (j2r a):=by
 refine T.F11.okU1 jj4 λvs H Q E h=>?_;unfold j2r at h;refine spl 14 h ?_;clear h;rintro w wl sv g st ws wvs rfl hw hst hwl hws ⟨wf,ok4,okw,l12⟩ hfit hq;refine⟨rfl,λ_ _ _ _ hr=>⟨_,(j03 (j0j (i:=3) jj4.nd rfl (by nofun) (j0r (j00 (jim (j2z (jkk (jbg (pv 1) (j1f (j00 j02 (j00 j2h j01))) jg3) rfl rfl (List.cons_ne_nil _ _) (by decide)) (jir hr (pv 1) (j1f (j00 j02 (j00 j2h j01)))))) j01)))
  (j03 (j1t vh rfl (j1o (pv 2)) (j0d (i:=4) jj4.nd rfl (by nofun)) (j04 (j25 (jao gn u6 u8 j1e (pv 3) (j00 (j16 (jdk T) hr T.F48 (T.F48.b3) (j00 (pv 0) (j00 (j0n oIx (pv 3) (pe_un jk0 j02) (λ_ _=>rfl)) (j00 (pv 4) j01)))) j01)))))
  (j04 (j09 (pv 3))))),?_⟩⟩
 have kst:=Gm.kd wf ok4;have ndst:=hfit.nd ok4;have lw:=hws.len;exists jq9 ?_;refine jmc g.T λfd H1 u1 n1 q1 d1 e1=>?_;symm;intro tq H2 n2 q2 e2;refine jiy (e2 _ _ q1) d1 kst.1 ((j5q kst.2).mpr (StG.mono (e1.tr e2) hst)) λH3 u3 q3 d3 b3=>?_;refine jix q3 d3 λo H4 q4 b4=>?_;have nf:H fd=none:=n1;have x2:Ext H H2:=e1.tr e2;have x4:Ext H H4:=Ext.but (Ext.but x2 b3 nf) b4 nf;have q24:H4 tq=some (.tup [.int 0,.non]):=j3z q3 d3 b4 _ _ (j3z (e2 _ _ q1) d1 b3 _ _ q2);have r4:RowU H4 [(keyU st,.ref tq)] [(st,0,none)]:=.cons (key:=keyU) (s:=st) q24 rfl .nil;symm;intro l H5 n5 q5 e5;have nl:H l=none:=x4.free n5;exists⟨wl,rfl,⟨_,SqL.of ((x4.tr e5) _ _ hwl)⟩,j2t (xs:=wvs) (λi σ H6=>∃(u:Option V) (zs:List V) (d:Addr) (rs:List (Row StG)) (r:Row StG),σ=[some (.ref w),some sv,some (.ref wl),some (.ref l),u]/\Ext H H6/\H6 l=some (.lst (zs++[V.ref d]))/\AllR (RowR H6 g) (rs++[r]) (zs++[V.ref d])/\RowF H6 g d r/\ChU g st (ws.take i) (rs++[r])) ⟨none,[],fd,[],[(st,(0:Int),(none:Option StG))],rfl,x4.tr e5,q5,(show AllR (RowR H5 g) [[(st,(0:Int),(none:Option StG))]] [V.ref fd] from⟨⟨fd,rfl,RowF.ext e5 ⟨o,u3,_,q4,d3,r4⟩⟩,trivial⟩),RowF.ext e5 ⟨o,u3,_,q4,d3,r4⟩,.nil⟩ (λi σ H6 _ h=>by obtain⟨_,_,_,_,_,_,x,_⟩:=h;exact SqL.of (x _ _ hwl)) ?_ ?_⟩
 ·rintro i xv σ H6 hy hE;refine spl 10 hE ?_;clear hE;rintro u zs d rs r rfl x6 q6 r6 f6 c6;obtain⟨x,ex,hx⟩:=hws.get hy;have hi:i<ws.length:=(yw.mp ex).1;have okx:=okw x (v6 ex);obtain⟨le,each⟩:=c6.each;have lt:(ws.take i).length=i:=by rw[yn];omega
  have lrs:rs.length=i:=by simp[lt]at le;omega
  obtain⟨ndr,hrc⟩:=each rs.length r (by rw[yp (yg _),uq];rfl);rw[lrs,List.take_take,yd0]at hrc;have et:ws.take (i+1)=ws.take i++[x]:=by rw[xj,ex];rfl
  obtain⟨L,L60,hL⟩:=jde (ws:=ws.take (i+1)) (us:=ws.drop (i+1)) wf ok4 (by rw[gu];exact okw) (by rw[gu];exact hfit);have lz:=r6.len;exists j0g q6 (jh0 zs _) ?_;exists⟨w,d,xv,g,r,x,L,rfl,WoP.mono x6 hw,wf,f6,ndr,λe he=>?_,WsG.mono x6 hx,okx,L60,λe he s hs=>hL s ?_,λd' r' H7 n7 f7 nx e7=>?_⟩
  ·obtain⟨k1,k2⟩:=(hrc e he).ok ok4 ndst λy hy=>okw y (vd hy);exact⟨Gm.ok_mono k1 (by omega),k2⟩
  ·rw[et];exact .snoc (hrc e he) hs
  have q67:=e7 _ _ q6;have lzz:(zs++[V.ref d]).length<=13:=by rw[<- lz,xa,lrs,ub];omega
  exists j1q q67 (by omega) λH8 q8 b8=>?_;have tkL:=jgw q67 b8;have fk:∀b o u,H7 b=some (.frz o u)->H8 b=some (.frz o u):=λb o u h=>b8 b _ (λz=>by rw[z,q67]at h;cases h) h;symm;have f8:=f7.mono fk tkL;refine⟨_,zs++[.ref d],d',rs++[r],r',rfl,Ext.but (x6.tr e7) b8 nl,q8,AllR.snoc ⟨d',rfl,f8⟩ (r6.imp λ⟨d0,h1,h2⟩=>⟨d0,h1,(h2.ext e7).mono fk tkL⟩),f8,?_⟩;rw[et];exact .snoc c6 nx
 ·rintro σ H6 hE;refine spl 10 hE ?_;clear hE;rintro u zs d rs r rfl x6 q6 r6 f6 c6;rw[<- lw,vk]at c6;symm;exact hq l _ _ H6 nl q6 r6 c6 x6
def j1x:Sp:=λvs H Q _=>∃(d:Addr) (g:Gm) (r:Row StG),vs=[.ref d]/\RowF H g d r/\g.wf/\(r.map (·.1)).Nodup/\(∀e∈r,g.ok 30 e.1)/\r.length<=60/\
 ∀l zs ps H',H l=none->H' l=some (.lst zs)->PsAt H' ps zs->Told r ps->Ext H H'->Q (.ref l) H'
theorem j41(T:Txt K mg a):FnOk P w K mg base (CXU P w) 1 a.f_z0 a.d_z0 ["row"] (j1x):=by
 refine T.F0.okU1 sc0 λvs H Q E h=>?_;unfold j1x at h;refine spl 9 h ?_;clear h;rintro d g r rfl ⟨o,u,kvs,hd,du,hR⟩ wf nd oks l60 hq;refine⟨rfl,λ_ _ _ _ hr=>⟨_,(j04 (j09 (j06 (cSoW hr) (by rfl) T.cj xu (j00 (j15 (["state"]:List Str) (["row"]:List Str) [0] rfl ⟨rfl,by decide +kernel,by decide +kernel,by rfl,⟨⟨rfl,by nofun,by nofun⟩,trivial⟩⟩ (jm7 (pi_dK (pv 0)) (pi_dT (pv 0))) (λ_ _ _ _=>⟨(j0d (i:=0) (by show((["state"]:List Str)++(["row"]:List Str)).Nodup;decide +kernel) rfl (by nofun)),(show PTs _ [] [] from trivial),(j1f (j00 (pv 0) (j00 (j0n oIx (j5c hr (pv 1) (pv 0) (λ_ _=>rfl)) j02 (λ_ _=>rfl)) j01)))⟩)) j01)))),?_⟩⟩;have lr:=hR.length;exists r_iU g.T (λh ⟨v,h1,h2⟩=>⟨v,h1,h _ _ h2⟩) ?_;exists⟨d,o,u,kvs,rfl,hd,du,λacc hn _ _ _ _=>comp_U du hd (by omega) hn (λj ys H2=>PsAt H2 (jjf (r.take j)) ys) trivial (λ_ _ _ _ k h=>h.keep k) (λj ys H' _ h=>by have:=AllR.len h;rw[jjf,y3,yn]at this;omega) ?_ ?_⟩
 ·rintro j kv sv ys H2 hkv hsv e hp Y N hY hN;obtain⟨s,q,p,b,bv,er,rfl,hq0,hbv⟩:=hR.at j kv hkv;have hmem:=v6 er;have ks:=Gm.kd wf (show g.ok 30 s from oks _ hmem);have gs:=j9s nd hmem;obtain⟨q',p',b',bv',v1,v2,v3,v4⟩:∃q' p' b' bv',valV kvs (keyU s)=some (.ref q')/\getR r s=some (p',b')/\H q'=some (.tup [.int p',bv'])/\bfV StG.at_ H b' bv':=by
   rcases hR.val j2g s with⟨_,z⟩|z
   ·rw[gs]at z;cases z
   ·exact z
  rw[gs]at v2;cases v2;exists j9b (.inr ⟨o,e _ _ hd⟩) du ks.1 hsv v1 ?_;exists j4e (e _ _ v3) rfl ?_;symm;intro t H3 n3 q3 e3;refine hY _ _ e3 ?_;rw[xj,er];show PsAt H3 (jjf (r.take j++[(s,p,b)])) _;rw[jjf,xh];exact AllR.snoc ⟨t,sv,rfl,q3,StG.mono e3 ((j5q ks.2).mp hsv)⟩ (hp.keep e3.kp)
 ·rintro ys H2 e2 ha hp;rw[lr,vk]at hp;have ly:=AllR.len hp;rw[jjf,y3]at ly;exists jn8 (P:=g.ok 30) ha hp (by rw[jjf,xx];exact nd) (λx hx=>?_) (g.one 30) (by omega) λl zs qs H3 n3 q3 p3 pm rs e3=>?_
  ·obtain⟨e,he,rfl⟩:=yk.mp hx;exact oks e he
  ·refine hq l zs qs H3 (e2.free n3) q3 p3 ⟨rs,λs c=>?_⟩ (e2.tr e3);rw[pm.mem_iff,jjf,yk];constructor
   ·rintro⟨e,he,k⟩;injection k with k1 k2;exact⟨e.2.2,by rw[<- k1,<- k2];exact he⟩
   ·rintro⟨b,hb⟩;exact⟨_,hb,rfl⟩
theorem ChU.tab{g:Gm}{st:StG}{ws:List WsG}{R:List (Row StG)}(h:ChU g st ws R):∀{T:List (List (StG×Int))},T.length=R.length->(∀(j:Nat) r p,R[j]?=some r->T[j]?=some p->Told r p)->TabU g st ws T:=by
 induction h with
 |nil=>
  intro T l h;obtain⟨p,rfl⟩:∃p,T=[p]:=by
   cases T with
   |nil=>simp at l
   |cons p T=>cases T with
    |nil=>exact⟨p,rfl⟩
    |cons q T=>simp at l
  have k:=h 0 _ p rfl rfl;have e:p=[(st,0)]:=k.1.uniq (y6y _ _) λs c=>by
   rw[k.2];simp only[yb,ycq];exact⟨λ⟨b,h1,h2,_⟩=>⟨h1,h2⟩,λ⟨h1,h2⟩=>⟨none,h1,h2,rfl⟩⟩
  rw[e];exact .nil
 | @snoc ws w rs r r' h1 h2 ih=>
  intro T l h;obtain⟨ts,p,q,rfl⟩:∃ts p q,T=ts++[p]++[q]:=by
   rcases y1l T with rfl|⟨T1,q,e⟩
   ·simp at l
   ·rcases y1l T1 with rfl|⟨T2,p,e2⟩
    ·rw[e]at l;simp at l
    ·exact⟨T2,p,q,by rw[e,e2,y1k,y1k]⟩
  have l2:ts.length=rs.length:=by simp at l;omega
  refine .snoc (ih (by simp[l2]) λj r0 p0 e1 e2=>h j r0 p0 ?_ ?_) ((h rs.length r p ?_ ?_).next (h (rs.length+1) r' q ?_ ?_) h2)
  ·rw[yv (yw.mp e1).1];exact e1
  ·rw[yv (yw.mp e2).1];exact e2
  ·rw[yv (by simp),yp (yg _),uq];rfl
  ·rw[<- l2,yv (by simp),yp (yg _),uq];rfl
  ·rw[yp (by simp)];simp
  ·rw[<- l2,yp (by simp)];simp
def jdl(a:Adr):Sp:=λvs H Q _=>∃(w wl:Addr) (sv:V) (g:Gm) (st:StG) (ws:List WsG) (wvs:List V),vs=[.ref w,sv,.ref wl]/\WoP a H g w/\st.at_ H sv/\H wl=some (.lst wvs)/\AllR (WsG.at_ H) ws wvs/\jfh g st ws/\Fit g st ws/\
 ∀l vs' ts H',H l=none->H' l=some (.lst vs')->AllR (LsF H H') ts vs'->TabU g st ws ts->Ext H H'->Q (.ref l) H'
theorem j87(T:Txt K mg a):FnOk P w K mg base (CXU P w) 8 a.f52 a.d52 ["world","start","wishes"] (jdl a):=by
 refine T.F52.okU1 sc52 λvs H Q E h=>?_;unfold jdl at h;refine spl 14 h ?_;clear h;rintro w wl sv g st ws wvs rfl hw hst hwl hws gok hfit hq;refine⟨rfl,λ_ _ _ _ hr=>⟨_,(j04 (j09 (j15 (["row"]:List Str) ([]:List Str) [] rfl ⟨rfl,by decide +kernel,by decide +kernel,by rfl,trivial⟩ (j1o (j16 (j5y T) hr T.F11 (T.F11.b3) (j00 (pv 0) (j00 (pv 1) (j00 (pv 2) j01))))) (λ_ _ _ _=>⟨(j0d (i:=0) (by show((["row"]:List Str)++([]:List Str)).Nodup;decide +kernel) rfl (by nofun)),(show PTs _ [] [] from trivial),(j16 (j41 T) hr T.F0 (T.F0.b1) (j00 (pv 0) j01))⟩)))),?_⟩⟩;obtain⟨wf,ok4,okw,l12⟩:=gok;have ndst:=hfit.nd ok4;exists⟨w,wl,sv,g,st,ws,wvs,rfl,hw,hst,hwl,hws,⟨wf,ok4,okw,l12⟩,hfit,λl zs rs H1 n1 q1 r1 c1 e1=>?_⟩;obtain⟨le,each⟩:=c1.each;have lz:=r1.len;refine⟨l,rfl,⟨_,SqL.of q1⟩,λacc hn _ _ _ _=>j1s (SqL.of q1) (by omega) hn (λj ys H2=>∃ts,AllR (LsF H H2) ts ys/\ts.length=j/\∀(i:Nat) r p,rs[i]?=some r->ts[i]?=some p->Told r p) ⟨[],trivial,rfl,λi r p _ h=>by simp at h⟩ (λ_ _ _ _ k ⟨ts,h1,h2⟩=>⟨ts,h1.imp λh=>h.keep k,h2⟩) (λj ys H' _ ⟨ts,h1,h2,_⟩=>by have:=h1.len;omega) ?_ ?_⟩
 ·rintro j y ys H2 hy e ⟨ts,h1,h2,h3⟩ Y N hY hN;obtain⟨r,er,d,rfl,hF⟩:=r1.get hy;have hj:j<rs.length:=(yw.mp er).1;obtain⟨ndr,hrc⟩:=each j r er;obtain⟨L,L60,hL⟩:=jde (ws:=ws.take j) (us:=ws.drop j) wf ok4 (by rw[gu];exact okw) (by rw[gu];exact hfit);have l60:r.length<=60:=by
   have:=jdb ndr (m:=L) λs hs=>by
    obtain⟨e,he,rfl⟩:=yk.mp hs;exact hL _ (hrc e he)
   rw[y3]at this;omega
  exists⟨d,g,r,rfl,hF.ext e,wf,ndr,λe he=>?_,l60,λp xs ps H3 n3 q3 p3 tl e3=>?_⟩
  ·refine Gm.ok_mono ((hrc e he).ok ok4 ndst λy hy=>okw y (vd hy)).1 ?_;rw[yn];omega
  refine hY _ _ e3 ⟨ts++[ps],AllR.snoc ⟨p,xs,rfl,(e1.tr e).free n3,q3,p3⟩ (h1.imp λh=>h.keep e3.kp),by simp[h2],λi r' p' k1 k2=>?_⟩;by_cases z:i<ts.length
  ·rw[yv z]at k2;exact h3 i r' p' k1 k2
  ·obtain rfl:i=ts.length:=by have:=(yw.mp k2).1;simp at this;omega
   rw[yp (yg _),uq]at k2;cases(gf k2:ps=p');rw[h2,er]at k1;cases k1;exact tl
 ·rintro ys H2 e2 ha ⟨ts,h1,h2,h3⟩;exact hq acc ys ts H2 (e1.free hn) ha h1 (c1.tab (by omega) h3) (e1.tr e2)
def j42(a:Adr):Sp:=λvs H Q _=>∃x dx v,vs=[.ref x,v]/\H x=some (.ins a.cv dx [])/\∀H',H' x=some (.ins a.cv dx [("whole",v)])->But x H H'->Q .non H'
theorem j43(T:Txt K mg a):FnOk P w K mg base (CXU P w) 1 a.f29 a.d29 ["self","whole"] (j42 a):=by
 refine T.F29.okU1 sc29 λvs H Q E h=>?_;unfold j42 at h;refine spl 5 h ?_;clear h;rintro x dx v rfl hx hq;have zc_Hire:=T.ml;have oj:=T.de;refine⟨rfl,λ_ _ _ _ hr=>⟨_,(j04 (j7k (pv 0) (pv 1) rfl)),?_⟩⟩;exists jhp hx T.ml T.de (j7r rfl) λH' h1 h2=>?_;exact hq H' h1 h2
def IsPut:Gm->StG->WsG->Prop
 | .line _,.l b,.i w=>w∉b
 | .store _,.t b,.s w=>w∉b
 | .bags _,_,_=>True
 |_,_,_=>False
theorem jjh(nd:ss.Nodup)(h:k<ss.length):(ss.take k++ss.drop (k+1)).Perm (ss.filter λt=>!decide (t=ss.getD k ⟨#[]⟩)):=by
 have e:ss=ss.take k++ss.getD k ⟨#[]⟩ :: ss.drop (k+1):=by
  rw[yd,y4 h,y3e,<- y69 h,gu]
 generalize ss.getD k ⟨#[]⟩=x at *;generalize ss.take k=A at *;generalize ss.drop (k+1)=B at *;subst e;obtain⟨n1,n2,n3⟩:=y2s.mp nd;obtain⟨n4,n5⟩:=uh.mp n2;rw[gz,xz,if_neg (by simp),y8z.mpr λt ht=>?_,y8z.mpr λt ht=>?_]
 ·have:t≠x:=λz=>n4 (z ▸ ht);simp[this]
 ·have:t≠x:=λz=>n3 t ht x yu z;simp[this]
def j2s:Sp:=λus H Q _=>∃(gl:Addr) (g:Gm) (st:StG) (ws:List WsG) (b:StG) (w:WsG) (bv wv:V) (n:Nat),us=[bv,wv,.ref gl]/\GameV H gl g st ws/\g.wf/\b.at_ H bv/\w.at_ H wv/\g.ok n b/\g.nd b/\g.okW w/\n<=40/\IsPut g b w/\∀l vs as H',H' l=some (.lst vs)->AllR (StG.at_ H') as vs->as.length<=60->(∀s,s∈as↔g.dst b w s)->Ext H H'->Q (.ref l) H'
theorem j5z(T:Txt K mg a):FnOk P w K mg base (CXU P w) 1 a.f10 a.d10 ["_law_before","_law_wish","_law_game_here"] (j2s):=by
 refine T.F10.okU1 jfa λvs H Q E h=>?_;unfold j2s at h;refine spl 12 h ?_;clear h;rintro gl g st ws b w bv wv n rfl ⟨gv,sv,wl,wvs,hg,hpv,_⟩ hwf h;refine spl 7 h ?_;clear h;rintro hb hw okb ndb okw n40 isp hq;refine⟨rfl,λ_ _ _ _ hr=>⟨_,(j03 (j0j (i:=3) jfa.nd rfl (by nofun) (j0r j01))
  (j03 (j1t vh rfl (j0k rfl T.c8 (j00 (j06 j2e (by rfl) T.cr xn (j00 (pv 0) j01)) j01)) (j0d (i:=4) jfa.nd rfl (by nofun)) (j03 (j0j (i:=5) jfa.nd rfl (by nofun) (j0b j0t (j0s oSlV (pv 0) j18 (j0z (pv 4))) (j0s oSlV (pv 0) (j0z (j0b j0t (pv 4) j02)) j18)))
  (j04 (j17 (j0a jh7 (j0n oIx (pv 2) j02 (λ_ _=>rfl)) j02 (j0f _)) (j04 (j25 (jao gn u6 u8 j1e (pv 3) (j00 (j0e j2d (by rfl) T.dc xq (j00 (j06 j3h (by rfl) T.cj xu (j00 (j0b j0t (pv 5) (j1f (j00 (pv 1) j01))) j01)) j01)) j01)))) (j04 (j17 (j0a oLeW (j0b j0t (j0n oIx (pv 0) (pv 4) (λ_ _=>rfl)) (pv 1)) (j0n oIx (pv 2) j02 (λ_ _=>rfl)) (j0f _)) (j04 (j25 (jao gn u6 u8 j1e (pv 3) (j00 (j0e j2d (by rfl) T.dc xq (j00 (j06 j3h (by rfl) T.cj xu (j00 (j0b j0t (pv 5) (j1f (j00 (j0b j0t (j0n oIx (pv 0) (pv 4) (λ_ _=>rfl)) (pv 1)) j01))) j01)) j01)) j01)))) j0c))))))
  (j03 (j17 (j0a (oEq hr) (j0n oIx (pv 2) j02 (λ_ _=>rfl)) j02 (j0f _)) (j04 (j25 (jao gn u6 u8 j1e (pv 3) (j00 (j0e j2d (by rfl) T.dc xq (j00 (j06 j3h (by rfl) T.cj xu (j00 (j0b j0t (pv 0) (j1f (j00 (pv 1) j01))) j01)) j01)) j01)))) j0c)
  (j04 (j09 (pv 3)))))),?_⟩⟩
 cases g with
 |hire W=>exact(show False by cases b<;>cases w<;>exact isp).elim
 |shelf W=>exact(show False by cases b<;>cases w<;>exact isp).elim
 |wys W t=>exact(show False by cases b<;>cases w<;>exact isp).elim
 |line m=>
  have hg':H gl=some (.lst [.int 1,gv,sv,.ref wl]):=hg;obtain⟨z,rfl⟩:=okw;obtain rfl:wv=.int z:=hw;obtain⟨bs,rfl,lb⟩:=okb;obtain⟨bp,rfl,hbp⟩:=hb;obtain⟨m1,m3⟩:=hwf;symm;intro l1 H1 n1 q1 e1;exists j1a (e1 _ _ hbp) ?_;rw[y3];exists⟨_,rfl,by omega,by omega,j12 (λi σ H2=>∃(u1 u2:Option V) (vs:List V) (as:List StG),σ=[some (.ref bp),some (.int z),some (.ref gl),some (.ref l1),u1,u2]/\Ext H H2/\H2 l1=some (.lst vs)/\AllR (StG.at_ H2) as vs/\as.length=i/\∀s,s∈as↔∃k ms,k<i/\s=.l ms/\Sent bs k z ms) ⟨none,none,[],[],rfl,e1,q1,trivial,rfl,λs=>⟨λh=>(by cases h),λ⟨k,_,hk,_⟩=>by omega⟩⟩ ?_ ?_⟩
  ·rintro kk σ H2 hi hE;refine spl 9 hE ?_;clear hE;rintro u1 u2 vs as rfl x2 q2 has la oka;have hkk:kk<bs.length:=by omega
   have hb2:=x2 _ _ hbp;rw[show((0:Int)+(kk:Nat))=(kk:Nat) by omega];have i1:=j0x (ns:=bs) (k:=(kk:Nat)) (by omega) (by omega);rw[yq]at i1;exists j94 hb2 λl3 H3 q3 e3=>?_;rw[j5m (by omega)]at q3;have hb3:=e3 _ _ hb2;exists j94 hb3 λl4 H4 q4 e4=>?_;rw[show(some ((kk:Int)+1))=some ((kk+1:Nat):Int)from by rw[y2h];rfl,j5l (by omega)]at q4;exists j14 (e4 _ _ q3) q4 (by simp;omega) λl5 H5 q5 e5=>?_;rw[<- xh]at q5;have x25:=e3.tr (e4.tr e5);have hg5:=(x2.tr x25) _ _ hg';have hb5:=x25 _ _ hb2;exists j0g hg5 rfl ?_;symm;intro l6 H6 n6 q6 e6;exists j14 (zs:=[z].map V.int) (e6 _ _ q5) q6 (by simp;omega) λl7 H7 q7 e7=>?_;rw[<- xh]at q7;exists j6k q7 (by simp;omega) λl8 ms H8 n8 p8 s8 q8 e8=>?_;exists j0w q8 λl9 H9 n9 q9 e9=>?_;have x9:=x25.tr (e6.tr (e7.tr (e8.tr e9)));have g9:=x9 _ _ q2;have lv:=has.len;exists j1q g9 (by omega) λH10 q10 b10=>?_;exists⟨_,_,_,as++[.l ms],rfl,Ext.but (x2.tr x9) b10 n1,q10,(AllR.snoc (f:=StG.at_ H9) (show StG.at_ H9 (.l ms) (.ref l9)from⟨l9,rfl,q9⟩) (has.imp λk=>StG.mono x9 k)).imp λk=>StG.but g9 b10 k,by simp[la],λs=>?_⟩;have sn:Sent bs kk z ms:=⟨p8.trans (perm3 _ _ _),s8⟩
   rw[x0,yb,oka];constructor
   ·rintro(⟨k,M,hk,q⟩|q)
    ·exact⟨k,M,by omega,q⟩
    ·exact⟨kk,ms,by omega,q,sn⟩
   ·rintro⟨k,M,hk,q,hs⟩;by_cases y:k<kk
    ·exact .inl ⟨k,M,y,q,hs⟩
    ·obtain rfl:k=kk:=(by omega);exact .inr (by rw[q,hs.same sn])
  ·rintro σ H2 hE;refine spl 9 hE ?_;clear hE;rintro u1 u2 vs as rfl x2 q2 has la oka;exists j0g (x2 _ _ hg') rfl ?_;exists hq l1 vs as H2 q2 has (by omega) (λs=>?_) x2;rw[oka];constructor
   ·rintro⟨k,M,hk,q,hs⟩;exact⟨M,q,.inr ⟨isp,k,by omega,hs⟩⟩
   ·rintro⟨M,q,⟨y,_⟩|⟨_,k,hk,hs⟩⟩
    ·exact absurd y isp
    ·exact⟨k,M,by omega,q,hs⟩
 |store m=>
  have hg':H gl=some (.lst [.int 4,gv,sv,.ref wl]):=hg;obtain⟨z,rfl,hz⟩:=okw;obtain rfl:wv=.str z:=hw;obtain⟨bs,rfl,lb,nb⟩:=okb;obtain⟨bp,rfl,hbp⟩:=hb;obtain⟨m1,m3⟩:=hwf;symm;intro l1 H1 n1 q1 e1;exists j1a (e1 _ _ hbp) ?_;rw[y3];exists⟨_,rfl,by omega,by omega,j12 (λi σ H2=>∃(u1 u2:Option V) (vs:List V) (as:List StG),σ=[some (.ref bp),some (.str z),some (.ref gl),some (.ref l1),u1,u2]/\Ext H H2/\H2 l1=some (.lst vs)/\AllR (StG.at_ H2) as vs/\as.length=i/\∀s,s∈as↔∃k ms,k<i/\s=.t ms/\Swp bs (bs.getD k ⟨#[]⟩) z ms) ⟨none,none,[],[],rfl,e1,q1,trivial,rfl,λs=>⟨λh=>(by cases h),λ⟨k,_,hk,_⟩=>by omega⟩⟩ ?_ ?_⟩
  ·rintro kk σ H2 hi hE;refine spl 9 hE ?_;clear hE;rintro u1 u2 vs as rfl x2 q2 has la oka;have hkk:kk<bs.length:=by omega
   have hb2:=x2 _ _ hbp;rw[show((0:Int)+(kk:Nat))=(kk:Nat) by omega];exists j94 hb2 λl3 H3 q3 e3=>?_;rw[jfg (by omega)]at q3;have hb3:=e3 _ _ hb2;exists j94 hb3 λl4 H4 q4 e4=>?_;rw[show(some ((kk:Int)+1))=some ((kk+1:Nat):Int)from by rw[y2h];rfl,j5n (by omega)]at q4;exists j14 (e4 _ _ q3) q4 (by simp;omega) λl5 H5 q5 e5=>?_;rw[<- xh]at q5;have x25:=e3.tr (e4.tr e5);exists j0g ((x2.tr x25) _ _ hg') rfl ?_;symm;intro l6 H6 n6 q6 e6;exists j14 (zs:=[z].map V.str) (e6 _ _ q5) q6 (by simp;omega) λl7 H7 q7 e7=>?_;rw[<- xh]at q7;exists jhz q7 (by simp;omega) λl8 ms H8 n8 p8 s8 q8 e8=>?_;exists j0w q8 λl9 H9 n9 q9 e9=>?_;have x9:=x25.tr (e6.tr (e7.tr (e8.tr e9)));have g9:=x9 _ _ q2;have lv:=has.len;exists j1q g9 (by omega) λH10 q10 b10=>?_;exists⟨_,_,_,as++[.t ms],rfl,Ext.but (x2.tr x9) b10 n1,q10,(AllR.snoc (f:=StG.at_ H9) (show StG.at_ H9 (.t ms) (.ref l9)from⟨l9,rfl,q9⟩) (has.imp λk=>StG.mono x9 k)).imp λk=>StG.but g9 b10 k,by simp[la],λs=>?_⟩;have sn:Swp bs (bs.getD kk ⟨#[]⟩) z ms:=⟨p8.trans ((jjh ndb hkk).append_right _),s8⟩
   rw[x0,yb,oka];constructor
   ·rintro(⟨k,M,hk,q⟩|q)
    ·exact⟨k,M,by omega,q⟩
    ·exact⟨kk,ms,by omega,q,sn⟩
   ·rintro⟨k,M,hk,q,hs⟩;by_cases y:k<kk
    ·exact .inl ⟨k,M,y,q,hs⟩
    ·obtain rfl:k=kk:=(by omega);exact .inr (by rw[q,hs.uniq sn])
  ·rintro σ H2 hE;refine spl 9 hE ?_;clear hE;rintro u1 u2 vs as rfl x2 q2 has la oka;exists j0g (x2 _ _ hg') rfl ?_;exists hq l1 vs as H2 q2 has (by omega) (λs=>?_) x2;rw[oka];constructor
   ·rintro⟨k,M,hk,q,hs⟩;exact⟨M,q,.inr ⟨isp,_,j4w (by omega),hs⟩⟩
   ·rintro⟨M,q,⟨y,_⟩|⟨_,g,hg,hs⟩⟩
    ·exact absurd y isp
    ·obtain⟨k,hk,rfl⟩:=vc hg;exact⟨k,M,by omega,q,by rw[yd,y4 hk];exact hs⟩
 |bags R=>
  have hg':H gl=some (.lst [.int 5,gv,sv,.ref wl]):=hg;obtain rfl:gv=.int R:=hpv;obtain⟨z,rfl,z1,z2⟩:=okw;obtain rfl:wv=.int z:=hw;obtain⟨bs,rfl,hL,lb⟩:=okb;obtain⟨bp,rfl,hbp⟩:=hb;symm;intro l1 H1 n1 q1 e1;exists j1a (e1 _ _ hbp) ?_;rw[y3];exists⟨_,rfl,by omega,by omega,j12 (λi σ H2=>∃(u1 u2:Option V) (vs:List V) (as:List StG),σ=[some (.ref bp),some (.int z),some (.ref gl),some (.ref l1),u1,u2]/\Ext H H2/\H2 l1=some (.lst vs)/\AllR (StG.at_ H2) as vs/\as.length<=i/\∀s,s∈as↔∃k ms,k<i/\s=.l ms/\bs.getD k 0+z<=R/\ms.Perm (bs.set k (bs.getD k 0+z))/\ms.Pairwise (·<=·)) ⟨none,none,[],[],rfl,e1,q1,trivial,yg _,λs=>⟨λh=>(by cases h),λ⟨k,_,hk,_⟩=>by omega⟩⟩ ?_ ?_⟩
  ·rintro kk σ H2 hi hE;refine spl 9 hE ?_;clear hE;rintro u1 u2 vs as rfl x2 q2 has la oka;have hkk:kk<bs.length:=by omega
   have hb2:=x2 _ _ hbp;rw[show((0:Int)+(kk:Nat))=(kk:Nat) by omega];have i1:=j0x (ns:=bs) (k:=(kk:Nat)) (by omega) (by omega);rw[yq]at i1;exists j94 hb2 λl3 H3 q3 e3=>?_;rw[j5m (by omega)]at q3;have hb3:=e3 _ _ hb2;exists j94 hb3 λl4 H4 q4 e4=>?_;rw[show(some ((kk:Int)+1))=some ((kk+1:Nat):Int)from by rw[y2h];rfl,j5l (by omega)]at q4;exists j14 (e4 _ _ q3) q4 (by simp;omega) λl5 H5 q5 e5=>?_;rw[<- xh]at q5;have x25:=e3.tr (e4.tr e5);have hg5:=(x2.tr x25) _ _ hg';have hb5:=x25 _ _ hb2;exists j0g hg5 rfl ?_;exists j4e hb5 i1 ?_;exists j0g hg5 rfl ?_;exists iteD (λcR=>?_) (λcR=>?_)
   ·exists j4e hb5 i1 ?_;symm;intro l6 H6 n6 q6 e6;exists j14 (zs:=[bs.getD kk 0+z].map V.int) (e6 _ _ q5) q6 (by simp;omega) λl7 H7 q7 e7=>?_;rw[<- xh]at q7;exists j6k q7 (by simp;omega) λl8 ms H8 n8 p8 s8 q8 e8=>?_;exists j0w q8 λl9 H9 n9 q9 e9=>?_;have x9:=x25.tr (e6.tr (e7.tr (e8.tr e9)));have g9:=x9 _ _ q2;have lv:=has.len;exists j1q g9 (by omega) λH10 q10 b10=>?_;exists⟨_,_,_,as++[.l ms],rfl,Ext.but (x2.tr x9) b10 n1,q10,(AllR.snoc (f:=StG.at_ H9) (show StG.at_ H9 (.l ms) (.ref l9)from⟨l9,rfl,q9⟩) (has.imp λk=>StG.mono x9 k)).imp λk=>StG.but g9 b10 k,by simp;omega,λs=>?_⟩;have sn:=p8.trans (jgq hkk);rw[x0,yb,oka];constructor
    ·rintro(⟨k,M,hk,q⟩|q)
     ·exact⟨k,M,by omega,q⟩
     ·exact⟨kk,ms,by omega,q,cR,sn,s8⟩
    ·rintro hE;refine spl 6 hE ?_;clear hE;rintro k M hk q hR pM sM;by_cases y:k<kk
     ·exact .inl ⟨k,M,y,q,hR,pM,sM⟩
     ·obtain rfl:k=kk:=(by omega);exact .inr (by rw[q,j0u (pM.trans sn.symm) sM s8])
   ·exists⟨_,_,vs,as,rfl,x2.tr x25,x25 _ _ q2,has.imp λk=>StG.mono x25 k,by omega,λs=>?_⟩;rw[oka];constructor
    ·rintro⟨k,M,hk,q⟩;exact⟨k,M,by omega,q⟩
    ·rintro hE;refine spl 5 hE ?_;clear hE;rintro k M hk q hR y;by_cases y':k<kk
     ·exact⟨k,M,y',q,hR,y⟩
     ·obtain rfl:k=kk:=(by omega);exact absurd hR cR
  ·rintro σ H2 hE;refine spl 9 hE ?_;clear hE;rintro u1 u2 vs as rfl x2 q2 has la oka;exists j0g (x2 _ _ hg') rfl ?_;symm;intro l3 H3 n3 q3 e3;exists j14 (zs:=[z].map V.int) ((x2.tr e3) _ _ hbp) q3 (by simp;omega) λl4 H4 q4 e4=>?_;rw[<- xh]at q4;exists j6k q4 (by simp;omega) λl5 ms H5 n5 p5 s5 q5 e5=>?_;exists j0w q5 λl6 H6 n6 q6 e6=>?_;have x6:=e3.tr (e4.tr (e5.tr e6));have g6:=x6 _ _ q2;have lv:=has.len;exists j1q g6 (by omega) λH7 q7 b7=>?_;exists hq l1 _ (as++[.l ms]) H7 q7 ((AllR.snoc (f:=StG.at_ H6) (show StG.at_ H6 (.l ms) (.ref l6)from⟨l6,rfl,q6⟩) (has.imp λk=>StG.mono x6 k)).imp λk=>StG.but g6 b7 k) (by simp;omega) (λs=>?_) (Ext.but (x2.tr x6) b7 n1);rw[x0,yb,oka];constructor
   ·rintro(⟨k,M,hk,q,hR,pM,sM⟩|q)
    ·exact⟨M,0,q,sM,.inr ⟨rfl,k,by omega,hR,pM⟩⟩
    ·exact⟨ms,1,q,s5,.inl ⟨rfl,p5⟩⟩
   ·rintro⟨M,pr,q,sM,⟨_,pM⟩|⟨_,k,hk,hR,pM⟩⟩
    ·exact .inr (by rw[q,j0u (pM.trans p5.symm) sM s5])
    ·exact .inl ⟨k,M,by omega,q,hR,pM,sM⟩
def fct:Nat->Nat
 |0=>1
 |n+1=>(n+1)*fct n
def j1b(n:Nat):Sp:=λus H Q _=>∃(p:Addr) (ss:List Str),us=[.ref p]/\H p=some (.tup (ss.map V.str))/\ss.length<=n/\n<=4/\∀l vs (Ls:List (List Str)) H',H l=none->H' l=some (.lst vs)->RefsHT H' vs Ls->(∀L,L∈Ls↔L.Perm ss)->Ls.length=fct ss.length->Ext H H'->Q (.ref l) H'
theorem jdm(h:k<ss.length):(ss.getD k ⟨#[]⟩ :: (ss.take k++ss.drop (k+1))).Perm ss:=by
 have e:ss=ss.take k++ss.getD k ⟨#[]⟩ :: ss.drop (k+1):=by
  rw[yd,y4 h,y3e,<- y69 h,gu]
 refine y3d.symm.trans ?_;rw[<- e]
theorem jnb:∀n,n<5->fct n<=24:=by decide
theorem RefsHT.snocN{H:Hp}{a:Addr}{L:List Str}(ha:H a=some (.tup (L.map V.str))){vs:List V}{Ls:List (List Str)}(r:RefsHT H vs Ls):RefsHT H (vs++[.ref a]) (Ls++[L]):=by
 induction r with
 |nil=>exact .cons ha .nil
 |cons x _ ih=>exact .cons x ih
def OrdU(ss:List Str)(i:Nat)(L:List Str):Prop:=∃(k:Nat) (M:List Str),k<i/\L=ss.getD k ⟨#[]⟩ :: M/\M.Perm (ss.take k++ss.drop (k+1))
theorem jji{ss L:List Str}(h0:0<ss.length):OrdU ss ss.length L↔L.Perm ss:=by
 constructor
 ·rintro⟨k,M,hk,rfl,pM⟩;exact(pM.cons _).trans (jdm hk)
 ·intro p;cases L with
  |nil=>have:=p.length_eq;simp at this;omega
  |cons x M=>
   have hx:=y05.mpr (p.mem_iff.mp yu);have ex:ss.getD (ss.idxOf x) ⟨#[]⟩=x:=by rw[yd,y4 hx,y1m hx];rfl
   have:=p.trans (jdm hx).symm;rw[ex]at this;exact⟨_,M,hx,by rw[ex],this.cons_inv⟩
theorem ja0{n:Nat}{spA:Sp}(T:Txt K mg a)(hA:∀us H Q E,(∃m,n=m+1/\j1b m us H Q E)->spA us H Q E)(G:FnOk P w K mg base (CXU P w) k a.f23 a.d23 ["_law_things_here"] spA):
  FnOk P w K mg base (CXU P w) (k+1) a.f23 a.d23 ["_law_things_here"] (j1b n):=by
 refine T.F23.okU jfb (λvs H Q E h=>?_) (λcdv A outer s H vs Q E hr h=>?_)
 ·obtain⟨p,ss,rfl,_⟩:=h;rfl
 ·obtain⟨p,ss,rfl,hp,hl,h4,hq⟩:=h;refine⟨_,(j03 (j17 (j0a (oEq hr) (j06 j2e (by rfl) T.cr xn (j00 (pv 0) j01)) j02 (j0f _)) (j04 (j09 (j0r (j00 (j1f j01) j01)))) j0c)
   (j03 (j0j (i:=1) jfb.nd rfl (by nofun) (j0r j01))
   (j03 (j1t vh rfl (j0k rfl T.c8 (j00 (j06 j2e (by rfl) T.cr xn (j00 (pv 0) j01)) j01)) (j0d (i:=2) jfb.nd rfl (by nofun)) (j04 (j1t vh rfl (j1o (j4o (G) hr (by rfl) T.F23.m T.F23.kp (T.F23.b1) .nil j24 (j00 (j0b j0t (j0s oSlV (pv 0) j18 (j0z (pv 2))) (j0s oSlV (pv 0) (j0z (j0b j0t (pv 2) j02)) j18)) j01))) (j0d (i:=3) jfb.nd rfl (by nofun)) (j04 (j25 (jao gn u6 u8 j1e (pv 1) (j00 (j0b j0t (j1f (j00 (j0n oIx (pv 0) (pv 2) (λ_ _=>rfl)) j01)) (pv 3)) j01)))))))
   (j04 (j09 (pv 1)))))),?_⟩
  exists j1a hp ?_;rw[y3];exists iteD (λc=>?_) (λc=>?_)
  ·symm;intro t1 H1 n1 q1 e1;symm;intro l2 H2 n2 q2 e2;have es:ss=[]:=vo.mp (by omega);subst es;exact hq l2 _ [[]] H2 (e1.free n2) q2 (.cons (L:=[]) (e2 _ _ q1) .nil) (λL=>by rw[yb,yco]) rfl (e1.tr e2)
  obtain⟨m,rfl⟩:∃m,n=m+1:=⟨n-1,by omega⟩
  obtain⟨d,ed⟩:∃d,ss.length=d+1:=⟨ss.length-1,by omega⟩
  have f24:=jnb d (by omega);symm;intro lf H1 n1 q1 e1;exists j1a (e1 _ _ hp) ?_;rw[y3];exists⟨_,rfl,by omega,by omega,j12 (λi σ H2=>∃(u1 u2:Option V) (vs:List V) (Ls:List (List Str)),σ=[some (.ref p),some (.ref lf),u1,u2]/\Ext H H2/\H2 lf=some (.lst vs)/\RefsHT H2 vs Ls/\(∀L,L∈Ls↔OrdU ss i L)/\Ls.length=i*fct d) ⟨none,none,[],[],rfl,e1,q1,.nil,(λL=>⟨λh=>(by cases h),λ⟨k,_,hk,_⟩=>by omega⟩),by simp⟩ ?_ ?_⟩
  ·rintro i σ H2 hi hE;refine spl 9 hE ?_;clear hE;rintro u1 u2 vs Ls rfl x2 q2 rf2 pm2 ln2;have hi':i<ss.length:=by omega
   have ib:i*fct d<=4*24:=y8r (by omega) f24;rw[show((0:Int)+(i:Nat))=(i:Nat) by omega];have hp2:=x2 _ _ hp;exists j94 hp2 λl3 H3 q3 e3=>?_;rw[jfg (by omega)]at q3;have hp3:=e3 _ _ hp2;exists j94 hp3 λl4 H4 q4 e4=>?_;rw[show(some ((i:Int)+1))=some ((i+1:Nat):Int)from by rw[y2h];rfl,j5n (by omega)]at q4;exists j14 (e4 _ _ q3) q4 (by simp;omega) λl5 H5 q5 e5=>?_;rw[<- xh]at q5;have x25:=e3.tr (e4.tr e5);have lo:(ss.take i++ss.drop (i+1)).length=d:=by rw[xa,yn,vj];omega
   exists hA _ _ _ _ ⟨m,rfl,l5,_,rfl,q5,by omega,by omega,λl6 vs6 Ls6 H6 n6 q6 rf6 pm6 ln6 e6=>?_⟩;rw[lo]at ln6;have x26:=x25.tr e6;have q26:=x26 _ _ q2;have nlf:l6≠lf:=λz=>by rw[z,x25 _ _ q2]at n6;cases n6
   have l6':=rf6.length;exists⟨l6,rfl,⟨_,SqL.of q6⟩,j2t (xs:=vs6) (λj σ H7=>∃(u2:Option V) (vs:List V) (Ls:List (List Str)),σ=[some (.ref p),some (.ref lf),some (.int (i:Nat)),u2]/\Ext H H7/\H7 l6=some (.lst vs6)/\RefsHT H7 vs6 Ls6/\H7 lf=some (.lst vs)/\RefsHT H7 vs Ls/\(∀L,L∈Ls↔OrdU ss i L\/∃M∈Ls6.take j,L=ss.getD i ⟨#[]⟩ :: M)/\Ls.length=i*fct d+j) ⟨u2,vs,Ls,rfl,x2.tr x26,q6,rf6,q26,rf2.mono x26,(λL=>by rw[pm2];simp),by omega⟩ (λj σ H7 _ h=>by obtain⟨_,_,_,_,_,h,_⟩:=h;exact SqL.of h) ?_ ?_⟩
   ·rintro j z σ H7 hz hE;refine spl 10 hE ?_;clear hE;rintro u2 vs Ls rfl x7 q7 rf7 g7 rg7 pg7 lg7;have hj:j<vs6.length:=(yw.mp hz).1;obtain⟨c,rfl,hc⟩:=rf7.get j z hz;have hM:Ls6.getD j []∈Ls6:=(by rw[yd,y4 (by omega)];exact u0 (by omega));have pL:=(pm6 _).mp hM;have e6':Ls6[j]?=some (Ls6.getD j []):=(by rw[yd,y4 (show j<Ls6.length by omega)];rfl);have lL:=pL.length_eq;have lv:=rg7.length;have i1:=j3x (ss:=ss) (k:=(i:Nat)) (by omega) (by omega);rw[yq]at i1;exists j4e (x7 _ _ hp) i1 ?_;symm;intro l8 H8 n8 q8 e8;exists j14 q8 (e8 _ _ hc) (by simp only[y3,yl,vm];omega) λl9 H9 q9 e9=>?_;have x9:=e8.tr e9;have g9:=x9 _ _ g7;exists j1q g9 (by omega) λH10 q10 b10=>?_;exists⟨_,_,Ls++[ss.getD i ⟨#[]⟩ :: Ls6.getD j []],rfl,Ext.but (x7.tr x9) b10 n1,b10 _ _ nlf (x9 _ _ q7),RefsHT.butL g9 b10 (rf7.mono x9),q10,RefsHT.butL g9 b10 (RefsHT.snocN q9 (rg7.mono x9)),λL=>?_,by simp[lg7];omega⟩;rw[x0,yb,pg7,xj,e6'];simp only[Option.toList,x0,yb];constructor
    ·rintro((q|⟨M,hM,q⟩)|q)
     ·exact .inl q
     ·exact .inr ⟨M,.inl hM,q⟩
     ·exact .inr ⟨_,.inr rfl,q⟩
    ·rintro(q|⟨M,hM|hM,q⟩)
     ·exact .inl (.inl q)
     ·exact .inl (.inr ⟨M,hM,q⟩)
     ·exact .inr (by rw[q,hM])
   ·rintro σ H7 hE;refine spl 10 hE ?_;clear hE;rintro u2 vs Ls rfl x7 q7 rf7 g7 rg7 pg7 lg7;exists⟨_,_,vs,Ls,rfl,x7,g7,rg7,λL=>?_,by rw[lg7,l6',ln6,y5z]⟩;rw[pg7,l6',vk];constructor
    ·rintro(⟨k,M,hk,q⟩|⟨M,hM,q⟩)
     ·exact⟨k,M,by omega,q⟩
     ·exact⟨i,M,by omega,q,(pm6 M).mp hM⟩
    ·rintro⟨k,M,hk,q,pM⟩;by_cases z:k<i
     ·exact .inl ⟨k,M,z,q,pM⟩
     ·obtain rfl:k=i:=(by omega);exact .inr ⟨M,(pm6 M).mpr pM,q⟩
  ·rintro σ H2 hE;refine spl 9 hE ?_;clear hE;rintro u1 u2 vs Ls rfl x2 q2 rf2 pm2 ln2;rw[yq]at ln2;exists hq lf vs Ls H2 n1 q2 rf2 (λL=>?_) (by rw[ln2,ed];rfl) x2;rw[pm2,yq];exact jji (by omega)
theorem j4x(T:Txt K mg a):∀n:Nat,FnOk P w K mg base (CXU P w) (n+1) a.f23 a.d23 ["_law_things_here"] (j1b n)
 |0=>ja0 (k:=0) (spA:=λ_ _ _ _=>False) T (λ_ _ _ _ ⟨m,e,_⟩=>by omega) FnOk.no
 |n+1=>ja0 (n:=n+1) (k:=n+1) (spA:=j1b n) T (λ_ _ _ _ ⟨m,e,h⟩=>by cases e;exact h) (j4x T n)
theorem j77(T:Txt K mg a):FnOk P w K mg base (CXU P w) 5 a.f23 a.d23 ["_law_things_here"] (j1b 4):=j4x T 4
def j44:Sp:=λus H Q _=>∃(gl:Addr) (g:Gm) (st:StG) (ws:List WsG) (b:StG) (w:WsG) (bv wv:V) (n:Nat),us=[.ref gl,bv,wv]/\GameV H gl g st ws/\g.wf/\b.at_ H bv/\w.at_ H wv/\g.ok n b/\g.nd b/\g.okW w/\n<=40/\∀l vs as H',H' l=some (.lst vs)->AllR (StG.at_ H') as vs->as.length<=60->(∀s,s∈as↔∃c,g.to b w s c)->Ext H H'->Q (.ref l) H'
theorem j88(T:Txt K mg a):FnOk P w K mg base (CXU P w) 6 a.f32 a.d32 ["_law_game_here","_law_before","_law_wish"] (j44):=by
 refine T.F32.okU1 sc32 λvs H Q E h=>?_;unfold j44 at h;refine spl 12 h ?_;clear h;rintro gl g st ws b w bv wv n rfl hG hwf h;refine spl 6 h ?_;clear h;rintro hb hw okb ndb okw n40 hq;refine⟨rfl,λ_ _ _ _ hr=>⟨_,(j03 (j17 (j0a (oEq hr) (j0n oIx (pv 0) j02 (λ_ _=>rfl)) j02 (j0f _)) (j04 (j09 (j0n oIx (j0r (j00 (j0r (j00 j02 (j00 j02 j01))) (j00 (j0r (j00 j02 j01)) j01))) (pv 1) (λ_ _=>rfl)))) j0c)
  (j03 (j17 (j0a (oEq hr) (j0n oIx (pv 0) j02 (λ_ _=>rfl)) j02 (j0f _)) (j04 (j09 (j16 (j77 T) hr T.F23 (T.F23.b1) (j00 (j0n oIx (pv 0) j02 (λ_ _=>rfl)) j01)))) j0c)
  (j03 (j17 (j0a (oEq hr) (j0n oIx (pv 0) j02 (λ_ _=>rfl)) j02 (j0f _)) (j04 (j09 (j6g rfl (by rfl) T.mj (by rfl) T.c8 (j00 (j0n oIx (j0n oIx (pv 0) j02 (λ_ _=>rfl)) j02 (λ_ _=>rfl)) j01)))) j0c)
  (j03 (j17 (PW.pt (jh5 (j0a jh7 (j0n oIx (pv 0) j02 (λ_ _=>rfl)) j02 (j0f _)) (jat (j0a oIn (pv 2) (pv 1) (by with_unfolding_all rfl))))) (j04 (j09 (j0r (j00 (pv 1) j01)))) j0c)
  (j04 (j09 (j16 (j5z T) hr T.F10 (T.F10.b3) (j00 (pv 1) (j00 (pv 2) (j00 (pv 0) j01)))))))))),?_⟩⟩
 have hG':=hG;obtain⟨gv,sv,wl,wvs,hg,hpv,_⟩:=hG';cases g with
 |hire W=>
  have hg':H gl=some (.lst [.int 0,gv,sv,.ref wl]):=hg;exists j0g hg' rfl ?_;symm;intro l1 H1 n1 q1 e1;symm;intro l2 H2 n2 q2 e2;symm;intro l3 H3 n3 q3 e3;obtain⟨z,rfl⟩:=okw;rcases okb with rfl|rfl
  ·obtain rfl:bv=.int 0:=hb;exists j0g q3 rfl ?_;exists hq l1 _ [.i 0,.i 1] H3 (e3 _ _ (e2 _ _ q1)) ⟨rfl,rfl,trivial⟩ (by simp) (λs=>?_) (e1.tr (e2.tr e3));constructor
   ·intro hs;simp at hs;rcases hs with rfl|rfl
    ·exact⟨z,.inl rfl,rfl⟩
    ·exact⟨W,.inr rfl,rfl⟩
   ·rintro⟨c,rfl|rfl,_⟩<;>simp
  ·obtain rfl:bv=.int 1:=hb;exists j0g q3 rfl ?_;exists hq l2 _ [.i 1] H3 (e3 _ _ q2) ⟨rfl,trivial⟩ (by simp) (λs=>?_) (e1.tr (e2.tr e3));rw[yb];constructor
   ·rintro rfl;exact⟨0,.inr rfl,rfl⟩
   ·rintro⟨c,rfl|rfl,h⟩
    ·exact absurd (show V.int c=.non from h) (λz=>nomatch z)
    ·rfl
 |shelf ts=>
  have hg':H gl=some (.lst [.int 2,gv,sv,.ref wl]):=hg;obtain⟨tp,rfl,htp⟩:=hpv;exists j0g hg' rfl ?_;exists j0g hg' rfl ?_;exists j0g hg' rfl ?_;exists⟨tp,ts,rfl,htp,hwf.2.1,yg _,λl vs Ls H' _ q rf pm ln e=>?_⟩;have f24:=jnb ts.length (by have:=hwf.2.1;omega);refine hq l vs (Ls.map .t) H' q (j5o rf) (by rw[y3];omega) (λs=>?_) e;rw[j85 okb okw λW z=>nomatch z];obtain⟨bs,rfl,pb⟩:=okb;rw[yk];exact⟨λ⟨L,hL,e⟩=>⟨L,e.symm,((pm L).mp hL).trans pb.symm⟩,λ⟨L,e,hL⟩=>⟨L,(pm L).mpr (hL.trans pb),e.symm⟩⟩
 |wys m t=>
  have hg':H gl=some (.lst [.int 3,gv,sv,.ref wl]):=hg;obtain⟨tp,rfl,htp⟩:=hpv;obtain⟨m1,m4⟩:=hwf;exists j0g hg' rfl ?_;exists j0g hg' rfl ?_;exists j0g hg' rfl ?_;exists j0g hg' rfl ?_;exists j4e htp rfl ?_;exists j95 m rfl (by omega) λl H' _ q e=>?_;refine hq l _ ((j4f m).map .i) H' q (jaj _) (by rw[y3,j5g];omega) (λs=>?_) e;rw[j85 okb okw λW z=>nomatch z];simp only[j4f,xx,yk,vq,y9b];exact⟨λ⟨n,h1,h2⟩=>⟨_,h2.symm,by omega,by omega⟩,λ⟨z,h1,h2,h3⟩=>⟨z.toNat,by omega,by rw[h1];congr 1;omega⟩⟩
 |line m=>
  have hg':H gl=some (.lst [.int 1,gv,sv,.ref wl]):=hg;have okb0:=okb;have okw0:=okw;have hb0:=hb;have hw0:=hw;obtain⟨z,rfl⟩:=okw;obtain rfl:wv=.int z:=hw;obtain⟨bs,rfl,lb⟩:=okb;obtain⟨bp,rfl,hbp⟩:=hb;exists j0g hg' rfl ?_;exists j0g hg' rfl ?_;exists j0g hg' rfl ?_;exists j0g hg' rfl ?_;exists jnq hbp rfl (j3i _) ?_;rw[j59];exists iteD (λc=>?_) (λc=>?_)
  ·symm;intro l1 H1 n1 q1 e1;refine hq l1 _ [.l bs] H1 q1 ⟨StG.mono e1 hb0,trivial⟩ (by simp) (λs=>?_) e1;rw[j85 okb0 okw0 (λW z=>nomatch z),yb];exact⟨λe=>⟨bs,e,.inl ⟨c,rfl⟩⟩,λ⟨L,e,h⟩=>h.elim (λy=>by rw[e,y.2]) λy=>absurd c y.1⟩
  ·symm;exact⟨gl,_,st,ws,_,_,_,_,n,rfl,hG,hwf,hb0,hw0,okb0,ndb,okw0,n40,c,λl vs as H' h1 h2 h3 h4 h5=>hq l vs as H' h1 h2 h3 (λs=>by rw[h4,j85 okb0 okw0 λW z=>nomatch z]) h5⟩
 |store m=>
  have hg':H gl=some (.lst [.int 4,gv,sv,.ref wl]):=hg;have okb0:=okb;have okw0:=okw;have hb0:=hb;have hw0:=hw;obtain⟨z,rfl,hz⟩:=okw;obtain rfl:wv=.str z:=hw;obtain⟨bs,rfl,lb,nb⟩:=okb;obtain⟨bp,rfl,hbp⟩:=hb;exists j0g hg' rfl ?_;exists j0g hg' rfl ?_;exists j0g hg' rfl ?_;exists j0g hg' rfl ?_;exists jnq hbp rfl (j22 _) ?_;rw[j30];exists iteD (λc=>?_) (λc=>?_)
  ·symm;intro l1 H1 n1 q1 e1;refine hq l1 _ [.t bs] H1 q1 ⟨StG.mono e1 hb0,trivial⟩ (by simp) (λs=>?_) e1;rw[j85 okb0 okw0 (λW z=>nomatch z),yb];exact⟨λe=>⟨bs,e,.inl ⟨c,rfl⟩⟩,λ⟨L,e,h⟩=>h.elim (λy=>by rw[e,y.2]) λy=>absurd c y.1⟩
  ·symm;exact⟨gl,_,st,ws,_,_,_,_,n,rfl,hG,hwf,hb0,hw0,okb0,ndb,okw0,n40,c,λl vs as H' h1 h2 h3 h4 h5=>hq l vs as H' h1 h2 h3 (λs=>by rw[h4,j85 okb0 okw0 λW z=>nomatch z]) h5⟩
 |bags R=>
  have hg':H gl=some (.lst [.int 5,gv,sv,.ref wl]):=hg;exists j0g hg' rfl ?_;exists j0g hg' rfl ?_;exists j0g hg' rfl ?_;exists j0g hg' rfl ?_;symm;exact⟨gl,_,st,ws,b,w,bv,wv,n,rfl,hG,hwf,hb,hw,okb,ndb,okw,n40,trivial,λl vs as H' h1 h2 h3 h4 h5=>hq l vs as H' h1 h2 h3 (λs=>by rw[h4,j85 okb okw λW z=>nomatch z]) h5⟩
theorem jnc(h:i<=os.length):cutV (os.map V.int) none (some (i:Int))=(os.take i).map V.int:=by
 unfold cutV;rw[HT.sIx_none,HT.sIx_nat,y3,u5 h,y31,y4q,y2r]
theorem jnd(h:i<=os.length):cutV (os.map V.int) (some (i:Int)) none=(os.drop i).map V.int:=by
 unfold cutV;rw[HT.sIx_nat,HT.sIx_none,y3,u5 h,<- y2q,xg (by rw[y3,vj];exact yg _)]
def j78:Sp:=λvs H Q _=>∃(b f:Addr) (os fs:List Int) (s R:Int) (v:V),vs=[.int R,.ref b,.int s,.ref f]/\H b=some (.tup (os.map V.int))/\H f=some (.tup (fs.map V.int))/\os.length<=50/\PrV R os s fs v/\∀H',Ext H H'->Q v H'
theorem jdn(T:Txt K mg a):FnOk P w K mg base (CXU P w) 1 a.f45 a.d45 ["_law_room","_law_before","_law_wish","_law_after_here"] (j78):=by
 refine T.F45.okU1 jj6 λvs H Q E h=>?_;unfold j78 at h;refine spl 12 h ?_;clear h;rintro b f os fs s R v rfl hb hf hl hg hq;refine⟨rfl,λ_ _ _ _ hr=>⟨_,(j03 (j17 (j0a (oEq hr) (pv 3) (j0e j2d (by rfl) T.dc xq (j00 (j06 j3h (by rfl) T.cj xu (j00 (j0b j0t (pv 1) (j1f (j00 (pv 2) j01))) j01)) j01)) (j0f _)) (j04 (j09 j02)) j0c)
  (j03 (j1t vh rfl (j0k rfl T.c8 (j00 (j06 j2e (by rfl) T.cr xn (j00 (pv 1) j01)) j01)) (j0d (i:=4) jj6.nd rfl (by nofun)) (j03 (j0j (i:=5) jj6.nd rfl (by nofun) (j0b j0t (j0n oIx (pv 1) (pv 4) (λ_ _=>rfl)) (pv 2)))
  (j04 (j17 (PW.pt (jh5 (j0a oLeW (pv 5) (pv 0) (j0f _)) (jat (j0a (oEq hr) (pv 3) (j0e j2d (by rfl) T.dc xq (j00 (j06 j3h (by rfl) T.cj xu (j00 (j0b j0t (j0b j0t (j0s oSlV (pv 1) j18 (j0z (pv 4))) (j0s oSlV (pv 1) (j0z (j0b j0t (pv 4) j02)) j18)) (j1f (j00 (pv 5) j01))) j01)) j01)) (j0f _))))) (j04 (j09 j02)) j0c))))
  (j04 (j09 j2h)))),?_⟩⟩
 symm;intro p1 H1 n1 q1 e1;exists j14 (e1 _ _ hb) q1 (by simp;omega) λp2 H2 q2 e2=>?_;rw[show os.map V.int++[V.int s]=(os++[s]).map V.int by simp]at q2;exists j6k q2 (by simp;omega) λl3 ns' H3 n3 hp3 hs3 q3 e3=>?_;exists j0w q3 λl4 H4 n4 q4 e4=>?_;have x4:=((e1.tr e2).tr e3).tr e4;have hf4:=x4 _ _ hf;have hb4:=x4 _ _ hb;exists jej hf4 q4 ?_;by_cases c:fs=ns'
 ·subst c;rw[decide_eq_true rfl];symm;rw[<- hg.one ⟨hs3,.inl ⟨rfl,hp3⟩⟩];exact hq H4 x4
 rw[decide_eq_false c];exists j1a hb4 ?_;rw[y3];exists⟨_,rfl,by omega,by omega,j12 (λi σ H5=>∃(u1 u2:Option V),σ=[some (.int R),some (.ref b),some (.int s),some (.ref f),u1,u2]/\Ext H H5/\∀k,k<i->os.getD k 0+s<=R->fs.Pairwise (·<=·)->¬ fs.Perm (os.set k (os.getD k 0+s))) ⟨none,none,rfl,x4,λk hk=>by omega⟩ ?_ ?_⟩
 ·rintro kk σ H5 hi ⟨u1,u2,rfl,x5,hno⟩;have hkk:kk<os.length:=by omega
  have hb5:=x5 _ _ hb;rw[show((0:Int)+(kk:Nat))=(kk:Nat) by omega];have i1:=j0x (ns:=os) (k:=(kk:Nat)) (by omega) (by omega);rw[yq]at i1;exists j4e hb5 i1 ?_;exists iteD (λcR=>?_) (λcR=>?_)
  ·exists j94 hb5 λl6 H6 q6 e6=>?_;rw[jnc (by omega)]at q6;have hb6:=e6 _ _ hb5;exists j94 hb6 λl7 H7 q7 e7=>?_;rw[show(some ((kk:Int)+1))=some ((kk+1:Nat):Int)from by rw[y2h];rfl,jnd (by omega)]at q7;exists j14 (e7 _ _ q6) q7 (by simp;omega) λl8 H8 q8 e8=>?_;symm;intro l9 H9 n9 q9 e9;exists j14 (e9 _ _ q8) q9 (by simp;omega) λl10 H10 q10 e10=>?_;rw[show(os.take kk).map V.int++(os.drop (kk+1)).map V.int++[V.int (os.getD kk 0+s)]=(os.take kk++os.drop (kk+1)++[os.getD kk 0+s]).map V.int by simp]at q10;exists j6k q10 (by simp;omega) λl11 ms H11 n11 p11 s11 q11 e11=>?_;exists j0w q11 λl12 H12 n12 q12 e12=>?_;have x12:=e6.tr (e7.tr (e8.tr (e9.tr (e10.tr (e11.tr e12)))));have pm:=p11.trans (jgq hkk);exists jej ((x5.tr x12) _ _ hf) q12 ?_;by_cases c2:fs=ms
   ·subst c2;rw[decide_eq_true rfl];symm;rw[<- hg.nought ⟨s11,.inr ⟨rfl,kk,hkk,cR,pm⟩⟩];exact hq H12 (x5.tr x12)
   ·rw[decide_eq_false c2];exists⟨_,_,rfl,x5.tr x12,λk hk hR sf pf=>?_⟩;by_cases z:k=kk
    ·subst z;exact c2 (j0u (pf.trans pm.symm) sf s11)
    ·exact hno k (by omega) hR sf pf
  ·exists⟨_,_,rfl,x5,λk hk hR sf pf=>?_⟩;by_cases z:k=kk
   ·subst z;exact cR hR
   ·exact hno k (by omega) hR sf pf
 ·rintro σ H5 ⟨u1,u2,rfl,x5,hno⟩;rw[yq]at hno;symm;rw[<- hg.no λpr z=>by
   rcases z.2 with⟨_,z2⟩|⟨_,k,hk,hR,z2⟩
   ·exact c (j0u (z2.trans hp3.symm) z.1 hs3)
   ·exact hno k hk hR z.1 z2]
  exact hq H5 x5
def j3d:Sp:=λvs H Q _=>∃(p q:Addr) (ss qs:List Str) (w:Str),vs=[.ref p,.str w,.ref q]/\H p=some (.tup (ss.map V.str))/\H q=some (.tup (qs.map V.str))/\ss.length<=60/\qs.length<=60/\(∀x∈ss,x∈qs)/\w∈qs/\∀H',Ext H H'->Q (.int (trn ss qs+(qs.idxOf w:Nat)+1)) H'
theorem jri(h:i<ss.length):ss.take (i+1)=ss.take i++[ss.getD i ⟨#[]⟩]:=by rw[xj,yd,y4 h];rfl
theorem atI_nat(h:i<ss.length):atI (ss.map V.str) (i:Nat)=some (.str (ss.getD i ⟨#[]⟩)):=by
 have:=j3x (ss:=ss) (k:=(i:Nat)) (by omega) (by omega)
 rwa [yq]at this
theorem j79(T:Txt K mg a):FnOk P w K mg base (CXU P w) 1 a.f26 a.d26 ["_law_before","_law_wish","_law_after_here"] (j3d):=by
 refine T.F26.okU1 jcx λvs H Q E h=>?_;unfold j3d at h;refine spl 12 h ?_;clear h;rintro p q ss qs w rfl hp hq' hl hl2 hs hw hq;refine⟨rfl,λ_ _ _ _ hr=>⟨_,(j03 (j0j (i:=3) jcx.nd rfl (by nofun) (j0b j0t j02 (jao gn y42 y43 j3t (j0e jg4 (by rfl) T.mj va (j00 (pv 2) j01)) (j00 (pv 1) j01))))
  (j03 (j1t vh rfl (j0k rfl T.c8 (j00 (j06 j2e (by rfl) T.cr xn (j00 (pv 0) j01)) j01)) (j0d (i:=4) jcx.nd rfl (by nofun)) (j04 (j1t vh rfl (j0k rfl T.c8 (j00 (pv 4) j01)) (j0d (i:=5) jcx.nd rfl (by nofun)) (j04 (j17 (j0a jno (jao gn y42 y43 j3t (j0e jg4 (by rfl) T.mj va (j00 (pv 2) j01)) (j00 (j0n oIx (pv 0) (pv 5) (λ_ _=>rfl)) j01)) (jao gn y42 y43 j3t (j0e jg4 (by rfl) T.mj va (j00 (pv 2) j01)) (j00 (j0n oIx (pv 0) (pv 4) (λ_ _=>rfl)) j01)) (j0f _)) (j04 (j0j (i:=3) jcx.nd rfl (by nofun) (j0b j0t (pv 3) j02))) j0c)))))
  (j04 (j09 (pv 3))))),?_⟩⟩
 exists j6b hq' λl1 H1 n1 q1 e1=>?_;exists j5j q1 hw (by omega) ?_;exists j1a (e1 _ _ hp) ?_;rw[y3];exists⟨_,rfl,by omega,by omega,j12 (λk σ H3=>∃(mv:Int) (u v:Option V),σ=[some (.ref p),some (.str w),some (.ref q),some (.int mv),u,v]/\Ext H H3/\mv=1+(qs.idxOf w:Nat)+trn (ss.take k) qs) ⟨_,none,none,rfl,e1,by rw[List.take_zero,jgn,Int.add_zero]⟩ ?_ ?_⟩
 ·rintro k σ H3 hk hE;refine spl 5 hE ?_;clear hE;rintro mv u v rfl x3 emv;have hk':k<ss.length:=by omega
  rw[show((0:Int)+(k:Nat))=(k:Nat) by omega];exists⟨_,rfl,by omega,by omega,j12 (λj σ H4=>∃(mw:Int) (v:Option V),σ=[some (.ref p),some (.str w),some (.ref q),some (.int mw),some (.int (k:Nat)),v]/\Ext H H4/\mw=mv+(((ss.take j).filter λt=>decide (qs.idxOf (ss.getD k ⟨#[]⟩)<qs.idxOf t)).length:Nat)) ⟨_,_,rfl,x3,by simp⟩ ?_ ?_⟩
  ·rintro j σ H4 hj ⟨mw,v,rfl,x4,emw⟩;have hj':j<ss.length:=by omega
   rw[show((0:Int)+(j:Nat))=(j:Nat) by omega];have hp4:=x4 _ _ hp;exists j6b (x4 _ _ hq') λl5 H5 n5 q5 e5=>?_;exists j4e (e5 _ _ hp4) (atI_nat hj') ?_;exists j5j q5 (hs _ (j4w hj')) (by omega) ?_;exists j6b ((x4.tr e5) _ _ hq') λl6 H6 n6 q6 e6=>?_;exists j4e ((e5.tr e6) _ _ hp4) (atI_nat hk') ?_;exists j5j q6 (hs _ (j4w hk')) (by omega) ?_;have x6:=x4.tr (e5.tr e6);exists iteD (λc=>?_) (λc=>?_)
   ·exists⟨_,_,rfl,x6,?_⟩;rw[jri hj',gz,xa,xz,um,if_pos (decide_eq_true (by omega)),ub,emw];omega
   ·exists⟨_,_,rfl,x6,?_⟩;rw[jri hj',gz,xa,xz,um,if_neg (λz=>c (by have:=of_decide_eq_true z;omega)),vm,emw];omega
  ·rintro σ H4 ⟨mw,v,rfl,x4,emw⟩;rw[yq]at emw;exists⟨_,_,_,rfl,x4,?_⟩;rw[jri hk',jd3,emw,emv];omega
 ·rintro σ H3 hE;refine spl 5 hE ?_;clear hE;rintro mv u v rfl x3 emv;rw[yq,vk]at emv;symm;rw[show mv=trn ss qs+(qs.idxOf w:Nat)+1 by omega];exact hq H3 x3
theorem abs_mm(x y:Int):max x y-min x y=((x-y).natAbs:Int):=by omega
def j45:Sp:=λus H Q _=>∃(gl:Addr) (g:Gm) (st:StG) (ws:List WsG) (b a:StG) (w:WsG) (bv wv av x:V),us=[.ref gl,bv,wv,av]/\GameV H gl g st ws/\g.wf/\b.at_ H bv/\w.at_ H wv/\a.at_ H av/\g.ok 40 b/\g.okW w/\g.ok 40 a/\g.pp b w a x/\∀H',Ext H H'->Q x H'
theorem j89(T:Txt K mg a):FnOk P w K mg base (CXU P w) 2 a.f37 a.d37 ["_law_game_here","_law_before","_law_wish","_law_after_here"] (j45):=by
 refine T.F37.okU1 sc37 λvs H Q E h=>?_;unfold j45 at h;refine spl 12 h ?_;clear h;rintro gl g st ws b aa w bv wv av x rfl h;refine spl 9 h ?_;clear h;rintro⟨gv,sv,wl,wvs,hg,hpv,_⟩ hwf hb hw ha okb okw oka hpp hq;refine⟨rfl,λ_ _ _ _ hr=>⟨_,(j03 (j17 (j0a (oEq hr) (j0n oIx (pv 0) j02 (λ_ _=>rfl)) j02 (j0f _)) (j03 (j17 (j0a (oEq hr) (pv 1) j02 (j0f _)) (j04 (j09 (j0n oIx (j0r (j00 j2h (j00 j02 j01))) (pv 3) (λ_ _=>rfl)))) j0c)
  (j04 (j09 (j0n oIx (j0r (j00 (pv 2) (j00 (j0n oIx (pv 0) j02 (λ_ _=>rfl)) j01))) (pv 3) (λ_ _=>rfl))))) j0c)
  (j03 (j17 (j0a (oEq hr) (j0n oIx (pv 0) j02 (λ_ _=>rfl)) j02 (j0f _)) (j04 (j09 (j16 (j79 T) hr T.F26 (T.F26.b3) (j00 (pv 1) (j00 (pv 2) (j00 (pv 3) j01)))))) j0c)
  (j03 (j17 (j0a (oEq hr) (j0n oIx (pv 0) j02 (λ_ _=>rfl)) j02 (j0f _)) (j04 (j09 (j0b j0t (j0n oIx (pv 2) (pv 3) (λ_ _=>rfl)) (j0b jap (j0n oIx (j0n oIx (pv 0) j02 (λ_ _=>rfl)) j02 (λ_ _=>rfl)) (j0e cInt1 (by rfl) T.qp y4r (j00 (j33 jh7 (pv 1) (pv 3) (j0f _)) j01)))))) j0c)
  (j03 (j17 (j0a (oEq hr) (j0n oIx (pv 0) j02 (λ_ _=>rfl)) j02 (j0f _)) (j04 (j09 (j16 (jdn T) hr T.F45 (T.F45.b4) (j00 (j0n oIx (pv 0) j02 (λ_ _=>rfl)) (j00 (pv 1) (j00 (pv 2) (j00 (pv 3) j01))))))) j0c)
  (j03 (j17 (j0a jbl (pv 2) (pv 3) (by with_unfolding_all rfl)) (j04 (j09 j2h)) j0c)
  (j03 (j17 (j0a (oEq hr) (j0n oIx (pv 0) j02 (λ_ _=>rfl)) j02 (j0f _)) (j04 (j09 (j06 j2e (by rfl) T.cr xn (j00 (j15 (["_law_page"]:List Str) (["_law_before"]:List Str) [1] rfl ⟨rfl,by decide +kernel,by decide +kernel,by rfl,⟨⟨rfl,by nofun,by nofun⟩,trivial⟩⟩ (ja3 (pv 3)) (λ_ _ _ _=>⟨(j0d (i:=0) (by show((["_law_page"]:List Str)++(["_law_before"]:List Str)).Nodup;decide +kernel) rfl (by nofun)),(show PTs _ [_] [_] from⟨(j0a jbl (pv 0) (pv 1) (by with_unfolding_all rfl)),trivial⟩),(pv 0)⟩)) j01)))) j0c)
  (j04 (j09 (j06 (cSum rfl) (by rfl) T.qm y4t (j00 (j15 (["_law_one","_law_other"]:List Str) ([]:List Str) [] rfl ⟨rfl,by decide +kernel,by decide +kernel,by rfl,trivial⟩ (jbq rfl T.qw (j00 (pv 1) (j00 (pv 3) j01))) (λ_ _ _ _=>⟨(jav rfl (j1m (j0d (i:=0) (by show((["_law_one","_law_other"]:List Str)++([]:List Str)).Nodup;decide +kernel) rfl (by nofun)) (j1m (j0d (i:=1) (by show((["_law_one","_law_other"]:List Str)++([]:List Str)).Nodup;decide +kernel) rfl (by nofun)) j63))),(show PTs _ [] [] from trivial),(j0b j4g (j06 (joo rfl) (by rfl) T.qx y4s (j00 (pv 0) (j00 (pv 1) j01))) (j06 (jhn rfl) (by rfl) T.o9 y07 (j00 (pv 0) (j00 (pv 1) j01))))⟩)) j01)))))))))),?_⟩⟩
 cases g with
 |hire W=>
  have hg':H gl=some (.lst [.int 0,gv,sv,.ref wl]):=hg;obtain rfl:gv=.int W:=hpv;obtain⟨z,rfl⟩:=okw;obtain rfl:wv=.int z:=hw;exists j0g hg' rfl ?_;rcases okb with rfl|rfl
  ·obtain rfl:bv=.int 0:=hb;exists j0g hg' rfl ?_;symm;intro l1 H1 n1 q1 e1;symm;rcases oka with rfl|rfl
   ·obtain rfl:av=.int 0:=ha;refine j0g q1 rfl ?_;obtain rfl:x=.int z:=hpp;exact hq H1 e1
   ·obtain rfl:av=.int 1:=ha;refine j0g q1 rfl ?_;obtain rfl:x=.int W:=hpp;exact hq H1 e1
  ·obtain rfl:bv=.int 1:=hb;symm;intro l1 H1 n1 q1 e1;symm;rcases oka with rfl|rfl
   ·obtain rfl:av=.int 0:=ha;refine j0g q1 rfl ?_;obtain rfl:x=.non:=hpp;exact hq H1 e1
   ·obtain rfl:av=.int 1:=ha;refine j0g q1 rfl ?_;obtain rfl:x=.int 0:=hpp;exact hq H1 e1
 |line m=>
  have hg':H gl=some (.lst [.int 1,gv,sv,.ref wl]):=hg;obtain⟨z,rfl⟩:=okw;obtain rfl:wv=.int z:=hw;obtain⟨bs,rfl,lb⟩:=okb;obtain⟨as,rfl,la⟩:=oka;obtain⟨bp,rfl,hbp⟩:=hb;obtain⟨ap,rfl,hap⟩:=ha;have hm3:=hwf.2;have hpp':x=if z∈as then .int (ways bs as)else .non:=hpp
  exists j0g hg' rfl ?_;exists j0g hg' rfl ?_;exists j0g hg' rfl ?_;exists j0g hg' rfl ?_;exists j2y hap rfl (j3i _) ?_;rw[j59];exists iteN (λh=>?_) (λh=>?_)
  ·rw[if_neg h]at hpp';subst hpp';symm;exact hq H Ext.rfl'
  ·rw[if_pos h]at hpp';subst hpp';exists j0g hg' rfl ?_;exists⟨bp,ap,bs.map V.int,as.map V.int,true,true,rfl,SqT.of hbp,SqT.of hap,λacc hn _ _ _ _=>j8z (c:=true) (d:=true) (SqT.of hbp) (SqT.of hap) (by simp[lb,la]) (by rw[y3];omega) hn
    (λi ys _=>ys=((yag (λa b:Int=>((a-b).natAbs:Int)) bs as).take i).map V.int) (by simp) (λ_ _ _ _ _ h=>h) (λi ys H' _ h=>by rw[h,y3,yn];omega) ?_ ?_⟩
   ·rintro i x z ys H2 H3 hx hz' e e3 rfl Y N hY hN;obtain⟨x,ex,rfl⟩:=j4s hx;obtain⟨z,ez,rfl⟩:=j4s hz';exists hY _ _ e3 ?_;rw[xj,xh,y7v,ex,ez,abs_mm];rfl
   ·rintro ys H2 e ha rfl;rw[xg (by rw[y91,y3];omega)]at ha;symm;exact jpf ha (hq H2 e)
 |shelf ts=>
  have hg':H gl=some (.lst [.int 2,gv,sv,.ref wl]):=hg;obtain⟨z,rfl,hz⟩:=okw;obtain rfl:wv=.str z:=hw;obtain⟨bs,rfl,pb⟩:=okb;obtain⟨as,rfl,pa⟩:=oka;obtain⟨bp,rfl,hbp⟩:=hb;obtain⟨ap,rfl,hap⟩:=ha;have l4:=hwf.2.1;have lb:=pb.length_eq;have la:=pa.length_eq;obtain rfl:x=.int (trn bs as+(as.idxOf z:Nat)+1):=hpp;exists j0g hg' rfl ?_;exists j0g hg' rfl ?_;symm;exact⟨bp,ap,bs,as,z,rfl,hbp,hap,by omega,by omega,λx hx=>pa.mem_iff.mpr (pb.mem_iff.mp hx),pa.mem_iff.mpr hz,hq⟩
 |wys m t=>
  have hg':H gl=some (.lst [.int 3,gv,sv,.ref wl]):=hg;obtain⟨tp,rfl,htp⟩:=hpv;obtain⟨z,rfl,lz⟩:=okw;obtain⟨wp,rfl,hwp⟩:=hw;obtain⟨bz,rfl,_⟩:=okb;obtain⟨az,rfl,a0,a1⟩:=oka;obtain rfl:bv=.int bz:=hb;obtain rfl:av=.int az:=ha;have i1:=j0x (ns:=z) a0 (by omega);have hpp':x=.int (if az=bz then z.getD az.toNat 0 else z.getD az.toNat 0+t):=hpp;exists j0g hg' rfl ?_;exists j0g hg' rfl ?_;exists j0g hg' rfl ?_;exists j4e hwp i1 ?_;exists j0g hg' rfl ?_;exists j4e htp rfl ?_;symm;have e:z.getD az.toNat 0+t*(if (!decide (bz=az))=true then 1 else 0)=if az=bz then z.getD az.toNat 0 else z.getD az.toNat 0+t:=by
   by_cases c:bz=az
   ·rw[decide_eq_true c,if_pos c.symm];simp
   ·rw[decide_eq_false c,if_neg (show ¬ az=bz from λh=>c h.symm)];simp
  rw[e,<- hpp'];exact hq H Ext.rfl'
 |store m=>
  have hg':H gl=some (.lst [.int 4,gv,sv,.ref wl]):=hg;obtain⟨z,rfl,hz⟩:=okw;obtain rfl:wv=.str z:=hw;obtain⟨bs,rfl,lb,nb⟩:=okb;obtain⟨as,rfl,la,na⟩:=oka;obtain⟨bp,rfl,hbp⟩:=hb;obtain⟨ap,rfl,hap⟩:=ha;have hm4:=hwf.2;have hpp':x=if z∈as then .int ((as.filter λx=>!decide (x∈bs)).length:Nat)else .non:=hpp
  exists j0g hg' rfl ?_;exists j0g hg' rfl ?_;exists j0g hg' rfl ?_;exists j0g hg' rfl ?_;exists j2y hap rfl (j22 _) ?_;rw[j30];exists iteN (λh=>?_) (λh=>?_)
  ·rw[if_neg h]at hpp';subst hpp';symm;exact hq H Ext.rfl'
  ·rw[if_pos h]at hpp';subst hpp';exists j0g hg' rfl ?_;exists⟨ap,rfl,⟨_,SqT.of hap⟩,λacc hn _ _ _ _=>j3p (SqT.of hap) (by rw[y3];omega) hn (λj ys _=>ys=((as.take j).filter λt=>!decide (t∈bs)).map V.str) (by simp) (λ_ _ _ _ _ h=>h) (λj ys H' _ h=>by rw[h,y3];exact gj (uo _ _) (by rw[yn];omega)) ?_ ?_⟩
   ·rintro j y ys H2 hy e rfl Y N hY hN;obtain⟨y,ey,rfl⟩:=j4v hy;have et:as.take (j+1)=as.take j++[y]:=(by rw[xj,ey];rfl);exists j2y (e _ _ hbp) rfl (j22 _) ?_;rw[j30];exists iteN (λh=>?_) (λh=>?_)
    ·exists hY _ _ Ext.rfl' ?_;rw[et,gz,xz,if_pos (by simp[h]),xh];rfl
    ·exists hN _ Ext.rfl' ?_;rw[et,gz,xz,if_neg (by simp[h]),um,y0a]
   ·rintro ys H2 e2 ha rfl;rw[y3,xg (yg _)]at ha;exists j1l ha ?_;rw[y3];exact hq H2 e2
 |bags R=>
  have hg':H gl=some (.lst [.int 5,gv,sv,.ref wl]):=hg;obtain rfl:gv=.int R:=hpv;obtain⟨z,rfl,z1,z2⟩:=okw;obtain rfl:wv=.int z:=hw;obtain⟨bs,rfl,hL,lb⟩:=okb;obtain⟨as,rfl,hLa,la⟩:=oka;obtain⟨bp,rfl,hbp⟩:=hb;obtain⟨ap,rfl,hap⟩:=ha;exists j0g hg' rfl ?_;exists j0g hg' rfl ?_;exists j0g hg' rfl ?_;exists j0g hg' rfl ?_;exists j0g hg' rfl ?_;symm;exact⟨bp,ap,bs,as,z,R,x,rfl,hbp,hap,by omega,hpp,hq⟩
def j7a:Sp:=λus H Q _=>∃(gl p:Addr) (wv:V) (g:Gm) (st:StG) (ws:List WsG) (x:WsG) (ps:List (StG×Int)) (zs:List V) (L:List StG),us=[.ref gl,.ref p,wv]/\GameV H gl g st ws/\g.wf/\H p=some (.lst zs)/\PsAt H ps zs/\(∀e∈ps,g.ok 30 e.1/\g.nd e.1)/\x.at_ H wv/\g.okW x/\L.length<=60/\(∀e∈ps,∀s,g.dst e.1 x s->s∈L)/\
 ∀l zs' qs H',H' l=some (.lst zs')->PsAt H' qs zs'->NextP g x ps qs->Ext H H'->Q (.ref l) H'
theorem jdo(T:Txt K mg a):FnOk P w K mg base (CXU P w) 7 a.f46 a.d46 ["_law_game_here","_law_before","_law_wish"] (j7a):=by
 refine T.F46.okU1 jah λvs H Q E h=>?_;unfold j7a at h;refine spl 12 h ?_;clear h;rintro gl p wv g st ws x ps zs L rfl hG h;refine spl 8 h ?_;clear h;rintro wf hp hps oks hx okx l60 hL hq;refine⟨rfl,λ_ _ _ _ hr=>⟨_,(j03 (j0j (i:=3) jah.nd rfl (by nofun) (j2z jbe jbf))
  (j03 (j1t vh rfl (j1o (pv 1)) (jav rfl (j1m (j0d (i:=4) jah.nd rfl (by nofun)) (j1m (j0d (i:=5) jah.nd rfl (by nofun)) j63))) (j04 (j1t vh rfl (j1o (j16 (j88 T) hr T.F32 (T.F32.b3) (j00 (pv 0) (j00 (pv 4) (j00 (pv 2) j01))))) (j0d (i:=6) jah.nd rfl (by nofun)) (j03 (j0j (i:=7) jah.nd rfl (by nofun) (j0b j0t (pv 5) (j16 (j89 T) hr T.F37 (T.F37.b4) (j00 (pv 0) (j00 (pv 4) (j00 (pv 2) (j00 (pv 6) j01)))))))
  (j04 (jby hr (pv 3) (pv 6) (j06 (jhn rfl) (by rfl) T.o9 y07 (j00 (pv 7) (j00 (jf1 hr (pv 3) (pv 6) (pv 7) ⟨rfl,rfl,rfl,rfl⟩) j01))) rfl))))))
  (j04 (j09 (j15 (["_law_state"]:List Str) (["_law_due"]:List Str) [3] rfl ⟨rfl,by decide +kernel,by decide +kernel,by rfl,⟨⟨rfl,by nofun,by nofun⟩,trivial⟩⟩ (j1o (j06 (cSoD3 hr rfl) (by rfl) T.cj xu (j00 (jim (pv 3)) j01))) (λ_ _ _ _=>⟨(j0d (i:=0) (by show((["_law_state"]:List Str)++(["_law_due"]:List Str)).Nodup;decide +kernel) rfl (by nofun)),(show PTs _ [] [] from trivial),(j1f (j00 (pv 0) (j00 (j5c hr (pv 1) (pv 0) (λ_ _=>rfl)) j01)))⟩)))))),?_⟩⟩
 have few:∀{vis:StG->Int->Prop}{acc:Row StG},Mins vis acc->(∀s q,vis s q->s∈L)->acc.length<=60:=λ{vis acc} h k=>by
  have:=jdb h.nd (m:=L) λs hs=>by
   obtain⟨y,hy⟩:=j2n hs;exact k _ _ (h.of s y hy)
  rw[y3]at this;omega
 exists jma g.T λfd H1 u1 n1 q1 d1 e1=>?_;exists⟨p,rfl,⟨_,SqL.of (e1 _ _ hp)⟩,j2t (xs:=zs) (λi σ H3=>∃(v1 v2 v3 v4:Option V) (uf:HO) (acc:Row StG),σ=[some (.ref gl),some (.ref p),some wv,some (.ref fd),v1,v2,v3,v4]/\Ext H H3/\H3 fd=some uf/\DU uf g.T (acc.map dkI)/\Mins (visR g x (ps.take i)) acc) ⟨none,none,none,none,_,[],rfl,e1,q1,d1,⟨y33,λs y hy=>(by cases hy),λs q ⟨e,he,_⟩=>(by cases he)⟩⟩ (λi σ H3 _ h=>by obtain⟨_,_,_,_,_,_,_,y,_⟩:=h;exact SqL.of (y _ _ hp)) ?_ ?_⟩
 ·rintro i y σ H3 hy hE;refine spl 10 hE ?_;clear hE;rintro v1 v2 v3 v4 uf acc rfl x3 qf df ac;obtain⟨⟨s,pd⟩,ey,cy,sv,rfl,gy,hs⟩:=hps.get hy;have hmem:=v6 ey;obtain⟨oks0,nds⟩:=oks _ hmem;have oks1:g.ok 30 s:=oks0;have gy3:=x3 _ _ gy;have et:ps.take (i+1)=ps.take i++[(s,pd)]:=by rw[xj,ey];rfl
  exists⟨gl,g,st,ws,s,x,sv,wv,30,rfl,GameV.mono x3 hG,wf,StG.mono x3 hs,WsG.mono x3 hx,oks1,nds,okx,by omega,λl vs as H4 q4 r4 l4 mm e4=>?_⟩;have qf4:=e4 _ _ qf;have nlf:l≠fd:=λz=>by
   rw[z,qf4]at q4;rw[gf q4]at df;generalize g.T=T at df;cases df
  have lv:=r4.len;exists⟨l,rfl,⟨_,SqL.of q4⟩,j2t (xs:=vs) (λj σ H5=>∃(v3 v4:Option V) (uf:HO) (acc:Row StG),σ=[some (.ref gl),some (.ref p),some wv,some (.ref fd),some sv,some (.int pd),v3,v4]/\But fd H4 H5/\H5 fd=some uf/\DU uf g.T (acc.map dkI)/\Mins (λt q=>visR g x (ps.take i) t q\/∃c,t∈as.take j/\g.to s x t c/\q=pd+c) acc) ⟨_,_,uf,acc,rfl,λb o _ h=>h,qf4,df,ac.iff λt q=>⟨.inl,λh=>h.resolve_right λ⟨c,h,_⟩=>by simp at h⟩⟩ (λj σ H5 _ h=>by obtain⟨_,_,_,_,_,b5,_⟩:=h;exact SqL.of (b5 _ _ nlf q4)) ?_ ?_⟩
  ·rintro j av σ H5 hy5 hE;refine spl 8 hE ?_;clear hE;rintro v3 v4 uf acc rfl b5 q5 du a5;obtain⟨aa,ea,ha⟩:=r4.get hy5;obtain⟨c,hto⟩:=(mm aa).mp (v6 ea);have oka:g.ok 31 aa:=Gm.dst_ok oks1 nds okx hto.1;have x5:Ext H H5:=Ext.but (x3.tr e4) b5 n1;have tk5:TK H4 H5:=j3z qf4 df b5;have ha5:aa.at_ H5 av:=StG.tk tk5 ha;have ka:=Gm.kd wf oka;have l60':acc.length<=60:=few a5 λt q h=>by
    rcases h with⟨e,he,c,ht,_⟩|⟨c,_,ht,_⟩
    ·exact hL e (vd he) t ht.1
    ·exact hL _ hmem t ht.1
   exists⟨gl,g,st,ws,s,aa,x,sv,wv,av,.int c,rfl,GameV.mono x5 hG,wf,StG.mono x5 hs,WsG.mono x5 hx,ha5,Gm.ok_mono oks1 (by omega),okx,Gm.ok_mono oka (by omega),hto.2,λH6 e6=>?_⟩;have q6:=e6 _ _ q5;have ha6:=StG.mono e6 ha5;have hk6:=(j5q (H:=H6) (v:=av) ka.2).mpr ha6;exists jmd ?_;exists⟨fd,rfl,du.isD (.inl q6),?_⟩;exists⟨_,hk6.get (.inl q6) du ka.1,?_⟩;rw[jfo,jn9];exists jcq q6 du ka.1 hk6 (by rw[y3];omega) λH7 u7 q7 d7 b7=>?_;have d7':DU u7 g.T ((putR acc aa (lowR acc aa (pd+c),none)).map dkI):=by rw[<- vI_put];exact d7
   refine⟨_,_,u7,_,rfl,λb o nb hb=>b7 b o nb (e6 b o (b5 b o nb hb)),q7,d7',(a5.step aa (pd+c)).iff λt q=>?_⟩;have em:as.take (j+1)=as.take j++[aa]:=by rw[xj,ea];rfl
   rw[em];constructor
   ·rintro((h|⟨c',h1,h2⟩)|⟨rfl,rfl⟩)
    ·exact .inl h
    ·exact .inr ⟨c',gr _ h1,h2⟩
    ·exact .inr ⟨c,yz _ (yb.mpr rfl),hto,rfl⟩
   ·rintro(h|⟨c',h1,h2,h3⟩)
    ·exact .inl (.inl h)
    ·rcases x0.mp h1 with h1|h1
     ·exact .inl (.inr ⟨c',h1,h2,h3⟩)
     ·have e:=yb.mp h1;subst e;have:=Gm.pp_uniq h2.2 hto.2;injection this with this;exact .inr ⟨rfl,by rw[h3,this]⟩
  ·rintro σ H5 hE;refine spl 8 hE ?_;clear hE;rintro v3 v4 uf acc rfl b5 q5 du a5;rw[<- lv,vk]at a5;refine⟨_,_,_,_,uf,acc,rfl,Ext.but (x3.tr e4) b5 n1,q5,du,a5.iff λt q=>?_⟩;rw[et];constructor
   ·rintro(⟨e,he,h⟩|⟨c,h1,h2,h3⟩)
    ·exact⟨e,gr _ he,h⟩
    ·exact⟨_,yz _ (yb.mpr rfl),c,h2,h3⟩
   ·rintro⟨e,he,c,h1,h2⟩;rcases x0.mp he with he|he
    ·exact .inl ⟨e,he,c,h1,h2⟩
    ·rw[yb.mp he]at h1 h2;exact .inr ⟨c,(mm t).mpr ⟨c,h1⟩,h1,h2⟩
 ·rintro σ H3 hE;refine spl 10 hE ?_;clear hE;rintro v1 v2 v3 v4 uf acc rfl x3 qf df ac;rw[<- hps.len,vk]at ac;have dst:∀s∈acc.map (·.1),∃e∈ps,g.dst e.1 x s:=λs hs=>by
   obtain⟨y,hy⟩:=j2n hs;obtain⟨e,he,c,ht,_⟩:=ac.of s y hy;exact⟨e,he,ht.1⟩
  have l60':acc.length<=60:=few ac λt q ⟨e,he,c,ht,_⟩=>hL e he t ht.1;have okk:∀s∈acc.map (·.1),g.ok 31 s:=λs hs=>by
   obtain⟨e,he,hd⟩:=dst s hs;exact Gm.dst_ok (oks e he).1 (oks e he).2 okx hd
  exists jq9 ?_;exists jix qf df λo H4 q4 b4=>?_;have x4:Ext H H4:=Ext.but x3 b4 n1;exists jjg (ks:=acc.map (·.1)) q4 df (by rw[xx,xx];rfl) ac.nd okk (λs hs=>?_) (by rw[y3];omega) λl zs' ss H5 n5 q5 r5 pm pw e5=>?_
  ·obtain⟨e,he,hd⟩:=dst s hs;exact⟨dst_ne wf (oks e he).1 okx hd,(Gm.kd wf (okk s hs)).2⟩
  have ls:=r5.len;have lp:=pm.length_eq;rw[y3]at lp;exists⟨l,rfl,⟨_,SqL.of q5⟩,λout hn _ _ _ _=>j1s (SqL.of q5) (by omega) hn (λj ys H6=>PsAt H6 ((ss.take j).map (rowV acc)) ys) trivial (λ_ _ _ _ k h=>h.keep k) (λj ys H' _ h=>by have:=AllR.len h;rw[y3,yn]at this;omega) ?_ ?_⟩
  ·rintro j sv ys H6 hy e hys Y N hY hN;obtain⟨s,es,hs⟩:=r5.get hy;have hm:=pm.mem_iff.mp (v6 es);obtain⟨v,hv⟩:=j2n hm;have ks:=Gm.kd wf (okk s hm);have hs6:=StG.mono e hs;exists j9b (.inr ⟨o,(e5.tr e) _ _ q4⟩) df ks.1 ((j5q ks.2).mpr hs6) (by rw[jfo,hv];rfl) ?_;symm;intro t H7 n7 q7 e7;refine hY _ _ e7 ?_;rw[xj,es];show PsAt H7 ((ss.take j++[s]).map _) _;rw[xh];refine AllR.snoc ⟨t,sv,rfl,?_,StG.mono e7 hs6⟩ (hys.keep e7.kp);rw[q7];show some (HO.tup [sv,V.int v.1])=some (.tup [sv,.int (rowV acc s).2]);unfold rowV;rw[hv];rfl
  ·rintro ys H6 e6 ha hys;rw[<- ls,vk]at hys;refine hq out ys _ H6 ha hys ⟨?_,λs c=>?_⟩ (x4.tr (e5.tr e6))
   ·rw[RisS,v7];exact pw
   rw[yk];constructor
   ·rintro⟨t,ht,k⟩;injection k with k1 k2;subst k1;obtain⟨v,hv⟩:=j2n (pm.mem_iff.mp ht);rw[hv]at k2;have k2':v.1=c:=k2;obtain⟨e,he,c',h1,h2⟩:=ac.of t v hv;refine⟨⟨e.1,e.2,c',he,h1,by rw[<- k2'];exact h2⟩,λb p q hb hto=>?_⟩;obtain⟨z,z1,z2⟩:=ac.met t (p+q) ⟨_,hb,q,hto,rfl⟩;rw[hv]at z1;cases z1;omega
   ·rintro⟨⟨b,p',q',hb,hto,rfl⟩,least⟩;obtain⟨v,hv,v2⟩:=ac.met s (p'+q') ⟨_,hb,q',hto,rfl⟩;obtain⟨e,he,c',h1,h2⟩:=ac.of s v hv;have:=least e.1 e.2 c' he h1;refine⟨s,pm.mem_iff.mpr ?_,?_⟩
    ·exact yk.mpr ⟨_,jdh hv,rfl⟩
    ·unfold rowV;rw[hv];show(s,v.1)=_;congr 1;omega
theorem TabU.each{g:Gm}{st:StG}{ws:List WsG}{R:List (List (StG×Int))}(h:TabU g st ws R):R.length=ws.length+1/\R[0]?=some [(st,0)]/\(∀j p,R[j]?=some p->∀e∈p,Rc g st (ws.take j) e.1)/\∀j w p q,ws[j]?=some w->R[j]?=some p->R[j+1]?=some q->NextP g w p q:=by
 induction h with
 |nil=>
  refine⟨rfl,rfl,λj p e=>?_,λj w p q e=>by simp at e⟩;have hj:j=0:=by have:=(yw.mp e).1;simpa using this
  subst hj;cases(gf e:_=p);exact λe he=>by rw[yb.mp he];exact .nil
 | @snoc ws w ts p q h1 h2 ih=>
  obtain⟨i1,i0,i2,i3⟩:=ih;have l1:(ts++[p]).length=ws.length+1:=i1;have lt:ts.length=ws.length:=by simp at l1;omega
  have ep:(ts++[p])[ts.length]?=some p:=by rw[yp (yg _),uq];rfl
  refine⟨by have:=l1;simp at this ⊢;omega,by rw[yv (by omega)];exact i0,λj x e=>?_,λj w' x y ew ex ey=>?_⟩
  ·by_cases c:j<(ts++[p]).length
   ·rw[yv c]at e;rw[y56 (by omega)];exact i2 j x e
   ·have hj:j=(ts++[p]).length:=(by have:=(yw.mp e).1;simp at this;simp at c ⊢;omega);rw[hj,yp (yg _),uq]at e;cases(gf e:q=x);intro y hy;obtain⟨⟨b,pb,qb,hb,ht,_⟩,_⟩:=(h2.2 y.1 y.2).mp hy;have:=i2 _ _ ep _ hb;rw[lt,vk]at this;rw[hj,l1,xg (by simp)];exact .snoc this ht.1
  ·by_cases c:j<ws.length
   ·rw[yv c]at ew;rw[yv (by omega)]at ex;rw[yv (by omega)]at ey;exact i3 j w' x y ew ex ey
   ·have hj:j=ws.length:=(by have:=(yw.mp ew).1;simp at this;omega);rw[hj,yp (yg _),uq]at ew;cases(gf ew:w=w');rw[yv (by omega),hj,<- lt,ep]at ex;cases ex;rw[yp (by omega),show j+1-(ts++[p]).length=0 by omega]at ey;cases(gf ey:q=y);exact h2
def pD(p:StG×Int):D:=.tup [sD p.1,.int p.2]
theorem sD_one{H:Hp}{s:StG}{v:V}(h:s.at_ H v):Rep H (sD s) v:=by
 cases s with
 |i z=>exact h
 |l ns=>obtain⟨p,rfl,hp⟩:=h;exact Rep.tupInts hp
 |t ss=>obtain⟨p,rfl,hp⟩:=h;exact jff hp
theorem jal{H:Hp}:∀{ps:List (StG×Int)}{vs:List V},PsAt H ps vs->RepL H (ps.map pD) vs
 |[],[],_=>RepL.nil
 |p::ps,v::vs,⟨⟨c,sv,h1,h2,h3⟩,h⟩=>by
  rw[h1];exact RepL.cons (Rep.tupI h2 (RepL.cons (sD_one h3) (RepL.cons .intI RepL.nil))) (jal h)
 |[],_::_,h=>h.elim
 |_::_,[],h=>h.elim
theorem jnf(s:StG):(sD s).fine=true:=by
 cases s with
 |i z=>rfl
 |l ns=>exact jbj ns
 |t ss=>exact fineTS ss
theorem ja1:∀ps:List (StG×Int),D.fineL (ps.map pD)=true
 |[]=>rfl
 |p::ps=>by
  show(D.fineL [sD p.1,.int p.2]&&D.fineL (ps.map pD))=true;rw[ja1 ps];show(((sD p.1).fine&&true)&&true)=true;rw[jnf];rfl
theorem jjj:∀ps:List (StG×Int),D.depthL (ps.map pD)<=2
 |[]=>by decide
 |p::ps=>by
  have:=jjj ps;have h1:=jmw [p.1];have h2:max (sD p.1).depth 0<=1:=h1;show max (max (sD p.1).depth (max 0 0)+1) (D.depthL (ps.map pD))<=2;omega
theorem jng(ps:List (StG×Int)):yb4 (D.lst (ps.map pD)).depth 5=true:=y7z (by
 have:=jjj ps;show D.depthL (ps.map pD)+1<=5;omega)
def j4y:Sp:=λus H Q _=>∃(gl fl:Addr) (g:Gm) (st:StG) (ws:List WsG) (ts:List (List (StG×Int))) (vs:List V),us=[.ref fl,.ref gl]/\GameV H gl g st ws/\jfh g st ws/\Fit g st ws/\H fl=some (.lst vs)/\AllR (LsAt H) ts vs/\TabU g st ws ts/\∀H',Ext H H'->Q (.bl true) H'
theorem jam(T:Txt K mg a):FnOk P w K mg base (CXU P w) 13 a.f43 a.d43 ["_law_found","_law_game_here"] (j4y):=by
 refine T.F43.okU1 jmn λvs H Q E h=>?_;unfold j4y at h;refine spl 14 h ?_;clear h;rintro gl fl g st ws ts vs rfl hG ⟨wf,ok4,okw,l12⟩ hfit hf hts tab hq;refine⟨rfl,λ_ _ _ _ hr=>⟨_,(j03 (j17 (PW.pt (jnl (j7j (ptT (j06 jbk (by rfl) T.c3 gg (j00 (pv 0) (j00 (j1u (v:=V.ty "list") (by rfl) T.mj va rfl) j01))) (λ_=>rfl))) (jdv (j0a jh7 (j06 j2e (by rfl) T.cr xn (j00 (pv 0) j01)) (j0b j0t (j06 j2e (by rfl) T.cr xn (j00 (j0n oIx (pv 1) j02 (λ_ _=>rfl)) j01)) j02) (j0f _))))) (j04 (j09 jft)) j0c)
  (j03 (j17 (j7j (ptT (j16 (j23 T) hr T.F44 (T.F44.b2) (j00 (j0n oIx (pv 0) j02 (λ_ _=>rfl)) (j00 (j0r (j00 (j1f (j00 (j0n oIx (pv 1) j02 (λ_ _=>rfl)) (j00 j02 j01))) j01)) j01))) (λ_=>rfl))) (j04 (j09 jft)) j0c)
  (j03 (j1t vh rfl (j0k rfl T.c8 (j00 (j06 j2e (by rfl) T.cr xn (j00 (j0n oIx (pv 1) j02 (λ_ _=>rfl)) j01)) j01)) (j0d (i:=2) jmn.nd rfl (by nofun)) (j04 (j17 (j7j (ptT (j16 (j23 T) hr T.F44 (T.F44.b2) (j00 (j0n oIx (pv 0) (j0b j0t (pv 2) j02) (λ_ _=>rfl)) (j00 (j16 (jdo T) hr T.F46 (T.F46.b3) (j00 (pv 1) (j00 (j0n oIx (pv 0) (pv 2) (λ_ _=>rfl)) (j00 (j0n oIx (j0n oIx (pv 1) j02 (λ_ _=>rfl)) (pv 2) (λ_ _=>rfl)) j01)))) j01))) (λ_=>rfl))) (j04 (j09 jft)) j0c)))
  (j04 (j09 jft))))),?_⟩⟩
 obtain⟨gv,sv,wl,wvs,hg,hpv,hst,hwl,hws⟩:=id hG;obtain⟨lt,t0,trc,tnx⟩:=tab.each;have ndst:=hfit.nd ok4;have lv:=hts.len;have lw:=hws.len;have kf:HasK H (.ref fl) .lst:=.l hf;exists jhq kf ?_;exists j1l hf ?_;exists j0g hg rfl ?_;exists j1l hwl ?_;exists iteN (λz=>absurd z (by omega)) (λ_=>?_);obtain⟨v0,ev0⟩:∃v0,vs[0]?=some v0:=⟨vs[0]'(by omega),y4 (by omega)⟩
 obtain⟨p0,ep0,f0,z0,rfl,hf0,hp0⟩:=hts.get ev0;rw[t0]at ep0;cases ep0;exists j0g hf (jfn (i:=0) rfl ev0) ?_;exists j0g hg rfl ?_;symm;intro l1 H1 n1 q1 e1;symm;intro l2 H2 n2 q2 e2;have x2:=e1.tr e2;exists j5r (d:=.lst ([(st,(0:Int))].map pD)) (Rep.lstI (x2 _ _ hf0) (jal (hp0.keep x2.kp))) (Rep.lstI q2 (jal (show PsAt H2 [(st,(0:Int))] [V.ref l1] from⟨⟨l1,sv,rfl,e2 _ _ q1,StG.mono x2 hst⟩,trivial⟩))) (ja1 _) (jng _) λH3 e3=>?_;have x3:=x2.tr e3;exists j0g (x3 _ _ hg) rfl ?_;exists j1l (x3 _ _ hwl) ?_;exists⟨_,rfl,by omega,by omega,j12 (λi σ H4=>(∃u,σ=[some (.ref fl),some (.ref gl),u])/\Ext H H4) ⟨⟨none,rfl⟩,x3⟩ ?_ ?_⟩
 ·rintro i σ H4 hi ⟨⟨u,rfl⟩,x4⟩;rw[show((0:Int)+(i:Nat))=(i:Nat) by omega];have hi':i<ws.length:=by omega
  obtain⟨v1,ev1⟩:∃v1,vs[i]?=some v1:=⟨vs[i]'(by omega),y4 (by omega)⟩
  obtain⟨v2,ev2⟩:∃v2,vs[i+1]?=some v2:=⟨vs[i+1]'(by omega),y4 (by omega)⟩
  obtain⟨wv,ewv⟩:∃wv,wvs[i]?=some wv:=⟨wvs[i]'(by omega),y4 (by omega)⟩
  obtain⟨ps,eps,f1,z1,rfl,hf1,hp1⟩:=hts.get ev1;obtain⟨qs,eqs,f2,z2,rfl,hf2,hp2⟩:=hts.get ev2;obtain⟨x,ex,hx⟩:=hws.get ewv;have et:ws.take (i+1)=ws.take i++[x]:=by rw[xj,ex];rfl
  obtain⟨L,L60,hL⟩:=jde (ws:=ws.take (i+1)) (us:=ws.drop (i+1)) wf ok4 (by rw[gu];exact okw) (by rw[gu];exact hfit);exists j0g (x4 _ _ hf) (jfn (i:=i+1) (by omega) ev2) ?_;exists j0g (x4 _ _ hf) (jfn (i:=i) (by omega) ev1) ?_;exists j0g (x4 _ _ hg) rfl ?_;exists j0g (x4 _ _ hwl) (jfn (i:=i) (by omega) ewv) ?_;exists⟨gl,f1,wv,g,st,ws,x,ps,z1,L,rfl,GameV.mono x4 hG,wf,x4 _ _ hf1,hp1.keep x4.kp,λe he=>?_,WsG.mono x4 hx,okw x (v6 ex),L60,λe he s hs=>hL s ?_,λl zs' qs' H5 q5 p5 nx e5=>?_⟩
  ·obtain⟨k1,k2⟩:=(trc i ps eps e he).ok ok4 ndst λy hy=>okw y (vd hy);exact⟨Gm.ok_mono k1 (by rw[yn];omega),k2⟩
  ·rw[et];exact .snoc (trc i ps eps e he) hs
  obtain rfl:=nx.uniq (tnx i x ps qs ex eps eqs);have x5:=x4.tr e5;exists j5r (d:=.lst (qs'.map pD)) (Rep.lstI (x5 _ _ hf2) (jal (hp2.keep x5.kp))) (Rep.lstI q5 (jal p5)) (ja1 _) (jng _) λH6 e6=>?_;symm;exact⟨⟨_,rfl⟩,x5.tr e6⟩
 ·rintro σ H4 ⟨⟨u,rfl⟩,x4⟩;symm;exact hq H4 x4
def j46(a:Adr):Sp:=λvs H Q _=>∃x dx v,vs=[.ref x,v]/\H x=some (.ins a.cu dx [])/\∀H',H' x=some (.ins a.cu dx [("room",v)])->But x H H'->Q .non H'
theorem j8a(T:Txt K mg a):FnOk P w K mg base (CXU P w) 1 a.f28 a.d28 ["self","room"] (j46 a):=by
 refine T.F28.okU1 sc28 λvs H Q E h=>?_;unfold j46 at h;refine spl 5 h ?_;clear h;rintro x dx v rfl hx hq;have qj:=T.mh;have nu:=T.da;refine⟨rfl,λ_ _ _ _ hr=>⟨_,(j04 (j7k (pv 0) (pv 1) rfl)),?_⟩⟩;exists jhp hx T.mh T.da (j7r rfl) λH' h1 h2=>?_;exact hq H' h1 h2
def j3e(a:Adr):Sp:=λvs H Q _=>∃x dx v,vs=[.ref x,v]/\H x=some (.ins a.c9 dx [])/\∀H',H' x=some (.ins a.c9 dx [("many",v)])->But x H H'->Q .non H'
theorem j7b(T:Txt K mg a):FnOk P w K mg base (CXU P w) 1 a.f19 a.d19 ["self","many"] (j3e a):=by
 refine T.F19.okU1 sc19 λvs H Q E h=>?_;unfold j3e at h;refine spl 5 h ?_;clear h;rintro x dx v rfl hx hq;have ot:=T.tj;have mt:=T.ck;have o7:=T.dh;have mr:=T.cf;have o0:=T.dm;have my:=T.cq;refine⟨rfl,λ_ _ _ _ hr=>⟨_,(j04 (j7k (pv 0) (pv 1) rfl)),?_⟩⟩;exists jhp hx T.dh T.cf (j7r rfl) λH' h1 h2=>?_;exact hq H' h1 h2
def j47(a:Adr):Sp:=λvs H Q _=>∃x dx v u,vs=[.ref x,v,u]/\H x=some (.ins a.cg dx [])/\∀H',H' x=some (.ins a.cg dx [("many",v),("toll",u)])->But x H H'->Q .non H'
theorem j8b(T:Txt K mg a):FnOk P w K mg base (CXU P w) 1 a.f31 a.d31 ["self","many","toll"] (j47 a):=by
 refine T.F31.okU1 sc31 λvs H Q E h=>?_;unfold j47 at h;refine spl 6 h ?_;clear h;rintro x dx v u rfl hx hq;have ot:=T.tj;have mt:=T.ck;have o7:=T.dh;have mr:=T.cf;have o0:=T.dm;have my:=T.cq;have oz:=T.dj;refine⟨rfl,λ_ _ _ _ hr=>⟨_,(j03 (j7k (pv 0) (pv 1) rfl)
  (j04 (j7k (pv 0) (pv 2) rfl))),?_⟩⟩
 exists jhp hx T.dm T.cq (j7r rfl) λH1 h1 b1=>?_;exists jhp h1 T.dm T.dj (j7r rfl) λH2 h2 b2=>?_;exact hq H2 h2 (b1.tr b2)
def j3f(a:Adr):Sp:=λvs H Q _=>∃x dx v,vs=[.ref x,v]/\H x=some (.ins a.c7 dx [])/\∀H',H' x=some (.ins a.c7 dx [("things",v)])->But x H H'->Q .non H'
theorem j7c(T:Txt K mg a):FnOk P w K mg base (CXU P w) 1 a.f18 a.d18 ["self","things"] (j3f a):=by
 refine T.F18.okU1 sc18 λvs H Q E h=>?_;unfold j3f at h;refine spl 5 h ?_;clear h;rintro x dx v rfl hx hq;have zc_Shelf:=T.mi;have qk:=T.cx;refine⟨rfl,λ_ _ _ _ hr=>⟨_,(j04 (j7k (pv 0) (pv 1) rfl)),?_⟩⟩;exists jhp hx T.mi T.cx (j7r rfl) λH' h1 h2=>?_;exact hq H' h1 h2
def j48(a:Adr):Sp:=λvs H Q _=>∃x dx v,vs=[.ref x,v]/\H x=some (.ins a.cw dx [])/\∀H',H' x=some (.ins a.cw dx [("many",v)])->But x H H'->Q .non H'
theorem j8c(T:Txt K mg a):FnOk P w K mg base (CXU P w) 1 a.f30 a.d30 ["self","many"] (j48 a):=by
 refine T.F30.okU1 sc30 λvs H Q E h=>?_;unfold j48 at h;refine spl 5 h ?_;clear h;rintro x dx v rfl hx hq;have ot:=T.tj;have mt:=T.ck;have o7:=T.dh;have mr:=T.cf;have o0:=T.dm;have my:=T.cq;refine⟨rfl,λ_ _ _ _ hr=>⟨_,(j04 (j7k (pv 0) (pv 1) rfl)),?_⟩⟩;exists jhp hx T.tj T.ck (j7r rfl) λH' h1 h2=>?_;exact hq H' h1 h2
def j49(a:Adr):Sp:=λus H Q _=>∃(gl:Addr) (g:Gm) (st:StG) (ws:List WsG),us=[.ref gl]/\GameV H gl g st ws/\∀r H',WoP a H' g r->Ext H H'->Q (.ref r) H'
theorem j8d(T:Txt K mg a):FnOk P w K mg base (CXU P w) 3 a.f40 a.d40 ["_law_game_here"] (j49 a):=by
 refine T.F40.okU1 sc40 λvs H Q E h=>?_;unfold j49 at h;refine spl 6 h ?_;clear h;rintro gl g st ws rfl ⟨gv,sv,wl,wvs,hg,hpv,_⟩ hq;refine⟨rfl,λ_ _ _ _ hr=>⟨_,(j03 (j17 (j0a (oEq hr) (j0n oIx (pv 0) j02 (λ_ _=>rfl)) j02 (j0f _)) (j04 (j09 (j3n T.nk (j43 T) (hr.mono (by decide)) (by rfl) T.m_Hire (T.F29.b2) .nil j24 (j00 (j0n oIx (pv 0) j02 (λ_ _=>rfl)) j01)))) j0c)
  (j03 (j17 (j0a (oEq hr) (j0n oIx (pv 0) j02 (λ_ _=>rfl)) j02 (j0f _)) (j04 (j09 (j3n T.nt (j8c T) (hr.mono (by decide)) (by rfl) T.m_Line (T.F30.b2) .nil j24 (j00 (j0n oIx (pv 0) j02 (λ_ _=>rfl)) j01)))) j0c)
  (j03 (j17 (j0a (oEq hr) (j0n oIx (pv 0) j02 (λ_ _=>rfl)) j02 (j0f _)) (j04 (j09 (j3n T.ng (j7c T) (hr.mono (by decide)) (by rfl) T.m_Shelf (T.F18.b2) .nil j24 (j00 (j0n oIx (pv 0) j02 (λ_ _=>rfl)) j01)))) j0c)
  (j03 (j17 (j0a (oEq hr) (j0n oIx (pv 0) j02 (λ_ _=>rfl)) j02 (j0f _)) (j04 (j09 (j3n T.nn (j8b T) (hr.mono (by decide)) (by rfl) T.m_Ways (T.F31.b3) .nil j24 (j00 (j0n oIx (j0n oIx (pv 0) j02 (λ_ _=>rfl)) j02 (λ_ _=>rfl)) (j00 (j0n oIx (j0n oIx (pv 0) j02 (λ_ _=>rfl)) j02 (λ_ _=>rfl)) j01))))) j0c)
  (j03 (j17 (j0a (oEq hr) (j0n oIx (pv 0) j02 (λ_ _=>rfl)) j02 (j0f _)) (j04 (j09 (j3n T.ni (j7b T) (hr.mono (by decide)) (by rfl) T.m_Store (T.F19.b2) .nil j24 (j00 (j0n oIx (pv 0) j02 (λ_ _=>rfl)) j01)))) j0c)
  (j04 (j09 (j3n T.nq (j8a T) (hr.mono (by decide)) (by rfl) T.m_Bags (T.F28.b2) .nil j24 (j00 (j0n oIx (pv 0) j02 (λ_ _=>rfl)) j01))))))))),?_⟩⟩
 cases g with
 |hire W=>
  have hg':H gl=some (.lst [.int 0,gv,sv,.ref wl]):=hg;obtain rfl:gv=.int W:=hpv;exists j0g hg' rfl ?_;exists j0g hg' rfl ?_;symm;intro r dr k1 k2 k3;refine⟨r,dr,_,rfl,j07,λH2 hr2 b2=>⟨rfl,?_⟩⟩;have x2:Ext H H2:=λb o h=>b2 b o (j08 h k1) (by rw[j0i (j08 h k1),j0i (j08 h k2)];exact h);symm;exact hq r H2 ⟨dr,hr2⟩ x2
 |line m=>
  have hg':H gl=some (.lst [.int 1,gv,sv,.ref wl]):=hg;obtain rfl:gv=.int (m:Nat):=hpv;exists j0g hg' rfl ?_;exists j0g hg' rfl ?_;exists j0g hg' rfl ?_;symm;intro r dr k1 k2 k3;refine⟨r,dr,_,rfl,j07,λH2 hr2 b2=>⟨rfl,?_⟩⟩;have x2:Ext H H2:=λb o h=>b2 b o (j08 h k1) (by rw[j0i (j08 h k1),j0i (j08 h k2)];exact h);symm;exact hq r H2 ⟨dr,hr2⟩ x2
 |shelf ts=>
  have hg':H gl=some (.lst [.int 2,gv,sv,.ref wl]):=hg;obtain⟨tp,rfl,_⟩:=hpv;exists j0g hg' rfl ?_;exists j0g hg' rfl ?_;exists j0g hg' rfl ?_;exists j0g hg' rfl ?_;symm;intro r dr k1 k2 k3;refine⟨r,dr,_,rfl,j07,λH2 hr2 b2=>⟨rfl,?_⟩⟩;have x2:Ext H H2:=λb o h=>b2 b o (j08 h k1) (by rw[j0i (j08 h k1),j0i (j08 h k2)];exact h);symm;exact hq r H2 ⟨dr,_,hr2⟩ x2
 |wys m t=>
  have hg':H gl=some (.lst [.int 3,gv,sv,.ref wl]):=hg;obtain⟨tp,rfl,htp⟩:=hpv;exists j0g hg' rfl ?_;exists j0g hg' rfl ?_;exists j0g hg' rfl ?_;exists j0g hg' rfl ?_;exists j0g hg' rfl ?_;exists j4e htp rfl ?_;exists j0g hg' rfl ?_;exists j4e htp rfl ?_;symm;intro r dr k1 k2 k3;refine⟨r,dr,_,_,rfl,j07,λH2 hr2 b2=>⟨rfl,?_⟩⟩;have x2:Ext H H2:=λb o h=>b2 b o (j08 h k1) (by rw[j0i (j08 h k1),j0i (j08 h k2)];exact h);symm;exact hq r H2 ⟨dr,hr2⟩ x2
 |store m=>
  have hg':H gl=some (.lst [.int 4,gv,sv,.ref wl]):=hg;obtain rfl:gv=.int (m:Nat):=hpv;exists j0g hg' rfl ?_;exists j0g hg' rfl ?_;exists j0g hg' rfl ?_;exists j0g hg' rfl ?_;exists j0g hg' rfl ?_;exists j0g hg' rfl ?_;symm;intro r dr k1 k2 k3;refine⟨r,dr,_,rfl,j07,λH2 hr2 b2=>⟨rfl,?_⟩⟩;have x2:Ext H H2:=λb o h=>b2 b o (j08 h k1) (by rw[j0i (j08 h k1),j0i (j08 h k2)];exact h);symm;exact hq r H2 ⟨dr,hr2⟩ x2
 |bags R=>
  have hg':H gl=some (.lst [.int 5,gv,sv,.ref wl]):=hg;obtain rfl:gv=.int R:=hpv;exists j0g hg' rfl ?_;exists j0g hg' rfl ?_;exists j0g hg' rfl ?_;exists j0g hg' rfl ?_;exists j0g hg' rfl ?_;exists j0g hg' rfl ?_;symm;intro r dr k1 k2 k3;refine⟨r,dr,_,rfl,j07,λH2 hr2 b2=>⟨rfl,?_⟩⟩;have x2:Ext H H2:=λb o h=>b2 b o (j08 h k1) (by rw[j0i (j08 h k1),j0i (j08 h k2)];exact h);symm;exact hq r H2 ⟨dr,hr2⟩ x2
def j4a:Sp:=λvs H Q _=>∃c k,vs=[.int c,.int k]/\0<=k/\k<=1000000/\∀n,0<=n->n<2147483629->Q (.int n) H
theorem j0l(T:Txt K mg a):FnOk P w K mg base (CXU P w) 1 a.f34 a.d34 ["_law_cell_here","_law_k"] (j4a):=by
 refine T.F34.okU1 jmo λvs H Q E h=>?_;unfold j4a at h;refine spl 5 h ?_;clear h;rintro c k rfl h0 h1 hq;refine⟨rfl,λ_ _ _ _ hr=>⟨_,(j03 (j0j (i:=2) jmo.nd rfl (by nofun) (j0b j0q (j0b j0t (j0b j0t (j0b jap (j0b j0q (pv 0) j02) j02) (j0b jap (j0b jap j02 (pv 1)) (pv 1))) j02) j02))
  (j04 (j09 (j0b j0q (j0b jap (pv 2) (pv 2)) j02)))),?_⟩⟩
 symm;exact hq _ (by omega) (by omega)
def j7d:Sp:=λvs H Q _=>∃c k,vs=[.int c,.int k]/\0<=k/\k<=1000000/\ib c<=1048577/\∀n,0<=n->n<=1000000000000000000->Q (.int n) H
theorem j4b(T:Txt K mg a):FnOk P w K mg base (CXU P w) 2 a.f47 a.d47 ["_law_cell_here","_law_k"] (j7d):=by
 refine T.F47.okU1 jmp λvs H Q E h=>?_;unfold j7d at h;refine spl 6 h ?_;clear h;rintro c k rfl h0 h1 hb hq;refine⟨rfl,λ_ _ _ _ hr=>⟨_,(j03 (j0j (i:=2) jmp.nd rfl (by nofun) (j16 (j0l T) hr T.F34 (T.F34.b2) (j00 (pv 0) (j00 (pv 1) j01))))
  (j03 (j17 (j0a (oEq hr) (j0b j0q (pv 2) j02) j02 (j0f _)) (j04 (j09 (j0b j0q (j0b j0o (pv 2) j02) j02))) j0c)
  (j03 (j17 (j0a (oEq hr) (j0b j0q (pv 2) j02) j02 (j0f _)) (j04 (j09 (j0b j0q (j0b j0o (pv 2) j02) (j0b j53 j02 j02)))) j0c)
  (j04 (j09 (j0b j0q (j0b jap (j0b j0t (pv 0) (pv 2)) (j0b j53 j02 j02)) (j0b j0t (j0b j53 j02 j02) j02))))))),?_⟩⟩
 exists⟨c,k,rfl,h0,h1,λn n0 n1=>?_⟩;exists iteD (λh=>?_) (λh=>?_)
 ·symm;exact hq _ (by omega) (by omega)
 ·exists iteD (λh=>?_) (λh=>?_)
  ·symm;exact hq _ (by omega) (by omega)
  ·exists jg6 (mulM hb n0 n1) ?_;symm;exact hq _ (by omega) (by omega)
def j8e:Sp:=λus H Q _=>∃h p cs,jjs us H h p cs/\jgo H Q
theorem at4s{n:Int}(r1:1<=R):∃m:Int,atI [V.int (1+n/4%R),V.int (R/2),V.int (R/3+1),V.int (R-R/2)] (n%4)=some (.int m):=by
 have h0:n%4=0\/n%4=1\/n%4=2\/n%4=3:=by omega
 rcases h0 with e|e|e|e<;>rw[e]<;>exact⟨_,rfl⟩
theorem at4k(n:Int):∃k:Nat,atI [V.int 0,V.int 0,V.int 1,V.int 2] (n%4)=some (.int (k:Nat))/\k<=2:=by
 have h0:n%4=0\/n%4=1\/n%4=2\/n%4=3:=by omega
 rcases h0 with e|e|e|e<;>rw[e]
 ·exact⟨0,rfl,by omega⟩
 ·exact⟨0,rfl,by omega⟩
 ·exact⟨1,rfl,by omega⟩
 ·exact⟨2,rfl,by omega⟩
theorem jjk{ss:List Int}(h:i+j<=ss.length):cutV (ss.map V.int) (some (i:Int)) (some ((i:Int)+(j:Int)))=((ss.drop i).take j).map V.int:=by
 unfold cutV;rw[show((i:Int)+(j:Int))=((i+j:Nat):Int) by omega,HT.sIx_nat,HT.sIx_nat,y3,u5 h,u5 (show i<=ss.length by omega),show i+j-i=j by omega,y2r,y2q]
theorem j8f(T:Txt K mg a):FnOk P w K mg base (CXU P w) 3 a.f38 a.d38 ["_law_head","_law_cells"] (j8e):=by
 refine T.F38.okU1 j80 λvs H Q E h=>?_;obtain⟨h,p,cs,⟨rfl,h0,h1,hp,hl,hc⟩,hq⟩:=h;refine⟨rfl,λ_ _ _ _ hr=>⟨_,(j03 (j0j (i:=2) j80.nd rfl (by nofun) (j0b j0t j02 (j0b j0q (j16 (j4b T) hr T.F47 (T.F47.b2) (j00 (pv 0) (j00 j02 j01))) (j0b j53 j02 j02))))
  (j03 (j0j (i:=3) j80.nd rfl (by nofun) (j0r j01))
  (j03 (j1t vh rfl (j0k rfl T.c8 (j00 j02 j01)) (j0d (i:=4) j80.nd rfl (by nofun)) (j03 (j0j (i:=5) j80.nd rfl (by nofun) (j16 (j0l T) hr T.F34 (T.F34.b2) (j00 (j0n oIx (j0b j0t (j0e jg4 (by rfl) T.mj va (j00 (pv 1) j01)) (j0b op_rep (j0r (j00 j02 j01)) j02)) (pv 4) (λ_ _=>rfl)) (j00 (pv 4) j01))))
  (j03 (j0j (i:=6) j80.nd rfl (by nofun) (j0n oIx (j0r (j00 (j0b j0t j02 (j0b j0q (j0b j0o (pv 5) j02) (pv 2))) (j00 (j0b j0o (pv 2) j02) (j00 (j0b j0t (j0b j0o (pv 2) j02) j02) (j00 (j0b j4g (pv 2) (j0b j0o (pv 2) j02)) j01))))) (j0b j0q (pv 5) j02) (λ_ _=>rfl)))
  (j04 (j25 (jao gn u6 u8 j1e (pv 3) (j00 (j06 (joo rfl) (by rfl) T.qx y4s (j00 j02 (j00 (j06 (jhn rfl) (by rfl) T.o9 y07 (j00 (pv 2) (j00 (pv 6) j01))) j01))) j01)))))))
  (j03 (j0j (i:=7) j80.nd rfl (by nofun) (j0n oIx (j0r (j00 j02 (j00 j02 (j00 j02 (j00 j02 j01))))) (j0b j0q (j0b j0o (pv 0) j02) j02) (λ_ _=>rfl)))
  (j04 (j09 (j0r (j00 j02 (j00 (pv 2) (j00 (j0e j2d (by rfl) T.dc xq (j00 (j06 j3h (by rfl) T.cj xu (j00 (j0s oSl (pv 3) (j0z j02) (j0z (j0b j0t j02 (pv 7)))) j01)) j01)) (j00 (j0s oSl (pv 3) j18 (j0z (j06 (jhn rfl) (by rfl) T.o9 y07 (j00 (j0b j4g j02 (pv 7)) (j00 (j06 j2e (by rfl) T.cr xn (j00 (pv 1) j01)) j01))))) j01))))))))))),?_⟩⟩
 exists⟨h,60,rfl,by decide,by decide,ibh h0 h1,λt t0 t1=>?_⟩;obtain⟨R,eR,r1⟩:∃R:Int,1+t%1000000000000000000=R/\1<=R:=⟨_,rfl,by omega⟩
 symm;rw[eR];intro l1 H1 n1 q1 e1;exists⟨_,rfl,by omega,by omega,j12 (λi σ H2=>∃(u1 u2 u3 u4:Option V) (ns:List Int),σ=[some (.int h),some (.ref p),some (.int R),some (.ref l1),u1,u2,u3,u4]/\Ext H H2/\H2 l1=some (.lst (ns.map V.int))/\ns.length=i/\∀x∈ns,1<=x/\x<=R) ⟨none,none,none,none,[],rfl,e1,q1,rfl,λx hx=>by cases hx⟩ ?_ ?_⟩
 ·rintro i σ H2 hi hE;refine spl 9 hE ?_;clear hE;rintro u1 u2 u3 u4 ns rfl x2 q2 ln hn;rw[show((0:Int)+(i:Nat))=(i:Nat) by omega];have hp2:=x2 _ _ hp;exists jbm hp2 λl3 H3 n3 q3 e3=>?_;symm;intro l4 H4 n4 q4 e4;exists r_rep1 q4 (by decide) (by decide) λl5 H5 n5 q5 e5=>?_;exists j93 ((e4.tr e5) _ _ q3) q5 (by simp;omega) λl6 H6 n6 q6 e6=>?_;rw[show cs.map V.int++xk (Int.toNat 7) (V.int 0)=(cs++xk 7 0).map V.int by simp]at q6;have i1:=j0x (ns:=cs++xk 7 0) (k:=(i:Nat)) (by omega) (by simp;omega);exists j0g q6 i1 ?_;exists⟨_,_,rfl,by omega,by omega,λn n0 nb=>?_⟩;obtain⟨sz,hsz⟩:=at4s (n:=n) r1;symm;intro l7 H7 n7 q7 e7;exists j0g q7 hsz ?_;have x27:=e3.tr (e4.tr (e5.tr (e6.tr e7)));have q27:=x27 _ _ q2;exists j1q q27 (by rw[y3];omega) λH8 q8 b8=>?_;exists⟨_,_,_,_,ns++[max 1 (min R sz)],rfl,Ext.but (x2.tr x27) b8 n1,by rw[q8,xh];rfl,by simp[ln],λx hx=>?_⟩;rcases x0.mp hx with z|z
  ·exact hn x z
  ·rw[yb.mp z];omega
 ·rintro σ H2 hE;refine spl 9 hE ?_;clear hE;rintro u1 u2 u3 u4 ns rfl x2 q2 ln hn;have ln':ns.length=7:=by omega
  obtain⟨k,hk,k2⟩:=at4k (h/6);symm;intro l3 H3 n3 q3 e3;exists j0g q3 hk ?_;have q23:=e3 _ _ q2;exists jjr q23 λl4 H4 n4 q4 e4=>?_;rw[show(some (5:Int))=some ((5:Nat):Int)from rfl,show(some ((5:Int)+(k:Int)))=some (((5:Nat):Int)+(k:Int))from rfl,jjk (by omega)]at q4;exists jm6 q4 (by rw[yn];omega) λl5 s5 H5 n5 p5 o5 q5 e5=>?_;exists j0w q5 λl6 H6 n6 q6 e6=>?_;have x36:=e4.tr (e5.tr e6);have hp6:=(x2.tr (e3.tr x36)) _ _ hp;exists j1l hp6 ?_;rw[y3];exists jjr (x36 _ _ q23) λl7 H7 n7 q7 e7=>?_;obtain⟨c,ec,c5⟩:∃c:Nat,min (5-(k:Int)) (cs.length:Int)=c/\k+c<=5:=⟨(min (5-(k:Int)) (cs.length:Int)).toNat,by omega,by omega⟩
  rw[ec,jgp (by omega)]at q7;symm;intro gl H8 n8 q8 e8;have x8:=e7.tr e8;have pm:∀x∈s5,1<=x/\x<=R:=λx hx=>hn x (y0i (vd (p5.mem_iff.mp hx)));have l5':s5.length<=4:=by rw[p5.length_eq,yn];omega
  exact hq gl (.bags R) (.l s5) ((ns.take c).map .i) H8 ((x2.tr (e3.tr (x36.tr e7))).free n8) ⟨_,_,l7,_,q8,rfl,⟨l6,rfl,x8 _ _ q6⟩,e8 _ _ q7,jnu _⟩ ⟨r1,⟨s5,rfl,⟨o5,pm⟩,l5'⟩,jj9 λx hx=>⟨x,rfl,hn x (vd hx)⟩,by rw[y3,yn];omega⟩ (show s5.length+((ns.take c).map WsG.i).length<=5 by rw[p5.length_eq,y3,yn,yn,vj];omega) (x2.tr (e3.tr (x36.tr x8)))
theorem wd_let{c d:Nat}(h:a0<size)(e:wdS 0 size f a0 c 0=wdS 0 size f a0 d 0):c%26=d%26:=by
 have e1:wdN 0 size f a0 c 0=wdN 0 size f a0 d 0:=by simpa[wdS] using e
 unfold wdN at e1;rw[if_neg (by decide),if_pos rfl,if_neg (by decide)]at e1;have:=(List.append_inj e1 rfl).2;injection this with this;omega
def j4c:Sp:=λvs H Q _=>∃(n m:Int),vs=[.int n,.int m]/\0<=n/\1<=m/\m<=8/\∀l (ss:List Str) H',H l=none->H' l=some (.lst (ss.map V.str))->(∀s∈ss,nmS s=true)->(ss.length:Int)=m->ss.Nodup->Ext H H'->Q (.ref l) H'
theorem j4d(T:Txt K mg a):FnOk P w K mg base (CXU P w) 1 a.f35 a.d35 ["_law_number","_law_many"] (j4c):=by
 refine T.F35.okU1 j6n λvs H Q E h=>?_;unfold j4c at h;refine spl 6 h ?_;clear h;rintro n m rfl n0 m1 m8 hq;refine⟨rfl,λ_ _ _ _ hr=>⟨_,(j03 (j0j (i:=2) j6n.nd rfl (by nofun) (j0b j0t j02 (j0b j0q (pv 0) j02)))
  (j03 (j0j (i:=3) j6n.nd rfl (by nofun) (j0b j0q (j0b j0o (pv 0) j02) (pv 2)))
  (j03 (j0j (i:=4) j6n.nd rfl (by nofun) pe_str)
  (j03 (j0j (i:=5) j6n.nd rfl (by nofun) (j0n oIx (pv 4) (j0b j0q (j0b j0o (pv 0) j02) j02) (λ_ _=>rfl)))
  (j03 (j0j (i:=6) j6n.nd rfl (by nofun) (j0r j01))
  (j03 (j1t vh rfl (j0k rfl T.c8 (j00 (pv 1) j01)) (j0d (i:=7) j6n.nd rfl (by nofun)) (j03 (j0j (i:=8) j6n.nd rfl (by nofun) (j0n oIx (pv 4) (j0b j0q (j0b j0t (j0b j0o (pv 0) j02) (j0b jap j02 (pv 7))) j02) (λ_ _=>rfl)))
  (j04 (j25 (jao gn u6 u8 j1e (pv 6) (j00 (j0b j0t (j0b j0t (j0b jap (pv 5) (pv 3)) (pv 8)) (j0b jap (pv 5) (j0b j4g (j0b j4g (pv 2) (pv 3)) j02))) j01))))))
  (j04 (j09 (pv 6))))))))),?_⟩⟩
 have f0:0<=n/64%26:=by omega
 have f1:n/64%26<26:=by omega
 obtain⟨size,es,s1,s8⟩:∃size:Nat,1+n%8=size/\1<=size/\size<=8:=⟨(1+n%8).toNat,by omega,by omega,by omega⟩
 obtain⟨f,ef⟩:∃f:Nat,97+(n/64%26).toNat=f:=⟨_,rfl⟩
 have sp:(0:Int)<size:=by omega
 have b0:=y1w (n/8) (show(size:Int)≠0 by omega);have b1:=y0s (n/8) sp;obtain⟨a0,ea,a1⟩:∃a0:Nat,n/8%(size:Int)=a0/\a0<size:=⟨(n/8%(size:Int)).toNat,by omega,by omega⟩
 have ok:WdOk 0 size f a0:=⟨s1,s8,by omega,by omega,a1⟩
 symm;rw[es,ea];refine jlg (by rw[jgr];omega) (jmx f0 f1) ?_;rw[ef];symm;intro l H1 n1 q1 e1;exists⟨_,rfl,by omega,by omega,j12 (λi σ H2=>(∃u1 u2,σ=[some (.int n),some (.int m),some (.int (size:Nat)),some (.int (a0:Nat)),some (.str (uc "abcdefghijklmnopqrstuvwxyz")),some (.str ⟨#[f]⟩),some (.ref l),u1,u2])/\Ext H H2/\∃ss:List Str,H2 l=some (.lst (ss.map V.str))/\ss.length=i/\(∀s∈ss,nmS s=true)/\ss.Nodup/\∀s∈ss,∃j:Nat,j<i/\s=wdS 0 size f a0 (n/1664+3*(j:Int)).toNat 0)
  ⟨⟨none,none,rfl⟩,e1,[],q1,rfl,(λs h=>by cases h),y33,λs h=>by cases h⟩ ?_ ?_⟩
 ·rintro i σ H2 hi hE;refine spl 7 hE ?_;clear hE;rintro⟨u1,u2,rfl⟩ x2 ss q2 ls ns nd nj;rw[show((0:Int)+(i:Nat))=(i:Nat) by omega];obtain⟨c0,ec⟩:∃c0:Nat,n/1664+3*(i:Int)=c0:=⟨(n/1664+3*(i:Int)).toNat,by omega⟩
  symm;rw[ec];refine jlg (by rw[jgr];omega) (jmx (i:=(c0:Int)%26) (by omega) (by omega)) ?_;have esg:97+((c0:Int)%26).toNat=97+(c0+7*0)%26:=by omega
  rw[esg];have hl1:=jbu ⟨#[f]⟩ a0;have hl2:=jbu ⟨#[f]⟩ (size-a0-1);rw[j9o,Nat.mul_one]at hl1 hl2;exists jg7 (by omega) (by omega) (by rw[j9o];omega) ?_;rw[yq];exists jg5 (by rw[hl1,j9o];omega) ?_;exists jg7 (by omega) (by omega) (by rw[j9o];omega) ?_;rw[show((size:Int)-(a0:Int)-1).toNat=size-a0-1 by omega];have hl3:(mulS ⟨#[f]⟩ a0++(⟨#[97+(c0+7*0)%26]⟩:Str)).length=a0+1:=by
   show(mulS ⟨#[f]⟩ a0++(⟨#[97+(c0+7*0)%26]⟩:Str)).cps.size=_;rw[<- yh,jd7,mul_one];simp
  exists jg5 (by rw[hl3,hl2];omega) ?_;have ewd:mulS ⟨#[f]⟩ a0++(⟨#[97+(c0+7*0)%26]⟩:Str)++mulS ⟨#[f]⟩ (size-a0-1)=wdS 0 size f a0 c0 0:=by
   apply jgm;rw[jd7,jd7,mul_one,mul_one];show _=(wdN 0 size f a0 c0 0).toArray.toList;unfold wdN;skip;rw[if_neg (by decide),if_pos rfl];simp
  rw[ewd];exists j1q q2 (by rw[y3];omega) λH4 q4 b4=>?_;exists⟨⟨_,_,rfl⟩,Ext.but x2 b4 n1,ss++[wdS 0 size f a0 c0 0],by rw[q4,xh];rfl,by simp[ls],λs hs=>?_,?_,λs hs=>?_⟩
  ·rcases x0.mp hs with h|h
   ·exact ns s h
   ·rw[yb.mp h];exact wd_nm ok (by omega)
  ·refine y2s.mpr ⟨nd,by simp,λx hx y hy e=>?_⟩;obtain⟨j,hj,ej⟩:=nj x hx;rw[yb.mp hy,ej]at e;exact nm_far (by omega) ec hj (by omega) (wd_let (show a0<size from a1) e)
  ·rcases x0.mp hs with h|h
   ·obtain⟨j,hj,ej⟩:=nj s h;exact⟨j,by omega,ej⟩
   ·exact⟨i,by omega,by rw[yb.mp h,ec,yq]⟩
 ·rintro σ H2 hE;refine spl 7 hE ?_;clear hE;rintro⟨u1,u2,rfl⟩ x2 ss q2 ls ns nd nj;symm;exact hq l ss H2 n1 q2 ns (by omega) nd x2
def j8g:Sp:=λus H Q _=>∃h p cs,jjs us H h p cs/\jgo H Q
theorem jnh(h:i+j<=ss.length):cutV (ss.map V.str) (some (i:Int)) (some ((i:Int)+(j:Int)))=((ss.drop i).take j).map V.str:=by
 unfold cutV;rw[show((i:Int)+(j:Int))=((i+j:Nat):Int) by omega,HT.sIx_nat,HT.sIx_nat,y3,u5 h,u5 (show i<=ss.length by omega),show i+j-i=j by omega,y2r,y2q]
theorem j8h(T:Txt K mg a):FnOk P w K mg base (CXU P w) 2 a.f36 a.d36 ["_law_head","_law_cells"] (j8g):=by
 refine T.F36.okU1 jfc λvs H Q E h=>?_;obtain⟨h,p,cs,⟨rfl,h0,h1,hp,hl,hc⟩,hq⟩:=h;refine⟨rfl,λ_ _ _ _ hr=>⟨_,(j03 (j0j (i:=2) jfc.nd rfl (by nofun) (j0b j0t j02 (j0b j0q (j0b j0o (pv 0) j02) j02)))
  (j03 (j0j (i:=3) jfc.nd rfl (by nofun) (j16 (j4d T) hr T.F35 (T.F35.b2) (j00 (j16 (j0l T) hr T.F34 (T.F34.b2) (j00 (pv 0) (j00 j02 j01))) (j00 (j0b j0t (pv 2) j02) j01))))
  (j03 (j19 (i:=4) (["_law_k"]:List Str) (["_law_names_here","_law_cells","_law_many"]:List Str) [3,1,2] jfc.nd rfl (y7e rfl) rfl ⟨rfl,by decide +kernel,by decide +kernel,by rfl,⟨⟨rfl,by nofun,by nofun⟩,⟨rfl,by nofun,by nofun⟩,⟨rfl,by nofun,by nofun⟩,trivial⟩⟩ (j0k rfl T.c8 (j00 (j06 j2e (by rfl) T.cr xn (j00 (pv 1) j01)) j01)) (λ_ _ _ _=>⟨(j0d (i:=0) (by show((["_law_k"]:List Str)++(["_law_names_here","_law_cells","_law_many"]:List Str)).Nodup;decide +kernel) rfl (by nofun)),(show PTs _ [] [] from trivial),(j0n oIx (pv 1) (j0b j0q (j16 (j0l T) hr T.F34 (T.F34.b2) (j00 (j0n oIx (pv 2) (pv 0) (λ_ _=>rfl)) (j00 (pv 0) j01))) (j0b j0t (pv 3) j02)) (λ_ _=>rfl))⟩))
  (j04 (j09 (j0r (j00 j02 (j00 (pv 2) (j00 (j0e j2d (by rfl) T.dc xq (j00 (j06 j3h (by rfl) T.cj xu (j00 (j0s oSl (pv 3) (j0z j02) (j0z (j0b j0t j02 (pv 2)))) j01)) j01)) (j00 (pv 4) j01)))))))))),?_⟩⟩
 obtain⟨m,em,m1,m4⟩:∃m:Nat,1+h/6%4=m/\1<=m/\m<=4:=⟨(1+h/6%4).toNat,by omega,by omega,by omega⟩
 symm;rw[em];refine⟨_,_,rfl,by omega,by omega,λn n0 n1=>?_⟩;exists⟨_,_,rfl,n0,by omega,by omega,λpl ss H2 n2 q2 ns ls nd e2=>?_⟩;have ls':ss.length=m+3:=by omega
 have hp2:=e2 _ _ hp;exists j1l hp2 ?_;rw[y3];exists⟨_,rfl,by omega,by omega,λacc hn _ _ _ _=>j1g (by omega) hn (λj ys _=>∃ws:List Str,ys=ws.map V.str/\ws.length=j/\∀w∈ws,w∈ss) ⟨[],rfl,rfl,λw hw=>by cases hw⟩ (λ_ _ _ _ _ h=>h) (λj ys H' _ h=>by obtain⟨ws,rfl,lw,_⟩:=h;rw[y3];omega) ?_ ?_⟩
 ·rintro j ys H9 hj e ⟨ws,rfl,lw,hw⟩ Y N hY hN;rw[show((0:Int)+(j:Nat))=(j:Nat) by omega];have i1:=j0x (ns:=cs) (k:=(j:Nat)) (by omega) (by omega);exists j0g (e _ _ hp2) i1 ?_;exists⟨_,_,rfl,by omega,by omega,λn n0 n1=>?_⟩;have b0:=y1w n (show(m:Int)+3≠0 by omega);have b1:=y0s n (show(0:Int)<(m:Int)+3 by omega);exists j0g (e _ _ q2) (j3x b0 (by omega)) ?_;refine hY _ _ Ext.rfl' ⟨ws++[_],by rw[xh];rfl,by simp[lw],λw hw'=>?_⟩;rcases x0.mp hw' with z|z
  ·exact hw w z
  ·rw[yb.mp z];exact j4w (by omega)
 ·rintro ys H9 e9 ha ⟨ws,rfl,lw,hw⟩;exists jjr (e9 _ _ q2) λl3 H3 n3 q3 e3=>?_;rw[show(some (2:Int))=some ((2:Nat):Int)from rfl,show(some ((2:Int)+(m:Int)))=some (((2:Nat):Int)+(m:Int))from rfl,jnh (by omega)]at q3;exists jbx q3 (by rw[yn];omega) λl4 s4 H4 n4 p4 o4 q4 e4=>?_;exists j0w q4 λl5 H5 n5 q5 e5=>?_;symm;intro gl H10 n10 q10 e10;have x10:=e3.tr (e4.tr (e5.tr e10));have l4':s4.length=m:=by rw[p4.length_eq,yn,vj];omega
  exact hq gl (.store m) (.t s4) (ws.map .s) H10 ((e2.tr (e9.tr (e3.tr (e4.tr e5)))).free n10) ⟨_,_,acc,_,q10,rfl,⟨l5,rfl,e10 _ _ q5⟩,x10 _ _ ha,jra ws⟩ ⟨⟨m1,m4⟩,⟨_,rfl,l4',λx hx=>ns x (y0i (vd (p4.mem_iff.mp hx)))⟩,jmu λx hx=>⟨x,rfl,ns x (hw x hx)⟩,by rw[y3,lw];omega⟩ ⟨ss,by omega,nd,λx hx=>y0i (vd (p4.mem_iff.mp hx)),o4,p4.nodup_iff.mpr (nd.sublist ((y9x _ _).trans (List.drop_sublist _ _))),λw hw'=>by obtain⟨z,hz,rfl⟩:=yk.mp hw';exact⟨z,rfl,hw z hz⟩⟩ (e2.tr (e9.tr x10))
def j60:Sp:=λus H Q _=>∃h p cs,jjs us H h p cs/\jgo H Q
theorem at4c{t:Int}(t0:0<=t)(n:Int):∃m:Int,atI [V.int 3,V.int 3,V.int (t+2),V.int (1000000000000000000+1)] (n%4)=some (.int m)/\1<=m:=by
 have h0:n%4=0\/n%4=1\/n%4=2\/n%4=3:=by omega
 rcases h0 with e|e|e|e<;>rw[e]
 ·exact⟨3,rfl,by omega⟩
 ·exact⟨3,rfl,by omega⟩
 ·exact⟨t+2,rfl,by omega⟩
 ·exact⟨1000000000000000000+1,rfl,by omega⟩
theorem j61(T:Txt K mg a):FnOk P w K mg base (CXU P w) 3 a.f9 a.d9 ["_law_head","_law_cells"] (j60):=by
 refine T.F9.okU1 jj7 λvs H Q E h=>?_;obtain⟨h,p,cs,⟨rfl,h0,h1,hp,hl,hc⟩,hq⟩:=h;refine⟨rfl,λ_ _ _ _ hr=>⟨_,(j03 (j0j (i:=2) jj7.nd rfl (by nofun) (j0b j0t j02 (j0b j0q (j0b j0o (pv 0) j02) j02)))
  (j03 (j0j (i:=3) jj7.nd rfl (by nofun) (j16 (j4b T) hr T.F47 (T.F47.b2) (j00 (pv 0) (j00 j02 j01))))
  (j03 (j0j (i:=4) jj7.nd rfl (by nofun) (j0r j01))
  (j03 (j1t vh rfl (j0k rfl T.c8 (j00 (j06 j2e (by rfl) T.cr xn (j00 (pv 1) j01)) j01)) (j0d (i:=5) jj7.nd rfl (by nofun)) (j03 (j0j (i:=6) jj7.nd rfl (by nofun) (j16 (j0l T) hr T.F34 (T.F34.b2) (j00 (j0n oIx (pv 1) (pv 5) (λ_ _=>rfl)) (j00 (pv 5) j01))))
  (j03 (j0j (i:=7) jj7.nd rfl (by nofun) (j0n oIx (j0r (j00 j02 (j00 j02 (j00 (j0b j0t (pv 3) j02) (j00 (j0b j0t (j0b j53 j02 j02) j02) j01))))) (j0b j0q (pv 6) j02) (λ_ _=>rfl)))
  (j04 (j25 (jao gn u6 u8 j1e (pv 4) (j00 (j0e j2d (by rfl) T.dc xq (j00 (j15 (["_law_j"]:List Str) (["_law_cells","_law_k","_law_wide"]:List Str) [1,5,7] rfl ⟨rfl,by decide +kernel,by decide +kernel,by rfl,⟨⟨rfl,by nofun,by nofun⟩,⟨rfl,by nofun,by nofun⟩,⟨rfl,by nofun,by nofun⟩,trivial⟩⟩ (j0k rfl T.c8 (j00 (pv 2) j01)) (λ_ _ _ _=>⟨(j0d (i:=0) (by show((["_law_j"]:List Str)++(["_law_cells","_law_k","_law_wide"]:List Str)).Nodup;decide +kernel) rfl (by nofun)),(show PTs _ [] [] from trivial),(j0b j0q (j16 (j0l T) hr T.F34 (T.F34.b2) (j00 (j0n oIx (pv 1) (pv 2) (λ_ _=>rfl)) (j00 (j0b j0t (j0b j0t (pv 2) (j0b jap j02 (pv 0))) j02) j01))) (pv 3))⟩)) j01)) j01)))))))
  (j04 (j09 (j0r (j00 j02 (j00 (j1f (j00 (pv 2) (j00 (pv 3) j01))) (j00 (j0b j0q (j0b j0o (pv 0) j02) (pv 2)) (j00 (pv 4) j01))))))))))),?_⟩⟩
 obtain⟨m,em,m1,m4⟩:∃m:Nat,1+h/6%4=m/\1<=m/\m<=4:=⟨(1+h/6%4).toNat,by omega,by omega,by omega⟩
 exists⟨h,40,rfl,by decide,by decide,ibh h0 h1,λtl t0 t1=>?_⟩;symm;rw[em];intro l1 H1 n1 q1 e1;exists j1l (e1 _ _ hp) ?_;rw[y3];exists⟨_,rfl,by omega,by omega,j12 (λi σ H2=>∃(u1 u2 u3:Option V) (wvs:List V) (ws:List WsG),σ=[some (.int h),some (.ref p),some (.int (m:Nat)),some (.int tl),some (.ref l1),u1,u2,u3]/\Ext H H2/\H2 l1=some (.lst wvs)/\AllR (WsG.at_ H2) ws wvs/\ws.length=i/\∀w∈ws,(Gm.wys m tl).okW w) ⟨none,none,none,[],[],rfl,e1,q1,trivial,rfl,λw hw=>by cases hw⟩ ?_ ?_⟩
 ·rintro i σ H2 hi hE;refine spl 10 hE ?_;clear hE;rintro u1 u2 u3 wvs ws rfl x2 q2 hws lw okw;rw[show((0:Int)+(i:Nat))=(i:Nat) by omega];have i1:=j0x (ns:=cs) (k:=(i:Nat)) (by omega) (by omega);have hp2:=x2 _ _ hp;exists j0g hp2 i1 ?_;exists⟨_,_,rfl,by omega,by omega,λn n0 nb=>?_⟩;obtain⟨wd,hwd,w1⟩:=at4c t0 n;symm;intro l3 H3 n3 q3 e3;exists j0g q3 hwd ?_;have hp3:=e3 _ _ hp2;exists⟨_,rfl,by omega,by omega,λacc hn _ _ _ _=>j1w (λ_=>True) (by omega) hn (λj H5 Y hj e hY=>?_) λxs H4 lx _ e4 ha=>?_⟩
  ·exists j0g (e _ _ hp3) i1 ?_;exists⟨_,_,rfl,by omega,by omega,λk k0 k1=>?_⟩;symm;exact hY _ _ trivial Ext.rfl'
  exists j0w ha λl5 H5 n5 q5 e5=>?_;have x25:=e3.tr (e4.tr e5);have q25:=x25 _ _ q2;have lv:=hws.len;exists j1q q25 (by omega) λH6 q6 b6=>?_;exists⟨_,_,_,_,ws++[.l xs],rfl,Ext.but (x2.tr x25) b6 n1,q6,(AllR.snoc (f:=WsG.at_ H5) (show WsG.at_ H5 (.l xs) (.ref l5)from⟨l5,rfl,q5⟩) (hws.imp λk=>WsG.mono x25 k)).imp λk=>WsG.but q25 b6 k,by simp[lw],λw hw=>?_⟩;rcases x0.mp hw with z|z
  ·exact okw w z
  ·rw[yb.mp z];exact⟨xs,rfl,by omega⟩
 ·rintro σ H2 hE;refine spl 10 hE ?_;clear hE;rintro u1 u2 u3 wvs ws rfl x2 q2 hws lw okw;have a0:=y1w (h/24) (show(m:Int)≠0 by omega);have a1:=y0s (h/24) (show(0:Int)<(m:Int) by omega);symm;intro l3 H3 n3 q3 e3;symm;intro gl H4 n4 q4 e4;have x4:=e3.tr e4;exact hq gl (.wys m tl) (.i _) ws H4 ((x2.tr e3).free n4) ⟨_,_,l1,_,q4,⟨l3,rfl,e4 _ _ q3⟩,rfl,x4 _ _ q2,hws.imp λk=>WsG.mono x4 k⟩ ⟨⟨m1,m4⟩,⟨_,rfl,a0,a1⟩,okw,by omega⟩ trivial (x2.tr x4)
def j7e:Sp:=λus H Q _=>∃h p cs,jjs us H h p cs/\jgo H Q
theorem at8m(n:Int):∃m:Nat,atI [V.int 1,V.int 2,V.int 3,V.int 3,V.int 3,V.int 3,V.int 2,V.int 4] (n%8)=some (.int (m:Nat))/\1<=m/\m<=4:=by
 have h0:n%8=0\/n%8=1\/n%8=2\/n%8=3\/n%8=4\/n%8=5\/n%8=6\/n%8=7:=by omega
 rcases h0 with e|e|e|e|e|e|e|e<;>rw[e]
 ·exact⟨1,rfl,by omega,by omega⟩
 ·exact⟨2,rfl,by omega,by omega⟩
 ·exact⟨3,rfl,by omega,by omega⟩
 ·exact⟨3,rfl,by omega,by omega⟩
 ·exact⟨3,rfl,by omega,by omega⟩
 ·exact⟨3,rfl,by omega,by omega⟩
 ·exact⟨2,rfl,by omega,by omega⟩
 ·exact⟨4,rfl,by omega,by omega⟩
theorem at4r{m:Nat}(m1:1<=m)(m3:m<=4):∃r:Int,atI [V.int 62,V.int 62,V.int 62,V.int 3] ((m:Int)-1)=some (.int r)/\0<=r:=by
 have h0:m=1\/m=2\/m=3\/m=4:=by omega
 rcases h0 with rfl|rfl|rfl|rfl
 ·exact⟨62,rfl,by omega⟩
 ·exact⟨62,rfl,by omega⟩
 ·exact⟨62,rfl,by omega⟩
 ·exact⟨3,rfl,by omega⟩
theorem j7f(T:Txt K mg a):FnOk P w K mg base (CXU P w) 2 a.f25 a.d25 ["_law_head","_law_cells"] (j7e):=by
 refine T.F25.okU1 jai λvs H Q E h=>?_;obtain⟨h,p,cs,⟨rfl,h0,h1,hp,hl,hc⟩,hq⟩:=h;refine⟨rfl,λ_ _ _ _ hr=>⟨_,(j03 (j0j (i:=2) jai.nd rfl (by nofun) (j0n oIx (j0r (j00 j02 (j00 j02 (j00 j02 (j00 j02 (j00 j02 (j00 j02 (j00 j02 (j00 j02 j01))))))))) (j0b j0q (j0b j0o (pv 0) j02) j02) (λ_ _=>rfl)))
  (j03 (j0j (i:=3) jai.nd rfl (by nofun) (j16 (j4d T) hr T.F35 (T.F35.b2) (j00 (j16 (j0l T) hr T.F34 (T.F34.b2) (j00 (pv 0) (j00 j02 j01))) (j00 (pv 2) j01))))
  (j03 (j0j (i:=4) jai.nd rfl (by nofun) (j0b j0q (j0b j0o (pv 0) j02) (pv 2)))
  (j03 (j0j (i:=5) jai.nd rfl (by nofun) (j0e j2d (by rfl) T.dc xq (j00 (j0b j0t (j0s oSl (pv 3) (j0z (pv 4)) j18) (j0s oSl (pv 3) j18 (j0z (pv 4)))) j01)))
  (j03 (j0j (i:=6) jai.nd rfl (by nofun) (j0n oIx (j0r (j00 j02 (j00 j02 (j00 j02 (j00 j02 j01))))) (j0b j4g (pv 2) j02) (λ_ _=>rfl)))
  (j04 (j09 (j0r (j00 j02 (j00 (j0e j2d (by rfl) T.dc xq (j00 (pv 3) j01)) (j00 (pv 5) (j00 (j15 (["_law_k"]:List Str) (["_law_names_here","_law_cells","_law_many"]:List Str) [3,1,2] rfl ⟨rfl,by decide +kernel,by decide +kernel,by rfl,⟨⟨rfl,by nofun,by nofun⟩,⟨rfl,by nofun,by nofun⟩,⟨rfl,by nofun,by nofun⟩,trivial⟩⟩ (j0k rfl T.c8 (j00 (j06 (jhn rfl) (by rfl) T.o9 y07 (j00 (pv 6) (j00 (j06 j2e (by rfl) T.cr xn (j00 (pv 1) j01)) j01))) j01)) (λ_ _ _ _=>⟨(j0d (i:=0) (by show((["_law_k"]:List Str)++(["_law_names_here","_law_cells","_law_many"]:List Str)).Nodup;decide +kernel) rfl (by nofun)),(show PTs _ [] [] from trivial),(j0n oIx (pv 1) (j0b j0q (j16 (j0l T) hr T.F34 (T.F34.b2) (j00 (j0n oIx (pv 2) (pv 0) (λ_ _=>rfl)) (j00 (pv 0) j01))) (pv 3)) (λ_ _=>rfl))⟩)) j01)))))))))))),?_⟩⟩
 obtain⟨m,hm,m1,m4⟩:=at8m (h/6);obtain⟨rm,hrm,r0⟩:=at4r m1 m4;have a0:=y1w (h/48) (show(m:Int)≠0 by omega);have a1:=y0s (h/48) (show(0:Int)<(m:Int) by omega);obtain⟨tn,et,t1⟩:∃tn:Nat,h/48%(m:Int)=tn/\tn<m:=⟨(h/48%(m:Int)).toNat,by omega,by omega⟩
 symm;intro l1 H1 n1 q1 e1;exists j0g q1 hm ?_;exists⟨_,_,rfl,by omega,by omega,λn n0 n1=>?_⟩;exists⟨_,_,rfl,n0,by omega,by omega,λpl ss H2 n2 q2 ns ls nd e2=>?_⟩;have ls':ss.length=m:=by omega
 symm;rw[et];refine jjr q2 λl3 H3 n3 q3 e3=>?_;rw[j5n (by omega)]at q3;have q23:=e3 _ _ q2;exists jjr q23 λl4 H4 n4 q4 e4=>?_;rw[jfg (by omega)]at q4;exists j93 (e4 _ _ q3) q4 (by simp;omega) λl5 H5 n5 q5 e5=>?_;rw[<- xh]at q5;exists j0w q5 λl6 H6 n6 q6 e6=>?_;have x26:=e3.tr (e4.tr (e5.tr e6));have x6:=e1.tr (e2.tr x26);have q26:=x26 _ _ q2;have hp6:=x6 _ _ hp;symm;intro l7 H7 n7 q7 e7;exists j0g q7 hrm ?_;exists j0w (e7 _ _ q26) λl8 H8 n8 q8 e8=>?_;have x78:=e7.tr e8;exists j1l (x78 _ _ hp6) ?_;rw[y3];exists⟨_,rfl,by omega,by omega,λacc hn _ _ _ _=>j1g (by omega) hn (λj ys _=>∃ws:List Str,ys=ws.map V.str/\ws.length=j/\∀w∈ws,w∈ss) ⟨[],rfl,rfl,λw hw=>by cases hw⟩ (λ_ _ _ _ _ h=>h) (λj ys H' _ h=>by obtain⟨ws,rfl,lw,_⟩:=h;rw[y3];omega) ?_ ?_⟩
 ·rintro j ys H9 hj e ⟨ws,rfl,lw,hw⟩ Y N hY hN;rw[show((0:Int)+(j:Nat))=(j:Nat) by omega];have i1:=j0x (ns:=cs) (k:=(j:Nat)) (by omega) (by omega);exists j0g ((x78.tr e) _ _ hp6) i1 ?_;exists⟨_,_,rfl,by omega,by omega,λn n0 n1=>?_⟩;have b0:=y1w n (show(m:Int)≠0 by omega);have b1:=y0s n (show(0:Int)<(m:Int) by omega);exists j0g ((x78.tr e) _ _ q26) (j3x b0 (by omega)) ?_;refine hY _ _ Ext.rfl' ⟨ws++[_],by rw[xh];rfl,by simp[lw],λw hw'=>?_⟩;rcases x0.mp hw' with z|z
  ·exact hw w z
  ·rw[yb.mp z];exact j4w (by omega)
 ·rintro ys H9 e9 ha ⟨ws,rfl,lw,hw⟩;symm;intro gl H10 n10 q10 e10;have x10:=e9.tr e10;have pst:(ss.drop tn++ss.take tn).Perm ss:=y1n.trans (by rw[gu]);exact hq gl (.shelf ss) (.t _) (ws.map .s) H10 ((x6.tr (x78.tr e9)).free n10) ⟨_,_,acc,_,q10,⟨l8,rfl,x10 _ _ q8⟩,⟨l6,rfl,(x78.tr x10) _ _ q6⟩,e10 _ _ ha,jra ws⟩ ⟨⟨by omega,by omega,ns⟩,⟨_,rfl,pst⟩,jmu λx hx=>⟨x,rfl,hw x hx⟩,by rw[y3,lw];omega⟩ trivial (x6.tr (x78.tr x10))
def j7g:Sp:=λus H Q _=>∃h p cs,jjs us H h p cs/\jgo H Q
theorem at4w(n:Int):∃m:Int,atI [V.int 12,V.int 1000,V.int 1000000,V.int 1000000000000000000] (n%4)=some (.int m)/\1<=m/\m<=1000000000000000000:=by
 have h0:n%4=0\/n%4=1\/n%4=2\/n%4=3:=by omega
 rcases h0 with e|e|e|e<;>rw[e]
 ·exact⟨12,rfl,by omega,by omega⟩
 ·exact⟨1000,rfl,by omega,by omega⟩
 ·exact⟨1000000,rfl,by omega,by omega⟩
 ·exact⟨1000000000000000000,rfl,by omega,by omega⟩
theorem at3r{m:Nat}(m1:1<=m)(m3:m<=3):∃r:Int,atI [V.int 62,V.int 62,V.int 14] ((m:Int)-1)=some (.int r)/\12<=r:=by
 have h0:m=1\/m=2\/m=3:=by omega
 rcases h0 with rfl|rfl|rfl
 ·exact⟨62,rfl,by omega⟩
 ·exact⟨62,rfl,by omega⟩
 ·exact⟨14,rfl,by omega⟩
theorem j7h(T:Txt K mg a):FnOk P w K mg base (CXU P w) 2 a.f_z24 a.d24 ["_law_head","_law_cells"] (j7g):=by
 refine T.F24.okU1 jcz λvs H Q E h=>?_;obtain⟨h,p,cs,⟨rfl,h0,h1,hp,hl,hc⟩,hq⟩:=h;refine⟨rfl,λ_ _ _ _ hr=>⟨_,(j03 (j0j (i:=2) jcz.nd rfl (by nofun) (j0b j0t j02 (j0b j0q (j0b j0o (pv 0) j02) j02)))
  (j03 (j0j (i:=3) jcz.nd rfl (by nofun) (j0n oIx (j0r (j00 j02 (j00 j02 (j00 (j0b j53 j02 j02) (j00 (j0b j53 j02 j02) j01))))) (j0b j0q (j0b j0o (pv 0) j02) j02) (λ_ _=>rfl)))
  (j03 (j0j (i:=4) jcz.nd rfl (by nofun) (j15 (["_law_j"]:List Str) (["_law_head","_law_wide"]:List Str) [0,3] rfl ⟨rfl,by decide +kernel,by decide +kernel,by rfl,⟨⟨rfl,by nofun,by nofun⟩,⟨rfl,by nofun,by nofun⟩,trivial⟩⟩ (j0k rfl T.c8 (j00 (j0b j0t (pv 2) j02) j01)) (λ_ _ _ _=>⟨(j0d (i:=0) (by show((["_law_j"]:List Str)++(["_law_head","_law_wide"]:List Str)).Nodup;decide +kernel) rfl (by nofun)),(show PTs _ [] [] from trivial),(j0b j4g (j0b j0q (j0b jap (j16 (j0l T) hr T.F34 (T.F34.b2) (j00 (pv 1) (j00 (j0b j0t j02 (pv 0)) j01))) (j0b j53 j02 j02)) (j0b j0t (j0b jap j02 (pv 2)) j02)) (pv 2))⟩)))
  (j03 (j19 (i:=5) (["_law_k"]:List Str) (["_law_places_here","_law_cells","_law_many"]:List Str) [4,1,2] jcz.nd rfl (y7e rfl) rfl ⟨rfl,by decide +kernel,by decide +kernel,by rfl,⟨⟨rfl,by nofun,by nofun⟩,⟨rfl,by nofun,by nofun⟩,⟨rfl,by nofun,by nofun⟩,trivial⟩⟩ (j0k rfl T.c8 (j00 (j06 (jhn rfl) (by rfl) T.o9 y07 (j00 (j0n oIx (j0r (j00 j02 (j00 j02 (j00 j02 j01)))) (j0b j4g (pv 2) j02) (λ_ _=>rfl)) (j00 (j06 j2e (by rfl) T.cr xn (j00 (pv 1) j01)) j01))) j01)) (λ_ _ _ _=>⟨(j0d (i:=0) (by show((["_law_k"]:List Str)++(["_law_places_here","_law_cells","_law_many"]:List Str)).Nodup;decide +kernel) rfl (by nofun)),(show PTs _ [] [] from trivial),(j0n oIx (pv 1) (j0b j0q (j16 (j0l T) hr T.F34 (T.F34.b2) (j00 (j0n oIx (pv 2) (pv 0) (λ_ _=>rfl)) (j00 (pv 0) j01))) (j0b j0t (pv 3) j02)) (λ_ _=>rfl))⟩))
  (j04 (j09 (j0r (j00 j02 (j00 (pv 2) (j00 (j0e j2d (by rfl) T.dc xq (j00 (j06 j3h (by rfl) T.cj xu (j00 (j0s oSl (pv 4) j18 (j0z (pv 2))) j01)) j01)) (j00 (pv 5) j01))))))))))),?_⟩⟩
 obtain⟨m,em,m1,m3⟩:∃m:Nat,1+h/6%3=m/\1<=m/\m<=3:=⟨(1+h/6%3).toNat,by omega,by omega,by omega⟩
 obtain⟨wd,hwd,w1,w2⟩:=at4w (h/18);obtain⟨rm,hrm,r12⟩:=at3r m1 m3;symm;rw[em];intro l1 H1 n1 q1 e1;exists j0g q1 hwd ?_;exists⟨_,rfl,by omega,by omega,λacc hn _ _ _ _=>j1w (λ_=>True) (by omega) hn (λi H3 Y hi e hY=>?_) λxs H2 lx _ e2 ha=>?_⟩
 ·exists⟨_,_,rfl,by omega,by omega,λn n0 n1=>?_⟩;symm;exact hY _ _ trivial Ext.rfl'
 have lx':xs.length=m+4:=by omega
 have hp2:=(e1.tr e2) _ _ hp;symm;intro l3 H3 n3 q3 e3;exists j0g q3 hrm ?_;exists j1l (e3 _ _ hp2) ?_;rw[y3];exists⟨_,rfl,by omega,by omega,λacc2 hn2 _ _ _ _=>j1w (λz=>z∈xs) (by omega) hn2 (λi H5 Y hi e hY=>?_) λys H4 ly hys e4 ha4=>?_⟩
 ·have i1:=j0x (ns:=cs) (k:=(i:Nat)) (by omega) (by omega);exists j0g ((e3.tr e) _ _ hp2) i1 ?_;exists⟨_,_,rfl,by omega,by omega,λn n0 n1=>?_⟩;have a0:=y1w n (show(m:Int)+4≠0 by omega);have a1:=y0s n (show(0:Int)<(m:Int)+4 by omega);exists j0g ((e3.tr e) _ _ ha) (j0x a0 (by omega)) ?_;exact hY _ _ (j9l (by omega)) Ext.rfl'
 have ha4':=(e3.tr e4) _ _ ha;exists jjr ha4' λl5 H5 n5 q5 e5=>?_;rw[jgp (by omega)]at q5;exists jm6 q5 (by rw[yn];omega) λl6 ns H6 n6 p6 s6 q6 e6=>?_;exists j0w q6 λl7 H7 n7 q7 e7=>?_;symm;intro gl H8 n8 q8 e8;have x8:=e5.tr (e6.tr (e7.tr e8));have x4:=e1.tr (e2.tr (e3.tr e4));have ln:ns.length=m:=by rw[p6.length_eq,yn];omega
 exact hq gl (.line m) (.l ns) (ys.map .i) H8 ((x4.tr (e5.tr (e6.tr e7))).free n8) ⟨_,_,acc2,_,q8,rfl,⟨l7,rfl,e8 _ _ q7⟩,x8 _ _ ha4,jnu ys⟩ ⟨⟨m1,m3⟩,⟨ns,rfl,ln⟩,jj9 λx _=>⟨x,rfl⟩,by rw[y3,ly];omega⟩ ⟨xs,by omega,λx hx=>vd (p6.mem_iff.mp hx),s6,λw hw=>by obtain⟨z,hz,rfl⟩:=yk.mp hw;exact⟨z,rfl,hys z hz⟩⟩ (x4.tr x8)
def j8i:Sp:=λus H Q _=>∃h p cs,jjs us H h p cs/\jgo H Q
theorem j8j(T:Txt K mg a):FnOk P w K mg base (CXU P w) 3 a.f33 a.d33 ["_law_head","_law_cells"] (j8i):=by
 refine T.F33.okU1 jj8 λvs H Q E h=>?_;obtain⟨h,p,cs,⟨rfl,h0,h1,hp,hl,hc⟩,hq⟩:=h;refine⟨rfl,λ_ _ _ _ hr=>⟨_,(j03 (j0j (i:=2) jj8.nd rfl (by nofun) (j0b j0t j02 (j0b j0q (j16 (j4b T) hr T.F47 (T.F47.b2) (j00 (pv 0) (j00 j02 j01))) (j0b j53 j02 j02))))
  (j03 (j0j (i:=3) jj8.nd rfl (by nofun) (j0e cInt1 (by rfl) T.qp y4r (j00 (j33 (oEq hr) (j0b j0q (j0b j0o (pv 0) j02) j02) j02 (j0f _)) j01)))
  (j04 (j09 (j0r (j00 j02 (j00 (pv 2) (j00 (pv 3) (j00 (j15 (["_law_k"]:List Str) (["_law_cells","_law_whole_here"]:List Str) [1,2] rfl ⟨rfl,by decide +kernel,by decide +kernel,by rfl,⟨⟨rfl,by nofun,by nofun⟩,⟨rfl,by nofun,by nofun⟩,trivial⟩⟩ (j0k rfl T.c8 (j00 (j06 j2e (by rfl) T.cr xn (j00 (pv 1) j01)) j01)) (λ_ _ _ _=>⟨(j0d (i:=0) (by show((["_law_k"]:List Str)++(["_law_cells","_law_whole_here"]:List Str)).Nodup;decide +kernel) rfl (by nofun)),(show PTs _ [] [] from trivial),(j0b j0q (j16 (j0l T) hr T.F34 (T.F34.b2) (j00 (j0n oIx (pv 1) (pv 0) (λ_ _=>rfl)) (j00 (pv 0) j01))) (j0b j0t (j0b j0o (pv 2) j02) j02))⟩)) j01))))))))),?_⟩⟩
 exists⟨h,1,rfl,by decide,by decide,ibh h0 h1,λs s0 s1=>?_⟩;exists j1l hp ?_;rw[y3];exists⟨_,rfl,by omega,by omega,λacc hn _ _ _ _=>j1w (λ_=>True) (by omega) hn (λi H3 Y hi e hY=>?_) λxs H2 lx _ e2 ha=>?_⟩
 ·have i1:=j0x (ns:=cs) (k:=(i:Nat)) (by omega) (by omega);exists j0g (e _ _ hp) i1 ?_;exists⟨_,_,rfl,by omega,by omega,λm m0 m1=>?_⟩;symm;exact hY _ _ trivial Ext.rfl'
 ·symm;intro gl H4 n4 q4 e4;exact hq gl (.hire _) (.i _) (xs.map .i) H4 (e2.free n4) ⟨_,_,acc,_,q4,rfl,rfl,e4 _ _ ha,jnu xs⟩ ⟨trivial,ok01 _,jj9 λx _=>⟨x,rfl⟩,by rw[y3,lx];omega⟩ trivial (e2.tr e4)
def j4z(K:y9):Sp:=λvs H Q _=>∃(p:Addr) (ns:List Int) (k:Int),vs=[.ref p,.int k]/\SqL K H p (ns.map V.int)/\0<=k/\(∀z∈ns,ib z<=1048576)/\∀c,ib c<=1048576->Q (.int c) H
theorem j50(T:Txt K mg a):FnOk P w K mg base (CXU P w) 1 a.f41 a.d41 ["_law_script","_law_k"] (j4z K):=by
 refine T.F41.okU1 sc41 λvs H Q E h=>?_;unfold j4z at h;refine spl 7 h ?_;clear h;rintro p ns k rfl hS hk hb hq;refine⟨rfl,λ_ _ _ _ hr=>⟨_,(j03 (j17 (j0a jnn (pv 1) (j06 j2e (by rfl) T.cr xn (j00 (pv 0) j01)) (j0f _)) (j04 (j09 (j0n oIx (pv 0) (pv 1) (λ_ _=>rfl)))) j0c)
  (j04 (j09 j02))),?_⟩⟩
 exists jg8 hS ?_;symm;rw[y3];refine iteD (λh=>?_) (λh=>?_)
 ·symm;have hl:k.toNat<ns.length:=by omega
  refine r_ixS hS (v:=.int ns[k.toNat]) (j4q hk (by rw[xc,y4 hl];rfl)) ?_;exact hq _ (hb _ (u0 hl))
 ·symm;exact hq 0 (by decide)
def j51(K:y9):Sp:=λus H Q _=>∃(p:Addr) (ns:List Int) (mo:Nat),us=[.ref p,.int (mo:Nat)]/\mo<=12/\SqL K H p (ns.map V.int)/\ns.length<=63/\(∀z∈ns,ib z<=1048576)/\jgo H Q
theorem jan(T:Txt K mg a):FnOk P w K mg base (CXU P w) 4 a.f42 a.d42 ["_law_script","_law_most"] (j51 K):=by
 refine T.F42.okU1 jcy λvs H Q E h=>?_;unfold j51 at h;refine spl 8 h ?_;clear h;rintro p ns mo rfl mo12 hS hl hb hq;refine⟨rfl,λ_ _ _ _ hr=>⟨_,(j03 (j0j (i:=2) jcy.nd rfl (by nofun) (j16 (j0l T) hr T.F34 (T.F34.b2) (j00 (j16 (j50 T) hr T.F41 (T.F41.b2) (j00 (pv 0) (j00 j02 j01))) (j00 j02 j01))))
  (j03 (j0j (i:=3) jcy.nd rfl (by nofun) (j0b j0q (j0b j0o (pv 2) j02) (j0b j0t (pv 1) j02)))
  (j03 (j17 (j0a (oEq hr) (j0b j0q (j0b j0o (pv 2) j02) j02) j02 (j0f _)) (j04 (j0j (i:=3) jcy.nd rfl (by nofun) (j06 (jhn rfl) (by rfl) T.o9 y07 (j00 (j06 (joo rfl) (by rfl) T.qx y4s (j00 (j0b j4g (j06 j2e (by rfl) T.cr xn (j00 (pv 0) j01)) j02) (j00 j02 j01))) (j00 (pv 1) j01))))) j0c)
  (j03 (j19 (i:=4) (["_law_k"]:List Str) (["_law_script"]:List Str) [0] jcy.nd rfl (y7e rfl) rfl ⟨rfl,by decide +kernel,by decide +kernel,by rfl,⟨⟨rfl,by nofun,by nofun⟩,trivial⟩⟩ (j0k rfl T.c8 (j00 (pv 3) j01)) (λ_ _ _ _=>⟨(j0d (i:=0) (by show((["_law_k"]:List Str)++(["_law_script"]:List Str)).Nodup;decide +kernel) rfl (by nofun)),(show PTs _ [] [] from trivial),(j16 (j50 T) hr T.F41 (T.F41.b2) (j00 (pv 1) (j00 (j0b j0t j02 (pv 0)) j01)))⟩))
  (j03 (j17 (j0a (oEq hr) (j0b j0q (pv 2) j02) j02 (j0f _)) (j04 (j09 (j16 (j8j T) hr T.F33 (T.F33.b2) (j00 (pv 2) (j00 (pv 4) j01))))) j0c)
  (j03 (j17 (j0a (oEq hr) (j0b j0q (pv 2) j02) j02 (j0f _)) (j04 (j09 (j16 (j7h T) hr T.F24 (T.F24.b2) (j00 (pv 2) (j00 (pv 4) j01))))) j0c)
  (j03 (j17 (j0a (oEq hr) (j0b j0q (pv 2) j02) j02 (j0f _)) (j04 (j09 (j16 (j7f T) hr T.F25 (T.F25.b2) (j00 (pv 2) (j00 (pv 4) j01))))) j0c)
  (j03 (j17 (j0a (oEq hr) (j0b j0q (pv 2) j02) j02 (j0f _)) (j04 (j09 (j16 (j61 T) hr T.F9 (T.F9.b2) (j00 (pv 2) (j00 (pv 4) j01))))) j0c)
  (j03 (j17 (j0a (oEq hr) (j0b j0q (pv 2) j02) j02 (j0f _)) (j04 (j09 (j16 (j8h T) hr T.F36 (T.F36.b2) (j00 (pv 2) (j00 (pv 4) j01))))) j0c)
  (j04 (j09 (j16 (j8f T) hr T.F38 (T.F38.b2) (j00 (pv 2) (j00 (pv 4) j01)))))))))))))),?_⟩⟩
 exists⟨p,ns,0,rfl,hS,by decide,hb,λc hc=>?_⟩;exists⟨_,_,rfl,by decide,by decide,λh h0 h1=>?_⟩;have z0:=y1w (h/4000) (show(mo:Int)+1≠0 by omega);have z1:=y0s (h/4000) (show(0:Int)<(mo:Int)+1 by omega)
 repeat ((fail_if_success (with_reducible refine jd4 (t:=tIfS _ _ _) (λ_ _=>True) ?_ ?_));walk_at "vs")
 with_reducible refine jd4 (λσ' H'=>H'=H/\∃k:Int,σ'=[some (.ref p),some (.int (mo:Nat)),some (.int h),some (.int k),none]/\0<=k/\k<=12) ?_ (λhK=>?_)
 rotate_left
 ·exists iteD (λc2=>?_) (λc2=>?_)
  ·exists jg8 hS ?_;rw[y3]
   repeat (first|exact hK _ _ ⟨rfl,_,rfl,by omega,by omega⟩|walk_at "vs")
  ·repeat (first|exact hK _ _ ⟨rfl,_,rfl,by omega,by omega⟩|walk_at "vs")
 rintro σ' H' ⟨rfl,k,rfl,k0,k12⟩;exists⟨_,rfl,by omega,by omega,λacc hn _ _ _ _=>j1w (λx=>ib x<=1048576) (by omega) hn (λi H3 Y hi e hY=>?_) λxs H1 lx hx e1 ha=>?_⟩
 ·symm;exact⟨p,ns,_,rfl,e.seqL hS,by omega,hb,λc hc=>hY _ _ hc Ext.rfl'⟩
 have l12:xs.length<=12:=by omega
 have gq:jgo H1 Q:=λgl g st ws H' n v o f e=>hq gl g st ws H' (e1.free n) v o f (e1.tr e);exists iteD (λc0=>?_) (λc0=>?_)
 ·symm;exact⟨h,acc,xs,⟨rfl,h0,h1,ha,l12,hx⟩,gq⟩
 exists iteD (λc1=>?_) (λc1=>?_)
 ·symm;exact⟨h,acc,xs,⟨rfl,h0,h1,ha,l12,hx⟩,gq⟩
 exists iteD (λc2=>?_) (λc2=>?_)
 ·symm;exact⟨h,acc,xs,⟨rfl,h0,h1,ha,l12,hx⟩,gq⟩
 exists iteD (λc3=>?_) (λc3=>?_)
 ·symm;exact⟨h,acc,xs,⟨rfl,h0,h1,ha,l12,hx⟩,gq⟩
 exists iteD (λc4=>?_) (λc4=>?_)
 ·symm;exact⟨h,acc,xs,⟨rfl,h0,h1,ha,l12,hx⟩,gq⟩
 symm;exact⟨h,acc,xs,⟨rfl,h0,h1,ha,l12,hx⟩,gq⟩
theorem TabU.len{g:Gm}{st:StG}{ws:List WsG}{R:List (List (StG×Int))}(h:TabU g st ws R):R.length=ws.length+1:=h.each.1
theorem TabU.uniq{g:Gm}{st:StG}{ws:List WsG}{R:List (List (StG×Int))}(h:TabU g st ws R):∀{S:List (List (StG×Int))},TabU g st ws S->R=S:=by
 induction h with
 |nil=>
  intro S k;generalize e:([]:List WsG)=ws at k;cases k with
  |nil=>rfl
  |snoc _ _=>simp at e
 | @snoc ws w ts p q h1 h2 ih=>
  intro S k;generalize e:ws++[w]=us at k;cases k with
  |nil=>simp at e
  | @snoc ws' w' ts' p' q' k1 k2=>
   obtain⟨e1,e2⟩:=y54 e rfl;subst e1;injection e2 with e2;subst e2;have:=ih k1;obtain⟨e3,e4⟩:=y54 this rfl;injection e4 with e4;subst e3 e4;rw[h2.uniq k2]
def tD(t:List (StG×Int)):D:=.lst (t.map pD)
theorem jdp{H:Hp}:∀{ts:List (List (StG×Int))}{vs:List V},AllR (LsAt H) ts vs->RepL H (ts.map tD) vs
 |[],[],_=>RepL.nil
 |p::ps,v::vs,⟨⟨l,zs,h1,h2,h3⟩,h⟩=>by
  rw[h1];exact RepL.cons (Rep.lstI h2 (jal h3)) (jdp h)
 |[],_::_,h=>h.elim
 |_::_,[],h=>h.elim
theorem jdq:∀ts:List (List (StG×Int)),D.fineL (ts.map tD)=true
 |[]=>rfl
 |t::ts=>by
  show(D.fineL (t.map pD)&&D.fineL (ts.map tD))=true;rw[ja1,jdq ts];rfl
theorem jni:∀ts:List (List (StG×Int)),D.depthL (ts.map tD)<=3
 |[]=>by decide
 |t::ts=>by
  have:=jni ts;have:=jjj t;show max (D.depthL (t.map pD)+1) (D.depthL (ts.map tD))<=3;omega
theorem jnj(ts:List (List (StG×Int))):yb4 (D.lst (ts.map tD)).depth 5=true:=y7z (by
 have:=jni ts;show D.depthL (ts.map tD)+1<=5;omega)
theorem tab3:TabU (.hire 3) (.i 0) [.i 2] [[(.i 0,0)],[(.i 0,2),(.i 1,3)]]:=by
 refine TabU.snoc (ws:=[]) (w:=.i 2) (ts:=[]) TabU.nil ⟨?_,λs c=>?_⟩
 ·refine y0u.mpr ⟨λb hb=>?_,y6y _ _⟩;rw[yb.mp hb];show(0:Int)<1;decide
 ·have to0:∀{s:StG}{q:Int},Gm.to (.hire 3) (.i 0) (.i 2) s q↔(s=.i 0/\q=2)\/(s=.i 1/\q=3):=λ{s q}=>by
   constructor
   ·rintro⟨rfl|rfl,h⟩
    ·have h':V.int q=.int 2:=h;injection h' with h';exact .inl ⟨rfl,h'⟩
    ·have h':V.int q=.int 3:=h;injection h' with h';exact .inr ⟨rfl,h'⟩
   ·rintro(⟨rfl,rfl⟩|⟨rfl,rfl⟩)
    ·exact⟨.inl rfl,rfl⟩
    ·exact⟨.inr rfl,rfl⟩
  simp only[xf,List.not_mem_nil,or_false,ycq];constructor
  ·rintro(⟨rfl,rfl⟩|⟨rfl,rfl⟩)
   ·refine⟨⟨.i 0,0,2,⟨rfl,rfl⟩,to0.mpr (.inl ⟨rfl,rfl⟩),rfl⟩,?_⟩;rintro b p q ⟨rfl,rfl⟩ h;rcases to0.mp h with⟨_,rfl⟩|⟨h,_⟩
    ·decide
    ·injection h with h;omega
   ·refine⟨⟨.i 0,0,3,⟨rfl,rfl⟩,to0.mpr (.inr ⟨rfl,rfl⟩),rfl⟩,?_⟩;rintro b p q ⟨rfl,rfl⟩ h;rcases to0.mp h with⟨h,_⟩|⟨_,rfl⟩
    ·injection h with h;omega
    ·decide
  ·rintro⟨⟨b,p,q,⟨rfl,rfl⟩,h,rfl⟩,_⟩;rcases to0.mp h with⟨rfl,rfl⟩|⟨rfl,rfl⟩
   ·exact .inl ⟨rfl,by omega⟩
   ·exact .inr ⟨rfl,by omega⟩
def sp_law(K:y9):Sp:=λvs H Q _=>∃(p:Addr) (ns:List Int),vs=[.ref p]/\SqL K H p (ns.map V.int)/\ns.length<=63/\(∀z∈ns,ib z<=1048576)/\∀H',Q (.bl true) H'
theorem ok_law(T:Txt K mg a):FnOk P w K mg base (CXU P w) 14 a.f54 a.d54 ["_law_script"] (sp_law K):=by
 refine T.F54.okU1 jae λvs H Q E h=>?_;unfold sp_law at h;refine spl 6 h ?_;clear h;rintro p cs rfl hS hl hb hq;refine⟨rfl,λ_ _ _ _ hr=>⟨_,(j03 (j0j (i:=1) jae.nd rfl (by nofun) (j16 (jan T) hr T.F42 (T.F42.b2) (j00 (pv 0) (j00 j02 j01))))
  (j03 (j0j (i:=2) jae.nd rfl (by nofun) (j16 (j8d T) hr T.F40 (T.F40.b1) (j00 (pv 1) j01)))
  (j03 (j0j (i:=3) jae.nd rfl (by nofun) (j0e jg4 (by rfl) T.mj va (j00 (j0n oIx (pv 1) j02 (λ_ _=>rfl)) j01)))
  (j03 (j0j (i:=4) jae.nd rfl (by nofun) (j16 (j87 T) hr T.F52 (T.F52.b3) (j00 (pv 2) (j00 (j0n oIx (pv 1) j02 (λ_ _=>rfl)) (j00 (pv 3) j01)))))
  (j03 (j17 (PW.pt (jnl (j7j (ptT (j16 (jam T) hr T.F43 (T.F43.b2) (j00 (pv 4) (j00 (pv 1) j01))) (λ_=>rfl))) (jdv (j0a (oNe hr) (pv 3) (j0n oIx (pv 1) j02 (λ_ _=>rfl)) (j0f _))))) (j04 (j09 jft)) j0c)
  (j03 (j19 (i:=5) (["_law_row_here"]:List Str) ([]:List Str) [] jae.nd rfl (y7e rfl) rfl ⟨rfl,by decide +kernel,by decide +kernel,by rfl,trivial⟩ (j1o (pv 4)) (λ_ _ _ _=>⟨(j0d (i:=0) (by show((["_law_row_here"]:List Str)++([]:List Str)).Nodup;decide +kernel) rfl (by nofun)),(show PTs _ [] [] from trivial),(j0e jg4 (by rfl) T.mj va (j00 (pv 0) j01))⟩))
  (j03 (j25 (pe_bm0 gn PySem.F.slot_list_clear PySem.F.type_list_clear jhf (j0n oIx (pv 4) (pe_un jk0 j02) (λ_ _=>rfl))))
  (j03 (j17 (j7j (ptT (j16 (j23 T) hr T.F44 (T.F44.b2) (j00 (j16 (j87 T) hr T.F52 (T.F52.b3) (j00 (j3n T.nk (j43 T) (hr.mono (by decide)) (by rfl) T.m_Hire (T.F29.b2) .nil j24 (j00 j02 j01)) (j00 j02 (j00 (j0r (j00 j02 j01)) j01)))) (j00 (j0r (j00 (j0r (j00 (j1f (j00 j02 (j00 j02 j01))) j01)) (j00 (j0r (j00 (j1f (j00 j02 (j00 j02 j01))) (j00 (j1f (j00 j02 (j00 j02 j01))) j01))) j01))) j01))) (λ_=>rfl))) (j04 (j09 jft)) j0c)
  (j04 (j09 (j16 (j23 T) hr T.F44 (T.F44.b2) (j00 (j16 (j87 T) hr T.F52 (T.F52.b3) (j00 (pv 2) (j00 (j0n oIx (pv 1) j02 (λ_ _=>rfl)) (j00 (pv 3) j01)))) (j00 (pv 5) j01))))))))))))),?_⟩⟩
 exists⟨p,cs,9,rfl,by omega,hS,hl,hb,λgl g st ws H1 n1 hG hO hF e1=>?_⟩;exists⟨gl,g,st,ws,rfl,hG,λr H2 hr2 e2=>?_⟩;have hG2:=GameV.mono e2 hG;obtain⟨gv,sv,wl,wvs,hg,hpv,hst,hwl,hws⟩:=id hG2;exists j0g hg rfl ?_;exists jbm hwl λl3 H3 n3 q3 e3=>?_;have lw:=hws.len;have l12:=hO.2.2.2;exists j0g (e3 _ _ hg) rfl ?_;exists⟨r,l3,sv,g,st,ws,wvs,rfl,WoP.mono e3 hr2,StG.mono e3 hst,q3,hws.imp λk=>WsG.mono e3 k,hO,hF,λfl vs ts H4 n4 q4 r4 tab e4=>?_⟩;have x4:=e3.tr e4;have lt:=tab.len;have lv:=r4.len;exists⟨gl,fl,g,st,ws,ts,vs,rfl,GameV.mono x4 hG2,hO,hF,q4,r4.imp λ⟨l,zs,h1,_,h2,h3⟩=>⟨l,zs,h1,h2,h3⟩,tab,λH5 e5=>?_⟩;have x5:=x4.tr e5;have ow:=wD_ok hO.1 hO.2.2.1;have dw:=jmv ws;exists j0g (x5 _ _ hg) rfl ?_;exists r_neD (Rep.lstI ((e4.tr e5) _ _ q3) (jja (hws.imp λk=>WsG.mono x5 k))) (Rep.lstI (x5 _ _ hwl) (jja (hws.imp λk=>WsG.mono x5 k))) ow ow (by show D.depthL (ws.map wD)+1<=20;omega) ?_;rw[eqD_me (d:=.lst (ws.map wD)) ow];exists⟨fl,rfl,⟨_,SqL.of (e5 _ _ q4)⟩,λheld hn _ _ _ _=>j1s (SqL.of (e5 _ _ q4)) (by omega) hn (λj ys H6=>AllR (LsF H5 H6) (ts.take j) ys) trivial (λ_ _ _ _ k h=>h.imp λh=>h.keep k) (λj ys H' _ h=>by have:=h.len;rw[yn]at this;omega) ?_ ?_⟩
 ·rintro j y ys H6 hy e hys Y N hY hN;obtain⟨ps,eps,l,zs,rfl,_,hl4,hp4⟩:=r4.get hy;exists jbm ((e5.tr e) _ _ hl4) λl7 H7 n7 q7 e7=>?_;refine hY _ _ e7 ?_;rw[xj,eps];exact AllR.snoc ⟨l7,zs,rfl,e.free n7,q7,hp4.keep ((e5.tr e).tr e7).kp⟩ (hys.imp λh=>h.keep e7.kp)
 rintro hs H6 e6 hheld hhs;rw[<- lv,vk]at hhs;obtain⟨vs0,vz,evs⟩:∃vs0 vz,vs=vs0++[vz]:=by
  rcases y1l vs with z|⟨vs0,vz,z⟩
  ·have:=congrArg y90 z;simp only[vm]at this;omega
  ·exact⟨vs0,vz,by rw[z,y1k]⟩
 obtain⟨pz,epz,lz,zz,ez,nz,hz4,hpz⟩:=r4.get (i:=vs0.length) (v:=vz) (by rw[evs,yp (yg _),uq];rfl);have hz6:=(e5.tr e6) _ _ hz4;exists j0g ((e5.tr e6) _ _ q4) (by rw[evs,ez];exact jh0 vs0 _) ?_;exists jkx hz6 λH7 q7 b7=>?_;have x37:Ext H3 H7:=Ext.but (e4.tr (e5.tr e6)) b7 nz;have tk7:TK H6 H7:=jgw hz6 b7;have nhl:held≠lz:=λz=>by rw[z,e5 _ _ hz4]at hn;cases hn
 have held7:=b7 _ _ nhl hheld;have psTk:∀{ps:List (StG×Int)}{zs:List V},PsAt H6 ps zs->PsAt H7 ps zs:=λh=>AllR.imp (λ⟨c,sv,h1,h2,h3⟩=>⟨c,sv,h1,tk7 _ _ h2,StG.tk tk7 h3⟩) h;have hh7:AllR (LsAt H7) ts hs:=hhs.imp λ⟨l,zs,h1,h0,h2,h3⟩=>⟨l,zs,h1,b7 _ _ (λz=>by rw[z,e5 _ _ hz4]at h0;cases h0) h2,psTk h3⟩
 symm;intro r8 dr8 k1 k2 k3;refine⟨r8,dr8,_,rfl,j07,λH8 hr8 b8=>⟨rfl,?_⟩⟩;have e8:Ext H7 H8:=λb o h=>b8 b o (j08 h k1) (by rw[j0i (j08 h k1),j0i (j08 h k2)];exact h);symm;intro l9 H9 n9 q9 e9;exists⟨r8,l9,.int 0,.hire 3,.i 0,[.i 2],[.int 2],rfl,⟨dr8,e9 _ _ hr8⟩,rfl,q9,⟨rfl,trivial⟩,⟨trivial,.inl rfl,(λw hw=>⟨2,yb.mp hw⟩),by decide⟩,trivial,λfl3 vs3 ts3 H10 n10 q10 r10 tab10 e10=>?_⟩;obtain rfl:=tab10.uniq tab3;symm;intro a1 H11 m1 g1 f1;symm;intro a2 H12 m2 g2 f2;symm;intro a3 H13 m3 g3 f3;symm;intro a4 H14 m4 g4 f4;symm;intro a5 H15 m5 g5 f5;symm;intro a6 H16 m6 g6 f6;have y25:=f3.tr (f4.tr (f5.tr f6));have y16:=f1.tr (f2.tr y25);have lit:AllR (LsAt H16) [[(StG.i 0,(0:Int))],[(StG.i 0,2),(StG.i 1,3)]] [V.ref a2,V.ref a5]:=⟨⟨a2,_,rfl,y25 _ _ g2,⟨⟨a1,_,rfl,(f2.tr y25) _ _ g1,rfl⟩,trivial⟩⟩,⟨a5,_,rfl,f6 _ _ g5,⟨⟨a3,_,rfl,(f4.tr (f5.tr f6)) _ _ g3,rfl⟩,⟨a4,_,rfl,(f5.tr f6) _ _ g4,rfl⟩,trivial⟩⟩,trivial⟩
 exists j5r (d:=.lst ([[(StG.i 0,(0:Int))],[(StG.i 0,2),(StG.i 1,3)]].map tD)) (Rep.lstI (y16 _ _ q10) (jdp (r10.imp λ⟨l,zs,h1,_,h2,h3⟩=>⟨l,zs,h1,y16 _ _ h2,h3.keep y16.kp⟩))) (Rep.lstI g6 (jdp lit)) (jdq _) (jnj _) λH17 e17=>?_;have x8:=e8.tr (e9.tr (e10.tr (y16.tr e17)));have x17:=x37.tr x8;exists j0g ((e3.tr x17) _ _ hg) rfl ?_;exists⟨r,l3,sv,g,st,ws,wvs,rfl,WoP.mono (e3.tr x17) hr2,StG.mono (e3.tr x17) hst,x17 _ _ q3,hws.imp λk=>WsG.mono (e3.tr x17) k,hO,hF,λfl5 vs5 ts5 H18 n18 q18 r18 tab18 e18=>?_⟩;obtain rfl:=tab18.uniq tab;have y18:=x8.tr e18;symm;exact j5r (d:=.lst (ts5.map tD)) (Rep.lstI q18 (jdp (r18.imp λ⟨l,zs,h1,_,h2,h3⟩=>⟨l,zs,h1,h2,h3⟩))) (Rep.lstI (y18 _ _ held7) (jdp (hh7.imp λh=>h.keep y18.kp))) (jdq _) (jnj _) λH19 _=>hq H19
end
end Q
theorem PySem.Challenge.cw_lateknow_k62_table_holds : PySem.Challenge.rw_lateknow_k62_table.Holds :=
 PySem.Challenge.cw_lateknow_k62_table_pre (λK=>Q.sp_law K) (λK H a ns hl hb hS=>⟨a,ns,rfl,hS,hl,hb,λ_=>rfl⟩) (λw K mg a base T=>Q.ok_law T)
